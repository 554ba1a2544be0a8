import Derived.Test.YtehbpeinnepdcaaGreatDoorPrG31
set_option maxHeartbeats 16000000
namespace Go.Proofs.YtehbpeinnepdcaaGreatDoor
open Go.RowKit
set_option maxRecDepth 8000
set_option linter.unusedVariables false
set_option linter.unusedSimpArgs false
def Jlr (n:Int) (ts:List ByteArray) (s:ByteArray):Bool:=(Jvc s n).isSome && !(ts.any fun t=>decide (s=t))
def fgL (n:Int) (ts:List ByteArray):List ByteArray->ByteArray
 | []=>ByteArray.empty
 | s::r=>if Jlr n ts s=true then s else fgL n ts r
def qV3 (x:Wo):ByteArray:=if XLO x=true then fgL x.w x.ts x.ss else ByteArray.empty
theorem J6b {n:Int} {ts:List ByteArray} {s:ByteArray} {r:List ByteArray} (h:Jlr n ts s=false):fgL n ts (s::r)=fgL n ts r:=by rw [fgL,if_neg (by rw [h];simp)]
theorem x0q {n:Int} {ts:List ByteArray} {s:ByteArray} {r:List ByteArray} (h:Jlr n ts s=true):fgL n ts (s::r)=s:=by rw [fgL,if_pos h]
theorem yeJ {ts:List ByteArray} {s:ByteArray} (h:∀ j,j<ts.length->¬ s=ts.getD j ByteArray.empty):(ts.any fun t=>decide (s=t))=false:=by
 refine List.any_eq_false.2 fun t ht=>?_
 obtain ⟨k,hk,rfl⟩:=List.getElem_of_mem ht;have:=h k hk;simpa [List.getD,hk] using this
theorem Qj2 {ts:List ByteArray} {s:ByteArray} (j:Nat) (hj:j<ts.length) (h:s=ts.getD j ByteArray.empty):(ts.any fun t=>decide (s=t))=true:=by
 refine List.any_eq_true.2 ⟨ts.getD j ByteArray.empty,by simp [List.getD,hj],by simpa using h⟩
theorem QlI {s t:ByteArray} (h:¬ s=t):(s.toList == t.toList)=false:=by
 rw [beq_eq_false_iff_ne];intro hh;rw [ByteArray.toList_eq,ByteArray.toList_eq] at hh;exact h (ByteArray.ext (Array.toList_inj.1 hh))
theorem JXB (a:Option Addr) (ts:List ByteArray) (c:Nat) (s:ByteArray) (w:World) (h:Strs w a ts) (hl:ts.length<=1048576) :
  Calls Tryz.prog 34 #[.slice a ts.length c,.string s] w fun e w'=>(∃ r:Int,e=.returned (.int .i64 r)/\(ts.any fun t=>decide (s=t))=decide (0<=r))/\w'=w:=by
 go_enter Tryz.func34,Tryz.ntmps34;go_wp2;go_loopw [5,8] (fun _ i wr=>∃ k:Nat,k<=ts.length/\i=.int .i64 (k:Int)/\Hid (∀ j,j<k->¬ s=ts.getD j ByteArray.empty)/\wr=w) (fun _ i _=>ts.length-(intOf i).toNat)
 case atStart=>exact ⟨0,Nat.zero_le _,rfl,fun j hj=>absurd hj (by omega),by first | rfl | trivial⟩
 case round =>
  obtain ⟨k,hk,rfl,HA,rfl⟩:=hrel
  by_cases aC:k<ts.length
  ·have aD:(k:Int)<(ts.length:Int):=by omega
   obtain ⟨b,o,t,rfl,hc,HT⟩:=h.at aC
   by_cases aB:s=t
   ·have aA:=Qj2 k aC (aB.trans HT.out)
    go_wp2;go_ret
    exact ⟨⟨(k:Int),rfl,by first | (rw [aA,decide_eq_true (by omega)]) | omega | (simp [aA];done)⟩,by first | rfl | trivial⟩
   ·have aE:=QlI aB
    go_wp2;go_roundw
    case rel=>exact ⟨k+1,by omega,by go_num,fun j hj=>by
     by_cases e:j=k
     ·subst e;rw [<-HT.out];exact aB
     ·exact HA.out j (by omega),by first | rfl | trivial⟩
    case measure=>simp [intOf];omega
  ·have aD:¬ (k:Int)<(ts.length:Int):=by omega
   have aA:=yeJ (ts:=ts) (s:=s) (fun j hj=>HA.out j (by omega));go_wp2;go_ret
   exact ⟨⟨-1,rfl,by first | (rw [aA,decide_eq_false (by omega)]) | omega | (simp [aA];done)⟩,by first | rfl | trivial⟩
theorem Q8K (a:Option Addr) (ts:List ByteArray) (c:Nat) (s:ByteArray) (w:World) (h:Strs w a ts) (hl:ts.length<=1048576) :
  Calls Tryz.prog 14 #[.slice a ts.length c,.string s] w fun e w'=>e=.returned (.bool (ts.any fun t=>decide (s=t)))/\w'=w:=by
 obtain ⟨B,HB⟩:∃ B,Hid (B=(ts.any fun t=>decide (s=t))):=⟨_,hid rfl⟩;have HI:=hid (JXB a ts c s w h hl);rw [<-HB.out] at HI ⊢;go_enter Tryz.func14,Tryz.ntmps14;go_wp2_with (go_at_call 34;refine HI.out.mono ?_;rintro e w1 ⟨⟨r,rfl,hr⟩,rfl⟩);go_ret;exact ⟨by rw [hr];rfl,rfl⟩
theorem keK (x:Wo) (q:Wp) (w:World) (h:x.at w q) (hc:x.rs.length<=q.cs) (hm:x.le 1048576) (ty:TypeId) (v:Value) (hv:w.cell? ⟨1,0,none⟩=some (.iface ty v)) (h0:w.cell? ⟨0,0,none⟩=some (.iface 143 (.agg #[.pointer (some ⟨2,65,none⟩)]))) (hg:1<w.heap.size) :
  Calls Tryz.prog 5 #[Zov x q] w fun e w'=>e=.returned (.string (qV3 x))/\Below w.heap.size w w':=by
 have CV:=hid (fun w' k=>ygV x q w' k hc hm);have CR:=hid (fun s wx (hb:Below w.heap.size w wx)=>vnl s x.w wx ty v ((hb.cell (p:=⟨1,0,none⟩) hg).trans hv) ((hb.cell (p:=⟨0,0,none⟩) (by show 0<_;omega)).trans h0) (by have:=hb.size;omega));have CC:=hid (fun s wx k=>Q8K q.t x.ts q.ct s wx k hm.l5);have hE:Below w.heap.size w w:=Below.refl _ _
 cases hok:XLO x with
 | false =>
  have e:qV3 x=ByteArray.empty:=by unfold qV3;rw [if_neg (by rw [hok];simp)]
  rw [e];rw [hok] at CV;unfold Zov at CV ⊢;clear e;go_enter Tryz.func5,Tryz.ntmps5;go_wp2_with fail;obtain ⟨v1,aA⟩:∃ xw,xw=(w.alloc (.cells (wA x q) 36)):=⟨_,rfl⟩;have cC:v1.heap.size=w.heap.size+1:=by rw [aA];simp
  have hb:Below w.heap.size w v1:=by rw [aA];exact (Below.refl _ _).alloc (by exact Nat.le_refl _) _
  have aG:Row v1 (w.heap.size) (wL x q):=by rw [aA];exact (Qd8 w (wA x q) 36 (w.heap.size) (by simp))
  have bA:Dep v1 (w.heap.size) (w.heap.size+1) (fun W=>Row W (w.heap.size) (wL x q)):=xuV aG (Nat.le_refl _) (by omega) (by omega);clear aG;rw [<-aA];clear aA;have aB:=hE.trans (hb.mono hE.size);clear hE;have hE:=aB;clear aB;clear hb;refine (CV.out _ (h.below hE)).mono ?_;rintro e v2 ⟨rfl,hb⟩;have b8:v1.heap.size<=v2.heap.size:=hb.size;have aF:=bA.below hb;clear bA;have bA:=aF;clear aF;have aB:=hE.trans (hb.mono hE.size);clear hE;have hE:=aB;clear aB;clear hb;go_wp2;go_ret;exact ⟨rfl,hE⟩
 | true =>
  have cJ:0<x.ss.length:=by
   have h2:vlG x.ss x.ws=true:=by
    unfold XLO at hok;simp only [Bool.and_eq_true] at hok;exact hok.2.1
   have:=(q67 h2).1;omega
  obtain ⟨bI,aP⟩:∃ bI,Hid (bI=qV3 x):=⟨_,hid rfl⟩;have HF:Hid (fgL x.w x.ts x.ss=bI):=by show _=_;rw [aP.out];unfold qV3;rw [if_pos hok]
  rw [<-aP.out];rw [hok] at CV;have cN:=hm.l1;obtain ⟨qa,qc,bU,bV,qs,bY,qp,bW,qt,bZ⟩:=q;obtain ⟨b0,o0,cO,cE,_,_⟩:=h.h1.at cJ;simp only at cE;subst cE;unfold Zov at CV ⊢;simp only at CV CC hc ⊢;go_enter Tryz.func5,Tryz.ntmps5;go_wp2_with fail;obtain ⟨v1,aA⟩:∃ xw,xw=(w.alloc (.cells #[.int .i64 x.w,.slice (some ⟨b0,o0,none⟩) x.ss.length qc,.slice bU x.ws.length bV,.bool x.up,.int .i64 x.W,.int .i64 x.S,.int .i64 x.L,.int .i64 x.T,.int .i64 x.H,.int .i64 x.F,.int .i64 x.R,.int .i64 x.U,.int .i64 x.O,.slice qs x.rs.length bY,.slice qp x.P.length bW,.slice qt x.ts.length bZ] 36)):=⟨_,rfl⟩;have cC:v1.heap.size=w.heap.size+1:=by rw [aA];simp
  have hb:Below w.heap.size w v1:=by rw [aA];exact (Below.refl _ _).alloc (by exact Nat.le_refl _) _
  have aG:Row v1 (w.heap.size) [.int .i64 x.w,.slice (some ⟨b0,o0,none⟩) x.ss.length qc,.slice bU x.ws.length bV,.bool x.up,.int .i64 x.W,.int .i64 x.S,.int .i64 x.L,.int .i64 x.T,.int .i64 x.H,.int .i64 x.F,.int .i64 x.R,.int .i64 x.U,.int .i64 x.O,.slice qs x.rs.length bY,.slice qp x.P.length bW,.slice qt x.ts.length bZ]:=by rw [aA];exact (Qd8 w #[.int .i64 x.w,.slice (some ⟨b0,o0,none⟩) x.ss.length qc,.slice bU x.ws.length bV,.bool x.up,.int .i64 x.W,.int .i64 x.S,.int .i64 x.L,.int .i64 x.T,.int .i64 x.H,.int .i64 x.F,.int .i64 x.R,.int .i64 x.U,.int .i64 x.O,.slice qs x.rs.length bY,.slice qp x.P.length bW,.slice qt x.ts.length bZ] 36 (w.heap.size) (by simp))
  have bA:Dep v1 (w.heap.size) (w.heap.size+1) (fun W=>Row W (w.heap.size) [.int .i64 x.w,.slice (some ⟨b0,o0,none⟩) x.ss.length qc,.slice bU x.ws.length bV,.bool x.up,.int .i64 x.W,.int .i64 x.S,.int .i64 x.L,.int .i64 x.T,.int .i64 x.H,.int .i64 x.F,.int .i64 x.R,.int .i64 x.U,.int .i64 x.O,.slice qs x.rs.length bY,.slice qp x.P.length bW,.slice qt x.ts.length bZ]):=xuV aG (Nat.le_refl _) (by omega) (by omega);clear aG;rw [<-aA];clear aA;have aB:=hE.trans (hb.mono hE.size);clear hE;have hE:=aB;clear aB;clear hb;refine (CV.out _ (h.below hE)).mono ?_;rintro e v2 ⟨rfl,hb⟩;have b8:v1.heap.size<=v2.heap.size:=hb.size;have aF:=bA.below hb;clear bA;have bA:=aF;clear aF;have aB:=hE.trans (hb.mono hE.size);clear hE;have hE:=aB;clear aB;clear hb;obtain ⟨aR,aS,aT,aU,aV,aW,aX,aY,aZ,bC,aI,aJ,aK,aL,aM,aN⟩:=bA.now.k16;have bG:=bA.now.lt;go_wp2;clear aR aS aT aU aV aW aX aY aZ bC aI aJ aK aL aM aN bG;have bH:=hid bA;have HE:=hid hE
  clear bA hE aP;go_loopw [4,5,6,14] (fun _ _ _ i wr=>∃ k:Nat,k<=x.ss.length/\i=.int .i64 (k:Int)/\Hid (fgL x.w x.ts (x.ss.drop k)=bI)/\Hid (Below v2.heap.size v2 wr)) (fun _ _ _ i _=>x.ss.length-(intOf i).toNat)
  case atStart=>exact ⟨0,Nat.zero_le _,rfl,by show _=_;rw [List.drop_zero];exact HF.out,Below.refl _ _⟩
  case round =>
   obtain ⟨k,hk,rfl,HK,aC⟩:=hrel;have bQ:=HE.out.trans (aC.out.mono HE.out.size)
   by_cases cF:k<x.ss.length
   ·have cH:(k:Int)<(x.ss.length:Int):=by omega
    obtain ⟨b,o,s,he,cL,HS⟩:=(h.h1.below bQ).at cF;simp only at he
    cases he
    have HD:Hid (x.ss.drop k=s::x.ss.drop (k+1)):=by show _=_;rw [JGy x.ss k ByteArray.empty cF,<-HS.out]
    have q0:=(bH.out.below aC.out).now.cell 0 _ rfl;have cM:=(bH.out.below aC.out).now.lt;have aH:=hid bQ;clear bQ;have aO:=hid (CR.out s wr aH.out)
    cases hR:Jvc s x.w with
    | none =>
     have hf:Jlr x.w x.ts s=false:=by unfold Jlr;rw [hR];rfl
     rw [hR] at aO;unfold rpV QAw at aO;go_wp2_with (go_at_call 13;refine aO.out.mono ?_;rintro e w2 ⟨rfl,aE⟩;have aD:=hid aE;clear aE);go_roundw
     case rel=>exact ⟨k+1,by omega,by go_num,by show _=_;rw [<-HK.out,HD.out,J6b hf],aC.out.trans ((aD.out.mono aC.out.size).trans ((zE5 w2 _).mono (Nat.le_trans aC.out.size aD.out.size)))⟩
     case measure=>simp [intOf];omega
    | some pg =>
     rw [hR] at aO;obtain ⟨pk,pl,pm,pp⟩:=pg;unfold rpV QAw at aO;simp only at aO;obtain ⟨B,hB⟩:∃ B,(x.ts.any fun t=>decide (s=t))=B:=⟨_,rfl⟩;have b7:=hid (fun wx k=>CC.out s wx k);rw [hB] at b7
     cases B with
     | true =>
      have hf:Jlr x.w x.ts s=false:=by unfold Jlr;rw [hR,hB];rfl
      go_wp2_with (first | (go_at_call 13;refine aO.out.mono ?_;rintro e w2 ⟨rfl,aE⟩;have cK:=((bH.out.below aC.out).below aE).now.cell 15 _ rfl;have cI:=((bH.out.below aC.out).below aE).now.lt;have aD:=hid aE;clear aE) | (go_at_call 14;refine (b7.out _ (h.h5.below (aH.out.trans ((aD.out.mono aH.out.size).trans ((zE5 w2 _).mono (Nat.le_trans aH.out.size aD.out.size)))))).mono ?_;rintro e wz ⟨rfl,bJ⟩;rw [bJ];clear bJ wz))
      go_roundw
      case rel=>exact ⟨k+1,by omega,by go_num,by show _=_;rw [<-HK.out,HD.out,J6b hf],aC.out.trans ((aD.out.mono aC.out.size).trans ((zE5 w2 _).mono (Nat.le_trans aC.out.size aD.out.size)))⟩
      case measure=>simp [intOf];omega
     | false =>
      have hf:Jlr x.w x.ts s=true:=by unfold Jlr;rw [hR,hB];rfl
      have aQ:bI=s:=by rw [<-HK.out,HD.out,x0q hf]
      go_wp2_with (first | (go_at_call 13;refine aO.out.mono ?_;rintro e w2 ⟨rfl,aE⟩;have cK:=((bH.out.below aC.out).below aE).now.cell 15 _ rfl;have cI:=((bH.out.below aC.out).below aE).now.lt;have aD:=hid aE;clear aE) | (go_at_call 14;refine (b7.out _ (h.h5.below (aH.out.trans ((aD.out.mono aH.out.size).trans ((zE5 w2 _).mono (Nat.le_trans aH.out.size aD.out.size)))))).mono ?_;rintro e wz ⟨rfl,bJ⟩;rw [bJ];clear bJ wz))
      go_ret
      exact ⟨by first | rfl | (rw [aQ];rfl),aH.out.trans ((aD.out.mono aH.out.size).trans ((zE5 w2 _).mono (Nat.le_trans aH.out.size aD.out.size)))⟩
   ·have cH:¬ (k:Int)<(x.ss.length:Int):=by omega
    have aQ:bI=ByteArray.empty:=by rw [<-HK.out,List.drop_of_length_le (by omega)];rfl
    go_wp2;go_ret
    exact ⟨by first | rfl | (rw [aQ];rfl),bQ⟩
theorem yw6 (x:Wo) (q:Wp) (w:World) (h:x.at w q) (hm:x.le 1048576) :
  Calls Tryz.prog 6 #[Zov x q] w fun e w'=>e=.returned (.string (qV3 x))/\Below w.heap.size w w':=by
 have CV:=hid (fun w' k=>zSf x q w' k hm);have CR:=hid (fun s wx (hs:s.size<=1048576)=>kfv s x.w wx hs);have hE:Below w.heap.size w w:=Below.refl _ _;have dH:=hm.l1;have dJ:=hm.l5;unfold Zov at CV ⊢
 cases hok:XLO x with
 | false =>
  have e:qV3 x=ByteArray.empty:=by unfold qV3;rw [if_neg (by rw [hok];simp)]
  rw [e];rw [hok] at CV;clear e;go_enter Tryz.func6,Tryz.ntmps6;go_wp2_with fail;obtain ⟨v1,aA⟩:∃ xw,xw=(w.alloc (.cells (wA x q) 36)):=⟨_,rfl⟩;have b8:v1.heap.size=w.heap.size+1:=by rw [aA];simp
  have hb:Below w.heap.size w v1:=by rw [aA];exact (Below.refl _ _).alloc (by exact Nat.le_refl _) _
  have aE:Row v1 (w.heap.size) (wL x q):=by rw [aA];exact (Qd8 w (wA x q) 36 (w.heap.size) (by simp))
  have bA:Dep v1 (w.heap.size) (w.heap.size+1) (fun W=>Row W (w.heap.size) (wL x q)):=xuV aE (Nat.le_refl _) (by omega) (by omega);clear aE;rw [<-aA];clear aA;have aB:=hE.trans (hb.mono hE.size);clear hE;have hE:=aB;clear aB;clear hb;refine (CV.out _ (h.below hE)).mono ?_;rintro e v2 ⟨rfl,hb⟩;have b7:v1.heap.size<=v2.heap.size:=hb.size;have aD:=bA.below hb;clear bA;have bA:=aD;clear aD;have aB:=hE.trans (hb.mono hE.size);clear hE;have hE:=aB;clear aB;clear hb;go_wp2;go_ret;exact ⟨rfl,hE⟩
 | true =>
  obtain ⟨bG,aL⟩:∃ bG,Hid (bG=qV3 x):=⟨_,hid rfl⟩;have HF:Hid (fgL x.w x.ts x.ss=bG):=by show _=_;rw [aL.out];unfold qV3;rw [if_pos hok]
  rw [<-aL.out];rw [hok] at CV;go_enter Tryz.func6,Tryz.ntmps6;go_wp2_with fail;obtain ⟨v1,aA⟩:∃ xw,xw=(w.alloc (.cells (wA x q) 36)):=⟨_,rfl⟩;have b8:v1.heap.size=w.heap.size+1:=by rw [aA];simp
  have hb:Below w.heap.size w v1:=by rw [aA];exact (Below.refl _ _).alloc (by exact Nat.le_refl _) _
  have aE:Row v1 (w.heap.size) (wL x q):=by rw [aA];exact (Qd8 w (wA x q) 36 (w.heap.size) (by simp))
  have bA:Dep v1 (w.heap.size) (w.heap.size+1) (fun W=>Row W (w.heap.size) (wL x q)):=xuV aE (Nat.le_refl _) (by omega) (by omega);clear aE;rw [<-aA];clear aA;have aB:=hE.trans (hb.mono hE.size);clear hE;have hE:=aB;clear aB;clear hb;refine (CV.out _ (h.below hE)).mono ?_;rintro e v2 ⟨rfl,hb⟩;have b7:v1.heap.size<=v2.heap.size:=hb.size;have aD:=bA.below hb;clear bA;have bA:=aD;clear aD;have aB:=hE.trans (hb.mono hE.size);clear hE;have hE:=aB;clear aB;clear hb;obtain ⟨aO,aP,aQ,aR,aS,aT,aU,aV,aW,aX,aF,aG,aH,aI,aJ,aK⟩:=bA.now.k16;have aY:=bA.now.lt;go_wp2;clear aO aP aQ aR aS aT aU aV aW aX aF aG aH aI aJ aK aY;have bC:=hid bA;have HE:=hid hE;clear bA hE aL;go_loopw [3,4,5,6,7] (fun i _ _ _ _ wr=>∃ k:Nat,k<=x.ss.length/\i=.int .i64 (k:Int)/\Hid (fgL x.w x.ts (x.ss.drop k)=bG)/\Hid (Below v2.heap.size v2 wr)) (fun i _ _ _ _ _=>x.ss.length-(intOf i).toNat)
  case atStart=>exact ⟨0,Nat.zero_le _,rfl,by show _=_;rw [List.drop_zero];exact HF.out,Below.refl _ _⟩
  case round =>
   obtain ⟨k,hk,rfl,HK,aC⟩:=hrel;have bQ:=HE.out.trans (aC.out.mono HE.out.size);have q1:=(bC.out.below aC.out).now.cell 1 _ rfl;have dE:=(bC.out.below aC.out).now.lt
   by_cases bY:k<x.ss.length
   ·have cT:(k:Int)<(x.ss.length:Int):=by omega
    obtain ⟨b,o,s,he,cS,HS⟩:=(h.h1.below bQ).at bY;rw [he] at q1;clear he;have cU:=hm.s1 s (by rw [HS.out];simp [List.getD,bY]);have HD:Hid (x.ss.drop k=s::x.ss.drop (k+1)):=by show _=_;rw [JGy x.ss k ByteArray.empty bY,<-HS.out]
    have q0:=(bC.out.below aC.out).now.cell 0 _ rfl;have cC:=hid bQ;clear bQ;have bJ:=hid (CR.out s wr cU);obtain ⟨R,hR⟩:∃ R,Jvc s x.w=R:=⟨_,rfl⟩;rw [hR] at bJ
    obtain ⟨pk,pl,pm,pp,B,hV,bV⟩:∃ pk pl pm pp B,rpV R=.tuple #[QAw pk pl pm pp,.bool B]/\B=R.isSome:=by
     cases R with
     | none=>exact ⟨_,_,_,_,_,rfl,rfl⟩
     | some y=>obtain ⟨k,l,m,p⟩:=y;exact ⟨_,_,_,_,_,rfl,rfl⟩
    rw [hV] at bJ;unfold QAw at bJ;go_wp2_with (go_at_call 8;refine bJ.out.mono ?_;rintro e w2 ⟨rfl,cF⟩;have bU:=hid cF;clear cF);obtain ⟨w3,aM⟩:∃ xw,xw=w2.alloc (.cells #[.int .i64 pk,.int .i64 pl,.int .i64 pm,.string pp] 41):=⟨_,rfl⟩;rw [<-aM];have aZ:Hid (Below wr.heap.size wr w3):=by rw [aM];exact bU.out.trans ((zE5 w2 _).mono bU.out.size)
    clear aM bU q0 q1 cS;have cW:=((bC.out.below aC.out).below aZ.out).now.cell 15 _ rfl;have q1:=((bC.out.below aC.out).below aZ.out).now.cell 1 _ rfl;have dI:=((bC.out.below aC.out).below aZ.out).now.lt;have cE:=cC.out.trans (aZ.out.mono cC.out.size);go_loopw [6,7] (fun ok j w5=>∃ (n:Nat) (C:Bool),n<=x.ts.length/\j=.int .i64 (n:Int)/\ok=.bool C/\Hid ((C=true/\R.isSome=true/\∀ i,i<n->¬ s=x.ts.getD i ByteArray.empty)\/(C=false/\Jlr x.w x.ts s=false))/\Hid (w5=w3)) (fun _ j _=>x.ts.length-(intOf j).toNat)
    case atStart =>
     refine ⟨0,B,Nat.zero_le _,rfl,by first | rfl | (rw [bV]),?_,by first | rfl | trivial⟩
     cases B with
     | true=>exact .inl ⟨rfl,bV.symm,fun i hi=>absurd hi (by omega)⟩
     | false=>exact .inr ⟨rfl,by unfold Jlr;rw [hR,<-bV];rfl⟩
    case round =>
     obtain ⟨n,C,hn,rfl,rfl,HC,cN⟩:=hrel;have cV:=cN.out;subst cV
     by_cases bH:n<x.ts.length/\C=true
     ·obtain ⟨cI,rfl⟩:=bH
      have cJ:(n:Int)<(x.ts.length:Int):=by omega
      obtain ⟨bt,ot,t,cK,cZ,HT⟩:=(h.h5.below cE).at cI;rw [cK] at cW;clear cK;rcases HC.out with ⟨_,cP,cQ⟩ | ⟨cO,_⟩
      rotate_left
      ·cases cO
      by_cases bI:t=s
      ·have cH:Jlr x.w x.ts s=false:=by unfold Jlr;rw [Qj2 n cI (by rw [<-HT.out];exact bI.symm)];simp
       have cM:=hid cH;clear cH;go_wp2;go_roundw
       case rel=>exact ⟨n+1,false,by omega,by go_num,by first | rfl | simp [bI],.inr ⟨rfl,cM.out⟩,by first | rfl | trivial⟩
       case measure=>simp [intOf];omega
      ·have cY:=QlI bI
       have cL:Hid (∀ i,i<n+1->¬ s=x.ts.getD i ByteArray.empty):=fun i hi=>by
        by_cases e:i=n
        ·subst e;rw [<-HT.out];exact fun e=>bI e.symm
        ·exact cQ i (by omega)
       go_wp2;go_roundw
       case rel=>exact ⟨n+1,true,by omega,by go_num,by first | rfl | simp [bI],.inl ⟨rfl,cP,cL.out⟩,by first | rfl | trivial⟩
       case measure=>simp [intOf];omega
     ·have bW:Hid (Jlr x.w x.ts s=C):=by
       rcases HC.out with ⟨rfl,h1,h2⟩ | ⟨rfl,h1⟩
       ·have dK:¬ n<x.ts.length:=fun hh=>bH ⟨hh,rfl⟩
        show _=_;unfold Jlr;rw [hR,h1,yeJ (fun j hj=>h2 j (by omega))];rfl
       ·exact h1
      clear HC
      have bZ:∀ (P:Prop),(¬ n<x.ts.length->P)->(n<x.ts.length->C=false->P)->P:=fun P a1 a2=>by
       by_cases h1:n<x.ts.length
       ·cases C with
        | true=>exact absurd ⟨h1,rfl⟩ bH
        | false=>exact a2 h1 rfl
       ·exact a1 h1
      refine bZ _ (fun h1=>?_) (fun h1 h2=>?_)
      ·have cJ:¬ (n:Int)<(x.ts.length:Int):=by omega
       clear bH bZ
       cases C with
       | true =>
        have aN:bG=s:=by rw [<-HK.out,HD.out,x0q bW.out]
        go_wp2;go_ret
        exact ⟨by first | rfl | (rw [aN];rfl),cE⟩
       | false =>
        go_wp2;go_roundw
        case rel=>exact ⟨k+1,by omega,by go_num,by show _=_;rw [<-HK.out,HD.out,J6b bW.out],aC.out.trans (aZ.out.mono aC.out.size)⟩
        case measure=>simp [intOf];omega
      ·have cJ:(n:Int)<(x.ts.length:Int):=by omega
       subst h2;clear bH bZ;go_wp2;go_roundw
       case rel=>exact ⟨k+1,by omega,by go_num,by show _=_;rw [<-HK.out,HD.out,J6b bW.out],aC.out.trans (aZ.out.mono aC.out.size)⟩
       case measure=>simp [intOf];omega
   ·have cT:¬ (k:Int)<(x.ss.length:Int):=by omega
    have aN:bG=ByteArray.empty:=by rw [<-HK.out,List.drop_of_length_le (by omega)];rfl
    go_wp2;go_ret
    exact ⟨by first | rfl | (rw [aN];rfl),bQ⟩
end Go.Proofs.YtehbpeinnepdcaaGreatDoor
