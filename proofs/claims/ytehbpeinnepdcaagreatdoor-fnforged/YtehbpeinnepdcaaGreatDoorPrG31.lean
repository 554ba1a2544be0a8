import Derived.Test.YtehbpeinnepdcaaGreatDoorPrWoE
import Derived.Test.YtehbpeinnepdcaaGreatDoorPrWdS
import Derived.Test.YtehbpeinnepdcaaGreatDoorPrPfS
set_option maxHeartbeats 16000000
set_option maxRecDepth 8000
set_option linter.unusedVariables false
set_option linter.unusedSimpArgs false
namespace Go.Proofs.YtehbpeinnepdcaaGreatDoor
open Go.RowKit
theorem jjk {P:List (List (ByteArray×ByteArray))} (k:Nat) (hk:k<P.length) (hx:z0q (P.getD k [])=false):yel P=false:=by
 unfold yel;have:P.all z0q=false:=List.all_eq_false.2 ⟨P.getD k [],by simp [List.getD,hk],by rw [hx];simp⟩;rw [this,Bool.and_false]
theorem vOe {P:List (List (ByteArray×ByteArray))} (h:1<=P.length/\P.length<=200) (hx:∀ k,k<P.length->z0q (P.getD k [])=true):yel P=true:=by
 unfold yel;rw [decide_eq_true h,Bool.true_and]
 refine List.all_eq_true.2 fun rs hr=>?_
 obtain ⟨k,hk,rfl⟩:=List.getElem_of_mem hr;have:=hx k hk;simpa [List.getD,hk] using this
theorem jfW {ts:List ByteArray} (k:Nat) (hk:k<ts.length) (hx:¬ (ts.getD k ByteArray.empty).size=64):qCR ts=false:=by
 unfold qCR;have:(ts.all fun s=>decide (s.size=64))=false:=List.all_eq_false.2 ⟨ts.getD k ByteArray.empty,by simp [List.getD,hk],by simpa using hx⟩;rw [this,Bool.and_false]
theorem v0r {ts:List ByteArray} (h:ts.length<=2000) (hx:∀ k,k<ts.length->(ts.getD k ByteArray.empty).size=64):qCR ts=true:=by
 unfold qCR;rw [decide_eq_true h,Bool.true_and]
 refine List.all_eq_true.2 fun s hr=>?_
 obtain ⟨k,hk,rfl⟩:=List.getElem_of_mem hr;have:=hx k hk;simpa [List.getD,hk] using this
theorem zBB {x:Wo} (h:decide (1<=x.w/\x.w<=8)=false):XLO x=false:=by unfold XLO;rw [h];rfl
theorem Z7z {x:Wo} (h:vlG x.ss x.ws=false):XLO x=false:=by unfold XLO;rw [h];simp
theorem Zzx {x:Wo} (h:v7c x=false):XLO x=false:=by unfold XLO;rw [h];simp
theorem z0I {x:Wo} (h:yel x.P=false):XLO x=false:=by unfold XLO;rw [h];simp
theorem Jlw {x:Wo} (h:qCR x.ts=false):XLO x=false:=by unfold XLO;rw [h];simp
theorem zlO {x:Wo} (h1:decide (1<=x.w/\x.w<=8)=true) (h2:vlG x.ss x.ws=true) (h3:v7c x=true) (h4:yel x.P=true) (h5:qCR x.ts=true):XLO x=true:=by unfold XLO;rw [h1,h2,h3,h4,h5];rfl
theorem z45 {x:Wo} (hu:x.up=true):v7c x=(jWr x.W x.S x.L x.T x.H x.F x.R x.U x.O x.rs && decide (x.W=x.w/\x.S=(x.ss.length:Int))):=by unfold v7c;rw [if_pos hu]
theorem x2g {x:Wo} (hu:x.up=false):v7c x=Xbr x:=by unfold v7c;rw [if_neg (by rw [hu];simp)]
theorem zSf (x:Wo) (q:Wp) (w:World) (h:x.at w q) (hm:x.le 1048576) :
  Calls Tryz.prog 7 #[Zov x q] w fun e w'=>e=.returned (.bool (XLO x))/\Below w.heap.size w w':=by
 have cW:=hm.l4;have cY:=hm.l5;have cV:=hm.l1;obtain ⟨d1,cE⟩:∃ d,decide (1<=x.w/\x.w<=8)=d:=⟨_,rfl⟩;obtain ⟨d2,cF⟩:∃ d,vlG x.ss x.ws=d:=⟨_,rfl⟩;obtain ⟨d4,cK⟩:∃ d,decide ((1:Int)<=(x.P.length:Int)/\(x.P.length:Int)<=200)=d:=⟨_,rfl⟩;obtain ⟨ds,bZ⟩:∃ d,jWr x.W x.S x.L x.T x.H x.F x.R x.U x.O x.rs=d:=⟨_,rfl⟩;obtain ⟨dn,cL⟩:∃ d,Xbr x=d:=⟨_,rfl⟩;have C1:=hid (X3C x.w);have C2:=hid (fun w' k1 k2=>xpE q.a x.ss q.c q.a' x.ws q.c' w' k1 k2 hm.l1 hm.l2 hm.s1 hm.s2);have C4:=hid (fun w'=>Jr0 (x.P.length:Int) 1 200 d4 cK w');have CN:=hid (fun w'=>jpY x q w' hm.l3);have CV:=hid (fun w' k=>ZHK x.W x.S x.L x.T x.H x.F x.R x.U x.O q.s x.rs q.cs w' k hm.l3 hm.s3);unfold QPD at CN CV;rw [cE] at C1;rw [cF] at C2;rw [bZ] at CV;rw [cL] at CN;unfold Zov;have hE:Below w.heap.size w w:=Below.refl _ _
 cases d1 with
 | false =>
  rw [zBB cE];go_enter Tryz.func7,Tryz.ntmps7;go_wp2_with fail;generalize aR:w.alloc _=v1;obtain ⟨hb,aT,bA⟩:=bx1 aR;clear aR;replace hE:=hE.trans (hb.mono hE.size);clear hb;refine (C1.out _).mono ?_;rintro e wz ⟨rfl,aS⟩;rw [aS];clear aS wz;obtain ⟨aG,aH,aI,aJ,aK,aL,aM,aN,aO,aP,aA,aB,aC,aD,aE,aF,aQ⟩:=c16 bA.now;go_wp2;go_ret;exact ⟨rfl,hE⟩
 | true =>
 cases d2 with
 | false =>
  rw [Z7z cF];go_enter Tryz.func7,Tryz.ntmps7;go_wp2_with fail;generalize aR:w.alloc _=v1;obtain ⟨hb,aT,bA⟩:=bx1 aR;clear aR;replace hE:=hE.trans (hb.mono hE.size);clear hb;refine (C1.out _).mono ?_;rintro e wz ⟨rfl,aS⟩;rw [aS];clear aS wz;obtain ⟨aG,aH,aI,aJ,aK,aL,aM,aN,aO,aP,aA,aB,aC,aD,aE,aF,aQ⟩:=c16 bA.now;go_wp2_with fail;clear aG aH aI aJ aK aL aM aN aO aP aA aB aC aD aE aF aQ;refine (C2.out _ (h.h1.below hE) (h.h2.below hE)).mono ?_;rintro e v2 ⟨rfl,hb⟩;have aU:v1.heap.size<=v2.heap.size:=hb.size;replace bA:=bA.below hb;replace hE:=hE.trans (hb.mono hE.size);clear hb;obtain ⟨aG,aH,aI,aJ,aK,aL,aM,aN,aO,aP,aA,aB,aC,aD,aE,aF,aQ⟩:=c16 bA.now;go_wp2;go_ret;exact ⟨rfl,hE⟩
 | true =>
 cases d4 with
 | false =>
  rw [z0I (by unfold yel;rw [decide_eq_false (fun k=>of_decide_eq_false cK ⟨by omega,by omega⟩)];rfl)];go_enter Tryz.func7,Tryz.ntmps7;go_wp2_with fail;generalize aR:w.alloc _=v1;obtain ⟨hb,aT,bA⟩:=bx1 aR;clear aR;replace hE:=hE.trans (hb.mono hE.size);clear hb;refine (C1.out _).mono ?_;rintro e wz ⟨rfl,aS⟩;rw [aS];clear aS wz;obtain ⟨aG,aH,aI,aJ,aK,aL,aM,aN,aO,aP,aA,aB,aC,aD,aE,aF,aQ⟩:=c16 bA.now;go_wp2_with fail;clear aG aH aI aJ aK aL aM aN aO aP aA aB aC aD aE aF aQ;refine (C2.out _ (h.h1.below hE) (h.h2.below hE)).mono ?_;rintro e v2 ⟨rfl,hb⟩;have aU:v1.heap.size<=v2.heap.size:=hb.size;replace bA:=bA.below hb;replace hE:=hE.trans (hb.mono hE.size);clear hb;obtain ⟨aG,aH,aI,aJ,aK,aL,aM,aN,aO,aP,aA,aB,aC,aD,aE,aF,aQ⟩:=c16 bA.now;go_wp2_with fail;clear aG aH aI aJ aK aL aM aN aO aP aA aB aC aD aE aF aQ;refine (C4.out _).mono ?_;rintro e wz ⟨rfl,aS⟩;rw [aS];clear aS wz;obtain ⟨aG,aH,aI,aJ,aK,aL,aM,aN,aO,aP,aA,aB,aC,aD,aE,aF,aQ⟩:=c16 bA.now
  go_wp2;go_ret;exact ⟨rfl,hE⟩
 | true =>
 have hP:1<=x.P.length/\x.P.length<=200:=by have:=of_decide_eq_true cK;omega
 by_cases cU:2000<x.ts.length
 ·rw [Jlw (by unfold qCR;rw [decide_eq_false (by omega)];rfl)]
  have cI:(2000:Int)<(x.ts.length:Int):=by omega
  go_enter Tryz.func7,Tryz.ntmps7;go_wp2_with fail;generalize aR:w.alloc _=v1;obtain ⟨hb,aT,bA⟩:=bx1 aR;clear aR;replace hE:=hE.trans (hb.mono hE.size);clear hb;refine (C1.out _).mono ?_;rintro e wz ⟨rfl,aS⟩;rw [aS];clear aS wz;obtain ⟨aG,aH,aI,aJ,aK,aL,aM,aN,aO,aP,aA,aB,aC,aD,aE,aF,aQ⟩:=c16 bA.now;go_wp2_with fail;clear aG aH aI aJ aK aL aM aN aO aP aA aB aC aD aE aF aQ;refine (C2.out _ (h.h1.below hE) (h.h2.below hE)).mono ?_;rintro e v2 ⟨rfl,hb⟩;have aU:v1.heap.size<=v2.heap.size:=hb.size;replace bA:=bA.below hb;replace hE:=hE.trans (hb.mono hE.size);clear hb;obtain ⟨aG,aH,aI,aJ,aK,aL,aM,aN,aO,aP,aA,aB,aC,aD,aE,aF,aQ⟩:=c16 bA.now;go_wp2_with fail;clear aG aH aI aJ aK aL aM aN aO aP aA aB aC aD aE aF aQ;refine (C4.out _).mono ?_;rintro e wz ⟨rfl,aS⟩;rw [aS];clear aS wz;obtain ⟨aG,aH,aI,aJ,aK,aL,aM,aN,aO,aP,aA,aB,aC,aD,aE,aF,aQ⟩:=c16 bA.now;go_wp2;go_ret;exact ⟨rfl,hE⟩
 have cI:¬ (2000:Int)<(x.ts.length:Int):=by omega
 cases hup:x.up with
 | false =>
  cases dn with
  | false =>
   rw [Zzx (by rw [x2g hup];exact cL)];go_enter Tryz.func7,Tryz.ntmps7;go_wp2_with fail;generalize aR:w.alloc _=v1;obtain ⟨hb,aT,bA⟩:=bx1 aR;clear aR;replace hE:=hE.trans (hb.mono hE.size);clear hb;refine (C1.out _).mono ?_;rintro e wz ⟨rfl,aS⟩;rw [aS];clear aS wz;obtain ⟨aG,aH,aI,aJ,aK,aL,aM,aN,aO,aP,aA,aB,aC,aD,aE,aF,aQ⟩:=c16 bA.now;go_wp2_with fail;clear aG aH aI aJ aK aL aM aN aO aP aA aB aC aD aE aF aQ;refine (C2.out _ (h.h1.below hE) (h.h2.below hE)).mono ?_;rintro e v2 ⟨rfl,hb⟩;have aU:v1.heap.size<=v2.heap.size:=hb.size;replace bA:=bA.below hb;replace hE:=hE.trans (hb.mono hE.size);clear hb;obtain ⟨aG,aH,aI,aJ,aK,aL,aM,aN,aO,aP,aA,aB,aC,aD,aE,aF,aQ⟩:=c16 bA.now;go_wp2_with fail;clear aG aH aI aJ aK aL aM aN aO aP aA aB aC aD aE aF aQ;refine (C4.out _).mono ?_;rintro e wz ⟨rfl,aS⟩;rw [aS];clear aS wz;obtain ⟨aG,aH,aI,aJ,aK,aL,aM,aN,aO,aP,aA,aB,aC,aD,aE,aF,aQ⟩:=c16 bA.now;go_wp2_with fail;clear aG aH aI aJ aK aL aM aN aO aP aA aB aC aD aE aF aQ
   refine (CN.out _).mono ?_;rintro e v3 ⟨rfl,hb⟩;have aZ:v2.heap.size<=v3.heap.size:=hb.size;replace bA:=bA.below hb;replace hE:=hE.trans (hb.mono hE.size);clear hb;obtain ⟨aG,aH,aI,aJ,aK,aL,aM,aN,aO,aP,aA,aB,aC,aD,aE,aF,aQ⟩:=c16 bA.now;go_wp2;go_ret;exact ⟨rfl,hE⟩
  | true =>
   have bQ:v7c x=true:=by rw [x2g hup];exact cL
   go_enter Tryz.func7,Tryz.ntmps7;go_wp2_with fail;generalize aR:w.alloc _=v1;obtain ⟨hb,aT,bA⟩:=bx1 aR;clear aR;replace hE:=hE.trans (hb.mono hE.size);clear hb;refine (C1.out _).mono ?_;rintro e wz ⟨rfl,aS⟩;rw [aS];clear aS wz;obtain ⟨aG,aH,aI,aJ,aK,aL,aM,aN,aO,aP,aA,aB,aC,aD,aE,aF,aQ⟩:=c16 bA.now;go_wp2_with fail;clear aG aH aI aJ aK aL aM aN aO aP aA aB aC aD aE aF aQ;refine (C2.out _ (h.h1.below hE) (h.h2.below hE)).mono ?_;rintro e v2 ⟨rfl,hb⟩;have aU:v1.heap.size<=v2.heap.size:=hb.size;replace bA:=bA.below hb;replace hE:=hE.trans (hb.mono hE.size);clear hb;obtain ⟨aG,aH,aI,aJ,aK,aL,aM,aN,aO,aP,aA,aB,aC,aD,aE,aF,aQ⟩:=c16 bA.now;go_wp2_with fail;clear aG aH aI aJ aK aL aM aN aO aP aA aB aC aD aE aF aQ;refine (C4.out _).mono ?_;rintro e wz ⟨rfl,aS⟩;rw [aS];clear aS wz;obtain ⟨aG,aH,aI,aJ,aK,aL,aM,aN,aO,aP,aA,aB,aC,aD,aE,aF,aQ⟩:=c16 bA.now;go_wp2_with fail;clear aG aH aI aJ aK aL aM aN aO aP aA aB aC aD aE aF aQ;refine (CN.out _).mono ?_
   rintro e v3 ⟨rfl,hb⟩;have aZ:v2.heap.size<=v3.heap.size:=hb.size;replace bA:=bA.below hb;replace hE:=hE.trans (hb.mono hE.size);clear hb;have bG:=hid bA;obtain ⟨aG,aH,aI,aJ,aK,aL,aM,aN,aO,aP,aA,aB,aC,aD,aE,aF,aQ⟩:=c16 bA.now;go_wp2;clear aG aH aI aJ aK aL aM aN aO aP aA aB aC aD aE aF aQ;go_loopw [3] (fun i wr=>∃ k:Nat,k<=x.P.length/\i=.int .i64 (k:Int)/\Hid (∀ j,j<k->z0q (x.P.getD j [])=true)/\Hid (Below v3.heap.size v3 wr)) (fun i _=>x.P.length-(intOf i).toNat)
   case atStart=>exact ⟨0,Nat.zero_le _,rfl,fun j hj=>absurd hj (by omega),Below.refl _ _⟩
   case round =>
    obtain ⟨k,hk,rfl,HA,aW⟩:=hrel;have aX:=hE.trans (aW.out.mono hE.size)
    by_cases bV:k<x.P.length
    ·have cM:(k:Int)<(x.P.length:Int):=by omega
     obtain ⟨b,o,p,cp,b7,cQ,cJ,HP⟩:=(h.h4.below aX).at bV;obtain ⟨rs,bC⟩:∃ rs,Hid (rs=x.P.getD k []):=⟨_,hid rfl⟩;rw [<-bC.out] at cJ HP;have aY:rs∈x.P:=by rw [bC.out];simp [List.getD,bV]
     have HV:=hid (yPv p rs cp wr HP.out (hm.s4 rs aY).1 (hm.s4 rs aY).2);have cC:=(bG.out.below aW.out).now.cell 14 _ rfl;rw [b7] at cC;clear b7
     cases hst:z0q rs with
     | false =>
      rw [hst] at HV;have e:=z0I (x:=x) (jjk k bV (by rw [<-bC.out];exact hst));go_wp2_with (go_at_call 20;refine HV.out.mono ?_;rintro e w2 ⟨rfl,bJ⟩);go_ret
      exact ⟨by first | rfl | (rw [e];rfl),aX.trans (bJ.mono aX.size)⟩
     | true =>
      rw [hst] at HV;go_wp2_with (go_at_call 20;refine HV.out.mono ?_;rintro e w2 ⟨rfl,bJ⟩);go_roundw
      case rel=>exact ⟨k+1,by omega,by go_num,fun j hj=>by
       by_cases e:j=k
       ·subst e;rw [<-bC.out];exact hst
       ·exact HA.out j (by omega),aW.out.trans (bJ.mono aW.out.size)⟩
      case measure=>simp [intOf];omega
    ·have cM:¬ (k:Int)<(x.P.length:Int):=by omega
     have cN:=vOe hP (fun j hj=>HA.out j (by omega));have cC:=(bG.out.below aW.out).now.cell 14 _ rfl;go_wp2;go_loopw [4] (fun i w5=>∃ k:Nat,k<=x.ts.length/\i=.int .i64 (k:Int)/\Hid (∀ j,j<k->(x.ts.getD j ByteArray.empty).size=64)/\w5=wr) (fun i _=>x.ts.length-(intOf i).toNat)
     case atStart=>exact ⟨0,Nat.zero_le _,rfl,fun j hj=>absurd hj (by omega),by first | rfl | trivial⟩
     case round =>
      obtain ⟨k5,cS,rfl,bW,cO⟩:=hrel;subst cO;have cP:=(bG.out.below aW.out).now.cell 15 _ rfl
      by_cases aV:k5<x.ts.length
      ·have bU:(k5:Int)<(x.ts.length:Int):=by omega
       obtain ⟨b,o,s,b8,hc,HS⟩:=(h.h5.below aX).at aV;rw [b8] at cP;clear b8;have cT:=hm.s5 s (by rw [HS.out];simp [List.getD,aV])
       by_cases bY:s.size=64
       ·have bI:(s.size:Int)=64:=by omega
        go_wp2;go_roundw
        case rel=>exact ⟨k5+1,by omega,by go_num,fun j hj=>by
         by_cases e:j=k5
         ·subst e;rw [<-HS.out];exact bY
         ·exact bW.out j (by omega),by first | rfl | trivial⟩
        case measure=>simp [intOf];omega
       ·have bI:¬ (s.size:Int)=64:=by omega
        have e:=Jlw (x:=x) (jfW k5 aV (by rw [<-HS.out];exact bY));go_wp2;go_ret
        exact ⟨by first | rfl | (rw [e];rfl),aX⟩
      ·have bU:¬ (k5:Int)<(x.ts.length:Int):=by omega
       have e:=zlO cE cF bQ cN (v0r (by omega) (fun j hj=>bW.out j (by omega)));go_wp2;go_ret
       exact ⟨by first | rfl | (rw [e];rfl),aX⟩
 | true =>
  cases ds with
  | false =>
   rw [Zzx (by rw [z45 hup,bZ];rfl)];go_enter Tryz.func7,Tryz.ntmps7;go_wp2_with fail;generalize aR:w.alloc _=v1;obtain ⟨hb,aT,bA⟩:=bx1 aR;clear aR;replace hE:=hE.trans (hb.mono hE.size);clear hb;refine (C1.out _).mono ?_;rintro e wz ⟨rfl,aS⟩;rw [aS];clear aS wz;obtain ⟨aG,aH,aI,aJ,aK,aL,aM,aN,aO,aP,aA,aB,aC,aD,aE,aF,aQ⟩:=c16 bA.now;go_wp2_with fail;clear aG aH aI aJ aK aL aM aN aO aP aA aB aC aD aE aF aQ;refine (C2.out _ (h.h1.below hE) (h.h2.below hE)).mono ?_;rintro e v2 ⟨rfl,hb⟩;have aU:v1.heap.size<=v2.heap.size:=hb.size;replace bA:=bA.below hb;replace hE:=hE.trans (hb.mono hE.size);clear hb;obtain ⟨aG,aH,aI,aJ,aK,aL,aM,aN,aO,aP,aA,aB,aC,aD,aE,aF,aQ⟩:=c16 bA.now;go_wp2_with fail;clear aG aH aI aJ aK aL aM aN aO aP aA aB aC aD aE aF aQ;refine (C4.out _).mono ?_;rintro e wz ⟨rfl,aS⟩;rw [aS];clear aS wz;obtain ⟨aG,aH,aI,aJ,aK,aL,aM,aN,aO,aP,aA,aB,aC,aD,aE,aF,aQ⟩:=c16 bA.now;go_wp2_with fail;clear aG aH aI aJ aK aL aM aN aO aP aA aB aC aD aE aF aQ
   refine (CV.out _ (h.h3.below hE)).mono ?_;rintro e v3 ⟨rfl,hb⟩;have aZ:v2.heap.size<=v3.heap.size:=hb.size;replace bA:=bA.below hb;replace hE:=hE.trans (hb.mono hE.size);clear hb;obtain ⟨aG,aH,aI,aJ,aK,aL,aM,aN,aO,aP,aA,aB,aC,aD,aE,aF,aQ⟩:=c16 bA.now;go_wp2;go_ret;exact ⟨rfl,hE⟩
  | true =>
   by_cases hw:x.W=x.w
   rotate_left
   ·rw [Zzx (by rw [z45 hup,bZ,decide_eq_false (fun k=>hw k.1)];rfl)]
    go_enter Tryz.func7,Tryz.ntmps7;go_wp2_with fail;generalize aR:w.alloc _=v1;obtain ⟨hb,aT,bA⟩:=bx1 aR;clear aR;replace hE:=hE.trans (hb.mono hE.size);clear hb;refine (C1.out _).mono ?_;rintro e wz ⟨rfl,aS⟩;rw [aS];clear aS wz;obtain ⟨aG,aH,aI,aJ,aK,aL,aM,aN,aO,aP,aA,aB,aC,aD,aE,aF,aQ⟩:=c16 bA.now;go_wp2_with fail;clear aG aH aI aJ aK aL aM aN aO aP aA aB aC aD aE aF aQ;refine (C2.out _ (h.h1.below hE) (h.h2.below hE)).mono ?_;rintro e v2 ⟨rfl,hb⟩;have aU:v1.heap.size<=v2.heap.size:=hb.size;replace bA:=bA.below hb;replace hE:=hE.trans (hb.mono hE.size);clear hb;obtain ⟨aG,aH,aI,aJ,aK,aL,aM,aN,aO,aP,aA,aB,aC,aD,aE,aF,aQ⟩:=c16 bA.now;go_wp2_with fail;clear aG aH aI aJ aK aL aM aN aO aP aA aB aC aD aE aF aQ;refine (C4.out _).mono ?_;rintro e wz ⟨rfl,aS⟩;rw [aS];clear aS wz;obtain ⟨aG,aH,aI,aJ,aK,aL,aM,aN,aO,aP,aA,aB,aC,aD,aE,aF,aQ⟩:=c16 bA.now;go_wp2_with fail;clear aG aH aI aJ aK aL aM aN aO aP aA aB aC aD aE aF aQ;refine (CV.out _ (h.h3.below hE)).mono ?_
    rintro e v3 ⟨rfl,hb⟩;have aZ:v2.heap.size<=v3.heap.size:=hb.size;replace bA:=bA.below hb;replace hE:=hE.trans (hb.mono hE.size);clear hb;obtain ⟨aG,aH,aI,aJ,aK,aL,aM,aN,aO,aP,aA,aB,aC,aD,aE,aF,aQ⟩:=c16 bA.now;go_wp2;go_ret;exact ⟨rfl,hE⟩
   by_cases hs:x.S=(x.ss.length:Int)
   rotate_left
   ·rw [Zzx (by rw [z45 hup,bZ,decide_eq_false (fun k=>hs k.2)];rfl)]
    have bH:=hid hw;clear hw;go_enter Tryz.func7,Tryz.ntmps7;go_wp2_with fail;generalize aR:w.alloc _=v1;obtain ⟨hb,aT,bA⟩:=bx1 aR;clear aR;replace hE:=hE.trans (hb.mono hE.size);clear hb;refine (C1.out _).mono ?_;rintro e wz ⟨rfl,aS⟩;rw [aS];clear aS wz;obtain ⟨aG,aH,aI,aJ,aK,aL,aM,aN,aO,aP,aA,aB,aC,aD,aE,aF,aQ⟩:=c16 bA.now;go_wp2_with fail;clear aG aH aI aJ aK aL aM aN aO aP aA aB aC aD aE aF aQ;refine (C2.out _ (h.h1.below hE) (h.h2.below hE)).mono ?_;rintro e v2 ⟨rfl,hb⟩;have aU:v1.heap.size<=v2.heap.size:=hb.size;replace bA:=bA.below hb;replace hE:=hE.trans (hb.mono hE.size);clear hb;obtain ⟨aG,aH,aI,aJ,aK,aL,aM,aN,aO,aP,aA,aB,aC,aD,aE,aF,aQ⟩:=c16 bA.now;go_wp2_with fail;clear aG aH aI aJ aK aL aM aN aO aP aA aB aC aD aE aF aQ;refine (C4.out _).mono ?_;rintro e wz ⟨rfl,aS⟩;rw [aS];clear aS wz;obtain ⟨aG,aH,aI,aJ,aK,aL,aM,aN,aO,aP,aA,aB,aC,aD,aE,aF,aQ⟩:=c16 bA.now;go_wp2_with fail;clear aG aH aI aJ aK aL aM aN aO aP aA aB aC aD aE aF aQ
    refine (CV.out _ (h.h3.below hE)).mono ?_;rintro e v3 ⟨rfl,hb⟩;have aZ:v2.heap.size<=v3.heap.size:=hb.size;replace bA:=bA.below hb;replace hE:=hE.trans (hb.mono hE.size);clear hb;have hw:=bH.out;obtain ⟨aG,aH,aI,aJ,aK,aL,aM,aN,aO,aP,aA,aB,aC,aD,aE,aF,aQ⟩:=c16 bA.now;go_wp2;go_ret;exact ⟨rfl,hE⟩
   have bQ:v7c x=true:=by rw [z45 hup,bZ,decide_eq_true ⟨hw,hs⟩];rfl
   have bH:=hid hw;have cH:=hid hs;clear hw hs;go_enter Tryz.func7,Tryz.ntmps7;go_wp2_with fail;generalize aR:w.alloc _=v1;obtain ⟨hb,aT,bA⟩:=bx1 aR;clear aR;replace hE:=hE.trans (hb.mono hE.size);clear hb;refine (C1.out _).mono ?_;rintro e wz ⟨rfl,aS⟩;rw [aS];clear aS wz;obtain ⟨aG,aH,aI,aJ,aK,aL,aM,aN,aO,aP,aA,aB,aC,aD,aE,aF,aQ⟩:=c16 bA.now;go_wp2_with fail;clear aG aH aI aJ aK aL aM aN aO aP aA aB aC aD aE aF aQ;refine (C2.out _ (h.h1.below hE) (h.h2.below hE)).mono ?_;rintro e v2 ⟨rfl,hb⟩;have aU:v1.heap.size<=v2.heap.size:=hb.size;replace bA:=bA.below hb;replace hE:=hE.trans (hb.mono hE.size);clear hb;obtain ⟨aG,aH,aI,aJ,aK,aL,aM,aN,aO,aP,aA,aB,aC,aD,aE,aF,aQ⟩:=c16 bA.now;go_wp2_with fail;clear aG aH aI aJ aK aL aM aN aO aP aA aB aC aD aE aF aQ;refine (C4.out _).mono ?_;rintro e wz ⟨rfl,aS⟩;rw [aS];clear aS wz;obtain ⟨aG,aH,aI,aJ,aK,aL,aM,aN,aO,aP,aA,aB,aC,aD,aE,aF,aQ⟩:=c16 bA.now;go_wp2_with fail;clear aG aH aI aJ aK aL aM aN aO aP aA aB aC aD aE aF aQ
   refine (CV.out _ (h.h3.below hE)).mono ?_;rintro e v3 ⟨rfl,hb⟩;have aZ:v2.heap.size<=v3.heap.size:=hb.size;replace bA:=bA.below hb;replace hE:=hE.trans (hb.mono hE.size);clear hb;have hw:=bH.out;have hs:=cH.out;have bG:=hid bA;obtain ⟨aG,aH,aI,aJ,aK,aL,aM,aN,aO,aP,aA,aB,aC,aD,aE,aF,aQ⟩:=c16 bA.now;go_wp2;clear aG aH aI aJ aK aL aM aN aO aP aA aB aC aD aE aF aQ;go_loopw [3] (fun i wr=>∃ k:Nat,k<=x.P.length/\i=.int .i64 (k:Int)/\Hid (∀ j,j<k->z0q (x.P.getD j [])=true)/\Hid (Below v3.heap.size v3 wr)) (fun i _=>x.P.length-(intOf i).toNat)
   case atStart=>exact ⟨0,Nat.zero_le _,rfl,fun j hj=>absurd hj (by omega),Below.refl _ _⟩
   case round =>
    obtain ⟨k,hk,rfl,HA,aW⟩:=hrel;have aX:=hE.trans (aW.out.mono hE.size)
    by_cases bV:k<x.P.length
    ·have cM:(k:Int)<(x.P.length:Int):=by omega
     obtain ⟨b,o,p,cp,b7,cQ,cJ,HP⟩:=(h.h4.below aX).at bV;obtain ⟨rs,bC⟩:∃ rs,Hid (rs=x.P.getD k []):=⟨_,hid rfl⟩;rw [<-bC.out] at cJ HP;have aY:rs∈x.P:=by rw [bC.out];simp [List.getD,bV]
     have HV:=hid (yPv p rs cp wr HP.out (hm.s4 rs aY).1 (hm.s4 rs aY).2);have cC:=(bG.out.below aW.out).now.cell 14 _ rfl;rw [b7] at cC;clear b7
     cases hst:z0q rs with
     | false =>
      rw [hst] at HV;have e:=z0I (x:=x) (jjk k bV (by rw [<-bC.out];exact hst));go_wp2_with (go_at_call 20;refine HV.out.mono ?_;rintro e w2 ⟨rfl,bJ⟩);go_ret
      exact ⟨by first | rfl | (rw [e];rfl),aX.trans (bJ.mono aX.size)⟩
     | true =>
      rw [hst] at HV;go_wp2_with (go_at_call 20;refine HV.out.mono ?_;rintro e w2 ⟨rfl,bJ⟩);go_roundw
      case rel=>exact ⟨k+1,by omega,by go_num,fun j hj=>by
       by_cases e:j=k
       ·subst e;rw [<-bC.out];exact hst
       ·exact HA.out j (by omega),aW.out.trans (bJ.mono aW.out.size)⟩
      case measure=>simp [intOf];omega
    ·have cM:¬ (k:Int)<(x.P.length:Int):=by omega
     have cN:=vOe hP (fun j hj=>HA.out j (by omega));have cC:=(bG.out.below aW.out).now.cell 14 _ rfl;go_wp2;go_loopw [4] (fun i w5=>∃ k:Nat,k<=x.ts.length/\i=.int .i64 (k:Int)/\Hid (∀ j,j<k->(x.ts.getD j ByteArray.empty).size=64)/\w5=wr) (fun i _=>x.ts.length-(intOf i).toNat)
     case atStart=>exact ⟨0,Nat.zero_le _,rfl,fun j hj=>absurd hj (by omega),by first | rfl | trivial⟩
     case round =>
      obtain ⟨k5,cS,rfl,bW,cO⟩:=hrel;subst cO;have cP:=(bG.out.below aW.out).now.cell 15 _ rfl
      by_cases aV:k5<x.ts.length
      ·have bU:(k5:Int)<(x.ts.length:Int):=by omega
       obtain ⟨b,o,s,b8,hc,HS⟩:=(h.h5.below aX).at aV;rw [b8] at cP;clear b8;have cT:=hm.s5 s (by rw [HS.out];simp [List.getD,aV])
       by_cases bY:s.size=64
       ·have bI:(s.size:Int)=64:=by omega
        go_wp2;go_roundw
        case rel=>exact ⟨k5+1,by omega,by go_num,fun j hj=>by
         by_cases e:j=k5
         ·subst e;rw [<-HS.out];exact bY
         ·exact bW.out j (by omega),by first | rfl | trivial⟩
        case measure=>simp [intOf];omega
       ·have bI:¬ (s.size:Int)=64:=by omega
        have e:=Jlw (x:=x) (jfW k5 aV (by rw [<-HS.out];exact bY));go_wp2;go_ret
        exact ⟨by first | rfl | (rw [e];rfl),aX⟩
      ·have bU:¬ (k5:Int)<(x.ts.length:Int):=by omega
       have e:=zlO cE cF bQ cN (v0r (by omega) (fun j hj=>bW.out j (by omega)));go_wp2;go_ret
       exact ⟨by first | rfl | (rw [e];rfl),aX⟩
theorem kML:(Tryz.prog.info? 9).map (fun i=>(i.zero,i.size,i.bytes))=some (some (.string ByteArray.empty),1,16):=by kernel_rfl
theorem q7E:(Tryz.prog.info? 31).map (fun i=>(i.zero,i.size,i.bytes))=some (some (.agg #[.slice none 0 0]),1,24):=by kernel_rfl
theorem vHq {P:Program} {e:TypeId} {z:Value} {size aA:Nat} (h:(P.info? e).map (fun i=>(i.zero,i.size,i.bytes))=some (some z,size,aA)):∃ i,P.info? e=some i/\i.zero=some z/\i.size=size/\i.bytes=aA:=by
 obtain ⟨i,hi,hh⟩:=Option.map_eq_some_iff.1 h;simp only [Prod.mk.injEq] at hh;exact ⟨i,hi,hh⟩
theorem kde (aA:List OpT) (j:Nat) (h:j<aA.length):xmh (aA.take (j+1))=xmh (aA.take j)++(if (aA.getD j (false,0,ByteArray.empty)).1=true then [] else [(aA.getD j (false,0,ByteArray.empty)).2.2]):=by
 rw [List.take_succ_eq_append_getElem h,ZaG];simp [List.getD,h]
theorem kx3 {x:Wo} {e:Ev} {D:Dd} {u:Bool} (h5:¬ e.K=5) (hc:x.call e=(D,u)) (h:u=false\/D.C≠0):x.doE e=x:=by unfold Wo.doE;rw [if_neg h5,hc,if_pos h]
theorem qID {x:Wo} {e:Ev} {D:Dd} (h5:¬ e.K=5) (hc:x.call e=(D,true)) (h0:D.C=0) (h:2000<(ZmL x e D).length\/200<(evP x e D).length):x.doE e=x:=by unfold Wo.doE;rw [if_neg h5,hc,if_neg (by simp [h0]),if_pos h]
theorem xeL {x:Wo} {e:Ev} {D:Dd} (h5:¬ e.K=5) (hc:x.call e=(D,true)) (h0:D.C=0) (h:¬ (2000<(ZmL x e D).length\/200<(evP x e D).length)) (hb:ZJ5 e D=true):x.doE e=(x.ran e D).pow e.fs:=by unfold Wo.doE;rw [if_neg h5,hc,if_neg (by simp [h0]),if_neg h,if_pos hb]
theorem yiE {x:Wo} {e:Ev} {D:Dd} (h5:¬ e.K=5) (hc:x.call e=(D,true)) (h0:D.C=0) (h:¬ (2000<(ZmL x e D).length\/200<(evP x e D).length)) (hb:ZJ5 e D=false) (h2:e.K=2):x.doE e=(x.ran e D).upS D:=by unfold Wo.doE;rw [if_neg h5,hc,if_neg (by simp [h0]),if_neg h,if_neg (by simp [hb]),if_pos h2]
theorem vyk {x:Wo} {e:Ev} {D:Dd} (h5:¬ e.K=5) (hc:x.call e=(D,true)) (h0:D.C=0) (h:¬ (2000<(ZmL x e D).length\/200<(evP x e D).length)) (hb:ZJ5 e D=false) (h2:¬ e.K=2):x.doE e={ (x.ran e D).upS D with P:=[D.rs] }:=by unfold Wo.doE;rw [if_neg h5,hc,if_neg (by simp [h0]),if_neg h,if_neg (by simp [hb]),if_neg h2]
end Go.Proofs.YtehbpeinnepdcaaGreatDoor
