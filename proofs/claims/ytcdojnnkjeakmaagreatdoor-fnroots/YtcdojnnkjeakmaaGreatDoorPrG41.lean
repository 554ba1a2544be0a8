import Derived.Test.YtcdojnnkjeakmaaGreatDoorPrWoB
import Derived.Test.YtcdojnnkjeakmaaGreatDoorPrMvS
import Derived.Test.YtcdojnnkjeakmaaGreatDoorPrRpL
import Derived.Test.YtcdojnnkjeakmaaGreatDoorPrAs
import Derived.Test.YtcdojnnkjeakmaaGreatDoorPrFnA
set_option maxHeartbeats 16000000
set_option maxRecDepth 8000
set_option linter.unusedVariables false
set_option linter.unusedSimpArgs false
namespace Go.Proofs.YtcdojnnkjeakmaaGreatDoor
open Go.RowKit
@[reducible] def wA (x:Wo) (q:Wp):Array Value:=#[.int .i64 x.w,.slice q.a x.ss.length q.c,.slice q.a' x.ws.length q.c',.bool x.up,.int .i64 x.W,.int .i64 x.S,.int .i64 x.L,.int .i64 x.T,.int .i64 x.H,.int .i64 x.F,.int .i64 x.R,.int .i64 x.U,.int .i64 x.O,.slice q.s x.rs.length q.cs,.slice q.p x.P.length q.cp,.slice q.t x.ts.length q.ct]
@[reducible] def wL (x:Wo) (q:Wp):List Value:=[.int .i64 x.w,.slice q.a x.ss.length q.c,.slice q.a' x.ws.length q.c',.bool x.up,.int .i64 x.W,.int .i64 x.S,.int .i64 x.L,.int .i64 x.T,.int .i64 x.H,.int .i64 x.F,.int .i64 x.R,.int .i64 x.U,.int .i64 x.O,.slice q.s x.rs.length q.cs,.slice q.p x.P.length q.cp,.slice q.t x.ts.length q.ct]
theorem Jk1 (W S L T H F R U O:Int) (a:Option Addr) (rs:List Pr) (c:Nat) (w:World) (h:Prs w a rs) (hl:rs.length<=1048576) (hs:∀ x∈rs,x.1.size<=1048576/\x.2.size<=1048576) :
  Calls Tryz.prog 83 #[QPD W S L T H F R U O a rs.length c] w fun x w'=>vx0 w w' x (JfS W S L T H F R U O rs):=by
 have aE:=hid (fun w' h'=>ZHK W S L T H F R U O a rs c w' h' hl hs)
 have aF:∀ o1 o2,Below w.heap.size w ((w.alloc o1).alloc o2):=fun o1 o2=>((Below.refl _ _).alloc (Nat.le_refl _) _).alloc (by simp) _
 unfold QPD at aE ⊢;unfold JfS
 cases hok:jWr W S L T H F R U O rs with
 | false =>
  rw [hok] at aE;simp only [Bool.false_eq_true,if_false];go_enter Tryz.func83,Tryz.ntmps83;go_wp2_with (go_at_call 71;refine (aE.out _ (h.below (aF _ _))).mono ?_;rintro x w2 ⟨rfl,aA⟩;have aC:=hid ((aF _ _).trans (aA.mono (by simp<;>omega)));have aI:w.heap.size+1<w2.heap.size:=Nat.lt_of_lt_of_le (by simp) aA.size;have aH:w.heap.size<w2.heap.size:=Nat.lt_of_succ_lt aI;have r1:=(j6Q (w:=w.alloc (.cells #[.int .i64 W,.int .i64 S,.int .i64 L,.int .i64 T,.int .i64 H,.int .i64 F,.int .i64 R,.int .i64 U,.int .i64 O,.slice a rs.length c] 59)) (A:=#[.int .i64 0,.int .i64 0,.int .i64 0,.int .i64 0,.int .i64 0,.int .i64 0,.int .i64 0,.int .i64 0,.int .i64 0,.int .i64 0,.slice none 0 0,.slice none 0 0]) (t:=119) (g:=w.heap.size+1) (by simp)).below aA;have d0:=r1.cell 0 _ rfl;have cP:=r1.froz 0 (by simp);have d1:=r1.cell 1 _ rfl;have cM:=r1.froz 1 (by simp);have d2:=r1.cell 2 _ rfl;have bH:=r1.froz 2 (by simp);have d3:=r1.cell 3 _ rfl;have cW:=r1.froz 3 (by simp);have d4:=r1.cell 4 _ rfl;have cL:=r1.froz 4 (by simp);have d5:=r1.cell 5 _ rfl;have cK:=r1.froz 5 (by simp);have d6:=r1.cell 6 _ rfl;have cT:=r1.froz 6 (by simp);have d7:=r1.cell 7 _ rfl;have bW:=r1.froz 7 (by simp);have d8:=r1.cell 8 _ rfl;have cC:=r1.froz 8 (by simp);have d9:=r1.cell 9 _ rfl;have b8:=r1.froz 9 (by simp);have aX:=r1.cell 10 _ rfl;have aT:=r1.froz 10 (by simp);have aP:=r1.cell 11 _ rfl;have aQ:=r1.froz 11 (by simp);clear r1)
  refine bodyPost_ret (v:=dnV (noD 1) none 0 none 0) (by simp [results,Tryz.results83,go_sem,dnV,noD,d0,d1,d2,d3,d4,d5,d6,d7,d8,d9,aX,aP]) rfl (qJx rfl ?_)
  iterate 12 (refine Below.setCell ?_ (by show w.heap.size<=w.heap.size+1;omega) _)
  exact aC.out
 | true =>
  have aW:=vIj hok;rw [hok] at aE;simp only [if_true];have aD:=hid (fun w' h'=>yPV W S L T H F R U O a rs c w' h' hl hs aW);obtain ⟨D,HD⟩:∃ D,Hid (D=kGX W S L T H F rs):=⟨_,hid rfl⟩;rw [<-HD.out] at aD ⊢;clear HD;obtain ⟨C0,W0,S0,L0,T0,H0,F0,R0,U0,O0,ds,os⟩:=D;unfold QPD at aD;unfold vx0 dnV at aD;simp only at aD;go_enter Tryz.func83,Tryz.ntmps83
  go_wp2_with (first | (go_at_call 71;refine (aE.out _ (h.below (aF _ _))).mono ?_;rintro x w2 ⟨rfl,aA⟩;have aC:=hid ((aF _ _).trans (aA.mono (by simp<;>omega)));have aI:w.heap.size+1<w2.heap.size:=Nat.lt_of_lt_of_le (by simp) aA.size;have aH:w.heap.size<w2.heap.size:=Nat.lt_of_succ_lt aI;have r0:=((xER w #[.int .i64 W,.int .i64 S,.int .i64 L,.int .i64 T,.int .i64 H,.int .i64 F,.int .i64 R,.int .i64 U,.int .i64 O,.slice a rs.length c] 59).alloc (.cells #[.int .i64 0,.int .i64 0,.int .i64 0,.int .i64 0,.int .i64 0,.int .i64 0,.int .i64 0,.int .i64 0,.int .i64 0,.int .i64 0,.slice none 0 0,.slice none 0 0] 119)).below aA;have r1:=(j6Q (w:=w.alloc (.cells #[.int .i64 W,.int .i64 S,.int .i64 L,.int .i64 T,.int .i64 H,.int .i64 F,.int .i64 R,.int .i64 U,.int .i64 O,.slice a rs.length c] 59)) (A:=#[.int .i64 0,.int .i64 0,.int .i64 0,.int .i64 0,.int .i64 0,.int .i64 0,.int .i64 0,.int .i64 0,.int .i64 0,.int .i64 0,.slice none 0 0,.slice none 0 0]) (t:=119) (g:=w.heap.size+1) (by simp)).below aA;have x0:=r0.cell 0 _ rfl;have cQ:=r0.froz 0 (by simp);have x1:=r0.cell 1 _ rfl;have bC:=r0.froz 1 (by simp);have x2:=r0.cell 2 _ rfl;have cS:=r0.froz 2 (by simp);have x3:=r0.cell 3 _ rfl;have bQ:=r0.froz 3 (by simp);have x4:=r0.cell 4 _ rfl;have cH:=r0.froz 4 (by simp);have x5:=r0.cell 5 _ rfl;have b7:=r0.froz 5 (by simp);have x6:=r0.cell 6 _ rfl;have bY:=r0.froz 6 (by simp);have x7:=r0.cell 7 _ rfl;have bI:=r0.froz 7 (by simp);have x8:=r0.cell 8 _ rfl;have bZ:=r0.froz 8 (by simp);have x9:=r0.cell 9 _ rfl;have cV:=r0.froz 9 (by simp);have aS:=hid r1;clear r0 r1) | (go_at_call 96;refine (aD.out _ (h.below aC.out)).mono ?_;rintro x w3 ⟨az,cz,bz,ez,rfl,aR,aG,aL,aJ,aK⟩;have r1:=aS.out.below aK;have e0:=r1.cell 0 _ rfl;have cO:=r1.froz 0 (by simp);have e1:=r1.cell 1 _ rfl;have bG:=r1.froz 1 (by simp);have e2:=r1.cell 2 _ rfl;have cN:=r1.froz 2 (by simp);have e3:=r1.cell 3 _ rfl;have bV:=r1.froz 3 (by simp);have e4:=r1.cell 4 _ rfl;have cJ:=r1.froz 4 (by simp);have e5:=r1.cell 5 _ rfl;have cI:=r1.froz 5 (by simp);have e6:=r1.cell 6 _ rfl;have cU:=r1.froz 6 (by simp);have e7:=r1.cell 7 _ rfl;have cF:=r1.froz 7 (by simp);have e8:=r1.cell 8 _ rfl;have bU:=r1.froz 8 (by simp);have e9:=r1.cell 9 _ rfl;have cE:=r1.froz 9 (by simp);have aZ:=r1.cell 10 _ rfl;have aV:=r1.froz 10 (by simp);have aY:=r1.cell 11 _ rfl;have aM:=r1.froz 11 (by simp);have bJ:=r1.lt;clear r1))
  have aO:=aC.out.size
  have aU:∀ g,az=some ⟨g,0,none⟩->qJS ds≠[]->w.heap.size+1≠g:=fun g hg aB=>by have:=aL g (by subst hg;exact qdd _ _ _ (Xnn aB));omega
  have aN:∀ g,bz=some ⟨g,0,none⟩->JFO os≠[]->w.heap.size+1≠g:=fun g hg aB=>by have:=aJ g (by subst hg;exact qdd _ _ _ (JFT aB));omega
  refine bodyPost_ret (v:=dnV ⟨C0,W0,S0,L0,T0,H0,F0,R0,U0,O0,ds,os⟩ az cz bz ez) (by simp [results,Tryz.results83,go_sem,dnV,e0,e1,e2,e3,e4,e5,e6,e7,e8,e9,aZ,aY]) rfl ⟨az,cz,bz,ez,rfl,aR,⟨?_,?_,aG.ne⟩,?_,?_,?_⟩
  ·iterate 12 (refine OwnS.set' ?_ _ (fun g hg aB=>aU g hg aB) _)
   exact aG.s
  ·iterate 12 (refine OwnS.set' ?_ _ (fun g hg aB=>aN g hg aB) _)
   exact aG.p
  ·exact fun g hg=>by have:=aL g hg;omega
  ·exact fun g hg=>by have:=aJ g hg;omega
  ·iterate 12 (refine Below.setCell ?_ (by show w.heap.size<=w.heap.size+1;omega) _)
   exact aC.out.trans (aK.mono aO)
theorem X3w (s:ByteArray) (n:Int) (w:World) (ty:TypeId) (v:Value) (hv:w.cell? ⟨1,0,none⟩=some (.iface ty v)) (hg:1<w.heap.size):Calls Tryz.prog 85 #[.string s,.int .i64 n] w fun e w'=>(∃ E,e=.returned (prV E (Jvc s n)))/\Below w.heap.size w w':=by
 by_cases hn:1<=n/\n<=8
 ·obtain ⟨m,rfl⟩:∃ m:Nat,n=(m:Int):=⟨n.toNat,by omega⟩
  by_cases hs:s.size=64
  ·obtain ⟨fN,fK,fL,fM,fP⟩:=q0q s m hs (by omega) rfl
   have ln:(zFD s).length=64:=by rw [vgz,hs]
   have rg:=X8K s
   have aA:∀ o k,∀ y∈((zFD s).drop o).take k,0<=y/\y<=255:=fun o k y hy=>rg y (List.mem_of_mem_drop (List.mem_of_mem_take hy))
   have bN:=xOP 1 _ (by simp;omega) (aA (m+7) 1);have bK:=xOP 1 _ (by simp;omega) (aA m 1);have bL:=xOP 2 _ (by simp;omega) (aA (m+1) 2);have bM:=xOP 4 _ (by simp;omega) (aA (m+3) 4);rw [<-fN] at bN;rw [<-fK] at bK;rw [<-fL] at bL;rw [<-fM] at bM
   by_cases hN:rpN (s.extract m 64)+m<=56
   ·have h:=vMP s m _ _ _ _ _ w ty v hv hg hs (by omega) (by omega) fN hN fK fL fM fP bK.1 (by have:=bK.2;omega) bL.1 (by have:=bL.2;omega) bM.1 (by have:=bM.2;omega)
    have hR:Jvc s (m:Int)=if ZQp (rpK (s.extract m 64)) (rpL (s.extract m 64)) (rpM (s.extract m 64)) (rpP (s.extract m 64)) (m:Int)=s then some (rpK (s.extract m 64),rpL (s.extract m 64),rpM (s.extract m 64),rpP (s.extract m 64)) else none:=by
     unfold Jvc;rw [Int.toNat_natCast]
     by_cases hF:ZQp (rpK (s.extract m 64)) (rpL (s.extract m 64)) (rpM (s.extract m 64)) (rpP (s.extract m 64)) (m:Int)=s
     ·rw [if_pos hF,if_pos ⟨by omega,by omega,hs,by omega,hF⟩]
     ·rw [if_neg hF,if_neg (fun hh=>hF hh.2.2.2.2)]
    rw [hR];exact h
   ·rw [XRd (fun hh=>hN (by have:=hh.2.2.2.1;rw [Int.toNat_natCast] at this;omega))]
    exact Xs2 s m _ w ty v hv hg hs (by omega) (by omega) fN (by omega) (by have:=bN.2;omega)
  ·rw [XRd (fun hh=>hs hh.2.2.1)]
   exact v8A s m w ty v hv hg hn hs
 ·rw [XRd (fun hh=>hn ⟨hh.1,hh.2.1⟩)]
  exact vle s n w ty v hv hg hn
theorem QdO (e t:Addr) (aA:Value) (w:World) (hg:w.cell? ⟨0,0,none⟩=some (.iface 183 (.agg #[.pointer (some ⟨2,142,none⟩)]))) (aC:w.cell? t=some aA) (aB:w.frozen? t=false) (aD:t.block<w.heap.size) :
  Calls Tryz.prog 86 #[.iface 145 (.pointer (some e)),.iface 147 (.pointer (some t))] w fun ev w'=>ev=.returned (.bool true)/\Below t.block w w' :=
 (yXE e t aA w hg aC aB).mono fun ev w' h=>⟨h.1,by
  rw [h.2]
  exact (((((Below.refl t.block w).alloc (by omega) _).alloc (by simp;omega) _).alloc (by simp;omega) _).alloc (by simp;omega) _).setCell (Nat.le_refl _) _⟩
theorem q7S (t:Value) (w:World):Calls Tryz.prog 86 #[.nilIface,t] w fun e w'=>e=.returned (.bool false)/\Below w.heap.size w w' :=
 (qMK t w).mono fun e w' h=>⟨h.1,by rw [h.2];exact Below.refl _ _⟩
theorem RB.past {W w w':World} (h:RB W w) {B:Nat} (hB:W.heap.size<B) (hb:Below B w w'):RB W w':=by
 have hs:=h.size
 have hc:∀ i,w'.cell? ⟨W.heap.size,i,none⟩=w.cell? ⟨W.heap.size,i,none⟩:=fun i=>hb.cell (p:=⟨W.heap.size,i,none⟩) (by show W.heap.size<_;omega)
 have hf:∀ i,w'.frozen? ⟨W.heap.size,i,none⟩=w.frozen? ⟨W.heap.size,i,none⟩:=fun i=>hb.frozen (p:=⟨W.heap.size,i,none⟩) (by show W.heap.size<_;omega)
 exact ⟨Nat.le_trans hs hb.size,h.bel.trans (hb.mono (by omega)),(hc _).trans h.c0,(hc _).trans h.c1,(hc _).trans h.c2,(hc _).trans h.c3,(hf _).trans h.f0,(hf _).trans h.f1,(hf _).trans h.f2,(hf _).trans h.f3⟩
theorem vnl (s:ByteArray) (n:Int) (w:World) (ty:TypeId) (v:Value) (hv:w.cell? ⟨1,0,none⟩=some (.iface ty v)) (h0:w.cell? ⟨0,0,none⟩=some (.iface 183 (.agg #[.pointer (some ⟨2,142,none⟩)]))) (hg:1<w.heap.size):Calls Tryz.prog 67 #[.string s,.int .i64 n] w fun e w'=>e=.returned (rpV (Jvc s n))/\Below w.heap.size w w':=by
 obtain ⟨R,HR⟩:∃ R,Hid (R=Jvc s n):=⟨_,jjQ rfl⟩;rw [<-HR.out]
 have aH:∀ o,Below w.heap.size w (w.alloc o):=fun o=>(Below.refl _ _).alloc (Nat.le_refl _) _
 have aG:∀ o,(w.alloc o).cell? ⟨1,0,none⟩=some (.iface ty v):=fun o=>(World.cell?_alloc_past _ _ _ (by exact hg)).trans hv
 have HG:Hid (∀ w',Below w.heap.size w w'->w'.cell? ⟨0,0,none⟩=some (.iface 183 (.agg #[.pointer (some ⟨2,142,none⟩)]))):=fun w' hb=>(hb.cell (p:=⟨0,0,none⟩) (by show 0<_;omega)).trans h0
 have aE:=fun o=>X3w s n (w.alloc o) ty v (aG o) (by simp;omega)
 rw [<-HR.out] at aE
 cases R with
 | none =>
  simp only [prV] at aE;go_enter Tryz.func67,Tryz.ntmps67
  go_wp2_with (first | (go_at_call 85;refine (aE _).mono ?_;rintro e w2 ⟨⟨E,rfl⟩,aC⟩;have aD:=jjQ ((RB.new w _).below aC);clear aC) | (go_at_call 86;refine (QdO E ⟨w2.heap.size+1,0,none⟩ (.pointer none) _ (HG.out _ ((aD.out.alloc _).alloc _).bel) (by go_simp) (by go_simp) (by simp)).mono ?_;rintro e w4 ⟨rfl,aB⟩;have aA:=((aD.out.alloc _).alloc _).past (B:=w2.heap.size+1) (by have:=aD.out.size;omega) aB;clear aB;have c0:=aA.c0;have c1:=aA.c1;have c2:=aA.c2;have c3:=aA.c3;have f0:=aA.f0;have f1:=aA.f1;have f2:=aA.f2;have f3:=aA.f3;have aF:=jjQ aA;clear aA))
  refine bodyPost_ret (v:=.tuple #[QAw 0 0 0 ⟨#[]⟩,.bool false]) (by simp [results,Tryz.results67,go_sem,c0,c1,c2,c3]) rfl ⟨rfl,?_⟩;exact (((aF.out.bel.setCell (Nat.le_refl _) _).setCell (Nat.le_refl _) _).setCell (Nat.le_refl _) _).setCell (Nat.le_refl _) _
 | some x =>
  obtain ⟨k,l,m,p⟩:=x;simp only [prV] at aE;go_enter Tryz.func67,Tryz.ntmps67
  go_wp2_with (first | (go_at_call 85;refine (aE _).mono ?_;rintro e w2 ⟨⟨E,rfl⟩,aC⟩;have aD:=jjQ ((RB.new w _).below aC);clear aC) | (go_at_call 86;refine (q7S _ _).mono ?_;rintro e w4 ⟨rfl,aB⟩;have aA:=((aD.out.alloc _).alloc _).below aB;have hp:=((z8y w2 w2.heap.size rfl (.int .i64 k) (.int .i64 l) (.int .i64 m) (.string p) _).below ((Below.refl _ _).alloc (Nat.le_refl _) _) (by simp)).below aB (by simp<;>omega);clear aB;have p0:=hp.c0;have p1:=hp.c1;have p2:=hp.c2;have p3:=hp.c3;clear hp;have c0:=aA.c0;have c1:=aA.c1;have c2:=aA.c2;have c3:=aA.c3;have f0:=aA.f0;have f1:=aA.f1;have f2:=aA.f2;have f3:=aA.f3;have aF:=jjQ aA;clear aA))
  refine bodyPost_ret (v:=.tuple #[QAw k l m p,.bool true]) (by simp [results,Tryz.results67,go_sem,c0,c1,c2,c3]) rfl ⟨rfl,?_⟩;exact (((aF.out.bel.setCell (Nat.le_refl _) _).setCell (Nat.le_refl _) _).setCell (Nat.le_refl _) _).setCell (Nat.le_refl _) _
section
set_option maxHeartbeats 4000000
@[reducible] def rtV (x:RtT):Value:=yDp x.1 x.2.1 x.2.2.1 x.2.2.2
def Zje (s:ByteArray) (n:Int):RtT :=
 match Jvc s n with
 | none=>rtZ
 | some (_,l,m,p)=>if p.size=5/\QCt m (ptH p) (ptF p) l n=s then (m,ptH p,ptF p,l) else rtZ
theorem xp4 (s:ByteArray) (n:Int) (w:World) (k l m:Int) (p:ByteArray) (hR:Jvc s n=some (k,l,m,p)) (HS:∀ wx,Below w.heap.size w wx->Calls Tryz.prog 67 #[.string s,.int .i64 n] wx fun e w'=>e=.returned (.tuple #[QAw k l m p,.bool true])/\Below wx.heap.size wx w') (h5:p.size=5):Calls Tryz.prog 49 #[.string s,.int .i64 n] w fun e w'=>e=.returned (rtV (Zje s n))/\Below w.heap.size w w':=by
 have bC:∀ o,Below w.heap.size w (w.alloc o):=fun o=>(Below.refl _ _).alloc (Nat.le_refl _) _
 obtain ⟨_,_,cK,cL,cF,cN,cJ⟩:=v5k hR;obtain ⟨RR,aR⟩:∃ RR,Hid (RR=Zje s n):=⟨_,jjQ rfl⟩;obtain ⟨H,HH⟩:∃ H,Hid (H=ptH p):=⟨_,jjQ rfl⟩;obtain ⟨F,HF⟩:∃ F,Hid (F=ptF p):=⟨_,jjQ rfl⟩;obtain ⟨FM,bJ⟩:∃ FM,Hid (FM=QCt m H F l n):=⟨_,jjQ rfl⟩
 have bG:Hid (RR=if FM=s then (m,H,F,l) else rtZ):=by
  show _=_;rw [aR.out,bJ.out,HH.out,HF.out];unfold Zje;rw [hR];simp [h5]
 rw [<-aR.out];clear hR aR;have b8:(p.size:Int)=5:=by omega
 have bZ:(zFD p).length=5:=by rw [vgz,h5]
 have rg:=X8K p;have b1:=xOP 1 ((zFD p).take 1) (by simp;omega) (fun y hy=>rg y (List.mem_of_mem_take hy));have b2:=xOP 4 (((zFD p).drop 1).take 4) (by simp;omega) (fun y hy=>rg y (List.mem_of_mem_drop (List.mem_of_mem_take hy)));have cH:0<=H:=by rw [HH.out];exact b1.1
 have cO:H<=255:=by rw [HH.out];have:=b1.2;unfold ptH;omega
 have cE:0<=F:=by rw [HF.out];exact b2.1
 have cM:F<=4294967295:=by rw [HF.out];have:=b2.2;unfold ptF;omega
 have cP:IntKind.i64.wrap H=H:=by simp [IntKind.wrap,IntKind.bits,IntKind.signed];omega
 have cQ:IntKind.i64.wrap F=F:=by simp [IntKind.wrap,IntKind.bits,IntKind.signed];omega
 obtain ⟨xs,HX⟩:∃ xs,Hid (xs=zFD p):=⟨_,jjQ rfl⟩;have aY:Hid (∀ y∈xs,0<=y/\y<=255):=by rw [HX.out];exact rg
 have bQ:Hid (H=zMt ((xs.drop 0).take 1)):=by show _=_;rw [HX.out,List.drop_zero];exact HH.out
 have bW:Hid (F=zMt ((xs.drop 1).take 4)):=by show _=_;rw [HX.out];exact HF.out
 rw [<-HX.out] at bZ;clear rg b1 b2
 have aK:=fun wx=>xIt m H F l n wx
 rw [<-bJ.out] at aK;have bV:=jjQ (fun wx=>xUX wx p);go_enter Tryz.func49,Tryz.ntmps49;go_wp2_with (go_at_call 67;refine (HS _ (bC _)).mono ?_;rintro e w2 ⟨rfl,aS⟩;have aP:=jjQ ((B4.new w (.int .i64 0) (.int .i64 0) (.int .i64 0) (.int .i64 0) _).below aS);have aH:=jjQ ((bC _).trans (aS.mono (by simp)));clear aS;obtain ⟨cap,wB,bH,aN,aJ,aL,aV⟩:=bV.out (w2.alloc (.cells #[.int .i64 k,.int .i64 l,.int .i64 m,.string p] 53));rw [h5] at bH aV;have aI:=(B4.new w2 (.int .i64 k) (.int .i64 l) (.int .i64 m) (.string p) 53).below aN;have bI:=jjQ ((aP.out.alloc _).below aN);have aE:=jjQ ((aH.out.alloc aH.out.size _).trans (aN.mono (aH.out.alloc aH.out.size _).size));have b7:w.heap.size<w2.heap.size:=aP.out.lt;clear aP aH aN;simp only [World.size_alloc] at aJ aL bH;rw [<-HX.out] at aL;have aD:=jjQ aL;clear aL;have p1:=aI.c1;have p2:=aI.c2;have p3:=aI.c3;have aT:=jjQ aI;clear aI);have bY:w2.heap.size+1<wB.heap.size:=by omega
 have aU:Hid (∀ o,Fm (wB.alloc o) (w2.heap.size+1) xs):=fun o=>aD.out.below ((Below.refl _ _).alloc (Nat.le_refl _) _) bY
 have cI:(1:Int)<=(cap:Int):=by omega
 have cC:¬ cap=1:=by omega
 have HT:Hid (∀ w',Below wB.heap.size wB w'->w'.cell? ⟨w2.heap.size,1,none⟩=some (.int .i64 l)/\w'.cell? ⟨w2.heap.size,2,none⟩=some (.int .i64 m)/\Below wB.heap.size wB w'):=fun w' hb=>⟨(aT.out.below hb).c1,(aT.out.below hb).c2,hb⟩
 refine (fun HG:Wr ?G=>?main) ⟨?pf⟩
 case main =>
  go_region_held3 (fun w'=>w'.cell? ⟨w2.heap.size,1,none⟩=some (.int .i64 l)/\w'.cell? ⟨w2.heap.size,2,none⟩=some (.int .i64 m)/\Below wB.heap.size wB w')
   (first | assumption | exact HT.out _ ((Below.refl _ _).drew) | exact HT.out _ (((Below.refl _ _).drew).alloc (Nat.le_refl _) _) | exact HT.out _ (((Below.refl _ _).alloc (Nat.le_refl _) _).drew) | exact HT.out _ ((Below.refl _ _).alloc (Nat.le_refl _) _))
   (first
    | (have _g:=g1;go_at_call 68;refine (zPV (w2.heap.size+1) xs aY 1 4 _ (by omega) (by omega) _ (by first | exact aD.out.drew | exact (aU.out _).drew) F bW.out).mono ?_;rintro e w7 ⟨rfl,rfl⟩)
    | (go_at_call 68;refine (zPV (w2.heap.size+1) xs aY 0 1 _ (by omega) (by omega) _ (by first | exact aD.out.drew | exact (aU.out _).drew) H bQ.out).mono ?_;rintro e w7 ⟨rfl,rfl⟩;have g1:=True.intro))
  all_goals exact HG.out
 have hq:=(B4.new wB (.int .i64 m) (.int .i64 H) (.int .i64 F) (.int .i64 l) 24).drew;have aM:Below wB.heap.size wB (wB.alloc (.cells #[.int .i64 m,.int .i64 H,.int .i64 F,.int .i64 l] 24)).drew:=((Below.refl _ _).alloc (Nat.le_refl _) _).drew;obtain ⟨wq,aW⟩:∃ wq,wq=(wB.alloc (.cells #[.int .i64 m,.int .i64 H,.int .i64 F,.int .i64 l] 24)).drew:=⟨_,rfl⟩;rw [aJ] at hq;rw [<-aW] at hq aM ⊢;have aX:=jjQ (bI.out.below aM);have aO:=jjQ (aE.out.trans (aM.mono (by have:=aE.out.size;omega)));have aZ:=jjQ hq;clear aW HT aM bI aE aT aD aU p1 p2 p3;have q0:=hq.c0;have q1:=hq.c1;have q2:=hq.c2;have q3:=hq.c3;clear hq
 by_cases aG:FM=s
 ·have aF:Hid (RR=(m,H,F,l)):=by show _=_;rw [bG.out,if_pos aG]
  have bU:=jjQ aG;clear aG;rw [bU.out] at aK
  go_wp2_with (first | (go_at_call 5;refine (aK _).mono ?_;rintro e w7 ⟨rfl,aC⟩;have aA:=aX.out.below aC;have aB:=aZ.out.below aC;have aQ:=jjQ (aO.out.trans (aC.mono aO.out.size));clear aC;have c0:=aA.c0;have c1:=aA.c1;have c2:=aA.c2;have c3:=aA.c3;have f0:=aA.f0;have f1:=aA.f1;have f2:=aA.f2;have f3:=aA.f3;have r0:=aB.c0;have r1:=aB.c1;have r2:=aB.c2;have r3:=aB.c3;clear aA aB))
  refine bodyPost_ret (v:=yDp m H F l) (by simp [results,Tryz.results49,go_sem,c0,c1,c2,c3]) rfl ⟨by rw [aF.out],?_⟩;exact (((aQ.out.setCell (Nat.le_refl _) _).setCell (Nat.le_refl _) _).setCell (Nat.le_refl _) _).setCell (Nat.le_refl _) _
 ·have aF:Hid (RR=rtZ):=by show _=_;rw [bG.out,if_neg aG]
  have hG:(!FM.toList == s.toList)=true:=by simp only [Bool.not_eq_true',beq_eq_false_iff_ne];intro hh;rw [ByteArray.toList_eq,ByteArray.toList_eq] at hh;exact aG (ByteArray.ext (Array.ext' hh))
  clear aG
  go_wp2_with (first | (go_at_call 5;refine (aK _).mono ?_;rintro e w7 ⟨rfl,aC⟩;have aA:=aX.out.below aC;have aB:=aZ.out.below aC;have aQ:=jjQ (aO.out.trans (aC.mono aO.out.size));clear aC;have c0:=aA.c0;have c1:=aA.c1;have c2:=aA.c2;have c3:=aA.c3;have f0:=aA.f0;have f1:=aA.f1;have f2:=aA.f2;have f3:=aA.f3;have r0:=aB.c0;have r1:=aB.c1;have r2:=aB.c2;have r3:=aB.c3;clear aA aB))
  refine bodyPost_ret (v:=yDp 0 0 0 0) (by simp [results,Tryz.results49,go_sem,c0,c1,c2,c3]) rfl ⟨by rw [aF.out];rfl,?_⟩;exact (((aQ.out.setCell (Nat.le_refl _) _).setCell (Nat.le_refl _) _).setCell (Nat.le_refl _) _).setCell (Nat.le_refl _) _
theorem ZkB (s:ByteArray) (n:Int) (w:World) (k l m:Int) (p:ByteArray) (b:Bool) (HS:∀ wx,Below w.heap.size w wx->Calls Tryz.prog 67 #[.string s,.int .i64 n] wx fun e w'=>e=.returned (.tuple #[QAw k l m p,.bool b])/\Below wx.heap.size wx w') (aH:p.size<=64) (aE:b=false\/p.size≠5) (aF:Hid (Zje s n=rtZ)):Calls Tryz.prog 49 #[.string s,.int .i64 n] w fun e w'=>e=.returned (rtV (Zje s n))/\Below w.heap.size w w':=by
 have aD:∀ o,Below w.heap.size w (w.alloc o):=fun o=>(Below.refl _ _).alloc (Nat.le_refl _) _
 cases b with
 | false =>
  ·clear aE
   go_enter Tryz.func49,Tryz.ntmps49;go_wp2_with (go_at_call 67;refine (HS _ (aD _)).mono ?_;rintro e w2 ⟨rfl,aB⟩;have aA:=jjQ ((B4.new w (.int .i64 0) (.int .i64 0) (.int .i64 0) (.int .i64 0) _).below aB);have aC:=jjQ ((aD _).trans (aB.mono (by simp)));clear aB;have c0:=fun o=>(aA.out.alloc o).c0;have c1:=fun o=>(aA.out.alloc o).c1;have c2:=fun o=>(aA.out.alloc o).c2;have c3:=fun o=>(aA.out.alloc o).c3;have f0:=fun o=>(aA.out.alloc o).f0;have f1:=fun o=>(aA.out.alloc o).f1;have f2:=fun o=>(aA.out.alloc o).f2;have f3:=fun o=>(aA.out.alloc o).f3);refine bodyPost_ret (v:=yDp 0 0 0 0) (by simp [results,Tryz.results49,go_sem,c0,c1,c2,c3]) rfl ⟨by rw [aF.out];rfl,?_⟩;exact ((((aC.out.alloc aC.out.size _).setCell (Nat.le_refl _) _).setCell (Nat.le_refl _) _).setCell (Nat.le_refl _) _).setCell (Nat.le_refl _) _
 | true =>
  ·have aG:((p.size:Int) != 5)=true:=by
    have h:=aE.resolve_left (by simp);simp;omega
   clear aE;go_enter Tryz.func49,Tryz.ntmps49;go_wp2_with (go_at_call 67;refine (HS _ (aD _)).mono ?_;rintro e w2 ⟨rfl,aB⟩;have aA:=jjQ ((B4.new w (.int .i64 0) (.int .i64 0) (.int .i64 0) (.int .i64 0) _).below aB);have aC:=jjQ ((aD _).trans (aB.mono (by simp)));clear aB;have c0:=fun o=>(aA.out.alloc o).c0;have c1:=fun o=>(aA.out.alloc o).c1;have c2:=fun o=>(aA.out.alloc o).c2;have c3:=fun o=>(aA.out.alloc o).c3;have f0:=fun o=>(aA.out.alloc o).f0;have f1:=fun o=>(aA.out.alloc o).f1;have f2:=fun o=>(aA.out.alloc o).f2;have f3:=fun o=>(aA.out.alloc o).f3);refine bodyPost_ret (v:=yDp 0 0 0 0) (by simp [results,Tryz.results49,go_sem,c0,c1,c2,c3]) rfl ⟨by rw [aF.out];rfl,?_⟩;exact ((((aC.out.alloc aC.out.size _).setCell (Nat.le_refl _) _).setCell (Nat.le_refl _) _).setCell (Nat.le_refl _) _).setCell (Nat.le_refl _) _
theorem xbj (s:ByteArray) (n:Int) (w:World) (ty:TypeId) (v:Value) (hv:w.cell? ⟨1,0,none⟩=some (.iface ty v)) (h0:w.cell? ⟨0,0,none⟩=some (.iface 183 (.agg #[.pointer (some ⟨2,142,none⟩)]))) (hg:1<w.heap.size):Calls Tryz.prog 49 #[.string s,.int .i64 n] w fun e w'=>e=.returned (rtV (Zje s n))/\Below w.heap.size w w':=by
 have HS:=fun wx (hb:Below w.heap.size w wx)=>vnl s n wx ty v ((hb.cell (p:=⟨1,0,none⟩) hg).trans hv) ((hb.cell (p:=⟨0,0,none⟩) (by show 0<_;omega)).trans h0) (by have:=hb.size;omega)
 cases hR:Jvc s n with
 | none =>
  rw [hR] at HS;exact ZkB s n w 0 0 0 ⟨#[]⟩ false HS (by decide) (.inl rfl) (by show _=_;unfold Zje;rw [hR])
 | some x =>
  obtain ⟨k,l,m,p⟩:=x;rw [hR] at HS
  by_cases h5:p.size=5
  ·exact xp4 s n w k l m p hR HS h5
  ·exact ZkB s n w k l m p true HS (v5k hR).2.2.2.2.2.2 (.inr h5) (by show _=_;unfold Zje;rw [hR];simp [h5])
theorem zUg (x:RtT) (w:World) (h:0<=x.1):Calls Tryz.prog 50 #[rtV x] w fun e w'=>e=.returned (.int .i64 (x.1 % 2))/\Below w.heap.size w w':=by
 obtain ⟨t,a,b,c⟩:=x;go_enter Tryz.func50,Tryz.ntmps50;go_wp2;go_ret;refine ⟨?_,(Below.refl _ _).alloc (Nat.le_refl _) _⟩;have:t.tmod 2=t % 2:=Int.tmod_eq_emod_of_nonneg h
 first | rfl | simp [this]
theorem yz5 (s:ByteArray) (a n:Int) (ha:a=0\/a=1):(if (Zje s n).1 % 2=a then Zje s n else rtZ)=(yVH s a n).getD rtZ:=by
 unfold Zje yVH
 cases Jvc s n with
 | none=>exact ite_self _
 | some x =>
  obtain ⟨k,l,m,p⟩:=x
  by_cases h1:p.size=5/\QCt m (ptH p) (ptF p) l n=s
  ·by_cases h2:m % 2=a
   ·simp [h1.1,h1.2,h2]
   ·simp [h1.1,h1.2,h2]
  ·simp only [if_neg h1]
   have h3:¬ (p.size=5/\QCt m (ptH p) (ptF p) l n=s/\m % 2=a):=fun h=>h1 ⟨h.1,h.2.1⟩
   rw [if_neg h3];exact ite_self _
theorem JMC (s:ByteArray) (n:Int):0<=(Zje s n).1:=by
 unfold Zje
 cases h:Jvc s n with
 | none=>simp [rtZ]
 | some x =>
  obtain ⟨k,l,m,p⟩:=x;have:=(v5k h).2.2.1;show 0<=(if p.size=5/\QCt m (ptH p) (ptF p) l n=s then (m,ptH p,ptF p,l) else rtZ).1
  split
  ·show 0<=m;omega
  ·simp [rtZ]
theorem q3p (v0 v1:Value) (x:List Int) (a n:Int) (w:World) (ha:a=0\/a=1) (aJ:x.length=64)
  (bG:∀ wx,Below w.heap.size w wx->Calls Tryz.prog 129 #[.agg #[v0,v1],.int .i64 a] wx fun e w'=>e=.returned (.tuple #[.agg (x.map (Value.int .u8)).toArray,.bool true])/\Below wx.heap.size wx w')
  (ty:TypeId) (v:Value) (hv:w.cell? ⟨1,0,none⟩=some (.iface ty v)) (h0:w.cell? ⟨0,0,none⟩=some (.iface 183 (.agg #[.pointer (some ⟨2,142,none⟩)]))) (hg:1<w.heap.size) :
  Calls Tryz.prog 28 #[.iface 103 (.agg #[v0,v1]),.int .i64 a,.int .i64 n] w fun e w'=>e=.returned (rtV ((yVH (strOfNums x) a n).getD rtZ))/\Below w.heap.size w w':=by
 have aQ:∀ o,Below w.heap.size w (w.alloc o):=fun o=>(Below.refl _ _).alloc (Nat.le_refl _) _
 rw [<-yz5 _ a n ha]
 have aR:=fun wx (hb:Below w.heap.size w wx)=>xbj (strOfNums x) n wx ty v ((hb.cell (p:=⟨1,0,none⟩) hg).trans hv) ((hb.cell (p:=⟨0,0,none⟩) (by show 0<_;omega)).trans h0) (by have:=hb.size;omega)
 have aM:=JMC (strOfNums x) n;obtain ⟨RR,bI⟩:∃ RR,Zje (strOfNums x) n=RR:=⟨_,rfl⟩;rw [bI] at aR aM ⊢;clear bI hv h0;obtain ⟨t,h,f,l⟩:=RR;have bJ:(x.map (Value.int .u8)).toArray.size=64:=by simp [aJ]
 have aO:Hid ((Tryz.prog.info? 86).map (·.size)=some (x.map (Value.int .u8)).length):=by show _=_;rw [List.length_map,aJ];kernel_rfl
 have bH:=fun k wx=>ZXb k v0 v1 wx
 obtain ⟨sx,aW⟩:∃ sx,Hid (sx=strOfNums x):=⟨_,hid rfl⟩;rw [<-aW.out] at aR;have bC:=hid (fun wx=>zUg (t,h,f,l) wx aM);have aL:=hid aR;have aN:=hid bG;clear aR bG
 by_cases he:t % 2=a
 ·have aP:(if ((t,h,f,l):RtT).1 % 2=a then ((t,h,f,l):RtT) else rtZ)=(t,h,f,l):=if_pos he
  rw [aP];clear aP;go_enter Tryz.func28,Tryz.ntmps28;go_wp2_with fail;refine (aN.out _ (aQ _)).mono ?_;rintro e w2 ⟨rfl,aF⟩;have aU:=hid ((B4.new w (.int .i64 0) (.int .i64 0) (.int .i64 0) (.int .i64 0) 24).below aF);have aK:=hid ((aQ (.cells #[.int .i64 0,.int .i64 0,.int .i64 0,.int .i64 0] 24)).trans (aF.mono (by simp)));clear aF bH
  go_wp2_with (first
   | (with_reducible refine JWC 86 _ _ rfl ?_;refine Xnw rfl 86 _ _ rfl (x.map (Value.int .u8)) (xgE x) rfl rfl _ _ (by rw [List.length_map,aJ];kernel_rfl) aO.out ?_;intro wx aC aH aY;have aX:=aC.text (P:=Tryz.prog) x 0 64 64 aJ (fun i hi=>by simp [List.getD,show i<x.length by omega]) 22 5 9 Tryz.underlying22 Tryz.underlying5 Tryz.underlying9;rw [<-aW.out] at aX;have aV:=hid (aU.out.below aH);have aI:=hid (aK.out.trans (aH.mono aK.out.size));clear aH aY aC)
   | (go_at_call 49;refine (aL.out _ aI.out).mono ?_;rintro e w3 ⟨rfl,aG⟩;have aS:=hid (aV.out.below aG);have aE:=hid (aI.out.trans (aG.mono aI.out.size));clear aG)
   | (go_at_call 50;refine (bC.out _).mono ?_;rintro e w4 ⟨rfl,aD⟩;have aT:=hid ((aS.out.alloc _).below aD);have aB:=(B4.new w3 (.int .i64 t) (.int .i64 h) (.int .i64 f) (.int .i64 l) 24).below aD;have aZ:=hid ((aE.out.alloc aE.out.size _).trans (aD.mono (aE.out.alloc aE.out.size _).size));clear aD;have r0:=aB.c0;have r1:=aB.c1;have r2:=aB.c2;have r3:=aB.c3;clear aB;have aA:=aT.out;have c0:=aA.c0;have c1:=aA.c1;have c2:=aA.c2;have c3:=aA.c3;have f0:=aA.f0;have f1:=aA.f1;have f2:=aA.f2;have f3:=aA.f3;clear aA))
  refine bodyPost_ret (v:=yDp t h f l) (by simp [results,Tryz.results28,go_sem,c0,c1,c2,c3]) rfl ⟨rfl,?_⟩;exact (((aZ.out.setCell (Nat.le_refl _) _).setCell (Nat.le_refl _) _).setCell (Nat.le_refl _) _).setCell (Nat.le_refl _) _
 ·have aP:(if ((t,h,f,l):RtT).1 % 2=a then ((t,h,f,l):RtT) else rtZ)=rtZ:=if_neg he
  rw [aP];clear aP;go_enter Tryz.func28,Tryz.ntmps28;go_wp2_with fail;refine (aN.out _ (aQ _)).mono ?_;rintro e w2 ⟨rfl,aF⟩;have aU:=hid ((B4.new w (.int .i64 0) (.int .i64 0) (.int .i64 0) (.int .i64 0) 24).below aF);have aK:=hid ((aQ (.cells #[.int .i64 0,.int .i64 0,.int .i64 0,.int .i64 0] 24)).trans (aF.mono (by simp)));clear aF bH
  go_wp2_with (first
   | (with_reducible refine JWC 86 _ _ rfl ?_;refine Xnw rfl 86 _ _ rfl (x.map (Value.int .u8)) (xgE x) rfl rfl _ _ (by rw [List.length_map,aJ];kernel_rfl) aO.out ?_;intro wx aC aH aY;have aX:=aC.text (P:=Tryz.prog) x 0 64 64 aJ (fun i hi=>by simp [List.getD,show i<x.length by omega]) 22 5 9 Tryz.underlying22 Tryz.underlying5 Tryz.underlying9;rw [<-aW.out] at aX;have aV:=hid (aU.out.below aH);have aI:=hid (aK.out.trans (aH.mono aK.out.size));clear aH aY aC)
   | (go_at_call 49;refine (aL.out _ aI.out).mono ?_;rintro e w3 ⟨rfl,aG⟩;have aS:=hid (aV.out.below aG);have aE:=hid (aI.out.trans (aG.mono aI.out.size));clear aG)
   | (go_at_call 50;refine (bC.out _).mono ?_;rintro e w4 ⟨rfl,aD⟩;have aT:=hid ((aS.out.alloc _).below aD);have aB:=(B4.new w3 (.int .i64 t) (.int .i64 h) (.int .i64 f) (.int .i64 l) 24).below aD;have aZ:=hid ((aE.out.alloc aE.out.size _).trans (aD.mono (aE.out.alloc aE.out.size _).size));clear aD;have r0:=aB.c0;have r1:=aB.c1;have r2:=aB.c2;have r3:=aB.c3;clear aB;have aA:=aT.out;have c0:=aA.c0;have c1:=aA.c1;have c2:=aA.c2;have c3:=aA.c3;have f0:=aA.f0;have f1:=aA.f1;have f2:=aA.f2;have f3:=aA.f3;clear aA))
  refine bodyPost_ret (v:=yDp 0 0 0 0) (by simp [results,Tryz.results28,go_sem,c0,c1,c2,c3]) rfl ⟨rfl,?_⟩;exact (((aZ.out.setCell (Nat.le_refl _) _).setCell (Nat.le_refl _) _).setCell (Nat.le_refl _) _).setCell (Nat.le_refl _) _
theorem yR3 (a:Option Addr) (ss:List ByteArray) (c:Nat) (a':Option Addr) (ws:List (Int×ByteArray)) (c':Nat) (n:Int) (w:World) (h:Strs w a ss) (h':Wrs w a' ws) (hl:ss.length<=1048576) (aG:ws.length<=1048576) (hs:∀ s∈ss,s.size<=1048576) (aE:∀ x∈ws,x.2.size<=1048576) (aC:¬ (vlG ss ws=true/\1<=n/\n<=8)) :
  Calls Tryz.prog 8 #[Zoj a ss.length c a' ws.length c',.int .i64 n] w fun e w'=>e=.returned (yDp 0 0 0 0)/\Below w.heap.size w w':=by
 have aB:∀ o1 o2,Below w.heap.size w ((w.alloc o1).alloc o2):=fun o1 o2=>((Below.refl _ _).alloc (Nat.le_refl _) _).alloc (by simp) _
 cases hok:vlG ss ws with
 | false =>
  clear aC;go_enter Tryz.func8,Tryz.ntmps8;go_wp2_with fail;refine (jU6 a ss c a' ws c' _ (h.below (aB _ _)) (h'.below (aB _ _)) hl aG hs aE).mono ?_;rw [hok];rintro e w1 ⟨rfl,aA⟩;have hr:=((B4.new (w.alloc (.cells #[.slice a ss.length c,.slice a' ws.length c'] 31)) (.int .i64 0) (.int .i64 0) (.int .i64 0) (.int .i64 0) 24).below aA);rw [World.size_alloc] at hr;have aD:=hid ((aB (.cells #[.slice a ss.length c,.slice a' ws.length c'] 31) (.cells #[.int .i64 0,.int .i64 0,.int .i64 0,.int .i64 0] 24)).trans (aA.mono (by simp<;>omega)));clear aA;have c0:=hr.c0;have c1:=hr.c1;have c2:=hr.c2;have c3:=hr.c3;have f0:=hr.f0;have f1:=hr.f1;have f2:=hr.f2;have f3:=hr.f3;clear hr;go_wp2;refine bodyPost_ret (v:=yDp 0 0 0 0) (by simp [results,Tryz.results8,go_sem,c0,c1,c2,c3]) rfl ⟨rfl,?_⟩;exact (((aD.out.setCell (by show _<=w.heap.size+1;omega) _).setCell (by show _<=w.heap.size+1;omega) _).setCell (by show _<=w.heap.size+1;omega) _).setCell (by show _<=w.heap.size+1;omega) _
 | true =>
  have hd:decide (1<=n/\n<=8)=false:=decide_eq_false (fun x=>aC ⟨hok,x⟩);clear aC;go_enter Tryz.func8,Tryz.ntmps8;go_wp2_with fail;refine (jU6 a ss c a' ws c' _ (h.below (aB _ _)) (h'.below (aB _ _)) hl aG hs aE).mono ?_;rw [hok];rintro e w1 ⟨rfl,aA⟩;have hr:=((B4.new (w.alloc (.cells #[.slice a ss.length c,.slice a' ws.length c'] 31)) (.int .i64 0) (.int .i64 0) (.int .i64 0) (.int .i64 0) 24).below aA);rw [World.size_alloc] at hr;have aD:=hid ((aB (.cells #[.slice a ss.length c,.slice a' ws.length c'] 31) (.cells #[.int .i64 0,.int .i64 0,.int .i64 0,.int .i64 0] 24)).trans (aA.mono (by simp<;>omega)));clear aA;have c0:=hr.c0;have c1:=hr.c1;have c2:=hr.c2;have c3:=hr.c3;have f0:=hr.f0;have f1:=hr.f1;have f2:=hr.f2;have f3:=hr.f3;clear hr
  go_wp2_with (first | (go_at_call 25;refine (jnI _ _).mono ?_;rw [hd];rintro e wz ⟨rfl,aF⟩;rw [aF];clear aF wz))
  refine bodyPost_ret (v:=yDp 0 0 0 0) (by simp [results,Tryz.results8,go_sem,c0,c1,c2,c3]) rfl ⟨rfl,?_⟩;exact (((aD.out.setCell (by show _<=w.heap.size+1;omega) _).setCell (by show _<=w.heap.size+1;omega) _).setCell (by show _<=w.heap.size+1;omega) _).setCell (by show _<=w.heap.size+1;omega) _
theorem Q5K (a:Option Addr) (ss:List ByteArray) (c:Nat) (a':Option Addr) (ws:List (Int×ByteArray)) (c':Nat) (n:Int) (w:World) (h:Strs w a ss) (h':Wrs w a' ws) (hl:ss.length<=1048576) (cU:ws.length<=1048576) (hs:∀ s∈ss,s.size<=1048576) (cY:∀ x∈ws,x.2.size<=1048576) (ty:TypeId) (v:Value) (hv:w.cell? ⟨1,0,none⟩=some (.iface ty v)) (h0:w.cell? ⟨0,0,none⟩=some (.iface 183 (.agg #[.pointer (some ⟨2,142,none⟩)]))) (hg:1<w.heap.size) (aS:vlG ss ws=true) (hn:1<=n/\n<=8) :
  Calls Tryz.prog 8 #[Zoj a ss.length c a' ws.length c',.int .i64 n] w fun e w'=>e=.returned (rtV (frD ss ws n))/\Below w.heap.size w w':=by
 have bI:∀ o1 o2,Below w.heap.size w ((w.alloc o1).alloc o2):=fun o1 o2=>((Below.refl _ _).alloc (Nat.le_refl _) _).alloc (by simp) _
 have hd:decide (1<=n/\n<=8)=true:=decide_eq_true hn;obtain ⟨aF,aG⟩:∃ aF,Hid (aF=frD ss ws n):=⟨_,hid rfl⟩;rw [<-aG.out];obtain ⟨⟨dV,bY,cO⟩,cV,hw⟩:=q67 aS;go_enter Tryz.func8,Tryz.ntmps8;go_wp2_with fail;refine (jU6 a ss c a' ws c' _ (h.below (bI _ _)) (h'.below (bI _ _)) hl cU hs cY).mono ?_;rw [aS];rintro e w1 ⟨rfl,aP⟩;have HX:=hid ((((Cx.new w (.slice a ss.length c) (.slice a' ws.length c') 31)).below (zE5 _ (.cells #[.int .i64 0,.int .i64 0,.int .i64 0,.int .i64 0] 24))).below aP);have bC:=((B4.new (w.alloc (.cells #[.slice a ss.length c,.slice a' ws.length c'] 31)) (.int .i64 0) (.int .i64 0) (.int .i64 0) (.int .i64 0) 24).below aP);rw [World.size_alloc] at bC;have cK:=hid bC;have aN:=hid ((bI (.cells #[.slice a ss.length c,.slice a' ws.length c'] 31) (.cells #[.int .i64 0,.int .i64 0,.int .i64 0,.int .i64 0] 24)).trans (aP.mono (by simp<;>omega)));clear aP bC;have q0:=HX.out.c0;have q1:=HX.out.c1
 go_wp2_with (first | (go_at_call 25;refine (jnI _ _).mono ?_;rw [hd];rintro e wz ⟨rfl,cE⟩;rw [cE];clear cE wz))
 refine (Xt0 a ss c a' ws c' _ (h.below aN.out) (h'.below aN.out) bY cO (fun s hs=>by have:=cV s hs;omega) (fun x hx=>by have:=of_decide_eq_true (hw x hx);omega)).mono ?_;rintro e w2 ⟨g,vv,rfl,cN,aI,eB,bG⟩;clear q0 q1
 obtain ⟨a2,c2,dL,cM⟩:∃ a2 c2,vv=.slice a2 (ZiU ws).length c2/\OwnS w2 a2 (qOX (ZiU ws)):=by
  rw [qOd];rcases yUO aI with ⟨e,h0⟩ | ⟨g2,cap,e,h1,h2,hr⟩
  ·have:ws=[]:=List.eq_nil_of_length_eq_zero h0
   subst this;exact ⟨none,0,e,.inl rfl⟩
  ·exact ⟨_,cap,e,.inr ⟨g2,rfl,hr⟩⟩
 subst dL;have bQ:=hid (Below.then aN.out (Nat.le_refl _) bG);have b7:=hid (cK.out.below bG);clear bG aI;go_wp2_with fail;refine (rdr _ _ _ _ _ _ _).mono ?_;rintro e w3 ⟨rfl,aH⟩;have aQ:=hid (Below.then bQ.out (Nat.le_refl _) aH);have aV:=hid (b7.out.below aH);have aY:=hid (cN.below aH);have HO:=hid (cM.below aH);clear cN cM aH
 have aD:∀ p∈ZiU ws,p.2.length=64:=fun p hp=>by
  obtain ⟨x,hx,rfl⟩:=List.mem_map.1 hp;have:=of_decide_eq_true (hw x hx);show (zFD x.2).length=64;rw [vgz];omega
 have aJ:Hld w3 a2 (ZiU ws):=by
  rcases HO.out with h0 | ⟨g2,rfl,h2⟩
  ·refine .inl (List.eq_nil_of_length_eq_zero ?_)
   have:=congrArg List.length h0;rw [Zqb _ aD,List.length_nil] at this;omega
  ·exact h2.hld aD
 obtain ⟨X,dO⟩:∃ X:Nat->List Int,Hid (X=fun m=>(zFG (ZiU ws) (ss.map zFD)).getD m []):=⟨_,hid rfl⟩
 have aX:Hid (∀ m:Nat,X m=(zFG (ZiU ws) (ss.map zFD)).getD m []):=fun m=>by rw [dO.out]
 have dN:Hid (∀ m:Nat,m<2->(X m).length=64):=fun m hm=>by
  rw [aX.out];exact yEE (Q4v _ _ aD aY.out.len) (by rw [JGl];simp;omega)
 have bV:Hid (∀ m:Nat,m<2->∀ wx,Below w3.heap.size w3 wx->Calls Tryz.prog 129 #[.agg #[.slice a2 (ZiU ws).length c2,.iface 69 (.slice (some ⟨g,0,none⟩) ss.length ss.length)],.int .i64 (m:Int)] wx fun e w'=>e=.returned (.tuple #[.agg ((X m).map (Value.int .u8)).toArray,.bool true])/\Below wx.heap.size wx w'):=fun m hm wx hb=>by
  rw [aX.out];exact qCy a2 (ZiU ws) c2 g ss.length ss.length m (ss.map zFD) wx (aJ.below hb) aD (fun p hp=>by obtain ⟨y,hy,rfl⟩:=List.mem_map.1 hp;exact (of_decide_eq_true (hw y hy)).1) (by rw [qOd];exact cO) (aY.out.below hb) (by simp) bY (by omega)
 have HF:Hid (aF=if JO4 (JO4 rtZ ((yVH (strOfNums (X 0)) 0 n).getD rtZ)) ((yVH (strOfNums (X 1)) 1 n).getD rtZ)=rtZ then ((0,0,1,0):RtT) else JO4 (JO4 rtZ ((yVH (strOfNums (X 0)) 0 n).getD rtZ)) ((yVH (strOfNums (X 1)) 1 n).getD rtZ)):=by
  show _=_
  have hX:∀ m:Nat,m<2->strOfNums (X m)=(xhE ws ss).getD m ByteArray.empty:=fun m hm=>by
   have cS:m<(zFG (ZiU ws) (ss.map zFD)).length:=by rw [JGl];simp;omega
   rw [aX.out,<-XLu];simp [q95,List.getD,cS]
  rw [hX 0 (by omega),hX 1 (by omega),j9W,aG.out];unfold frD;rw [if_pos ⟨aS,hn⟩]
 obtain ⟨cv,cP⟩:∃ cv,Hid (cv=Value.iface 69 (.slice (some ⟨g,0,none⟩) ss.length ss.length)):=⟨_,hid rfl⟩;rw [<-cP.out] at bV ⊢;clear HO aY aJ cK b7 aN bQ HX;have dI:w.heap.size<=w3.heap.size:=aQ.out.size;have aU:=aV.out.lt;obtain ⟨A0,bJ⟩:∃ A0,Hid (A0=(yVH (strOfNums (X 0)) 0 n).getD rtZ):=⟨_,hid rfl⟩;obtain ⟨A1,cC⟩:∃ A1,Hid (A1=(yVH (strOfNums (X 1)) 1 n).getD rtZ):=⟨_,hid rfl⟩;rw [<-bJ.out,<-cC.out] at HF;have cW:=hid (fun wx (hb:Below w.heap.size w wx)=>((hb.cell (p:=⟨1,0,none⟩) hg).trans hv));have dH:=hid (fun wx (hb:Below w.heap.size w wx)=>((hb.cell (p:=⟨0,0,none⟩) (by show 0<_;omega)).trans h0));clear hv h0;go_wp2_with fail;have aZ:=B4.new w3 (.int .i64 0) (.int .i64 0) (.int .i64 0) (.int .i64 0) 24;have aL:Below w3.heap.size w3 (w3.alloc (.cells #[.int .i64 0,.int .i64 0,.int .i64 0,.int .i64 0] 24)):=(Below.refl _ _).alloc (Nat.le_refl _) _;have dJ:(w3.alloc (.cells #[.int .i64 0,.int .i64 0,.int .i64 0,.int .i64 0] 24)).heap.size=w3.heap.size+1:=by simp
 obtain ⟨wb,cL⟩:∃ wb,wb=w3.alloc (.cells #[.int .i64 0,.int .i64 0,.int .i64 0,.int .i64 0] 24):=⟨_,rfl⟩;rw [<-cL] at aZ aL dJ ⊢;have dM:=hid aZ;have cZ:=hid aL;have dK:=hid (aV.out.below aL);have bW:=hid (aQ.out.trans (aL.mono aQ.out.size));clear cL aZ aL aV aQ;go_loopw [21] (fun i wr=>∃ (k:Nat) (b:RtT),k<=2/\i=.int .i64 (k:Int)/\Hid ((k=0->b=rtZ)/\(k=1->b=JO4 rtZ A0)/\(k=2->b=JO4 (JO4 rtZ A0) A1))/\Below w3.heap.size wb wr/\B4 wr w3.heap.size (.int .i64 b.1) (.int .i64 b.2.1) (.int .i64 b.2.2.1) (.int .i64 b.2.2.2)) (fun i _=>2-(intOf i).toNat)
 case atStart=>exact ⟨0,rtZ,by omega,rfl,⟨fun _=>rfl,fun h=>absurd h (by decide),fun h=>absurd h (by decide)⟩,Below.refl _ _,dM.out⟩
 case round =>
  obtain ⟨k,⟨b0,b1,b2,b3⟩,hk,rfl,aT,aB,aA⟩:=hrel;have aK:=hid aB;have aM:=hid aA;have dY:=aB.size
  by_cases cI:k<2
  ·have dQ:(k:Int)<2:=by omega
   have aE:=hid (bW.out.trans (aB.mono (by omega)));have b8:=hid (cZ.out.trans (aB.mono (Nat.le_refl _)));clear aB aA;obtain ⟨r,bH⟩:∃ r:RtT,Hid (r=(yVH (strOfNums (X k)) (k:Int) n).getD rtZ):=⟨_,hid rfl⟩
   have bZ:Hid (∀ b':RtT,b'=JO4 (b0,b1,b2,b3) r->(k+1=0->b'=rtZ)/\(k+1=1->b'=JO4 rtZ A0)/\(k+1=2->b'=JO4 (JO4 rtZ A0) A1)):=fun b' cH=>by
    refine ⟨fun h=>absurd h (by omega),fun h=>?_,fun h=>?_⟩
    ·have cT:k=0:=by omega
     subst cT;rw [cH,aT.out.1 rfl,bH.out,bJ.out];rfl
    ·have cQ:k=1:=by omega
     subst cQ;rw [cH,aT.out.2.1 rfl,bH.out,cC.out];rfl
   have aR:=hid (q3p (.slice a2 (ZiU ws).length c2) cv (X k) (k:Int) n wr (by omega) (dN.out k cI) (fun wx hb=>bV.out k cI wx (b8.out.trans (hb.mono (by have:=b8.out.size;omega)))) ty v (cW.out _ aE.out) (dH.out _ aE.out) (by have:=aE.out.size;omega));rw [<-bH.out] at aR;obtain ⟨t,h9,f,l⟩:=r;go_wp2_with fail;refine aR.out.mono ?_;rintro e w5 ⟨rfl,aO⟩;have dE:=hid (aK.out.trans (aO.mono (by omega)));have aC:=hid (aM.out.below aO);have dU:=aO.size;clear aO aK aM aR
   have c0:=fun o=>(aC.out.alloc o).c0
   have c1:=fun o=>(aC.out.alloc o).c1
   have c2:=fun o=>(aC.out.alloc o).c2
   have c3:=fun o=>(aC.out.alloc o).c3
   have f0:=fun o=>(aC.out.alloc o).f0
   have f1:=fun o=>(aC.out.alloc o).f1
   have f2:=fun o=>(aC.out.alloc o).f2
   have f3:=fun o=>(aC.out.alloc o).f3
   have bU:=hid (fun o=>dE.out.alloc (by omega) o)
   by_cases cF:b0<t
   ·have hm:=bZ.out (t,h9,f,l) (by simp [JO4,cF])
    have HM:=hid hm;clear hm;go_wp2;go_roundw
    case rel=>exact ⟨k+1,(t,h9,f,l),by omega,by go_num,HM.out,((((bU.out _).setCell (Nat.le_refl _) _).setCell (Nat.le_refl _) _).setCell (Nat.le_refl _) _).setCell (Nat.le_refl _) _,(aC.out.alloc _).set4 _ _ _ _⟩
    case measure=>simp [intOf];omega
   ·have hm:=bZ.out (b0,b1,b2,b3) (by simp [JO4,cF])
    have HM:=hid hm;clear hm;go_wp2;go_roundw
    case rel=>exact ⟨k+1,(b0,b1,b2,b3),by omega,by go_num,HM.out,bU.out _,aC.out.alloc _⟩
    case measure=>simp [intOf];omega
  ·have dR:k=2:=by omega
   subst dR
   have HE:Hid (aF=if ((b0,b1,b2,b3):RtT)=rtZ then (0,0,1,0) else (b0,b1,b2,b3)):=by
    show _=_;rw [HF.out,<-aT.out.2.2 rfl]
   have hr:=dK.out.past (N:=w3.heap.size) aU aB;have c0:=hr.c0;have c1:=hr.c1;have c2:=hr.c2;have c3:=hr.c3;have f0:=hr.f0;have f1:=hr.f1;have f2:=hr.f2;have f3:=hr.f3;have d0:=aA.c0;have d1:=aA.c1;have d2:=aA.c2;have d3:=aA.c3;have cJ:=hid (bW.out.trans (aB.mono (by omega)));clear hr aB aA
   by_cases hz:((b0,b1,b2,b3):RtT)=rtZ
   ·have aW:Hid (aF=(0,0,1,0)):=by show _=_;rw [HE.out,if_pos hz]
    have z0:b0=0:=congrArg (fun x:RtT=>x.1) hz;have z1:b1=0:=congrArg (fun x:RtT=>x.2.1) hz;have z2:b2=0:=congrArg (fun x:RtT=>x.2.2.1) hz;have z3:b3=0:=congrArg (fun x:RtT=>x.2.2.2) hz;clear hz HE;subst z0 z1 z2 z3;go_wp2;refine bodyPost_ret (v:=yDp 0 0 1 0) (by simp [results,Tryz.results8,go_sem,c0,c1,c2,c3]) rfl ⟨by rw [aW.out],?_⟩;exact (((cJ.out.setCell (by show _<=w.heap.size+1;omega) _).setCell (by show _<=w.heap.size+1;omega) _).setCell (by show _<=w.heap.size+1;omega) _).setCell (by show _<=w.heap.size+1;omega) _
   ·have aW:Hid (aF=(b0,b1,b2,b3)):=by show _=_;rw [HE.out,if_neg hz]
    have dZ:¬ (b0=0/\b1=0/\b2=0/\b3=0):=fun h=>hz (by rw [h.1,h.2.1,h.2.2.1,h.2.2.2];rfl)
    clear hz HE;go_wp2
    all_goals first
     | (exfalso;omega)
     | (refine bodyPost_ret (v:=yDp b0 b1 b2 b3) (by simp [results,Tryz.results8,go_sem,c0,c1,c2,c3]<;>omega) rfl ⟨by rw [aW.out],?_⟩;exact (((cJ.out.setCell (by show _<=w.heap.size+1;omega) _).setCell (by show _<=w.heap.size+1;omega) _).setCell (by show _<=w.heap.size+1;omega) _).setCell (by show _<=w.heap.size+1;omega) _)
theorem yAY (a:Option Addr) (ss:List ByteArray) (c:Nat) (a':Option Addr) (ws:List (Int×ByteArray)) (c':Nat) (n:Int) (w:World) (h:Strs w a ss) (h':Wrs w a' ws) (hl:ss.length<=1048576) (aA:ws.length<=1048576) (hs:∀ s∈ss,s.size<=1048576) (aB:∀ x∈ws,x.2.size<=1048576) (ty:TypeId) (v:Value) (hv:w.cell? ⟨1,0,none⟩=some (.iface ty v)) (h0:w.cell? ⟨0,0,none⟩=some (.iface 183 (.agg #[.pointer (some ⟨2,142,none⟩)]))) (hg:1<w.heap.size) :
  Calls Tryz.prog 8 #[Zoj a ss.length c a' ws.length c',.int .i64 n] w fun e w'=>e=.returned (rtV (frD ss ws n))/\Below w.heap.size w w':=by
 by_cases hy:vlG ss ws=true/\1<=n/\n<=8
 ·exact Q5K a ss c a' ws c' n w h h' hl aA hs aB ty v hv h0 hg hy.1 hy.2
 ·have e:frD ss ws n=rtZ:=by unfold frD;rw [if_neg hy]
  rw [e];exact yR3 a ss c a' ws c' n w h h' hl aA hs aB hy
end
end Go.Proofs.YtcdojnnkjeakmaaGreatDoor
