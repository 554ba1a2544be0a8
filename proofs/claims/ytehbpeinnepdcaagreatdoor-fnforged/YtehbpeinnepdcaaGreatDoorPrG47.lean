import Derived.Test.YtehbpeinnepdcaaGreatDoorPrRpL
import Derived.Test.YtehbpeinnepdcaaGreatDoorPrAs
import Derived.Test.YtehbpeinnepdcaaGreatDoorPrVStI
import Derived.Test.YtehbpeinnepdcaaGreatDoorPrMvS
set_option maxHeartbeats 16000000
set_option maxRecDepth 8000
set_option linter.unusedVariables false
set_option linter.unusedSimpArgs false
namespace Go.Proofs.YtehbpeinnepdcaaGreatDoor
open Go.RowKit
theorem X3w (s:ByteArray) (n:Int) (w:World) (ty:TypeId) (v:Value) (hv:w.cell? ⟨1,0,none⟩=some (.iface ty v)) (hg:1<w.heap.size):Calls Tryz.prog 32 #[.string s,.int .i64 n] w fun e w'=>(∃ E,e=.returned (prV E (Jvc s n)))/\Below w.heap.size w w':=by
 by_cases hn:1<=n/\n<=8
 ·obtain ⟨m,rfl⟩:∃ m:Nat,n=(m:Int):=⟨n.toNat,by omega⟩
  by_cases hs:s.size=64
  ·obtain ⟨fN,fK,fL,fM,fP⟩:=q0q s m hs (by omega) rfl
   have ln:(zFD s).length=64:=by rw [vgz,hs]
   have rg:=X8K s
   have aA:∀ o k,∀ y∈((zFD s).drop o).take k,0<=y/\y<=255:=fun o k y hy=>rg y (List.mem_of_mem_drop (List.mem_of_mem_take hy))
   have bN:=xOP 1 _ (by simp;omega) (aA (m+7) 1);have bK:=xOP 1 _ (by simp;omega) (aA m 1);have bL:=xOP 2 _ (by simp;omega) (aA (m+1) 2);have bM:=xOP 4 _ (by simp;omega) (aA (m+3) 4);rw [<-fN] at bN;rw [<-fK] at bK;rw [<-fL] at bL;rw [<-fM] at bM
   by_cases hN:rpN (s.extract m 64)+m<=56
   ·have h:=vMP s m _ _ _ _ _ w ty v hv hg hs (by omega) (by omega) fN hN fK fL fM fP bK.1 (by have:=bK.2;omega) bL.1 (by have:=bL.2;omega) bM.1 (by have:=bM.2;omega)
    have hR:Jvc s (m:Int)=if ZQp (rpK (s.extract m 64)) (rpL (s.extract m 64)) (rpM (s.extract m 64)) (rpP (s.extract m 64)) (m:Int)=s then some (rpK (s.extract m 64),rpL (s.extract m 64),rpM (s.extract m 64),rpP (s.extract m 64)) else none:=by
     unfold Jvc;rw [Int.toNat_natCast]
     by_cases hF:ZQp (rpK (s.extract m 64)) (rpL (s.extract m 64)) (rpM (s.extract m 64)) (rpP (s.extract m 64)) (m:Int)=s
     ·rw [if_pos hF,if_pos ⟨by omega,by omega,hs,by omega,hF⟩]
     ·rw [if_neg hF,if_neg (fun hh=>hF hh.2.2.2.2)]
    rw [hR];exact h
   ·rw [XRd (fun hh=>hN (by have:=hh.2.2.2.1;rw [Int.toNat_natCast] at this;omega))]
    exact Xs2 s m _ w ty v hv hg hs (by omega) (by omega) fN (by omega) (by have:=bN.2;omega)
  ·rw [XRd (fun hh=>hs hh.2.2.1)]
   exact v8A s m w ty v hv hg hn hs
 ·rw [XRd (fun hh=>hn ⟨hh.1,hh.2.1⟩)]
  exact vle s n w ty v hv hg hn
theorem QdO (e t:Addr) (aA:Value) (w:World) (hg:w.cell? ⟨0,0,none⟩=some (.iface 143 (.agg #[.pointer (some ⟨2,65,none⟩)]))) (aC:w.cell? t=some aA) (aB:w.frozen? t=false) (aD:t.block<w.heap.size) :
  Calls Tryz.prog 33 #[.iface 68 (.pointer (some e)),.iface 70 (.pointer (some t))] w fun ev w'=>ev=.returned (.bool true)/\Below t.block w w' :=
 (yXE e t aA w hg aC aB).mono fun ev w' h=>⟨h.1,by
  rw [h.2]
  exact (((((Below.refl t.block w).alloc (by omega) _).alloc (by simp;omega) _).alloc (by simp;omega) _).alloc (by simp;omega) _).setCell (Nat.le_refl _) _⟩
theorem q7S (t:Value) (w:World):Calls Tryz.prog 33 #[.nilIface,t] w fun e w'=>e=.returned (.bool false)/\Below w.heap.size w w' :=
 (qMK t w).mono fun e w' h=>⟨h.1,by rw [h.2];exact Below.refl _ _⟩
theorem RB.past {W w w':World} (h:RB W w) {B:Nat} (hB:W.heap.size<B) (hb:Below B w w'):RB W w':=by
 have hs:=h.size
 have hc:∀ i,w'.cell? ⟨W.heap.size,i,none⟩=w.cell? ⟨W.heap.size,i,none⟩:=fun i=>hb.cell (p:=⟨W.heap.size,i,none⟩) (by show W.heap.size<_;omega)
 have hf:∀ i,w'.frozen? ⟨W.heap.size,i,none⟩=w.frozen? ⟨W.heap.size,i,none⟩:=fun i=>hb.frozen (p:=⟨W.heap.size,i,none⟩) (by show W.heap.size<_;omega)
 exact ⟨Nat.le_trans hs hb.size,h.bel.trans (hb.mono (by omega)),(hc _).trans h.c0,(hc _).trans h.c1,(hc _).trans h.c2,(hc _).trans h.c3,(hf _).trans h.f0,(hf _).trans h.f1,(hf _).trans h.f2,(hf _).trans h.f3⟩
theorem vnl (s:ByteArray) (n:Int) (w:World) (ty:TypeId) (v:Value) (hv:w.cell? ⟨1,0,none⟩=some (.iface ty v)) (h0:w.cell? ⟨0,0,none⟩=some (.iface 143 (.agg #[.pointer (some ⟨2,65,none⟩)]))) (hg:1<w.heap.size):Calls Tryz.prog 13 #[.string s,.int .i64 n] w fun e w'=>e=.returned (rpV (Jvc s n))/\Below w.heap.size w w':=by
 obtain ⟨R,HR⟩:∃ R,Hid (R=Jvc s n):=⟨_,jjQ rfl⟩;rw [<-HR.out]
 have aH:∀ o,Below w.heap.size w (w.alloc o):=fun o=>(Below.refl _ _).alloc (Nat.le_refl _) _
 have aG:∀ o,(w.alloc o).cell? ⟨1,0,none⟩=some (.iface ty v):=fun o=>(World.cell?_alloc_past _ _ _ (by exact hg)).trans hv
 have HG:Hid (∀ w',Below w.heap.size w w'->w'.cell? ⟨0,0,none⟩=some (.iface 143 (.agg #[.pointer (some ⟨2,65,none⟩)]))):=fun w' hb=>(hb.cell (p:=⟨0,0,none⟩) (by show 0<_;omega)).trans h0
 have aE:=fun o=>X3w s n (w.alloc o) ty v (aG o) (by simp;omega)
 rw [<-HR.out] at aE
 cases R with
 | none =>
  simp only [prV] at aE;go_enter Tryz.func13,Tryz.ntmps13
  go_wp2_with (first | (go_at_call 32;refine (aE _).mono ?_;rintro e w2 ⟨⟨E,rfl⟩,aD⟩;have aC:=jjQ ((RB.new w _).below aD);clear aD) | (go_at_call 33;refine (QdO E ⟨w2.heap.size+1,0,none⟩ (.pointer none) _ (HG.out _ ((aC.out.alloc _).alloc _).bel) (by go_simp) (by go_simp) (by simp)).mono ?_;rintro e w4 ⟨rfl,aB⟩;have aA:=((aC.out.alloc _).alloc _).past (B:=w2.heap.size+1) (by have:=aC.out.size;omega) aB;clear aB;have c0:=aA.c0;have c1:=aA.c1;have c2:=aA.c2;have c3:=aA.c3;have f0:=aA.f0;have f1:=aA.f1;have f2:=aA.f2;have f3:=aA.f3;have aF:=jjQ aA;clear aA))
  refine bodyPost_ret (v:=.tuple #[QAw 0 0 0 ⟨#[]⟩,.bool false]) (by simp [results,Tryz.results13,go_sem,c0,c1,c2,c3]) rfl ⟨rfl,?_⟩;exact (((aF.out.bel.setCell (Nat.le_refl _) _).setCell (Nat.le_refl _) _).setCell (Nat.le_refl _) _).setCell (Nat.le_refl _) _
 | some x =>
  obtain ⟨k,l,m,p⟩:=x;simp only [prV] at aE;go_enter Tryz.func13,Tryz.ntmps13
  go_wp2_with (first | (go_at_call 32;refine (aE _).mono ?_;rintro e w2 ⟨⟨E,rfl⟩,aD⟩;have aC:=jjQ ((RB.new w _).below aD);clear aD) | (go_at_call 33;refine (q7S _ _).mono ?_;rintro e w4 ⟨rfl,aB⟩;have aA:=((aC.out.alloc _).alloc _).below aB;have hp:=((z8y w2 w2.heap.size rfl (.int .i64 k) (.int .i64 l) (.int .i64 m) (.string p) _).below ((Below.refl _ _).alloc (Nat.le_refl _) _) (by simp)).below aB (by simp<;>omega);clear aB;have p0:=hp.c0;have p1:=hp.c1;have p2:=hp.c2;have p3:=hp.c3;clear hp;have c0:=aA.c0;have c1:=aA.c1;have c2:=aA.c2;have c3:=aA.c3;have f0:=aA.f0;have f1:=aA.f1;have f2:=aA.f2;have f3:=aA.f3;have aF:=jjQ aA;clear aA))
  refine bodyPost_ret (v:=.tuple #[QAw k l m p,.bool true]) (by simp [results,Tryz.results13,go_sem,c0,c1,c2,c3]) rfl ⟨rfl,?_⟩;exact (((aF.out.bel.setCell (Nat.le_refl _) _).setCell (Nat.le_refl _) _).setCell (Nat.le_refl _) _).setCell (Nat.le_refl _) _
theorem xMy {w w':World} {base:Nat} {e:TypeId} {s:Nat} {v:Value} {n:Nat} {xs:List Value} (h:w.ownsRow base e s v n xs) (hk:∀ b,base<=b->b<w.heap.size->w'.heap[b]?=w.heap[b]?):w'.ownsRow base e s v n xs:=by
 refine ⟨h.1,?_⟩;rcases h.2 with hn | ⟨g,cap,aC,rfl,hb,aB,aA⟩
 ·exact .inl hn
 ·exact .inr ⟨g,cap,aC,rfl,hb,(hk g hb (Array.getElem?_eq_some_iff.1 aB).1).trans aB,aA⟩
theorem Row.below2 {w w':World} {N g:Nat} {cs:List Value} (h:Row w g cs) (hg:g<N) (hb:Below N w w'):Row w' g cs :=
 ⟨Nat.lt_of_lt_of_le h.lt hb.size,fun i v hv=>(hb.cell (p:=⟨g,i,none⟩) hg).trans (h.cell i v hv),fun i hi=>(hb.frozen (p:=⟨g,i,none⟩) hg).trans (h.froz i hi)⟩
theorem Jk1 (W S L T H F R U O:Int) (a:Option Addr) (rs:List Pr) (c:Nat) (w:World) (h:Prs w a rs) (hl:rs.length<=1048576) (hs:∀ x∈rs,x.1.size<=1048576/\x.2.size<=1048576) :
  Calls Tryz.prog 100 #[QPD W S L T H F R U O a rs.length c] w fun x w'=>vx0 w w' x (JfS W S L T H F R U O rs):=by
 have aE:=hid (fun w' h'=>ZHK W S L T H F R U O a rs c w' h' hl hs)
 have aF:∀ o1 o2,Below w.heap.size w ((w.alloc o1).alloc o2):=fun o1 o2=>((Below.refl _ _).alloc (Nat.le_refl _) _).alloc (by simp) _
 unfold QPD at aE ⊢;unfold JfS
 cases hok:jWr W S L T H F R U O rs with
 | false =>
  rw [hok] at aE;simp only [Bool.false_eq_true,if_false];go_enter Tryz.func100,Tryz.ntmps100;go_wp2_with (go_at_call 18;refine (aE.out _ (h.below (aF _ _))).mono ?_;rintro x w2 ⟨rfl,aA⟩;have aC:=hid ((aF _ _).trans (aA.mono (by simp<;>omega)));have aG:w.heap.size+1<w2.heap.size:=Nat.lt_of_lt_of_le (by simp) aA.size;have aH:w.heap.size<w2.heap.size:=Nat.lt_of_succ_lt aG;have r1:=(j6Q (w:=w.alloc (.cells #[.int .i64 W,.int .i64 S,.int .i64 L,.int .i64 T,.int .i64 H,.int .i64 F,.int .i64 R,.int .i64 U,.int .i64 O,.slice a rs.length c] 33)) (A:=#[.int .i64 0,.int .i64 0,.int .i64 0,.int .i64 0,.int .i64 0,.int .i64 0,.int .i64 0,.int .i64 0,.int .i64 0,.int .i64 0,.slice none 0 0,.slice none 0 0]) (t:=124) (g:=w.heap.size+1) (by simp)).below aA;have d0:=r1.cell 0 _ rfl;have bC:=r1.froz 0 (by simp);have d1:=r1.cell 1 _ rfl;have bG:=r1.froz 1 (by simp);have d2:=r1.cell 2 _ rfl;have bH:=r1.froz 2 (by simp);have d3:=r1.cell 3 _ rfl;have bI:=r1.froz 3 (by simp);have d4:=r1.cell 4 _ rfl;have bJ:=r1.froz 4 (by simp);have d5:=r1.cell 5 _ rfl;have bQ:=r1.froz 5 (by simp);have d6:=r1.cell 6 _ rfl;have bU:=r1.froz 6 (by simp);have d7:=r1.cell 7 _ rfl;have bV:=r1.froz 7 (by simp);have d8:=r1.cell 8 _ rfl;have bW:=r1.froz 8 (by simp);have d9:=r1.cell 9 _ rfl;have bY:=r1.froz 9 (by simp);have aN:=r1.cell 10 _ rfl;have aP:=r1.froz 10 (by simp);have aO:=r1.cell 11 _ rfl;have aQ:=r1.froz 11 (by simp);clear r1)
  refine bodyPost_ret (v:=dnV (noD 1) none 0 none 0) (by simp [results,Tryz.results100,go_sem,dnV,noD,d0,d1,d2,d3,d4,d5,d6,d7,d8,d9,aN,aO]) rfl (qJx rfl ?_)
  iterate 12 (refine Below.setCell ?_ (by show w.heap.size<=w.heap.size+1;omega) _)
  exact aC.out
 | true =>
  have aW:=vIj hok;rw [hok] at aE;simp only [if_true];have aD:=hid (fun w' h'=>yPV W S L T H F R U O a rs c w' h' hl hs aW);obtain ⟨D,HD⟩:∃ D,Hid (D=kGX W S L T H F rs):=⟨_,hid rfl⟩;rw [<-HD.out] at aD ⊢;clear HD;obtain ⟨C0,W0,S0,L0,T0,H0,F0,R0,U0,O0,ds,os⟩:=D;unfold QPD at aD;unfold vx0 dnV at aD;simp only at aD;go_enter Tryz.func100,Tryz.ntmps100
  go_wp2_with (first | (go_at_call 18;refine (aE.out _ (h.below (aF _ _))).mono ?_;rintro x w2 ⟨rfl,aA⟩;have aC:=hid ((aF _ _).trans (aA.mono (by simp<;>omega)));have aG:w.heap.size+1<w2.heap.size:=Nat.lt_of_lt_of_le (by simp) aA.size;have aH:w.heap.size<w2.heap.size:=Nat.lt_of_succ_lt aG;have r0:=((xER w #[.int .i64 W,.int .i64 S,.int .i64 L,.int .i64 T,.int .i64 H,.int .i64 F,.int .i64 R,.int .i64 U,.int .i64 O,.slice a rs.length c] 33).alloc (.cells #[.int .i64 0,.int .i64 0,.int .i64 0,.int .i64 0,.int .i64 0,.int .i64 0,.int .i64 0,.int .i64 0,.int .i64 0,.int .i64 0,.slice none 0 0,.slice none 0 0] 124)).below aA;have r1:=(j6Q (w:=w.alloc (.cells #[.int .i64 W,.int .i64 S,.int .i64 L,.int .i64 T,.int .i64 H,.int .i64 F,.int .i64 R,.int .i64 U,.int .i64 O,.slice a rs.length c] 33)) (A:=#[.int .i64 0,.int .i64 0,.int .i64 0,.int .i64 0,.int .i64 0,.int .i64 0,.int .i64 0,.int .i64 0,.int .i64 0,.int .i64 0,.slice none 0 0,.slice none 0 0]) (t:=124) (g:=w.heap.size+1) (by simp)).below aA;have x0:=r0.cell 0 _ rfl;have cM:=r0.froz 0 (by simp);have x1:=r0.cell 1 _ rfl;have cN:=r0.froz 1 (by simp);have x2:=r0.cell 2 _ rfl;have cO:=r0.froz 2 (by simp);have x3:=r0.cell 3 _ rfl;have cP:=r0.froz 3 (by simp);have x4:=r0.cell 4 _ rfl;have cQ:=r0.froz 4 (by simp);have x5:=r0.cell 5 _ rfl;have cS:=r0.froz 5 (by simp);have x6:=r0.cell 6 _ rfl;have cT:=r0.froz 6 (by simp);have x7:=r0.cell 7 _ rfl;have cU:=r0.froz 7 (by simp);have x8:=r0.cell 8 _ rfl;have cV:=r0.froz 8 (by simp);have x9:=r0.cell 9 _ rfl;have cW:=r0.froz 9 (by simp);have aM:=hid r1;clear r0 r1) | (go_at_call 109;refine (aD.out _ (h.below aC.out)).mono ?_;rintro x w3 ⟨az,cz,bz,ez,rfl,aV,aI,aK,aL,aJ⟩;have r1:=aM.out.below aJ;have e0:=r1.cell 0 _ rfl;have bZ:=r1.froz 0 (by simp);have e1:=r1.cell 1 _ rfl;have b7:=r1.froz 1 (by simp);have e2:=r1.cell 2 _ rfl;have b8:=r1.froz 2 (by simp);have e3:=r1.cell 3 _ rfl;have cC:=r1.froz 3 (by simp);have e4:=r1.cell 4 _ rfl;have cE:=r1.froz 4 (by simp);have e5:=r1.cell 5 _ rfl;have cF:=r1.froz 5 (by simp);have e6:=r1.cell 6 _ rfl;have cH:=r1.froz 6 (by simp);have e7:=r1.cell 7 _ rfl;have cI:=r1.froz 7 (by simp);have e8:=r1.cell 8 _ rfl;have cJ:=r1.froz 8 (by simp);have e9:=r1.cell 9 _ rfl;have cK:=r1.froz 9 (by simp);have aR:=r1.cell 10 _ rfl;have aT:=r1.froz 10 (by simp);have aS:=r1.cell 11 _ rfl;have aU:=r1.froz 11 (by simp);have cL:=r1.lt;clear r1))
  have aZ:=aC.out.size
  have aX:∀ g,az=some ⟨g,0,none⟩->qJS ds≠[]->w.heap.size+1≠g:=fun g hg aB=>by have:=aK g (by subst hg;exact qdd _ _ _ (Xnn aB));omega
  have aY:∀ g,bz=some ⟨g,0,none⟩->JFP os≠[]->w.heap.size+1≠g:=fun g hg aB=>by have:=aL g (by subst hg;exact qdd _ _ _ (JFT aB));omega
  refine bodyPost_ret (v:=dnV ⟨C0,W0,S0,L0,T0,H0,F0,R0,U0,O0,ds,os⟩ az cz bz ez) (by simp [results,Tryz.results100,go_sem,dnV,e0,e1,e2,e3,e4,e5,e6,e7,e8,e9,aR,aS]) rfl ⟨az,cz,bz,ez,rfl,aV,⟨?_,?_,aI.ne⟩,?_,?_,?_⟩
  ·iterate 12 (refine OwnS.set' ?_ _ (fun g hg aB=>aX g hg aB) _)
   exact aI.s
  ·iterate 12 (refine OwnS.set' ?_ _ (fun g hg aB=>aY g hg aB) _)
   exact aI.p
  ·exact fun g hg=>by have:=aK g hg;omega
  ·exact fun g hg=>by have:=aL g hg;omega
  ·iterate 12 (refine Below.setCell ?_ (by show w.heap.size<=w.heap.size+1;omega) _)
   exact aC.out.trans (aJ.mono aZ)
end Go.Proofs.YtehbpeinnepdcaaGreatDoor
