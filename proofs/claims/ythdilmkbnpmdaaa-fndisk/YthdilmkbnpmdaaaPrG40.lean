import Derived.Test.YthdilmkbnpmdaaaPrWoB
import Derived.Test.YthdilmkbnpmdaaaPrMvS
set_option maxHeartbeats 16000000
set_option maxRecDepth 8000
set_option linter.unusedVariables false
set_option linter.unusedSimpArgs false
namespace Go.Proofs.Ythdilmkbnpmdaaa
open Go.RowKit
@[reducible] def wA (x:Wo) (q:Wp):Array Value:=#[.int .i64 x.w,.slice q.a x.ss.length q.c,.slice q.a' x.ws.length q.c',.bool x.up,.int .i64 x.W,.int .i64 x.S,.int .i64 x.L,.int .i64 x.T,.int .i64 x.H,.int .i64 x.F,.int .i64 x.R,.int .i64 x.U,.int .i64 x.O,.slice q.s x.rs.length q.cs,.slice q.p x.P.length q.cp,.slice q.t x.ts.length q.ct]
@[reducible] def wL (x:Wo) (q:Wp):List Value:=[.int .i64 x.w,.slice q.a x.ss.length q.c,.slice q.a' x.ws.length q.c',.bool x.up,.int .i64 x.W,.int .i64 x.S,.int .i64 x.L,.int .i64 x.T,.int .i64 x.H,.int .i64 x.F,.int .i64 x.R,.int .i64 x.U,.int .i64 x.O,.slice q.s x.rs.length q.cs,.slice q.p x.P.length q.cp,.slice q.t x.ts.length q.ct]
theorem compact_s (W S L T H F R U O:Int) (a:Option Addr) (rs:List Pr) (c:Nat) (w:World) (h:Prs w a rs) (hl:rs.length<=1048576) (hs:∀ x∈rs,x.1.size<=1048576/\x.2.size<=1048576) :
  Calls Try.prog 66 #[storeV W S L T H F R U O a rs.length c] w fun x w'=>DnPost w w' x (compactD W S L T H F R U O rs):=by
 have HVS:=hid (fun w' h'=>vstore_s W S L T H F R U O a rs c w' h' hl hs)
 have hb0:∀ o1 o2,Below w.heap.size w ((w.alloc o1).alloc o2):=fun o1 o2=>((Below.refl _ _).alloc (Nat.le_refl _) _).alloc (by simp) _
 unfold storeV at HVS ⊢
 unfold compactD
 cases hok:storeOk W S L T H F R U O rs with
 | false =>
  rw [hok] at HVS
  simp only [Bool.false_eq_true,if_false]
  go_enter Try.func66,Try.ntmps66
  go_wp2_with (go_at_call 51;refine (HVS.out _ (h.below (hb0 _ _))).mono ?_;rintro x w2 ⟨rfl,hb2⟩;have HB2:=hid ((hb0 _ _).trans (hb2.mono (by simp<;>omega)));have hl2:w.heap.size+1<w2.heap.size:=Nat.lt_of_lt_of_le (by simp) hb2.size;have hl2a:w.heap.size<w2.heap.size:=Nat.lt_of_succ_lt hl2;have r1:=(row_at (w:=w.alloc (.cells #[.int .i64 W,.int .i64 S,.int .i64 L,.int .i64 T,.int .i64 H,.int .i64 F,.int .i64 R,.int .i64 U,.int .i64 O,.slice a rs.length c] 79)) (A:=#[.int .i64 0,.int .i64 0,.int .i64 0,.int .i64 0,.int .i64 0,.int .i64 0,.int .i64 0,.int .i64 0,.int .i64 0,.int .i64 0,.slice none 0 0,.slice none 0 0]) (t:=103) (g:=w.heap.size+1) (by simp)).below hb2;have d0:=r1.cell 0 _ rfl;have df0:=r1.froz 0 (by simp);have d1:=r1.cell 1 _ rfl;have df1:=r1.froz 1 (by simp);have d2:=r1.cell 2 _ rfl;have df2:=r1.froz 2 (by simp);have d3:=r1.cell 3 _ rfl;have df3:=r1.froz 3 (by simp);have d4:=r1.cell 4 _ rfl;have df4:=r1.froz 4 (by simp);have d5:=r1.cell 5 _ rfl;have df5:=r1.froz 5 (by simp);have d6:=r1.cell 6 _ rfl;have df6:=r1.froz 6 (by simp);have d7:=r1.cell 7 _ rfl;have df7:=r1.froz 7 (by simp);have d8:=r1.cell 8 _ rfl;have df8:=r1.froz 8 (by simp);have d9:=r1.cell 9 _ rfl;have df9:=r1.froz 9 (by simp);have d10:=r1.cell 10 _ rfl;have df10:=r1.froz 10 (by simp);have d11:=r1.cell 11 _ rfl;have df11:=r1.froz 11 (by simp);clear r1)
  refine bodyPost_ret (v:=dnV (noD 1) none 0 none 0) (by simp [results,Try.results66,go_sem,dnV,noD,d0,d1,d2,d3,d4,d5,d6,d7,d8,d9,d10,d11]) rfl (dn_no rfl ?_)
  iterate 12 (refine Below.setCell ?_ (by show w.heap.size<=w.heap.size+1;omega) _)
  exact HB2.out
 | true =>
  have hmv:=mvOk_of hok
  rw [hok] at HVS
  simp only [if_true]
  have HMV:=hid (fun w' h'=>move_s W S L T H F R U O a rs c w' h' hl hs hmv)
  obtain ⟨D,HD⟩:∃ D,Hid (D=moveD W S L T H F rs):=⟨_,hid rfl⟩
  rw [<-HD.out] at HMV ⊢
  clear HD
  obtain ⟨C0,W0,S0,L0,T0,H0,F0,R0,U0,O0,ds,os⟩:=D
  unfold storeV at HMV
  unfold DnPost dnV at HMV
  simp only at HMV
  go_enter Try.func66,Try.ntmps66
  go_wp2_with (first | (go_at_call 51;refine (HVS.out _ (h.below (hb0 _ _))).mono ?_;rintro x w2 ⟨rfl,hb2⟩;have HB2:=hid ((hb0 _ _).trans (hb2.mono (by simp<;>omega)));have hl2:w.heap.size+1<w2.heap.size:=Nat.lt_of_lt_of_le (by simp) hb2.size;have hl2a:w.heap.size<w2.heap.size:=Nat.lt_of_succ_lt hl2;have r0:=((row_new w #[.int .i64 W,.int .i64 S,.int .i64 L,.int .i64 T,.int .i64 H,.int .i64 F,.int .i64 R,.int .i64 U,.int .i64 O,.slice a rs.length c] 79).alloc (.cells #[.int .i64 0,.int .i64 0,.int .i64 0,.int .i64 0,.int .i64 0,.int .i64 0,.int .i64 0,.int .i64 0,.int .i64 0,.int .i64 0,.slice none 0 0,.slice none 0 0] 103)).below hb2;have r1:=(row_at (w:=w.alloc (.cells #[.int .i64 W,.int .i64 S,.int .i64 L,.int .i64 T,.int .i64 H,.int .i64 F,.int .i64 R,.int .i64 U,.int .i64 O,.slice a rs.length c] 79)) (A:=#[.int .i64 0,.int .i64 0,.int .i64 0,.int .i64 0,.int .i64 0,.int .i64 0,.int .i64 0,.int .i64 0,.int .i64 0,.int .i64 0,.slice none 0 0,.slice none 0 0]) (t:=103) (g:=w.heap.size+1) (by simp)).below hb2;have x0:=r0.cell 0 _ rfl;have xf0:=r0.froz 0 (by simp);have x1:=r0.cell 1 _ rfl;have xf1:=r0.froz 1 (by simp);have x2:=r0.cell 2 _ rfl;have xf2:=r0.froz 2 (by simp);have x3:=r0.cell 3 _ rfl;have xf3:=r0.froz 3 (by simp);have x4:=r0.cell 4 _ rfl;have xf4:=r0.froz 4 (by simp);have x5:=r0.cell 5 _ rfl;have xf5:=r0.froz 5 (by simp);have x6:=r0.cell 6 _ rfl;have xf6:=r0.froz 6 (by simp);have x7:=r0.cell 7 _ rfl;have xf7:=r0.froz 7 (by simp);have x8:=r0.cell 8 _ rfl;have xf8:=r0.froz 8 (by simp);have x9:=r0.cell 9 _ rfl;have xf9:=r0.froz 9 (by simp);have HR1:=hid r1;clear r0 r1) | (go_at_call 80;refine (HMV.out _ (h.below HB2.out)).mono ?_;rintro x w3 ⟨az,cz,bz,ez,rfl,hcz,hoz,hz1,hz2,hb3⟩;have r1:=HR1.out.below hb3;have e0:=r1.cell 0 _ rfl;have ef0:=r1.froz 0 (by simp);have e1:=r1.cell 1 _ rfl;have ef1:=r1.froz 1 (by simp);have e2:=r1.cell 2 _ rfl;have ef2:=r1.froz 2 (by simp);have e3:=r1.cell 3 _ rfl;have ef3:=r1.froz 3 (by simp);have e4:=r1.cell 4 _ rfl;have ef4:=r1.froz 4 (by simp);have e5:=r1.cell 5 _ rfl;have ef5:=r1.froz 5 (by simp);have e6:=r1.cell 6 _ rfl;have ef6:=r1.froz 6 (by simp);have e7:=r1.cell 7 _ rfl;have ef7:=r1.froz 7 (by simp);have e8:=r1.cell 8 _ rfl;have ef8:=r1.froz 8 (by simp);have e9:=r1.cell 9 _ rfl;have ef9:=r1.froz 9 (by simp);have e10:=r1.cell 10 _ rfl;have ef10:=r1.froz 10 (by simp);have e11:=r1.cell 11 _ rfl;have ef11:=r1.froz 11 (by simp);have hl3:=r1.lt;clear r1))
  have hs2:=HB2.out.size
  have hn1:∀ g,az=some ⟨g,0,none⟩->prcells ds≠[]->w.heap.size+1≠g:=fun g hg hne=>by have:=hz1 g (by subst hg;exact blk_pos _ _ _ (ne_of_prcells hne));omega
  have hn2:∀ g,bz=some ⟨g,0,none⟩->opcells os≠[]->w.heap.size+1≠g:=fun g hg hne=>by have:=hz2 g (by subst hg;exact blk_pos _ _ _ (ne_of_opcells hne));omega
  refine bodyPost_ret (v:=dnV ⟨C0,W0,S0,L0,T0,H0,F0,R0,U0,O0,ds,os⟩ az cz bz ez) (by simp [results,Try.results66,go_sem,dnV,e0,e1,e2,e3,e4,e5,e6,e7,e8,e9,e10,e11]) rfl ⟨az,cz,bz,ez,rfl,hcz,⟨?_,?_,hoz.ne⟩,?_,?_,?_⟩
  ·iterate 12 (refine OwnS.set' ?_ _ (fun g hg hne=>hn1 g hg hne) _)
   exact hoz.s
  ·iterate 12 (refine OwnS.set' ?_ _ (fun g hg hne=>hn2 g hg hne) _)
   exact hoz.p
  ·exact fun g hg=>by have:=hz1 g hg;omega
  ·exact fun g hg=>by have:=hz2 g hg;omega
  ·iterate 12 (refine Below.setCell ?_ (by show w.heap.size<=w.heap.size+1;omega) _)
   exact HB2.out.trans (hb3.mono hs2)
end Go.Proofs.Ythdilmkbnpmdaaa
