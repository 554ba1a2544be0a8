import Derived.Test.YthdilmkbnpmdaaaPrWdD0
set_option maxHeartbeats 16000000
namespace Go.Proofs.Ythdilmkbnpmdaaa
open Go.RowKit
set_option maxRecDepth 8000
set_option linter.unusedVariables false
set_option linter.unusedSimpArgs false
def WcPost (w w':World) (r:Ending) (x:Wo):Prop:=∃ q g g',r=.returned (worldW x q)/\WoF x w' (fun b=>w.heap.size<=b) q/\q.a=some ⟨g,0,none⟩/\q.a'=some ⟨g',0,none⟩/\w'.ownsRow w.heap.size 9 1 (.slice q.a x.ss.length q.c) x.ss.length (x.ss.map Value.string)/\w'.ownsRow w.heap.size 46 2 (.slice q.a' x.ws.length q.c') x.ws.length (wcells x.ws)/\g≠g'/\Below w.heap.size w w'
theorem grown_far {V w w':World} {r r':Option Nat} (h:V.grownBy w r) (hg:w.grownBy w' r') (hr:∀ g,r'=some g->V.heap.size<=g):V.grownBy w' r :=
 ⟨hg.os.trans h.os,hg.tape.trans h.tape,hg.output.trans h.output,Nat.le_trans h.size hg.size,fun i hi hne=>(hg.block i (Nat.lt_of_lt_of_le hi h.size) (fun e=>by have:=hr i e.symm;omega)).trans (h.block i hi hne)⟩
theorem grown_cell2 {V w w':World} {X b i:Nat} (h1:V.grownBy w (some X)) (h2:V.grownBy w' (some X)) (hb:b<V.heap.size) (hx:b≠X):w'.cell? ⟨b,i,none⟩=w.cell? ⟨b,i,none⟩ :=
 World.cell?_of_block (a:=⟨b,i,none⟩) ((h2.block b hb (fun e=>hx (by injection e))).trans (h1.block b hb (fun e=>hx (by injection e))).symm)
structure PcS (W w:World) (G:Nat->Prop) (v:Value) (P:List (List Pr)) (j:Nat) (news:List Value):Prop where
 own:w.ownsRow W.heap.size 77 1 v j news
 len:news.length=j
 low:∀ b,G b->W.heap.size<=b/\b<w.heap.size
 out:∀ b,v.ownBlock=some b->¬ G b
 ech:∀ i,i<j->∃ p c,news[i]?=some (.slice p (P.getD i []).length c)/\DepF w G (fun U=>Prs U p (P.getD i []))
section
variable {W w w':World} {G:Nat->Prop} {v:Value} {P:List (List Pr)} {j:Nat} {news:List Value}
theorem PcS.below (h:PcS W w G v P j news) (hb:Below w.heap.size w w'):PcS W w' G v P j news :=
 ⟨owns_below h.own hb,h.len,fun b k=>⟨(h.low b k).1,Nat.lt_of_lt_of_le (h.low b k).2 hb.size⟩,h.out,fun i hi=>by obtain ⟨p,c,k1,k2⟩:=h.ech i hi;exact ⟨p,c,k1,k2.below hb⟩⟩
theorem PcS.set (h:PcS W w G v P j news) (X i:Nat) (u:Value) (hX:X<W.heap.size):PcS W (w.setCell ⟨X,i,none⟩ u) G v P j news:=by
 have hg:=grown_setC w X i u
 refine ⟨ownsRow_setCell_other h.own (fun e=>by have:=(h.own.lt _ e).1;exact absurd this (Nat.not_le.2 hX)) u,h.len,fun b k=>⟨(h.low b k).1,by rw [World.size_setCell];exact (h.low b k).2⟩,h.out,fun k hk=>?_⟩
 obtain ⟨p,c,k1,k2⟩:=h.ech k hk
 exact ⟨p,c,k1,k2.grown hg (fun g e=>by cases e;exact fun k=>absurd (h.low _ k).1 (by omega))⟩
theorem PcS.push {g cap B:Nat} {p1:Option Addr} {c1:Nat} (h:PcS W w G v P j news) (hd:DepF w (fun b=>B<=b/\b<w.heap.size) (fun U=>Prs U p1 (P.getD j []))) (hB:W.heap.size<=B) (hv:∀ b,v.ownBlock=some b->b<B) (hown:w'.ownsRow W.heap.size 77 1 (.slice (some ⟨g,0,none⟩) (j+1) cap) (j+1) (news++[.slice p1 (P.getD j []).length c1])) (hg:w.grownBy w' v.ownBlock) (hat:v.ownBlock=some g\/w.heap.size<=g) :
  PcS W w' (fun b=>G b\/(B<=b/\b<w.heap.size)) (.slice (some ⟨g,0,none⟩) (j+1) cap) P (j+1) (news++[.slice p1 (P.getD j []).length c1]):=by
 have hno:∀ k,v.ownBlock=some k->¬ (G k\/(B<=k/\k<w.heap.size)):=fun k e hh=>by
  rcases hh with hh | hh
  ·exact h.out k e hh
  ·have:=hv k e;omega
 refine ⟨hown,by rw [List.length_append,h.len];rfl,fun b k=>?_,fun b e k=>?_,fun i hi=>?_⟩
 ·have:=hg.size
  rcases k with k | k
  ·have:=h.low b k;omega
  ·omega
 ·have e':g=b:=by injection e
  subst e'
  rcases hat with e2 | e2
  ·exact hno g e2 k
  ·rcases k with k | k
   ·have:=(h.low g k).2;omega
   ·omega
 ·by_cases h2:i<j
  ·obtain ⟨p,c,k1,k2⟩:=h.ech i h2
   exact ⟨p,c,by rw [List.getElem?_append_left (by rw [h.len];exact h2)];exact k1,(k2.mono (fun b _ k=>.inl k)).grown hg hno⟩
  ·obtain rfl:i=j:=by omega
   exact ⟨p1,c1,by rw [<-h.len];simp,(hd.mono (fun b _ k=>.inr k)).grown hg hno⟩
theorem PcS.pst (h:PcS W w G v P P.length news) (hW:W.heap.size<=w.heap.size) (a:Option Addr) (m c:Nat) (e:v=.slice a m c) (F:Nat->Prop) (hF:∀ b,W.heap.size<=b->F b):PstF w F a P:=by
 subst e
 by_cases h0:P=[]
 ·exact .inl h0
 ·rcases owns_forms h.own with ⟨h1,h2⟩ | ⟨g,cap,h1,h2⟩
  ·exact absurd (List.eq_nil_of_length_eq_zero h2) h0
  ·cases h1
   have hr:=owns_row h.own
   refine .inr ⟨g,0,rfl,hr.lt,hF g (h.own.lt g rfl).1,fun i hi=>?_⟩
   obtain ⟨p,c,k1,k2⟩:=h.ech i hi
   exact ⟨p,c,by rw [Nat.zero_add];exact hr.cell i _ k1,k2.mono (fun b _ k=>hF b (h.low b k).1)⟩
end
def PcL (V w:World) (OB:Nat) (row:Value->List Value) (P:List (List Pr)) (j:Nat):Prop:=∃ (G:Nat->Prop) (Y:Value) (news:List Value),PcS V w G Y P j news/\Dep w OB (OB+1) (fun U=>Row U OB (row Y))/\V.grownBy w (some OB)
theorem own_baseC {w:World} {B B':Nat} {e:TypeId} {k:Nat} {v:Value} {m:Nat} {cs:List Value} (h:w.ownsRow B e k v m cs) (hB:B'<=B):w.ownsRow B' e k v m cs:=by
 refine ⟨h.1,?_⟩
 rcases h.2 with h3 | ⟨g,cap,cur,k1,k2,k3⟩
 ·exact .inl h3
 ·exact .inr ⟨g,cap,cur,k1,Nat.le_trans hB k2,k3⟩
theorem ownS_ownC {w:World} {B:Nat} {e:TypeId} {k g c m:Nat} {cs:List Value} (h:w.ownsRow B e k (.slice (some ⟨g,0,none⟩) m c) m cs):OwnS w (some ⟨g,0,none⟩) cs:=.inr ⟨g,rfl,owns_row h⟩
theorem wcopy_s (x:Wo) (q:Wp) (w:World) (h:x.at w q) (hm:x.le 1048576):Calls Try.prog 35 #[worldW x q] w fun r w'=>WcPost w w' r x:=by
 have m1:=hm.l1
 have m2:=hm.l2
 have m3:=hm.l3
 have m4:=hm.l4
 have m5:=hm.l5
 have HM4:=hid hm.s4
 obtain ⟨i0,hi0,hz0,hz1,hz2⟩:=info_partsD info_strD
 have HI:=hid (And.intro hi0 (And.intro hz0 (And.intro hz1 hz2)))
 clear hi0 hz0 hz1 hz2
 obtain ⟨i1,hi0,hz0,hz1,hz2⟩:=info_partsD info_stD
 have HJ:=hid (And.intro hi0 (And.intro hz0 (And.intro hz1 hz2)))
 clear hi0 hz0 hz1 hz2 hm
 have CD:=hid (fun w' k1 k2=>copy_o q.a x.ss q.c q.a' x.ws q.c' w' k1 k2 m1 m2)
 unfold diskV at CD
 have CS:=hid (fun a rs c w' k1 k2=>copy_st_s a rs c w' k1 k2)
 unfold stV at CS
 unfold worldW
 have hE:Below w.heap.size w w:=Below.refl _ _
 go_enter Try.func35,Try.ntmps35
 go_upto_region 1 with fail
 generalize e_v1:w.alloc _=v1
 obtain ⟨hb,z_v1,bA⟩:=bx1 e_v1
 clear e_v1
 replace hE:=hE.trans (hb.mono hE.size)
 clear hb
 generalize e_v2:v1.alloc _=v2
 obtain ⟨hb,z_v2,bR⟩:=bx1 e_v2
 clear e_v2
 rw [z_v1] at bR z_v2
 replace bA:=bA.below hb
 replace hE:=hE.trans (hb.mono hE.size)
 clear hb
 obtain ⟨q_bA_0,q_bA_1,q_bA_2,q_bA_3,q_bA_4,q_bA_5,q_bA_6,q_bA_7,q_bA_8,q_bA_9,q_bA_10,q_bA_11,q_bA_12,q_bA_13,q_bA_14,q_bA_15,q_bA_l⟩:=c16 bA.now
 go_upto_region 2 with fail
 clear q_bA_0 q_bA_1 q_bA_2 q_bA_3 q_bA_4 q_bA_5 q_bA_6 q_bA_7 q_bA_8 q_bA_9 q_bA_10 q_bA_11 q_bA_12 q_bA_13 q_bA_14 q_bA_15 q_bA_l
 generalize e_v3:v2.alloc _=v3
 obtain ⟨hb,z_v3,bO⟩:=bx1 e_v3
 have s_v3:v2.heap.size+1<=v3.heap.size:=by omega
 clear e_v3 z_v3
 replace bA:=bA.below hb
 replace bR:=bR.below hb
 replace hE:=hE.trans (hb.mono hE.size)
 clear hb
 obtain ⟨OB,e_OB⟩:∃ y,y=w.heap.size+1+1:=⟨_,rfl⟩
 rw [z_v2,<-e_OB] at bO
 rw [<-e_OB]
 have lOB:w.heap.size+1<OB:=by omega
 have lOC:OB<v3.heap.size:=bO.now.lt
 clear e_OB
 obtain ⟨q_bA_0,q_bA_1,q_bA_2,q_bA_3,q_bA_4,q_bA_5,q_bA_6,q_bA_7,q_bA_8,q_bA_9,q_bA_10,q_bA_11,q_bA_12,q_bA_13,q_bA_14,q_bA_15,q_bA_l⟩:=c16 bA.now
 go_wp2_with fail
 clear q_bA_0 q_bA_1 q_bA_2 q_bA_3 q_bA_4 q_bA_5 q_bA_6 q_bA_7 q_bA_8 q_bA_9 q_bA_10 q_bA_11 q_bA_12 q_bA_13 q_bA_14 q_bA_15 q_bA_l
 refine (CD.out _ (h.below hE).h1 (h.below hE).h2).mono ?_
 rintro e v4 ⟨g,c1,g',c1',rfl,oS,oW,hne,hb⟩
 have s_v4:v3.heap.size<=v4.heap.size:=hb.size
 replace bA:=bA.below hb
 replace bR:=bR.below hb
 replace bO:=bO.below hb
 replace hE:=hE.trans (hb.mono hE.size)
 have dS:=dep_ownsRow oS
 have dW:=dep_ownsRow oW
 have lD:OB<v3.heap.size:=by omega
 clear oS oW
 clear hb
 unfold diskV
 obtain ⟨q_bO_0,q_bO_1,q_bO_2,q_bO_3,q_bO_4,q_bO_5,q_bO_6,q_bO_7,q_bO_8,q_bO_9,q_bO_10,q_bO_11,q_bO_12,q_bO_13,q_bO_14,q_bO_15⟩:=bO.now.k16
 obtain ⟨f_bO_0,f_bO_1,f_bO_2,f_bO_3,f_bO_4,f_bO_5,f_bO_6,f_bO_7,f_bO_8,f_bO_9,f_bO_10,f_bO_11,f_bO_12,f_bO_13,f_bO_14,f_bO_15⟩:=bO.now.z16
 have q_bO_l:=bO.now.lt
 go_upto_region 3 with fail
 clear q_bO_0 f_bO_0 q_bO_1 f_bO_1 q_bO_2 f_bO_2 q_bO_3 f_bO_3 q_bO_4 f_bO_4 q_bO_5 f_bO_5 q_bO_6 f_bO_6 q_bO_7 f_bO_7 q_bO_8 f_bO_8 q_bO_9 f_bO_9 q_bO_10 f_bO_10 q_bO_11 f_bO_11 q_bO_12 f_bO_12 q_bO_13 f_bO_13 q_bO_14 f_bO_14 q_bO_15 f_bO_15 q_bO_l
 generalize e_v5:((v4.setCell _ _).setCell _ _)=v5
 have hgw:v4.grownBy v5 (some (OB)):=by rw [<-e_v5];exact grown_set (grown_set (World.grownBy.refl _ _) _ _) _ _
 have r_new:=e_v5 ▸ ((bO.now.set 1 (by simp) (.slice (some ⟨g,0,none⟩) x.ss.length c1)).set 2 (by simp) (.slice (some ⟨g',0,none⟩) x.ws.length c1'))
 have s_v5:v4.heap.size<=v5.heap.size:=hgw.size
 have hgr:∀ g,(some (OB):Option Nat)=some g->OB<=g/\g<OB+1:=fun g hg=>by injection hg with hg;omega
 clear e_v5
 replace bA:=bA.grown hgw (fun g hg=>by have:=hgr g hg;omega)
 replace bR:=bR.grown hgw (fun g hg=>by have:=hgr g hg;omega)
 replace dS:=dS.grown hgw (fun g hg=>by have:=hgr g hg;omega)
 replace dW:=dW.grown hgw (fun g hg=>by have:=hgr g hg;omega)
 replace hE:=hE.trans (grown_below hgw hE.size (fun g hg=>by have:=hgr g hg;omega))
 have l_new:=r_new.lt
 clear bO
 have bO:=dep_at r_new
 clear r_new hgw hgr l_new
 obtain ⟨q_bA_0,q_bA_1,q_bA_2,q_bA_3,q_bA_4,q_bA_5,q_bA_6,q_bA_7,q_bA_8,q_bA_9,q_bA_10,q_bA_11,q_bA_12,q_bA_13,q_bA_14,q_bA_15,q_bA_l⟩:=c16 bA.now
 go_wp2_with fail
 clear q_bA_0 q_bA_1 q_bA_2 q_bA_3 q_bA_4 q_bA_5 q_bA_6 q_bA_7 q_bA_8 q_bA_9 q_bA_10 q_bA_11 q_bA_12 q_bA_13 q_bA_14 q_bA_15 q_bA_l
 refine (CS.out q.s x.rs q.cs _ (h.below hE).h3 m3).mono ?_
 rintro e v6 ⟨s1,sc1,rfl,hsc,oP,hgp,hb⟩
 have s_v6:v5.heap.size<=v6.heap.size:=hb.size
 replace bA:=bA.below hb
 replace bR:=bR.below hb
 replace bO:=bO.below hb
 replace dS:=dS.below hb
 replace dW:=dW.below hb
 replace hE:=hE.trans (hb.mono hE.size)
 have dP:=dep_own (lo:=v5.heap.size) oP ne_of_prcells hgp
 clear oP hgp hsc
 clear hb
 unfold stV
 obtain ⟨q_bO_0,q_bO_1,q_bO_2,q_bO_3,q_bO_4,q_bO_5,q_bO_6,q_bO_7,q_bO_8,q_bO_9,q_bO_10,q_bO_11,q_bO_12,q_bO_13,q_bO_14,q_bO_15⟩:=bO.now.k16
 obtain ⟨f_bO_0,f_bO_1,f_bO_2,f_bO_3,f_bO_4,f_bO_5,f_bO_6,f_bO_7,f_bO_8,f_bO_9,f_bO_10,f_bO_11,f_bO_12,f_bO_13,f_bO_14,f_bO_15⟩:=bO.now.z16
 have q_bO_l:=bO.now.lt
 go_upto_region 4 with fail
 clear q_bO_0 f_bO_0 q_bO_1 f_bO_1 q_bO_2 f_bO_2 q_bO_3 f_bO_3 q_bO_4 f_bO_4 q_bO_5 f_bO_5 q_bO_6 f_bO_6 q_bO_7 f_bO_7 q_bO_8 f_bO_8 q_bO_9 f_bO_9 q_bO_10 f_bO_10 q_bO_11 f_bO_11 q_bO_12 f_bO_12 q_bO_13 f_bO_13 q_bO_14 f_bO_14 q_bO_15 f_bO_15 q_bO_l
 generalize e_v7:(v6.setCell _ _)=v7
 have hgw:v6.grownBy v7 (some (OB)):=by rw [<-e_v7];exact grown_set (World.grownBy.refl _ _) _ _
 have r_new:=e_v7 ▸ (bO.now.set 13 (by simp) (.slice s1 x.rs.length sc1))
 have s_v7:v6.heap.size<=v7.heap.size:=hgw.size
 have hgr:∀ g,(some (OB):Option Nat)=some g->OB<=g/\g<OB+1:=fun g hg=>by injection hg with hg;omega
 clear e_v7
 replace bA:=bA.grown hgw (fun g hg=>by have:=hgr g hg;omega)
 replace bR:=bR.grown hgw (fun g hg=>by have:=hgr g hg;omega)
 replace dS:=dS.grown hgw (fun g hg=>by have:=hgr g hg;omega)
 replace dW:=dW.grown hgw (fun g hg=>by have:=hgr g hg;omega)
 replace dP:=dP.grown hgw (fun g hg=>by have:=hgr g hg;omega)
 replace hE:=hE.trans (grown_below hgw hE.size (fun g hg=>by have:=hgr g hg;omega))
 have l_new:=r_new.lt
 clear bO
 have bO:=dep_at r_new
 clear r_new hgw hgr l_new
 obtain ⟨q_bO_0,q_bO_1,q_bO_2,q_bO_3,q_bO_4,q_bO_5,q_bO_6,q_bO_7,q_bO_8,q_bO_9,q_bO_10,q_bO_11,q_bO_12,q_bO_13,q_bO_14,q_bO_15⟩:=bO.now.k16
 obtain ⟨f_bO_0,f_bO_1,f_bO_2,f_bO_3,f_bO_4,f_bO_5,f_bO_6,f_bO_7,f_bO_8,f_bO_9,f_bO_10,f_bO_11,f_bO_12,f_bO_13,f_bO_14,f_bO_15⟩:=bO.now.z16
 have q_bO_l:=bO.now.lt
 go_upto_region 5 with fail
 clear q_bO_0 f_bO_0 q_bO_1 f_bO_1 q_bO_2 f_bO_2 q_bO_3 f_bO_3 q_bO_4 f_bO_4 q_bO_5 f_bO_5 q_bO_6 f_bO_6 q_bO_7 f_bO_7 q_bO_8 f_bO_8 q_bO_9 f_bO_9 q_bO_10 f_bO_10 q_bO_11 f_bO_11 q_bO_12 f_bO_12 q_bO_13 f_bO_13 q_bO_14 f_bO_14 q_bO_15 f_bO_15 q_bO_l
 obtain ⟨PB,e_PB⟩:∃ y,y=v7.heap.size:=⟨_,rfl⟩
 rw [<-e_PB]
 generalize e_v8:(v7.setCell _ _)=v8
 have hgw:v7.grownBy v8 (some (OB)):=by rw [<-e_v8];exact grown_set (World.grownBy.refl _ _) _ _
 have r_new:=e_v8 ▸ (bO.now.set 14 (by simp) (.slice (some ⟨PB,0,none⟩) 0 0))
 have s_v8:v7.heap.size<=v8.heap.size:=hgw.size
 have hgr:∀ g,(some (OB):Option Nat)=some g->OB<=g/\g<OB+1:=fun g hg=>by injection hg with hg;omega
 have zs:v8.heap.size=v7.heap.size:=by rw [<-e_v8,World.size_setCell]
 clear e_v8
 replace bA:=bA.grown hgw (fun g hg=>by have:=hgr g hg;omega)
 replace bR:=bR.grown hgw (fun g hg=>by have:=hgr g hg;omega)
 replace dS:=dS.grown hgw (fun g hg=>by have:=hgr g hg;omega)
 replace dW:=dW.grown hgw (fun g hg=>by have:=hgr g hg;omega)
 replace dP:=dP.grown hgw (fun g hg=>by have:=hgr g hg;omega)
 replace hE:=hE.trans (grown_below hgw hE.size (fun g hg=>by have:=hgr g hg;omega))
 have l_new:=r_new.lt
 clear bO
 have bO:=dep_at r_new
 clear r_new hgw hgr l_new
 have hOS:=World.ownsRow_lit (w:=v8) (e:=77) (size:=1) (base:=v8.heap.size) #[] 0 (Nat.le_refl _) (by simp) (by simp)
 generalize e_v9:v8.alloc _=v9
 have hb:Below v8.heap.size v8 v9:=by rw [<-e_v9];exact below_nwD _ _
 rw [e_v9] at hOS
 have zs2:v9.heap.size=v8.heap.size+1:=by rw [<-e_v9];simp
 clear e_v9
 have hG0:v8.grownBy v9 (some OB):=grown_of_below _ hb
 have hb9:=hb
 clear hb
 have hP0:PcS v8 v9 (fun _=>False) (.slice (some ⟨PB,0,none⟩) 0 0) x.P 0 []:=⟨by rw [<-zs] at e_PB;rw [e_PB];exact hOS,rfl,fun b k=>k.elim,fun b _ k=>k.elim,fun i hi=>absurd hi (by omega)⟩
 have lP1:OB<v8.heap.size:=by omega
 have bO9:=bO.below hb9
 have HZ2:=hid zs2
 clear hOS zs zs2 e_PB
 go_wp2
 go_loopw [4] (fun iv wr=>∃ (j:Nat),j<=x.P.length/\iv=.int .i64 (j:Int)/\PcL v8 wr OB (fun Y=>[.int .i64 x.w,.slice (some ⟨g,0,none⟩) x.ss.length c1,.slice (some ⟨g',0,none⟩) x.ws.length c1',.bool x.up,.int .i64 x.W,.int .i64 x.S,.int .i64 x.L,.int .i64 x.T,.int .i64 x.H,.int .i64 x.F,.int .i64 x.R,.int .i64 x.U,.int .i64 x.O,.slice s1 x.rs.length sc1,Y,.slice q.t x.ts.length q.ct]) x.P j) (fun iv _=>x.P.length-(intOf iv).toNat)
 case atStart=>exact ⟨0,Nat.zero_le _,rfl,⟨_,_,[],hP0,bO9,hG0⟩⟩
 case round =>
  clear hP0 bO9 hG0 hb9
  obtain ⟨j,hj,rfl,HREL⟩:=hrel
  obtain ⟨G,Y,news,hP,bO',hG⟩:=HREL
  replace bO':Dep wr OB (OB+1) (fun U=>Row U OB [.int .i64 x.w,.slice (some ⟨g,0,none⟩) x.ss.length c1,.slice (some ⟨g',0,none⟩) x.ws.length c1',.bool x.up,.int .i64 x.W,.int .i64 x.S,.int .i64 x.L,.int .i64 x.T,.int .i64 x.H,.int .i64 x.F,.int .i64 x.R,.int .i64 x.U,.int .i64 x.O,.slice s1 x.rs.length sc1,Y,.slice q.t x.ts.length q.ct]):=bO'
  clear bO
  obtain ⟨ya,yc,rfl⟩:=owns_slice hP.own
  have hs1:=hG.size
  have hEr:Below w.heap.size w wr:=hE.trans (grown_below hG hE.size (fun g hg=>by injection hg with hg;omega))
  have rA:=(bA.grown hG (fun g hg=>by injection hg with hg;omega)).now
  have q14:=rA.cell 14 _ rfl
  have qal:=rA.lt
  have HEr:=hid hEr
  have HG:=hid hG
  have HP:=hid hP
  have HO:=hid bO'
  clear hG hP bO' hEr
  by_cases hlt:j<x.P.length
  ·have hlt':(j:Int)<(x.P.length:Int):=by omega
   have hj0:(0:Int)<=(j:Int):=by omega
   have hw4:IntKind.i64.wrap ((j:Int)+1)=((j+1:Nat):Int):=by rw [wrap_idD _ (by omega) (by omega)];omega
   obtain ⟨pb,po,p1,pc1,hpa,hpl0,hpc0,HPR⟩:=h.h4.at hlt
   have hsw:=HEr.out.size
   have hpl:pb<wr.heap.size:=by omega
   have hpc:=(HEr.out.cell (p:=⟨pb,po+j,none⟩) hpl0).trans hpc0
   clear hpc0
   have hle1:=(HM4.out _ (show x.P.getD j []∈x.P by rw [List.getD,List.getElem?_eq_getElem hlt];exact List.getElem_mem hlt)).1
   obtain ⟨n1,HN1⟩:∃ y,Hid (y=x.P.getD j []):=⟨_,hid rfl⟩
   rw [<-HN1.out] at hpc hle1
   have HPR':=HPR.out.below HEr.out
   rw [<-HN1.out] at HPR'
   have HPQ:=hid HPR'
   clear HPR HPR'
   rw [hpa] at q14
   clear rA
   have HK:Hid (∀ U,Below wr.heap.size wr U->U.cell? ⟨w.heap.size,14,none⟩=some (.slice (some ⟨pb,po,none⟩) x.P.length q.cp)/\U.cell? ⟨pb,po+j,none⟩=some (.slice p1 n1.length pc1)):=fun U hb=>⟨(hb.cell (p:=⟨w.heap.size,14,none⟩) qal).trans q14,(hb.cell (p:=⟨pb,po+j,none⟩) hpl).trans hpc⟩
   go_upto_region 8 with fail
   refine wp_region_held_drew (S:=fun w'=>w'.cell? ⟨w.heap.size,14,none⟩=some (.slice (some ⟨pb,po,none⟩) x.P.length q.cp)/\w'.cell? ⟨pb,po+j,none⟩=some (.slice p1 n1.length pc1)) (by kernel_rfl) (HK.out _ (Below.refl _ _).drew) (fun hHe=>?_)
   refine TY 0 (.pointer (some ⟨OB,14,none⟩)) rfl hHe ?_
   simp only [PS]
   refine TY 2 (.pointer (some ⟨w.heap.size,14,none⟩)) rfl hHe ?_
   simp only [PS]
   refine TY 3 (.slice (some ⟨pb,po,none⟩) x.P.length q.cp) rfl hHe ?_
   simp only [PS]
   refine TY 4 (.int .i64 (j:Int)) rfl hHe ?_
   simp only [PS]
   refine TY 5 (.pointer (some ⟨pb,po+j,none⟩)) rfl hHe ?_
   simp only [PS]
   refine TY 6 (.agg #[.slice p1 n1.length pc1]) rfl hHe ?_
   simp only [PS]
   refine wpAnyH_ready (rs:=[1,7]) (by kernel_rfl) (by simp) ?_
   refine AllReadyH.cons rfl (fun Kq hKq=>?_) (AllReadyH.cons rfl (fun Kq hKq=>?_) AllReadyH.nil)
   ·have l14:=(HO.out.below (Below.refl _ _).drew).now.cell 14 _ rfl
    go_simp
    refine hKq.out _ _ hHe (fun _=>?_)
    try simp only [PS]
    refine RD 7 rfl (fun Kq hKq=>?_)
    obtain ⟨y0,e_y0⟩:∃ y,y=wr.drew:=⟨_,rfl⟩
    rw [<-e_y0]
    have hA0:Below wr.heap.size wr y0:=by rw [e_y0];exact (Below.refl _ _).drew
    clear e_y0
    refine step_call (by rfl) 40 #[.agg #[.slice p1 n1.length pc1]] (by go_simp) (CS.out p1 n1 pc1 _ (HPQ.out.below hA0) hle1) ?_
    rintro e y1 ⟨s2,sc2,rfl,hsc2,oP2,hgp2,hb0⟩
    refine ⟨_,rfl,?_⟩
    have hA1:=hA0.trans (hb0.mono hA0.size)
    have dP2:=dep_own (lo:=y0.heap.size) oP2 ne_of_prcells hgp2
    clear oP2 hgp2 hsc2
    refine hKq.out _ _ (HK.out _ hA1) (fun hHd2=>?_)
    try simp only [PS]
    refine RD 8 rfl (fun Kq hKq=>?_)
    go_simp
    have hb1:=below_nwD y1 (.cells #[.slice s2 n1.length sc2] 77)
    have rN:=row_new y1 #[.slice s2 n1.length sc2] 77
    obtain ⟨y2,e_n⟩:∃ y,y=y1.alloc (.cells #[.slice s2 n1.length sc2] 77):=⟨_,rfl⟩
    obtain ⟨NB,e_b⟩:∃ y,y=y1.heap.size:=⟨_,rfl⟩
    rw [<-e_n] at hb1 rN ⊢
    rw [<-e_b] at rN ⊢
    have hA2:=hA1.trans (hb1.mono hA1.size)
    have dP2:=dP2.below hb1
    clear e_n e_b
    refine hKq.out _ _ (HK.out _ hA2) (fun hHd3=>?_)
    try simp only [PS]
    refine RD 9 rfl (fun Kq hKq=>?_)
    have hs2:=hA2.size
    refine SAL _ (by rfl) _ _ _ (by rfl) v8.heap.size Try.underlying80 HJ.out rfl (by omega) (.slice ya j yc) j _ (by rfl) (owns_below HP.out.own hA2) ⟨NB,0,none⟩ 1 1 [.slice s2 n1.length sc2] (by rfl) rfl (fun j u hu=>by rw [addzD];exact rN.cell j u hu) (by intro u hu;simp at hu;subst hu;rfl) (by have:=hA2.size;omega) _ rfl ?_
    intro g9 cap9 y3 o9 hgr9 hat9 hlt9
    have hP3:=(HP.out.below hA2).push (B:=y0.heap.size) (p1:=s2) (c1:=sc2) (by rw [<-HN1.out];exact (depF_of dP2 (fun b k1 k2=>⟨k1,by have:=hb1.size;omega⟩)).map fun U k=>k.prs) (by have:=hA0.size;omega) (fun b e=>by have:=(HP.out.own.lt _ e).2;have:=hA0.size;omega) (by rw [<-HN1.out];exact o9) hgr9 (hat9.imp id (fun e=>by omega))
    have hO3:=(HO.out.below hA2).grown hgr9 (fun g e=>by have:=(HP.out.own.lt _ e).1;omega)
    have hG3:v8.grownBy y3 (some OB):=grown_far (grown_trans HG.out (grown_of_below _ hA2)) hgr9 (fun g e=>(HP.out.own.lt _ e).1)
    have k14:y3.cell? ⟨w.heap.size,14,none⟩=some (.slice (some ⟨pb,po,none⟩) x.P.length q.cp)/\y3.cell? ⟨pb,po+j,none⟩=some (.slice p1 n1.length pc1):=⟨(grown_cell2 HG.out hG3 (by omega) (by omega)).trans q14,(grown_cell2 HG.out hG3 (by omega) (by omega)).trans hpc⟩
    refine hKq.out _ _ (k14) (fun hHd4=>?_)
    try simp only [PS]
    refine TY 10 (.pointer (some ⟨OB,14,none⟩)) rfl hHd4 ?_
    simp only [PS]
    refine RD 11 rfl (fun Kq hKq=>?_)
    have l3:=hO3.now.cell 14 _ rfl
    have f3:=hO3.now.froz 14 (by simp)
    have t3:=hO3.now.lt
    go_simp
    refine hKq.out _ _ (⟨(World.cell?_setCell_far _ _ _ _ (by show OB≠w.heap.size;omega)).trans k14.1,(World.cell?_setCell_far _ _ _ _ (by show OB≠pb;omega)).trans k14.2⟩) (fun hHd5=>?_)
    try simp only [PS]
    refine DN ?_
    have HF:PcL v8 (y3.setCell ⟨OB,14,none⟩ (.slice (some ⟨g9,0,none⟩) (j+1) cap9)) OB (fun Y=>[.int .i64 x.w,.slice (some ⟨g,0,none⟩) x.ss.length c1,.slice (some ⟨g',0,none⟩) x.ws.length c1',.bool x.up,.int .i64 x.W,.int .i64 x.S,.int .i64 x.L,.int .i64 x.T,.int .i64 x.H,.int .i64 x.F,.int .i64 x.R,.int .i64 x.U,.int .i64 x.O,.slice s1 x.rs.length sc1,Y,.slice q.t x.ts.length q.ct]) x.P (j+1):=⟨_,.slice (some ⟨g9,0,none⟩) (j+1) cap9,_,hP3.set OB 14 _ lP1,dep_at (hO3.now.set 14 (by simp) (.slice (some ⟨g9,0,none⟩) (j+1) cap9)),grown_trans hG3 (grown_setC y3 OB 14 _)⟩
    go_wp2
    exact ⟨⟨j+1,by omega,by go_num,HF⟩,by simp [intOf];omega⟩
   ·obtain ⟨y0,e_y0⟩:∃ y,y=wr.drew:=⟨_,rfl⟩
    rw [<-e_y0]
    have hA0:Below wr.heap.size wr y0:=by rw [e_y0];exact (Below.refl _ _).drew
    clear e_y0
    refine step_call (by rfl) 40 #[.agg #[.slice p1 n1.length pc1]] (by go_simp) (CS.out p1 n1 pc1 _ (HPQ.out.below hA0) hle1) ?_
    rintro e y1 ⟨s2,sc2,rfl,hsc2,oP2,hgp2,hb0⟩
    refine ⟨_,rfl,?_⟩
    have hA1:=hA0.trans (hb0.mono hA0.size)
    have dP2:=dep_own (lo:=y0.heap.size) oP2 ne_of_prcells hgp2
    clear oP2 hgp2 hsc2
    refine hKq.out _ _ (HK.out _ hA1) (fun hHd6=>?_)
    try simp only [PS]
    refine wpAnyH_ready (rs:=[1,8]) (by kernel_rfl) (by simp) ?_
    refine AllReadyH.cons rfl (fun Kq hKq=>?_) (AllReadyH.cons rfl (fun Kq hKq=>?_) AllReadyH.nil)
    ·have l14:=(HO.out.below hA1).now.cell 14 _ rfl
     go_simp
     refine hKq.out _ _ hHd6 (fun _=>?_)
     try simp only [PS]
     refine RD 8 rfl (fun Kq hKq=>?_)
     go_simp
     have hb1:=below_nwD y1 (.cells #[.slice s2 n1.length sc2] 77)
     have rN:=row_new y1 #[.slice s2 n1.length sc2] 77
     obtain ⟨y2,e_n⟩:∃ y,y=y1.alloc (.cells #[.slice s2 n1.length sc2] 77):=⟨_,rfl⟩
     obtain ⟨NB,e_b⟩:∃ y,y=y1.heap.size:=⟨_,rfl⟩
     rw [<-e_n] at hb1 rN ⊢
     rw [<-e_b] at rN ⊢
     have hA2:=hA1.trans (hb1.mono hA1.size)
     have dP2:=dP2.below hb1
     clear e_n e_b
     refine hKq.out _ _ (HK.out _ hA2) (fun hHd8=>?_)
     try simp only [PS]
     refine RD 9 rfl (fun Kq hKq=>?_)
     have hs2:=hA2.size
     refine SAL _ (by rfl) _ _ _ (by rfl) v8.heap.size Try.underlying80 HJ.out rfl (by omega) (.slice ya j yc) j _ (by rfl) (owns_below HP.out.own hA2) ⟨NB,0,none⟩ 1 1 [.slice s2 n1.length sc2] (by rfl) rfl (fun j u hu=>by rw [addzD];exact rN.cell j u hu) (by intro u hu;simp at hu;subst hu;rfl) (by have:=hA2.size;omega) _ rfl ?_
     intro g9 cap9 y3 o9 hgr9 hat9 hlt9
     have hP3:=(HP.out.below hA2).push (B:=y0.heap.size) (p1:=s2) (c1:=sc2) (by rw [<-HN1.out];exact (depF_of dP2 (fun b k1 k2=>⟨k1,by have:=hb1.size;omega⟩)).map fun U k=>k.prs) (by have:=hA0.size;omega) (fun b e=>by have:=(HP.out.own.lt _ e).2;have:=hA0.size;omega) (by rw [<-HN1.out];exact o9) hgr9 (hat9.imp id (fun e=>by omega))
     have hO3:=(HO.out.below hA2).grown hgr9 (fun g e=>by have:=(HP.out.own.lt _ e).1;omega)
     have hG3:v8.grownBy y3 (some OB):=grown_far (grown_trans HG.out (grown_of_below _ hA2)) hgr9 (fun g e=>(HP.out.own.lt _ e).1)
     have k14:y3.cell? ⟨w.heap.size,14,none⟩=some (.slice (some ⟨pb,po,none⟩) x.P.length q.cp)/\y3.cell? ⟨pb,po+j,none⟩=some (.slice p1 n1.length pc1):=⟨(grown_cell2 HG.out hG3 (by omega) (by omega)).trans q14,(grown_cell2 HG.out hG3 (by omega) (by omega)).trans hpc⟩
     refine hKq.out _ _ (k14) (fun hHd9=>?_)
     try simp only [PS]
     refine TY 10 (.pointer (some ⟨OB,14,none⟩)) rfl hHd9 ?_
     simp only [PS]
     refine RD 11 rfl (fun Kq hKq=>?_)
     have l3:=hO3.now.cell 14 _ rfl
     have f3:=hO3.now.froz 14 (by simp)
     have t3:=hO3.now.lt
     go_simp
     refine hKq.out _ _ (⟨(World.cell?_setCell_far _ _ _ _ (by show OB≠w.heap.size;omega)).trans k14.1,(World.cell?_setCell_far _ _ _ _ (by show OB≠pb;omega)).trans k14.2⟩) (fun hHd10=>?_)
     try simp only [PS]
     refine DN ?_
     have HF:PcL v8 (y3.setCell ⟨OB,14,none⟩ (.slice (some ⟨g9,0,none⟩) (j+1) cap9)) OB (fun Y=>[.int .i64 x.w,.slice (some ⟨g,0,none⟩) x.ss.length c1,.slice (some ⟨g',0,none⟩) x.ws.length c1',.bool x.up,.int .i64 x.W,.int .i64 x.S,.int .i64 x.L,.int .i64 x.T,.int .i64 x.H,.int .i64 x.F,.int .i64 x.R,.int .i64 x.U,.int .i64 x.O,.slice s1 x.rs.length sc1,Y,.slice q.t x.ts.length q.ct]) x.P (j+1):=⟨_,.slice (some ⟨g9,0,none⟩) (j+1) cap9,_,hP3.set OB 14 _ lP1,dep_at (hO3.now.set 14 (by simp) (.slice (some ⟨g9,0,none⟩) (j+1) cap9)),grown_trans hG3 (grown_setC y3 OB 14 _)⟩
     go_wp2
     exact ⟨⟨j+1,by omega,by go_num,HF⟩,by simp [intOf];omega⟩
    ·go_simp
     have hb1:=below_nwD y1 (.cells #[.slice s2 n1.length sc2] 77)
     have rN:=row_new y1 #[.slice s2 n1.length sc2] 77
     obtain ⟨y2,e_n⟩:∃ y,y=y1.alloc (.cells #[.slice s2 n1.length sc2] 77):=⟨_,rfl⟩
     obtain ⟨NB,e_b⟩:∃ y,y=y1.heap.size:=⟨_,rfl⟩
     rw [<-e_n] at hb1 rN ⊢
     rw [<-e_b] at rN ⊢
     have hA2:=hA1.trans (hb1.mono hA1.size)
     have dP2:=dP2.below hb1
     clear e_n e_b
     refine hKq.out _ _ (HK.out _ hA2) (fun hHd11=>?_)
     try simp only [PS]
     refine RD 1 rfl (fun Kq hKq=>?_)
     have l14:=(HO.out.below hA2).now.cell 14 _ rfl
     go_simp
     refine hKq.out _ _ hHd11 (fun _=>?_)
     try simp only [PS]
     refine RD 9 rfl (fun Kq hKq=>?_)
     have hs2:=hA2.size
     refine SAL _ (by rfl) _ _ _ (by rfl) v8.heap.size Try.underlying80 HJ.out rfl (by omega) (.slice ya j yc) j _ (by rfl) (owns_below HP.out.own hA2) ⟨NB,0,none⟩ 1 1 [.slice s2 n1.length sc2] (by rfl) rfl (fun j u hu=>by rw [addzD];exact rN.cell j u hu) (by intro u hu;simp at hu;subst hu;rfl) (by have:=hA2.size;omega) _ rfl ?_
     intro g9 cap9 y3 o9 hgr9 hat9 hlt9
     have hP3:=(HP.out.below hA2).push (B:=y0.heap.size) (p1:=s2) (c1:=sc2) (by rw [<-HN1.out];exact (depF_of dP2 (fun b k1 k2=>⟨k1,by have:=hb1.size;omega⟩)).map fun U k=>k.prs) (by have:=hA0.size;omega) (fun b e=>by have:=(HP.out.own.lt _ e).2;have:=hA0.size;omega) (by rw [<-HN1.out];exact o9) hgr9 (hat9.imp id (fun e=>by omega))
     have hO3:=(HO.out.below hA2).grown hgr9 (fun g e=>by have:=(HP.out.own.lt _ e).1;omega)
     have hG3:v8.grownBy y3 (some OB):=grown_far (grown_trans HG.out (grown_of_below _ hA2)) hgr9 (fun g e=>(HP.out.own.lt _ e).1)
     have k14:y3.cell? ⟨w.heap.size,14,none⟩=some (.slice (some ⟨pb,po,none⟩) x.P.length q.cp)/\y3.cell? ⟨pb,po+j,none⟩=some (.slice p1 n1.length pc1):=⟨(grown_cell2 HG.out hG3 (by omega) (by omega)).trans q14,(grown_cell2 HG.out hG3 (by omega) (by omega)).trans hpc⟩
     refine hKq.out _ _ (k14) (fun hHd13=>?_)
     try simp only [PS]
     refine TY 10 (.pointer (some ⟨OB,14,none⟩)) rfl hHd13 ?_
     simp only [PS]
     refine RD 11 rfl (fun Kq hKq=>?_)
     have l3:=hO3.now.cell 14 _ rfl
     have f3:=hO3.now.froz 14 (by simp)
     have t3:=hO3.now.lt
     go_simp
     refine hKq.out _ _ (⟨(World.cell?_setCell_far _ _ _ _ (by show OB≠w.heap.size;omega)).trans k14.1,(World.cell?_setCell_far _ _ _ _ (by show OB≠pb;omega)).trans k14.2⟩) (fun hHd14=>?_)
     try simp only [PS]
     refine DN ?_
     have HF:PcL v8 (y3.setCell ⟨OB,14,none⟩ (.slice (some ⟨g9,0,none⟩) (j+1) cap9)) OB (fun Y=>[.int .i64 x.w,.slice (some ⟨g,0,none⟩) x.ss.length c1,.slice (some ⟨g',0,none⟩) x.ws.length c1',.bool x.up,.int .i64 x.W,.int .i64 x.S,.int .i64 x.L,.int .i64 x.T,.int .i64 x.H,.int .i64 x.F,.int .i64 x.R,.int .i64 x.U,.int .i64 x.O,.slice s1 x.rs.length sc1,Y,.slice q.t x.ts.length q.ct]) x.P (j+1):=⟨_,.slice (some ⟨g9,0,none⟩) (j+1) cap9,_,hP3.set OB 14 _ lP1,dep_at (hO3.now.set 14 (by simp) (.slice (some ⟨g9,0,none⟩) (j+1) cap9)),grown_trans hG3 (grown_setC y3 OB 14 _)⟩
     go_wp2
     exact ⟨⟨j+1,by omega,by go_num,HF⟩,by simp [intOf];omega⟩
  have hjP:j=x.P.length:=by omega
  have hP:=HP.out
  rw [hjP] at hP
  have HPP:=hid hP
  have hnl:¬ ((j:Int)<(x.P.length:Int)):=by omega
  have hG:=HG.out
  have bO:=HO.out
  clear hP HP HO HG hlt
  replace bA:=bA.grown hG (fun g hg=>by injection hg with hg;omega)
  replace bR:=bR.grown hG (fun g hg=>by injection hg with hg;omega)
  replace dS:=dS.grown hG (fun g hg=>by injection hg with hg;omega)
  replace dW:=dW.grown hG (fun g hg=>by injection hg with hg;omega)
  replace dP:=dP.grown hG (fun g hg=>by injection hg with hg;omega)
  replace hE:=HEr.out
  have s_wr:=hG.size
  clear hG HEr rA q14 qal
  obtain ⟨q_bA_0,q_bA_1,q_bA_2,q_bA_3,q_bA_4,q_bA_5,q_bA_6,q_bA_7,q_bA_8,q_bA_9,q_bA_10,q_bA_11,q_bA_12,q_bA_13,q_bA_14,q_bA_15,q_bA_l⟩:=c16 bA.now
  go_upto_region 10 with (at_builtin;refine wpList_append_copy2 rfl _ _ 23 rfl 9 i0 (.string ByteArray.empty) 1 16 Try.underlying23 HI.out.1 HI.out.2.1 HI.out.2.2.1 HI.out.2.2.2 rfl wr.heap.size wr.heap.size rfl (World.ownsRow_lit _ #[] 0 (Nat.le_refl _) (by simp) (by simp)) _ rfl x.ts.length _ (src_strs ((h.below hE).h5.below (below_nwD _ _)) _ _ Try.underlying23 q.ct) (by omega) (by omega) (by simp) ?_;intro g0 cap0 ws hown0 hg0 hbs;have hb:Below wr.heap.size wr ws:=(below_nwD _ _).trans (hbs.mono (by simp));have f15:=(bO.below hb).now.froz 15 (by simp);have k15:=(bO.below hb).now.cell 15 _ rfl;have kl:=(bO.below hb).now.lt;clear hbs hg0)
  clear q_bA_0 q_bA_1 q_bA_2 q_bA_3 q_bA_4 q_bA_5 q_bA_6 q_bA_7 q_bA_8 q_bA_9 q_bA_10 q_bA_11 q_bA_12 q_bA_13 q_bA_14 q_bA_15 q_bA_l
  have dT:=dep_ownsRow hown0
  clear hown0 f15 k15 kl
  have s_ws:wr.heap.size<=ws.heap.size:=hb.size
  replace HPP:=hid (HPP.out.below hb)
  replace bA:=bA.below hb
  replace bR:=bR.below hb
  replace bO:=bO.below hb
  replace dS:=dS.below hb
  replace dW:=dW.below hb
  replace dP:=dP.below hb
  replace hE:=hE.trans (hb.mono hE.size)
  clear hb
  generalize e_v10:(ws.setCell _ _)=v10
  have hgw:ws.grownBy v10 (some (OB)):=by rw [<-e_v10];exact grown_set (World.grownBy.refl _ _) _ _
  have r_new:=e_v10 ▸ (bO.now.set 15 (by simp) (.slice (some ⟨g0,0,none⟩) x.ts.length cap0))
  have s_v10:ws.heap.size<=v10.heap.size:=hgw.size
  have hgr:∀ g,(some (OB):Option Nat)=some g->OB<=g/\g<OB+1:=fun g hg=>by injection hg with hg;omega
  replace HPP:=hid (by have:=HPP.out.set OB 15 (.slice (some ⟨g0,0,none⟩) x.ts.length cap0) lP1;rw [e_v10] at this;exact this)
  clear e_v10
  replace bA:=bA.grown hgw (fun g hg=>by have:=hgr g hg;omega)
  replace bR:=bR.grown hgw (fun g hg=>by have:=hgr g hg;omega)
  replace dS:=dS.grown hgw (fun g hg=>by have:=hgr g hg;omega)
  replace dW:=dW.grown hgw (fun g hg=>by have:=hgr g hg;omega)
  replace dP:=dP.grown hgw (fun g hg=>by have:=hgr g hg;omega)
  replace dT:=dT.grown hgw (fun g hg=>by have:=hgr g hg;omega)
  replace hE:=hE.trans (grown_below hgw hE.size (fun g hg=>by have:=hgr g hg;omega))
  have l_new:=r_new.lt
  clear bO
  have bO:=dep_at r_new
  clear r_new hgw hgr l_new
  refine wp_region_lit ?_
  refine wpList_load_mid rfl 82 _ rfl OB 0 rfl [.int .i64 x.w,.slice (some ⟨g,0,none⟩) x.ss.length c1,.slice (some ⟨g',0,none⟩) x.ws.length c1',.bool x.up,.int .i64 x.W,.int .i64 x.S,.int .i64 x.L,.int .i64 x.T,.int .i64 x.H,.int .i64 x.F,.int .i64 x.R,.int .i64 x.U,.int .i64 x.O,.slice s1 x.rs.length sc1,.slice ya j yc,.slice (some ⟨g0,0,none⟩) x.ts.length cap0] _ bO.now.range Try.underlying82 rfl info_wo ?_
  simp only [PS]
  refine wpList_store_mid rfl 82 _ _ rfl (w.heap.size+1) 0 #[.int .i64 x.w,.slice (some ⟨g,0,none⟩) x.ss.length c1,.slice (some ⟨g',0,none⟩) x.ws.length c1',.bool x.up,.int .i64 x.W,.int .i64 x.S,.int .i64 x.L,.int .i64 x.T,.int .i64 x.H,.int .i64 x.F,.int .i64 x.R,.int .i64 x.U,.int .i64 x.O,.slice s1 x.rs.length sc1,.slice ya j yc,.slice (some ⟨g0,0,none⟩) x.ts.length cap0] rfl rfl (bR.now.there rfl) info_wo (by kernel_rfl) ?_
  try simp only [PS]
  generalize e_v11:v10.setCells _ _ _=v11
  have hgw:v10.grownBy v11 (some (w.heap.size+1)):=by rw [<-e_v11];exact grown_sets _ _ _ _
  have r_new:=e_v11 ▸ bR.now.sets [.int .i64 x.w,.slice (some ⟨g,0,none⟩) x.ss.length c1,.slice (some ⟨g',0,none⟩) x.ws.length c1',.bool x.up,.int .i64 x.W,.int .i64 x.S,.int .i64 x.L,.int .i64 x.T,.int .i64 x.H,.int .i64 x.F,.int .i64 x.R,.int .i64 x.U,.int .i64 x.O,.slice s1 x.rs.length sc1,.slice ya j yc,.slice (some ⟨g0,0,none⟩) x.ts.length cap0] rfl
  clear e_v11
  have s_v11:=hgw.size
  have hgr:∀ g,(some (w.heap.size+1):Option Nat)=some g->w.heap.size+1<=g/\g<w.heap.size+1+1:=fun g hg=>by injection hg with hg;omega
  have hPP:=HPP.out
  replace dS:=dS.grown hgw (fun g hg=>by have:=hgr g hg;omega)
  replace dW:=dW.grown hgw (fun g hg=>by have:=hgr g hg;omega)
  replace dP:=dP.grown hgw (fun g hg=>by have:=hgr g hg;omega)
  replace dT:=dT.grown hgw (fun g hg=>by have:=hgr g hg;omega)
  replace hE:=hE.trans (grown_below hgw hE.size (fun g hg=>by have:=hgr g hg;omega))
  go_wp2
  have q_all:=c16 r_new
  obtain ⟨z0,z1,z2,z3,z4,z5,z6,z7,z8,z9,z10,z11,z12,z13,z14,z15,z16⟩:=q_all
  have F4:=((hPP.pst (by omega) ya x.P.length yc rfl (fun b=>v8.heap.size<=b) (fun b k=>k)).grown hgw (fun g hg k=>by have:=hgr g hg;omega)).mono (G:=fun b=>w.heap.size<=b) (fun b _ k=>by omega)
  refine bodyPost_ret (v:=.agg #[.int .i64 x.w,.slice (some ⟨g,0,none⟩) x.ss.length c1,.slice (some ⟨g',0,none⟩) x.ws.length c1',.bool x.up,.int .i64 x.W,.int .i64 x.S,.int .i64 x.L,.int .i64 x.T,.int .i64 x.H,.int .i64 x.F,.int .i64 x.R,.int .i64 x.U,.int .i64 x.O,.slice s1 x.rs.length sc1,.slice ya j yc,.slice (some ⟨g0,0,none⟩) x.ts.length cap0]) (by simp [results,Try.results35,go_sem,z0,z1,z2,z3,z4,z5,z6,z7,z8,z9,z10,z11,z12,z13,z14,z15]) rfl ⟨⟨some ⟨g,0,none⟩,c1,some ⟨g',0,none⟩,c1',s1,sc1,ya,yc,some ⟨g0,0,none⟩,cap0⟩,g,g',by unfold worldW;rw [hjP],⟨?_,?_,?_,F4,?_⟩,rfl,rfl,own_baseC dS.now (by omega),own_baseC dW.now (by omega),hne,hE⟩
  ·exact (depF_of dS (fun b hb _=>by omega)).map fun U k=>(ownS_ownC k).strs
  ·exact (depF_of dW (fun b hb _=>by omega)).map fun U k=>(ownS_ownC k).wrs
  ·exact (depF_of dP (fun b hb _=>by omega)).map fun U k=>k.prs
  ·exact (depF_of dT (fun b hb _=>by omega)).map fun U k=>(ownS_ownC k).strs
end Go.Proofs.Ythdilmkbnpmdaaa
