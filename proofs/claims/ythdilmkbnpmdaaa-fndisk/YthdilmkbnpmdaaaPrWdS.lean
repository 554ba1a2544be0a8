import Derived.Test.YthdilmkbnpmdaaaPrG40
import Derived.Test.YthdilmkbnpmdaaaPrCmS
import Derived.Test.YthdilmkbnpmdaaaPrOpS
set_option maxHeartbeats 16000000
namespace Go.Proofs.Ythdilmkbnpmdaaa
open Go.RowKit
set_option maxRecDepth 8000
set_option linter.unusedVariables false
set_option linter.unusedSimpArgs false
def eventV (e:Ev) (a:Option Addr) (c:Nat) (f:Option Addr) (d:Nat):Value:=.agg #[.int .i64 e.K,.slice a e.b.length c,.int .i64 e.cut,.slice f e.fs.length d]
structure Ev.le (e:Ev):Prop where
 b:e.b.length<=1048576/\∀ x∈e.b,x.1.size<=1048576/\x.2.1.size<=1048576
 f:e.fs.length<=1048576
 k:-1000000<=e.cut/\e.cut<=1000000
theorem pow_s (x:Wo) (q:Wp) (f:Option Addr) (fs:List Int) (d:Nat) (F:Nat->Prop) (w:World) (h:WoF x w F q) (hm:x.le 1048576) (hz:Ints w f fs) (hlz:fs.length<=1048576) :
  Calls Try.prog 46 #[worldW x q,.slice f fs.length d] w fun e w'=>WPost w w' F e (x.pow fs):=by
 have CP:=hid (fun w' k1 k2 k3=>pl_s_any q.a x.ss q.c q.a' x.ws q.c' f fs d w' k1 k2 k3 hlz hm.l1 hm.l2 hm.s1 hm.s2)
 obtain ⟨SS,HSS⟩:∃ SS,Hid (SS=plSS fs x.ss x.ws):=⟨_,hid rfl⟩
 rw [<-HSS.out] at CP
 unfold diskV at CP
 unfold worldW
 have hE:Below w.heap.size w w:=Below.refl _ _
 go_enter Try.func46,Try.ntmps46
 go_wp2_with fail
 generalize e_v1:w.alloc _=v1
 obtain ⟨hb,z_v1,bA⟩:=bx1 e_v1
 clear e_v1
 replace hE:=hE.trans (hb.mono hE.size)
 clear hb
 generalize e_v2:v1.alloc _=v2
 obtain ⟨hb,z_v2,bR⟩:=bx1 e_v2
 clear e_v2
 rw [z_v1] at bR z_v2
 replace bA:=bA.below hb
 replace hE:=hE.trans (hb.mono hE.size)
 clear hb
 refine (CP.out _ (h.below hE).at.h1 (h.below hE).at.h2 (hz.below hE)).mono ?_
 rintro e v3 ⟨a1,c1,a1',c1',rfl,ho,hg,hb⟩
 have s_v3:v2.heap.size<=v3.heap.size:=hb.size
 replace bA:=bA.below hb
 replace bR:=bR.below hb
 replace hE:=hE.trans (hb.mono hE.size)
 have od:Dep v3 v2.heap.size v3.heap.size (fun W=>OwnS W a1 (SS.map Value.string)):=dep_own ho ne_of_strs hg
 clear ho hg
 clear hb
 obtain ⟨q_bA_0,q_bA_1,q_bA_2,q_bA_3,q_bA_4,q_bA_5,q_bA_6,q_bA_7,q_bA_8,q_bA_9,q_bA_10,q_bA_11,q_bA_12,q_bA_13,q_bA_14,q_bA_15⟩:=bA.now.k16
 obtain ⟨f_bA_0,f_bA_1,f_bA_2,f_bA_3,f_bA_4,f_bA_5,f_bA_6,f_bA_7,f_bA_8,f_bA_9,f_bA_10,f_bA_11,f_bA_12,f_bA_13,f_bA_14,f_bA_15⟩:=bA.now.z16
 have q_bA_l:=bA.now.lt
 obtain ⟨q_bR_0,q_bR_1,q_bR_2,q_bR_3,q_bR_4,q_bR_5,q_bR_6,q_bR_7,q_bR_8,q_bR_9,q_bR_10,q_bR_11,q_bR_12,q_bR_13,q_bR_14,q_bR_15⟩:=bR.now.k16
 obtain ⟨f_bR_0,f_bR_1,f_bR_2,f_bR_3,f_bR_4,f_bR_5,f_bR_6,f_bR_7,f_bR_8,f_bR_9,f_bR_10,f_bR_11,f_bR_12,f_bR_13,f_bR_14,f_bR_15⟩:=bR.now.z16
 have q_bR_l:=bR.now.lt
 go_wp2
 clear q_bA_0 f_bA_0 q_bA_1 f_bA_1 q_bA_2 f_bA_2 q_bA_3 f_bA_3 q_bA_4 f_bA_4 q_bA_5 f_bA_5 q_bA_6 f_bA_6 q_bA_7 f_bA_7 q_bA_8 f_bA_8 q_bA_9 f_bA_9 q_bA_10 f_bA_10 q_bA_11 f_bA_11 q_bA_12 f_bA_12 q_bA_13 f_bA_13 q_bA_14 f_bA_14 q_bA_15 f_bA_15 q_bA_l q_bR_0 f_bR_0 q_bR_1 f_bR_1 q_bR_2 f_bR_2 q_bR_3 f_bR_3 q_bR_4 f_bR_4 q_bR_5 f_bR_5 q_bR_6 f_bR_6 q_bR_7 f_bR_7 q_bR_8 f_bR_8 q_bR_9 f_bR_9 q_bR_10 f_bR_10 q_bR_11 f_bR_11 q_bR_12 f_bR_12 q_bR_13 f_bR_13 q_bR_14 f_bR_14 q_bR_15 f_bR_15 q_bR_l
 generalize e_v4:(((((((((((((v3.setCell _ _).setCell _ _).setCell _ _).setCell _ _).setCell _ _).setCell _ _).setCell _ _).setCell _ _).setCell _ _).setCell _ _).setCell _ _).setCell _ _).setCell _ _)=v4
 have hgw:v3.grownBy v4 (some (w.heap.size)):=by rw [<-e_v4];exact grown_set (grown_set (grown_set (grown_set (grown_set (grown_set (grown_set (grown_set (grown_set (grown_set (grown_set (grown_set (grown_set (World.grownBy.refl _ _) _ _) _ _) _ _) _ _) _ _) _ _) _ _) _ _) _ _) _ _) _ _) _ _) _ _
 have r_new:=e_v4 ▸ (((((((((((((bA.now.set 1 (by simp) (.slice a1 SS.length c1)).set 2 (by simp) (.slice a1' 0 c1')).set 3 (by simp) (.bool false)).set 4 (by simp) (.int .i64 0)).set 5 (by simp) (.int .i64 0)).set 6 (by simp) (.int .i64 0)).set 7 (by simp) (.int .i64 0)).set 8 (by simp) (.int .i64 0)).set 9 (by simp) (.int .i64 0)).set 10 (by simp) (.int .i64 0)).set 11 (by simp) (.int .i64 0)).set 12 (by simp) (.int .i64 0)).set 13 (by simp) (.slice none 0 0))
 have s_v4:v3.heap.size<=v4.heap.size:=hgw.size
 have hgr:∀ g,(some (w.heap.size):Option Nat)=some g->w.heap.size<=g/\g<w.heap.size+1:=fun g hg=>by injection hg with hg;omega
 clear e_v4
 replace bR:=bR.grown hgw (fun g hg=>by have:=hgr g hg;omega)
 replace od:=od.grown hgw (fun g hg=>by have:=hgr g hg;omega)
 replace hE:=hE.trans (grown_below hgw hE.size (fun g hg=>by have:=hgr g hg;omega))
 have l_new:=r_new.lt
 clear bA
 have bA:=dep_at r_new
 clear r_new hgw hgr l_new
 generalize e_v5:((((((((((((((((v4.setCell _ _).setCell _ _).setCell _ _).setCell _ _).setCell _ _).setCell _ _).setCell _ _).setCell _ _).setCell _ _).setCell _ _).setCell _ _).setCell _ _).setCell _ _).setCell _ _).setCell _ _).setCell _ _)=v5
 have hgw:v4.grownBy v5 (some (w.heap.size+1)):=by rw [<-e_v5];exact grown_set (grown_set (grown_set (grown_set (grown_set (grown_set (grown_set (grown_set (grown_set (grown_set (grown_set (grown_set (grown_set (grown_set (grown_set (grown_set (World.grownBy.refl _ _) _ _) _ _) _ _) _ _) _ _) _ _) _ _) _ _) _ _) _ _) _ _) _ _) _ _) _ _) _ _) _ _
 have r_new:=e_v5 ▸ ((((((((((((((((bR.now.set 0 (by simp) (.int .i64 x.w)).set 1 (by simp) (.slice a1 SS.length c1)).set 2 (by simp) (.slice a1' 0 c1')).set 3 (by simp) (.bool false)).set 4 (by simp) (.int .i64 0)).set 5 (by simp) (.int .i64 0)).set 6 (by simp) (.int .i64 0)).set 7 (by simp) (.int .i64 0)).set 8 (by simp) (.int .i64 0)).set 9 (by simp) (.int .i64 0)).set 10 (by simp) (.int .i64 0)).set 11 (by simp) (.int .i64 0)).set 12 (by simp) (.int .i64 0)).set 13 (by simp) (.slice none 0 0)).set 14 (by simp) (.slice q.p x.P.length q.cp)).set 15 (by simp) (.slice q.t x.ts.length q.ct))
 have s_v5:v4.heap.size<=v5.heap.size:=hgw.size
 have hgr:∀ g,(some (w.heap.size+1):Option Nat)=some g->w.heap.size+1<=g/\g<w.heap.size+1+1:=fun g hg=>by injection hg with hg;omega
 clear e_v5
 replace bA:=bA.grown hgw (fun g hg=>by have:=hgr g hg;omega)
 replace od:=od.grown hgw (fun g hg=>by have:=hgr g hg;omega)
 replace hE:=hE.trans (grown_below hgw hE.size (fun g hg=>by have:=hgr g hg;omega))
 have l_new:=r_new.lt
 clear bR
 have bR:=dep_at r_new
 clear r_new hgw hgr l_new
 obtain ⟨q_bR_0,q_bR_1,q_bR_2,q_bR_3,q_bR_4,q_bR_5,q_bR_6,q_bR_7,q_bR_8,q_bR_9,q_bR_10,q_bR_11,q_bR_12,q_bR_13,q_bR_14,q_bR_15,q_bR_l⟩:=c16 bR.now
 refine bodyPost_ret (v:=.agg #[.int .i64 x.w,.slice a1 SS.length c1,.slice a1' 0 c1',.bool false,.int .i64 0,.int .i64 0,.int .i64 0,.int .i64 0,.int .i64 0,.int .i64 0,.int .i64 0,.int .i64 0,.int .i64 0,.slice none 0 0,.slice q.p x.P.length q.cp,.slice q.t x.ts.length q.ct]) (by simp [results,Try.results46,go_sem,q_bR_0,q_bR_1,q_bR_2,q_bR_3,q_bR_4,q_bR_5,q_bR_6,q_bR_7,q_bR_8,q_bR_9,q_bR_10,q_bR_11,q_bR_12,q_bR_13,q_bR_14,q_bR_15,q_bR_l]) rfl ?_
 have hE0:=hE.size
 refine ⟨⟨a1,c1,a1',c1',none,0,q.p,q.cp,q.t,q.ct⟩,?_,⟨?_,depF_true fun _=>.inl rfl,depF_true fun _=>.inl rfl,(h.below hE).h4.mono fun b _ hb=>.inl hb,(h.below hE).h5.mono fun b _ hb=>.inl hb⟩,hE⟩
 ·rw [show SS.length=(plSS fs x.ss x.ws).length by rw [HSS.out]];rfl
 ·rw [HSS.out] at od;exact (depF_of od (fun b hb _=>.inr (by omega))).map fun W k=>k.strs
theorem dep_dnE {w:World} {lo:Nat} {rs:List Pr} {ops:List OpT} {a b:Option Addr} (h:OwnDn w rs ops a b) (h1:∀ g,blk a rs.length=some g->lo<=g) (h2:∀ g,blk b ops.length=some g->lo<=g):Dep w lo w.heap.size (fun W=>OwnDn W rs ops a b) :=
 ⟨h,Nat.le_refl _,fun w' k1 k2=>⟨(dep_own h.s ne_of_prcells h1).keep w' k1 k2,(dep_own h.p ne_of_opcells h2).keep w' k1 k2,h.ne⟩⟩
def CallPost (w w':World) (r:Ending) (D:Dd) (u:Bool):Prop:=∃ a c b e,r=.returned (.tuple #[dnV D a c b e,.bool u])/\D.rs.length<=c/\OwnDn w' D.rs D.ops a b/\(∀ g,blk a D.rs.length=some g->w.heap.size<=g)/\(∀ g,blk b D.ops.length=some g->w.heap.size<=g)/\Below w.heap.size w w'
theorem call_s (x:Wo) (q:Wp) (e:Ev) (a:Option Addr) (c:Nat) (f:Option Addr) (d:Nat) (w:World) (h:x.at w q) (hm:x.le 1048576) (h2:Chs w a e.b) (he:e.le) :
  Calls Try.prog 47 #[worldW x q,eventV e a c f d] w fun r w'=>CallPost w w' r (x.call e).1 (x.call e).2:=by
 have CO:=hid (fun w' k1 k2=>open_s q.a x.ss q.c q.a' x.ws q.c' x.w w' k1 k2 hm.l1 hm.l2 hm.s1 hm.s2)
 have CC:=hid (fun w' k1 k2=>commit_s x.W x.S x.L x.T x.H x.F x.R x.U x.O q.s x.rs q.cs a e.b c w' k1 hm.l3 hm.s3 k2 he.b.1 he.b.2)
 have CF:=hid (fun w' k1=>flush_s x.W x.S x.L x.T x.H x.F x.R x.U x.O q.s x.rs q.cs w' k1 hm.l3 hm.s3)
 have CM:=hid (fun w' k1=>compact_s x.W x.S x.L x.T x.H x.F x.R x.U x.O q.s x.rs q.cs w' k1 hm.l3 hm.s3)
 unfold diskV at CO
 unfold storeV at CC CF CM
 obtain ⟨cA,eA⟩:∃ y,y=x.call e:=⟨_,rfl⟩
 rw [<-eA]
 unfold Wo.call at eA
 unfold worldW eventV
 have hE:Below w.heap.size w w:=Below.refl _ _
 go_enter Try.func47,Try.ntmps47
 by_cases hk:e.K=1
 ·rw [if_pos hk] at eA
  obtain ⟨D,HD⟩:∃ D,Hid (D=openD x.ss x.ws x.w):=⟨_,hid rfl⟩
  rw [<-HD.out] at CO eA
  subst eA
  have hk0:=hk
  go_upto_region 3 with fail
  generalize e_v1:w.alloc _=v1
  obtain ⟨hb,z_v1,bA⟩:=bx1 e_v1
  clear e_v1
  replace hE:=hE.trans (hb.mono hE.size)
  clear hb
  generalize e_v2:v1.alloc _=v2
  obtain ⟨hb,z_v2,bE⟩:=bx1 e_v2
  clear e_v2
  rw [z_v1] at bE z_v2
  replace bA:=bA.below hb
  replace hE:=hE.trans (hb.mono hE.size)
  clear hb
  generalize e_v3:v2.alloc _=v3
  obtain ⟨hb,z_v3,bR⟩:=bx1 e_v3
  clear e_v3
  rw [z_v2] at bR z_v3
  replace bA:=bA.below hb
  replace bE:=bE.below hb
  replace hE:=hE.trans (hb.mono hE.size)
  clear hb
  have hE0:=hE.size
  have HK:Hid (∀ W,Row W w.heap.size (wL x q)->Row W (w.heap.size+1) [.int .i64 1,.slice a e.b.length c,.int .i64 e.cut,.slice f e.fs.length d]->W.cell? ⟨w.heap.size,0,none⟩=some (.int .i64 x.w)/\W.cell? ⟨w.heap.size,1,none⟩=some (.slice q.a x.ss.length q.c)/\W.cell? ⟨w.heap.size,2,none⟩=some (.slice q.a' x.ws.length q.c')/\W.cell? ⟨w.heap.size,3,none⟩=some (.bool x.up)):=fun W r r2=>⟨r.cell 0 _ rfl,r.cell 1 _ rfl,r.cell 2 _ rfl,r.cell 3 _ rfl⟩
  refine wp_region_held_drew (S:=fun w'=>w'.cell? ⟨w.heap.size,0,none⟩=some (.int .i64 x.w)/\w'.cell? ⟨w.heap.size,1,none⟩=some (.slice q.a x.ss.length q.c)/\w'.cell? ⟨w.heap.size,2,none⟩=some (.slice q.a' x.ws.length q.c')/\w'.cell? ⟨w.heap.size,3,none⟩=some (.bool x.up)) (by kernel_rfl) (HK.out _ bA.now.drew bE.now.drew) (fun hHe=>?_)
  refine TY 0 (.pointer (some ⟨w.heap.size,1,none⟩)) rfl hHe ?_
  simp only [PS]
  refine TY 1 (.agg #[.slice q.a x.ss.length q.c,.slice q.a' x.ws.length q.c']) rfl hHe ?_
  simp only [PS]
  refine TY 2 (.pointer (some ⟨w.heap.size,0,none⟩)) rfl hHe ?_
  simp only [PS]
  refine TY 3 (.int .i64 x.w) rfl hHe ?_
  simp only [PS]
  refine TY 5 (.pointer (some ⟨w.heap.size,3,none⟩)) rfl hHe ?_
  simp only [PS]
  refine TY 6 (.bool x.up) rfl hHe ?_
  simp only [PS]
  refine TY 7 (.bool (!x.up)) rfl hHe ?_
  simp only [PS]
  refine RD 4 rfl (fun Kq hKq=>?_)
  refine step_call (by rfl) 64 #[.agg #[.slice q.a x.ss.length q.c,.slice q.a' x.ws.length q.c'],.int .i64 x.w] (by go_simp) (CO.out _ ((h.h1.below hE).below (Below.refl _ _).drew) ((h.h2.below hE).below (Below.refl _ _).drew)) ?_
  rintro r u1 ⟨oa,oc,ob,oe,rfl,hcap,own,g1,g2,hb5⟩
  unfold dnV
  refine ⟨_,rfl,?_⟩
  have hb:Below v3.heap.size v3 u1:=(Below.refl _ _).drew.trans hb5
  have s_u1:v3.heap.size<=u1.heap.size:=hb.size
  replace bA:=bA.below hb
  replace bE:=bE.below hb
  replace bR:=bR.below hb
  replace hE:=hE.trans (hb.mono hE.size)
  have od:Dep u1 v3.heap.size u1.heap.size (fun W=>OwnDn W D.rs D.ops oa ob):=dep_dnE own g1 g2
  have lo_a:∀ g,blk oa D.rs.length=some g->w.heap.size<=g:=fun g hg=>by have:v3.heap.size<=g:=g1 g hg;have:=hE0;omega
  have lo_b:∀ g,blk ob D.ops.length=some g->w.heap.size<=g:=fun g hg=>by have:v3.heap.size<=g:=g2 g hg;have:=hE0;omega
  clear hb hb5 own g1 g2
  refine hKq.out _ _ (HK.out _ bA.now bE.now) (fun hHd1=>?_)
  try simp only [PS]
  refine RD 8 rfl (fun Kq hKq=>?_)
  obtain ⟨q0,q1,q2,q3,q4,q5,q6,q7,q8,q9,q10,q11⟩:=bR.now.k12
  obtain ⟨f0,f1,f2,f3,f4,f5,f6,f7,f8,f9,f10,f11⟩:=bR.now.z12
  have ql:=bR.now.lt
  have hnA:w.heap.size+1+1≠w.heap.size:=by omega
  have hnE:w.heap.size+1+1≠w.heap.size+1:=by omega
  go_simp
  clear ql q0 f0 q1 f1 q2 f2 q3 f3 q4 f4 q5 f5 q6 f6 q7 f7 q8 f8 q9 f9 q10 f10 q11 f11
  refine hKq.out _ _ (HK.out _ ((((((((((((bA.now.other ⟨w.heap.size+1+1,0,none⟩ hnA _).other ⟨w.heap.size+1+1,1,none⟩ hnA _).other ⟨w.heap.size+1+1,2,none⟩ hnA _).other ⟨w.heap.size+1+1,3,none⟩ hnA _).other ⟨w.heap.size+1+1,4,none⟩ hnA _).other ⟨w.heap.size+1+1,5,none⟩ hnA _).other ⟨w.heap.size+1+1,6,none⟩ hnA _).other ⟨w.heap.size+1+1,7,none⟩ hnA _).other ⟨w.heap.size+1+1,8,none⟩ hnA _).other ⟨w.heap.size+1+1,9,none⟩ hnA _).other ⟨w.heap.size+1+1,10,none⟩ hnA _).other ⟨w.heap.size+1+1,11,none⟩ hnA _) ((((((((((((bE.now.other ⟨w.heap.size+1+1,0,none⟩ hnE _).other ⟨w.heap.size+1+1,1,none⟩ hnE _).other ⟨w.heap.size+1+1,2,none⟩ hnE _).other ⟨w.heap.size+1+1,3,none⟩ hnE _).other ⟨w.heap.size+1+1,4,none⟩ hnE _).other ⟨w.heap.size+1+1,5,none⟩ hnE _).other ⟨w.heap.size+1+1,6,none⟩ hnE _).other ⟨w.heap.size+1+1,7,none⟩ hnE _).other ⟨w.heap.size+1+1,8,none⟩ hnE _).other ⟨w.heap.size+1+1,9,none⟩ hnE _).other ⟨w.heap.size+1+1,10,none⟩ hnE _).other ⟨w.heap.size+1+1,11,none⟩ hnE _)) (fun hHd2=>?_)
  try simp only [PS]
  refine RD 9 rfl (fun Kq hKq=>?_)
  go_simp
  refine hKq.out _ _ hHd2 (fun _=>?_)
  try simp only [PS]
  refine DN ?_
  clear HK
  go_wp2
  generalize e_v51:((((((((((((u1.setCell _ _).setCell _ _).setCell _ _).setCell _ _).setCell _ _).setCell _ _).setCell _ _).setCell _ _).setCell _ _).setCell _ _).setCell _ _).setCell _ _)=v51
  have hgw:u1.grownBy v51 (some (w.heap.size+1+1)):=by rw [<-e_v51];exact grown_set (grown_set (grown_set (grown_set (grown_set (grown_set (grown_set (grown_set (grown_set (grown_set (grown_set (grown_set (World.grownBy.refl _ _) _ _) _ _) _ _) _ _) _ _) _ _) _ _) _ _) _ _) _ _) _ _) _ _
  have r_new:=e_v51 ▸ ((((((((((((bR.now.set 0 (by simp) (.int .i64 D.C)).set 1 (by simp) (.int .i64 D.W)).set 2 (by simp) (.int .i64 D.S)).set 3 (by simp) (.int .i64 D.L)).set 4 (by simp) (.int .i64 D.T)).set 5 (by simp) (.int .i64 D.H)).set 6 (by simp) (.int .i64 D.F)).set 7 (by simp) (.int .i64 D.R)).set 8 (by simp) (.int .i64 D.U)).set 9 (by simp) (.int .i64 D.O)).set 10 (by simp) (.slice oa D.rs.length oc)).set 11 (by simp) (.slice ob D.ops.length oe))
  have s_v51:u1.heap.size<=v51.heap.size:=hgw.size
  have hgr:∀ g,(some (w.heap.size+1+1):Option Nat)=some g->w.heap.size+1+1<=g/\g<w.heap.size+1+1+1:=fun g hg=>by injection hg with hg;omega
  clear e_v51
  replace bA:=bA.grown hgw (fun g hg=>by have:=hgr g hg;omega)
  replace bE:=bE.grown hgw (fun g hg=>by have:=hgr g hg;omega)
  replace od:=od.grown hgw (fun g hg=>by have:=hgr g hg;omega)
  replace hE:=hE.trans (grown_below hgw hE.size (fun g hg=>by have:=hgr g hg;omega))
  have l_new:=r_new.lt
  clear bR
  have bR:=dep_at r_new
  clear r_new hgw hgr l_new
  obtain ⟨q_bR_0,q_bR_1,q_bR_2,q_bR_3,q_bR_4,q_bR_5,q_bR_6,q_bR_7,q_bR_8,q_bR_9,q_bR_10,q_bR_11,q_bR_l⟩:=c12 bR.now
  exact bodyPost_ret (v:=.tuple #[.agg #[.int .i64 D.C,.int .i64 D.W,.int .i64 D.S,.int .i64 D.L,.int .i64 D.T,.int .i64 D.H,.int .i64 D.F,.int .i64 D.R,.int .i64 D.U,.int .i64 D.O,.slice oa D.rs.length oc,.slice ob D.ops.length oe],.bool (!x.up)]) (by simp [results,Try.results47,go_sem,q_bR_0,q_bR_1,q_bR_2,q_bR_3,q_bR_4,q_bR_5,q_bR_6,q_bR_7,q_bR_8,q_bR_9,q_bR_10,q_bR_11,q_bR_l]) rfl ⟨oa,oc,ob,oe,rfl,hcap,od.now,fun g hg=>by have:=lo_a g hg;omega,fun g hg=>by have:=lo_b g hg;omega,hE⟩
 have n1:=hk
 clear hk
 by_cases hk:e.K=2
 ·rw [if_neg n1,if_pos hk] at eA
  obtain ⟨D,HD⟩:∃ D,Hid (D=commitD x.W x.S x.L x.T x.H x.F x.R x.U x.O x.rs e.b):=⟨_,hid rfl⟩
  rw [<-HD.out] at CC eA
  subst eA
  have hk0:=hk
  go_upto_region 5 with fail
  generalize e_v1:w.alloc _=v1
  obtain ⟨hb,z_v1,bA⟩:=bx1 e_v1
  clear e_v1
  replace hE:=hE.trans (hb.mono hE.size)
  clear hb
  generalize e_v2:v1.alloc _=v2
  obtain ⟨hb,z_v2,bE⟩:=bx1 e_v2
  clear e_v2
  rw [z_v1] at bE z_v2
  replace bA:=bA.below hb
  replace hE:=hE.trans (hb.mono hE.size)
  clear hb
  generalize e_v3:v2.alloc _=v3
  obtain ⟨hb,z_v3,bR⟩:=bx1 e_v3
  clear e_v3
  rw [z_v2] at bR z_v3
  replace bA:=bA.below hb
  replace bE:=bE.below hb
  replace hE:=hE.trans (hb.mono hE.size)
  clear hb
  have hE0:=hE.size
  have HK:Hid (∀ W,Row W w.heap.size (wL x q)->Row W (w.heap.size+1) [.int .i64 2,.slice a e.b.length c,.int .i64 e.cut,.slice f e.fs.length d]->W.cell? ⟨w.heap.size,3,none⟩=some (.bool x.up)/\W.cell? ⟨w.heap.size,4,none⟩=some (.int .i64 x.W)/\W.cell? ⟨w.heap.size,5,none⟩=some (.int .i64 x.S)/\W.cell? ⟨w.heap.size,6,none⟩=some (.int .i64 x.L)/\W.cell? ⟨w.heap.size,7,none⟩=some (.int .i64 x.T)/\W.cell? ⟨w.heap.size,8,none⟩=some (.int .i64 x.H)/\W.cell? ⟨w.heap.size,9,none⟩=some (.int .i64 x.F)/\W.cell? ⟨w.heap.size,10,none⟩=some (.int .i64 x.R)/\W.cell? ⟨w.heap.size,11,none⟩=some (.int .i64 x.U)/\W.cell? ⟨w.heap.size,12,none⟩=some (.int .i64 x.O)/\W.cell? ⟨w.heap.size,13,none⟩=some (.slice q.s x.rs.length q.cs)/\W.cell? ⟨w.heap.size+1,1,none⟩=some (.slice a e.b.length c)):=fun W r r2=>⟨r.cell 3 _ rfl,r.cell 4 _ rfl,r.cell 5 _ rfl,r.cell 6 _ rfl,r.cell 7 _ rfl,r.cell 8 _ rfl,r.cell 9 _ rfl,r.cell 10 _ rfl,r.cell 11 _ rfl,r.cell 12 _ rfl,r.cell 13 _ rfl,r2.cell 1 _ rfl⟩
  refine wp_region_held_drew (S:=fun w'=>w'.cell? ⟨w.heap.size,3,none⟩=some (.bool x.up)/\w'.cell? ⟨w.heap.size,4,none⟩=some (.int .i64 x.W)/\w'.cell? ⟨w.heap.size,5,none⟩=some (.int .i64 x.S)/\w'.cell? ⟨w.heap.size,6,none⟩=some (.int .i64 x.L)/\w'.cell? ⟨w.heap.size,7,none⟩=some (.int .i64 x.T)/\w'.cell? ⟨w.heap.size,8,none⟩=some (.int .i64 x.H)/\w'.cell? ⟨w.heap.size,9,none⟩=some (.int .i64 x.F)/\w'.cell? ⟨w.heap.size,10,none⟩=some (.int .i64 x.R)/\w'.cell? ⟨w.heap.size,11,none⟩=some (.int .i64 x.U)/\w'.cell? ⟨w.heap.size,12,none⟩=some (.int .i64 x.O)/\w'.cell? ⟨w.heap.size,13,none⟩=some (.slice q.s x.rs.length q.cs)/\w'.cell? ⟨w.heap.size+1,1,none⟩=some (.slice a e.b.length c)) (by kernel_rfl) (HK.out _ bA.now.drew bE.now.drew) (fun hHe=>?_)
  refine TY 0 (.pointer (some ⟨w.heap.size,4,none⟩)) rfl hHe ?_
  simp only [PS]
  refine TY 1 (.agg #[.int .i64 x.W,.int .i64 x.S,.int .i64 x.L,.int .i64 x.T,.int .i64 x.H,.int .i64 x.F,.int .i64 x.R,.int .i64 x.U,.int .i64 x.O,.slice q.s x.rs.length q.cs]) rfl hHe ?_
  simp only [PS]
  refine TY 2 (.pointer (some ⟨w.heap.size+1,1,none⟩)) rfl hHe ?_
  simp only [PS]
  refine TY 3 (.slice a e.b.length c) rfl hHe ?_
  simp only [PS]
  refine TY 5 (.pointer (some ⟨w.heap.size,3,none⟩)) rfl hHe ?_
  simp only [PS]
  refine TY 6 (.bool x.up) rfl hHe ?_
  simp only [PS]
  refine RD 4 rfl (fun Kq hKq=>?_)
  refine step_call (by rfl) 43 #[.agg #[.int .i64 x.W,.int .i64 x.S,.int .i64 x.L,.int .i64 x.T,.int .i64 x.H,.int .i64 x.F,.int .i64 x.R,.int .i64 x.U,.int .i64 x.O,.slice q.s x.rs.length q.cs],.slice a e.b.length c] (by go_simp) (CC.out _ ((h.h3.below hE).below (Below.refl _ _).drew) ((h2.below hE).below (Below.refl _ _).drew)) ?_
  rintro r u1 ⟨oa,oc,ob,oe,rfl,hcap,own,g1,g2,hb5⟩
  unfold dnV
  refine ⟨_,rfl,?_⟩
  have hb:Below v3.heap.size v3 u1:=(Below.refl _ _).drew.trans hb5
  have s_u1:v3.heap.size<=u1.heap.size:=hb.size
  replace bA:=bA.below hb
  replace bE:=bE.below hb
  replace bR:=bR.below hb
  replace hE:=hE.trans (hb.mono hE.size)
  have od:Dep u1 v3.heap.size u1.heap.size (fun W=>OwnDn W D.rs D.ops oa ob):=dep_dnE own g1 g2
  have lo_a:∀ g,blk oa D.rs.length=some g->w.heap.size<=g:=fun g hg=>by have:v3.heap.size<=g:=g1 g hg;have:=hE0;omega
  have lo_b:∀ g,blk ob D.ops.length=some g->w.heap.size<=g:=fun g hg=>by have:v3.heap.size<=g:=g2 g hg;have:=hE0;omega
  clear hb hb5 own g1 g2
  refine hKq.out _ _ (HK.out _ bA.now bE.now) (fun hHd1=>?_)
  try simp only [PS]
  refine RD 7 rfl (fun Kq hKq=>?_)
  obtain ⟨q0,q1,q2,q3,q4,q5,q6,q7,q8,q9,q10,q11⟩:=bR.now.k12
  obtain ⟨f0,f1,f2,f3,f4,f5,f6,f7,f8,f9,f10,f11⟩:=bR.now.z12
  have ql:=bR.now.lt
  have hnA:w.heap.size+1+1≠w.heap.size:=by omega
  have hnE:w.heap.size+1+1≠w.heap.size+1:=by omega
  go_simp
  clear ql q0 f0 q1 f1 q2 f2 q3 f3 q4 f4 q5 f5 q6 f6 q7 f7 q8 f8 q9 f9 q10 f10 q11 f11
  refine hKq.out _ _ (HK.out _ ((((((((((((bA.now.other ⟨w.heap.size+1+1,0,none⟩ hnA _).other ⟨w.heap.size+1+1,1,none⟩ hnA _).other ⟨w.heap.size+1+1,2,none⟩ hnA _).other ⟨w.heap.size+1+1,3,none⟩ hnA _).other ⟨w.heap.size+1+1,4,none⟩ hnA _).other ⟨w.heap.size+1+1,5,none⟩ hnA _).other ⟨w.heap.size+1+1,6,none⟩ hnA _).other ⟨w.heap.size+1+1,7,none⟩ hnA _).other ⟨w.heap.size+1+1,8,none⟩ hnA _).other ⟨w.heap.size+1+1,9,none⟩ hnA _).other ⟨w.heap.size+1+1,10,none⟩ hnA _).other ⟨w.heap.size+1+1,11,none⟩ hnA _) ((((((((((((bE.now.other ⟨w.heap.size+1+1,0,none⟩ hnE _).other ⟨w.heap.size+1+1,1,none⟩ hnE _).other ⟨w.heap.size+1+1,2,none⟩ hnE _).other ⟨w.heap.size+1+1,3,none⟩ hnE _).other ⟨w.heap.size+1+1,4,none⟩ hnE _).other ⟨w.heap.size+1+1,5,none⟩ hnE _).other ⟨w.heap.size+1+1,6,none⟩ hnE _).other ⟨w.heap.size+1+1,7,none⟩ hnE _).other ⟨w.heap.size+1+1,8,none⟩ hnE _).other ⟨w.heap.size+1+1,9,none⟩ hnE _).other ⟨w.heap.size+1+1,10,none⟩ hnE _).other ⟨w.heap.size+1+1,11,none⟩ hnE _)) (fun hHd2=>?_)
  try simp only [PS]
  refine RD 8 rfl (fun Kq hKq=>?_)
  go_simp
  refine hKq.out _ _ hHd2 (fun _=>?_)
  try simp only [PS]
  refine DN ?_
  clear HK
  go_wp2
  generalize e_v51:((((((((((((u1.setCell _ _).setCell _ _).setCell _ _).setCell _ _).setCell _ _).setCell _ _).setCell _ _).setCell _ _).setCell _ _).setCell _ _).setCell _ _).setCell _ _)=v51
  have hgw:u1.grownBy v51 (some (w.heap.size+1+1)):=by rw [<-e_v51];exact grown_set (grown_set (grown_set (grown_set (grown_set (grown_set (grown_set (grown_set (grown_set (grown_set (grown_set (grown_set (World.grownBy.refl _ _) _ _) _ _) _ _) _ _) _ _) _ _) _ _) _ _) _ _) _ _) _ _) _ _
  have r_new:=e_v51 ▸ ((((((((((((bR.now.set 0 (by simp) (.int .i64 D.C)).set 1 (by simp) (.int .i64 D.W)).set 2 (by simp) (.int .i64 D.S)).set 3 (by simp) (.int .i64 D.L)).set 4 (by simp) (.int .i64 D.T)).set 5 (by simp) (.int .i64 D.H)).set 6 (by simp) (.int .i64 D.F)).set 7 (by simp) (.int .i64 D.R)).set 8 (by simp) (.int .i64 D.U)).set 9 (by simp) (.int .i64 D.O)).set 10 (by simp) (.slice oa D.rs.length oc)).set 11 (by simp) (.slice ob D.ops.length oe))
  have s_v51:u1.heap.size<=v51.heap.size:=hgw.size
  have hgr:∀ g,(some (w.heap.size+1+1):Option Nat)=some g->w.heap.size+1+1<=g/\g<w.heap.size+1+1+1:=fun g hg=>by injection hg with hg;omega
  clear e_v51
  replace bA:=bA.grown hgw (fun g hg=>by have:=hgr g hg;omega)
  replace bE:=bE.grown hgw (fun g hg=>by have:=hgr g hg;omega)
  replace od:=od.grown hgw (fun g hg=>by have:=hgr g hg;omega)
  replace hE:=hE.trans (grown_below hgw hE.size (fun g hg=>by have:=hgr g hg;omega))
  have l_new:=r_new.lt
  clear bR
  have bR:=dep_at r_new
  clear r_new hgw hgr l_new
  obtain ⟨q_bR_0,q_bR_1,q_bR_2,q_bR_3,q_bR_4,q_bR_5,q_bR_6,q_bR_7,q_bR_8,q_bR_9,q_bR_10,q_bR_11,q_bR_l⟩:=c12 bR.now
  exact bodyPost_ret (v:=.tuple #[.agg #[.int .i64 D.C,.int .i64 D.W,.int .i64 D.S,.int .i64 D.L,.int .i64 D.T,.int .i64 D.H,.int .i64 D.F,.int .i64 D.R,.int .i64 D.U,.int .i64 D.O,.slice oa D.rs.length oc,.slice ob D.ops.length oe],.bool (x.up)]) (by simp [results,Try.results47,go_sem,q_bR_0,q_bR_1,q_bR_2,q_bR_3,q_bR_4,q_bR_5,q_bR_6,q_bR_7,q_bR_8,q_bR_9,q_bR_10,q_bR_11,q_bR_l]) rfl ⟨oa,oc,ob,oe,rfl,hcap,od.now,fun g hg=>by have:=lo_a g hg;omega,fun g hg=>by have:=lo_b g hg;omega,hE⟩
 have n2:=hk
 clear hk
 by_cases hk:e.K=3
 ·rw [if_neg n1,if_neg n2,if_pos hk] at eA
  obtain ⟨D,HD⟩:∃ D,Hid (D=flushD x.W x.S x.L x.T x.H x.F x.R x.U x.O x.rs):=⟨_,hid rfl⟩
  rw [<-HD.out] at CF eA
  subst eA
  have hk0:=hk
  go_upto_region 7 with fail
  generalize e_v1:w.alloc _=v1
  obtain ⟨hb,z_v1,bA⟩:=bx1 e_v1
  clear e_v1
  replace hE:=hE.trans (hb.mono hE.size)
  clear hb
  generalize e_v2:v1.alloc _=v2
  obtain ⟨hb,z_v2,bE⟩:=bx1 e_v2
  clear e_v2
  rw [z_v1] at bE z_v2
  replace bA:=bA.below hb
  replace hE:=hE.trans (hb.mono hE.size)
  clear hb
  generalize e_v3:v2.alloc _=v3
  obtain ⟨hb,z_v3,bR⟩:=bx1 e_v3
  clear e_v3
  rw [z_v2] at bR z_v3
  replace bA:=bA.below hb
  replace bE:=bE.below hb
  replace hE:=hE.trans (hb.mono hE.size)
  clear hb
  have hE0:=hE.size
  have HK:Hid (∀ W,Row W w.heap.size (wL x q)->Row W (w.heap.size+1) [.int .i64 3,.slice a e.b.length c,.int .i64 e.cut,.slice f e.fs.length d]->W.cell? ⟨w.heap.size,3,none⟩=some (.bool x.up)/\W.cell? ⟨w.heap.size,4,none⟩=some (.int .i64 x.W)/\W.cell? ⟨w.heap.size,5,none⟩=some (.int .i64 x.S)/\W.cell? ⟨w.heap.size,6,none⟩=some (.int .i64 x.L)/\W.cell? ⟨w.heap.size,7,none⟩=some (.int .i64 x.T)/\W.cell? ⟨w.heap.size,8,none⟩=some (.int .i64 x.H)/\W.cell? ⟨w.heap.size,9,none⟩=some (.int .i64 x.F)/\W.cell? ⟨w.heap.size,10,none⟩=some (.int .i64 x.R)/\W.cell? ⟨w.heap.size,11,none⟩=some (.int .i64 x.U)/\W.cell? ⟨w.heap.size,12,none⟩=some (.int .i64 x.O)/\W.cell? ⟨w.heap.size,13,none⟩=some (.slice q.s x.rs.length q.cs)):=fun W r r2=>⟨r.cell 3 _ rfl,r.cell 4 _ rfl,r.cell 5 _ rfl,r.cell 6 _ rfl,r.cell 7 _ rfl,r.cell 8 _ rfl,r.cell 9 _ rfl,r.cell 10 _ rfl,r.cell 11 _ rfl,r.cell 12 _ rfl,r.cell 13 _ rfl⟩
  refine wp_region_held_drew (S:=fun w'=>w'.cell? ⟨w.heap.size,3,none⟩=some (.bool x.up)/\w'.cell? ⟨w.heap.size,4,none⟩=some (.int .i64 x.W)/\w'.cell? ⟨w.heap.size,5,none⟩=some (.int .i64 x.S)/\w'.cell? ⟨w.heap.size,6,none⟩=some (.int .i64 x.L)/\w'.cell? ⟨w.heap.size,7,none⟩=some (.int .i64 x.T)/\w'.cell? ⟨w.heap.size,8,none⟩=some (.int .i64 x.H)/\w'.cell? ⟨w.heap.size,9,none⟩=some (.int .i64 x.F)/\w'.cell? ⟨w.heap.size,10,none⟩=some (.int .i64 x.R)/\w'.cell? ⟨w.heap.size,11,none⟩=some (.int .i64 x.U)/\w'.cell? ⟨w.heap.size,12,none⟩=some (.int .i64 x.O)/\w'.cell? ⟨w.heap.size,13,none⟩=some (.slice q.s x.rs.length q.cs)) (by kernel_rfl) (HK.out _ bA.now.drew bE.now.drew) (fun hHe=>?_)
  refine TY 0 (.pointer (some ⟨w.heap.size,4,none⟩)) rfl hHe ?_
  simp only [PS]
  refine TY 1 (.agg #[.int .i64 x.W,.int .i64 x.S,.int .i64 x.L,.int .i64 x.T,.int .i64 x.H,.int .i64 x.F,.int .i64 x.R,.int .i64 x.U,.int .i64 x.O,.slice q.s x.rs.length q.cs]) rfl hHe ?_
  simp only [PS]
  refine TY 3 (.pointer (some ⟨w.heap.size,3,none⟩)) rfl hHe ?_
  simp only [PS]
  refine TY 4 (.bool x.up) rfl hHe ?_
  simp only [PS]
  refine RD 2 rfl (fun Kq hKq=>?_)
  refine step_call (by rfl) 65 #[.agg #[.int .i64 x.W,.int .i64 x.S,.int .i64 x.L,.int .i64 x.T,.int .i64 x.H,.int .i64 x.F,.int .i64 x.R,.int .i64 x.U,.int .i64 x.O,.slice q.s x.rs.length q.cs]] (by go_simp) (CF.out _ ((h.h3.below hE).below (Below.refl _ _).drew)) ?_
  rintro r u1 ⟨oa,oc,ob,oe,rfl,hcap,own,g1,g2,hb5⟩
  unfold dnV
  refine ⟨_,rfl,?_⟩
  have hb:Below v3.heap.size v3 u1:=(Below.refl _ _).drew.trans hb5
  have s_u1:v3.heap.size<=u1.heap.size:=hb.size
  replace bA:=bA.below hb
  replace bE:=bE.below hb
  replace bR:=bR.below hb
  replace hE:=hE.trans (hb.mono hE.size)
  have od:Dep u1 v3.heap.size u1.heap.size (fun W=>OwnDn W D.rs D.ops oa ob):=dep_dnE own g1 g2
  have lo_a:∀ g,blk oa D.rs.length=some g->w.heap.size<=g:=fun g hg=>by have:v3.heap.size<=g:=g1 g hg;have:=hE0;omega
  have lo_b:∀ g,blk ob D.ops.length=some g->w.heap.size<=g:=fun g hg=>by have:v3.heap.size<=g:=g2 g hg;have:=hE0;omega
  clear hb hb5 own g1 g2
  refine hKq.out _ _ (HK.out _ bA.now bE.now) (fun hHd1=>?_)
  try simp only [PS]
  refine RD 5 rfl (fun Kq hKq=>?_)
  obtain ⟨q0,q1,q2,q3,q4,q5,q6,q7,q8,q9,q10,q11⟩:=bR.now.k12
  obtain ⟨f0,f1,f2,f3,f4,f5,f6,f7,f8,f9,f10,f11⟩:=bR.now.z12
  have ql:=bR.now.lt
  have hnA:w.heap.size+1+1≠w.heap.size:=by omega
  have hnE:w.heap.size+1+1≠w.heap.size+1:=by omega
  go_simp
  clear ql q0 f0 q1 f1 q2 f2 q3 f3 q4 f4 q5 f5 q6 f6 q7 f7 q8 f8 q9 f9 q10 f10 q11 f11
  refine hKq.out _ _ (HK.out _ ((((((((((((bA.now.other ⟨w.heap.size+1+1,0,none⟩ hnA _).other ⟨w.heap.size+1+1,1,none⟩ hnA _).other ⟨w.heap.size+1+1,2,none⟩ hnA _).other ⟨w.heap.size+1+1,3,none⟩ hnA _).other ⟨w.heap.size+1+1,4,none⟩ hnA _).other ⟨w.heap.size+1+1,5,none⟩ hnA _).other ⟨w.heap.size+1+1,6,none⟩ hnA _).other ⟨w.heap.size+1+1,7,none⟩ hnA _).other ⟨w.heap.size+1+1,8,none⟩ hnA _).other ⟨w.heap.size+1+1,9,none⟩ hnA _).other ⟨w.heap.size+1+1,10,none⟩ hnA _).other ⟨w.heap.size+1+1,11,none⟩ hnA _) ((((((((((((bE.now.other ⟨w.heap.size+1+1,0,none⟩ hnE _).other ⟨w.heap.size+1+1,1,none⟩ hnE _).other ⟨w.heap.size+1+1,2,none⟩ hnE _).other ⟨w.heap.size+1+1,3,none⟩ hnE _).other ⟨w.heap.size+1+1,4,none⟩ hnE _).other ⟨w.heap.size+1+1,5,none⟩ hnE _).other ⟨w.heap.size+1+1,6,none⟩ hnE _).other ⟨w.heap.size+1+1,7,none⟩ hnE _).other ⟨w.heap.size+1+1,8,none⟩ hnE _).other ⟨w.heap.size+1+1,9,none⟩ hnE _).other ⟨w.heap.size+1+1,10,none⟩ hnE _).other ⟨w.heap.size+1+1,11,none⟩ hnE _)) (fun hHd2=>?_)
  try simp only [PS]
  refine RD 6 rfl (fun Kq hKq=>?_)
  go_simp
  refine hKq.out _ _ hHd2 (fun _=>?_)
  try simp only [PS]
  refine DN ?_
  clear HK
  go_wp2
  generalize e_v51:((((((((((((u1.setCell _ _).setCell _ _).setCell _ _).setCell _ _).setCell _ _).setCell _ _).setCell _ _).setCell _ _).setCell _ _).setCell _ _).setCell _ _).setCell _ _)=v51
  have hgw:u1.grownBy v51 (some (w.heap.size+1+1)):=by rw [<-e_v51];exact grown_set (grown_set (grown_set (grown_set (grown_set (grown_set (grown_set (grown_set (grown_set (grown_set (grown_set (grown_set (World.grownBy.refl _ _) _ _) _ _) _ _) _ _) _ _) _ _) _ _) _ _) _ _) _ _) _ _) _ _
  have r_new:=e_v51 ▸ ((((((((((((bR.now.set 0 (by simp) (.int .i64 D.C)).set 1 (by simp) (.int .i64 D.W)).set 2 (by simp) (.int .i64 D.S)).set 3 (by simp) (.int .i64 D.L)).set 4 (by simp) (.int .i64 D.T)).set 5 (by simp) (.int .i64 D.H)).set 6 (by simp) (.int .i64 D.F)).set 7 (by simp) (.int .i64 D.R)).set 8 (by simp) (.int .i64 D.U)).set 9 (by simp) (.int .i64 D.O)).set 10 (by simp) (.slice oa D.rs.length oc)).set 11 (by simp) (.slice ob D.ops.length oe))
  have s_v51:u1.heap.size<=v51.heap.size:=hgw.size
  have hgr:∀ g,(some (w.heap.size+1+1):Option Nat)=some g->w.heap.size+1+1<=g/\g<w.heap.size+1+1+1:=fun g hg=>by injection hg with hg;omega
  clear e_v51
  replace bA:=bA.grown hgw (fun g hg=>by have:=hgr g hg;omega)
  replace bE:=bE.grown hgw (fun g hg=>by have:=hgr g hg;omega)
  replace od:=od.grown hgw (fun g hg=>by have:=hgr g hg;omega)
  replace hE:=hE.trans (grown_below hgw hE.size (fun g hg=>by have:=hgr g hg;omega))
  have l_new:=r_new.lt
  clear bR
  have bR:=dep_at r_new
  clear r_new hgw hgr l_new
  obtain ⟨q_bR_0,q_bR_1,q_bR_2,q_bR_3,q_bR_4,q_bR_5,q_bR_6,q_bR_7,q_bR_8,q_bR_9,q_bR_10,q_bR_11,q_bR_l⟩:=c12 bR.now
  exact bodyPost_ret (v:=.tuple #[.agg #[.int .i64 D.C,.int .i64 D.W,.int .i64 D.S,.int .i64 D.L,.int .i64 D.T,.int .i64 D.H,.int .i64 D.F,.int .i64 D.R,.int .i64 D.U,.int .i64 D.O,.slice oa D.rs.length oc,.slice ob D.ops.length oe],.bool (x.up)]) (by simp [results,Try.results47,go_sem,q_bR_0,q_bR_1,q_bR_2,q_bR_3,q_bR_4,q_bR_5,q_bR_6,q_bR_7,q_bR_8,q_bR_9,q_bR_10,q_bR_11,q_bR_l]) rfl ⟨oa,oc,ob,oe,rfl,hcap,od.now,fun g hg=>by have:=lo_a g hg;omega,fun g hg=>by have:=lo_b g hg;omega,hE⟩
 have n3:=hk
 clear hk
 by_cases hk:e.K=4
 ·rw [if_neg n1,if_neg n2,if_neg n3,if_pos hk] at eA
  obtain ⟨D,HD⟩:∃ D,Hid (D=compactD x.W x.S x.L x.T x.H x.F x.R x.U x.O x.rs):=⟨_,hid rfl⟩
  rw [<-HD.out] at CM eA
  subst eA
  have hk0:=hk
  go_upto_region 9 with fail
  generalize e_v1:w.alloc _=v1
  obtain ⟨hb,z_v1,bA⟩:=bx1 e_v1
  clear e_v1
  replace hE:=hE.trans (hb.mono hE.size)
  clear hb
  generalize e_v2:v1.alloc _=v2
  obtain ⟨hb,z_v2,bE⟩:=bx1 e_v2
  clear e_v2
  rw [z_v1] at bE z_v2
  replace bA:=bA.below hb
  replace hE:=hE.trans (hb.mono hE.size)
  clear hb
  generalize e_v3:v2.alloc _=v3
  obtain ⟨hb,z_v3,bR⟩:=bx1 e_v3
  clear e_v3
  rw [z_v2] at bR z_v3
  replace bA:=bA.below hb
  replace bE:=bE.below hb
  replace hE:=hE.trans (hb.mono hE.size)
  clear hb
  have hE0:=hE.size
  have HK:Hid (∀ W,Row W w.heap.size (wL x q)->Row W (w.heap.size+1) [.int .i64 4,.slice a e.b.length c,.int .i64 e.cut,.slice f e.fs.length d]->W.cell? ⟨w.heap.size,3,none⟩=some (.bool x.up)/\W.cell? ⟨w.heap.size,4,none⟩=some (.int .i64 x.W)/\W.cell? ⟨w.heap.size,5,none⟩=some (.int .i64 x.S)/\W.cell? ⟨w.heap.size,6,none⟩=some (.int .i64 x.L)/\W.cell? ⟨w.heap.size,7,none⟩=some (.int .i64 x.T)/\W.cell? ⟨w.heap.size,8,none⟩=some (.int .i64 x.H)/\W.cell? ⟨w.heap.size,9,none⟩=some (.int .i64 x.F)/\W.cell? ⟨w.heap.size,10,none⟩=some (.int .i64 x.R)/\W.cell? ⟨w.heap.size,11,none⟩=some (.int .i64 x.U)/\W.cell? ⟨w.heap.size,12,none⟩=some (.int .i64 x.O)/\W.cell? ⟨w.heap.size,13,none⟩=some (.slice q.s x.rs.length q.cs)):=fun W r r2=>⟨r.cell 3 _ rfl,r.cell 4 _ rfl,r.cell 5 _ rfl,r.cell 6 _ rfl,r.cell 7 _ rfl,r.cell 8 _ rfl,r.cell 9 _ rfl,r.cell 10 _ rfl,r.cell 11 _ rfl,r.cell 12 _ rfl,r.cell 13 _ rfl⟩
  refine wp_region_held_drew (S:=fun w'=>w'.cell? ⟨w.heap.size,3,none⟩=some (.bool x.up)/\w'.cell? ⟨w.heap.size,4,none⟩=some (.int .i64 x.W)/\w'.cell? ⟨w.heap.size,5,none⟩=some (.int .i64 x.S)/\w'.cell? ⟨w.heap.size,6,none⟩=some (.int .i64 x.L)/\w'.cell? ⟨w.heap.size,7,none⟩=some (.int .i64 x.T)/\w'.cell? ⟨w.heap.size,8,none⟩=some (.int .i64 x.H)/\w'.cell? ⟨w.heap.size,9,none⟩=some (.int .i64 x.F)/\w'.cell? ⟨w.heap.size,10,none⟩=some (.int .i64 x.R)/\w'.cell? ⟨w.heap.size,11,none⟩=some (.int .i64 x.U)/\w'.cell? ⟨w.heap.size,12,none⟩=some (.int .i64 x.O)/\w'.cell? ⟨w.heap.size,13,none⟩=some (.slice q.s x.rs.length q.cs)) (by kernel_rfl) (HK.out _ bA.now.drew bE.now.drew) (fun hHe=>?_)
  refine TY 0 (.pointer (some ⟨w.heap.size,4,none⟩)) rfl hHe ?_
  simp only [PS]
  refine TY 1 (.agg #[.int .i64 x.W,.int .i64 x.S,.int .i64 x.L,.int .i64 x.T,.int .i64 x.H,.int .i64 x.F,.int .i64 x.R,.int .i64 x.U,.int .i64 x.O,.slice q.s x.rs.length q.cs]) rfl hHe ?_
  simp only [PS]
  refine TY 3 (.pointer (some ⟨w.heap.size,3,none⟩)) rfl hHe ?_
  simp only [PS]
  refine TY 4 (.bool x.up) rfl hHe ?_
  simp only [PS]
  refine RD 2 rfl (fun Kq hKq=>?_)
  refine step_call (by rfl) 66 #[.agg #[.int .i64 x.W,.int .i64 x.S,.int .i64 x.L,.int .i64 x.T,.int .i64 x.H,.int .i64 x.F,.int .i64 x.R,.int .i64 x.U,.int .i64 x.O,.slice q.s x.rs.length q.cs]] (by go_simp) (CM.out _ ((h.h3.below hE).below (Below.refl _ _).drew)) ?_
  rintro r u1 ⟨oa,oc,ob,oe,rfl,hcap,own,g1,g2,hb5⟩
  unfold dnV
  refine ⟨_,rfl,?_⟩
  have hb:Below v3.heap.size v3 u1:=(Below.refl _ _).drew.trans hb5
  have s_u1:v3.heap.size<=u1.heap.size:=hb.size
  replace bA:=bA.below hb
  replace bE:=bE.below hb
  replace bR:=bR.below hb
  replace hE:=hE.trans (hb.mono hE.size)
  have od:Dep u1 v3.heap.size u1.heap.size (fun W=>OwnDn W D.rs D.ops oa ob):=dep_dnE own g1 g2
  have lo_a:∀ g,blk oa D.rs.length=some g->w.heap.size<=g:=fun g hg=>by have:v3.heap.size<=g:=g1 g hg;have:=hE0;omega
  have lo_b:∀ g,blk ob D.ops.length=some g->w.heap.size<=g:=fun g hg=>by have:v3.heap.size<=g:=g2 g hg;have:=hE0;omega
  clear hb hb5 own g1 g2
  refine hKq.out _ _ (HK.out _ bA.now bE.now) (fun hHd1=>?_)
  try simp only [PS]
  refine RD 5 rfl (fun Kq hKq=>?_)
  obtain ⟨q0,q1,q2,q3,q4,q5,q6,q7,q8,q9,q10,q11⟩:=bR.now.k12
  obtain ⟨f0,f1,f2,f3,f4,f5,f6,f7,f8,f9,f10,f11⟩:=bR.now.z12
  have ql:=bR.now.lt
  have hnA:w.heap.size+1+1≠w.heap.size:=by omega
  have hnE:w.heap.size+1+1≠w.heap.size+1:=by omega
  go_simp
  clear ql q0 f0 q1 f1 q2 f2 q3 f3 q4 f4 q5 f5 q6 f6 q7 f7 q8 f8 q9 f9 q10 f10 q11 f11
  refine hKq.out _ _ (HK.out _ ((((((((((((bA.now.other ⟨w.heap.size+1+1,0,none⟩ hnA _).other ⟨w.heap.size+1+1,1,none⟩ hnA _).other ⟨w.heap.size+1+1,2,none⟩ hnA _).other ⟨w.heap.size+1+1,3,none⟩ hnA _).other ⟨w.heap.size+1+1,4,none⟩ hnA _).other ⟨w.heap.size+1+1,5,none⟩ hnA _).other ⟨w.heap.size+1+1,6,none⟩ hnA _).other ⟨w.heap.size+1+1,7,none⟩ hnA _).other ⟨w.heap.size+1+1,8,none⟩ hnA _).other ⟨w.heap.size+1+1,9,none⟩ hnA _).other ⟨w.heap.size+1+1,10,none⟩ hnA _).other ⟨w.heap.size+1+1,11,none⟩ hnA _) ((((((((((((bE.now.other ⟨w.heap.size+1+1,0,none⟩ hnE _).other ⟨w.heap.size+1+1,1,none⟩ hnE _).other ⟨w.heap.size+1+1,2,none⟩ hnE _).other ⟨w.heap.size+1+1,3,none⟩ hnE _).other ⟨w.heap.size+1+1,4,none⟩ hnE _).other ⟨w.heap.size+1+1,5,none⟩ hnE _).other ⟨w.heap.size+1+1,6,none⟩ hnE _).other ⟨w.heap.size+1+1,7,none⟩ hnE _).other ⟨w.heap.size+1+1,8,none⟩ hnE _).other ⟨w.heap.size+1+1,9,none⟩ hnE _).other ⟨w.heap.size+1+1,10,none⟩ hnE _).other ⟨w.heap.size+1+1,11,none⟩ hnE _)) (fun hHd2=>?_)
  try simp only [PS]
  refine RD 6 rfl (fun Kq hKq=>?_)
  go_simp
  refine hKq.out _ _ hHd2 (fun _=>?_)
  try simp only [PS]
  refine DN ?_
  clear HK
  go_wp2
  generalize e_v51:((((((((((((u1.setCell _ _).setCell _ _).setCell _ _).setCell _ _).setCell _ _).setCell _ _).setCell _ _).setCell _ _).setCell _ _).setCell _ _).setCell _ _).setCell _ _)=v51
  have hgw:u1.grownBy v51 (some (w.heap.size+1+1)):=by rw [<-e_v51];exact grown_set (grown_set (grown_set (grown_set (grown_set (grown_set (grown_set (grown_set (grown_set (grown_set (grown_set (grown_set (World.grownBy.refl _ _) _ _) _ _) _ _) _ _) _ _) _ _) _ _) _ _) _ _) _ _) _ _) _ _
  have r_new:=e_v51 ▸ ((((((((((((bR.now.set 0 (by simp) (.int .i64 D.C)).set 1 (by simp) (.int .i64 D.W)).set 2 (by simp) (.int .i64 D.S)).set 3 (by simp) (.int .i64 D.L)).set 4 (by simp) (.int .i64 D.T)).set 5 (by simp) (.int .i64 D.H)).set 6 (by simp) (.int .i64 D.F)).set 7 (by simp) (.int .i64 D.R)).set 8 (by simp) (.int .i64 D.U)).set 9 (by simp) (.int .i64 D.O)).set 10 (by simp) (.slice oa D.rs.length oc)).set 11 (by simp) (.slice ob D.ops.length oe))
  have s_v51:u1.heap.size<=v51.heap.size:=hgw.size
  have hgr:∀ g,(some (w.heap.size+1+1):Option Nat)=some g->w.heap.size+1+1<=g/\g<w.heap.size+1+1+1:=fun g hg=>by injection hg with hg;omega
  clear e_v51
  replace bA:=bA.grown hgw (fun g hg=>by have:=hgr g hg;omega)
  replace bE:=bE.grown hgw (fun g hg=>by have:=hgr g hg;omega)
  replace od:=od.grown hgw (fun g hg=>by have:=hgr g hg;omega)
  replace hE:=hE.trans (grown_below hgw hE.size (fun g hg=>by have:=hgr g hg;omega))
  have l_new:=r_new.lt
  clear bR
  have bR:=dep_at r_new
  clear r_new hgw hgr l_new
  obtain ⟨q_bR_0,q_bR_1,q_bR_2,q_bR_3,q_bR_4,q_bR_5,q_bR_6,q_bR_7,q_bR_8,q_bR_9,q_bR_10,q_bR_11,q_bR_l⟩:=c12 bR.now
  exact bodyPost_ret (v:=.tuple #[.agg #[.int .i64 D.C,.int .i64 D.W,.int .i64 D.S,.int .i64 D.L,.int .i64 D.T,.int .i64 D.H,.int .i64 D.F,.int .i64 D.R,.int .i64 D.U,.int .i64 D.O,.slice oa D.rs.length oc,.slice ob D.ops.length oe],.bool (x.up)]) (by simp [results,Try.results47,go_sem,q_bR_0,q_bR_1,q_bR_2,q_bR_3,q_bR_4,q_bR_5,q_bR_6,q_bR_7,q_bR_8,q_bR_9,q_bR_10,q_bR_11,q_bR_l]) rfl ⟨oa,oc,ob,oe,rfl,hcap,od.now,fun g hg=>by have:=lo_a g hg;omega,fun g hg=>by have:=lo_b g hg;omega,hE⟩
 have n4:=hk
 clear hk
 rw [if_neg n1,if_neg n2,if_neg n3,if_neg n4] at eA
 subst eA
 go_wp2
 generalize e_v1:w.alloc _=v1
 obtain ⟨hb,z_v1,bA⟩:=bx1 e_v1
 clear e_v1
 replace hE:=hE.trans (hb.mono hE.size)
 clear hb
 generalize e_v2:v1.alloc _=v2
 obtain ⟨hb,z_v2,bE⟩:=bx1 e_v2
 clear e_v2
 rw [z_v1] at bE z_v2
 replace bA:=bA.below hb
 replace hE:=hE.trans (hb.mono hE.size)
 clear hb
 generalize e_v3:v2.alloc _=v3
 obtain ⟨hb,z_v3,bR⟩:=bx1 e_v3
 clear e_v3
 rw [z_v2] at bR z_v3
 replace bA:=bA.below hb
 replace bE:=bE.below hb
 replace hE:=hE.trans (hb.mono hE.size)
 clear hb
 obtain ⟨q_bR_0,q_bR_1,q_bR_2,q_bR_3,q_bR_4,q_bR_5,q_bR_6,q_bR_7,q_bR_8,q_bR_9,q_bR_10,q_bR_11,q_bR_l⟩:=c12 bR.now
 exact bodyPost_ret (v:=.tuple #[.agg #[.int .i64 0,.int .i64 0,.int .i64 0,.int .i64 0,.int .i64 0,.int .i64 0,.int .i64 0,.int .i64 0,.int .i64 0,.int .i64 0,.slice none 0 0,.slice none 0 0],.bool false]) (by simp [results,Try.results47,go_sem,q_bR_0,q_bR_1,q_bR_2,q_bR_3,q_bR_4,q_bR_5,q_bR_6,q_bR_7,q_bR_8,q_bR_9,q_bR_10,q_bR_11,q_bR_l]) rfl ⟨none,0,none,0,rfl,Nat.le_refl _,⟨.inl rfl,.inl rfl,.inl rfl⟩,fun g hg=>(by cases hg),fun g hg=>(by cases hg),hE⟩
end Go.Proofs.Ythdilmkbnpmdaaa
