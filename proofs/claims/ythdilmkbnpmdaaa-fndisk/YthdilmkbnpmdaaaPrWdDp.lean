import Derived.Test.YthdilmkbnpmdaaaPrWdD0
set_option maxHeartbeats 16000000
namespace Go.Proofs.Ythdilmkbnpmdaaa
open Go.RowKit
set_option maxRecDepth 8000
set_option linter.unusedVariables false
set_option linter.unusedSimpArgs false
theorem do_pow (x:Wo) (q:Wp) (e:Ev) (a:Option Addr) (c:Nat) (f:Option Addr) (d:Nat) (F:Nat->Prop) (w:World) (h:WoF x w F q) (ho:x.ok) (h2:Chs w a e.b) (h3:Ints w f e.fs) (he:e.le) (hK:e.K=5) :
  Calls Try.prog 38 #[worldW x q,eventV e a c f d] w fun r w'=>WPost w w' F r (x.doE e):=by
 have hm:=ho.le
 obtain ⟨FF,hF1,hF2,hFa,hFr,hF5⟩:∃ FF:Nat->Prop,Hid (∀ b,b<w.heap.size->F b->FF b)/\Hid (∀ b,w.heap.size+1+1+1<=b->FF b)/\Hid (¬ FF w.heap.size)/\Hid (¬ FF (w.heap.size+1+1))/\Hid (∀ b,FF b->F b\/w.heap.size<=b) :=
  ⟨fun b=>(F b/\b<w.heap.size)\/w.heap.size+1+1+1<=b,fun b h1 h2=>.inl ⟨h2,h1⟩,fun b h=>.inr h,fun h=>by rcases h with h | h;exact absurd h.2 (by omega);omega,fun h=>by rcases h with h | h;exact absurd h.2 (by omega);omega,fun b h=>by rcases h with h | h;exact .inl h.1;exact .inr (by omega)⟩
 have hw:WoF x w FF q:=h.mono hF1
 clear h hF1
 have CP:=hid (fun y q1 w' (k1:WoF y w' FF q1) (hy:y.le 1048576) k2=>pow_s y q1 f e.fs d FF w' k1 hy k2 he.f)
 have er:x.doE e=x.pow e.fs:=by unfold Wo.doE;rw [if_pos hK]
 rw [er]
 obtain ⟨y,HY⟩:∃ y,Hid (y=x.pow e.fs):=⟨_,hid rfl⟩
 have CQ:=hid (fun w' k=>CP.out x q w' k hm)
 rw [<-HY.out] at CQ ⊢
 unfold worldW at CQ ⊢
 unfold eventV
 have hE:Below w.heap.size w w:=Below.refl _ _
 clear er CP
 go_enter Try.func38,Try.ntmps38
 go_wp2_with fail
 generalize e_v1:w.alloc _=v1
 obtain ⟨hb,z_v1,bA⟩:=bx1 e_v1
 clear e_v1
 replace hE:=hE.trans (hb.mono hE.size)
 clear hb
 generalize e_v2:v1.alloc _=v2
 obtain ⟨hb,z_v2,bE⟩:=bx1 e_v2
 clear e_v2
 rw [z_v1] at bE z_v2
 replace bA:=bA.below hb
 replace hE:=hE.trans (hb.mono hE.size)
 clear hb
 generalize e_v3:v2.alloc _=v3
 obtain ⟨hb,z_v3,bR⟩:=bx1 e_v3
 clear e_v3
 rw [z_v2] at bR z_v3
 replace bA:=bA.below hb
 replace bE:=bE.below hb
 replace hE:=hE.trans (hb.mono hE.size)
 clear hb
 refine (CQ.out _ (hw.below hE) (h3.below hE)).mono ?_
 rintro e v4 ⟨q1,rfl,F_y,hb⟩
 have s_v4:v3.heap.size<=v4.heap.size:=hb.size
 replace bA:=bA.below hb
 replace bE:=bE.below hb
 replace bR:=bR.below hb
 replace hE:=hE.trans (hb.mono hE.size)
 replace F_y:=F_y.mono (G:=FF) (fun b _ k=>k.elim id (fun k=>hF2.out b (by omega)))
 clear hb
 unfold worldW
 obtain ⟨q_bR_0,q_bR_1,q_bR_2,q_bR_3,q_bR_4,q_bR_5,q_bR_6,q_bR_7,q_bR_8,q_bR_9,q_bR_10,q_bR_11,q_bR_12,q_bR_13,q_bR_14,q_bR_15⟩:=bR.now.k16
 obtain ⟨f_bR_0,f_bR_1,f_bR_2,f_bR_3,f_bR_4,f_bR_5,f_bR_6,f_bR_7,f_bR_8,f_bR_9,f_bR_10,f_bR_11,f_bR_12,f_bR_13,f_bR_14,f_bR_15⟩:=bR.now.z16
 have q_bR_l:=bR.now.lt
 go_wp2
 clear q_bR_0 f_bR_0 q_bR_1 f_bR_1 q_bR_2 f_bR_2 q_bR_3 f_bR_3 q_bR_4 f_bR_4 q_bR_5 f_bR_5 q_bR_6 f_bR_6 q_bR_7 f_bR_7 q_bR_8 f_bR_8 q_bR_9 f_bR_9 q_bR_10 f_bR_10 q_bR_11 f_bR_11 q_bR_12 f_bR_12 q_bR_13 f_bR_13 q_bR_14 f_bR_14 q_bR_15 f_bR_15 q_bR_l
 generalize e_v5:((((((((((((((((v4.setCell _ _).setCell _ _).setCell _ _).setCell _ _).setCell _ _).setCell _ _).setCell _ _).setCell _ _).setCell _ _).setCell _ _).setCell _ _).setCell _ _).setCell _ _).setCell _ _).setCell _ _).setCell _ _)=v5
 have hgw:v4.grownBy v5 (some (w.heap.size+1+1)):=by rw [<-e_v5];exact grown_set (grown_set (grown_set (grown_set (grown_set (grown_set (grown_set (grown_set (grown_set (grown_set (grown_set (grown_set (grown_set (grown_set (grown_set (grown_set (World.grownBy.refl _ _) _ _) _ _) _ _) _ _) _ _) _ _) _ _) _ _) _ _) _ _) _ _) _ _) _ _) _ _) _ _) _ _
 have r_new:=e_v5 ▸ ((((((((((((((((bR.now.set 0 (by simp) (.int .i64 y.w)).set 1 (by simp) (.slice q1.a y.ss.length q1.c)).set 2 (by simp) (.slice q1.a' y.ws.length q1.c')).set 3 (by simp) (.bool y.up)).set 4 (by simp) (.int .i64 y.W)).set 5 (by simp) (.int .i64 y.S)).set 6 (by simp) (.int .i64 y.L)).set 7 (by simp) (.int .i64 y.T)).set 8 (by simp) (.int .i64 y.H)).set 9 (by simp) (.int .i64 y.F)).set 10 (by simp) (.int .i64 y.R)).set 11 (by simp) (.int .i64 y.U)).set 12 (by simp) (.int .i64 y.O)).set 13 (by simp) (.slice q1.s y.rs.length q1.cs)).set 14 (by simp) (.slice q1.p y.P.length q1.cp)).set 15 (by simp) (.slice q1.t y.ts.length q1.ct))
 have s_v5:v4.heap.size<=v5.heap.size:=hgw.size
 have hgr:∀ g,(some (w.heap.size+1+1):Option Nat)=some g->w.heap.size+1+1<=g/\g<w.heap.size+1+1+1:=fun g hg=>by injection hg with hg;omega
 clear e_v5
 replace bA:=bA.grown hgw (fun g hg=>by have:=hgr g hg;omega)
 replace bE:=bE.grown hgw (fun g hg=>by have:=hgr g hg;omega)
 replace F_y:=F_y.grown hgw (fun g hg k=>by have:=hgr g hg;first | exact absurd k (by rw [show g=w.heap.size by omega];exact hFa) | exact absurd k (by rw [show g=w.heap.size+1+1 by omega];exact hFr))
 replace hE:=hE.trans (grown_below hgw hE.size (fun g hg=>by have:=hgr g hg;omega))
 have l_new:=r_new.lt
 clear bR
 have bR:=dep_at r_new
 clear r_new hgw hgr l_new
 obtain ⟨q_bR_0,q_bR_1,q_bR_2,q_bR_3,q_bR_4,q_bR_5,q_bR_6,q_bR_7,q_bR_8,q_bR_9,q_bR_10,q_bR_11,q_bR_12,q_bR_13,q_bR_14,q_bR_15,q_bR_l⟩:=c16 bR.now
 exact bodyPost_ret (v:=.agg (wA y q1)) (by simp [results,Try.results38,go_sem,q_bR_0,q_bR_1,q_bR_2,q_bR_3,q_bR_4,q_bR_5,q_bR_6,q_bR_7,q_bR_8,q_bR_9,q_bR_10,q_bR_11,q_bR_12,q_bR_13,q_bR_14,q_bR_15,q_bR_l]) rfl ⟨q1,rfl,(F_y).mono fun b _ k=>hF5.out b k,hE⟩
end Go.Proofs.Ythdilmkbnpmdaaa
