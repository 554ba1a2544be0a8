import Derived.Test.YthdilmkbnpmdaaaPrWdD0
set_option maxHeartbeats 16000000
namespace Go.Proofs.Ythdilmkbnpmdaaa
open Go.RowKit
set_option maxRecDepth 8000
set_option linter.unusedVariables false
set_option linter.unusedSimpArgs false
theorem do_else (x:Wo) (q:Wp) (e:Ev) (a:Option Addr) (c:Nat) (f:Option Addr) (d:Nat) (F:Nat->Prop) (w:World) (h:WoF x w F q) (ho:x.ok) (h2:Chs w a e.b) (h3:Ints w f e.fs) (he:e.le) (hK:¬ e.K=5) (D:Dd) (hcall:x.call e=(D,true)) (hC:D.C=0) (hlg:¬ (2000<(evTs x e D).length\/200<(evP x e D).length)) (hcb:evCut e D=false) (k2:¬ e.K=2) :
  Calls Try.prog 38 #[worldW x q,eventV e a c f d] w fun r w'=>WPost w w' F r (x.doE e):=by
 have hm:=ho.le
 obtain ⟨FF,hF1,hF2,hFa,hFr,hF5⟩:∃ FF:Nat->Prop,Hid (∀ b,b<w.heap.size->F b->FF b)/\Hid (∀ b,w.heap.size+1+1+1<=b->FF b)/\Hid (¬ FF w.heap.size)/\Hid (¬ FF (w.heap.size+1+1))/\Hid (∀ b,FF b->F b\/w.heap.size<=b) :=
  ⟨fun b=>(F b/\b<w.heap.size)\/w.heap.size+1+1+1<=b,fun b h1 h2=>.inl ⟨h2,h1⟩,fun b h=>.inr h,fun h=>by rcases h with h | h;exact absurd h.2 (by omega);omega,fun h=>by rcases h with h | h;exact absurd h.2 (by omega);omega,fun b h=>by rcases h with h | h;exact .inl h.1;exact .inr (by omega)⟩
 have hw:WoF x w FF q:=h.mono hF1
 clear h hF1
 have CP:=hid (fun y q1 w' (k1:WoF y w' FF q1) (hy:y.le 1048576) k2=>pow_s y q1 f e.fs d FF w' k1 hy k2 he.f)
 have HK2:=hid k2
 clear k2
 have HC0:=hid hC
 clear hC
 have hD:=ho.call e
 have CC:=hid (fun w' k1 k2=>call_s x q e a c f d w' k1 hm k2 he)
 rw [hcall] at CC hD
 simp only at CC hD
 have HD:=hid hD
 have hol:D.ops.length<=1000:=hD.2.1
 have CF:=hid (fun ob oe (z:Int) w' k1 k2 k3=>pf_s_any q.a x.ss q.c q.a' x.ws q.c' ob D.ops oe z w' k1 k2 k3 (by omega) (fun o ho=>by have:=hD.2.2 o ho;omega) hm.l1 hm.l2 hm.s1 hm.s2)
 unfold diskV at CF
 have HCL:=hid hcall
 clear hcall hD
 obtain ⟨i0,hi0,hz0,hz1,hz2⟩:=info_partsD info_strD
 have HI:=hid (And.intro hi0 (And.intro hz0 (And.intro hz1 hz2)))
 clear hi0 hz0 hz1 hz2
 obtain ⟨i1,hi0,hz0,hz1,hz2⟩:=info_partsD info_stD
 have HJ:=hid (And.intro hi0 (And.intro hz0 (And.intro hz1 hz2)))
 clear hi0 hz0 hz1 hz2
 have hkb:=hm.l5
 have hpl:=ho.p.1
 have htl:=ho.t.1
 obtain ⟨RES,HRES⟩:∃ y,Hid (y=x.doE e):=⟨_,hid rfl⟩
 rw [<-HRES.out]
 unfold worldW eventV at CC ⊢
 have hE:Below w.heap.size w w:=Below.refl _ _
 have hK':(e.K == 5)=false:=by simp [hK]
 go_enter Try.func38,Try.ntmps38
 go_wp2_with fail
 generalize e_v1:w.alloc _=v1
 obtain ⟨hb,z_v1,bA⟩:=bx1 e_v1
 clear e_v1
 replace hE:=hE.trans (hb.mono hE.size)
 clear hb
 generalize e_v2:v1.alloc _=v2
 obtain ⟨hb,z_v2,bE⟩:=bx1 e_v2
 clear e_v2
 rw [z_v1] at bE z_v2
 replace bA:=bA.below hb
 replace hE:=hE.trans (hb.mono hE.size)
 clear hb
 generalize e_v3:v2.alloc _=v3
 obtain ⟨hb,z_v3,bR⟩:=bx1 e_v3
 clear e_v3
 rw [z_v2] at bR z_v3
 replace bA:=bA.below hb
 replace bE:=bE.below hb
 replace hE:=hE.trans (hb.mono hE.size)
 clear hb
 refine (CC.out _ (hw.below hE).at (h2.below hE)).mono ?_
 rintro e v4 ⟨oa,oc,ob,oe,rfl,hcap,own,g1,g2,hb⟩
 have s_v4:v3.heap.size<=v4.heap.size:=hb.size
 replace bA:=bA.below hb
 replace bE:=bE.below hb
 replace bR:=bR.below hb
 replace hE:=hE.trans (hb.mono hE.size)
 have od:Dep v4 v3.heap.size v4.heap.size (fun W=>OwnDn W D.rs D.ops oa ob):=dep_dnE own g1 g2
 have lod:w.heap.size+1+1+1<=v3.heap.size:=by omega
 clear own g1 g2
 clear hb
 unfold dnV
 go_upto_region 4 with fail
 generalize e_v5:v4.alloc _=v5
 obtain ⟨hb,z_v5,bX⟩:=bx1 e_v5
 have s_v5:v4.heap.size+1<=v5.heap.size:=by omega
 clear e_v5 z_v5
 replace bA:=bA.below hb
 replace bE:=bE.below hb
 replace bR:=bR.below hb
 replace od:=od.below hb
 replace hE:=hE.trans (hb.mono hE.size)
 clear hb
 obtain ⟨XB,e_XB⟩:∃ y,y=v4.heap.size:=⟨_,rfl⟩
 rw [<-e_XB] at bX ⊢
 have hXB:w.heap.size+1+1+1<=XB:=by omega
 have lXB:XB<v5.heap.size:=bX.now.lt
 clear e_XB
 generalize Value.tuple _=T0
 generalize Value.agg (wA x q)=A0
 generalize Value.agg #[.int .i64 D.C,.int .i64 D.W,.int .i64 D.S,.int .i64 D.L,.int .i64 D.T,.int .i64 D.H,.int .i64 D.F,.int .i64 D.R,.int .i64 D.U,.int .i64 D.O,.slice oa D.rs.length oc,.slice ob D.ops.length oe]=A1
 generalize Value.agg #[.int .i64 e.K,.slice a e.b.length c,.int .i64 e.cut,.slice f e.fs.length d]=A2
 have hC:=HC0.out
 rw [hC] at bX
 obtain ⟨N,HN⟩:∃ N,Hid (N=evN e D):=⟨_,hid rfl⟩
 obtain ⟨CB,HCB⟩:∃ b,Hid (b=evCut e D):=⟨_,hid rfl⟩
 have hNl:N<=D.ops.length:=by rw [HN.out];exact evN_le e D
 obtain ⟨q_bX_0,q_bX_1,q_bX_2,q_bX_3,q_bX_4,q_bX_5,q_bX_6,q_bX_7,q_bX_8,q_bX_9,q_bX_10,q_bX_11,q_bX_l⟩:=c12 bX.now
 obtain ⟨q_bE_0,q_bE_1,q_bE_2,q_bE_3⟩:=bE.now.k4
 have q_bE_l:=bE.now.lt
 go_upto_region 7 with fail
 have HNC:Hid (CB=true->e.cut=(N:Int)):=hid (fun k=>by rw [HCB.out] at k;have k:=of_decide_eq_true (by unfold evCut at k;exact k);rw [HN.out];unfold evN;rw [if_pos k];omega)
 have HND:Hid (CB=false->N=D.ops.length):=hid (fun k=>by rw [HCB.out] at k;have k:=of_decide_eq_false (by unfold evCut at k;exact k);rw [HN.out];unfold evN;rw [if_neg k])
 go_cut [8] from 36 to 44 (fun cv wx=>cv=.bool CB/\wx=v5)
 case first =>
  by_cases k1:0<=e.cut
  ·by_cases k2:e.cut<=(D.ops.length:Int)
   ·have hcb:CB=true:=by rw [HCB.out];unfold evCut;exact decide_eq_true ⟨k1,k2⟩
    clear HNC HND
    go_wp2
    go_meet
    exact ⟨by rw [hcb],rfl⟩
   ·have hcb:CB=false:=by rw [HCB.out];unfold evCut;exact decide_eq_false (fun h=>k2 h.2)
    clear HNC HND
    go_wp2
    go_meet
    exact ⟨by rw [hcb],rfl⟩
  ·have hcb:CB=false:=by rw [HCB.out];unfold evCut;exact decide_eq_false (fun h=>k1 h.1)
   clear HNC HND
   go_wp2
   go_meet
   exact ⟨by rw [hcb],rfl⟩
 case rest =>
 obtain ⟨e8,ewc⟩:=hcut
 subst e8
 rw [ewc]
 clear ewc
 go_upto_if 45 with fail
 go_cut [7] from 46 to 47 (fun nv wx=>nv=.int .i64 (N:Int)/\wx=v5)
 case first =>
  cases CB with
  | true =>
   have hn:=hid (HNC.out rfl)
   clear HNC HND
   go_wp2
   go_meet
   exact ⟨by rw [hn.out],rfl⟩
  | false =>
   have hn:=hid (HND.out rfl)
   clear HNC HND
   go_wp2
   go_meet
   exact ⟨by rw [hn.out],rfl⟩
 case rest =>
 obtain ⟨e7,ewc⟩:=hcut
 subst e7
 rw [ewc]
 clear ewc HNC HND
 clear q_bX_0 q_bX_1 q_bX_2 q_bX_3 q_bX_4 q_bX_5 q_bX_6 q_bX_7 q_bX_8 q_bX_9 q_bX_10 q_bX_11 q_bX_l q_bE_0 q_bE_1 q_bE_2 q_bE_3 q_bE_l
 have hNN:(N:Int)<=1000:=by omega
 obtain ⟨q_bA_0,q_bA_1,q_bA_2,q_bA_3,q_bA_4,q_bA_5,q_bA_6,q_bA_7,q_bA_8,q_bA_9,q_bA_10,q_bA_11,q_bA_12,q_bA_13,q_bA_14,q_bA_15,q_bA_l⟩:=c16 bA.now
 go_wp2_with (at_builtin;refine wpList_append_copy2 rfl _ _ 23 rfl 9 i0 (.string ByteArray.empty) 1 16 Try.underlying23 HI.out.1 HI.out.2.1 HI.out.2.2.1 HI.out.2.2.2 rfl v5.heap.size v5.heap.size rfl (World.ownsRow_lit _ #[] 0 (Nat.le_refl _) (by simp) (by simp)) _ rfl x.ts.length _ (src_strs ((hw.below hE).at.h5.below (below_nwD _ _)) _ _ Try.underlying23 q.ct) (by omega) (by omega) (by simp) ?_;intro g0 cap0 ws hown0 hg0 hbs)
 clear q_bA_0 q_bA_1 q_bA_2 q_bA_3 q_bA_4 q_bA_5 q_bA_6 q_bA_7 q_bA_8 q_bA_9 q_bA_10 q_bA_11 q_bA_12 q_bA_13 q_bA_14 q_bA_15 q_bA_l
 have hB0:Below v5.heap.size v5 ws:=(below_nwD _ _).trans (hbs.mono (by simp))
 clear hbs hg0
 go_loopw [9,10] (fun wv iv wr=>∃ (j g cap:Nat),j<=N/\iv=.int .i64 (j:Int)/\wv=.slice (some ⟨g,0,none⟩) (x.ts++dats (D.ops.take j)).length cap/\wr.ownsRow v5.heap.size 9 1 (.slice (some ⟨g,0,none⟩) (x.ts++dats (D.ops.take j)).length cap) (x.ts++dats (D.ops.take j)).length ((x.ts++dats (D.ops.take j)).map Value.string)/\Below v5.heap.size v5 wr) (fun _ iv _=>N-(intOf iv).toNat)
 case atStart=>exact ⟨0,g0,cap0,Nat.zero_le _,rfl,by simp [dats],by simpa [dats] using hown0,hB0⟩
 case round =>
  clear hown0 hB0
  obtain ⟨j,g,cap,hj,rfl,rfl,hown,hB⟩:=hrel
  have hdl:=dats_le (D.ops.take j)
  rw [List.length_take] at hdl
  have hl4:(x.ts++dats (D.ops.take j)).length<=4000:=by rw [List.length_append];omega
  obtain ⟨LL,HLL⟩:∃ y,Hid (y=x.ts++dats (D.ops.take j)):=⟨_,hid rfl⟩
  rw [<-HLL.out] at hown hl4 ⊢
  clear hdl
  by_cases hlt:j<N
  ·have hlt':(j:Int)<(N:Int):=by omega
   have hj0:(0:Int)<=(j:Int):=by omega
   have hjl:(j:Int)<(D.ops.length:Int):=by omega
   have X1:=(bX.low hB (by omega)).now
   have q11:=X1.cell 11 _ rfl
   have qxl:=X1.lt
   obtain ⟨b1,o1,s0,n1,t2,rfl,c0,c1,c2,HOP⟩:=(od.low hB (by omega)).now.p.ops.at (k:=j) (by omega)
   have hst:=dats_step D.ops j (by omega)
   rw [<-HOP.out] at hst
   have HST:=hid hst
   clear hst X1
   have HOW:=hid hown
   have HBB:=hid hB
   have lb1:=lt_cellD c0
   clear hown hB
   have hw4:IntKind.i64.wrap ((j:Int)+1)=((j+1:Nat):Int):=by rw [wrap_idD _ (by omega) (by omega)];omega
   cases s0 with
   | true =>
    go_wp2
    exact ⟨⟨j+1,g,cap,by omega,by go_num,by rw [HST.out];simp [HLL.out],by rw [HST.out];simpa [HLL.out] using HOW.out,HBB.out⟩,by simp [intOf];omega⟩
   | false =>
    go_wp2_with (at_builtin;refine WAL _ rfl _ _ 23 rfl v5.heap.size Try.underlying23 HI.out rfl (by omega) _ LL.length _ rfl (HOW.out.alloc _) ⟨wr.heap.size,0,none⟩ 1 1 [.string t2] rfl rfl (World.news_of_block (heap_alloc_new wr _)) (by intro u hu;simp at hu;subst hu;rfl) (by have:=HBB.out.size;simp;omega) (wr.heap.size+1) (by simp) ?_;intro g9 cap9 w9 hown9 hgrow9 hat9 hlt9;have HO9:=hid hown9;have HG9:=hid hgrow9;clear hown9 hgrow9 hat9)
    have e9:x.ts++dats (D.ops.take (j+1))=LL++[t2]:=by rw [HST.out,HLL.out];simp
    have hB9:Below v5.heap.size v5 w9:=below_grownS ((HBB.out).alloc HBB.out.size _) (HOW.out.alloc _) HG9.out (by have:=HBB.out.size;simp;omega)
    exact ⟨⟨j+1,g9,cap9,by omega,by go_num,by rw [e9];simp,by rw [e9];simpa using HO9.out,hB9⟩,by simp [intOf];omega⟩
  have hjN:j=N:=by omega
  have HTS:Hid (LL=evTs x e D):=hid (by rw [HLL.out,hjN,HN.out];rfl)
  have hnl:¬ (j:Int)<(N:Int):=by omega
  clear hjN
  have s_wr:v5.heap.size<=wr.heap.size:=hB.size
  replace bA:=bA.low hB (by omega)
  replace bE:=bE.low hB (by omega)
  replace bR:=bR.low hB (by omega)
  replace od:=od.low hB (by omega)
  replace bX:=bX.low hB (by omega)
  replace hE:=hE.trans (hB.mono hE.size)
  have rT:=owns_row hown
  have gT:=owns_baseD hown
  have wd:Dep wr v5.heap.size wr.heap.size (fun W=>Row W g (LL.map Value.string)):=dep_row rT gT rT.lt (Nat.le_refl _)
  have lwd:w.heap.size+1+1+1<=v5.heap.size:=by omega
  clear hB hown rT HLL
  obtain ⟨PP,HPP⟩:∃ y,Hid (y=evP x e D):=⟨_,hid rfl⟩
  have hppl:PP.length<=201:=by rw [HPP.out];unfold evP;split<;>(try simp)<;>omega
  obtain ⟨q_bA_0,q_bA_1,q_bA_2,q_bA_3,q_bA_4,q_bA_5,q_bA_6,q_bA_7,q_bA_8,q_bA_9,q_bA_10,q_bA_11,q_bA_12,q_bA_13,q_bA_14,q_bA_15,q_bA_l⟩:=c16 bA.now
  obtain ⟨q_bE_0,q_bE_1,q_bE_2,q_bE_3⟩:=bE.now.k4
  have q_bE_l:=bE.now.lt
  obtain ⟨q_bX_0,q_bX_1,q_bX_2,q_bX_3,q_bX_4,q_bX_5,q_bX_6,q_bX_7,q_bX_8,q_bX_9,q_bX_10,q_bX_11,q_bX_l⟩:=c12 bX.now
  go_upto_if 77 with fail
  clear q_bA_0 q_bA_1 q_bA_2 q_bA_3 q_bA_4 q_bA_5 q_bA_6 q_bA_7 q_bA_8 q_bA_9 q_bA_10 q_bA_11 q_bA_12 q_bA_13 q_bA_14 q_bA_15 q_bA_l q_bE_0 q_bE_1 q_bE_2 q_bE_3 q_bE_l q_bX_0 q_bX_1 q_bX_2 q_bX_3 q_bX_4 q_bX_5 q_bX_6 q_bX_7 q_bX_8 q_bX_9 q_bX_10 q_bX_11 q_bX_l
  go_cut [11] from 75 to 85 (fun pv wx=>∃ (pa:Option Addr) (pc:Nat),pv=.slice pa PP.length pc/\PstF wx FF pa PP/\Below wr.heap.size wr wx)
  case first =>
   have k2:=HK2.out
   have ep:PP=x.P:=by rw [HPP.out];unfold evP;rw [if_neg k2]
   have k2b:(e.K == 2)=false:=by simp [k2]
   obtain ⟨q_bE_0,q_bE_1,q_bE_2,q_bE_3⟩:=bE.now.k4
   have q_bE_l:=bE.now.lt
   go_wp2_with fail
   go_meet
   rw [ep]
   exact ⟨q.p,q.cp,rfl,(hw.below hE).h4,Below.refl _ _⟩
  case rest =>
  obtain ⟨pa,pc,rfl,F_p,hb⟩:=hcut
  have s_wc:wr.heap.size<=wc.heap.size:=hb.size
  replace bA:=bA.below hb
  replace bE:=bE.below hb
  replace bR:=bR.below hb
  replace od:=od.below hb
  replace bX:=bX.below hb
  replace wd:=wd.below hb
  replace hE:=hE.trans (hb.mono hE.size)
  clear hb
  have hlg':=hlg
  rw [<-HTS.out,<-HPP.out] at hlg'
  have t1':¬ ((2000:Int)<(LL.length:Int)):=by omega
  have t2':¬ ((200:Int)<(PP.length:Int)):=by omega
  clear hlg'
  have hlong:¬ (2000<(evTs x e D).length\/200<(evP x e D).length):=by exact hlg
  have hro:=ho.ran e (d:=D) HD.out (by omega)
  have HRO:=hid hro
  have HLG:=hid hlong
  clear hro hlong
  obtain ⟨q_bA_0,q_bA_1,q_bA_2,q_bA_3,q_bA_4,q_bA_5,q_bA_6,q_bA_7,q_bA_8,q_bA_9,q_bA_10,q_bA_11,q_bA_12,q_bA_13,q_bA_14,q_bA_15⟩:=bA.now.k16
  obtain ⟨f_bA_0,f_bA_1,f_bA_2,f_bA_3,f_bA_4,f_bA_5,f_bA_6,f_bA_7,f_bA_8,f_bA_9,f_bA_10,f_bA_11,f_bA_12,f_bA_13,f_bA_14,f_bA_15⟩:=bA.now.z16
  have q_bA_l:=bA.now.lt
  obtain ⟨q_bE_0,q_bE_1,q_bE_2,q_bE_3⟩:=bE.now.k4
  have q_bE_l:=bE.now.lt
  obtain ⟨q_bX_0,q_bX_1,q_bX_2,q_bX_3,q_bX_4,q_bX_5,q_bX_6,q_bX_7,q_bX_8,q_bX_9,q_bX_10,q_bX_11,q_bX_l⟩:=c12 bX.now
  go_wp2_with fail
  clear q_bA_0 f_bA_0 q_bA_1 f_bA_1 q_bA_2 f_bA_2 q_bA_3 f_bA_3 q_bA_4 f_bA_4 q_bA_5 f_bA_5 q_bA_6 f_bA_6 q_bA_7 f_bA_7 q_bA_8 f_bA_8 q_bA_9 f_bA_9 q_bA_10 f_bA_10 q_bA_11 f_bA_11 q_bA_12 f_bA_12 q_bA_13 f_bA_13 q_bA_14 f_bA_14 q_bA_15 f_bA_15 q_bA_l q_bE_0 q_bE_1 q_bE_2 q_bE_3 q_bE_l q_bX_0 q_bX_1 q_bX_2 q_bX_3 q_bX_4 q_bX_5 q_bX_6 q_bX_7 q_bX_8 q_bX_9 q_bX_10 q_bX_11 q_bX_l
  generalize e_v6:((wc.setCell _ _).setCell _ _)=v6
  have hgw:wc.grownBy v6 (some (w.heap.size)):=by rw [<-e_v6];exact grown_set (grown_set (World.grownBy.refl _ _) _ _) _ _
  have r_new:=e_v6 ▸ ((bA.now.set 15 (by simp) (.slice (some ⟨g,0,none⟩) LL.length cap)).set 14 (by simp) (.slice pa PP.length pc))
  have s_v6:wc.heap.size<=v6.heap.size:=hgw.size
  have hgr:∀ g,(some (w.heap.size):Option Nat)=some g->w.heap.size<=g/\g<w.heap.size+1:=fun g hg=>by injection hg with hg;omega
  clear e_v6
  replace bE:=bE.grown hgw (fun g hg=>by have:=hgr g hg;omega)
  replace bR:=bR.grown hgw (fun g hg=>by have:=hgr g hg;omega)
  replace od:=od.grown hgw (fun g hg=>by have:=hgr g hg;omega)
  replace bX:=bX.grown hgw (fun g hg=>by have:=hgr g hg;omega)
  replace wd:=wd.grown hgw (fun g hg=>by have:=hgr g hg;omega)
  replace F_p:=F_p.grown hgw (fun g hg k=>by have:=hgr g hg;first | exact absurd k (by rw [show g=w.heap.size by omega];exact hFa) | exact absurd k (by rw [show g=w.heap.size+1+1 by omega];exact hFr))
  replace hE:=hE.trans (grown_below hgw hE.size (fun g hg=>by have:=hgr g hg;omega))
  have l_new:=r_new.lt
  clear bA
  have bA:=dep_at r_new
  clear r_new hgw hgr l_new
  obtain ⟨RR,HRR⟩:∃ y,Hid (y=pfR x.ss x.ws D.ops (N:Int)):=⟨_,hid rfl⟩
  have CG:=CF.out ob oe (N:Int)
  rw [<-HRR.out] at CG
  refine (CG _ (hw.below hE).at.h1 (hw.below hE).at.h2 od.now.p.ops).mono ?_
  rintro e v7 ⟨a1,c1,a1',c1',rfl,hod,k1,k2,hb⟩
  have s_v7:v6.heap.size<=v7.heap.size:=hb.size
  replace bA:=bA.below hb
  replace bE:=bE.below hb
  replace bR:=bR.below hb
  replace od:=od.below hb
  replace bX:=bX.below hb
  replace wd:=wd.below hb
  replace F_p:=F_p.below hb
  replace hE:=hE.trans (hb.mono hE.size)
  have d1:Dep v7 v6.heap.size v7.heap.size (fun W=>OwnS W a1 (RR.1.map Value.string)):=dep_own hod.s ne_of_strs k1
  have d2:Dep v7 v6.heap.size v7.heap.size (fun W=>OwnS W a1' (wcells RR.2)):=dep_own hod.p ne_of_wcells k2
  have ld:w.heap.size+1+1+1<=v6.heap.size:=by omega
  clear hod k1 k2 CG
  clear hb
  cases CB with
  | true =>
   exact absurd (HCB.out.trans hcb) (by simp)
  | false =>
   have k2:=HK2.out
   have er:RES={ (x.ran e D).upS D with P:=[D.rs] }:=by rw [HRES.out];exact doE_else hK HCL.out hC HLG.out HCB.out.symm k2
   have k2b:(e.K == 2)=false:=by simp [k2]
   have ER:=hid er
   clear er
   obtain ⟨q_bA_0,q_bA_1,q_bA_2,q_bA_3,q_bA_4,q_bA_5,q_bA_6,q_bA_7,q_bA_8,q_bA_9,q_bA_10,q_bA_11,q_bA_12,q_bA_13,q_bA_14,q_bA_15⟩:=bA.now.k16
   obtain ⟨f_bA_0,f_bA_1,f_bA_2,f_bA_3,f_bA_4,f_bA_5,f_bA_6,f_bA_7,f_bA_8,f_bA_9,f_bA_10,f_bA_11,f_bA_12,f_bA_13,f_bA_14,f_bA_15⟩:=bA.now.z16
   have q_bA_l:=bA.now.lt
   go_upto_region 26 with fail
   clear q_bA_0 f_bA_0 q_bA_1 f_bA_1 q_bA_2 f_bA_2 q_bA_3 f_bA_3 q_bA_4 f_bA_4 q_bA_5 f_bA_5 q_bA_6 f_bA_6 q_bA_7 f_bA_7 q_bA_8 f_bA_8 q_bA_9 f_bA_9 q_bA_10 f_bA_10 q_bA_11 f_bA_11 q_bA_12 f_bA_12 q_bA_13 f_bA_13 q_bA_14 f_bA_14 q_bA_15 f_bA_15 q_bA_l
   generalize e_v8:((v7.setCell _ _).setCell _ _)=v8
   have hgw:v7.grownBy v8 (some (w.heap.size)):=by rw [<-e_v8];exact grown_set (grown_set (World.grownBy.refl _ _) _ _) _ _
   have r_new:=e_v8 ▸ ((bA.now.set 1 (by simp) (.slice a1 RR.1.length c1)).set 2 (by simp) (.slice a1' RR.2.length c1'))
   have s_v8:v7.heap.size<=v8.heap.size:=hgw.size
   have hgr:∀ g,(some (w.heap.size):Option Nat)=some g->w.heap.size<=g/\g<w.heap.size+1:=fun g hg=>by injection hg with hg;omega
   clear e_v8
   replace bE:=bE.grown hgw (fun g hg=>by have:=hgr g hg;omega)
   replace bR:=bR.grown hgw (fun g hg=>by have:=hgr g hg;omega)
   replace od:=od.grown hgw (fun g hg=>by have:=hgr g hg;omega)
   replace bX:=bX.grown hgw (fun g hg=>by have:=hgr g hg;omega)
   replace wd:=wd.grown hgw (fun g hg=>by have:=hgr g hg;omega)
   replace F_p:=F_p.grown hgw (fun g hg k=>by have:=hgr g hg;first | exact absurd k (by rw [show g=w.heap.size by omega];exact hFa) | exact absurd k (by rw [show g=w.heap.size+1+1 by omega];exact hFr))
   replace d1:=d1.grown hgw (fun g hg=>by have:=hgr g hg;omega)
   replace d2:=d2.grown hgw (fun g hg=>by have:=hgr g hg;omega)
   replace hE:=hE.trans (grown_below hgw hE.size (fun g hg=>by have:=hgr g hg;omega))
   have l_new:=r_new.lt
   clear bA
   have bA:=dep_at r_new
   clear r_new hgw hgr l_new
   refine wp_region_lit ?_
   refine wpList_fieldAt rfl _ _ _ rfl (.pointer (some ⟨XB,1,none⟩)) (by go_simp) ?_
   simp only [PS]
   refine wpList_load_mid rfl 79 _ rfl (XB) 1 rfl [.int .i64 D.W,.int .i64 D.S,.int .i64 D.L,.int .i64 D.T,.int .i64 D.H,.int .i64 D.F,.int .i64 D.R,.int .i64 D.U,.int .i64 D.O,.slice oa D.rs.length oc] _ (Row.rangeMid (pre:=[.int .i64 0]) (cs:=[.int .i64 D.W,.int .i64 D.S,.int .i64 D.L,.int .i64 D.T,.int .i64 D.H,.int .i64 D.F,.int .i64 D.R,.int .i64 D.U,.int .i64 D.O,.slice oa D.rs.length oc]) (post:=[.slice ob D.ops.length oe]) bX.now) Try.underlying79 rfl info_stG ?_
   simp only [PS]
   refine wpList_fieldAt rfl _ _ _ rfl (.pointer (some ⟨w.heap.size,4,none⟩)) (by go_simp) ?_
   simp only [PS]
   refine wpList_store_mid rfl 79 _ _ rfl (w.heap.size) 4 #[.int .i64 D.W,.int .i64 D.S,.int .i64 D.L,.int .i64 D.T,.int .i64 D.H,.int .i64 D.F,.int .i64 D.R,.int .i64 D.U,.int .i64 D.O,.slice oa D.rs.length oc] rfl rfl (Row.thereMid (pre:=[.int .i64 x.w,.slice a1 RR.1.length c1,.slice a1' RR.2.length c1',.bool x.up]) (cs:=[.int .i64 x.W,.int .i64 x.S,.int .i64 x.L,.int .i64 x.T,.int .i64 x.H,.int .i64 x.F,.int .i64 x.R,.int .i64 x.U,.int .i64 x.O,.slice q.s x.rs.length q.cs]) (post:=[.slice pa PP.length pc,.slice (some ⟨g,0,none⟩) LL.length cap]) bA.now rfl) info_stG (by kernel_rfl) ?_
   try simp only [PS]
   generalize e_v9:v8.setCells _ _ _=v9
   have hgw:v8.grownBy v9 (some (w.heap.size)):=by rw [<-e_v9];exact grown_sets _ _ _ _
   have r_new:Row v9 (w.heap.size) [.int .i64 x.w,.slice a1 RR.1.length c1,.slice a1' RR.2.length c1',.bool x.up,.int .i64 D.W,.int .i64 D.S,.int .i64 D.L,.int .i64 D.T,.int .i64 D.H,.int .i64 D.F,.int .i64 D.R,.int .i64 D.U,.int .i64 D.O,.slice oa D.rs.length oc,.slice pa PP.length pc,.slice (some ⟨g,0,none⟩) LL.length cap]:=e_v9 ▸ Row.setsMid (pre:=[.int .i64 x.w,.slice a1 RR.1.length c1,.slice a1' RR.2.length c1',.bool x.up]) (cs:=[.int .i64 x.W,.int .i64 x.S,.int .i64 x.L,.int .i64 x.T,.int .i64 x.H,.int .i64 x.F,.int .i64 x.R,.int .i64 x.U,.int .i64 x.O,.slice q.s x.rs.length q.cs]) (post:=[.slice pa PP.length pc,.slice (some ⟨g,0,none⟩) LL.length cap]) bA.now [.int .i64 D.W,.int .i64 D.S,.int .i64 D.L,.int .i64 D.T,.int .i64 D.H,.int .i64 D.F,.int .i64 D.R,.int .i64 D.U,.int .i64 D.O,.slice oa D.rs.length oc] rfl
   have s_v9:v8.heap.size<=v9.heap.size:=hgw.size
   have hgr:∀ g,(some (w.heap.size):Option Nat)=some g->w.heap.size<=g/\g<w.heap.size+1:=fun g hg=>by injection hg with hg;omega
   clear e_v9
   replace bE:=bE.grown hgw (fun g hg=>by have:=hgr g hg;omega)
   replace bR:=bR.grown hgw (fun g hg=>by have:=hgr g hg;omega)
   replace od:=od.grown hgw (fun g hg=>by have:=hgr g hg;omega)
   replace bX:=bX.grown hgw (fun g hg=>by have:=hgr g hg;omega)
   replace wd:=wd.grown hgw (fun g hg=>by have:=hgr g hg;omega)
   replace F_p:=F_p.grown hgw (fun g hg k=>by have:=hgr g hg;first | exact absurd k (by rw [show g=w.heap.size by omega];exact hFa) | exact absurd k (by rw [show g=w.heap.size+1+1 by omega];exact hFr))
   replace d1:=d1.grown hgw (fun g hg=>by have:=hgr g hg;omega)
   replace d2:=d2.grown hgw (fun g hg=>by have:=hgr g hg;omega)
   replace hE:=hE.trans (grown_below hgw hE.size (fun g hg=>by have:=hgr g hg;omega))
   have l_new:=r_new.lt
   clear bA
   have bA:=dep_at r_new
   clear r_new hgw hgr l_new
   obtain ⟨q_bA_0,q_bA_1,q_bA_2,q_bA_3,q_bA_4,q_bA_5,q_bA_6,q_bA_7,q_bA_8,q_bA_9,q_bA_10,q_bA_11,q_bA_12,q_bA_13,q_bA_14,q_bA_15⟩:=bA.now.k16
   obtain ⟨f_bA_0,f_bA_1,f_bA_2,f_bA_3,f_bA_4,f_bA_5,f_bA_6,f_bA_7,f_bA_8,f_bA_9,f_bA_10,f_bA_11,f_bA_12,f_bA_13,f_bA_14,f_bA_15⟩:=bA.now.z16
   have q_bA_l:=bA.now.lt
   obtain ⟨q_bE_0,q_bE_1,q_bE_2,q_bE_3⟩:=bE.now.k4
   have q_bE_l:=bE.now.lt
   go_upto_region 29 with fail
   clear q_bA_0 f_bA_0 q_bA_1 f_bA_1 q_bA_2 f_bA_2 q_bA_3 f_bA_3 q_bA_4 f_bA_4 q_bA_5 f_bA_5 q_bA_6 f_bA_6 q_bA_7 f_bA_7 q_bA_8 f_bA_8 q_bA_9 f_bA_9 q_bA_10 f_bA_10 q_bA_11 f_bA_11 q_bA_12 f_bA_12 q_bA_13 f_bA_13 q_bA_14 f_bA_14 q_bA_15 f_bA_15 q_bA_l q_bE_0 q_bE_1 q_bE_2 q_bE_3 q_bE_l
   generalize e_v10:(v9.setCell _ _)=v10
   have hgw:v9.grownBy v10 (some (w.heap.size)):=by rw [<-e_v10];exact grown_set (World.grownBy.refl _ _) _ _
   have r_new:=e_v10 ▸ (bA.now.set 3 (by simp) (.bool true))
   have s_v10:v9.heap.size<=v10.heap.size:=hgw.size
   have hgr:∀ g,(some (w.heap.size):Option Nat)=some g->w.heap.size<=g/\g<w.heap.size+1:=fun g hg=>by injection hg with hg;omega
   clear e_v10
   replace bE:=bE.grown hgw (fun g hg=>by have:=hgr g hg;omega)
   replace bR:=bR.grown hgw (fun g hg=>by have:=hgr g hg;omega)
   replace od:=od.grown hgw (fun g hg=>by have:=hgr g hg;omega)
   replace bX:=bX.grown hgw (fun g hg=>by have:=hgr g hg;omega)
   replace wd:=wd.grown hgw (fun g hg=>by have:=hgr g hg;omega)
   replace F_p:=F_p.grown hgw (fun g hg k=>by have:=hgr g hg;first | exact absurd k (by rw [show g=w.heap.size by omega];exact hFa) | exact absurd k (by rw [show g=w.heap.size+1+1 by omega];exact hFr))
   replace d1:=d1.grown hgw (fun g hg=>by have:=hgr g hg;omega)
   replace d2:=d2.grown hgw (fun g hg=>by have:=hgr g hg;omega)
   replace hE:=hE.trans (grown_below hgw hE.size (fun g hg=>by have:=hgr g hg;omega))
   have l_new:=r_new.lt
   clear bA
   have bA:=dep_at r_new
   clear r_new hgw hgr l_new
   obtain ⟨q_bA_0,q_bA_1,q_bA_2,q_bA_3,q_bA_4,q_bA_5,q_bA_6,q_bA_7,q_bA_8,q_bA_9,q_bA_10,q_bA_11,q_bA_12,q_bA_13,q_bA_14,q_bA_15⟩:=bA.now.k16
   obtain ⟨f_bA_0,f_bA_1,f_bA_2,f_bA_3,f_bA_4,f_bA_5,f_bA_6,f_bA_7,f_bA_8,f_bA_9,f_bA_10,f_bA_11,f_bA_12,f_bA_13,f_bA_14,f_bA_15⟩:=bA.now.z16
   have q_bA_l:=bA.now.lt
   obtain ⟨q_bX_0,q_bX_1,q_bX_2,q_bX_3,q_bX_4,q_bX_5,q_bX_6,q_bX_7,q_bX_8,q_bX_9,q_bX_10,q_bX_11,q_bX_l⟩:=c12 bX.now
   go_upto_region 30 with fail
   clear q_bA_0 f_bA_0 q_bA_1 f_bA_1 q_bA_2 f_bA_2 q_bA_3 f_bA_3 q_bA_4 f_bA_4 q_bA_5 f_bA_5 q_bA_6 f_bA_6 q_bA_7 f_bA_7 q_bA_8 f_bA_8 q_bA_9 f_bA_9 q_bA_10 f_bA_10 q_bA_11 f_bA_11 q_bA_12 f_bA_12 q_bA_13 f_bA_13 q_bA_14 f_bA_14 q_bA_15 f_bA_15 q_bA_l q_bX_0 q_bX_1 q_bX_2 q_bX_3 q_bX_4 q_bX_5 q_bX_6 q_bX_7 q_bX_8 q_bX_9 q_bX_10 q_bX_11 q_bX_l
   obtain ⟨GB,e_GB⟩:∃ y,y=v10.heap.size:=⟨_,rfl⟩
   rw [<-e_GB]
   have hGB:w.heap.size+1+1+1<=GB:=by omega
   generalize e_v11:(v10.setCell _ _)=v11
   have hgw:v10.grownBy v11 (some (w.heap.size)):=by rw [<-e_v11];exact grown_set (World.grownBy.refl _ _) _ _
   have r_new:=e_v11 ▸ (bA.now.set 14 (by simp) (.slice (some ⟨GB,0,none⟩) 1 1))
   have s_v11:v10.heap.size<=v11.heap.size:=hgw.size
   have hgr:∀ g,(some (w.heap.size):Option Nat)=some g->w.heap.size<=g/\g<w.heap.size+1:=fun g hg=>by injection hg with hg;omega
   have zs:v11.heap.size=v10.heap.size:=by rw [<-e_v11,World.size_setCell]
   clear e_v11
   replace bE:=bE.grown hgw (fun g hg=>by have:=hgr g hg;omega)
   replace bR:=bR.grown hgw (fun g hg=>by have:=hgr g hg;omega)
   replace od:=od.grown hgw (fun g hg=>by have:=hgr g hg;omega)
   replace bX:=bX.grown hgw (fun g hg=>by have:=hgr g hg;omega)
   replace wd:=wd.grown hgw (fun g hg=>by have:=hgr g hg;omega)
   replace F_p:=F_p.grown hgw (fun g hg k=>by have:=hgr g hg;first | exact absurd k (by rw [show g=w.heap.size by omega];exact hFa) | exact absurd k (by rw [show g=w.heap.size+1+1 by omega];exact hFr))
   replace d1:=d1.grown hgw (fun g hg=>by have:=hgr g hg;omega)
   replace d2:=d2.grown hgw (fun g hg=>by have:=hgr g hg;omega)
   replace hE:=hE.trans (grown_below hgw hE.size (fun g hg=>by have:=hgr g hg;omega))
   have l_new:=r_new.lt
   clear bA
   have bA:=dep_at r_new
   clear r_new hgw hgr l_new
   generalize e_v12:v11.alloc _=v12
   obtain ⟨hb,z_v12,bP⟩:=bx1 e_v12
   have s_v12:v11.heap.size+1<=v12.heap.size:=by omega
   clear e_v12 z_v12
   replace bA:=bA.below hb
   replace bE:=bE.below hb
   replace bR:=bR.below hb
   replace od:=od.below hb
   replace bX:=bX.below hb
   replace wd:=wd.below hb
   replace F_p:=F_p.below hb
   replace d1:=d1.below hb
   replace d2:=d2.below hb
   replace hE:=hE.trans (hb.mono hE.size)
   clear hb
   rw [zs,<-e_GB] at bP
   clear e_GB zs
   refine wp_region_lit ?_
   refine wpList_load_mid rfl 82 _ rfl (w.heap.size) 0 rfl [.int .i64 x.w,.slice a1 RR.1.length c1,.slice a1' RR.2.length c1',.bool true,.int .i64 D.W,.int .i64 D.S,.int .i64 D.L,.int .i64 D.T,.int .i64 D.H,.int .i64 D.F,.int .i64 D.R,.int .i64 D.U,.int .i64 D.O,.slice oa D.rs.length oc,.slice (some ⟨GB,0,none⟩) 1 1,.slice (some ⟨g,0,none⟩) LL.length cap] _ bA.now.range Try.underlying82 rfl info_wo ?_
   simp only [PS]
   refine wpList_store_mid rfl 82 _ _ rfl (w.heap.size+1+1) 0 #[.int .i64 x.w,.slice a1 RR.1.length c1,.slice a1' RR.2.length c1',.bool true,.int .i64 D.W,.int .i64 D.S,.int .i64 D.L,.int .i64 D.T,.int .i64 D.H,.int .i64 D.F,.int .i64 D.R,.int .i64 D.U,.int .i64 D.O,.slice oa D.rs.length oc,.slice (some ⟨GB,0,none⟩) 1 1,.slice (some ⟨g,0,none⟩) LL.length cap] rfl rfl (bR.now.there rfl) info_wo (by kernel_rfl) ?_
   try simp only [PS]
   generalize e_v13:v12.setCells _ _ _=v13
   have hgw:v12.grownBy v13 (some (w.heap.size+1+1)):=by rw [<-e_v13];exact grown_sets _ _ _ _
   have r_new:=e_v13 ▸ bR.now.sets [.int .i64 x.w,.slice a1 RR.1.length c1,.slice a1' RR.2.length c1',.bool true,.int .i64 D.W,.int .i64 D.S,.int .i64 D.L,.int .i64 D.T,.int .i64 D.H,.int .i64 D.F,.int .i64 D.R,.int .i64 D.U,.int .i64 D.O,.slice oa D.rs.length oc,.slice (some ⟨GB,0,none⟩) 1 1,.slice (some ⟨g,0,none⟩) LL.length cap] rfl
   have s_v13:v12.heap.size<=v13.heap.size:=hgw.size
   have hgr:∀ g,(some (w.heap.size+1+1):Option Nat)=some g->w.heap.size+1+1<=g/\g<w.heap.size+1+1+1:=fun g hg=>by injection hg with hg;omega
   clear e_v13
   replace bA:=bA.grown hgw (fun g hg=>by have:=hgr g hg;omega)
   replace bE:=bE.grown hgw (fun g hg=>by have:=hgr g hg;omega)
   replace od:=od.grown hgw (fun g hg=>by have:=hgr g hg;omega)
   replace bX:=bX.grown hgw (fun g hg=>by have:=hgr g hg;omega)
   replace wd:=wd.grown hgw (fun g hg=>by have:=hgr g hg;omega)
   replace F_p:=F_p.grown hgw (fun g hg k=>by have:=hgr g hg;first | exact absurd k (by rw [show g=w.heap.size by omega];exact hFa) | exact absurd k (by rw [show g=w.heap.size+1+1 by omega];exact hFr))
   replace d1:=d1.grown hgw (fun g hg=>by have:=hgr g hg;omega)
   replace d2:=d2.grown hgw (fun g hg=>by have:=hgr g hg;omega)
   replace bP:=bP.grown hgw (fun g hg=>by have:=hgr g hg;omega)
   replace hE:=hE.trans (grown_below hgw hE.size (fun g hg=>by have:=hgr g hg;omega))
   have l_new:=r_new.lt
   clear bR
   have bR:=dep_at r_new
   clear r_new hgw hgr l_new
   go_wp2
   have hR1:(x.ran e D).ss=RR.1:=by rw [HRR.out,HN.out];rfl
   have hR2:(x.ran e D).ws=RR.2:=by rw [HRR.out,HN.out];rfl
   have hTT:(x.ran e D).ts=LL:=by rw [HTS.out];rfl
   have hPT:(x.ran e D).P=PP:=by rw [HPP.out];rfl
   obtain ⟨q_bR_0,q_bR_1,q_bR_2,q_bR_3,q_bR_4,q_bR_5,q_bR_6,q_bR_7,q_bR_8,q_bR_9,q_bR_10,q_bR_11,q_bR_12,q_bR_13,q_bR_14,q_bR_15,q_bR_l⟩:=c16 bR.now
   have F_y:WoF ({ (x.ran e D).upS D with P:=[D.rs] }) _ FF ⟨a1,c1,a1',c1',oa,oc,some ⟨GB,0,none⟩,1,some ⟨g,0,none⟩,cap⟩:=⟨(depF_of d1 (fun b hb _=>hF2.out b (by omega))).map fun W k=>by show Strs W a1 (x.ran e D).ss;rw [hR1];exact k.strs,(depF_of d2 (fun b hb _=>hF2.out b (by omega))).map fun W k=>by show Wrs W a1' (x.ran e D).ws;rw [hR2];exact k.wrs,(depF_of od (fun b hb _=>hF2.out b (by omega))).map fun W k=>k.s.prs,pst_one bP.now (hF2.out _ hGB) ((depF_of od (fun b hb _=>hF2.out b (by omega))).map fun W k=>k.s.prs),(depF_of wd (fun b hb _=>hF2.out b (by omega))).map fun W k=>by show Strs W _ (x.ran e D).ts;rw [hTT];exact k.strs⟩
   rw [ER.out]
   refine bodyPost_ret (v:=.agg #[.int .i64 x.w,.slice a1 RR.1.length c1,.slice a1' RR.2.length c1',.bool true,.int .i64 D.W,.int .i64 D.S,.int .i64 D.L,.int .i64 D.T,.int .i64 D.H,.int .i64 D.F,.int .i64 D.R,.int .i64 D.U,.int .i64 D.O,.slice oa D.rs.length oc,.slice (some ⟨GB,0,none⟩) 1 1,.slice (some ⟨g,0,none⟩) LL.length cap]) (by simp [results,Try.results38,go_sem,q_bR_0,q_bR_1,q_bR_2,q_bR_3,q_bR_4,q_bR_5,q_bR_6,q_bR_7,q_bR_8,q_bR_9,q_bR_10,q_bR_11,q_bR_12,q_bR_13,q_bR_14,q_bR_15,q_bR_l]) rfl ⟨⟨a1,c1,a1',c1',oa,oc,some ⟨GB,0,none⟩,1,some ⟨g,0,none⟩,cap⟩,?_,F_y.mono fun b _ k=>hF5.out b k,hE⟩
   rw [<-hR1,<-hR2,<-hTT];rfl
end Go.Proofs.Ythdilmkbnpmdaaa
