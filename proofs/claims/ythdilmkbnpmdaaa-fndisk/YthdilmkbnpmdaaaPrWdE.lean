import Derived.Test.YthdilmkbnpmdaaaPrWdS
set_option maxHeartbeats 32000000
namespace Go.Proofs.Ythdilmkbnpmdaaa
open Go.RowKit
set_option maxRecDepth 8000
set_option linter.unusedVariables false
set_option linter.unusedSimpArgs false
theorem info_intE:(Try.prog.info? 3).map (fun i=>(i.zero,i.size,i.bytes))=some (some (.int .i64 0),1,8):=by kernel_rfl
theorem oneIE (z:Int):∀ u∈[Value.int .i64 z],u.oneCell'=true:=by intro u hu;simp at hu;subst hu;rfl
def EvPost (w w':World) (r:Ending):Prop:=∃ (e:Ev) (ba:Option Addr) (bc:Nat) (fa:Option Addr) (fc:Nat),r=.returned (eventV e ba bc fa fc)/\e.le/\Dep w' w.heap.size w'.heap.size (fun W=>Chs W ba e.b)/\Dep w' w.heap.size w'.heap.size (fun W=>Ints W fa e.fs)
theorem event_r (R:Nat) (a:Option Addr) (n c:Nat) (p:Int) (up:Bool) (w:World) (h:Rdr w R a n c p) (hp:p<99980000):Calls Try.prog 39 #[.pointer (some ⟨R,0,none⟩),.bool up] w fun r w'=>EvPost w w' r/\RdTo w R a n c p 700 w':=by
 have p0:=h.p0
 obtain ⟨i0,hi0,hz0,hz1,hz2⟩:=info_partsB info_intE
 have HI:=hid (And.intro hi0 (And.intro hz0 (And.intro hz1 hz2)))
 clear hi0 hz0 hz1 hz2
 have D0:EvD w ((w.alloc (.cells #[.int .i64 0,.slice none 0 0,.int .i64 0,.slice none 0 0] 95)).alloc (.cells #[.int .i64 0,.slice none 0 0,.int .i64 (-1),.slice none 0 0] 95)) R a n c p 0 none 0 [] (-1) (w.heap.size+2) (.slice none 0 0) []:=by
  have hb1:=below_nw w (.cells #[.int .i64 0,.slice none 0 0,.int .i64 0,.slice none 0 0] 95)
  have hb2:=below_nw (w.alloc (.cells #[.int .i64 0,.slice none 0 0,.int .i64 0,.slice none 0 0] 95)) (.cells #[.int .i64 0,.slice none 0 0,.int .i64 (-1),.slice none 0 0] 95)
  have hb:Below w.heap.size w ((w.alloc (.cells #[.int .i64 0,.slice none 0 0,.int .i64 0,.slice none 0 0] 95)).alloc (.cells #[.int .i64 0,.slice none 0 0,.int .i64 (-1),.slice none 0 0] 95)):=hb1.trans (hb2.mono (by simp))
  refine ⟨⟨⟨(h.below hb1).below hb2,World.ownsRow_nil _ _ _ _,grown_of_below _ hb,h.lts.1,h.lts.2⟩,?_,fun e=>(by cases e),by omega⟩,⟨.inl rfl,by simp,fun _ _ _=>.inl rfl⟩,(row_new _ _ _).alloc _,fun g e=>(by cases e),Nat.le_refl _⟩
  have:=row_new (w.alloc (.cells #[.int .i64 0,.slice none 0 0,.int .i64 0,.slice none 0 0] 95)) #[.int .i64 0,.slice none 0 0,.int .i64 (-1),.slice none 0 0] 95
  rwa [World.size_alloc] at this
 clear h
 go_enter Try.func39,Try.ntmps39
 go_wp2_with fail
 refine (pick_r R a n c p 20 _ D0.rd (by omega)).mono ?_
 rintro e w1 ⟨⟨k,rfl,k0,k1⟩,hr1,hg1⟩
 have D1:=D0.pick hr1 hg1
 clear D0 hr1 hg1
 obtain ⟨EB,e_EB⟩:∃ z,z=w.heap.size+1:=⟨_,rfl⟩
 rw [<-e_EB]
 have HEB:=hid e_EB
 clear e_EB
 go_upto_region 3 with fail
 go_cut [16] from 11 to 15 (fun cv wx=>∃ bb:Bool,cv=.bool bb/\wx=w1)
 case first =>
  by_cases hk:k<16
  ·cases up with
   | true =>
    go_wp2_with fail
    go_meet
    exact ⟨_,rfl,rfl⟩
   | false =>
    go_wp2_with fail
    go_meet
    exact ⟨_,rfl,rfl⟩
  ·cases up with
   | true =>
    go_wp2_with fail
    go_meet
    exact ⟨_,rfl,rfl⟩
   | false =>
    go_wp2_with fail
    go_meet
    exact ⟨_,rfl,rfl⟩
 case rest =>
 obtain ⟨bb,rfl,ewc⟩:=hcut
 rw [ewc]
 clear ewc
 go_upto_if 16 with fail
 go_cut [] from 17 to 38 (fun wx=>∃ (K:Int) (ba:Option Addr) (bc:Nat) (b:List Ch) (q:Int) (hi:Nat),(b.length<=20/\chsLe b 3 100)/\p<=q/\q<=p+610/\EvD w wx R a n c q K ba bc b (-1) hi (.slice none 0 0) [])
 case first =>
  cases bb with
  | true =>
   obtain ⟨m0,m1,m2,m3⟩:=D1.x.row.k4
   have mf0:=D1.x.row.froz 0 (by simp)
   have ml:=D1.x.row.lt
   rw [<-HEB.out] at m0 m1 m2 m3 mf0 ml
   have E1:=D1.kind 1
   rw [<-HEB.out] at E1
   go_wp2_with fail
   go_meet
   exact ⟨_,none,0,[],p+1,_,⟨by simp,fun x hx=>by cases hx⟩,by omega,by omega,E1⟩
  | false =>
   by_cases k11:k<11
   ·have m0:=D1.x.row.cell 0 _ rfl
    have m1:=D1.x.row.cell 1 _ rfl
    have m2:=D1.x.row.cell 2 _ rfl
    have m3:=D1.x.row.cell 3 _ rfl
    have mf0:=D1.x.row.froz 0 (by simp)
    have ml:=D1.x.row.lt
    rw [<-HEB.out] at m0 m1 m2 m3 mf0 ml
    have E1:=D1.kind 2
    rw [<-HEB.out] at E1
    go_wp2_with fail
    clear m0 m1 m2 m3 mf0 ml
    rw [HEB.out] at E1 ⊢
    refine (batch_r R a n c (p+1) _ E1.rd (by omega)).mono ?_
    rintro e w4 ⟨⟨bv,b,rfl,hob,⟨hb1,hb2⟩,hble⟩,⟨q2,q20,q21,hr4⟩,hg4⟩
    obtain ⟨va,vc,rfl⟩:=owns_slice hob
    have E2:=E1.pick hr4 hg4
    have E3:=E1.batch hr4 hg4 hob
    clear hr4 hg4 hob E1 D1
    rw [<-HEB.out] at E3 ⊢
    obtain ⟨m0,m1,m2,m3⟩:=E2.x.row.k4
    have mf1:=E2.x.row.froz 1 (by simp)
    have ml:=E2.x.row.lt
    rw [<-HEB.out] at m0 m1 m2 m3 mf1 ml
    go_wp2_with fail
    go_meet
    exact ⟨2,va,vc,b,q2,_,⟨hb2,hble⟩,by omega,by omega,E3⟩
   by_cases k14:k<14
   ·have m0:=D1.x.row.cell 0 _ rfl
    have m1:=D1.x.row.cell 1 _ rfl
    have m2:=D1.x.row.cell 2 _ rfl
    have m3:=D1.x.row.cell 3 _ rfl
    have mf0:=D1.x.row.froz 0 (by simp)
    have ml:=D1.x.row.lt
    rw [<-HEB.out] at m0 m1 m2 m3 mf0 ml
    have E1:=D1.kind 3
    rw [<-HEB.out] at E1
    go_wp2_with fail
    go_meet
    exact ⟨_,none,0,[],p+1,_,⟨by simp,fun x hx=>by cases hx⟩,by omega,by omega,E1⟩
   by_cases k17:k<17
   ·have m0:=D1.x.row.cell 0 _ rfl
    have m1:=D1.x.row.cell 1 _ rfl
    have m2:=D1.x.row.cell 2 _ rfl
    have m3:=D1.x.row.cell 3 _ rfl
    have mf0:=D1.x.row.froz 0 (by simp)
    have ml:=D1.x.row.lt
    rw [<-HEB.out] at m0 m1 m2 m3 mf0 ml
    have E1:=D1.kind 4
    rw [<-HEB.out] at E1
    go_wp2_with fail
    go_meet
    exact ⟨_,none,0,[],p+1,_,⟨by simp,fun x hx=>by cases hx⟩,by omega,by omega,E1⟩
   by_cases k19:k<19
   ·have m0:=D1.x.row.cell 0 _ rfl
    have m1:=D1.x.row.cell 1 _ rfl
    have m2:=D1.x.row.cell 2 _ rfl
    have m3:=D1.x.row.cell 3 _ rfl
    have mf0:=D1.x.row.froz 0 (by simp)
    have ml:=D1.x.row.lt
    rw [<-HEB.out] at m0 m1 m2 m3 mf0 ml
    have E1:=D1.kind 5
    rw [<-HEB.out] at E1
    go_wp2_with fail
    go_meet
    exact ⟨_,none,0,[],p+1,_,⟨by simp,fun x hx=>by cases hx⟩,by omega,by omega,E1⟩
   go_wp2_with fail
   refine (pick_r R a n c (p+1) 4 _ (D1.rd.below (below_nw _ _)) (by omega)).mono ?_
   rintro e w4 ⟨⟨v,rfl,v0,v1⟩,hr4,hg4⟩
   have E2:=(D1.below (below_nw _ _)).pick hr4 hg4
   have d0:=cell_grown (b:=w1.heap.size) (i:=0) hg4 (by have:=D1.lt;have:=D1.x.s.lR;omega) (v:=.int .i64 1) (by simp)
   have d1:=cell_grown (b:=w1.heap.size) (i:=1) hg4 (by have:=D1.lt;have:=D1.x.s.lR;omega) (v:=.int .i64 2) (by simp)
   have d2:=cell_grown (b:=w1.heap.size) (i:=2) hg4 (by have:=D1.lt;have:=D1.x.s.lR;omega) (v:=.int .i64 0) (by simp)
   have d3:=cell_grown (b:=w1.heap.size) (i:=3) hg4 (by have:=D1.lt;have:=D1.x.s.lR;omega) (v:=.int .i64 6) (by simp)
   have hv:v=0\/v=1\/v=2\/v=3:=by omega
   clear v0 v1 hg4 hr4
   obtain ⟨m0,m1,m2,m3⟩:=E2.x.row.k4
   have mf0:=E2.x.row.froz 0 (by simp)
   have ml:=E2.x.row.lt
   rw [<-HEB.out] at m0 m1 m2 m3 mf0 ml
   have E3:=fun z=>E2.kind z
   rw [<-HEB.out] at E3
   clear E2 D1
   rcases hv with rfl | rfl | rfl | rfl<;>(go_wp2_with fail;go_meet;exact ⟨_,none,0,[],p+1+1,_,⟨by simp,fun x hx=>by cases hx⟩,by omega,by omega,E3 _⟩)
 case rest =>
 obtain ⟨K,ba,bc,b,q,hi,HB,q0,q1,D2⟩:=hcut
 have HBB:=hid HB
 clear HB D1 k0 k1
 go_wp2_with fail
 refine (pick_r R a n c q 4 _ D2.rd (by omega)).mono ?_
 rintro e w3 ⟨⟨v,rfl,v0,v1⟩,hr3,hg3⟩
 have D3:=D2.pick hr3 hg3
 clear D2 hr3 hg3
 go_upto_if 41 with fail
 go_cut [] from 42 to 50 (fun wx=>∃ (ct q2:Int),-1<=ct/\ct<=14/\q<=q2/\q2<=q+5/\EvD w wx R a n c q2 K ba bc b ct hi (.slice none 0 0) [])
 case first =>
  by_cases hv:v=0
  ·subst hv
   go_wp2_with fail
   refine (pick_r R a n c (q+1) 5 _ D3.rd (by omega)).mono ?_
   rintro e w4 ⟨⟨u,rfl,u0,u1⟩,hr4,hg4⟩
   have D4:=D3.pick hr4 hg4
   clear D3 hr4 hg4
   obtain ⟨m0,m1,m2,m3⟩:=D4.x.row.k4
   have mf2:=D4.x.row.froz 2 (by simp)
   have ml:=D4.x.row.lt
   rw [<-HEB.out] at m0 m1 m2 m3 mf2 ml
   have D5:=D4.cutTo u
   rw [<-HEB.out] at D5
   clear D4
   go_wp2_with fail
   clear m0 m1 m2 m3 mf2 ml
   refine (pick_r R a n c (q+1+1) 4 _ D5.rd (by omega)).mono ?_
   rintro e w5 ⟨⟨x,rfl,x0,x1⟩,hr5,hg5⟩
   have D6:=D5.pick hr5 hg5
   clear D5 hr5 hg5
   by_cases hx:x=0
   ·subst hx
    go_wp2_with fail
    refine (pick_r R a n c (q+1+1+1) 14 _ D6.rd (by omega)).mono ?_
    rintro e w6 ⟨⟨t,rfl,t0,t1⟩,hr6,hg6⟩
    have D7:=D6.pick hr6 hg6
    clear D6 hr6 hg6
    obtain ⟨m0,m1,m2,m3⟩:=D7.x.row.k4
    have mf2:=D7.x.row.froz 2 (by simp)
    have ml:=D7.x.row.lt
    rw [<-HEB.out] at m0 m1 m2 m3 mf2 ml
    have D8:=D7.cutTo t
    rw [<-HEB.out] at D8
    go_wp2_with fail
    go_meet
    exact ⟨t,q+1+1+1+1,by omega,by omega,by omega,by omega,D8⟩
   ·have hxb:(x == 0)=false:=by simp [hx]
    go_wp2_with fail
    go_meet
    exact ⟨u,q+1+1+1,by omega,by omega,by omega,by omega,D6⟩
  ·have hvb:(v == 0)=false:=by simp [hv]
   go_wp2_with fail
   go_meet
   exact ⟨-1,q+1,by omega,by omega,by omega,by omega,D3⟩
 case rest =>
 obtain ⟨ct,q2,ct0,ct1,q20,q21,D4⟩:=hcut
 clear D3 v0 v1
 go_wp2_with fail
 refine (pick_r R a n c q2 8 _ D4.rd (by omega)).mono ?_
 rintro e w5 ⟨⟨v,rfl,v0,v1⟩,hr5,hg5⟩
 have D5:=D4.pick hr5 hg5
 clear D4 hr5 hg5
 go_wp2
 go_loopw [7] (fun nv wr=>∃ (m q3:Int) (y:Value) (fs:List Int) (W:World),W=wr/\nv=.int .i64 m/\0<=m/\m<=8/\(fs.length:Int)<=8-m/\q2<=q3/\q3<=q2+1+2*(8-m)/\EvD w W R a n c q3 K ba bc b ct hi y fs) (fun nv _=>(intOf nv).toNat)
 case atStart=>exact ⟨v,q2+1,_,[],_,rfl,rfl,by omega,by omega,by simp;omega,by omega,by omega,D5⟩
 case round =>
  obtain ⟨m,q3,y,fs,wr,rfl,rfl,m0',m1',hfl,q30,q31,D⟩:=hrel
  obtain ⟨ya,yc,rfl⟩:=owns_slice D.x.s.own
  by_cases hm:0<m
  ·have hwm:IntKind.i64.wrap (m-1)=m-1:=wrap_i64_id _ (by omega) (by omega)
   go_upto_region 22 with fail
   refine wp_region_held_drew (S:=fun w'=>True) (by kernel_rfl) (trivial) (fun hHe=>?_)
   refine TY 0 (.pointer (some ⟨EB,3,none⟩)) rfl hHe ?_
   simp only [PS]
   refine TY 2 (.pointer (some ⟨R,0,none⟩)) rfl hHe ?_
   simp only [PS]
   refine TY 6 (.pointer (some ⟨R,0,none⟩)) rfl hHe ?_
   simp only [PS]
   refine wpAnyH_ready (rs:=[1,3]) (by kernel_rfl) (by simp) ?_
   refine AllReadyH.cons rfl (fun Kq hKq=>?_) (AllReadyH.cons rfl (fun Kq hKq=>?_) AllReadyH.nil)
   ·have l3:=D.drew.x.row.cell 3 _ rfl
    rw [<-HEB.out] at l3
    go_simp
    refine hKq.out _ _ hHe (fun _=>?_)
    try simp only [PS]
    refine RD 3 rfl (fun Kq hKq=>?_)
    refine step_call (by rfl) 15 #[.pointer (some ⟨R,0,none⟩),.int .i64 63] (by go_simp) (pick_r R a n c (q3) 63 _ D.drew.rd (by omega)) ?_
    rintro e v3 ⟨⟨u,rfl,u0,u1⟩,hr3,hg3⟩
    refine ⟨_,rfl,?_⟩
    have F3:=D.drew.pick hr3 hg3
    have hu1:IntKind.i64.wrap (1+u)=1+u:=wrap_i64_id _ (by omega) (by omega)
    clear hr3 hg3
    refine hKq.out _ _ hHe (fun _=>?_)
    try simp only [PS]
    refine TY 4 (.int .i64 (1+u)) rfl hHe ?_
    simp only [PS]
    refine wpAnyH_ready (rs:=[5,7]) (by kernel_rfl) (by simp) ?_
    refine AllReadyH.cons rfl (fun Kq hKq=>?_) (AllReadyH.cons rfl (fun Kq hKq=>?_) AllReadyH.nil)
    ·go_simp
     have F5:=F3.below (below_nw v3 (.cells #[.int .i64 0,.int .i64 64,.int .i64 64,.int .i64 (1+u),.int .i64 (-1),.int .i64 65] 3))
     have rX:=row_new v3 #[.int .i64 0,.int .i64 64,.int .i64 64,.int .i64 (1+u),.int .i64 (-1),.int .i64 65] 3
     have xl:=F3.x.s.lR
     have x0:=F3.lt
     obtain ⟨X,e_X⟩:∃ z,z=v3.heap.size:=⟨_,rfl⟩
     obtain ⟨v5,e_v5⟩:∃ z,z=v3.alloc (.cells #[.int .i64 0,.int .i64 64,.int .i64 64,.int .i64 (1+u),.int .i64 (-1),.int .i64 65] 3):=⟨_,rfl⟩
     have hXR:R<X:=by omega
     rw [<-e_X,<-e_v5] at rX
     rw [<-e_v5] at F5
     rw [<-e_v5,<-e_X]
     clear e_v5 e_X
     refine hKq.out _ _ hHe (fun _=>?_)
     try simp only [PS]
     refine RD 7 rfl (fun Kq hKq=>?_)
     refine step_call (by rfl) 15 #[.pointer (some ⟨R,0,none⟩),.int .i64 6] (by go_simp) (pick_r R a n c (q3+1) 6 _ F5.rd (by omega)) ?_
     rintro e v7 ⟨⟨t',rfl,t'0,t'1⟩,hr7,hg7⟩
     refine ⟨_,rfl,?_⟩
     have F7:=F5.pick hr7 hg7
     have rX:=rX.grown hg7 (fun e=>by injection e with e;omega)
     obtain ⟨t,rfl⟩:∃ k:Nat,t'=(k:Int):=⟨t'.toNat,by omega⟩
     have t6:t<6:=by omega
     have t6i:(t:Int)<6:=by omega
     clear hr7 hg7
     obtain ⟨z,hz,hz0⟩:∃ z:Int,[Value.int .i64 0,.int .i64 64,.int .i64 64,.int .i64 (1+u),.int .i64 (-1),.int .i64 65][t]?=some (.int .i64 z)/\True:=by rcases t with _ | _ | _ | _ | _ | _ | t<;>first | exact ⟨_,rfl,trivial⟩ | omega
     have cX:=rX.cell t _ hz
     refine hKq.out _ _ hHe (fun _=>?_)
     try simp only [PS]
     refine TY 8 (.pointer (some ⟨X,(t:Nat),none⟩)) rfl hHe ?_
     simp only [PS]
     refine RD 9 rfl (fun Kq hKq=>?_)
     go_simp
     refine hKq.out _ _ hHe (fun _=>?_)
     try simp only [PS]
     refine RD 10 rfl (fun Kq hKq=>?_)
     go_simp
     have F10:=F7.below (below_nw v7 (.cells #[.int .i64 z] 3))
     refine hKq.out _ _ hHe (fun _=>?_)
     try simp only [PS]
     refine RD 11 rfl (fun Kq hKq=>?_)
     have hsz:=F10.x.s.lt
     refine SAL _ (by rfl) _ _ _ (by rfl) w.heap.size Try.underlying35 HI.out rfl (by omega) (.slice ya fs.length yc) fs.length _ (by rfl) F10.x.s.own ⟨v7.heap.size,0,none⟩ 1 1 [.int .i64 z] (by rfl) rfl (World.news_of_block (heap_alloc_new v7 _)) (oneIE _) (by simp;simp at hsz;omega) (v7.heap.size+1) (by simp) ?_
     intro g cap v11 hown11 hgrow11 hat11 hlt11
     have F11:=F10.fate (H:=v7.heap.size+1) hown11 hgrow11 hat11 (by simp)
     have r11:=F10.x.row.grown hgrow11 (fun e=>F10.x.xo e.symm)
     rw [<-HEB.out] at F11 r11
     clear hown11 hgrow11 hat11
     refine hKq.out _ _ hHe (fun _=>?_)
     try simp only [PS]
     refine TY 12 (.pointer (some ⟨EB,3,none⟩)) rfl hHe ?_
     simp only [PS]
     refine RD 13 rfl (fun Kq hKq=>?_)
     have k0:=r11.cell 3 _ rfl
     have k1:=r11.froz 3 (by simp)
     have k2:=r11.lt
     go_simp
     refine hKq.out _ _ hHe (fun _=>?_)
     try simp only [PS]
     refine DN ?_
     go_wp2
     exact ⟨⟨m-1,q3+1+1,_,fs++[z],_,rfl,rfl,by omega,by omega,by rw [List.length_append];simp;omega,by omega,by omega,F11⟩,by simp [intOf];omega⟩
    ·refine step_call (by rfl) 15 #[.pointer (some ⟨R,0,none⟩),.int .i64 6] (by go_simp) (pick_r R a n c (q3+1) 6 _ F3.rd (by omega)) ?_
     rintro e v7 ⟨⟨t',rfl,t'0,t'1⟩,hr7,hg7⟩
     refine ⟨_,rfl,?_⟩
     have F7:=F3.pick hr7 hg7
     obtain ⟨t,rfl⟩:∃ k:Nat,t'=(k:Int):=⟨t'.toNat,by omega⟩
     have t6:t<6:=by omega
     have t6i:(t:Int)<6:=by omega
     clear hr7 hg7
     refine hKq.out _ _ hHe (fun _=>?_)
     try simp only [PS]
     refine RD 5 rfl (fun Kq hKq=>?_)
     go_simp
     have F5:=F7.below (below_nw v7 (.cells #[.int .i64 0,.int .i64 64,.int .i64 64,.int .i64 (1+u),.int .i64 (-1),.int .i64 65] 3))
     have rX:=row_new v7 #[.int .i64 0,.int .i64 64,.int .i64 64,.int .i64 (1+u),.int .i64 (-1),.int .i64 65] 3
     have xl:=F7.x.s.lR
     have x0:=F7.lt
     obtain ⟨X,e_X⟩:∃ z,z=v7.heap.size:=⟨_,rfl⟩
     obtain ⟨v5,e_v5⟩:∃ z,z=v7.alloc (.cells #[.int .i64 0,.int .i64 64,.int .i64 64,.int .i64 (1+u),.int .i64 (-1),.int .i64 65] 3):=⟨_,rfl⟩
     have hXR:R<X:=by omega
     rw [<-e_X,<-e_v5] at rX
     rw [<-e_v5] at F5
     rw [<-e_v5,<-e_X]
     clear e_v5 e_X
     obtain ⟨z,hz,hz0⟩:∃ z:Int,[Value.int .i64 0,.int .i64 64,.int .i64 64,.int .i64 (1+u),.int .i64 (-1),.int .i64 65][t]?=some (.int .i64 z)/\True:=by rcases t with _ | _ | _ | _ | _ | _ | t<;>first | exact ⟨_,rfl,trivial⟩ | omega
     have cX:=rX.cell t _ hz
     refine hKq.out _ _ hHe (fun _=>?_)
     try simp only [PS]
     refine TY 8 (.pointer (some ⟨X,(t:Nat),none⟩)) rfl hHe ?_
     simp only [PS]
     refine RD 9 rfl (fun Kq hKq=>?_)
     go_simp
     refine hKq.out _ _ hHe (fun _=>?_)
     try simp only [PS]
     refine RD 10 rfl (fun Kq hKq=>?_)
     go_simp
     have F10:=F5.below (below_nw v5 (.cells #[.int .i64 z] 3))
     refine hKq.out _ _ hHe (fun _=>?_)
     try simp only [PS]
     refine RD 11 rfl (fun Kq hKq=>?_)
     have hsz:=F10.x.s.lt
     refine SAL _ (by rfl) _ _ _ (by rfl) w.heap.size Try.underlying35 HI.out rfl (by omega) (.slice ya fs.length yc) fs.length _ (by rfl) F10.x.s.own ⟨v5.heap.size,0,none⟩ 1 1 [.int .i64 z] (by rfl) rfl (World.news_of_block (heap_alloc_new v5 _)) (oneIE _) (by simp;simp at hsz;omega) (v5.heap.size+1) (by simp) ?_
     intro g cap v11 hown11 hgrow11 hat11 hlt11
     have F11:=F10.fate (H:=v5.heap.size+1) hown11 hgrow11 hat11 (by simp)
     have r11:=F10.x.row.grown hgrow11 (fun e=>F10.x.xo e.symm)
     rw [<-HEB.out] at F11 r11
     clear hown11 hgrow11 hat11
     refine hKq.out _ _ hHe (fun _=>?_)
     try simp only [PS]
     refine TY 12 (.pointer (some ⟨EB,3,none⟩)) rfl hHe ?_
     simp only [PS]
     refine RD 13 rfl (fun Kq hKq=>?_)
     have k0:=r11.cell 3 _ rfl
     have k1:=r11.froz 3 (by simp)
     have k2:=r11.lt
     go_simp
     refine hKq.out _ _ hHe (fun _=>?_)
     try simp only [PS]
     refine DN ?_
     go_wp2
     exact ⟨⟨m-1,q3+1+1,_,fs++[z],_,rfl,rfl,by omega,by omega,by rw [List.length_append];simp;omega,by omega,by omega,F11⟩,by simp [intOf];omega⟩
   ·refine step_call (by rfl) 15 #[.pointer (some ⟨R,0,none⟩),.int .i64 63] (by go_simp) (pick_r R a n c (q3) 63 _ D.drew.rd (by omega)) ?_
    rintro e v3 ⟨⟨u,rfl,u0,u1⟩,hr3,hg3⟩
    refine ⟨_,rfl,?_⟩
    have F3:=D.drew.pick hr3 hg3
    have hu1:IntKind.i64.wrap (1+u)=1+u:=wrap_i64_id _ (by omega) (by omega)
    clear hr3 hg3
    refine hKq.out _ _ hHe (fun _=>?_)
    try simp only [PS]
    refine TY 4 (.int .i64 (1+u)) rfl hHe ?_
    simp only [PS]
    refine wpAnyH_ready (rs:=[1,5,7]) (by kernel_rfl) (by simp) ?_
    refine AllReadyH.cons rfl (fun Kq hKq=>?_) (AllReadyH.cons rfl (fun Kq hKq=>?_) (AllReadyH.cons rfl (fun Kq hKq=>?_) AllReadyH.nil))
    ·have l3:=F3.x.row.cell 3 _ rfl
     rw [<-HEB.out] at l3
     go_simp
     refine hKq.out _ _ hHe (fun _=>?_)
     try simp only [PS]
     refine wpAnyH_ready (rs:=[5,7]) (by kernel_rfl) (by simp) ?_
     refine AllReadyH.cons rfl (fun Kq hKq=>?_) (AllReadyH.cons rfl (fun Kq hKq=>?_) AllReadyH.nil)
     ·go_simp
      have F5:=F3.below (below_nw v3 (.cells #[.int .i64 0,.int .i64 64,.int .i64 64,.int .i64 (1+u),.int .i64 (-1),.int .i64 65] 3))
      have rX:=row_new v3 #[.int .i64 0,.int .i64 64,.int .i64 64,.int .i64 (1+u),.int .i64 (-1),.int .i64 65] 3
      have xl:=F3.x.s.lR
      have x0:=F3.lt
      obtain ⟨X,e_X⟩:∃ z,z=v3.heap.size:=⟨_,rfl⟩
      obtain ⟨v5,e_v5⟩:∃ z,z=v3.alloc (.cells #[.int .i64 0,.int .i64 64,.int .i64 64,.int .i64 (1+u),.int .i64 (-1),.int .i64 65] 3):=⟨_,rfl⟩
      have hXR:R<X:=by omega
      rw [<-e_X,<-e_v5] at rX
      rw [<-e_v5] at F5
      rw [<-e_v5,<-e_X]
      clear e_v5 e_X
      refine hKq.out _ _ hHe (fun _=>?_)
      try simp only [PS]
      refine RD 7 rfl (fun Kq hKq=>?_)
      refine step_call (by rfl) 15 #[.pointer (some ⟨R,0,none⟩),.int .i64 6] (by go_simp) (pick_r R a n c (q3+1) 6 _ F5.rd (by omega)) ?_
      rintro e v7 ⟨⟨t',rfl,t'0,t'1⟩,hr7,hg7⟩
      refine ⟨_,rfl,?_⟩
      have F7:=F5.pick hr7 hg7
      have rX:=rX.grown hg7 (fun e=>by injection e with e;omega)
      obtain ⟨t,rfl⟩:∃ k:Nat,t'=(k:Int):=⟨t'.toNat,by omega⟩
      have t6:t<6:=by omega
      have t6i:(t:Int)<6:=by omega
      clear hr7 hg7
      obtain ⟨z,hz,hz0⟩:∃ z:Int,[Value.int .i64 0,.int .i64 64,.int .i64 64,.int .i64 (1+u),.int .i64 (-1),.int .i64 65][t]?=some (.int .i64 z)/\True:=by rcases t with _ | _ | _ | _ | _ | _ | t<;>first | exact ⟨_,rfl,trivial⟩ | omega
      have cX:=rX.cell t _ hz
      refine hKq.out _ _ hHe (fun _=>?_)
      try simp only [PS]
      refine TY 8 (.pointer (some ⟨X,(t:Nat),none⟩)) rfl hHe ?_
      simp only [PS]
      refine RD 9 rfl (fun Kq hKq=>?_)
      go_simp
      refine hKq.out _ _ hHe (fun _=>?_)
      try simp only [PS]
      refine RD 10 rfl (fun Kq hKq=>?_)
      go_simp
      have F10:=F7.below (below_nw v7 (.cells #[.int .i64 z] 3))
      refine hKq.out _ _ hHe (fun _=>?_)
      try simp only [PS]
      refine RD 11 rfl (fun Kq hKq=>?_)
      have hsz:=F10.x.s.lt
      refine SAL _ (by rfl) _ _ _ (by rfl) w.heap.size Try.underlying35 HI.out rfl (by omega) (.slice ya fs.length yc) fs.length _ (by rfl) F10.x.s.own ⟨v7.heap.size,0,none⟩ 1 1 [.int .i64 z] (by rfl) rfl (World.news_of_block (heap_alloc_new v7 _)) (oneIE _) (by simp;simp at hsz;omega) (v7.heap.size+1) (by simp) ?_
      intro g cap v11 hown11 hgrow11 hat11 hlt11
      have F11:=F10.fate (H:=v7.heap.size+1) hown11 hgrow11 hat11 (by simp)
      have r11:=F10.x.row.grown hgrow11 (fun e=>F10.x.xo e.symm)
      rw [<-HEB.out] at F11 r11
      clear hown11 hgrow11 hat11
      refine hKq.out _ _ hHe (fun _=>?_)
      try simp only [PS]
      refine TY 12 (.pointer (some ⟨EB,3,none⟩)) rfl hHe ?_
      simp only [PS]
      refine RD 13 rfl (fun Kq hKq=>?_)
      have k0:=r11.cell 3 _ rfl
      have k1:=r11.froz 3 (by simp)
      have k2:=r11.lt
      go_simp
      refine hKq.out _ _ hHe (fun _=>?_)
      try simp only [PS]
      refine DN ?_
      go_wp2
      exact ⟨⟨m-1,q3+1+1,_,fs++[z],_,rfl,rfl,by omega,by omega,by rw [List.length_append];simp;omega,by omega,by omega,F11⟩,by simp [intOf];omega⟩
     ·refine step_call (by rfl) 15 #[.pointer (some ⟨R,0,none⟩),.int .i64 6] (by go_simp) (pick_r R a n c (q3+1) 6 _ F3.rd (by omega)) ?_
      rintro e v7 ⟨⟨t',rfl,t'0,t'1⟩,hr7,hg7⟩
      refine ⟨_,rfl,?_⟩
      have F7:=F3.pick hr7 hg7
      obtain ⟨t,rfl⟩:∃ k:Nat,t'=(k:Int):=⟨t'.toNat,by omega⟩
      have t6:t<6:=by omega
      have t6i:(t:Int)<6:=by omega
      clear hr7 hg7
      refine hKq.out _ _ hHe (fun _=>?_)
      try simp only [PS]
      refine RD 5 rfl (fun Kq hKq=>?_)
      go_simp
      have F5:=F7.below (below_nw v7 (.cells #[.int .i64 0,.int .i64 64,.int .i64 64,.int .i64 (1+u),.int .i64 (-1),.int .i64 65] 3))
      have rX:=row_new v7 #[.int .i64 0,.int .i64 64,.int .i64 64,.int .i64 (1+u),.int .i64 (-1),.int .i64 65] 3
      have xl:=F7.x.s.lR
      have x0:=F7.lt
      obtain ⟨X,e_X⟩:∃ z,z=v7.heap.size:=⟨_,rfl⟩
      obtain ⟨v5,e_v5⟩:∃ z,z=v7.alloc (.cells #[.int .i64 0,.int .i64 64,.int .i64 64,.int .i64 (1+u),.int .i64 (-1),.int .i64 65] 3):=⟨_,rfl⟩
      have hXR:R<X:=by omega
      rw [<-e_X,<-e_v5] at rX
      rw [<-e_v5] at F5
      rw [<-e_v5,<-e_X]
      clear e_v5 e_X
      obtain ⟨z,hz,hz0⟩:∃ z:Int,[Value.int .i64 0,.int .i64 64,.int .i64 64,.int .i64 (1+u),.int .i64 (-1),.int .i64 65][t]?=some (.int .i64 z)/\True:=by rcases t with _ | _ | _ | _ | _ | _ | t<;>first | exact ⟨_,rfl,trivial⟩ | omega
      have cX:=rX.cell t _ hz
      refine hKq.out _ _ hHe (fun _=>?_)
      try simp only [PS]
      refine TY 8 (.pointer (some ⟨X,(t:Nat),none⟩)) rfl hHe ?_
      simp only [PS]
      refine RD 9 rfl (fun Kq hKq=>?_)
      go_simp
      refine hKq.out _ _ hHe (fun _=>?_)
      try simp only [PS]
      refine RD 10 rfl (fun Kq hKq=>?_)
      go_simp
      have F10:=F5.below (below_nw v5 (.cells #[.int .i64 z] 3))
      refine hKq.out _ _ hHe (fun _=>?_)
      try simp only [PS]
      refine RD 11 rfl (fun Kq hKq=>?_)
      have hsz:=F10.x.s.lt
      refine SAL _ (by rfl) _ _ _ (by rfl) w.heap.size Try.underlying35 HI.out rfl (by omega) (.slice ya fs.length yc) fs.length _ (by rfl) F10.x.s.own ⟨v5.heap.size,0,none⟩ 1 1 [.int .i64 z] (by rfl) rfl (World.news_of_block (heap_alloc_new v5 _)) (oneIE _) (by simp;simp at hsz;omega) (v5.heap.size+1) (by simp) ?_
      intro g cap v11 hown11 hgrow11 hat11 hlt11
      have F11:=F10.fate (H:=v5.heap.size+1) hown11 hgrow11 hat11 (by simp)
      have r11:=F10.x.row.grown hgrow11 (fun e=>F10.x.xo e.symm)
      rw [<-HEB.out] at F11 r11
      clear hown11 hgrow11 hat11
      refine hKq.out _ _ hHe (fun _=>?_)
      try simp only [PS]
      refine TY 12 (.pointer (some ⟨EB,3,none⟩)) rfl hHe ?_
      simp only [PS]
      refine RD 13 rfl (fun Kq hKq=>?_)
      have k0:=r11.cell 3 _ rfl
      have k1:=r11.froz 3 (by simp)
      have k2:=r11.lt
      go_simp
      refine hKq.out _ _ hHe (fun _=>?_)
      try simp only [PS]
      refine DN ?_
      go_wp2
      exact ⟨⟨m-1,q3+1+1,_,fs++[z],_,rfl,rfl,by omega,by omega,by rw [List.length_append];simp;omega,by omega,by omega,F11⟩,by simp [intOf];omega⟩
    ·go_simp
     have F5:=F3.below (below_nw v3 (.cells #[.int .i64 0,.int .i64 64,.int .i64 64,.int .i64 (1+u),.int .i64 (-1),.int .i64 65] 3))
     have rX:=row_new v3 #[.int .i64 0,.int .i64 64,.int .i64 64,.int .i64 (1+u),.int .i64 (-1),.int .i64 65] 3
     have xl:=F3.x.s.lR
     have x0:=F3.lt
     obtain ⟨X,e_X⟩:∃ z,z=v3.heap.size:=⟨_,rfl⟩
     obtain ⟨v5,e_v5⟩:∃ z,z=v3.alloc (.cells #[.int .i64 0,.int .i64 64,.int .i64 64,.int .i64 (1+u),.int .i64 (-1),.int .i64 65] 3):=⟨_,rfl⟩
     have hXR:R<X:=by omega
     rw [<-e_X,<-e_v5] at rX
     rw [<-e_v5] at F5
     rw [<-e_v5,<-e_X]
     clear e_v5 e_X
     refine hKq.out _ _ hHe (fun _=>?_)
     try simp only [PS]
     refine wpAnyH_ready (rs:=[1,7]) (by kernel_rfl) (by simp) ?_
     refine AllReadyH.cons rfl (fun Kq hKq=>?_) (AllReadyH.cons rfl (fun Kq hKq=>?_) AllReadyH.nil)
     ·have l3:=F5.x.row.cell 3 _ rfl
      rw [<-HEB.out] at l3
      go_simp
      refine hKq.out _ _ hHe (fun _=>?_)
      try simp only [PS]
      refine RD 7 rfl (fun Kq hKq=>?_)
      refine step_call (by rfl) 15 #[.pointer (some ⟨R,0,none⟩),.int .i64 6] (by go_simp) (pick_r R a n c (q3+1) 6 _ F5.rd (by omega)) ?_
      rintro e v7 ⟨⟨t',rfl,t'0,t'1⟩,hr7,hg7⟩
      refine ⟨_,rfl,?_⟩
      have F7:=F5.pick hr7 hg7
      have rX:=rX.grown hg7 (fun e=>by injection e with e;omega)
      obtain ⟨t,rfl⟩:∃ k:Nat,t'=(k:Int):=⟨t'.toNat,by omega⟩
      have t6:t<6:=by omega
      have t6i:(t:Int)<6:=by omega
      clear hr7 hg7
      obtain ⟨z,hz,hz0⟩:∃ z:Int,[Value.int .i64 0,.int .i64 64,.int .i64 64,.int .i64 (1+u),.int .i64 (-1),.int .i64 65][t]?=some (.int .i64 z)/\True:=by rcases t with _ | _ | _ | _ | _ | _ | t<;>first | exact ⟨_,rfl,trivial⟩ | omega
      have cX:=rX.cell t _ hz
      refine hKq.out _ _ hHe (fun _=>?_)
      try simp only [PS]
      refine TY 8 (.pointer (some ⟨X,(t:Nat),none⟩)) rfl hHe ?_
      simp only [PS]
      refine RD 9 rfl (fun Kq hKq=>?_)
      go_simp
      refine hKq.out _ _ hHe (fun _=>?_)
      try simp only [PS]
      refine RD 10 rfl (fun Kq hKq=>?_)
      go_simp
      have F10:=F7.below (below_nw v7 (.cells #[.int .i64 z] 3))
      refine hKq.out _ _ hHe (fun _=>?_)
      try simp only [PS]
      refine RD 11 rfl (fun Kq hKq=>?_)
      have hsz:=F10.x.s.lt
      refine SAL _ (by rfl) _ _ _ (by rfl) w.heap.size Try.underlying35 HI.out rfl (by omega) (.slice ya fs.length yc) fs.length _ (by rfl) F10.x.s.own ⟨v7.heap.size,0,none⟩ 1 1 [.int .i64 z] (by rfl) rfl (World.news_of_block (heap_alloc_new v7 _)) (oneIE _) (by simp;simp at hsz;omega) (v7.heap.size+1) (by simp) ?_
      intro g cap v11 hown11 hgrow11 hat11 hlt11
      have F11:=F10.fate (H:=v7.heap.size+1) hown11 hgrow11 hat11 (by simp)
      have r11:=F10.x.row.grown hgrow11 (fun e=>F10.x.xo e.symm)
      rw [<-HEB.out] at F11 r11
      clear hown11 hgrow11 hat11
      refine hKq.out _ _ hHe (fun _=>?_)
      try simp only [PS]
      refine TY 12 (.pointer (some ⟨EB,3,none⟩)) rfl hHe ?_
      simp only [PS]
      refine RD 13 rfl (fun Kq hKq=>?_)
      have k0:=r11.cell 3 _ rfl
      have k1:=r11.froz 3 (by simp)
      have k2:=r11.lt
      go_simp
      refine hKq.out _ _ hHe (fun _=>?_)
      try simp only [PS]
      refine DN ?_
      go_wp2
      exact ⟨⟨m-1,q3+1+1,_,fs++[z],_,rfl,rfl,by omega,by omega,by rw [List.length_append];simp;omega,by omega,by omega,F11⟩,by simp [intOf];omega⟩
     ·refine step_call (by rfl) 15 #[.pointer (some ⟨R,0,none⟩),.int .i64 6] (by go_simp) (pick_r R a n c (q3+1) 6 _ F5.rd (by omega)) ?_
      rintro e v7 ⟨⟨t',rfl,t'0,t'1⟩,hr7,hg7⟩
      refine ⟨_,rfl,?_⟩
      have F7:=F5.pick hr7 hg7
      have rX:=rX.grown hg7 (fun e=>by injection e with e;omega)
      obtain ⟨t,rfl⟩:∃ k:Nat,t'=(k:Int):=⟨t'.toNat,by omega⟩
      have t6:t<6:=by omega
      have t6i:(t:Int)<6:=by omega
      clear hr7 hg7
      obtain ⟨z,hz,hz0⟩:∃ z:Int,[Value.int .i64 0,.int .i64 64,.int .i64 64,.int .i64 (1+u),.int .i64 (-1),.int .i64 65][t]?=some (.int .i64 z)/\True:=by rcases t with _ | _ | _ | _ | _ | _ | t<;>first | exact ⟨_,rfl,trivial⟩ | omega
      have cX:=rX.cell t _ hz
      refine hKq.out _ _ hHe (fun _=>?_)
      try simp only [PS]
      refine TY 8 (.pointer (some ⟨X,(t:Nat),none⟩)) rfl hHe ?_
      simp only [PS]
      refine wpAnyH_ready (rs:=[1,9]) (by kernel_rfl) (by simp) ?_
      refine AllReadyH.cons rfl (fun Kq hKq=>?_) (AllReadyH.cons rfl (fun Kq hKq=>?_) AllReadyH.nil)
      ·have l3:=F7.x.row.cell 3 _ rfl
       rw [<-HEB.out] at l3
       go_simp
       refine hKq.out _ _ hHe (fun _=>?_)
       try simp only [PS]
       refine RD 9 rfl (fun Kq hKq=>?_)
       go_simp
       refine hKq.out _ _ hHe (fun _=>?_)
       try simp only [PS]
       refine RD 10 rfl (fun Kq hKq=>?_)
       go_simp
       have F10:=F7.below (below_nw v7 (.cells #[.int .i64 z] 3))
       refine hKq.out _ _ hHe (fun _=>?_)
       try simp only [PS]
       refine RD 11 rfl (fun Kq hKq=>?_)
       have hsz:=F10.x.s.lt
       refine SAL _ (by rfl) _ _ _ (by rfl) w.heap.size Try.underlying35 HI.out rfl (by omega) (.slice ya fs.length yc) fs.length _ (by rfl) F10.x.s.own ⟨v7.heap.size,0,none⟩ 1 1 [.int .i64 z] (by rfl) rfl (World.news_of_block (heap_alloc_new v7 _)) (oneIE _) (by simp;simp at hsz;omega) (v7.heap.size+1) (by simp) ?_
       intro g cap v11 hown11 hgrow11 hat11 hlt11
       have F11:=F10.fate (H:=v7.heap.size+1) hown11 hgrow11 hat11 (by simp)
       have r11:=F10.x.row.grown hgrow11 (fun e=>F10.x.xo e.symm)
       rw [<-HEB.out] at F11 r11
       clear hown11 hgrow11 hat11
       refine hKq.out _ _ hHe (fun _=>?_)
       try simp only [PS]
       refine TY 12 (.pointer (some ⟨EB,3,none⟩)) rfl hHe ?_
       simp only [PS]
       refine RD 13 rfl (fun Kq hKq=>?_)
       have k0:=r11.cell 3 _ rfl
       have k1:=r11.froz 3 (by simp)
       have k2:=r11.lt
       go_simp
       refine hKq.out _ _ hHe (fun _=>?_)
       try simp only [PS]
       refine DN ?_
       go_wp2
       exact ⟨⟨m-1,q3+1+1,_,fs++[z],_,rfl,rfl,by omega,by omega,by rw [List.length_append];simp;omega,by omega,by omega,F11⟩,by simp [intOf];omega⟩
      ·go_simp
       refine hKq.out _ _ hHe (fun _=>?_)
       try simp only [PS]
       refine wpAnyH_ready (rs:=[1,10]) (by kernel_rfl) (by simp) ?_
       refine AllReadyH.cons rfl (fun Kq hKq=>?_) (AllReadyH.cons rfl (fun Kq hKq=>?_) AllReadyH.nil)
       ·have l3:=F7.x.row.cell 3 _ rfl
        rw [<-HEB.out] at l3
        go_simp
        refine hKq.out _ _ hHe (fun _=>?_)
        try simp only [PS]
        refine RD 10 rfl (fun Kq hKq=>?_)
        go_simp
        have F10:=F7.below (below_nw v7 (.cells #[.int .i64 z] 3))
        refine hKq.out _ _ hHe (fun _=>?_)
        try simp only [PS]
        refine RD 11 rfl (fun Kq hKq=>?_)
        have hsz:=F10.x.s.lt
        refine SAL _ (by rfl) _ _ _ (by rfl) w.heap.size Try.underlying35 HI.out rfl (by omega) (.slice ya fs.length yc) fs.length _ (by rfl) F10.x.s.own ⟨v7.heap.size,0,none⟩ 1 1 [.int .i64 z] (by rfl) rfl (World.news_of_block (heap_alloc_new v7 _)) (oneIE _) (by simp;simp at hsz;omega) (v7.heap.size+1) (by simp) ?_
        intro g cap v11 hown11 hgrow11 hat11 hlt11
        have F11:=F10.fate (H:=v7.heap.size+1) hown11 hgrow11 hat11 (by simp)
        have r11:=F10.x.row.grown hgrow11 (fun e=>F10.x.xo e.symm)
        rw [<-HEB.out] at F11 r11
        clear hown11 hgrow11 hat11
        refine hKq.out _ _ hHe (fun _=>?_)
        try simp only [PS]
        refine TY 12 (.pointer (some ⟨EB,3,none⟩)) rfl hHe ?_
        simp only [PS]
        refine RD 13 rfl (fun Kq hKq=>?_)
        have k0:=r11.cell 3 _ rfl
        have k1:=r11.froz 3 (by simp)
        have k2:=r11.lt
        go_simp
        refine hKq.out _ _ hHe (fun _=>?_)
        try simp only [PS]
        refine DN ?_
        go_wp2
        exact ⟨⟨m-1,q3+1+1,_,fs++[z],_,rfl,rfl,by omega,by omega,by rw [List.length_append];simp;omega,by omega,by omega,F11⟩,by simp [intOf];omega⟩
       ·go_simp
        have F10:=F7.below (below_nw v7 (.cells #[.int .i64 z] 3))
        refine hKq.out _ _ hHe (fun _=>?_)
        try simp only [PS]
        refine RD 1 rfl (fun Kq hKq=>?_)
        have l3:=F10.x.row.cell 3 _ rfl
        rw [<-HEB.out] at l3
        go_simp
        refine hKq.out _ _ hHe (fun _=>?_)
        try simp only [PS]
        refine RD 11 rfl (fun Kq hKq=>?_)
        have hsz:=F10.x.s.lt
        refine SAL _ (by rfl) _ _ _ (by rfl) w.heap.size Try.underlying35 HI.out rfl (by omega) (.slice ya fs.length yc) fs.length _ (by rfl) F10.x.s.own ⟨v7.heap.size,0,none⟩ 1 1 [.int .i64 z] (by rfl) rfl (World.news_of_block (heap_alloc_new v7 _)) (oneIE _) (by simp;simp at hsz;omega) (v7.heap.size+1) (by simp) ?_
        intro g cap v11 hown11 hgrow11 hat11 hlt11
        have F11:=F10.fate (H:=v7.heap.size+1) hown11 hgrow11 hat11 (by simp)
        have r11:=F10.x.row.grown hgrow11 (fun e=>F10.x.xo e.symm)
        rw [<-HEB.out] at F11 r11
        clear hown11 hgrow11 hat11
        refine hKq.out _ _ hHe (fun _=>?_)
        try simp only [PS]
        refine TY 12 (.pointer (some ⟨EB,3,none⟩)) rfl hHe ?_
        simp only [PS]
        refine RD 13 rfl (fun Kq hKq=>?_)
        have k0:=r11.cell 3 _ rfl
        have k1:=r11.froz 3 (by simp)
        have k2:=r11.lt
        go_simp
        refine hKq.out _ _ hHe (fun _=>?_)
        try simp only [PS]
        refine DN ?_
        go_wp2
        exact ⟨⟨m-1,q3+1+1,_,fs++[z],_,rfl,rfl,by omega,by omega,by rw [List.length_append];simp;omega,by omega,by omega,F11⟩,by simp [intOf];omega⟩
    ·refine step_call (by rfl) 15 #[.pointer (some ⟨R,0,none⟩),.int .i64 6] (by go_simp) (pick_r R a n c (q3+1) 6 _ F3.rd (by omega)) ?_
     rintro e v7 ⟨⟨t',rfl,t'0,t'1⟩,hr7,hg7⟩
     refine ⟨_,rfl,?_⟩
     have F7:=F3.pick hr7 hg7
     obtain ⟨t,rfl⟩:∃ k:Nat,t'=(k:Int):=⟨t'.toNat,by omega⟩
     have t6:t<6:=by omega
     have t6i:(t:Int)<6:=by omega
     clear hr7 hg7
     refine hKq.out _ _ hHe (fun _=>?_)
     try simp only [PS]
     refine wpAnyH_ready (rs:=[1,5]) (by kernel_rfl) (by simp) ?_
     refine AllReadyH.cons rfl (fun Kq hKq=>?_) (AllReadyH.cons rfl (fun Kq hKq=>?_) AllReadyH.nil)
     ·have l3:=F7.x.row.cell 3 _ rfl
      rw [<-HEB.out] at l3
      go_simp
      refine hKq.out _ _ hHe (fun _=>?_)
      try simp only [PS]
      refine RD 5 rfl (fun Kq hKq=>?_)
      go_simp
      have F5:=F7.below (below_nw v7 (.cells #[.int .i64 0,.int .i64 64,.int .i64 64,.int .i64 (1+u),.int .i64 (-1),.int .i64 65] 3))
      have rX:=row_new v7 #[.int .i64 0,.int .i64 64,.int .i64 64,.int .i64 (1+u),.int .i64 (-1),.int .i64 65] 3
      have xl:=F7.x.s.lR
      have x0:=F7.lt
      obtain ⟨X,e_X⟩:∃ z,z=v7.heap.size:=⟨_,rfl⟩
      obtain ⟨v5,e_v5⟩:∃ z,z=v7.alloc (.cells #[.int .i64 0,.int .i64 64,.int .i64 64,.int .i64 (1+u),.int .i64 (-1),.int .i64 65] 3):=⟨_,rfl⟩
      have hXR:R<X:=by omega
      rw [<-e_X,<-e_v5] at rX
      rw [<-e_v5] at F5
      rw [<-e_v5,<-e_X]
      clear e_v5 e_X
      obtain ⟨z,hz,hz0⟩:∃ z:Int,[Value.int .i64 0,.int .i64 64,.int .i64 64,.int .i64 (1+u),.int .i64 (-1),.int .i64 65][t]?=some (.int .i64 z)/\True:=by rcases t with _ | _ | _ | _ | _ | _ | t<;>first | exact ⟨_,rfl,trivial⟩ | omega
      have cX:=rX.cell t _ hz
      refine hKq.out _ _ hHe (fun _=>?_)
      try simp only [PS]
      refine TY 8 (.pointer (some ⟨X,(t:Nat),none⟩)) rfl hHe ?_
      simp only [PS]
      refine RD 9 rfl (fun Kq hKq=>?_)
      go_simp
      refine hKq.out _ _ hHe (fun _=>?_)
      try simp only [PS]
      refine RD 10 rfl (fun Kq hKq=>?_)
      go_simp
      have F10:=F5.below (below_nw v5 (.cells #[.int .i64 z] 3))
      refine hKq.out _ _ hHe (fun _=>?_)
      try simp only [PS]
      refine RD 11 rfl (fun Kq hKq=>?_)
      have hsz:=F10.x.s.lt
      refine SAL _ (by rfl) _ _ _ (by rfl) w.heap.size Try.underlying35 HI.out rfl (by omega) (.slice ya fs.length yc) fs.length _ (by rfl) F10.x.s.own ⟨v5.heap.size,0,none⟩ 1 1 [.int .i64 z] (by rfl) rfl (World.news_of_block (heap_alloc_new v5 _)) (oneIE _) (by simp;simp at hsz;omega) (v5.heap.size+1) (by simp) ?_
      intro g cap v11 hown11 hgrow11 hat11 hlt11
      have F11:=F10.fate (H:=v5.heap.size+1) hown11 hgrow11 hat11 (by simp)
      have r11:=F10.x.row.grown hgrow11 (fun e=>F10.x.xo e.symm)
      rw [<-HEB.out] at F11 r11
      clear hown11 hgrow11 hat11
      refine hKq.out _ _ hHe (fun _=>?_)
      try simp only [PS]
      refine TY 12 (.pointer (some ⟨EB,3,none⟩)) rfl hHe ?_
      simp only [PS]
      refine RD 13 rfl (fun Kq hKq=>?_)
      have k0:=r11.cell 3 _ rfl
      have k1:=r11.froz 3 (by simp)
      have k2:=r11.lt
      go_simp
      refine hKq.out _ _ hHe (fun _=>?_)
      try simp only [PS]
      refine DN ?_
      go_wp2
      exact ⟨⟨m-1,q3+1+1,_,fs++[z],_,rfl,rfl,by omega,by omega,by rw [List.length_append];simp;omega,by omega,by omega,F11⟩,by simp [intOf];omega⟩
     ·go_simp
      have F5:=F7.below (below_nw v7 (.cells #[.int .i64 0,.int .i64 64,.int .i64 64,.int .i64 (1+u),.int .i64 (-1),.int .i64 65] 3))
      have rX:=row_new v7 #[.int .i64 0,.int .i64 64,.int .i64 64,.int .i64 (1+u),.int .i64 (-1),.int .i64 65] 3
      have xl:=F7.x.s.lR
      have x0:=F7.lt
      obtain ⟨X,e_X⟩:∃ z,z=v7.heap.size:=⟨_,rfl⟩
      obtain ⟨v5,e_v5⟩:∃ z,z=v7.alloc (.cells #[.int .i64 0,.int .i64 64,.int .i64 64,.int .i64 (1+u),.int .i64 (-1),.int .i64 65] 3):=⟨_,rfl⟩
      have hXR:R<X:=by omega
      rw [<-e_X,<-e_v5] at rX
      rw [<-e_v5] at F5
      rw [<-e_v5,<-e_X]
      clear e_v5 e_X
      obtain ⟨z,hz,hz0⟩:∃ z:Int,[Value.int .i64 0,.int .i64 64,.int .i64 64,.int .i64 (1+u),.int .i64 (-1),.int .i64 65][t]?=some (.int .i64 z)/\True:=by rcases t with _ | _ | _ | _ | _ | _ | t<;>first | exact ⟨_,rfl,trivial⟩ | omega
      have cX:=rX.cell t _ hz
      refine hKq.out _ _ hHe (fun _=>?_)
      try simp only [PS]
      refine TY 8 (.pointer (some ⟨X,(t:Nat),none⟩)) rfl hHe ?_
      simp only [PS]
      refine wpAnyH_ready (rs:=[1,9]) (by kernel_rfl) (by simp) ?_
      refine AllReadyH.cons rfl (fun Kq hKq=>?_) (AllReadyH.cons rfl (fun Kq hKq=>?_) AllReadyH.nil)
      ·have l3:=F5.x.row.cell 3 _ rfl
       rw [<-HEB.out] at l3
       go_simp
       refine hKq.out _ _ hHe (fun _=>?_)
       try simp only [PS]
       refine RD 9 rfl (fun Kq hKq=>?_)
       go_simp
       refine hKq.out _ _ hHe (fun _=>?_)
       try simp only [PS]
       refine RD 10 rfl (fun Kq hKq=>?_)
       go_simp
       have F10:=F5.below (below_nw v5 (.cells #[.int .i64 z] 3))
       refine hKq.out _ _ hHe (fun _=>?_)
       try simp only [PS]
       refine RD 11 rfl (fun Kq hKq=>?_)
       have hsz:=F10.x.s.lt
       refine SAL _ (by rfl) _ _ _ (by rfl) w.heap.size Try.underlying35 HI.out rfl (by omega) (.slice ya fs.length yc) fs.length _ (by rfl) F10.x.s.own ⟨v5.heap.size,0,none⟩ 1 1 [.int .i64 z] (by rfl) rfl (World.news_of_block (heap_alloc_new v5 _)) (oneIE _) (by simp;simp at hsz;omega) (v5.heap.size+1) (by simp) ?_
       intro g cap v11 hown11 hgrow11 hat11 hlt11
       have F11:=F10.fate (H:=v5.heap.size+1) hown11 hgrow11 hat11 (by simp)
       have r11:=F10.x.row.grown hgrow11 (fun e=>F10.x.xo e.symm)
       rw [<-HEB.out] at F11 r11
       clear hown11 hgrow11 hat11
       refine hKq.out _ _ hHe (fun _=>?_)
       try simp only [PS]
       refine TY 12 (.pointer (some ⟨EB,3,none⟩)) rfl hHe ?_
       simp only [PS]
       refine RD 13 rfl (fun Kq hKq=>?_)
       have k0:=r11.cell 3 _ rfl
       have k1:=r11.froz 3 (by simp)
       have k2:=r11.lt
       go_simp
       refine hKq.out _ _ hHe (fun _=>?_)
       try simp only [PS]
       refine DN ?_
       go_wp2
       exact ⟨⟨m-1,q3+1+1,_,fs++[z],_,rfl,rfl,by omega,by omega,by rw [List.length_append];simp;omega,by omega,by omega,F11⟩,by simp [intOf];omega⟩
      ·go_simp
       refine hKq.out _ _ hHe (fun _=>?_)
       try simp only [PS]
       refine wpAnyH_ready (rs:=[1,10]) (by kernel_rfl) (by simp) ?_
       refine AllReadyH.cons rfl (fun Kq hKq=>?_) (AllReadyH.cons rfl (fun Kq hKq=>?_) AllReadyH.nil)
       ·have l3:=F5.x.row.cell 3 _ rfl
        rw [<-HEB.out] at l3
        go_simp
        refine hKq.out _ _ hHe (fun _=>?_)
        try simp only [PS]
        refine RD 10 rfl (fun Kq hKq=>?_)
        go_simp
        have F10:=F5.below (below_nw v5 (.cells #[.int .i64 z] 3))
        refine hKq.out _ _ hHe (fun _=>?_)
        try simp only [PS]
        refine RD 11 rfl (fun Kq hKq=>?_)
        have hsz:=F10.x.s.lt
        refine SAL _ (by rfl) _ _ _ (by rfl) w.heap.size Try.underlying35 HI.out rfl (by omega) (.slice ya fs.length yc) fs.length _ (by rfl) F10.x.s.own ⟨v5.heap.size,0,none⟩ 1 1 [.int .i64 z] (by rfl) rfl (World.news_of_block (heap_alloc_new v5 _)) (oneIE _) (by simp;simp at hsz;omega) (v5.heap.size+1) (by simp) ?_
        intro g cap v11 hown11 hgrow11 hat11 hlt11
        have F11:=F10.fate (H:=v5.heap.size+1) hown11 hgrow11 hat11 (by simp)
        have r11:=F10.x.row.grown hgrow11 (fun e=>F10.x.xo e.symm)
        rw [<-HEB.out] at F11 r11
        clear hown11 hgrow11 hat11
        refine hKq.out _ _ hHe (fun _=>?_)
        try simp only [PS]
        refine TY 12 (.pointer (some ⟨EB,3,none⟩)) rfl hHe ?_
        simp only [PS]
        refine RD 13 rfl (fun Kq hKq=>?_)
        have k0:=r11.cell 3 _ rfl
        have k1:=r11.froz 3 (by simp)
        have k2:=r11.lt
        go_simp
        refine hKq.out _ _ hHe (fun _=>?_)
        try simp only [PS]
        refine DN ?_
        go_wp2
        exact ⟨⟨m-1,q3+1+1,_,fs++[z],_,rfl,rfl,by omega,by omega,by rw [List.length_append];simp;omega,by omega,by omega,F11⟩,by simp [intOf];omega⟩
       ·go_simp
        have F10:=F5.below (below_nw v5 (.cells #[.int .i64 z] 3))
        refine hKq.out _ _ hHe (fun _=>?_)
        try simp only [PS]
        refine RD 1 rfl (fun Kq hKq=>?_)
        have l3:=F10.x.row.cell 3 _ rfl
        rw [<-HEB.out] at l3
        go_simp
        refine hKq.out _ _ hHe (fun _=>?_)
        try simp only [PS]
        refine RD 11 rfl (fun Kq hKq=>?_)
        have hsz:=F10.x.s.lt
        refine SAL _ (by rfl) _ _ _ (by rfl) w.heap.size Try.underlying35 HI.out rfl (by omega) (.slice ya fs.length yc) fs.length _ (by rfl) F10.x.s.own ⟨v5.heap.size,0,none⟩ 1 1 [.int .i64 z] (by rfl) rfl (World.news_of_block (heap_alloc_new v5 _)) (oneIE _) (by simp;simp at hsz;omega) (v5.heap.size+1) (by simp) ?_
        intro g cap v11 hown11 hgrow11 hat11 hlt11
        have F11:=F10.fate (H:=v5.heap.size+1) hown11 hgrow11 hat11 (by simp)
        have r11:=F10.x.row.grown hgrow11 (fun e=>F10.x.xo e.symm)
        rw [<-HEB.out] at F11 r11
        clear hown11 hgrow11 hat11
        refine hKq.out _ _ hHe (fun _=>?_)
        try simp only [PS]
        refine TY 12 (.pointer (some ⟨EB,3,none⟩)) rfl hHe ?_
        simp only [PS]
        refine RD 13 rfl (fun Kq hKq=>?_)
        have k0:=r11.cell 3 _ rfl
        have k1:=r11.froz 3 (by simp)
        have k2:=r11.lt
        go_simp
        refine hKq.out _ _ hHe (fun _=>?_)
        try simp only [PS]
        refine DN ?_
        go_wp2
        exact ⟨⟨m-1,q3+1+1,_,fs++[z],_,rfl,rfl,by omega,by omega,by rw [List.length_append];simp;omega,by omega,by omega,F11⟩,by simp [intOf];omega⟩
  ·have hm0:¬ 0<m:=hm
   obtain ⟨m0,m1,m2,m3⟩:=D.x.row.k4
   have ml:=D.x.row.lt
   rw [<-HEB.out] at m0 m1 m2 m3 ml
   obtain ⟨n0,n1,n2,n3⟩:=D.rb.k4
   obtain ⟨nf0,nf1,nf2,nf3⟩:=D.rb.z4
   have nl:=D.rb.lt
   have hne:w.heap.size≠EB:=by rw [HEB.out];omega
   go_wp2
   obtain ⟨WF,e_WF⟩:∃ W,W=(((wr.setCell ⟨w.heap.size,0,none⟩ (.int .i64 K)).setCell ⟨w.heap.size,1,none⟩ (.slice ba b.length bc)).setCell ⟨w.heap.size,2,none⟩ (.int .i64 ct)).setCell ⟨w.heap.size,3,none⟩ (.slice ya fs.length yc):=⟨_,rfl⟩
   obtain ⟨rF,dB,dF,hR,hG⟩:=D.fin rfl WF e_WF
   rw [<-e_WF]
   clear e_WF
   obtain ⟨s0,s1,s2,s3⟩:=rF.k4
   refine bodyPost_ret (v:=eventV ⟨K,b,ct,fs⟩ ba bc ya yc) (by simp [results,Try.results39,go_sem,eventV,s0,s1,s2,s3]) rfl ⟨⟨⟨K,b,ct,fs⟩,ba,bc,ya,yc,rfl,⟨⟨by have:=HBB.out.1;show b.length<=1048576;omega,fun x hx=>by have:=HBB.out.2 x hx;omega⟩,by show fs.length<=1048576;omega,by show -1000000<=ct/\ct<=1000000;omega⟩,dB,dF⟩,⟨q3,by omega,by omega,hR⟩,hG⟩
end Go.Proofs.Ythdilmkbnpmdaaa
