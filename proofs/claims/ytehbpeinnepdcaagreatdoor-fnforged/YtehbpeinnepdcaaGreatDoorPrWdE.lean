import Derived.Test.YtehbpeinnepdcaaGreatDoorPrWdS
set_option maxHeartbeats 32000000
namespace Go.Proofs.YtehbpeinnepdcaaGreatDoor
open Go.RowKit
set_option maxRecDepth 8000
set_option linter.unusedVariables false
set_option linter.unusedSimpArgs false
theorem Zay:(Tryz.prog.info? 3).map (fun i=>(i.zero,i.size,i.bytes))=some (some (.int .i64 0),1,8):=by kernel_rfl
theorem ZZF (z:Int):∀ u∈[Value.int .i64 z],u.oneCell'=true:=by intro u hu;simp at hu;subst hu;rfl
def yfU (w w':World) (r:Ending):Prop:=∃ (e:Ev) (ba:Option Addr) (bc:Nat) (fa:Option Addr) (fc:Nat),r=.returned (vMH e ba bc fa fc)/\e.le/\Dep w' w.heap.size w'.heap.size (fun W=>Chs W ba e.b)/\Dep w' w.heap.size w'.heap.size (fun W=>Ints W fa e.fs)
theorem zVy (R:Nat) (a:Option Addr) (n c:Nat) (p:Int) (up:Bool) (w:World) (h:Rdr w R a n c p) (hp:p<99980000):Calls Tryz.prog 46 #[.pointer (some ⟨R,0,none⟩),.bool up] w fun r w'=>yfU w w' r/\Zlg w R a n c p 700 w':=by
 have p0:=h.p0;obtain ⟨i0,cE,bG,cI,cJ⟩:=yWN Zay;have HI:=hid (And.intro cE (And.intro bG (And.intro cI cJ)));clear cE bG cI cJ
 have D0:EvD w ((w.alloc (.cells #[.int .i64 0,.slice none 0 0,.int .i64 0,.slice none 0 0] 87)).alloc (.cells #[.int .i64 0,.slice none 0 0,.int .i64 (-1),.slice none 0 0] 87)) R a n c p 0 none 0 [] (-1) (w.heap.size+2) (.slice none 0 0) []:=by
  have bQ:=quc w (.cells #[.int .i64 0,.slice none 0 0,.int .i64 0,.slice none 0 0] 87);have bC:=quc (w.alloc (.cells #[.int .i64 0,.slice none 0 0,.int .i64 0,.slice none 0 0] 87)) (.cells #[.int .i64 0,.slice none 0 0,.int .i64 (-1),.slice none 0 0] 87);have hb:Below w.heap.size w ((w.alloc (.cells #[.int .i64 0,.slice none 0 0,.int .i64 0,.slice none 0 0] 87)).alloc (.cells #[.int .i64 0,.slice none 0 0,.int .i64 (-1),.slice none 0 0] 87)):=bQ.trans (bC.mono (by simp));refine ⟨⟨⟨(h.below bQ).below bC,World.ownsRow_nil _ _ _ _,Qbp _ hb,h.lts.1,h.lts.2⟩,?_,fun e=>(by cases e),by omega⟩,⟨.inl rfl,by simp,fun _ _ _=>.inl rfl⟩,(xER _ _ _).alloc _,fun g e=>(by cases e),Nat.le_refl _⟩;have:=xER (w.alloc (.cells #[.int .i64 0,.slice none 0 0,.int .i64 0,.slice none 0 0] 87)) #[.int .i64 0,.slice none 0 0,.int .i64 (-1),.slice none 0 0] 87
  rwa [World.size_alloc] at this
 clear h;go_enter Tryz.func46,Tryz.ntmps46;go_wp2_with fail;refine (ZfV R a n c p 20 _ D0.rd (by omega)).mono ?_;rintro e w1 ⟨⟨k,rfl,k0,k1⟩,cF,b8⟩;have D1:=D0.pick cF b8;clear D0 cF b8;obtain ⟨EB,aL⟩:∃ z,z=w.heap.size+1:=⟨_,rfl⟩;rw [<-aL];have aB:=hid aL;clear aL;go_upto_region 3 with fail;go_cut [16] from 11 to 15 (fun cv wx=>∃ bb:Bool,cv=.bool bb/\wx=w1)
 case first =>
  by_cases hk:k<16
  ·cases up with
   | true =>
    go_wp2_with fail;go_meet;exact ⟨_,rfl,rfl⟩
   | false =>
    go_wp2_with fail;go_meet;exact ⟨_,rfl,rfl⟩
  ·cases up with
   | true =>
    go_wp2_with fail;go_meet;exact ⟨_,rfl,rfl⟩
   | false =>
    go_wp2_with fail;go_meet;exact ⟨_,rfl,rfl⟩
 case rest =>
 obtain ⟨bb,rfl,bZ⟩:=hcut;rw [bZ];clear bZ;go_upto_if 16 with fail;go_cut [] from 17 to 38 (fun wx=>∃ (K:Int) (ba:Option Addr) (bc:Nat) (b:List Ch) (q:Int) (hi:Nat),(b.length<=20/\chsLe b 3 100)/\p<=q/\q<=p+610/\EvD w wx R a n c q K ba bc b (-1) hi (.slice none 0 0) [])
 case first =>
  cases bb with
  | true =>
   obtain ⟨m0,m1,m2,m3⟩:=D1.x.row.k4;have aI:=D1.x.row.froz 0 (by simp);have ml:=D1.x.row.lt;rw [<-aB.out] at m0 m1 m2 m3 aI ml;have E1:=D1.kind 1;rw [<-aB.out] at E1;go_wp2_with fail;go_meet
   exact ⟨_,none,0,[],p+1,_,⟨by simp,fun x hx=>by cases hx⟩,by omega,by omega,E1⟩
  | false =>
   by_cases dM:k<11
   ·have m0:=D1.x.row.cell 0 _ rfl
    have m1:=D1.x.row.cell 1 _ rfl;have m2:=D1.x.row.cell 2 _ rfl;have m3:=D1.x.row.cell 3 _ rfl;have aI:=D1.x.row.froz 0 (by simp);have ml:=D1.x.row.lt;rw [<-aB.out] at m0 m1 m2 m3 aI ml;have E1:=D1.kind 2;rw [<-aB.out] at E1;go_wp2_with fail;clear m0 m1 m2 m3 aI ml;rw [aB.out] at E1 ⊢;refine (J88 R a n c (p+1) _ E1.rd (by omega)).mono ?_;rintro e w4 ⟨⟨bv,b,rfl,bV,⟨bQ,bC⟩,bU⟩,⟨q2,cP,cQ,aK⟩,aH⟩;obtain ⟨va,vc,rfl⟩:=q6I bV;have E2:=E1.pick aK aH;have E3:=E1.batch aK aH bV;clear aK aH bV E1 D1;rw [<-aB.out] at E3 ⊢;obtain ⟨m0,m1,m2,m3⟩:=E2.x.row.k4;have cO:=E2.x.row.froz 1 (by simp);have ml:=E2.x.row.lt;rw [<-aB.out] at m0 m1 m2 m3 cO ml;go_wp2_with fail;go_meet;exact ⟨2,va,vc,b,q2,_,⟨bC,bU⟩,by omega,by omega,E3⟩
   by_cases dN:k<14
   ·have m0:=D1.x.row.cell 0 _ rfl
    have m1:=D1.x.row.cell 1 _ rfl;have m2:=D1.x.row.cell 2 _ rfl;have m3:=D1.x.row.cell 3 _ rfl;have aI:=D1.x.row.froz 0 (by simp);have ml:=D1.x.row.lt;rw [<-aB.out] at m0 m1 m2 m3 aI ml;have E1:=D1.kind 3;rw [<-aB.out] at E1;go_wp2_with fail;go_meet
    exact ⟨_,none,0,[],p+1,_,⟨by simp,fun x hx=>by cases hx⟩,by omega,by omega,E1⟩
   by_cases dO:k<17
   ·have m0:=D1.x.row.cell 0 _ rfl
    have m1:=D1.x.row.cell 1 _ rfl;have m2:=D1.x.row.cell 2 _ rfl;have m3:=D1.x.row.cell 3 _ rfl;have aI:=D1.x.row.froz 0 (by simp);have ml:=D1.x.row.lt;rw [<-aB.out] at m0 m1 m2 m3 aI ml;have E1:=D1.kind 4;rw [<-aB.out] at E1;go_wp2_with fail;go_meet
    exact ⟨_,none,0,[],p+1,_,⟨by simp,fun x hx=>by cases hx⟩,by omega,by omega,E1⟩
   by_cases dQ:k<19
   ·have m0:=D1.x.row.cell 0 _ rfl
    have m1:=D1.x.row.cell 1 _ rfl;have m2:=D1.x.row.cell 2 _ rfl;have m3:=D1.x.row.cell 3 _ rfl;have aI:=D1.x.row.froz 0 (by simp);have ml:=D1.x.row.lt;rw [<-aB.out] at m0 m1 m2 m3 aI ml;have E1:=D1.kind 5;rw [<-aB.out] at E1;go_wp2_with fail;go_meet
    exact ⟨_,none,0,[],p+1,_,⟨by simp,fun x hx=>by cases hx⟩,by omega,by omega,E1⟩
   go_wp2_with fail;refine (ZfV R a n c (p+1) 4 _ (D1.rd.below (quc _ _)) (by omega)).mono ?_;rintro e w4 ⟨⟨v,rfl,v0,v1⟩,aK,aH⟩;have E2:=(D1.below (quc _ _)).pick aK aH;have d0:=Q24 (b:=w1.heap.size) (i:=0) aH (by have:=D1.lt;have:=D1.x.s.lR;omega) (v:=.int .i64 1) (by simp);have d1:=Q24 (b:=w1.heap.size) (i:=1) aH (by have:=D1.lt;have:=D1.x.s.lR;omega) (v:=.int .i64 2) (by simp);have d2:=Q24 (b:=w1.heap.size) (i:=2) aH (by have:=D1.lt;have:=D1.x.s.lR;omega) (v:=.int .i64 0) (by simp);have d3:=Q24 (b:=w1.heap.size) (i:=3) aH (by have:=D1.lt;have:=D1.x.s.lR;omega) (v:=.int .i64 6) (by simp);have hv:v=0\/v=1\/v=2\/v=3:=by omega
   clear v0 v1 aH aK;obtain ⟨m0,m1,m2,m3⟩:=E2.x.row.k4;have aI:=E2.x.row.froz 0 (by simp);have ml:=E2.x.row.lt;rw [<-aB.out] at m0 m1 m2 m3 aI ml
   have E3:=fun z=>E2.kind z
   rw [<-aB.out] at E3;clear E2 D1;rcases hv with rfl | rfl | rfl | rfl<;>(go_wp2_with fail;go_meet;exact ⟨_,none,0,[],p+1+1,_,⟨by simp,fun x hx=>by cases hx⟩,by omega,by omega,E3 _⟩)
 case rest =>
 obtain ⟨K,ba,bc,b,q,hi,HB,q0,q1,D2⟩:=hcut;have bY:=hid HB;clear HB D1 k0 k1;go_wp2_with fail;refine (ZfV R a n c q 4 _ D2.rd (by omega)).mono ?_;rintro e w3 ⟨⟨v,rfl,v0,v1⟩,aW,aT⟩;have D3:=D2.pick aW aT;clear D2 aW aT;go_upto_if 41 with fail;go_cut [] from 42 to 50 (fun wx=>∃ (ct q2:Int),-1<=ct/\ct<=14/\q<=q2/\q2<=q+5/\EvD w wx R a n c q2 K ba bc b ct hi (.slice none 0 0) [])
 case first =>
  by_cases hv:v=0
  ·subst hv
   go_wp2_with fail;refine (ZfV R a n c (q+1) 5 _ D3.rd (by omega)).mono ?_;rintro e w4 ⟨⟨u,rfl,u0,u1⟩,aK,aH⟩;have D4:=D3.pick aK aH;clear D3 aK aH;obtain ⟨m0,m1,m2,m3⟩:=D4.x.row.k4;have bH:=D4.x.row.froz 2 (by simp);have ml:=D4.x.row.lt;rw [<-aB.out] at m0 m1 m2 m3 bH ml;have D5:=D4.cutTo u;rw [<-aB.out] at D5;clear D4;go_wp2_with fail;clear m0 m1 m2 m3 bH ml;refine (ZfV R a n c (q+1+1) 4 _ D5.rd (by omega)).mono ?_;rintro e w5 ⟨⟨x,rfl,x0,x1⟩,aX,aU⟩;have D6:=D5.pick aX aU;clear D5 aX aU
   by_cases hx:x=0
   ·subst hx
    go_wp2_with fail;refine (ZfV R a n c (q+1+1+1) 14 _ D6.rd (by omega)).mono ?_;rintro e w6 ⟨⟨t,rfl,t0,t1⟩,cH,cC⟩;have D7:=D6.pick cH cC;clear D6 cH cC;obtain ⟨m0,m1,m2,m3⟩:=D7.x.row.k4;have bH:=D7.x.row.froz 2 (by simp);have ml:=D7.x.row.lt;rw [<-aB.out] at m0 m1 m2 m3 bH ml;have D8:=D7.cutTo t;rw [<-aB.out] at D8;go_wp2_with fail;go_meet;exact ⟨t,q+1+1+1+1,by omega,by omega,by omega,by omega,D8⟩
   ·have dL:(x == 0)=false:=by simp [hx]
    go_wp2_with fail;go_meet;exact ⟨u,q+1+1+1,by omega,by omega,by omega,by omega,D6⟩
  ·have dJ:(v == 0)=false:=by simp [hv]
   go_wp2_with fail;go_meet;exact ⟨-1,q+1,by omega,by omega,by omega,by omega,D3⟩
 case rest =>
 obtain ⟨ct,q2,cW,cY,cP,cQ,D4⟩:=hcut;clear D3 v0 v1;go_wp2_with fail;refine (ZfV R a n c q2 8 _ D4.rd (by omega)).mono ?_;rintro e w5 ⟨⟨v,rfl,v0,v1⟩,aX,aU⟩;have D5:=D4.pick aX aU;clear D4 aX aU;go_wp2;go_loopw [7] (fun nv wr=>∃ (m q3:Int) (y:Value) (fs:List Int) (W:World),W=wr/\nv=.int .i64 m/\0<=m/\m<=8/\(fs.length:Int)<=8-m/\q2<=q3/\q3<=q2+1+2*(8-m)/\EvD w W R a n c q3 K ba bc b ct hi y fs) (fun nv _=>(intOf nv).toNat)
 case atStart=>exact ⟨v,q2+1,_,[],_,rfl,rfl,by omega,by omega,by simp;omega,by omega,by omega,D5⟩
 case round =>
  obtain ⟨m,q3,y,fs,wr,rfl,rfl,dR,dU,cZ,eC,eD,D⟩:=hrel;obtain ⟨ya,yc,rfl⟩:=q6I D.x.s.own
  by_cases hm:0<m
  ·have dK:IntKind.i64.wrap (m-1)=m-1:=vRg _ (by omega) (by omega)
   go_upto_region 22 with fail;refine yO4 (13) (S:=fun w'=>w'.cell? ⟨EB,3,none⟩=some (.slice ya fs.length yc)) (by kernel_rfl) (by have l3:=D.drew.x.row.cell 3 _ rfl;rwa [<-aB.out] at l3) (fun aZ=>?_);refine TYT 0 (.pointer (some ⟨EB,3,none⟩)) rfl aZ (TYT 1 (.slice ya fs.length yc) rfl aZ (TYT 2 (.pointer (some ⟨R,0,none⟩)) rfl aZ (TYT 6 (.pointer (some ⟨R,0,none⟩)) rfl aZ ?_)));simp only [PS];refine RDT 3 rfl (fun Kq aC=>?_);refine XRf (by rfl) _ _ (by go_simp) (ZfV R a n c (q3) 63 _ D.drew.rd (by omega)) ?_;rintro e v3 ⟨⟨u,rfl,u0,u1⟩,aW,aT⟩;refine ⟨_,rfl,?_⟩;have F3:=D.drew.pick aW aT;have dI:IntKind.i64.wrap (1+u)=1+u:=vRg _ (by omega) (by omega);clear aW aT;refine aC.out _ _ (by have l3:=F3.x.row.cell 3 _ rfl;rwa [<-aB.out] at l3) (fun bI=>?_)
   try simp only [PS]
   refine TYT 4 (.int .i64 (1+u)) rfl bI ?_;simp only [PS];refine kPc (rs:=[5,7]) (by kernel_rfl) (by simp) ?_;refine AllReadyT.cons rfl (fun Kq aC=>?_) (AllReadyT.cons rfl (fun Kq aC=>?_) AllReadyT.nil)
   ·go_simp
    have F5:=F3.below (quc v3 (.cells #[.int .i64 0,.int .i64 64,.int .i64 64,.int .i64 (1+u),.int .i64 (-1),.int .i64 65] 3));have rX:=xER v3 #[.int .i64 0,.int .i64 64,.int .i64 64,.int .i64 (1+u),.int .i64 (-1),.int .i64 65] 3;have xl:=F3.x.s.lR;have x0:=F3.lt;obtain ⟨X,aN⟩:∃ z,z=v3.heap.size:=⟨_,rfl⟩;obtain ⟨v5,aE⟩:∃ z,z=v3.alloc (.cells #[.int .i64 0,.int .i64 64,.int .i64 64,.int .i64 (1+u),.int .i64 (-1),.int .i64 65] 3):=⟨_,rfl⟩;have cN:R<X:=by omega
    rw [<-aN,<-aE] at rX;rw [<-aE] at F5;rw [<-aE,<-aN];clear aE aN;refine aC.out _ _ (by have l3:=F5.x.row.cell 3 _ rfl;rwa [<-aB.out] at l3) (fun cK=>?_)
    try simp only [PS]
    refine RDT 7 rfl (fun Kq aC=>?_);refine XRf (by rfl) _ _ (by go_simp) (ZfV R a n c (q3+1) 6 _ F5.rd (by omega)) ?_;rintro e v7 ⟨⟨t',rfl,cS,cT⟩,aY,aO⟩;refine ⟨_,rfl,?_⟩;have F7:=F5.pick aY aO;have rX:=rX.grown aO (fun e=>by injection e with e;omega);obtain ⟨t,rfl⟩:∃ k:Nat,t'=(k:Int):=⟨t'.toNat,by omega⟩;have t6:t<6:=by omega
    have cU:(t:Int)<6:=by omega
    clear aY aO
    obtain ⟨z,hz,bG⟩:∃ z:Int,[Value.int .i64 0,.int .i64 64,.int .i64 64,.int .i64 (1+u),.int .i64 (-1),.int .i64 65][t]?=some (.int .i64 z)/\True:=by rcases t with _ | _ | _ | _ | _ | _ | t<;>first | exact ⟨_,rfl,trivial⟩ | omega
    have cX:=rX.cell t _ hz;refine aC.out _ _ (by have l3:=F7.x.row.cell 3 _ rfl;rwa [<-aB.out] at l3) (fun aR=>?_)
    try simp only [PS]
    refine TYT 8 (.pointer (some ⟨X,(t:Nat),none⟩)) rfl aR ?_;simp only [PS];refine RDT 9 rfl (fun Kq aC=>?_);go_simp;refine aC.out _ _ aR (fun _=>?_)
    try simp only [PS]
    refine RDT 10 rfl (fun Kq aC=>?_);go_simp;have aG:=F7.below (quc v7 (.cells #[.int .i64 z] 3));refine aC.out _ _ (by have l3:=aG.x.row.cell 3 _ rfl;rwa [<-aB.out] at l3) (fun cL=>?_)
    try simp only [PS]
    refine RDT 11 rfl (fun Kq aC=>?_);have bW:=aG.x.s.lt;refine SAL _ (by rfl) _ _ _ (by rfl) w.heap.size Tryz.underlying85 HI.out rfl (by omega) (.slice ya fs.length yc) fs.length _ (by rfl) aG.x.s.own ⟨v7.heap.size,0,none⟩ 1 1 [.int .i64 z] (by rfl) rfl (World.news_of_block (heap_alloc_new v7 _)) (ZZF _) (by simp;simp at bW;omega) (v7.heap.size+1) (by simp) ?_;intro g cap cV aD aA aF aV;have aP:=aG.fate (H:=v7.heap.size+1) aD aA aF (by simp);have aJ:=aG.x.row.grown aA (fun e=>aG.x.xo e.symm);rw [<-aB.out] at aP aJ;clear aD aA aF;refine aC.out _ _ (aJ.cell 3 _ rfl) (fun bJ=>?_)
    try simp only [PS]
    refine TYT 12 (.pointer (some ⟨EB,3,none⟩)) rfl bJ ?_;simp only [PS];refine kPc (rs:=[13]) (by kernel_rfl) (by simp) ?_;refine AllReadyT.last rfl (fun Kq aC=>?_);have k0:=aJ.cell 3 _ rfl;have k1:=aJ.froz 3 (by simp);have k2:=aJ.lt;go_simp;refine aC.out _ _ trivial (fun _=>?_)
    try simp only [PS]
    refine kgn (by kernel_rfl) ?_ _;go_wp2;exact ⟨⟨m-1,q3+1+1,_,fs++[z],_,rfl,rfl,by omega,by omega,by rw [List.length_append];simp;omega,by omega,by omega,aP⟩,by simp [intOf];omega⟩
   ·refine XRf (by rfl) _ _ (by go_simp) (ZfV R a n c (q3+1) 6 _ F3.rd (by omega)) ?_
    rintro e v7 ⟨⟨t',rfl,cS,cT⟩,aY,aO⟩;refine ⟨_,rfl,?_⟩;have F7:=F3.pick aY aO;obtain ⟨t,rfl⟩:∃ k:Nat,t'=(k:Int):=⟨t'.toNat,by omega⟩;have t6:t<6:=by omega
    have cU:(t:Int)<6:=by omega
    clear aY aO;refine aC.out _ _ (by have l3:=F7.x.row.cell 3 _ rfl;rwa [<-aB.out] at l3) (fun cM=>?_)
    try simp only [PS]
    refine RDT 5 rfl (fun Kq aC=>?_);go_simp;have F5:=F7.below (quc v7 (.cells #[.int .i64 0,.int .i64 64,.int .i64 64,.int .i64 (1+u),.int .i64 (-1),.int .i64 65] 3));have rX:=xER v7 #[.int .i64 0,.int .i64 64,.int .i64 64,.int .i64 (1+u),.int .i64 (-1),.int .i64 65] 3;have xl:=F7.x.s.lR;have x0:=F7.lt;obtain ⟨X,aN⟩:∃ z,z=v7.heap.size:=⟨_,rfl⟩;obtain ⟨v5,aE⟩:∃ z,z=v7.alloc (.cells #[.int .i64 0,.int .i64 64,.int .i64 64,.int .i64 (1+u),.int .i64 (-1),.int .i64 65] 3):=⟨_,rfl⟩;have cN:R<X:=by omega
    rw [<-aN,<-aE] at rX;rw [<-aE] at F5;rw [<-aE,<-aN];clear aE aN
    obtain ⟨z,hz,bG⟩:∃ z:Int,[Value.int .i64 0,.int .i64 64,.int .i64 64,.int .i64 (1+u),.int .i64 (-1),.int .i64 65][t]?=some (.int .i64 z)/\True:=by rcases t with _ | _ | _ | _ | _ | _ | t<;>first | exact ⟨_,rfl,trivial⟩ | omega
    have cX:=rX.cell t _ hz;refine aC.out _ _ (by have l3:=F5.x.row.cell 3 _ rfl;rwa [<-aB.out] at l3) (fun aS=>?_)
    try simp only [PS]
    refine TYT 8 (.pointer (some ⟨X,(t:Nat),none⟩)) rfl aS ?_;simp only [PS];refine RDT 9 rfl (fun Kq aC=>?_);go_simp;refine aC.out _ _ aS (fun _=>?_)
    try simp only [PS]
    refine RDT 10 rfl (fun Kq aC=>?_);go_simp;have aG:=F5.below (quc v5 (.cells #[.int .i64 z] 3));refine aC.out _ _ (by have l3:=aG.x.row.cell 3 _ rfl;rwa [<-aB.out] at l3) (fun b7=>?_)
    try simp only [PS]
    refine RDT 11 rfl (fun Kq aC=>?_);have bW:=aG.x.s.lt;refine SAL _ (by rfl) _ _ _ (by rfl) w.heap.size Tryz.underlying85 HI.out rfl (by omega) (.slice ya fs.length yc) fs.length _ (by rfl) aG.x.s.own ⟨v5.heap.size,0,none⟩ 1 1 [.int .i64 z] (by rfl) rfl (World.news_of_block (heap_alloc_new v5 _)) (ZZF _) (by simp;simp at bW;omega) (v5.heap.size+1) (by simp) ?_;intro g cap cV aD aA aF aV;have aP:=aG.fate (H:=v5.heap.size+1) aD aA aF (by simp);have aJ:=aG.x.row.grown aA (fun e=>aG.x.xo e.symm);rw [<-aB.out] at aP aJ;clear aD aA aF;refine aC.out _ _ (aJ.cell 3 _ rfl) (fun aQ=>?_)
    try simp only [PS]
    refine TYT 12 (.pointer (some ⟨EB,3,none⟩)) rfl aQ ?_;simp only [PS];refine kPc (rs:=[13]) (by kernel_rfl) (by simp) ?_;refine AllReadyT.last rfl (fun Kq aC=>?_);have k0:=aJ.cell 3 _ rfl;have k1:=aJ.froz 3 (by simp);have k2:=aJ.lt;go_simp;refine aC.out _ _ trivial (fun _=>?_)
    try simp only [PS]
    refine kgn (by kernel_rfl) ?_ _;go_wp2;exact ⟨⟨m-1,q3+1+1,_,fs++[z],_,rfl,rfl,by omega,by omega,by rw [List.length_append];simp;omega,by omega,by omega,aP⟩,by simp [intOf];omega⟩
  ·have dE:¬ 0<m:=hm
   obtain ⟨m0,m1,m2,m3⟩:=D.x.row.k4;have ml:=D.x.row.lt;rw [<-aB.out] at m0 m1 m2 m3 ml;obtain ⟨n0,n1,n2,n3⟩:=D.rb.k4;obtain ⟨dV,dY,dZ,eB⟩:=D.rb.z4;have nl:=D.rb.lt;have dH:w.heap.size≠EB:=by rw [aB.out];omega
   go_wp2;obtain ⟨WF,aM⟩:∃ W,W=(((wr.setCell ⟨w.heap.size,0,none⟩ (.int .i64 K)).setCell ⟨w.heap.size,1,none⟩ (.slice ba b.length bc)).setCell ⟨w.heap.size,2,none⟩ (.int .i64 ct)).setCell ⟨w.heap.size,3,none⟩ (.slice ya fs.length yc):=⟨_,rfl⟩;obtain ⟨rF,dB,dF,hR,hG⟩:=D.fin rfl WF aM;rw [<-aM];clear aM;obtain ⟨s0,s1,s2,s3⟩:=rF.k4;refine bodyPost_ret (v:=vMH ⟨K,b,ct,fs⟩ ba bc ya yc) (by simp [results,Tryz.results46,go_sem,vMH,s0,s1,s2,s3]) rfl ⟨⟨⟨K,b,ct,fs⟩,ba,bc,ya,yc,rfl,⟨⟨by have:=bY.out.1;show b.length<=1048576;omega,fun x hx=>by have:=bY.out.2 x hx;omega⟩,by show fs.length<=1048576;omega,by show -1000000<=ct/\ct<=1000000;omega⟩,dB,dF⟩,⟨q3,by omega,by omega,hR⟩,hG⟩
end Go.Proofs.YtehbpeinnepdcaaGreatDoor
