import Derived.Test.YtjdmogljfdffeaaGreatDoorPrG43
import Derived.Test.YtjdmogljfdffeaaGreatDoorPrWdM
set_option maxHeartbeats 32000000
set_option maxRecDepth 8000
set_option linter.all false
namespace Go.Proofs.YtjdmogljfdffeaaGreatDoor
section
open Tryz
open Go.RowKit nw
theorem xj{n wd:Int}(a:8<=n/\n<=200):(KV n wd).good n.toNat:=by
 have b:(newSS n).length=n.toNat:=by unfold newSS;rw[AF a,CU]
 refine⟨p6 a,?_,b,λk=>by cases k⟩
 show LG (newSS n) []=true;unfold newSS;rw[AF a];exact ai (by rw[CU];simp;omega) (λs c=>by rw[List.eq_of_mem_replicate c];decide) (λx d=>by cases d)
def Bv(w a:World)(r:Ending):Prop:=∃(x:Wo) (q:Wp) (N:Nat),r=.returned (LO x q)/\x.good N/\(8<=N/\N<=40)/\(1<=x.w/\x.w<=8)/\WoF x a (λb=>w.heap.size<=b) q
theorem ft(x:Wo)(e:Ev):(x.doE e).w=x.w:=by
 unfold Wo.doE
 repeat' split
 all_goals rfl
def ZE:Ev:=⟨1,[],-1,[]⟩
theorem Fv:ZE.le:=⟨⟨by simp[ZE],λx a=>by cases a⟩,by simp[ZE]⟩
theorem sD(x:Wo)(q:Wp)(F:Nat->Prop)(w:World)(h:WoF x w F q)(a:x.ok):Calls prog 88 #[LO x q,.agg #[.int .i64 1,.slice none 0 0,.int .i64 (-1),.slice none 0 0]] w λr b=>kc w b F r (x.doE ZE) :=jm x q ZE none 0 none 0 F w h a (.inl rfl) (.inl rfl) Fv
end
section
open Tryz
open Go.RowKit
theorem yB{s t:ByteArray}(h:¬s=t):(s.toList == t.toList)=false:=by
 rw[ET];intro a;rw[DF,DF]at a;exact h (EP (Array.toList_inj.1 a))
end
section
open Tryz
open Go.RowKit nw
theorem Cw(o:Option (Int×Int×Int×ByteArray)):∃k l m p a,VC o=.tuple #[NK k l m p,.bool a]:=by
 rcases o with _|⟨k,l,m,p⟩
 ·exact⟨_,_,_,_,_,rfl⟩
 exact⟨_,_,_,_,_,rfl⟩
theorem Hf{x:Wo}(h:x.up=true\/x.S<=0)(e:Ev):(x.doE e).up=true\/(x.doE e).S<=0:=by
 unfold Wo.doE
 repeat' split
 all_goals first|exact h|exact .inl rfl|exact .inr (Int.le_refl 0)
structure FgS(w wx:World)(R:Nat)(a:Option Addr)(n c:Nat)(p:Int)(B:Nat)(x:Wo)(q:Wp):Prop where
 rd:Rdr wx R a n c p
 gr:w.grownBy wx (some R)
 lR:R<w.heap.size
 ga:∀g o,a=some ⟨g,o,none⟩->0<n->g<w.heap.size
 r2:Row wx w.heap.size [.int .i64 0,.slice none 0 0,.slice none 0 0,.bool false,.int .i64 0,.int .i64 0,.int .i64 0,.int .i64 0,.int .i64 0,.int .i64 0,.int .i64 0,.int .i64 0,.int .i64 0,.slice none 0 0,.slice none 0 0,.slice none 0 0]
 r3:Row wx B (wL x q)
 lB:w.heap.size+1<=B
 wo:WoF x wx (λb=>w.heap.size+1<=b/\b≠B) q
section
variable {w wx wy:World} {R:Nat} {a:Option Addr} {n c:Nat} {p p':Int} {B:Nat} {x:Wo} {q:Wp}
theorem FgS.z(h:FgS w wx R a n c p B x q)(b:Below wx.heap.size wx wy):FgS w wy R a n c p B x q :=⟨h.rd.z b,OS h.gr (RW _ b),h.lR,h.ga,h.r2.z b,h.r3.z b,h.lB,h.wo.z b⟩
theorem FgS.pick(h:FgS w wx R a n c p B x q)(d:Rdr wy R a n c p')(b:wx.grownBy wy (some R)):FgS w wy R a n c p' B x q:=by
 have f:=h.lR;have i:=h.lB;exact⟨d,OS h.gr b,h.lR,h.ga,h.r2.I b (λe=>by injection e with e;omega),h.r3.I b (λe=>by injection e with e;omega),h.lB,h.wo.I b (λg e k=>by injection e with e;have:=k.1;omega)⟩
theorem FgS.fin(h:FgS w wx R a n c p B x q)(d:List Value)(o:d.length=16){y:Wo}{m:Wp}(s:WoF y wx (λb=>w.heap.size+1<=b) m):Row (wx.setCells w.heap.size 0 d) w.heap.size d/\Rdr (wx.setCells w.heap.size 0 d) R a n c p/\w.grownBy (wx.setCells w.heap.size 0 d) (some R)/\WoF y (wx.setCells w.heap.size 0 d) (λb=>w.heap.size<=b) m:=by
 have G:=OQ wx w.heap.size 0 d;have f:Below w.heap.size wx (wx.setCells w.heap.size 0 d):=MR G h.gr.size (λg e=>by cases e;exact Y _);have j:=h.gr;exact⟨h.r2.sets d o,h.rd.keep (N:=w.heap.size) h.lR h.ga f,⟨f.os.j j.os,f.tape.j j.tape,f.output.j j.output,AL j.size f.size,λi l r=>(f.block i l).j (j.block i l r)⟩,(s.I G (λg e k=>by cases e;omega)).A (λb _ k=>ω)⟩
theorem FgS.put(h:FgS w wx R a n c p B x q){y:Wo}{d:Wp}(m:WoF y wx (λb=>w.heap.size+1<=b/\b≠B) d):FgS w (wx.setCells B 0 (wL y d)) R a n c p B y d:=by
 have o:=h.lB;have G:=OQ wx B 0 (wL y d);have b:Below w.heap.size wx (wx.setCells B 0 (wL y d)):=MR G h.gr.size (λg e=>by cases e;omega);have f:=h.gr;exact⟨h.rd.keep (N:=w.heap.size) h.lR h.ga b,⟨b.os.j f.os,b.tape.j f.tape,b.output.j f.output,AL f.size b.size,λi j l=>(b.block i j).j (f.block i j l)⟩,h.lR,h.ga,h.r2.I G (λe=>by injection e with e;omega),h.r3.sets (wL y d) rfl,h.lB,m.I G (λg e k=>by cases e;exact k.2 rfl)⟩
def vZ(w:World)(R:Nat)(a:Option Addr)(n c:Nat)(p:Int)(B:Nat)(x:Wo)(q:Wp)(b:Value)(wr:World):Prop:=∃i:Nat,i<=60/\b=.int .i64 (i:Int)/\FgS w wr R a n c (p+i) B x q
end
structure FgJ(w wx:World)(R:Nat)(a:Option Addr)(n c:Nat)(p:Int)(B:Nat)(x:Wo)(q:Wp)(X:Nat)(D:Dd)(oa:Option Addr)(oc:Nat)(ob:Option Addr)(oe:Nat)(bb:Nat)(b:List Ch):Prop where
 s:FgS w wx R a n c p B x q
 r:Row wx X (dJ D.C D.W D.S D.L D.T D.H D.F D.R D.U D.O (.slice oa D.rs.length oc) (.slice ob D.ops.length oe))
 o:Ops wx ob D.ops
 b:Chs wx (some ⟨bb,0,none⟩) b
theorem FgJ.z{w e l:World}{R:Nat}{a:Option Addr}{n c:Nat}{p:Int}{B:Nat}{x:Wo}{q:Wp}{X:Nat}{D:Dd}{g:Option Addr}{j:Nat}{i:Option Addr}{k:Nat}{f:Nat}{b:List Ch}(h:FgJ w e R a n c p B x q X D g j i k f b)(d:Below e.heap.size e l):FgJ w l R a n c p B x q X D g j i k f b :=⟨h.s.z d,h.r.z d,h.o.z d,h.b.z d⟩
def vY(w:World)(R:Nat)(a:Option Addr)(n c:Nat)(p:Int)(B:Nat)(x:Wo)(q:Wp)(X:Nat)(D:Dd)(f:Option Addr)(h:Nat)(g:Option Addr)(i:Nat)(d:Nat)(b:List Ch)(e:Value)(wr:World):Prop:=∃k:Nat,10<=k/\k<=60/\e=.int .i64 (k:Int)/\FgJ w wr R a n c p B x q X D f h g i d b
end
section
open Tryz
open Go.RowKit
theorem Ay:(prog.info? 3).map (λi=>(i.zero,i.size,i.bytes))=some (some (.int .i64 0),1,8):=κ
theorem oV(z:Int):∀u∈[Value.int .i64 z],u.oneCell'=true:=by intro u a;simp at a;subst a;rfl
def Il(w a:World)(r:Ending):Prop:=∃(e:Ev) (b:Option Addr) (d:Nat) (c:Option Addr) (f:Nat),r=.returned (NH e b d c f)/\e.le/\Dep a w.heap.size a.heap.size (λW=>Chs W b e.b)/\Dep a w.heap.size a.heap.size (λW=>Ints W c e.fs)
theorem zb(R:Nat)(a:Option Addr)(n c:Nat)(p:Int)(up:Bool)(w:World)(h:Rdr w R a n c p)(hp:p<99980000):Calls prog 89 #[.pointer (some ⟨R,0,none⟩),.bool up] w λr E=>Il w E r/\TU w R a n c p 700 E:=by
 have p0:=h.p0;obtain⟨i0,b,bG,d,e⟩:=PL Ay;have HI:=Z (AH b (AH bG (AH d e)));clear b bG d e
 have b:EvD w ((w.alloc (.cells #[.int .i64 0,.slice none 0 0,.int .i64 0,.slice none 0 0] 43)).alloc (.cells #[.int .i64 0,.slice none 0 0,.int .i64 (-1),.slice none 0 0] 43)) R a n c p 0 none 0 [] (-1) (w.heap.size+2) (.slice none 0 0) []:=by
  have v:=LB w (.cells #[.int .i64 0,.slice none 0 0,.int .i64 0,.slice none 0 0] 43);have r:=LB (w.alloc (.cells #[.int .i64 0,.slice none 0 0,.int .i64 0,.slice none 0 0] 43)) (.cells #[.int .i64 0,.slice none 0 0,.int .i64 (-1),.slice none 0 0] 43);have d:Below w.heap.size w ((w.alloc (.cells #[.int .i64 0,.slice none 0 0,.int .i64 0,.slice none 0 0] 43)).alloc (.cells #[.int .i64 0,.slice none 0 0,.int .i64 (-1),.slice none 0 0] 43)):=v.j (r.A σ);refine⟨⟨⟨(h.z v).z r,CE _ _ _ _,RW _ d,h.lts.1,h.lts.2⟩,?_,λe=>(by cases e),ω⟩,⟨.inl rfl,σ,λ_ _ _=>.inl rfl⟩,(LU _ _ _).alloc _,λg e=>(by cases e),Y _⟩;have:=LU (w.alloc (.cells #[.int .i64 0,.slice none 0 0,.int .i64 0,.slice none 0 0] 43)) #[.int .i64 0,.slice none 0 0,.int .i64 (-1),.slice none 0 0] 43
  rwa [BB]at this
 clear h;go_enter func89,ntmps89;go_wp2_with fail;refine(KX R a n c p 20 _ b.rd ω).A ?_;rintro e w1 ⟨⟨k,rfl,F,S⟩,g,f⟩;have d:=b.pick g f;clear b g f;obtain⟨Q,b⟩:∃z,z=w.heap.size+1:=⟨_,rfl⟩;rw[<-b];have f:=Z b;clear b;go_upto_region 3 with fail;go_cut [16] from 11 to 15 (λb u=>∃bb:Bool,b=.bool bb/\u=w1)
 case first =>
  by_cases b:k<16
  ·cases up with
   | true =>
    go_wp2_with fail;go_meet;exact⟨_,rfl,rfl⟩
   | false =>
    go_wp2_with fail;go_meet;exact⟨_,rfl,rfl⟩
  cases up with
  | true =>
   go_wp2_with fail;go_meet;exact⟨_,rfl,rfl⟩
  | false =>
   go_wp2_with fail;go_meet;exact⟨_,rfl,rfl⟩
 case rest =>
 obtain⟨bb,rfl,b⟩:=hcut;rw[b];clear b;go_upto_if 16 with fail;go_cut [] from 17 to 38 (λu=>∃(K:Int) (G:Option Addr) (H:Nat) (b:List Ch) (q:Int) (hi:Nat),(b.length<=20/\VY b 3 100)/\p<=q/\q<=p+610/\EvD w u R a n c q K G H b (-1) hi (.slice none 0 0) [])
 case first =>
  cases bb with
  | true =>
   obtain⟨g,i,j,l⟩:=d.x.row.k4;have r:=d.x.row.E 0;have o:=d.x.row.lt;rw[<-f.l]at g i j l r o;have m:=d.kind 1;rw[<-f.l]at m;go_wp2_with fail;go_meet
   exact⟨_,none,0,[],p+1,_,⟨σ,λx s=>by cases s⟩,ω,ω,m⟩
  | false =>
   by_cases I:k<11
   ·have g:=d.x.row.y 0
    have i:=d.x.row.y 1;have j:=d.x.row.y 2;have l:=d.x.row.y 3;have r:=d.x.row.E 0;have o:=d.x.row.lt;rw[<-f.l]at g i j l r o;have m:=d.kind 2;rw[<-f.l]at m;go_wp2_with fail;clear g i j l r o;rw[f.l]at m⊢;refine(XR R a n c (p+1) _ m.rd ω).A ?_;rintro e D ⟨⟨C,b,rfl,j,⟨v,r⟩,x⟩,⟨A,cT,cU,i⟩,g⟩;obtain⟨y,B,rfl⟩:=NP j;have s:=m.pick i g;have t:=m.batch i g j;clear i g j m d;rw[<-f.l]at t⊢;obtain⟨g,i,j,l⟩:=s.x.row.k4;have m:=s.x.row.E 1;have o:=s.x.row.lt;rw[<-f.l]at g i j l m o;go_wp2_with fail;go_meet;exact⟨2,y,B,b,A,_,⟨r,x⟩,ω,ω,t⟩
   by_cases C:k<14
   ·have g:=d.x.row.y 0
    have i:=d.x.row.y 1;have j:=d.x.row.y 2;have l:=d.x.row.y 3;have r:=d.x.row.E 0;have o:=d.x.row.lt;rw[<-f.l]at g i j l r o;have m:=d.kind 3;rw[<-f.l]at m;go_wp2_with fail;go_meet
    exact⟨_,none,0,[],p+1,_,⟨σ,λx s=>by cases s⟩,ω,ω,m⟩
   by_cases L:k<17
   ·have g:=d.x.row.y 0
    have i:=d.x.row.y 1;have j:=d.x.row.y 2;have l:=d.x.row.y 3;have r:=d.x.row.E 0;have o:=d.x.row.lt;rw[<-f.l]at g i j l r o;have m:=d.kind 4;rw[<-f.l]at m;go_wp2_with fail;go_meet
    exact⟨_,none,0,[],p+1,_,⟨σ,λx s=>by cases s⟩,ω,ω,m⟩
   by_cases M:k<19
   ·have g:=d.x.row.y 0
    have i:=d.x.row.y 1;have j:=d.x.row.y 2;have l:=d.x.row.y 3;have r:=d.x.row.E 0;have o:=d.x.row.lt;rw[<-f.l]at g i j l r o;have m:=d.kind 5;rw[<-f.l]at m;go_wp2_with fail;go_meet
    exact⟨_,none,0,[],p+1,_,⟨σ,λx s=>by cases s⟩,ω,ω,m⟩
   go_wp2_with fail;refine(KX R a n c (p+1) 4 _ (d.rd.z (LB _ _)) ω).A ?_;rintro e D ⟨⟨v,rfl,v0,v1⟩,i,g⟩;have s:=(d.z (LB _ _)).pick i g;have m:=LK (b:=w1.heap.size) (i:=0) g (by have:=d.lt;have:=d.x.s.lR;omega) (v:=.int .i64 1) σ;have y:=LK (b:=w1.heap.size) (i:=1) g (by have:=d.lt;have:=d.x.s.lR;omega) (v:=.int .i64 2) σ;have A:=LK (b:=w1.heap.size) (i:=2) g (by have:=d.lt;have:=d.x.s.lR;omega) (v:=.int .i64 0) σ;have B:=LK (b:=w1.heap.size) (i:=3) g (by have:=d.lt;have:=d.x.s.lR;omega) (v:=.int .i64 6) σ;have hv:v=0\/v=1\/v=2\/v=3:=ω
   clear v0 v1 g i;obtain⟨g,i,j,l⟩:=s.x.row.k4;have r:=s.x.row.E 0;have o:=s.x.row.lt;rw[<-f.l]at g i j l r o
   have t:=λz=>s.kind z
   rw[<-f.l]at t;clear s d;rcases hv with rfl|rfl|rfl|rfl<;>(go_wp2_with fail;go_meet;exact⟨_,none,0,[],p+1+1,_,⟨σ,λx s=>by cases s⟩,ω,ω,t _⟩)
 case rest =>
 obtain⟨K,G,H,b,q,hi,g,q0,q1,i⟩:=hcut;have bW:=Z g;clear g d F S;go_wp2_with fail;refine(KX R a n c q 4 _ i.rd ω).A ?_;rintro e w3 ⟨⟨v,rfl,v0,v1⟩,j,g⟩;have m:=i.pick j g;clear i j g;go_upto_if 41 with fail;go_cut [] from 42 to 50 (λu=>∃(C A:Int),-1<=C/\C<=14/\q<=A/\A<=q+5/\EvD w u R a n c A K G H b C hi (.slice none 0 0) [])
 case first =>
  by_cases hv:v=0
  ·subst hv
   go_wp2_with fail;refine(KX R a n c (q+1) 5 _ m.rd ω).A ?_;rintro e D ⟨⟨u,rfl,u0,u1⟩,i,g⟩;have d:=m.pick i g;clear m i g;obtain⟨g,i,j,l⟩:=d.x.row.k4;have y:=d.x.row.E 2;have o:=d.x.row.lt;rw[<-f.l]at g i j l y o;have N:=d.cutTo u;rw[<-f.l]at N;clear d;go_wp2_with fail;clear g i j l y o;refine(KX R a n c (q+1+1) 4 _ N.rd ω).A ?_;rintro e w5 ⟨⟨x,rfl,x0,M⟩,i,g⟩;have d:=N.pick i g;clear N i g
   by_cases s:x=0
   ·subst s
    go_wp2_with fail;refine(KX R a n c (q+1+1+1) 14 _ d.rd ω).A ?_;rintro e L ⟨⟨t,rfl,F,I⟩,i,g⟩;have r:=d.pick i g;clear d i g;obtain⟨g,i,j,l⟩:=r.x.row.k4;have y:=r.x.row.E 2;have o:=r.x.row.lt;rw[<-f.l]at g i j l y o;have B:=r.cutTo t;rw[<-f.l]at B;go_wp2_with fail;go_meet;exact⟨t,q+1+1+1+1,ω,ω,ω,ω,B⟩
   have g:(x == 0)=false:=by simp[s]
   go_wp2_with fail;go_meet;exact⟨u,q+1+1+1,ω,ω,ω,ω,d⟩
  have d:(v == 0)=false:=by simp[hv]
  go_wp2_with fail;go_meet;exact⟨-1,q+1,ω,ω,ω,ω,m⟩
 case rest =>
 obtain⟨C,A,dH,dL,cT,cU,d⟩:=hcut;clear m v0 v1;go_wp2_with fail;refine(KX R a n c A 8 _ d.rd ω).A ?_;rintro e w5 ⟨⟨v,rfl,v0,v1⟩,i,g⟩;have N:=d.pick i g;clear d i g;go_wp2;go_loopw [7] (λd wr=>∃(m B:Int) (y:Value) (r:List Int) (W:World),W=wr/\d=.int .i64 m/\0<=m/\m<=8/\(r.length:Int)<=8-m/\A<=B/\B<=A+1+2*(8-m)/\EvD w W R a n c B K G H b C hi y r) (λd _=>(intOf d).toNat)
 case atStart=>exact⟨v,A+1,_,[],_,rfl,rfl,ω,ω,τ,ω,ω,N⟩
 case round =>
  obtain⟨m,B,y,r,wr,rfl,rfl,eH,eI,dM,eN,eO,D⟩:=hrel;obtain⟨L,M,rfl⟩:=NP D.x.s.own
  by_cases hm:0<m
  ·have dV:IntKind.i64.wrap (m-1)=m-1:=KT _ ω ω
   go_upto_region 22 with fail;refine YH (13) (S:=λE=>E.cell? ⟨Q,3,none⟩=some (.slice L r.length M)) κ (by have i:=D.drew.x.row.y 3;rwa [<-f.l]at i) (λaZ=>?_);refine MZ 0 (.pointer (some ⟨Q,3,none⟩)) rfl aZ (MZ 1 (.slice L r.length M) rfl aZ (MZ 2 (.pointer (some ⟨R,0,none⟩)) rfl aZ (MZ 6 (.pointer (some ⟨R,0,none⟩)) rfl aZ ?_)));simp only[J];refine OY 3 rfl (λl d=>?_);refine LC ρ _ _ γ (KX R a n c (B) 63 _ D.drew.rd ω) ?_;rintro e v3 ⟨⟨u,rfl,u0,u1⟩,j,g⟩;refine⟨_,rfl,?_⟩;have O:=D.drew.pick j g;have dR:IntKind.i64.wrap (1+u)=1+u:=KT _ ω ω;clear j g;refine d.l _ _ (by have i:=O.x.row.y 3;rwa [<-f.l]at i) (λbI=>?_)
   try simp only[J]
   refine MZ 4 (.int .i64 (1+u)) rfl bI ?_;simp only[J];refine RZ (rs:=[5,7]) κ σ ?_;refine AllReadyT.cons rfl (λl d=>?_) (AllReadyT.cons rfl (λl d=>?_) AllReadyT.nil)
   ·go_simp
    have x:=O.z (LB v3 (.cells #[.int .i64 0,.int .i64 64,.int .i64 64,.int .i64 (1+u),.int .i64 (-1),.int .i64 65] 3));have I:=LU v3 #[.int .i64 0,.int .i64 64,.int .i64 64,.int .i64 (1+u),.int .i64 (-1),.int .i64 65] 3;have xl:=O.x.s.lR;have x0:=O.lt;obtain⟨X,j⟩:∃z,z=v3.heap.size:=⟨_,rfl⟩;obtain⟨P,g⟩:∃z,z=v3.alloc (.cells #[.int .i64 0,.int .i64 64,.int .i64 64,.int .i64 (1+u),.int .i64 (-1),.int .i64 65] 3):=⟨_,rfl⟩;have cQ:R<X:=ω
    rw[<-j,<-g]at I;rw[<-g]at x;rw[<-g,<-j];clear g j;refine d.l _ _ (by have i:=x.x.row.y 3;rwa [<-f.l]at i) (λcL=>?_)
    try simp only[J]
    refine OY 7 rfl (λl d=>?_);refine LC ρ _ _ γ (KX R a n c (B+1) 6 _ x.rd ω) ?_;rintro e s ⟨⟨t',rfl,cV,cW⟩,j,g⟩;refine⟨_,rfl,?_⟩;have E:=x.pick j g;have I:=I.I g (λe=>by injection e with e;omega);obtain⟨t,rfl⟩:∃k:Nat,t'=(k:Int):=⟨t'.toNat,ω⟩;have t6:t<6:=ω
    have cY:(t:Int)<6:=ω
    clear j g
    obtain⟨z,hz,bG⟩:∃z:Int,[Value.int .i64 0,.int .i64 64,.int .i64 64,.int .i64 (1+u),.int .i64 (-1),.int .i64 65][t]?=some (.int .i64 z)/\True:=by rcases t with _|_|_|_|_|_|t<;>first|exact⟨_,rfl,trivial⟩|omega
    have cX:=I.cell t _ hz;refine d.l _ _ (by have i:=E.x.row.y 3;rwa [<-f.l]at i) (λaR=>?_)
    try simp only[J]
    refine MZ 8 (.pointer (some ⟨X,(t:Nat),none⟩)) rfl aR ?_;simp only[J];refine OY 9 rfl (λl d=>?_);go_simp;refine d.l _ _ aR (λ_=>?_)
    try simp only[J]
    refine OY 10 rfl (λl d=>?_);go_simp;have j:=E.z (LB s (.cells #[.int .i64 z] 3));refine d.l _ _ (by have i:=j.x.row.y 3;rwa [<-f.l]at i) (λcO=>?_)
    try simp only[J]
    refine OY 11 rfl (λl d=>?_);have bV:=j.x.s.lt;refine QM _ ρ _ _ _ ρ w.heap.size underlying41 HI.l rfl ω (.slice L r.length M) r.length _ ρ j.x.s.own ⟨s.heap.size,0,none⟩ 1 1 [.int .i64 z] ρ rfl (World.news_of_block (AW s _)) (oV _) (by simp;simp at bV;omega) (s.heap.size+1) σ ?_;intro g cap cZ S F T aV;have U:=j.fate (H:=s.heap.size+1) S F T σ;have o:=j.x.row.I F (λe=>j.x.xo e.symm);rw[<-f.l]at U o;clear S F T;refine d.l _ _ (o.y 3) (λT=>?_)
    try simp only[J]
    refine MZ 12 (.pointer (some ⟨Q,3,none⟩)) rfl T ?_;simp only[J];refine RZ (rs:=[13]) κ σ ?_;refine AllReadyT.last rfl (λl d=>?_);have F:=o.y 3;have S:=o.E 3;have k2:=o.lt;go_simp;refine d.l _ _ trivial (λ_=>?_)
    try simp only[J]
    refine XH κ ?_ _;go_wp2;exact⟨⟨m-1,B+1+1,_,r++[z],_,rfl,rfl,ω,ω,by rw[AE];simp;omega,ω,ω,U⟩,by simp[intOf];omega⟩
   refine LC ρ _ _ γ (KX R a n c (B+1) 6 _ O.rd ω) ?_
   rintro e s ⟨⟨t',rfl,cV,cW⟩,j,g⟩;refine⟨_,rfl,?_⟩;have E:=O.pick j g;obtain⟨t,rfl⟩:∃k:Nat,t'=(k:Int):=⟨t'.toNat,ω⟩;have t6:t<6:=ω
   have cY:(t:Int)<6:=ω
   clear j g;refine d.l _ _ (by have i:=E.x.row.y 3;rwa [<-f.l]at i) (λcP=>?_)
   try simp only[J]
   refine OY 5 rfl (λl d=>?_);go_simp;have x:=E.z (LB s (.cells #[.int .i64 0,.int .i64 64,.int .i64 64,.int .i64 (1+u),.int .i64 (-1),.int .i64 65] 3));have I:=LU s #[.int .i64 0,.int .i64 64,.int .i64 64,.int .i64 (1+u),.int .i64 (-1),.int .i64 65] 3;have xl:=E.x.s.lR;have x0:=E.lt;obtain⟨X,j⟩:∃z,z=s.heap.size:=⟨_,rfl⟩;obtain⟨P,g⟩:∃z,z=s.alloc (.cells #[.int .i64 0,.int .i64 64,.int .i64 64,.int .i64 (1+u),.int .i64 (-1),.int .i64 65] 3):=⟨_,rfl⟩;have cQ:R<X:=ω
   rw[<-j,<-g]at I;rw[<-g]at x;rw[<-g,<-j];clear g j
   obtain⟨z,hz,bG⟩:∃z:Int,[Value.int .i64 0,.int .i64 64,.int .i64 64,.int .i64 (1+u),.int .i64 (-1),.int .i64 65][t]?=some (.int .i64 z)/\True:=by rcases t with _|_|_|_|_|_|t<;>first|exact⟨_,rfl,trivial⟩|omega
   have cX:=I.cell t _ hz;refine d.l _ _ (by have i:=x.x.row.y 3;rwa [<-f.l]at i) (λaS=>?_)
   try simp only[J]
   refine MZ 8 (.pointer (some ⟨X,(t:Nat),none⟩)) rfl aS ?_;simp only[J];refine OY 9 rfl (λl d=>?_);go_simp;refine d.l _ _ aS (λ_=>?_)
   try simp only[J]
   refine OY 10 rfl (λl d=>?_);go_simp;have j:=x.z (LB P (.cells #[.int .i64 z] 3));refine d.l _ _ (by have i:=j.x.row.y 3;rwa [<-f.l]at i) (λbZ=>?_)
   try simp only[J]
   refine OY 11 rfl (λl d=>?_);have bV:=j.x.s.lt;refine QM _ ρ _ _ _ ρ w.heap.size underlying41 HI.l rfl ω (.slice L r.length M) r.length _ ρ j.x.s.own ⟨P.heap.size,0,none⟩ 1 1 [.int .i64 z] ρ rfl (World.news_of_block (AW P _)) (oV _) (by simp;simp at bV;omega) (P.heap.size+1) σ ?_;intro g cap cZ S F T aV;have U:=j.fate (H:=P.heap.size+1) S F T σ;have o:=j.x.row.I F (λe=>j.x.xo e.symm);rw[<-f.l]at U o;clear S F T;refine d.l _ _ (o.y 3) (λT=>?_)
   try simp only[J]
   refine MZ 12 (.pointer (some ⟨Q,3,none⟩)) rfl T ?_;simp only[J];refine RZ (rs:=[13]) κ σ ?_;refine AllReadyT.last rfl (λl d=>?_);have F:=o.y 3;have S:=o.E 3;have k2:=o.lt;go_simp;refine d.l _ _ trivial (λ_=>?_)
   try simp only[J]
   refine XH κ ?_ _;go_wp2;exact⟨⟨m-1,B+1+1,_,r++[z],_,rfl,rfl,ω,ω,by rw[AE];simp;omega,ω,ω,U⟩,by simp[intOf];omega⟩
  have U:¬0<m:=hm
  obtain⟨g,i,j,l⟩:=D.x.row.k4;have o:=D.x.row.lt;rw[<-f.l]at g i j l o;obtain⟨n0,n1,n2,n3⟩:=D.rb.k4;obtain⟨eJ,eK,eL,eM⟩:=D.rb.z4;have nl:=D.rb.lt;have X:w.heap.size≠Q:=by rw[f.l];omega
  go_wp2;obtain⟨t,d⟩:∃W,W=(((wr.setCell ⟨w.heap.size,0,none⟩ (.int .i64 K)).setCell ⟨w.heap.size,1,none⟩ (.slice G b.length H)).setCell ⟨w.heap.size,2,none⟩ (.int .i64 C)).setCell ⟨w.heap.size,3,none⟩ (.slice L r.length M):=⟨_,rfl⟩;obtain⟨O,u,E,I,F⟩:=D.fin rfl t d;rw[<-d];clear d;obtain⟨d,P,S,T⟩:=O.k4;refine AI (v:=NH ⟨K,b,C,r⟩ G H L M) (by simp[results,results89,go_sem,NH,d,P,S,T]) rfl ⟨⟨⟨K,b,C,r⟩,G,H,L,M,rfl,⟨⟨by have:=bW.l.1;show b.length<=1048576;omega,λx s=>by have:=bW.l.2 x s;omega⟩,by show r.length<=1048576;omega⟩,u,E⟩,⟨B,ω,ω,I⟩,F⟩
