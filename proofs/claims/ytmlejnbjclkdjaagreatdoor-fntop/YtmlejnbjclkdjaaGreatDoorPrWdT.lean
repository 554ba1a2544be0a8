import Derived.Test.YtmlejnbjclkdjaaGreatDoorPrWdV
import Derived.Test.YtmlejnbjclkdjaaGreatDoorPrG34
set_option maxHeartbeats 32000000
namespace Go.Proofs.YtmlejnbjclkdjaaGreatDoor
open Tryz
open Go.RowKit nw
set_option maxRecDepth 8000
set_option linter.all false
def zF(r:Ending):Prop:=∃(x:Wo) (q:Wp) (N:Nat),r=M3 (MB x q)/\x.good N/\(8<=N/\N<=40)/\(1<=x.w/\x.w<=8)
structure RcS(w wx:Nb)(R:Nat)(a:M6)(n c:Nat)(p:Int):Prop where
 rd:Rdr wx R a n c p
 gr:w.grownBy wx (some R)
 lR:R<w.heap.size
 ga:∀g o,a=Mw g o->0<n->g<w.heap.size
 r2:Row wx w.heap.size [.int .i64 0,.slice none 0 0,.slice none 0 0,M0 false,.int .i64 0,.int .i64 0,.int .i64 0,.int .i64 0,.int .i64 0,.int .i64 0,.int .i64 0,.int .i64 0,.int .i64 0,.slice none 0 0,.slice none 0 0,.slice none 0 0]
section
variable {w wx wy:Nb} {R:Nat} {a:M6} {n c:Nat} {p p':Int}
theorem RcS.I(h:RcS w wx R a n c p)(b:Below wx.heap.size wx wy):RcS w wy R a n c p :=⟨h.rd.I b,QG h.gr (UA _ b),h.lR,h.ga,h.r2.I b⟩
theorem RcS.pick(h:RcS w wx R a n c p)(d:Rdr wy R a n c p')(b:wx.grownBy wy (some R)):RcS w wy R a n c p':=by
 have f:=h.lR;exact⟨d,QG h.gr b,h.lR,h.ga,h.r2.J b (λe=>by injection e with e;omega)⟩
theorem FgS.rc{B:Nat}{x:Wo}{q:Wp}(h:FgS w wx R a n c p B x q):RcS w wx R a n c p:=⟨h.rd,h.gr,h.lR,h.ga,h.r2⟩
theorem RcS.fin3(h:RcS w wx R a n c p)(b:List Nc)(j:b.length=16):Row (wx.setCells w.heap.size 0 b) w.heap.size b/\Rdr (wx.setCells w.heap.size 0 b) R a n c p/\w.grownBy (wx.setCells w.heap.size 0 b) (some R):=by
 have G:=LG wx w.heap.size 0 b;have d:Below w.heap.size wx (wx.setCells w.heap.size 0 b):=NR G h.gr.size (λg e=>by cases e;exact AA _);have e:=h.gr;exact⟨h.r2.sets b j,h.rd.keep (N:=w.heap.size) h.lR h.ga d,⟨d.os.j e.os,d.tape.j e.tape,d.output.j e.output,AK e.size d.size,λi f g=>(d.block i f).j (e.block i f g)⟩⟩
end
def zV(w:Nb)(R:Nat)(a:M6)(n c:Nat)(p:Int)(B N:Nat)(d:Nc)(wr:Nb):Prop:=∃(m:Nat) (b:Int) (x:Wo) (q:Wp),d=.int .i64 (m:Int)/\m<=30/\p<=b/\b<=p+4+700*(30-m)/\x.good N/\(1<=x.w/\x.w<=8)/\FgS w wr R a n c b B x q
theorem Hz(R:Nat)(a:M6)(n c:Nat)(p:Int)(w:Nb)(h:Rdr w R a n c p)(hp:p<99950000):Calls prog 51 #[Mv R 0] w λr C=>zF r/\dr w R a n c p 21010 C:=by
 have p0:=h.p0;go_enter func51,ntmps51;go_wp2_with fail;generalize b:w.alloc _=v1;obtain⟨d,f,e⟩:=LY b;clear b;have b:RcS w v1 R a n c p:=⟨h.I d,UA _ d,h.lts.1,h.lts.2,e.q⟩;have i:w.heap.size+1<=v1.heap.size:=ω
 clear d e f h;refine(PZ R a n c p 16 _ b.rd ω).z ?_;rintro e v2 ⟨⟨t,rfl,D,E⟩,g,f⟩;have G:w.heap.size+1<=v2.heap.size:=AK i f.size;have k:=b.pick g f;clear b g f i
 by_cases z:t=0
 ·subst z
  go_wp2_with fail;refine(Bl R a n c (p+1) _ k.rd ω).z ?_;rintro e P ⟨⟨x,q,N,rfl,d,U,l,i⟩,⟨O,q0,q1,g⟩,f⟩;have j:=k.pick g f;have A:=f.size;have r:=Z d;have J:=Z l;clear g f k d l;have b:=Z (iw x q P i.at r.l.ok);clear i;unfold MB at b⊢;go_wp2_with fail;refine b.l.z ?_;rintro e X ⟨f,i,rfl,-,-,d⟩;have g:=j.I d;clear d j b;unfold MB
  try simp only[PS]
  refine‹∀(a:Act) (w:Nb),wpList _ _ _ _ a w->_› _ _ ?_
  refine BI rfl 36 _ _ rfl (w.heap.size) 0 (wA x f) rfl rfl (g.r2.there rfl) MO κ ?_
  try simp only[PS]
  obtain⟨j,d,b⟩:=g.fin3 (wL x f) rfl;generalize o:X.setCells _ _ _=v at j d b⊢;clear o;go_wp2;exact LV 2 36 results51 _ rfl (wL x f) _ j underlying36 rfl MO rfl ⟨⟨x,f,N,rfl,r.l,U,J.l⟩,⟨O,ω,ω,d⟩,b⟩
 go_wp2_with fail
 refine(Bb R a n c (p+1) _ k.rd ω).z ?_;rintro e P ⟨⟨m,wd,q,hm,y,rfl,i⟩,⟨O,q0,q1,g⟩,f⟩;have j:=k.pick g f;have A:=f.size;clear k g f;unfold MB;go_upto_region 4 with fail;generalize b:P.alloc _=X;obtain⟨d,F,l⟩:=LY b;clear b;replace i:=(i.z (G:=λb=>w.heap.size+1<=b/\b≠P.heap.size) (λb f k=>ω)).I d;obtain⟨B,r⟩:∃B,B=P.heap.size:=⟨_,rfl⟩;rw[<-r]at l i⊢;obtain⟨N,v⟩:∃N:Nat,N=m.toNat:=⟨_,rfl⟩;have U:8<=N/\N<=40:=ω
 obtain⟨Q,g⟩:∃x,Hid (x=LN m wd):=⟨_,Z rfl⟩;rw[<-g.l]at l i⊢;have f:=j.I d;have o:FgS w X R a n c O B Q q:=⟨f.rd,f.gr,f.lR,f.ga,f.r2,l.q,ω,i⟩;have s:Hid (Q.good N):=by show Wo.good _ _;rw[g.l,v];exact wn ω
 have u:Hid (1<=Q.w/\Q.w<=8):=by show _/\_;rw[g.l];exact y
 clear d l i f j F r A G v g hm y z D E;generalize Value.agg _=A0;go_wp2_with fail;refine(PZ R a n c O 30 _ o.rd ω).z ?_;rintro e v5 ⟨⟨k',rfl,k0,k1⟩,g,f⟩;obtain⟨k,rfl⟩:∃k:Nat,k'=(k:Int):=⟨k'.toNat,ω⟩;have i:=o.pick g f;clear o g f;go_wp2_with fail;go_loopw [4] (λd wr=>zV w R a n c p B N d wr) (λd _=>(intOf d).toNat)
 case atStart=>exact⟨k,O+1,Q,q,rfl,ω,ω,ω,s.l,u.l,i⟩
 case round =>
  obtain⟨m,I,x,q,rfl,hm,bQ,bR,d,l,K⟩:=hrel;have r:=Z d;have J:=Z l;clear i s u d l
  by_cases bJ:0<m
  ·have aQ:(0:Int)<(m:Int):=ω
   go_upto_region 7 with fail;refine AN (S:=λC=>True) κ (trivial) (λj=>?_);refine TY 1 (Mv R 0) rfl j (TY 2 (Mv B 3) rfl j ?_);simp only[PS];refine EF (rs:=[0,3]) κ σ ?_;refine BK rfl (λs d=>?_) (BK rfl (λs d=>?_) DX)
   ·obtain⟨yb,f⟩:∃y,y=wr.drew:=⟨_,rfl⟩
    rw[<-f];have o:FgS w yb R a n c I B x q:=by rw[f];exact K.I (AB _ _).drew
    clear f;refine MY ρ 36 _ ρ B 0 ρ (wL x q) _ o.r3.range underlying36 rfl MO ?_;refine d.l _ _ j (λ_=>?_)
    try simp only[PS]
    refine RD 3 rfl (λs d=>?_);have f:=o.r3.y 3;have g:=o.r3.lt;go_simp;clear f g;refine d.l _ _ j (λ_=>?_)
    try simp only[PS]
    refine RD 4 rfl (λs d=>?_);refine LW ρ _ _ γ (oy R a n c I x.up _ o.rd ω) ?_;rintro e S ⟨⟨i,E,F,G,H,rfl,L,z,hF⟩,⟨M,bC,bE,g⟩,f⟩;refine⟨_,rfl,?_⟩;have l:=o.pick g f;have z:=z.q;have hF:=hF.q;clear g f;unfold OD;refine d.l _ _ j (λ_=>?_)
    try simp only[PS]
    refine RD 5 rfl (λs d=>?_);obtain⟨y,f⟩:∃y,Hid (y=x.doE i):=⟨_,Z rfl⟩;have g:=ew x q i E F G H _ S l.wo r.l.ok z hF L;rw[<-f.l]at g;refine LW ρ 34 #[.agg (wA x q),.agg #[.int .i64 i.K,.slice E i.b.length F,.int .i64 i.cut,.slice G i.fs.length H]] γ g ?_;rintro e T ⟨u,rfl,v,D⟩;refine⟨_,rfl,?_⟩;have V:=l.r3.lt;have W:=l.lB;have C:=v.z (G:=λb=>w.heap.size+1<=b/\b≠B) (λb _ k=>by rcases k with k|k;exact k;omega);have A:=l.I D;clear g v D;unfold MB;refine d.l _ _ j (λ_=>?_)
    try simp only[PS]
    refine RD 6 rfl (λs d=>?_);refine LH ρ 36 _ _ ρ B 0 (wA y u) ρ ρ (A.r3.there rfl) MO κ ?_;refine d.l _ _ j (λ_=>?_)
    try simp only[PS]
    refine DN ?_;have g:=A.put C;generalize v:T.setCells _ _ _=D at g⊢;clear v;go_wp2_with fail;go_roundw
    case rel=>exact⟨m-1,M,y,u,by first|go_num|(congr 1;omega),ω,ω,ω,by rw[f.l];exact r.l.doE _,by rw[f.l,cd];exact J.l,g⟩
    case measure=>simp[intOf];omega
   obtain⟨yb,f⟩:∃y,y=wr.drew:=⟨_,rfl⟩
   rw[<-f];have o:FgS w yb R a n c I B x q:=by rw[f];exact K.I (AB _ _).drew
   clear f;have f:=o.r3.y 3;have g:=o.r3.lt;go_simp;clear f g;refine d.l _ _ j (λ_=>?_)
   try simp only[PS]
   refine EF (rs:=[0,4]) κ σ ?_;refine BK rfl (λs d=>?_) (BK rfl (λs d=>?_) DX)
   ·refine MY ρ 36 _ ρ B 0 ρ (wL x q) _ o.r3.range underlying36 rfl MO ?_
    refine d.l _ _ j (λ_=>?_)
    try simp only[PS]
    refine RD 4 rfl (λs d=>?_);refine LW ρ _ _ γ (oy R a n c I x.up _ o.rd ω) ?_;rintro e S ⟨⟨i,E,F,G,H,rfl,L,z,hF⟩,⟨M,bC,bE,g⟩,f⟩;refine⟨_,rfl,?_⟩;have l:=o.pick g f;have z:=z.q;have hF:=hF.q;clear g f;unfold OD;refine d.l _ _ j (λ_=>?_)
    try simp only[PS]
    refine RD 5 rfl (λs d=>?_);obtain⟨y,f⟩:∃y,Hid (y=x.doE i):=⟨_,Z rfl⟩;have g:=ew x q i E F G H _ S l.wo r.l.ok z hF L;rw[<-f.l]at g;refine LW ρ 34 #[.agg (wA x q),.agg #[.int .i64 i.K,.slice E i.b.length F,.int .i64 i.cut,.slice G i.fs.length H]] γ g ?_;rintro e T ⟨u,rfl,v,D⟩;refine⟨_,rfl,?_⟩;have V:=l.r3.lt;have W:=l.lB;have C:=v.z (G:=λb=>w.heap.size+1<=b/\b≠B) (λb _ k=>by rcases k with k|k;exact k;omega);have A:=l.I D;clear g v D;unfold MB;refine d.l _ _ j (λ_=>?_)
    try simp only[PS]
    refine RD 6 rfl (λs d=>?_);refine LH ρ 36 _ _ ρ B 0 (wA y u) ρ ρ (A.r3.there rfl) MO κ ?_;refine d.l _ _ j (λ_=>?_)
    try simp only[PS]
    refine DN ?_;have g:=A.put C;generalize v:T.setCells _ _ _=D at g⊢;clear v;go_wp2_with fail;go_roundw
    case rel=>exact⟨m-1,M,y,u,by first|go_num|(congr 1;omega),ω,ω,ω,by rw[f.l];exact r.l.doE _,by rw[f.l,cd];exact J.l,g⟩
    case measure=>simp[intOf];omega
   refine LW ρ _ _ γ (oy R a n c I x.up _ o.rd ω) ?_
   rintro e S ⟨⟨i,E,F,G,H,rfl,L,z,hF⟩,⟨M,bC,bE,g⟩,f⟩;refine⟨_,rfl,?_⟩;have l:=o.pick g f;have z:=z.q;have hF:=hF.q;clear g f;unfold OD;refine d.l _ _ j (λ_=>?_)
   try simp only[PS]
   refine RD 0 rfl (λs d=>?_);refine MY ρ 36 _ ρ B 0 ρ (wL x q) _ l.r3.range underlying36 rfl MO ?_;refine d.l _ _ j (λ_=>?_)
   try simp only[PS]
   refine RD 5 rfl (λs d=>?_);obtain⟨y,f⟩:∃y,Hid (y=x.doE i):=⟨_,Z rfl⟩;have g:=ew x q i E F G H _ S l.wo r.l.ok z hF L;rw[<-f.l]at g;refine LW ρ 34 #[.agg (wA x q),.agg #[.int .i64 i.K,.slice E i.b.length F,.int .i64 i.cut,.slice G i.fs.length H]] γ g ?_;rintro e T ⟨u,rfl,v,D⟩;refine⟨_,rfl,?_⟩;have V:=l.r3.lt;have W:=l.lB;have C:=v.z (G:=λb=>w.heap.size+1<=b/\b≠B) (λb _ k=>by rcases k with k|k;exact k;omega);have A:=l.I D;clear g v D;unfold MB;refine d.l _ _ j (λ_=>?_)
   try simp only[PS]
   refine RD 6 rfl (λs d=>?_);refine LH ρ 36 _ _ ρ B 0 (wA y u) ρ ρ (A.r3.there rfl) MO κ ?_;refine d.l _ _ j (λ_=>?_)
   try simp only[PS]
   refine DN ?_;have g:=A.put C;generalize v:T.setCells _ _ _=D at g⊢;clear v;go_wp2_with fail;go_roundw
   case rel=>exact⟨m-1,M,y,u,by first|go_num|(congr 1;omega),ω,ω,ω,by rw[f.l];exact r.l.doE _,by rw[f.l,cd];exact J.l,g⟩
   case measure=>simp[intOf];omega
  have aQ:¬(0:Int)<(m:Int):=ω
  go_wp2_with fail;refine(PZ R a n c I 4 _ K.rd ω).z ?_;rintro e A ⟨⟨t,rfl,D,E⟩,g,f⟩;have i:=K.pick g f;clear K g f
  by_cases K:0<t
  ·go_upto_region 9 with fail
   refine BE ?_;refine AS rfl 36 _ rfl (B) 0 rfl (wL x q) _ i.r3.range underlying36 rfl MO ?_;simp only[PS];obtain⟨y,f⟩:∃y,Hid (y=x.doE YU):=⟨_,Z rfl⟩;have g:=sF x q _ A i.wo r.l.ok;rw[<-f.l]at g;have j:=Z g;clear g;unfold MB at j;go_wp2_with fail;refine j.l.z ?_;rintro e G ⟨u,rfl,v,d⟩;have g:=i.I d;have V:=i.r3.lt;have W:=i.lB;have C:=v.z (G:=λb=>w.heap.size+1<=b/\b≠B) (λb _ k=>by rcases k with k|k;exact k;omega);have z:Hid (y.good N):=by show Wo.good _ _;rw[f.l];exact r.l.doE _
   have F:Hid (1<=y.w/\y.w<=8):=by show _/\_;rw[f.l,cd];exact J.l
   clear i d v j;unfold MB
   try simp only[PS]
   refine‹∀(a:Act) (w:Nb),wpList _ _ _ _ a w->_› _ _ ?_
   refine BI rfl 36 _ _ rfl (B) 0 (wA y u) rfl rfl (g.r3.there rfl) MO κ ?_
   try simp only[PS]
   have j:=g.put C;generalize b:G.setCells _ _ _=H at j⊢;clear b g C;go_upto_region 10 with fail;refine BE ?_;refine AS rfl 36 _ rfl (B) 0 rfl (wL y u) _ j.r3.range underlying36 rfl MO ?_;simp only[PS];have b:=Z (iw y u H j.wo.at z.l.ok);unfold MB at b;go_wp2_with fail;refine b.l.z ?_;rintro e s ⟨g,C,rfl,-,-,d⟩;have l:=j.rc.I d;clear d b j;unfold MB
   try simp only[PS]
   refine‹∀(a:Act) (w:Nb),wpList _ _ _ _ a w->_› _ _ ?_
   refine BI rfl 36 _ _ rfl (w.heap.size) 0 (wA y g) rfl rfl (l.r2.there rfl) MO κ ?_
   try simp only[PS]
   obtain⟨j,d,b⟩:=l.fin3 (wL y g) rfl;generalize o:s.setCells _ _ _=v at j d b⊢;clear o;go_wp2;exact LV 2 36 results51 _ rfl (wL y g) _ j underlying36 rfl MO rfl ⟨⟨y,g,N,rfl,z.l,U,F.l⟩,⟨I+1,ω,ω,d⟩,b⟩
  go_upto_region 10 with fail
  refine BE ?_;refine AS rfl 36 _ rfl (B) 0 rfl (wL x q) _ i.r3.range underlying36 rfl MO ?_;simp only[PS];have b:=Z (iw x q A i.wo.at r.l.ok);unfold MB at b;go_wp2_with fail;refine b.l.z ?_;rintro e s ⟨g,C,rfl,-,-,d⟩;have l:=i.rc.I d;clear d b i;unfold MB
  try simp only[PS]
  refine‹∀(a:Act) (w:Nb),wpList _ _ _ _ a w->_› _ _ ?_
  refine BI rfl 36 _ _ rfl (w.heap.size) 0 (wA x g) rfl rfl (l.r2.there rfl) MO κ ?_
  try simp only[PS]
  obtain⟨j,d,b⟩:=l.fin3 (wL x g) rfl;generalize o:s.setCells _ _ _=v at j d b⊢;clear o;go_wp2;exact LV 2 36 results51 _ rfl (wL x g) _ j underlying36 rfl MO rfl ⟨⟨x,g,N,rfl,r.l,U,J.l⟩,⟨I+1,ω,ω,d⟩,b⟩
