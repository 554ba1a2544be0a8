import Derived.Test.YtkdedmclofhndaaGreatDoorPrG31
import Derived.Test.YtkdedmclofhndaaGreatDoorPrG28
import Derived.Deep.AppendSrc
import Derived.Test.YtkdedmclofhndaaGreatDoorPrCutI
set_option maxHeartbeats 16000000
set_option maxRecDepth 8000
set_option linter.all false
namespace Go.Proofs.YtkdedmclofhndaaGreatDoor
open _root_.ByteArray(empty)
open Tryz
open Go.RowKit
variable {cs:List qD}{c e:Nat}{a b:xA}{P:Program}{w w':xV}
theorem kj(w:xV)(A:Array qD)(t:TypeId)(g:Nat)(d:g=w.heap.size):Row (w.alloc (.cells A t)) g A.toList:=by subst d;exact LS w A t
structure Wo where
 w:Int
 ss:List yZ
 ws:List (Int×yZ)
 up:Bool
 W:Int
 S:Int
 L:Int
 T:Int
 H:Int
 F:Int
 R:Int
 U:Int
 O:Int
 rs:List (yZ×yZ)
 P:List (List (yZ×yZ))
 ts:List yZ
structure Wp where
 a:xA
 c:Nat
 a':xA
 c':Nat
 s:xA
 cs:Nat
 p:xA
 cp:Nat
 t:xA
 ct:Nat
def LT(x:Wo)(q:Wp):qD:=.agg #[Z x.w,yI q.a x.ss.length q.c,yI q.a' x.ws.length q.c',yR x.up,Z x.W,Z x.S,Z x.L,Z x.T,Z x.H,Z x.F,Z x.R,Z x.U,Z x.O,yI q.s x.rs.length q.cs,yI q.p x.P.length q.cp,yI q.t x.ts.length q.ct]
structure Wo.at(x:Wo)(w:xV)(q:Wp):Prop where
 h1:Strs w q.a x.ss
 h2:Wrs w q.a' x.ws
 h3:Prs w q.s x.rs
 h4:Pst w q.p x.P
 h5:Strs w q.t x.ts
theorem Wo.at.I{x:Wo}{q:Wp}(h:x.at w q)(d:yX w w'):x.at w' q:=⟨h.h1.I d,h.h2.I d,h.h3.I d,h.h4.I d,h.h5.I d⟩
structure Wo.le(x:Wo)(m:Nat):Prop where
 l1:x.ss.length<=m
 s1:∀s∈x.ss,s.size<=m
 l2:x.ws.length<=m
 s2:∀s∈x.ws,s.2.size<=m
 l3:x.rs.length<=m
 s3:∀s∈x.rs,s.1.size<=m/\s.2.size<=m
 l4:x.P.length<=m
 s4:∀rs∈x.P,rs.length<=m/\∀s∈rs,s.1.size<=m/\s.2.size<=m
 l5:x.ts.length<=m
 s5:∀s∈x.ts,s.size<=m
@[reducible] def wA(x:Wo)(q:Wp):Array qD:=#[Z x.w,yI q.a x.ss.length q.c,yI q.a' x.ws.length q.c',yR x.up,Z x.W,Z x.S,Z x.L,Z x.T,Z x.H,Z x.F,Z x.R,Z x.U,Z x.O,yI q.s x.rs.length q.cs,yI q.p x.P.length q.cp,yI q.t x.ts.length q.ct]
@[reducible] def wL(x:Wo)(q:Wp):List qD:=[Z x.w,yI q.a x.ss.length q.c,yI q.a' x.ws.length q.c',yR x.up,Z x.W,Z x.S,Z x.L,Z x.T,Z x.H,Z x.F,Z x.R,Z x.U,Z x.O,yI q.s x.rs.length q.cs,yI q.p x.P.length q.cp,yI q.t x.ts.length q.ct]
def QC(x:Wo):Bool:=decide (x.W=0/\x.S=0/\x.L=0/\(x.T=0/\x.H=0/\x.F=0/\x.R=0)/\x.U=0/\x.O=0/\x.rs.length=0)
def OW(x:Wo):Bool:=if x.up=true then NX x.W x.S x.L x.T x.H x.F x.R x.U x.O x.rs && decide (x.W=x.w/\x.S=(x.ss.length:Int)) else QC x
def PW(P:List (List (yZ×yZ))):Bool:=decide (1<=P.length/\P.length<=200) && P.all LX
def QP(d:List yZ):Bool:=decide (d.length<=2000) && d.all λs=>decide (s.size=64)
def LW(x:Wo):Bool:=decide (1<=x.w/\x.w<=8) && (LO x.ss x.ws && (OW x && (PW x.P && QP x.ts)))
theorem Bv(a:xA)(P:List (List (yZ×yZ)))(c:Nat)(w:xV)(h:Pst w a P)(H:P.length<=1048576)(y:∀d∈P,d.length<=1048576/\∀s∈d,s.1.size<=1048576/\s.2.size<=1048576):Calls prog 103 #[yI a P.length c] w λe w'=>e=yT (yR (PW P))/\yX w w':=by
 by_cases i:P.length<1
 ·have e:PW P=false:=by unfold PW;rw[AH ω];rfl
  rw[e];have A:(P.length:Int)<1:=ω
  go_enter func103,ntmps103;go_wp2;go_ret;exact⟨rfl,AB _ _⟩
 have A:¬(P.length:Int)<1:=ω
 by_cases j:200<P.length
 ·have e:PW P=false:=by unfold PW;rw[AH ω];rfl
  rw[e];have C:(200:Int)<(P.length:Int):=ω
  go_enter func103,ntmps103;go_wp2;go_ret;exact⟨rfl,AB _ _⟩
 have C:¬(200:Int)<(P.length:Int):=ω
 have t:Hid (∀k,k<P.length->LX (P.getD k [])=false->PW P=false):=λk f g=>by
  unfold PW;have:P.all LX=false:=FK.2 ⟨P.getD k [],by simp[List.getD,f],by rw[g];simp⟩;rw[this,IH]
 have v:Hid ((∀k,k<P.length->LX (P.getD k [])=true)->PW P=true):=λg=>by
  unfold PW;rw[AM ω,GK]
  refine DH.2 λd l=>?_
  obtain⟨k,f,rfl⟩:=EL l;have:=g k f;simpa[List.getD,f] using this
 obtain⟨B,z⟩:∃B,Hid (B=PW P):=⟨_,Y rfl⟩;rw[<-z.j]at t v⊢;clear i j;go_enter func103,ntmps103;go_wp2;go_loopw [4,15] (λ_ i wr=>∃k:Nat,k<=P.length/\i=Z (k:Int)/\Hid (∀j,j<k->LX (P.getD j [])=true)/\yX w wr) (λ_ i _=>P.length-(intOf i).toNat)
 case atStart=>exact⟨0,AL _,rfl,λj r=>absurd r ω,AB _ _⟩
 case round =>
  obtain⟨k,f,rfl,s,i⟩:=hrel
  by_cases q:k<P.length
  ·obtain⟨b,o,p,E,rfl,G,D,u⟩:=(h.I i).at q
   obtain⟨d,m⟩:∃d,Hid (d=P.getD k []):=⟨_,Y rfl⟩;rw[<-m.j]at D u;have x:d∈P:=by rw[m.j];simp[List.getD,q]
   have g:=Y (λl=>ei p d E (wr.alloc l) (u.j.I (Oq _ _)) (y d x).1 (y d x).2);have l:=Y i;clear i
   cases hst:LX d with
   | false =>
    rw[hst]at g;obtain rfl:B=false:=t.j k q (by rw[<-m.j];exact hst);go_wp2_with (go_at_call 114;refine(g.j _).J ?_;rintro e F ⟨rfl,n⟩);go_ret;exact⟨rfl,l.j.E (((Oq wr _).E (n.J σ)).J l.j.size)⟩
   | true =>
    rw[hst]at g;go_wp2_with (go_at_call 114;refine(g.j _).J ?_;rintro e F ⟨rfl,n⟩);go_roundw
    case rel=>exact⟨k+1,ω,ν,λj r=>by
     by_cases e:j=k
     ·subst e;rw[<-m.j];exact hst
     exact s.j j ω,l.j.E (((Oq wr _).E (n.J σ)).J l.j.size)⟩
    case measure=>simp[intOf];omega
  obtain rfl:B=true:=v.j (λj r=>s.j j ω)
  go_wp2;go_ret;exact⟨rfl,i⟩
theorem Hg(a:xA)(d:List yZ)(c:Nat)(w:xV)(h:Strs w a d)(z:d.length<=1048576)(v:∀s∈d,s.size<=1048576):Calls prog 104 #[yI a d.length c] w λe w'=>e=yT (yR (QP d))/\yX w w':=by
 by_cases i:2000<d.length
 ·have e:QP d=false:=by unfold QP;rw[AH ω];rfl
  rw[e];have u:(2000:Int)<(d.length:Int):=ω
  go_enter func104,ntmps104;go_wp2;go_ret;exact⟨rfl,AB _ _⟩
 have u:¬(2000:Int)<(d.length:Int):=ω
 have n:Hid (∀k,k<d.length->¬(d.getD k empty).size=64->QP d=false):=λk f g=>by
  unfold QP;have:(d.all λs=>decide (s.size=64))=false:=FK.2 ⟨d.getD k empty,by simp[List.getD,f],by simpa using g⟩;rw[this,IH]
 have p:Hid ((∀k,k<d.length->(d.getD k empty).size=64)->QP d=true):=λg=>by
  unfold QP;rw[AM ω,GK]
  refine DH.2 λs j=>?_
  obtain⟨k,f,rfl⟩:=EL j;have:=g k f;simpa[List.getD,f] using this
 obtain⟨B,r⟩:∃B,Hid (B=QP d):=⟨_,Y rfl⟩;rw[<-r.j]at n p⊢;clear i;go_enter func104,ntmps104;go_wp2;go_loopw [4,10] (λ_ i wr=>∃k:Nat,k<=d.length/\i=Z (k:Int)/\Hid (∀j,j<k->(d.getD j empty).size=64)/\wr=w) (λ_ i _=>d.length-(intOf i).toNat)
 case atStart=>exact⟨0,AL _,rfl,λj l=>absurd l ω,rfl⟩
 case round =>
  obtain⟨k,f,rfl,m,rfl⟩:=hrel
  by_cases i:k<d.length
  ·obtain⟨b,o,s,rfl,y,g⟩:=h.at i
   have x:=v s (by rw[g.j];simp[List.getD,i])
   by_cases q:s.size=64
   ·have t:(s.size:Int)=64:=ω
    go_wp2;go_roundw
    case rel=>exact⟨k+1,ω,ν,λj l=>by
     by_cases e:j=k
     ·subst e;rw[<-g.j];exact q
     exact m.j j ω,by first|rfl|trivial⟩
    case measure=>simp[intOf];omega
   have t:¬(s.size:Int)=64:=ω
   obtain rfl:B=false:=n.j k i (by rw[<-g.j];exact q);go_wp2;go_ret;exact⟨rfl,AB _ _⟩
  obtain rfl:B=true:=p.j (λj l=>m.j j ω)
  go_wp2;go_ret;exact⟨rfl,AB _ _⟩
theorem ed:(prog.info? 122).map (λi=>(i.zero,i.size,i.bytes))=some (some (.agg #[yQ empty,yQ empty]),2,32):=κ
theorem WE{e:TypeId}{z:qD}{d f:Nat}(h:(P.info? e).map (λi=>(i.zero,i.size,i.bytes))=some (some z,d,f)):∃i,P.info? e=some i/\i.zero=some z/\i.size=d/\i.bytes=f:=by
 obtain⟨i,j,g⟩:=DZ.1 h;simp only[EJ]at g;exact⟨i,j,g⟩
theorem oA(n:Nat)(h:0<n):Builtin.nextslicecap n 0=n:=by
 unfold Builtin.nextslicecap;simp;omega
theorem Mp(t o e:TypeId)(i:TypeInfo)(z:qD)(g q:Nat)(m:P.underlying t=some (.slice e))(l:P.info? e=some i)(E:i.zero=some z)(y:i.size=g)(C:i.bytes=q)
  (d:xA)(r:d=none\/∃b,d=zY b 0)(v:qD)(n:Nat)(f:List qD)(h:Src P g t v n f w)(F:n<=1048576)(B:n*q<=281474976710656):∃p j k,(Builtin.append_ #[t,t] o #[yI d 0 0,v]).run P w=.ok (yI p n j) k/\n<=j/\(n=0\/(p=zY w.heap.size 0/\Row k w.heap.size f))/\yX w k:=by
 subst y C
 by_cases D:n=0
 ·subst D
  have p:f=[]:=AD (by have:=h.newsLen;omega);subst p;rcases r with rfl|⟨b,rfl⟩
  ·refine⟨none,0,w,?_,AA _,.inl rfl,AB _ _⟩
   rcases h.kind with ⟨k,j⟩|j<;>simp[Builtin.append_,GG m,GG j,sizeOf,typeInfo,l,h.len,h.cells]
  have k:=run_append_room_src (P:=P) w t t o e i m l b 0 0 0 v 0 [] h ω σ σ
  exact⟨_,_,_,k,AA _,.inl rfl,AB _ _⟩
 have A:(Builtin.firstCells i.size 0 (yI d 0 0)).run P w.drew=.ok ([]:List qD).toArray w.drew:=by
  rcases r with rfl|⟨b,rfl⟩
  ·simp[Builtin.firstCells,IZ]
  exact GI w.drew i.size 0 _ 0 0 [] σ σ
 have k:=run_append_grow_src (P:=P) w t t o e i z m l E d 0 0 [] A v n f h ω ω (by rw[BK,oA n ω];exact B);refine⟨_,_,_,by rw[k,BK],?_,.inr ⟨rfl,?_⟩,(AB _ _).drew.alloc (AA _) _⟩
 ·have:=JL w (0+n) 0 e
  rw[BK]at this;exact this
 have s:=LS w.drew ((([]:List qD)++f).toArray++Builtin.zeroCells z.cells (grownCap w (0+n) 0 e-(0+n))) e;refine⟨σ,λj u x=>?_,λj p=>?_⟩
 ·have:=s.cell j u (by
   obtain⟨p,_⟩:=DI.1 x
   simp[BN p,x])
  simpa using this
 have:=s.froz j τ
 simpa using this
theorem yt{q:Array Oper}{p:List Oper}{o:Oper}{a:Act}{Q:Exit->Act->xV->Prop}(D:o.guard=none)(s x:Operand)(t:TypeId)
  (L:o.op=.call { callee:=.builtin .append,args:=#[s,x],argTypes:=#[t,t] })(e:TypeId)(i:TypeInfo)(z:qD)(g m:Nat)(N:P.underlying t=some (.slice e))(I:P.info? e=some i)(R:i.zero=some z)(u:i.size=g)(C:i.bytes=m)
  (d:xA)(M:a.eval s=yI d 0 0)(r:d=none\/∃b,d=zY b 0)(v:qD)(O:a.eval x=v)(n:Nat)(f:List qD)(A:Src P g t v n f w)(J:n<=1048576)(B:n*m<=281474976710656)
  (h:∀l j k,n<=j->(n=0\/(l=zY w.heap.size 0/\Row k w.heap.size f))->yX w k->wpList P q Q p (a.put o.dst (yI l n j)) k):wpList P q Q (o::p) a w:=by
 refine ID D λK H=>?_
 obtain⟨l,j,k,y,E,F,G⟩:=Mp (P:=P) (w:=w) t o.type e i z g m N I R u C d r v n f A J B;unfold Oper.wp;simp[execOp,L,resolve,invoke,builtin,M,O,y,Result.andThen];exact H _ _ (h l j k E F G)
theorem vF{d:List (yZ×yZ)}(h:Prs w a d)(t e:TypeId)(i:P.underlying t=some (.slice e))(c:Nat):Src P 2 t (yI a d.length c) d.length (LN d) w:=by
 rcases h with h|⟨b,o,rfl,p,l⟩
 ·subst h
  cases a with
  | none=>exact Src.ofNil w i c
  | some x=>exact Src.ofSlice w i x 0 c [] σ σ σ
 refine Src.ofSlice w i (yA b o) d.length c _ (WY d) (λj u f=>?_) (λu f=>?_)
 ·obtain⟨m,e⟩:=DI.1 f
  rw[WY]at m;have k:((yA b o):Addr).add j=(yA b (o+j)):=by unfold Addr.add;split<;>simp_all
  obtain⟨q,n⟩:∃q,j=q*2\/j=q*2+1:=⟨j / 2,ω⟩;have g:q<d.length:=ω
  have j:=jc d q g;rcases n with rfl|rfl
  ·rw[k,(l q g).1,<-f,j.1]
  rw[k,<-KU,(l q g).2,<-f,j.2]
 unfold LN at f
 obtain⟨x,_,g⟩:=JQ.1 f;simp at g;rcases g with rfl|rfl<;>rfl
def gp(w w':xV)(e:Ending)(d:List (yZ×yZ)):Prop:=∃a c,e=yT (LR a d.length c)/\d.length<=c/\OwnS w' a (LN d)/\(∀g,blk a d.length=some g->w.heap.size<=g)/\yX w w'
theorem sH{j:xV}{i:xA}{f:List (yZ×yZ)}{H:Nat}(h:f.length=0\/(i=zY H 0/\Row j H (LN f)))(k:w.heap.size<=H):OwnS j i (LN f)/\(∀g,blk i f.length=some g->w.heap.size<=g/\g=H):=by
 rcases h with h|⟨rfl,l⟩
 ·have:f=[]:=AD h
  subst this
  exact⟨.inl rfl,λg d=>by cases d⟩
 refine⟨.inr ⟨H,rfl,l⟩,λg d=>?_⟩
 by_cases g:f.length=0
 ·rw[g]at d;cases d
 rw[ML _ _ _ g]at d;cases d;exact⟨k,rfl⟩
theorem dp(a:xA)(d:List (yZ×yZ))(c:Nat)(w:xV)(h:Prs w a d)(s:d.length<=1048576):Calls prog 84 #[LR a d.length c] w λe w'=>gp w w' e d:=by
 obtain⟨t,f,g,i,k⟩:=WE ed;have j:=Y (AG f (AG g (AG i k)));clear f g i k
 have n:∀f g i,yX w (((w.alloc f).alloc g).alloc i):=λf g i=>((LG _ _).alloc σ _).alloc τ _
 go_enter func84,ntmps84;go_wp2_with (at_builtin;refine yt rfl _ _ 35 rfl 122 t _ 2 32 underlying35 j.j.1 j.j.2.1 j.j.2.2.1 j.j.2.2.2 _ rfl (.inr ⟨_,rfl⟩) _ rfl d.length _ (vF (h.I (n _ _ _)) _ _ underlying35 c) s ω ?_;intro m i l p g f;have r:l.cell? (yA (w.heap.size+1) 0)=some (yI none 0 0):=NF f γ;have v:l.frozen? (yA (w.heap.size+1) 0)=false:=RW f γ;have q:=Y ((n _ _ _).E (f.J ξ));have k:=Y (sH (w:=w) g τ);have u:w.heap.size+1<l.heap.size:=AC σ f.size;clear g f);refine AE (v:=LR m d.length i) (by simp[results,results84,go_sem,r]) rfl ⟨m,i,rfl,p,?_,λg f=>(k.j.2 g f).1,q.j.setCell (by show w.heap.size<=w.heap.size+1;omega) _⟩;rcases k.j.1 with f|⟨g,rfl,f⟩
 ·exact .inl f
 by_cases o:d.length=0
 ·exact .inl (by rw[AD o];rfl)
 have:=(k.j.2 g (ML _ _ _ o)).2
 exact .inr ⟨g,rfl,f.other _ (by show w.heap.size+1≠g;rw[this];simp<;>omega) _⟩
structure Dd where
 (C W S L T H F R U O:Int)
 rs:List Pr
 ops:List OpT
def MD(d:Dd)(a:xA)(c:Nat)(b:xA)(e:Nat):qD:=.agg #[Z d.C,Z d.W,Z d.S,Z d.L,Z d.T,Z d.H,Z d.F,Z d.R,Z d.U,Z d.O,yI a d.rs.length c,yI b d.ops.length e]
def ZS(a:xA)(n:Nat)(b:xA)(m:Nat):Prop:=blk a n=none\/blk b m=none\/blk a n≠blk b m
structure OwnDn(w:xV)(rs:List Pr)(ops:List OpT)(a b:xA):Prop where
 s:OwnS w a (LN rs)
 p:OwnS w b (Or ops)
 ne:ZS a rs.length b ops.length
theorem OwnDn.I{g:List Pr}{d:List OpT}(h:OwnDn w g d a b)(f:yX w w'):OwnDn w' g d a b:=⟨h.s.I f,h.p.I f,h.ne⟩
theorem OwnS.prs{d:List Pr}(h:OwnS w a (LN d)):Prs w a d:=by
 rcases h with h|⟨g,rfl,h⟩
 ·exact .inl (by have:=BC List.length h;rw[WY,AT]at this;exact AD ω)
 exact h.prs
theorem OwnS.ops{d:List OpT}(h:OwnS w a (Or d)):Ops w a d:=by
 rcases h with h|⟨g,rfl,h⟩
 ·exact .inl (by have:=BC List.length h;rw[Qh,AT]at this;exact AD ω)
 exact h.ops
theorem aq{d:List Pr}(h:d.length≠0):LN d≠[]:=λe=>h (by have:=BC List.length e;rw[WY,AT]at this;omega)
theorem uX{d:List OpT}(h:d.length≠0):Or d≠[]:=λe=>h (by have:=BC List.length e;rw[Qh,AT]at this;omega)
theorem RG{d:List Pr}(h:LN d≠[]):d.length≠0:=λe=>h (by rw[AD e];rfl)
theorem ju{d:List OpT}(h:Or d≠[]):d.length≠0:=λe=>h (by rw[AD e];rfl)
def TJ(w w':xV)(x:Ending)(d:Dd):Prop:=∃a c b e,x=yT (MD d a c b e)/\d.rs.length<=c/\OwnDn w' d.rs d.ops a b/\(∀g,blk a d.rs.length=some g->w.heap.size<=g)/\(∀g,blk b d.ops.length=some g->w.heap.size<=g)/\yX w w'
def LJ(C:Int):Dd:=⟨C,0,0,0,0,0,0,0,0,0,[],[]⟩
theorem OwnS.set'(h:OwnS w a cs)(p:Addr)(f:∀g,a=zY g 0->cs≠[]->p.block≠g)(v:qD):OwnS (w.setCell p v) a cs:=by
 by_cases d:cs=[]
 ·exact .inl d
 obtain⟨g,rfl,i⟩:=h.resolve_left d
 exact .inr ⟨g,rfl,i.other p (f g rfl d) v⟩
theorem OwnS.alloc'(h:OwnS w a cs)(o:Obj):OwnS (w.alloc o) a cs:=h.I (LG _ _)
theorem dq{A:Array qD}{t:TypeId}{g:Nat}(d:w.heap.size=g):Row (w.alloc (.cells A t)) g A.toList:=by subst d;exact LS w A t
theorem Jd{x:Ending}{C:Int}(f:x=yT (MD (LJ C) a c b e))(d:yX w w'):TJ w w' x (LJ C) :=⟨a,c,b,e,f,AL _,⟨.inl rfl,.inl rfl,.inl rfl⟩,λg h=>(by cases h),λg h=>(by cases h),d⟩
theorem OwnS.drew'(h:OwnS w a cs):OwnS w.drew a cs:=h.I (AB _ _).drew
def MM(d:Int)(l:List yZ):List OpT:=l.mapIdx λi p=>(false,d+(i:Int),p)
theorem Nl(d:Int):MM d []=[]:=rfl
theorem zy(d:Int)(l:List yZ)(p:yZ):MM d (l++[p])=MM d l++[(false,d+(l.length:Int),p)]:=by simp[MM,List.mapIdx_append]
theorem QZ(d:Int)(l:List yZ):(MM d l).length=l.length:=by simp[MM]
def lT(L F:Int)(n m:Nat)(d:List yZ)(b:List Ch):List yZ:=d++OC (MA b) L (F+(d.length:Int)) n m
def ON(L F:Int)(n m:Nat)(d:List (List Ch)):List yZ:=d.foldl (lT L F n m) [MJ 3 L F empty (n:Int)]
theorem il(L F:Int)(n m:Nat):ON L F n m []=[MJ 3 L F empty (n:Int)]:=rfl
theorem qy(L F:Int)(n m:Nat)(d:List (List Ch))(b:List Ch):ON L F n m (d++[b])=ON L F n m d++OC (MA b) L (F+((ON L F n m d).length:Int)) n m:=by
 unfold ON;rw[IT];rfl
theorem yO(s:yZ)(l f:Int)(n m:Nat)(h:n+m=56)(d:1<=n)(g:n<=8):((OC s l f n m).length:Int)<=OO s.size (n:Int):=by
 have e:(56-(n:Int)).toNat=m:=ω
 unfold OO;rw[AI ω,e];unfold OC
 split
 ·rw[pn];omega
 simp
theorem gq(L F:Int)(n m:Nat)(j:n+m=56)(g:1<=n)(i:n<=8)(d:List (List Ch)):((ON L F n m d).length:Int)<=1+MG d (n:Int):=by
 obtain⟨k,f⟩:∃k,k=d.length:=⟨_,rfl⟩
 induction k generalizing d with
 | zero=>rw[AD f.symm,il,E6];simp
 | succ k o =>
  obtain⟨b,bs,rfl⟩:∃b bs,d=bs++[b]:=by
   rcases GJ d with h|⟨l,a,h⟩
   ·subst h;simp at f
   exact⟨a,l,by simpa using h⟩
  have:=o bs (by simp at f;omega);rw[qy,tn,AK];have:=yO (MA b) L (F+((ON L F n m bs).length:Int)) n m j g i;omega
theorem sR(d:List (List Ch))(k:Nat)(n:Int):MG (d.take k) n<=MG d n:=by
 have e:MG d n=MG (d.take k) n+MG (d.drop k) n:=by
  unfold MG;rw[<-List.sum_append,<-DA,FJ]
 have:=(bw (d.drop k) n).1;omega
def XD(W S L T H F:Int)(d:List Pr):Prop:=(1<=W/\W<=8)/\(8<=S/\S<=200)/\(1<=L/\L<=60000)/\(0<=T/\T<=1000000000)/\(0<=H/\H<=1)/\(1<=F/\F<=999999000)/\MG (MK d) W<=hv S-1
def XO(S T F:Int):Bool:=decide (T+1<=1000000000/\F+hv S<=999999000)
def WU(W S L T H F:Int)(d:List Pr):Dd:=⟨0,W,S,L,T+1,1-H,F+hv S,L,((ON L (F+hv S) W.toNat (56-W.toNat) (MK d)).length:Int),0,d,MM (2+(1-H)*hv S) (ON L (F+hv S) W.toNat (56-W.toNat) (MK d))++[(true,0,empty),(false,(T+1) % 2,OS (T+1) (1-H) (F+hv S) L W),(true,0,empty)]⟩
def OH(W S L T H F:Int)(d:List Pr):Dd:=if XO S T F=true then WU W S L T H F d else LJ 4
def OY(W S L T H F R U O:Int)(d:List Pr):Dd:=if NX W S L T H F R U O d=true then OH W S L T H F d else LJ 1
theorem nt{W S L T H F R U O:Int}{d:List Pr}(h:NX W S L T H F R U O d=true):XD W S L T H F d:=by
 unfold NX SY at h;simp only[BD,BG]at h;obtain⟨⟨⟨⟨⟨⟨⟨f,g⟩,i⟩,⟨⟨j,_⟩,k⟩,l⟩,_⟩,_⟩,_⟩,m⟩:=h;exact⟨f,g,i,j,k,l,m⟩
theorem M4(W S L T H F R U O:Int)(d:List Pr)(g:d.length<=1048576):(OY W S L T H F R U O d).rs.length<=1048576/\(OY W S L T H F R U O d).ops.length<=1000:=by
 unfold OY OH
 cases h:NX W S L T H F R U O d with
 | false=>simp[LJ]
 | true =>
  cases h2:XO S T F with
  | false=>simp[LJ]
  | true =>
   obtain⟨⟨k,j⟩,f,l,m,n,o,p⟩:=nt h;have q:=PG f;have i:=gq L (F+hv S) W.toNat (56-W.toNat) ω ω ω (MK d);rw[show((W.toNat:Nat):Int)=W by omega]at i;simp only[IU,WU,AK,QZ];refine⟨g,?_⟩;simp;omega
section
theorem RQ:(prog.info? 102).map (·.size)=some 12:=κ
theorem OQ:(prog.info? 39).map (·.size)=some 10:=κ
@[reducible] def QD(d:Dd)(a:xA)(c:Nat)(b:xA)(e:Nat):List qD:=[Z d.C,Z d.W,Z d.S,Z d.L,Z d.T,Z d.H,Z d.F,Z d.R,Z d.U,Z d.O,yI a d.rs.length c,yI b d.ops.length e]
structure StB(w v:xV)(cs:List qD)(M:xV->Prop):Prop where
 e:yX w v
 r1:Row v w.heap.size cs
 r2:Row v (w.heap.size+1) [Z 0,Z 0,Z 0,Z 0,Z 0,Z 0,Z 0,Z 0,Z 0,Z 0,yI none 0 0,yI none 0 0]
 m:DepF v (λb=>b≠w.heap.size/\b≠w.heap.size+1) M
section
variable {w v v':xV} {cs cs':List qD} {M N:xV->Prop}
theorem StB.I(h:StB w v cs M)(d:yX v v'):StB w v' cs M:=⟨h.e.E (d.J h.e.size),h.r1.I d,h.r2.I d,h.m.I d⟩
theorem StB.low{B:Nat}(h:StB w v cs (λ_=>True))(d:Below B v v')(f:w.heap.size+1<B):StB w v' cs (λ_=>True) :=⟨h.e.E (d.J ω),SX h.r1 (d.block _ ω) (AC h.r1.lt d.size),SX h.r2 (d.block _ ω) (AC h.r2.lt d.size),UO (λ_=>trivial)⟩
theorem StB.put(h:StB w v cs M)(d:v.grownBy v' (some w.heap.size))(f:Row v' w.heap.size cs'):StB w v' cs' M :=⟨h.e.E (MF d h.e.size (λx e=>by have e:=BP e;omega)),f,h.r2.V d (λe=>by injection e with e;omega),h.m.V d (λg e k=>by cases e;exact k.1 rfl)⟩
theorem StB.set(h:StB w v cs M)(i:Nat)(d:i<cs.length)(u:qD):StB w (v.setCell (yA w.heap.size i) u) (cs.set i u) M:=h.put (NA (AY _ _) _ _) (h.r1.set i d u)
theorem StB.aside{X:Nat}(h:StB w v cs (λ_=>True))(d:v.grownBy v' (some X))(f:w.heap.size+1<X):StB w v' cs (λ_=>True) :=⟨h.e.E (MF d h.e.size (λx e=>by have e:=BP e;omega)),h.r1.V d (λe=>by injection e with e;omega),h.r2.V d (λe=>by injection e with e;omega),UO (λ_=>trivial)⟩
theorem tg(w:xV)(o:Obj):yX w (w.alloc o):=LG _ _
theorem StB.add(h:StB w v cs M)(k:DepF v (λb=>b≠w.heap.size/\b≠w.heap.size+1) N):StB w v cs (λW=>M W/\N W):=⟨h.e,h.r1,h.r2,h.m.and k⟩
theorem StB.fin(h:StB w v cs M)(D:Dd)(a:xA)(c:Nat)(b:xA)(e:Nat)(j:D.rs.length<=c)(d:OwnDn v D.rs D.ops a b)(f:∀g,blk a D.rs.length=some g->w.heap.size+2<=g)(i:∀g,blk b D.ops.length=some g->w.heap.size+2<=g):Row (v.setCells (w.heap.size+1) 0 (QD D a c b e)) (w.heap.size+1) (QD D a c b e)/\TJ w (v.setCells (w.heap.size+1) 0 (QD D a c b e)) (yT (MD D a c b e)) D:=by
 have G:=OU v (w.heap.size+1) 0 (QD D a c b e);have l:=(QF (lo:=w.heap.size+2) d.s RG f).V G (λg e=>by cases e;omega);have m:=(QF (lo:=w.heap.size+2) d.p ju i).V G (λg e=>by cases e;omega);exact⟨h.r2.sets _ rfl,a,c,b,e,rfl,j,⟨l.q,m.q,d.ne⟩,λg k=>by have:=f g k;omega,λg k=>by have:=i g k;omega,h.e.E (MF G h.e.size (λx e=>by have e:=BP e;omega))⟩
theorem StB.no(h:StB w v cs M)(C:Int):Row (v.setCells (w.heap.size+1) 0 [Z C,Z 0,Z 0,Z 0,Z 0,Z 0,Z 0,Z 0,Z 0,Z 0,yI none 0 0,yI none 0 0]) (w.heap.size+1) (QD (LJ C) none 0 none 0)/\TJ w (v.setCells (w.heap.size+1) 0 [Z C,Z 0,Z 0,Z 0,Z 0,Z 0,Z 0,Z 0,Z 0,Z 0,yI none 0 0,yI none 0 0]) (yT (MD (LJ C) none 0 none 0)) (LJ C) :=h.fin (LJ C) none 0 none 0 (AA _) ⟨.inl rfl,.inl rfl,.inl rfl⟩ (λg k=>by cases k) (λg k=>by cases k)
theorem StB.noR(h:StB w v cs M)(C:Int){p:Nat}{d f:Oper}{a:Act}{Q:Exit->Act->xV->Prop}(x y:Operand)(j:d.guard=none)(hv:(execOp a.eval d).run prog v=.ok (.value (.agg #[Z C,Z 0,Z 0,Z 0,Z 0,Z 0,Z 0,Z 0,Z 0,Z 0,yI none 0 0,yI none 0 0])) v)(l:f.guard=none)(m:f.op=.store 102 x y)(n:(a.put d.dst (.agg #[Z C,Z 0,Z 0,Z 0,Z 0,Z 0,Z 0,Z 0,Z 0,Z 0,yI none 0 0,yI none 0 0])).eval x=zW (w.heap.size+1) 0)(o:(a.put d.dst (.agg #[Z C,Z 0,Z 0,Z 0,Z 0,Z 0,Z 0,Z 0,Z 0,Z 0,yI none 0 0,yI none 0 0])).eval y=.agg #[Z C,Z 0,Z 0,Z 0,Z 0,Z 0,Z 0,Z 0,Z 0,Z 0,yI none 0 0,yI none 0 0])
  (k:∀u,Row u (w.heap.size+1) (QD (LJ C) none 0 none 0)->Hid (TJ w u (yT (MD (LJ C) none 0 none 0)) (LJ C))->wpList prog [d,f].toArray Q [] ((a.put d.dst (.agg #[Z C,Z 0,Z 0,Z 0,Z 0,Z 0,Z 0,Z 0,Z 0,Z 0,yI none 0 0,yI none 0 0])).put f.dst undef) u):(Code.region p [d,f].toArray false).wp prog Q a v:=by
 obtain⟨i,g⟩:=h.no C;exact AV (SO j _ hv (BU l _ x y m (w.heap.size+1) 0 _ n o (h.r2.there rfl) RQ κ (k _ i (Y g))))
end
theorem ZO{n m N:Nat}(d:∀g,blk a n=some g->g<N)(f:∀g,blk b m=some g->N<=g):ZS a n b m:=by
 cases h:blk a n with
 | none=>exact .inl h
 | some g=>exact .inr (.inr λe=>by rw[h]at e;have:=d g h;have:=f g e.symm;omega)
theorem Fa{n m N:Nat}(d:∀g,blk a n=some g->N<=g)(f:∀g,blk b m=some g->g<N):ZS a n b m:=by
 cases h:blk a n with
 | none=>exact .inl h
 | some g=>exact .inr (.inr λe=>by rw[h]at e;have:=d g h;have:=f g e.symm;omega)
theorem ZP{d:List Pr}{g:Nat}(h:OwnS w a (LN d))(k:blk a d.length=some g):g<w.heap.size:=by
 rcases h with h|⟨j,rfl,i⟩
 ·have e:d.length=0:=by have:=BC List.length h;rw[WY,AT]at this;omega
  rw[e]at k
  cases a<;>simp[blk]at k
 by_cases f:d.length=0
 ·rw[f]at k;simp[blk]at k
 rw[ML _ _ _ ω]at k
 cases k
 exact i.lt
theorem TI{f:Func}{d:Act}{y:xV}{D:Dd}(k:Nat)(i:f.results=#[.cell k 102])(X:Nat)(j:d.tmps.getD k undef=zW X 0)(l:Row y X (QD D a c b e))(h:d.defers=[])(g:TJ w y (yT (MD D a c b e)) D):bodyPost prog f (λr w'=>TJ w w' r D) .ret d y :=UK k 102 i X j (QD D a c b e) _ l underlying102 rfl RQ h g
def ef(w w':xV)(x:Ending)(d:Dd):Prop:=TJ w w' x d/\∀a c b e,x=yT (MD d a c b e)->d.ops.length<=e
theorem Gc{D:Dd}(d:TJ w w' (yT (MD D a c b e)) D)(j:D.ops.length<=e):ef w w' (yT (MD D a c b e)) D :=⟨d,λf h g i k=>by simp[MD]at k;have:=k.2.2;omega⟩
theorem UZ{f:Func}{d:Act}{y:xV}{D:Dd}(k:Nat)(j:f.results=#[.cell k 102])(X:Nat)(l:d.tmps.getD k undef=zW X 0)(m:Row y X (QD D a c b e))(h:d.defers=[])(g:TJ w y (yT (MD D a c b e)) D)(i:D.ops.length<=e:=by exact AA _):bodyPost prog f (λr w'=>ef w w' r D) .ret d y :=UK k 102 j X l (QD D a c b e) _ m underlying102 rfl RQ h (Gc g i)
end
def PZ(W S L T H F R U O:Int)(d:List Pr):Dd:=if NX W S L T H F R U O d=true then ⟨0,W,S,L,T,H,F,R,U,0,d,[(true,0,empty)]⟩ else LJ 1
theorem Kb(W S L T H F R U O:Int)(a:xA)(f:List Pr)(c:Nat)(w:xV)(h:Prs w a f)(z:f.length<=1048576)(A:∀x∈f,x.1.size<=1048576/\x.2.size<=1048576):Calls prog 95 #[MI W S L T H F R U O a f.length c] w λx w'=>TJ w w' x (PZ W S L T H F R U O f):=by
 have i:=Y (λw' d=>ky W S L T H F R U O a f c w' d z A);have r:=Y h;clear h A;obtain⟨q,p⟩:∃D,Hid (D=PZ W S L T H F R U O f):=⟨_,Y rfl⟩;rw[<-p.j];unfold MI at i⊢;go_enter func95,ntmps95;go_upto_region 1 with fail;generalize d:w.alloc _=M;obtain⟨j,l,m⟩:=LK d;clear d;generalize d:M.alloc _=C;obtain⟨k,n,g⟩:=LK d;clear d;rw[l]at g;have d:StB w C (sJ W S L T H F R U O (yI a f.length c)) (λ_=>True):=⟨j.E (k.J j.size),(m.I k).q,g.q,UO (λ_=>trivial)⟩;have o:w.heap.size+1<C.heap.size:=g.q.lt;clear j k m g l n;refine AV ?_;refine AZ rfl 39 _ rfl w.heap.size 0 rfl _ _ d.r1.range underlying39 rfl OQ ?_;simp only[PS];go_wp2_with fail;refine(i.j _ (r.j.I d.e)).J ?_;rintro x D ⟨rfl,g⟩;replace d:=d.I g;clear g o i
 cases hok:NX W S L T H F R U O f with
 | false =>
  obtain rfl:q=LJ 1:=by rw[p.j];unfold PZ;rw[AF (by rw[hok];simp)]
  go_upto_region 2 with fail;refine d.noR 1 _ _ rfl γ rfl rfl rfl rfl (λy o g=>?_)
  try simp only[PS]
  clear d
  try go_wp2
  refine TI 2 results95 _ ?_ o ?_ g.j<;>rfl
 | true =>
  obtain rfl:q=⟨0,W,S,L,T,H,F,R,U,0,f,[(true,0,empty)]⟩:=by rw[p.j];unfold PZ;rw[AI hok]
  clear hok;go_upto_region 3 with fail;refine AV ?_;refine AZ rfl 39 _ rfl w.heap.size 0 rfl _ _ d.r1.range underlying39 rfl OQ ?_;simp only[PS];go_upto_region 4 with fail;generalize i:D.alloc _=E;obtain⟨g,m,l⟩:=LK i;clear i;obtain⟨B,j⟩:∃k,k=D.heap.size:=⟨_,rfl⟩;rw[<-j]at l⊢;have i:=l.q;have lB:w.heap.size+1<B:=by rw[j];exact d.r2.lt
  replace d:=d.I g;clear g l m j;generalize Value.agg _=Q;have g:=d.r1.y 9;have j:=d.r1.lt;go_wp2_with fail;clear g j;have j:=dp a f c E (r.j.I d.e) z;unfold LR at j;refine j.J ?_;rintro x N ⟨l,m,rfl,J,o,u,g⟩;unfold LR;have n:=QF (lo:=E.heap.size) o RG u;have V:=i.lt;replace d:=d.I g;replace i:=i.I g;clear g j o;have g:=i.y 9;have o:=i.y 8;have t:=i.A 9;have s:=i.A 8;have j:=i.lt;go_upto_region 6 with fail;clear g t o s j;have G:=NA (NA (AY N (some B)) 9 (yI l f.length m)) 8 (Z 0);replace i:=(i.set 9 σ (yI l f.length m)).set 8 σ (Z 0);replace d:=d.aside G ω;replace n:=n.V G (λg e=>by cases e;omega);generalize o:World.setCell (World.setCell _ _ _) _ _=j at d i n G⊢;clear o;have l6:=G.size;refine AV ?_
  refine AZ rfl 39 _ rfl B 0 rfl _ _ i.range underlying39 rfl OQ ?_;simp only[PS];have v:=tg j (.cells #[yR true,Z 0,yQ empty] 136);have K:=LS j #[yR true,Z 0,yQ empty] 136;have t:=Y (d.I v);refine SO rfl (.agg #[yR true,Z 0,yQ empty]) (by go_simp;rfl) ?_;simp only[PS];refine dt rfl (yI (zY j.heap.size 0) 1 1) (j.alloc (.cells #[yR true,Z 0,yQ empty] 136)) γ ?_;simp only[PS];refine SO rfl (.agg (dK 0 W S L T H F R U 0 (yI l f.length m) (yI (zY j.heap.size 0) 1 1))) γ ?_;simp only[PS];refine BU rfl 102 _ _ rfl (w.heap.size+1) 0 (dK 0 W S L T H F R U 0 (yI l f.length m) (yI (zY j.heap.size 0) 1 1)) rfl rfl (t.j.r2.there rfl) RQ κ ?_
  try simp only[PS]
  have X:=i.lt
  have I:ZS l f.length (zY j.heap.size 0) 1:=ZO (λg k=>ZP n.q k) (λg k=>by rw[ML _ _ _ σ]at k;cases k;exact AA _)
  obtain⟨o,s⟩:=t.j.fin ⟨0,W,S,L,T,H,F,R,U,0,f,[(true,0,empty)]⟩ l m (zY j.heap.size 0) 1 J ⟨(n.I v).q,.inr ⟨_,rfl,K⟩,I⟩ (λg k=>by have:=u g k;omega) (λg k=>by rw[ML _ _ _ σ]at k;cases k;omega)
  have g:=Y s;clear s;generalize k:World.setCells _ _ _ _=y at o g⊢;clear k
  try go_wp2
  refine TI 2 results95 _ ?_ o ?_ g.j<;>rfl
