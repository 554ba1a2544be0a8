import Derived.Test.YteflhojcomcfaaaGreatDoorPrAq
import Derived.Deep.AppendSrc
import Derived.Test.YteflhojcomcfaaaGreatDoorPrG40
import Derived.Test.YteflhojcomcfaaaGreatDoorPrCutI
import Derived.Test.YteflhojcomcfaaaGreatDoorPrG43
import Derived.Deep.Cut
import Derived.Deep.CutRange
set_option maxHeartbeats 16000000
set_option maxRecDepth 8000
set_option linter.all false
namespace Go.Proofs.YteflhojcomcfaaaGreatDoor
open _root_.ByteArray(empty)
open Tryz
open Go.RowKit
variable {cs:List Ra}{c e g n:Nat}{a b:Q5}{P:Program}{v:Ra}{w w' wb wr:Q9}
theorem kt:(prog.info? 151).map (λi=>(i.zero,i.size,i.bytes))=some (some (.agg #[Ow empty,Ow empty]),2,32):=h
theorem ZR{e:TypeId}{z:Ra}{d f:Nat}(h:(P.info? e).map (λi=>(i.zero,i.size,i.bytes))=some (some z,d,f)):∃i,P.info? e=some i/\i.zero=some z/\i.size=d/\i.bytes=f:=by
 obtain⟨i,k,j⟩:=EC.1 h;simp only[EK]at j;exact⟨i,k,j⟩
theorem rL(n:Nat)(h:0<n):Builtin.nextslicecap n 0=n:=by
 unfold Builtin.nextslicecap;simp;omega
theorem On(t x e:TypeId)(i:TypeInfo)(h:Ra)(m y:Nat)(s:P.underlying t=some (.slice e))(r:P.info? e=some i)(L:i.zero=some h)(G:i.size=m)(J:i.bytes=y)
  (k:Q5)(A:k=none\/∃b,k=Hw b 0)(v:Ra)(n:Nat)(l:List Ra)(o:Src P m t v n l w)(M:n<=1048576)(I:n*y<=281474976710656):∃u f p,(Builtin.append_ #[t,t] x #[Y k 0 0,v]).run P w=.ok (Y u n f) p/\n<=f/\(n=0\/(u=Hw w.heap.size 0/\Row p w.heap.size l))/\Q3 w p:=by
 subst G J
 by_cases K:n=0
 .subst K
  have u:l=[]:=AD (by have:=o.newsLen;omega);subst u;rcases A with rfl|⟨b,rfl⟩
  .refine⟨none,0,w,?_,C,.inl z,D⟩
   rcases o.kind with ⟨p,f⟩|f<;>simp[Builtin.append_,GG s,GG f,sizeOf,typeInfo,r,o.len,o.cells]
  have p:=run_append_room_src (P:=P) w t t x e i s r b 0 0 0 v 0 [] o d j j
  exact⟨_,_,_,p,C,.inl z,D⟩
 have H:(Builtin.firstCells i.size 0 (Y k 0 0)).run P w.drew=.ok ([]:List Ra).toArray w.drew:=by
  rcases A with rfl|⟨b,rfl⟩
  .simp[Builtin.firstCells,IZ]
  exact GI w.drew i.size 0 _ 0 0 [] j j
 have p:=run_append_grow_src (P:=P) w t t x e i h s r L k 0 0 [] H v n l o d d (by rw[BK,rL n d];exact I);refine⟨_,_,_,by rw[p,BK],?_,.inr ⟨z,?_⟩,(D).drew.alloc C _⟩
 .have:=JL w (0+n) 0 e
  rw[BK]at this;exact this
 have E:=LZ w.drew ((([]:List Ra)++l).toArray++Builtin.zeroCells h.cells (grownCap w (0+n) 0 e-(0+n))) e;refine⟨j,λf u F=>?_,λf B=>?_⟩
 .have:=E.cell f u (by
   obtain⟨B,_⟩:=DJ.1 F
   simp[BO B,F])
  simpa using this
 have:=E.froz f q
 simpa using this
theorem oW{r:Array Oper}{q:List Oper}{o:Oper}{a:Act}{Q:Exit->Act->Q9->Prop}(E:o.guard=none)(s x:Operand)(t:TypeId)
  (M:o.op=.call { callee:=.builtin .append,args:=#[s,x],argTypes:=#[t,t] })(e:TypeId)(i:TypeInfo)(z:Ra)(j p:Nat)(O:P.underlying t=some (.slice e))(J:P.info? e=some i)(S:i.zero=some z)(y:i.size=j)(D:i.bytes=p)
  (d:Q5)(N:a.eval s=Y d 0 0)(u:d=none\/∃b,d=Hw b 0)(v:Ra)(R:a.eval x=v)(n:Nat)(f:List Ra)(B:Src P j t v n f w)(L:n<=1048576)(C:n*p<=281474976710656)
  (h:∀m k l,n<=k->(n=0\/(m=Hw w.heap.size 0/\Row l w.heap.size f))->Q3 w l->wpList P r Q q (a.put o.dst (Y m n k)) l):wpList P r Q (o::q) a w:=by
 refine IG E λK I=>?_
 obtain⟨m,k,l,A,F,G,H⟩:=On (P:=P) (w:=w) t o.type e i z j p O J S y D d u v n f B L C;unfold Oper.wp;simp[execOp,M,resolve,invoke,builtin,N,R,A,Result.andThen];exact I _ _ (h m k l F G H)
theorem yF{i:List (Q4×Q4)}(h:Prs w a i)(t e:TypeId)(m:P.underlying t=some (.slice e))(c:Nat):Src P 2 t (Y a i.length c) i.length (LS i) w:=by
 rcases h with h|⟨b,o,rfl,z,r⟩
 .subst h
  cases a with
  | none=>exact Src.ofNil w m c
  | some x=>exact Src.ofSlice w m x 0 c [] j j j
 refine Src.ofSlice w m (Ki b o) i.length c _ (aw i) (λf u k=>?_) (λu k=>?_)
 .obtain⟨x,e⟩:=DJ.1 k
  rw[aw]at x;have p:((Ki b o):Addr).add f=(Ki b (o+f)):=by unfold Addr.add;split<;>simp_all
  obtain⟨q,y⟩:∃q,f=q*2\/f=q*2+1:=⟨f / 2,d⟩;have l:q<i.length:=d
  have s:=py i q l;rcases y with rfl|rfl
  .rw[p,(r q l).1,<-k,s.1]
  rw[p,<-KU,(r q l).2,<-k,s.2]
 unfold LS at k
 obtain⟨x,_,l⟩:=JQ.1 k;simp at l;rcases l with rfl|rfl<;>rfl
def mt(w w':Q9)(e:Ending)(d:List (Q4×Q4)):Prop:=∃a c,e=Q2 (LX a d.length c)/\d.length<=c/\OwnS w' a (LS d)/\(∀g,blk a d.length=some g->w.heap.size<=g)/\Q3 w w'
theorem vM{k:Q9}{i:Q5}{f:List (Q4×Q4)}{H:Nat}(h:f.length=0\/(i=Hw H 0/\Row k H (LS f)))(l:w.heap.size<=H):OwnS k i (LS f)/\(∀g,blk i f.length=some g->w.heap.size<=g/\g=H):=by
 rcases h with h|⟨rfl,m⟩
 .have:f=[]:=AD h
  subst this
  exact⟨.inl z,λg d=>by cases d⟩
 refine⟨.inr ⟨H,z,m⟩,λg d=>?_⟩
 by_cases j:f.length=0
 .rw[j]at d;cases d
 rw[ND _ _ _ j]at d;cases d;exact⟨l,z⟩
theorem kl(a:Q5)(f:List (Q4×Q4))(c:Nat)(w:Q9)(h:Prs w a f)(A:f.length<=1048576):Calls prog 108 #[LX a f.length c] w λe w'=>mt w w' e f:=by
 obtain⟨B,i,k,o,p⟩:=ZR kt;have m:=LE (I i (I k (I o p)));clear i k o p
 have t:∀i k o,Q3 w (((w.alloc i).alloc k).alloc o):=λi k o=>((LH _ _).alloc j _).alloc q _
 go_enter func108,ntmps108;go_wp2_with (at_builtin;refine oW z _ _ 40 z 151 B _ 2 32 underlying40 m.j.1 m.j.2.1 m.j.2.2.1 m.j.2.2.2 _ z (.inr ⟨_,z⟩) _ z f.length _ (yF (h.I (t _ _ _)) _ _ underlying40 c) A d ?_;intro r k p u s i;have y:p.cell? (Ki (w.heap.size+1) 0)=some (Y none 0 0):=OG i l;have D:p.frozen? (Ki (w.heap.size+1) 0)=false:=UL i l;have x:=LE ((t _ _ _).E (i.J ξ));have o:=LE (vM (w:=w) s q);have C:w.heap.size+1<p.heap.size:=AC j i.size;clear s i);refine H (v:=LX r f.length k) (by simp[results,results108,go_sem,y]) z ⟨r,k,z,u,?_,λg i=>(o.j.2 g i).1,x.j.setCell (by show w.heap.size<=w.heap.size+1;omega) _⟩;rcases o.j.1 with i|⟨g,rfl,i⟩
 .exact .inl i
 by_cases s:f.length=0
 .exact .inl (by rw[AD s];rfl)
 have:=(o.j.2 g (ND _ _ _ s)).2
 exact .inr ⟨g,z,i.other _ (by show w.heap.size+1≠g;rw[this];simp<;>omega) _⟩
structure Dd where
 (C W S L T H F R U O:Int)
 rs:List Pr
 ops:List OpT
def MT(d:Dd)(a:Q5)(c:Nat)(b:Q5)(e:Nat):Ra:=.agg #[Z d.C,Z d.W,Z d.S,Z d.L,Z d.T,Z d.H,Z d.F,Z d.R,Z d.U,Z d.O,Y a d.rs.length c,Y b d.ops.length e]
def ic(a:Q5)(n:Nat)(b:Q5)(m:Nat):Prop:=blk a n=none\/blk b m=none\/blk a n≠blk b m
structure OwnDn(w:Q9)(rs:List Pr)(ops:List OpT)(a b:Q5):Prop where
 s:OwnS w a (LS rs)
 p:OwnS w b (LG ops)
 ne:ic a rs.length b ops.length
theorem OwnDn.I{i:List Pr}{d:List OpT}(h:OwnDn w i d a b)(f:Q3 w w'):OwnDn w' i d a b:=⟨h.s.I f,h.p.I f,h.ne⟩
theorem OwnS.prs{d:List Pr}(h:OwnS w a (LS d)):Prs w a d:=by
 rcases h with h|⟨g,rfl,h⟩
 .exact .inl (by have:=BD List.length h;rw[aw,AU]at this;exact AD ω)
 exact h.prs
theorem OwnS.ops{d:List OpT}(h:OwnS w a (LG d)):Ops w a d:=by
 rcases h with h|⟨g,rfl,h⟩
 .exact .inl (by have:=BD List.length h;rw[PE,AU]at this;exact AD ω)
 exact h.ops
theorem jg{d:List Pr}(h:d.length≠0):LS d≠[]:=λe=>h (by have:=BD List.length e;rw[aw,AU]at this;omega)
theorem xY{d:List OpT}(h:d.length≠0):LG d≠[]:=λe=>h (by have:=BD List.length e;rw[PE,AU]at this;omega)
theorem TS{d:List Pr}(h:LS d≠[]):d.length≠0:=λe=>h (by rw[AD e];rfl)
theorem qy{d:List OpT}(h:LG d≠[]):d.length≠0:=λe=>h (by rw[AD e];rfl)
def VZ(w w':Q9)(x:Ending)(d:Dd):Prop:=∃a c b e,x=Q2 (MT d a c b e)/\d.rs.length<=c/\OwnDn w' d.rs d.ops a b/\(∀g,blk a d.rs.length=some g->w.heap.size<=g)/\(∀g,blk b d.ops.length=some g->w.heap.size<=g)/\Q3 w w'
def LO(C:Int):Dd:=⟨C,0,0,0,0,0,0,0,0,0,[],[]⟩
theorem OwnS.set'(h:OwnS w a cs)(p:Addr)(f:∀g,a=Hw g 0->cs≠[]->p.block≠g)(v:Ra):OwnS (w.setCell p v) a cs:=by
 by_cases d:cs=[]
 .exact .inl d
 obtain⟨g,rfl,i⟩:=h.resolve_left d
 exact .inr ⟨g,rfl,i.other p (f g rfl d) v⟩
theorem OwnS.alloc'(h:OwnS w a cs)(o:Obj):OwnS (w.alloc o) a cs:=h.I (LH _ _)
theorem km{A:Array Ra}{t:TypeId}(d:w.heap.size=g):Row (w.alloc (.cells A t)) g A.toList:=by subst d;exact LZ w A t
theorem K7{x:Ending}{C:Int}(f:x=Q2 (MT (LO C) a c b e))(d:Q3 w w'):VZ w w' x (LO C) :=⟨a,c,b,e,f,AL,⟨.inl z,.inl z,.inl z⟩,λg h=>(by cases h),λg h=>(by cases h),d⟩
theorem OwnS.drew'(h:OwnS w a cs):OwnS w.drew a cs:=h.I (AB).drew
def NE(d:Int)(l:List Q4):List OpT:=l.mapIdx λi p=>(false,d+(i:Int),p)
theorem Pm(d:Int):NE d []=[]:=rfl
theorem pM(d:Int)(l:List Q4)(p:Q4):NE d (l++[p])=NE d l++[(false,d+(l.length:Int),p)]:=by simp[NE,List.mapIdx_append]
theorem TN(d:Int)(l:List Q4):(NE d l).length=l.length:=by simp[NE]
def pR(L F:Int)(n m:Nat)(d:List Q4)(b:List Ch):List Q4:=d++PK (MN b) L (F+(d.length:Int)) n m
def QA(L F:Int)(n m:Nat)(d:List (List Ch)):List Q4:=d.foldl (pR L F n m) [NB 3 L F empty (n:Int)]
theorem oh(L F:Int)(n m:Nat):QA L F n m []=[NB 3 L F empty (n:Int)]:=rfl
theorem xd(L F:Int)(n m:Nat)(d:List (List Ch))(b:List Ch):QA L F n m (d++[b])=QA L F n m d++PK (MN b) L (F+((QA L F n m d).length:Int)) n m:=by
 unfold QA;rw[IU];rfl
theorem Bh(s:Q4)(l f:Int)(n m:Nat)(j:n+m=56)(h:1<=n)(i:n<=8):((PK s l f n m).length:Int)<=QB s.size (n:Int):=by
 have e:(56-(n:Int)).toNat=m:=d
 unfold QB;rw[G d,e];unfold PK
 split
 .rw[vh];omega
 simp
theorem mu(L F:Int)(n m:Nat)(o:n+m=56)(i:1<=n)(j:n<=8)(d:List (List Ch)):((QA L F n m d).length:Int)<=1+MY d (n:Int):=by
 obtain⟨k,f⟩:=u d.length
 induction k generalizing d with
 | zero=>rw[AD f.symm,oh,Hd];simp
 | succ k p =>
  obtain⟨b,bs,rfl⟩:∃b bs,d=bs++[b]:=by
   rcases GJ d with h|⟨l,a,h⟩
   .subst h;simp at f
   exact⟨a,l,by simpa using h⟩
  have:=p bs (by simp at f;omega);rw[xd,zd,AK];have:=Bh (MN b) L (F+((QA L F n m bs).length:Int)) n m o i j;omega
theorem vV(d:List (List Ch))(k:Nat)(n:Int):MY (d.take k) n<=MY d n:=by
 have e:MY d n=MY (d.take k) n+MY (d.drop k) n:=by
  unfold MY;rw[<-List.sum_append,<-DC,FL]
 have:=(jt (d.drop k) n).1;omega
def bi(W S L T H F:Int)(d:List Pr):Prop:=(1<=W/\W<=8)/\(8<=S/\S<=200)/\(1<=L/\L<=60000)/\(0<=T/\T<=1000000000)/\(0<=H/\H<=1)/\(1<=F/\F<=999999000)/\MY (NC d) W<=hv S-1
def da(S T F:Int):Bool:=decide (T+1<=1000000000/\F+hv S<=999999000)
def am(W S L T H F:Int)(d:List Pr):Dd:=⟨0,W,S,L,T+1,1-H,F+hv S,L,((QA L (F+hv S) W.toNat (56-W.toNat) (NC d)).length:Int),0,d,NE (2+(1-H)*hv S) (QA L (F+hv S) W.toNat (56-W.toNat) (NC d))++[(true,0,empty),(false,(T+1) % 2,QE (T+1) (1-H) (F+hv S) L W),(true,0,empty)]⟩
def PU(W S L T H F:Int)(d:List Pr):Dd:=if da S T F=true then am W S L T H F d else LO 4
def QL(W S L T H F R U O:Int)(d:List Pr):Dd:=if OW W S L T H F R U O d=true then PU W S L T H F d else LO 1
theorem un{W S L T H F R U O:Int}{d:List Pr}(h:OW W S L T H F R U O d=true):bi W S L T H F d:=by
 unfold OW VO at h;simp only[BF,BH]at h;obtain⟨⟨⟨⟨⟨⟨⟨f,i⟩,j⟩,⟨⟨k,_⟩,l⟩,m⟩,_⟩,_⟩,_⟩,o⟩:=h;exact⟨f,i,j,k,l,m,o⟩
theorem O4(W S L T H F R U O:Int)(f:List Pr)(j:f.length<=1048576):(QL W S L T H F R U O f).rs.length<=1048576/\(QL W S L T H F R U O f).ops.length<=1000:=by
 unfold QL PU
 cases h:OW W S L T H F R U O f with
 | false=>simp[LO]
 | true =>
  cases h2:da S T F with
  | false=>simp[LO]
  | true =>
   obtain⟨⟨m,l⟩,i,o,p,q,r,s⟩:=un h;have t:=QS i;have k:=mu L (F+hv S) W.toNat (56-W.toNat) d d d (NC f);rw[show((W.toNat:Nat):Int)=W by omega]at k;simp only[IV,am,AK,TN];refine⟨j,?_⟩;simp;omega
theorem bp(k v:Q4):∀u∈[Ow k,Ow v],u.oneCell'=true:=by
 intro u d;simp only[DZ,EY,IX]at d;rcases d with rfl|rfl<;>rfl
theorem nL(o:List Pr)(c:Pr):LS (o++[c])=LS o++[Ow c.1,Ow c.2]:=by rw[XZ];rfl
theorem lq{A:Array Ra}{t:TypeId}(d:w.heap.size=g):Row (w.alloc (.cells A t)) g A.toList:=by subst d;exact LZ w A t
theorem Ih{o:Obj}{r:Option Nat}(h:(w.drew.alloc o).grownBy w' r):(w.alloc o).grownBy w' r:=⟨h.os,h.tape,h.output,h.size,h.block⟩
theorem M3{d:Nat}{e:TypeId}{s:Nat}{l:List Ra}(h:w.ownsRow d e s v n l)(o:∀b,d<=b->b<w.heap.size->w'.heap[b]?=w.heap[b]?):w'.ownsRow d e s v n l:=by
 refine⟨h.1,?_⟩;rcases h.2 with p|⟨g,f,i,rfl,k,j,m⟩
 .exact .inl p
 exact .inr ⟨g,f,i,z,k,(o g k (AR.1 j).1).E j,m⟩
theorem tn{α:Type}(l:List α)(k:Nat)(d:α)(h:k<l.length):l.take (k+1)=l.take k++[l.getD k d]:=by
 rw[BJ h];simp[List.getD,h]
structure OutX(w wb wr:Q9)(v:Ra)(o:List Pr):Prop where
 row:Row wr (w.heap.size+1+1+1) [v]
 own:wr.ownsRow (w.heap.size+1+1+1+1) 151 2 v o.length (LS o)
 bel:Below (w.heap.size+1+1+1) wb wr
theorem OutX.I{o:List Pr}(h:OutX w wb wr v o)(d:Q3 wr w'):OutX w wb w' v o:=⟨h.row.I d,MK h.own d,h.bel.E (d.J (by have:=h.row.lt;omega))⟩
theorem OutX.sl{o:List Pr}(h:OutX w wb wr v o):∃d f,v=Y d o.length f:=by
 rcases MS h.own with ⟨f,i⟩|⟨g,d,f,_⟩
 .exact⟨none,0,by rw[f,i]⟩
 exact⟨_,d,f⟩
theorem OutX.push{f:Q9}{m:Q5}{p g9 l:Nat}{d:List Pr}{x:Pr}{o:Obj}(h:OutX w wb wr (Y m d.length p) d)
  (q:f.ownsRow (w.heap.size+1+1+1+1) 151 2 (Y (Hw g9 0) (d.length+1) l) (d.length+1) (LS d++[Ow x.1,Ow x.2]))(i:(wr.alloc o).grownBy f (Y m d.length p).ownBlock):Row f (w.heap.size+1+1+1) [Y m d.length p]/\OutX w wb (f.setCell (Ki (w.heap.size+1+1+1) 0) (Y (Hw g9 0) (d.length+1) l)) (Y (Hw g9 0) (d.length+1) l) (d++[x])/\Below (w.heap.size+1+1+1) wb f:=by
 have y:=h.row.lt;have s:Row f (w.heap.size+1+1+1) [Y m d.length p]:=(h.row.alloc o).V i (λe=>by have:=(h.own.lt _ e.symm).1;omega);have r:Below (w.heap.size+1+1+1) wb f:=h.bel.E (LK (w:=wr) ⟨i.os,i.tape,i.output,AJ σ i.size,λk j t=>(i.block k τ t).E (((@AB wr.heap.size wr).alloc AA o).block k j)⟩ ω (λk j=>by have:=(h.own.lt k j).1;omega));have u:=(q.lt g9 rfl).1;refine⟨s,⟨s.set 0 σ _,?_,r.setCell (p:=(Ki (w.heap.size+1+1+1) 0)) AA _⟩,r⟩;have t:f.grownBy (f.setCell (Ki (w.heap.size+1+1+1) 0) (Y (Hw g9 0) (d.length+1) l)) (some (w.heap.size+1+1+1)):=⟨rfl,rfl,rfl,by simp[World.setCell],λk _ j=>BM _ _ _ k (λe=>j (by rw[e]))⟩;have:=q.kept t (.inr (by simp[Value.ownBlock];omega));rw[AK,nL];exact this
def Br(w w':Q9)(e:Ending)(d:List Pr):Prop:=∃a c,e=Q2 (LX a d.length c)/\d.length<=c/\OwnS w' a (LS d)/\(∀g,blk a d.length=some g->w.heap.size<=g)/\Q3 w w'/\w'.ownsRow w.heap.size 151 2 (Y a d.length c) d.length (LS d)
theorem Ee{B i:Nat}{e:TypeId}{k:Nat}{j:List Ra}(h:w.ownsRow B e k v n j)(o:i<=B):w.ownsRow i e k v n j:=⟨h.1,h.2.imp id (λ⟨g,d,f,l,m,r⟩=>⟨g,d,f,l,AJ o m,r⟩)⟩
theorem tE{l:Q5}{m:Nat}{f:List Pr}(h:OutX w wb wr (Y l f.length m) f)(t:Below w.heap.size wr w')(u:∀k,w.heap.size+1+1+1+1<=k->w'.heap[k]?=wr.heap[k]?)(r:Q3 w wb)(x:w.heap.size+1+1+1+1<=wb.heap.size):Br w w' (Q2 (LX l f.length m)) f:=by
 have q:f.length<=m:=by
  rcases h.own.2 with ⟨j,o⟩|⟨g,k,i,j,_,_,p,_⟩
  .rw[o];omega
  cases j;exact p
 have p:=M3 h.own (λb i _=>u b i);refine⟨l,m,z,q,?_,λg i=>?_,r.E ((h.bel.J d).E t),Ee p d⟩
 .rcases MS p with ⟨_,o⟩|⟨g,k,j,_,_,s⟩
  .exact .inl (by rw[AD o];rfl)
  cases j;exact .inr ⟨g,z,s⟩
 unfold blk at i
 split at i
 .cases i
 cases l with
 | none=>cases i
 | some j =>
  simp at i;subst i;have:=(h.own.lt j.block z).1;omega
theorem Ci(a:Q5)(s:List Pr)(c:Nat)(p t:Q4)(K:Bool)(w:Q9)(m:Prs w a s)(hl:s.length<=100000):Calls prog 240 #[LX a s.length c,.agg #[Ow p,Ow t,Q1 K]] w λe w'=>Br w w' e (PW (p,t,K) s):=by
 obtain⟨i0,i,k,l,o⟩:=ZR kt;have T:=LE (AG i (AG k (AG l o)));clear i k l o;unfold LX;obtain⟨wb,k⟩:=u ((((w.alloc (.cells #[Y a s.length c] 42)).alloc (.cells #[Ow p,Ow t,Q1 K] 102)).alloc (.cells #[Y none 0 0] 42)).alloc (.cells #[Y none 0 0] 42));have dZ:wb.heap.size=w.heap.size+1+1+1+1:=by rw[k];simp
 have bJ:Hid (Q3 w wb):=by show Below _ _ _;rw[k];exact(((LH _ _).alloc j _).alloc ξ _).alloc ξ _
 have N:Hid (∀w',Below (w.heap.size+1+1+1) wb w'->Row w' (w.heap.size) [Y a s.length c]/\Row w' (w.heap.size+1) [Ow p,Ow t,Q1 K]/\Row w' (w.heap.size+1+1) [Y none 0 0]):=λw' E=>by
  have x:Row wb (w.heap.size) [Y a s.length c]:=by rw[k];exact(((LZ w _ _).alloc _).alloc _).alloc _
  have y:Row wb (w.heap.size+1) [Ow p,Ow t,Q1 K]:=by rw[k];exact((lq (w:=w.alloc _) j).alloc _).alloc _
  have J:Row wb (w.heap.size+1+1) [Y none 0 0]:=by rw[k];exact(lq (w:=(w.alloc _).alloc _) j).alloc _
  have p:∀ {g:Nat} {cs:List Ra},g<w.heap.size+1+1+1->Row wb g cs->Row w' g cs:=λl r=>⟨AC r.lt E.size,λi v hv=>(E.cell (p:=⟨_,i,none⟩) l).E (r.cell i v hv),λi o=>(E.frozen (p:=⟨_,i,none⟩) l).E (r.froz i o)⟩
  exact⟨p d x,p d y,p d J⟩
 have l:Row wb (w.heap.size+1+1+1) [Y none 0 0]:=by rw[k];exact lq (w:=((w.alloc _).alloc _).alloc _) j
 have dF:Hid (Row wb (w.heap.size+1+1+1) [Y none 0 0]):=l;clear l;go_enter func240,ntmps240;go_wp2_with fail;rw[<-k];clear k;go_loopw [6,7] (λl i wr=>∃k:Nat,k<=s.length/\i=Z (k:Int)/\l=Q1 (chW (p,t,K) (s.take k)).1/\∃y,OutX w wb wr y (chW (p,t,K) (s.take k)).2) (λ_ i _=>s.length-(intOf i).toNat)
 case atStart =>
  exact⟨0,AL,z,by simp[chW],Y none 0 0,⟨dF.j,BU _ _ _ _,D⟩⟩
 case round =>
  obtain⟨k,I,rfl,rfl,y,i⟩:=hrel;obtain⟨x,o⟩:=u ((chW (p,t,K) (s.take k)).2);obtain⟨l,r⟩:=u ((chW (p,t,K) (s.take k)).1);have R:chW (p,t,K) (s.take k)=(l,x):=by rw[r,o]
  rw[<-o]at i;rw[<-r]
  have cT:x.length<=100001:=by
   have:=(TV (p,t,K) (s.take k) _ z).1;rw[<-o,AZ]at this
   split at this<;>omega
  clear o r;obtain⟨va,vc,rfl⟩:=i.sl;obtain⟨H,Q,X⟩:=N.j _ i.bel;have q0:=H.y 0;have bU:=Q.y 0;have bV:=Q.y 1;have q3:=i.row.y 0;have r3:=i.row.A 0;have l3:=i.row.lt;have cH:Q3 w wr:=bJ.j.E (i.bel.J d);have B:=LE i;clear i
  by_cases cM:k<s.length
  .obtain⟨b,o,r,J,rfl,O,S,i⟩:=(m.I cH).at cM
   have bR:b<w.heap.size:=by
    rcases m with m|⟨M,U,F,L,_⟩
    .subst m;simp at cM
    cases F;exact L
   have dP:(k:Int)<(s.length:Int):=d
   have eF:(0:Int)<=(k:Int):=d
   have F:chW (p,t,K) (s.take (k+1))=NX p t (l,x) (r,J):=by rw[tn s k (empty,empty) cM,SJ,<-i.j,R]
   have A:=LE F;clear F R i H Q X
   have C:Hid (∀w',Below (w.heap.size+1+1+1) wr w'->w'.cell? (Ki w.heap.size 0)=some (Y (Hw b o) s.length c)/\w'.cell? (Ki b (o+k*2))=some (Ow r)/\w'.cell? (Ki b (o+k*2+1))=some (Ow J)/\w'.cell? (Ki (w.heap.size+1) 0)=some (Ow p)/\w'.cell? (Ki (w.heap.size+1) 1)=some (Ow t)):=λw' E=>⟨(E.cell (p:=(Ki w.heap.size 0)) (by show w.heap.size<_;omega)).E q0,(E.cell (p:=(Ki b (o+k*2))) (by show b<_;omega)).E O,(E.cell (p:=(Ki b (o+k*2+1))) (by show b<_;omega)).E S,(E.cell (p:=(Ki (w.heap.size+1) 0)) (by show w.heap.size+1<_;omega)).E bU,(E.cell (p:=(Ki (w.heap.size+1) 1)) (by show w.heap.size+1<_;omega)).E bV⟩
   have dH:Hid (∀w',Q3 w w'->w'.cell? (Ki b (o+k*2))=some (Ow r)/\w'.cell? (Ki b (o+k*2+1))=some (Ow J)):=λw' E=>⟨(E.cell (p:=(Ki b (o+k*2))) bR).E ((cH.cell (p:=(Ki b (o+k*2))) bR).symm.E O),(E.cell (p:=(Ki b (o+k*2+1))) bR).E ((cH.cell (p:=(Ki b (o+k*2+1))) bR).symm.E S)⟩
   have U:Hid (∀w',Below (w.heap.size+1+1+1) wb w'->w'.cell? (Ki w.heap.size 0)=some (Y (Hw b o) s.length c)/\w'.cell? (Ki b (o+k*2))=some (Ow r)/\w'.cell? (Ki b (o+k*2+1))=some (Ow J)/\w'.cell? (Ki (w.heap.size+1) 0)=some (Ow p)/\w'.cell? (Ki (w.heap.size+1) 1)=some (Ow t)):=λw' E=>by
    obtain⟨H,Q,X⟩:=N.j _ E;obtain⟨i,F⟩:=dH.j w' (bJ.j.E (E.J d));exact⟨H.y 0,i,F,Q.y 0,Q.y 1⟩
   obtain⟨f,M⟩:=u (!l && UM p r);obtain⟨d1,V⟩:=u (l || f);obtain⟨L,F⟩:=u (if f=true then x++[(p,t)] else x);have dR:L.length<=100002:=by rw[F];split<;>(try rw[AK])<;>(try simp only[BN,AU])<;>omega
   have W:NX p t (l,x) (r,J)=(d1,if r=p then L else L++[(r,J)]):=by
    rw[V,F,M];unfold NX;cases l<;>cases I:UM p r<;>by_cases i:r=p<;>simp[i,I]<;>(first|done|(rw[i]at I;simp_all))
   rw[W]at A;have bI:=LE M;have bW:=LE V;have bY:=LE F;clear M V F W;have M:Q3 wr wr.drew:=(D).drew;go_upto_region 6 with fail;clear C O S q0 bU bV q3 r3 l3;go_cut [30] from 18 to 30 (λi S=>i=Q1 f/\Q3 wr S)
   case first =>
    cases l with
    | true =>
     refine AN (S:=λw'=>w'.cell? (Ki w.heap.size 0)=some (Y (Hw b o) s.length c)/\w'.cell? (Ki b (o+k*2))=some (Ow r)/\w'.cell? (Ki b (o+k*2+1))=some (Ow J)/\w'.cell? (Ki (w.heap.size+1) 0)=some (Ow p)/\w'.cell? (Ki (w.heap.size+1) 1)=some (Ow t)) h (U.j _ (B.j.bel.E (M.J (by have:=B.j.row.lt;omega)))) (λi=>?_);refine TY 0 (Q1 true) z i ?_;simp only[PS];refine TY 1 (Q1 false) z i ?_;simp only[PS];refine TY 2 (Q1 false) z i ?_;simp only[PS];refine TK 3 (undef) z (IT ⟨h,z⟩) i ?_;simp only[PS];refine TK 4 (undef) z (IT ⟨h,z⟩) i ?_;simp only[PS];refine TK 5 (undef) z (IT ⟨h,z⟩) i ?_;simp only[PS];refine TK 6 (undef) z (IT ⟨h,z⟩) i ?_;simp only[PS];refine TK 7 (undef) z (IT ⟨h,z⟩) i ?_;simp only[PS]
     refine TK 8 (undef) z (IT ⟨h,z⟩) i ?_;simp only[PS];refine TK 9 (undef) z (IT ⟨h,z⟩) i ?_;simp only[PS];refine TK 10 (undef) z (IT ⟨h,z⟩) i ?_;simp only[PS];refine TK 11 (undef) z (IT ⟨h,z⟩) i ?_;simp only[PS];refine TY 12 (Q1 false) z i ?_;simp only[PS];refine DN ?_;go_wp2_with fail;go_meet;exact⟨by rw[bI.j];rfl,M⟩
    | false =>
     rcases KN (LJ r p) 0 with F|F|F
     focus
      have O:Hid (UM p r=false):=ZO F;have V:Op.bytesLess r.toList p.toList=true:=(NI _ _).1 F
     rotate_left
     focus
      have i:=(MB _ _).1 F;have O:Hid (UM p r=false):=by show _=_;rw[i];exact SN _
      have V:r.toList=p.toList:=by rw[i]
      clear i
     rotate_left
     .have O:Hid (UM p r=true):=PM F
      have V:¬(r.toList=p.toList):=λi=>by rw[CZ,CZ]at i;rw[EV (IH i),ML]at F;omega
      have W:Op.bytesLess r.toList p.toList=false:=by cases hq:Op.bytesLess r.toList p.toList with|false=>rfl|true=>(have:=(NI _ _).2 hq;omega)
      refine AN (S:=λw'=>w'.cell? (Ki w.heap.size 0)=some (Y (Hw b o) s.length c)/\w'.cell? (Ki b (o+k*2))=some (Ow r)/\w'.cell? (Ki b (o+k*2+1))=some (Ow J)/\w'.cell? (Ki (w.heap.size+1) 0)=some (Ow p)/\w'.cell? (Ki (w.heap.size+1) 1)=some (Ow t)) h (U.j _ (B.j.bel.E (M.J (by have:=B.j.row.lt;omega)))) (λi=>?_);refine TY 0 (Q1 false) z i ?_;simp only[PS];refine TY 1 (Q1 true) z i ?_;simp only[PS];refine TY 2 (Q1 true) z i ?_;simp only[PS];refine TY 3 (Dr w.heap.size 0) z i ?_;simp only[PS];refine TY 4 (Y (Hw b o) s.length c) z i ?_;simp only[PS];refine TY 5 (Z (k:Int)) z i ?_;simp only[PS];refine TY 6 (Dr b (o+k*2)) z i ?_;simp only[PS];refine TY 7 (Dr b (o+k*2)) z i ?_;simp only[PS];refine TY 8 (Ow r) z i ?_
      simp only[PS];refine TY 9 (Dr (w.heap.size+1) 0) z i ?_;simp only[PS];refine TY 10 (Ow p) z i ?_;simp only[PS];refine TY 11 (Q1 true) z i ?_;simp only[PS];refine TY 12 (Q1 true) z i ?_;simp only[PS];refine DN ?_;go_wp2_with fail;go_meet;exact⟨by rw[bI.j,O.j];rfl,M⟩
     all_goals
      refine AN (S:=λw'=>w'.cell? (Ki w.heap.size 0)=some (Y (Hw b o) s.length c)/\w'.cell? (Ki b (o+k*2))=some (Ow r)/\w'.cell? (Ki b (o+k*2+1))=some (Ow J)/\w'.cell? (Ki (w.heap.size+1) 0)=some (Ow p)/\w'.cell? (Ki (w.heap.size+1) 1)=some (Ow t)) h (U.j _ (B.j.bel.E (M.J (by have:=B.j.row.lt;omega)))) (λi=>?_);refine TY 0 (Q1 false) z i ?_;simp only[PS];refine TY 1 (Q1 true) z i ?_;simp only[PS];refine TY 2 (Q1 true) z i ?_;simp only[PS];refine TY 3 (Dr w.heap.size 0) z i ?_;simp only[PS];refine TY 4 (Y (Hw b o) s.length c) z i ?_;simp only[PS];refine TY 5 (Z (k:Int)) z i ?_;simp only[PS];refine TY 6 (Dr b (o+k*2)) z i ?_;simp only[PS];refine TY 7 (Dr b (o+k*2)) z i ?_;simp only[PS];refine TY 8 (Ow r) z i ?_
      simp only[PS];refine TY 9 (Dr (w.heap.size+1) 0) z i ?_;simp only[PS];refine TY 10 (Ow p) z i ?_;simp only[PS];refine TY 11 (Q1 false) z i ?_;simp only[PS];refine TY 12 (Q1 false) z i ?_;simp only[PS];refine DN ?_;go_wp2_with fail;go_meet;exact⟨by rw[bI.j,O.j];rfl,M⟩
   case rest =>
    obtain⟨rfl,E⟩:=hcut
    rename World=>wa
    have W:=LE (B.j.I E);clear B E M;have B:=W;clear W;obtain⟨-,-,-,bU,bV⟩:=U.j _ B.j.bel;have q3:=B.j.row.y 0;have r3:=B.j.row.A 0;have l3:=B.j.row.lt;go_upto_if 30 with fail;go_cut [6] from 31 to 40 (λi S=>i=Q1 d1/\∃va vc,OutX w wb S (Y va L.length vc) L)
    case first =>
     cases f with
     | true =>
      have W:=bY.j;rw[AI z]at W;subst W;have C:=bW.j;rw[Bool.or_true]at C;subst C;go_wp2_with (at_builtin;refine SX _ z _ _ 40 z (w.heap.size+1+1+1+1) underlying40 T.j z d _ x.length _ z (B.j.own.alloc _) (Ki wa.heap.size 0) 1 1 [Ow p,Ow t] z z (World.news_of_block (AV wa _)) (bp _ _) τ (wa.heap.size+1) j ?_;intro O i w7 V S G cN;have F:=OutX.push (x:=(p,t)) B.j V S;have q7:=F.1.y 0;have r7:=F.1.A 0;have l7:=F.1.lt;have cO:=(N.j _ F.2.2).2.2.y 0;have eB:=(N.j _ F.2.2).2.2.A 0;have q:=LE F;clear V S G F);have F:=q.j.2.1;have S:Y (Hw O 0) (x.length+1) i=Y (Hw O 0) (x++[(p,t)]).length i:=by rw[AK];rfl
      go_meet;refine⟨z,Hw O 0,i,?_⟩;rw[<-S];exact F
     | false =>
      have W:=bY.j;rw[AF j]at W;subst W;have C:=bW.j;rw[Bool.or_false]at C;subst C;go_wp2_with fail;go_meet;exact⟨z,va,vc,B.j⟩
    case rest =>
     obtain⟨rfl,C,q,F⟩:=hcut
     rename World=>W
     clear q3 r3 l3 bU bV B bY bW bI;have B:=LE F;clear F;obtain⟨V,F⟩:∃V,(r.toList == p.toList)=V:=⟨_,z⟩;have M:Q3 W W.drew:=(D).drew;go_upto_region 9 with fail;refine AN (S:=λw'=>w'.cell? (Ki w.heap.size 0)=some (Y (Hw b o) s.length c)/\w'.cell? (Ki b (o+k*2))=some (Ow r)/\w'.cell? (Ki b (o+k*2+1))=some (Ow J)/\w'.cell? (Ki (w.heap.size+1) 0)=some (Ow p)/\w'.cell? (Ki (w.heap.size+1) 1)=some (Ow t)) h (U.j _ (B.j.bel.E (M.J (by have:=B.j.row.lt;omega)))) (λi=>?_);refine TY 0 (Dr w.heap.size 0) z i ?_;simp only[PS];refine TY 1 (Y (Hw b o) s.length c) z i ?_;simp only[PS];refine TY 2 (Z (k:Int)) z i ?_;simp only[PS];refine TY 3 (Dr b (o+k*2)) z i ?_;simp only[PS];refine TY 4 (Dr b (o+k*2)) z i ?_
     simp only[PS];refine TY 5 (Ow r) z i ?_;simp only[PS];refine TY 6 (Dr (w.heap.size+1) 0) z i ?_;simp only[PS];refine TY 7 (Ow p) z i ?_;simp only[PS];refine TY 8 (Q1 (!V)) z i ?_;simp only[PS];refine DN ?_;obtain⟨S,G⟩:=u W.drew;rw[<-G]at M⊢;have O:=LE (B.j.I M);clear G B M i;have i:=O.j.row.lt;have G:=O.j.row.y 0;have rd:=O.j.row.A 0
     cases V with
   | true =>
    have HE:Hid (r=p):=by have:=eq_of_beq F;rw[CZ,CZ]at this;exact EV (IH this)
    clear F;go_wp2;refine⟨⟨k+1,d,ν,by rw[A.j],Y C L.length q,?_⟩,by simp[intOf];omega⟩;rw[A.j,AI HE.j];exact O.j
   | false =>
    have HE:Hid (¬r=p):=λe=>by rw[e]at F;simp at F
    clear F;go_upto_region 10 with fail
    have bZ:Hid (∀w',Below (w.heap.size+1+1+1) wb w'->Row w' (w.heap.size+1+1+1) [Y C L.length q]->w'.cell? (Ki w.heap.size 0)=some (Y (Hw b o) s.length c)/\w'.cell? (Ki b (o+k*2))=some (Ow r)/\w'.cell? (Ki b (o+k*2+1))=some (Ow J)/\w'.cell? (Ki (w.heap.size+1) 0)=some (Ow p)/\w'.cell? (Ki (w.heap.size+1) 1)=some (Ow t)/\w'.cell? (Ki (w.heap.size+1+1+1) 0)=some (Y C L.length q)):=λw' E i=>by obtain⟨a1,a2,a3,a4,a5⟩:=U.j _ E;exact⟨a1,a2,a3,a4,a5,i.y 0⟩
    have dM:Q3 S (S.drew.alloc (.cells #[Ow r,Ow J] 151)):=(D).drew.alloc AA _;have W:=LE (O.j.I dM);have cQ:=O.j.I (@D S.heap.size S).drew;refine WN (10) (S:=λw'=>w'.cell? (Ki w.heap.size 0)=some (Y (Hw b o) s.length c)/\w'.cell? (Ki b (o+k*2))=some (Ow r)/\w'.cell? (Ki b (o+k*2+1))=some (Ow J)/\w'.cell? (Ki (w.heap.size+1) 0)=some (Ow p)/\w'.cell? (Ki (w.heap.size+1) 1)=some (Ow t)/\w'.cell? (Ki (w.heap.size+1+1+1) 0)=some (Y C L.length q)) h (bZ.j _ cQ.bel cQ.row) (λi=>?_);refine OK 0 (Dr (w.heap.size+1+1+1) 0) z i ?_;simp only[PS];refine OK 1 (Y C L.length q) z i ?_;simp only[PS];refine OK 2 (Dr w.heap.size 0) z i ?_;simp only[PS];refine OK 3 (Y (Hw b o) s.length c) z i ?_
    simp only[PS];refine OK 4 (Z (k:Int)) z i ?_;simp only[PS];refine OK 5 (Dr b (o+k*2)) z i ?_;simp only[PS];refine OK 6 (.agg #[Ow r,Ow J]) z i ?_;simp only[PS];refine OJ 7 z (λKq G=>?_);go_simp;refine G.j _ _ (bZ.j _ W.j.bel W.j.row) (λdL=>?_)
    try simp only[PS]
    refine OJ 8 z (λKq G=>?_);refine step_append_lies _ ρ _ _ _ ρ (w.heap.size+1+1+1+1) 151 i0 (.agg #[Ow empty,Ow empty]) 2 32 underlying40 T.j.1 T.j.2.1 T.j.2.2.1 T.j.2.2.2 z d (Y C L.length q) L.length _ ρ W.j.own (Ki S.heap.size 0) 1 1 [Ow r,Ow J] ρ z (World.news_of_block (AV S.drew _)) (bp _ _) d (by unfold maxLen;(try simp)<;>omega) (by(try simp)<;>omega) (by(try simp)<;>omega) (S.heap.size+1) j ?_;intro g9 cA w9 aO aL cE dQ;have F:=OutX.push (x:=(r,J)) O.j aO (Ih aL);have V:=LE F;clear aO aL cE F;refine G.j _ _ (bZ.j _ V.j.2.2 V.j.1) (λF=>?_)
    try simp only[PS]
    refine OK 9 (Dr (w.heap.size+1+1+1) 0) z F ?_;simp only[PS];refine QZ (rs:=[10]) h j ?_;refine AllReadyT.last z (λKq G=>?_);have q9:=V.j.1.y 0;have r9:=V.j.1.A 0;have l9:=V.j.1.lt;go_simp;clear q9 r9 l9;refine G.j _ _ trivial (λ_=>?_)
    try simp only[PS]
    refine VE h ?_ _;go_wp2;refine⟨⟨k+1,d,ν,by rw[A.j],Y (Hw g9 0) (L.length+1) cA,?_⟩,by simp[intOf];omega⟩;rw[A.j,AF HE.j];simpa only[AK,EJ] using V.j.2.1
  have r:k=s.length:=d
  subst r;rw[DG]at R;have L:=X.y 0;have J:=X.A 0;have M:=X.lt;clear H Q X
  cases l with
  | true =>
   have hF:PW (p,t,K) s=x:=by unfold PW;rw[R];rfl
   have o:=LE hF;clear R hF;go_wp2_with fail;rw[o.j];refine AE (v:=LX va x.length vc) (by simp[results,results240,go_sem,LX,L]) z (tE B.j ?_ ?_ bJ.j d)
   .exact((D).setCell (p:=(Ki (w.heap.size+1+1) 0)) (by show w.heap.size<=w.heap.size+1+1;omega) _)
   exactλk I=>BM _ _ _ k (by show _≠w.heap.size+1+1;omega)
  | false =>
   have hF:PW (p,t,K) s=x++[(p,t)]:=by unfold PW;rw[R];rfl
   have o:=LE hF;clear R hF;go_wp2_with (at_builtin;refine SX _ z _ _ 40 z (w.heap.size+1+1+1+1) underlying40 T.j z d _ x.length _ z (B.j.own.alloc _) (Ki wr.heap.size 0) 1 1 [Ow p,Ow t] z z (World.news_of_block (AV wr _)) (bp _ _) τ (wr.heap.size+1) j ?_;intro O i w7 V S G cN;have F:=OutX.push (x:=(p,t)) B.j V S;have q7:=F.1.y 0;have r7:=F.1.A 0;have l7:=F.1.lt;have cO:=(N.j _ F.2.2).2.2.y 0;have eB:=(N.j _ F.2.2).2.2.A 0;have q:=LE F;clear V S G F);have cO:w7.cell? (Ki (w.heap.size+1+1) 0)=some (Y none 0 0):=(N.j _ q.j.2.2).2.2.y 0;rw[o.j];have S:Y (Hw O 0) (x.length+1) i=Y (Hw O 0) (x++[(p,t)]).length i:=by rw[AK];rfl
   have F:=q.j.2.1;rw[S]at F;refine AE (v:=LX (Hw O 0) (x++[(p,t)]).length i) (by simp[results,results240,go_sem,LX,cO]) z (tE F ?_ ?_ bJ.j d)
   .rw[<-S];exact((D).setCell (p:=(Ki (w.heap.size+1+1) 0)) (by show w.heap.size<=w.heap.size+1+1;omega) _)
   rw[<-S];exactλk I=>BM _ _ _ k (by show _≠w.heap.size+1+1;omega)
theorem Lb(a:Q5)(d:List Pr)(c:Nat)(i j:Q4)(f:Bool)(w:Q9)(h:Prs w a d)(s:d.length<=100000):Calls prog 240 #[LX a d.length c,.agg #[Ow i,Ow j,Q1 f]] w λe w'=>mt w w' e (PW (i,j,f) d):=by
 refine(Ci a d c i j f w h s).J ?_;rintro e w' ⟨k,l,m,o,p,q,r,-⟩;exact⟨k,l,m,o,p,q,r⟩
def eq(w w':Q9)(e:Ending)(d:List Pr)(f:Int):Prop:=∃a c,e=Q2 (.tuple #[LX a d.length c,Z f])/\d.length<=c/\OwnS w' a (LS d)/\(∀g,blk a d.length=some g->w.heap.size<=g)/\Q3 w w'
theorem jj{e:Ending}{d:Int}(i:e=Q2 (.tuple #[LX a 0 c,Z d]))(f:Q3 w w'):eq w w' e [] d:=⟨a,c,i,AL,.inl z,λg h=>(by cases h),f⟩
theorem OwnS.setA(h:OwnS w a cs)(p:Addr)(f:∀g,a=Hw g 0->cs≠[]->p.block≠g)(v:Ra):OwnS (w.setCell p v) a cs:=by
 by_cases d:cs=[]
 .exact .inl d
 obtain⟨g,rfl,i⟩:=h.resolve_left d
 exact .inr ⟨g,rfl,i.other p (f g rfl d) v⟩
theorem OwnS.prsA{d:List Pr}(h:OwnS w a (LS d)):Prs w a d:=by
 rcases h with h|⟨g,rfl,h⟩
 .exact .inl (by have:=BD List.length h;rw[aw,AU]at this;exact AD ω)
 exact h.prs
theorem yx{d:List Pr}(h:LS d≠[]):d.length≠0:=λe=>h (by rw[AD e];rfl)
theorem Bv(a:Q5)(o:List Pr)(c:Nat)(C:Q5)(b:List Ch)(c2:Nat)(w:Q9)(m:Prs w a o)(hl:o.length<=1048576)(hs:∀x∈o,x.1.size<=1048576/\x.2.size<=1048576)(B:Chs w C b)(cS:b.length<=1048576)(cX:∀x∈b,x.1.size<=1048576/\x.2.1.size<=1048576):Calls prog 174 #[LX a o.length c,Y C b.length c2] w λe w'=>eq w w' e (QT o b) (QW o b):=by
 have t:∀i k,Q3 w ((w.alloc i).alloc k):=λi k=>(LH _ _).alloc j _
 have R:=LE (λw' k=>lk a o c w' k hl hs);have f:=LE (λw' k=>vg C b c2 w' k cS cX);unfold LX;unfold QT QW
 cases hok:MH o with
 | false =>
  rw[hok]at R;simp only[Bool.false_and,FD,JA];rw[AF d];go_enter func174,ntmps174;go_wp2_with (go_at_call 106;refine(R.j _ (m.I (t _ _))).J ?_;rintro e T ⟨rfl,i⟩;have r:T.cell? (Ki (w.heap.size+1) 0)=some (Y none 0 0):=OG i l j;have J:T.frozen? (Ki (w.heap.size+1) 0)=false:=UL i l j;have K:w.heap.size+1<T.heap.size:=AC j i.size);refine AE (v:=.tuple #[LX none 0 0,Z 1]) (by simp[results,results174,go_sem,LX,r]) z (jj z ?_);exact((t _ _).E (i.J q)).setCell (p:=(Ki (w.heap.size+1) 0)) (by show w.heap.size<=w.heap.size+1;omega) _
 | true =>
  rw[hok]at R;simp only[GL]
  cases hokb:PZ b with
  | false =>
   rw[hokb]at f;simp only[FD,JA];rw[AF d];go_enter func174,ntmps174
   go_wp2_with (first|(go_at_call 106;refine(R.j _ (m.I (t _ _))).J ?_;rintro e T ⟨rfl,i⟩;have G:=LE i;clear i)|(go_at_call 173;refine(f.j _ (B.I ((t _ _).E (G.j.J q)))).J ?_;rintro e F ⟨rfl,s⟩;have i:=G.j;have p:=i.E (s.J i.size);have r:F.cell? (Ki (w.heap.size+1) 0)=some (Y none 0 0):=OG p l j;have J:F.frozen? (Ki (w.heap.size+1) 0)=false:=UL p l j;have K:w.heap.size+1<F.heap.size:=AC j p.size))
   refine AE (v:=.tuple #[LX none 0 0,Z 1]) (by simp[results,results174,go_sem,LX,r]) z (jj z ?_);exact((t _ _).E (p.J q)).setCell (p:=(Ki (w.heap.size+1) 0)) (by show w.heap.size<=w.heap.size+1;omega) _
  | true =>
   rw[hokb]at f;simp only[IV];have dL:o.length<=100:=(gw hok).1;have cT:b.length<=20:=(dr hokb).1.2;have bI:=LE (λw' k=>kl a o c w' k hl);unfold mt LX at bI;have cC:=LE (TU o b);go_enter func174,ntmps174
   go_wp2_with (first|(go_at_call 106;refine(R.j _ (m.I (t _ _))).J ?_;rintro e T ⟨rfl,i⟩;have G:=LE i;clear i)|(go_at_call 173;refine(f.j _ (B.I ((t _ _).E (G.j.J q)))).J ?_;rintro e F ⟨rfl,s⟩;have N:=LE (G.j.E (s.J G.j.size));clear s;have q0:F.cell? (Ki w.heap.size 0)=some (Y a o.length c):=OG N.j l q)|(go_at_call 108;refine(bI.j _ (m.I ((t _ _).E (N.j.J q)))).J ?_;rintro e p ⟨a5,c5,rfl,cO,x,r,k⟩;have bH:=LE (N.j.E (k.J N.j.size));have bJ:=LE x;have bC:=cO;have bZ:=LE r;have aY:=LE k.size;clear x r k))
   have dM:w.heap.size+1<F.heap.size:=by have:=N.j.size;simp at this;omega
   have dN:F.heap.size<=p.heap.size:=aY.j;have I:Hid (Q3 w p):=(t _ _).E (bH.j.J q)
   have cE:Hid (∀w',Q3 p w'->Row w' (w.heap.size+1) [Y none 0 0]):=λw' y=>((lq (w:=w.alloc (.cells #[Y a o.length c] 42)) (A:=#[Y none 0 0]) (t:=42) (g:=w.heap.size+1) j).I bH.j).I y
   go_loopw [7] (λi wr=>∃k:Nat,k<=b.length/\i=Z (k:Int)/\∃x E,Row wr p.heap.size [Y x (NP o (b.take k)).length E]/\(NP o (b.take k)).length<=E/\OwnS wr x (LS (NP o (b.take k)))/\(∀g,blk x (NP o (b.take k)).length=some g->w.heap.size+1<g/\g≠p.heap.size)/\Q3 p wr) (λi _=>b.length-(intOf i).toNat)
   case atStart=>exact⟨0,AL,z,a5,c5,LZ p _ _,bC,bJ.j.I (LH _ _),λg s=>by have h1:=bZ.j g s;have B:=bJ.j.lt o.length (λm e=>m (by have:=BD List.length e;rw[aw,AU]at this;omega)) g s;omega,LH _ _⟩
   case round =>
    obtain⟨k,hk,rfl,x,E,i,bE,K,J,r⟩:=hrel;have hN:=cC.j k;have bV:=i.y 0;have dB:=i.A 0;have dH:=i.lt;have cY:=r.size;have H:=LE i;have X:=LE K;have V:=LE J;have O:=LE r;clear i K J r
    by_cases bF:k<b.length
    .obtain⟨i,r,L,M,J,rfl,cL,cM,cN,K⟩:=(B.I (I.j.E (O.j.J I.j.size))).at bF
     have A:i<w.heap.size:=by
      rcases B with m|⟨Q,S,h1,B,_⟩
      .subst m;simp at bF
      cases h1;exact B
     have cV:(k:Int)<(b.length:Int):=d
     have dF:(0:Int)<=(k:Int):=d
     have U:NP o (b.take (k+1))=PW (L,M,J) (NP o (b.take k)):=by rw[tn b k (empty,empty,false) bF,PB,<-K.j]
     have Q:=LE U;have D:=LE (λW (hW:Prs W x (NP o (b.take k)))=>Lb x (NP o (b.take k)) E L M J W hW d);obtain⟨cur,S⟩:=nMz (NP o (b.take k));rw[<-S]at Q D H X V bV hN bE;clear U S K;unfold LX mt at D
     have u:Hid (∀w',Below w.heap.size wr w'->w'.cell? (Ki i (r+k*3))=some (Ow L)/\w'.cell? (Ki i (r+k*3+1))=some (Ow M)/\w'.cell? (Ki i (r+k*3+2))=some (Q1 J)):=λw' y=>⟨(y.cell (p:=(Ki i (r+k*3))) A).E cL,(y.cell (p:=(Ki i (r+k*3+1))) A).E cM,(y.cell (p:=(Ki i (r+k*3+2))) A).E cN⟩
     have bY:w.heap.size<=wr.heap.size:=d
     go_wp2_with fail;refine AN (S:=λw'=>w'.cell? (Ki i (r+k*3))=some (Ow L)/\w'.cell? (Ki i (r+k*3+1))=some (Ow M)/\w'.cell? (Ki i (r+k*3+2))=some (Q1 J)) κ (u.j _ (AB).drew) (λS=>?_);refine TY 1 (Y (Hw i r) b.length c2) z S (TY 2 (Z (k:Int)) z S (TY 3 (Dr i (r+k*3)) z S (TY 4 (.agg #[Ow L,Ow M,Q1 J]) z S ?_)));simp only[PS];refine RD 0 z (λK y=>?_);go_simp;refine y.j _ _ S (λ_=>?_);clear y K
     try simp only[PS]
     refine RD 5 z (λK y=>?_);refine LM ρ 240 #[.agg #[Y x cur.length E],.agg #[Ow L,Ow M,Q1 J]] l (D.j _ ((X.j.I (AB).drew).prsA)) ?_;rintro e w7 ⟨a7,c7,rfl,cP,cW,bR,cJ⟩;refine⟨_,z,?_⟩;have U:Q3 wr w7:=(AB).drew.E cJ;have h:=H.j.I U;have q7:=h.y 0;have f7:=h.A 0;have l7:=h.lt;refine y.j _ _ (u.j _ (U.J bY)) (λcH=>?_);clear y K
     try simp only[PS]
     refine RD 6 z (λK y=>?_);go_simp;refine y.j _ _ (u.j _ ((U.J bY).setCell (p:=(Ki p.heap.size 0)) (by show w.heap.size<=p.heap.size;omega) _)) (λcI=>?_);clear y K
     try simp only[PS]
     refine DN ?_;go_wp2;refine⟨⟨k+1,d,ν,a7,c7,?_,?_,?_,?_,?_⟩,by simp[intOf];omega⟩
     .rw[Q.j];exact h.set 0 j _
     .rw[Q.j];exact cP
     .rw[Q.j];exact cW.setA _ (λg s y=>by have:wr.heap.size<=g:=bR g (by subst s;exact ND _ _ _ (yx y));show p.heap.size≠g;omega) _
     .rw[Q.j];exactλg s=>by have:wr.heap.size<=g:=bR g s;omega
     exact(O.j.E (U.J cY)).setCell (p:=(Ki p.heap.size 0)) AA _
    have Q:k=b.length:=d
    subst Q;have i:=cE.j _ O.j;have r:=i.y 0;have J:=i.A 0;have K:=i.lt;have U:w.heap.size+1≠p.heap.size:=d
    have S:¬p.heap.size=w.heap.size+1:=d
    rw[DG]at bV bE H X V;clear i hN
    by_cases i:(NP o b).length<=100
    .have M:=LE i
     have L:((NP o b).length:Int)<=100:=d
     clear i;go_wp2_with fail;refine AE (v:=.tuple #[LX x (NP o b).length E,Z 0]) (by simp[results,results174,go_sem,LX,r]) z ⟨x,E,z,bE,?_,λg s=>by have:=(V.j g s).1;omega,?_⟩
     .exact X.j.setA _ (λg s y=>by have:=(V.j g (by subst s;exact ND _ _ _ (yx y))).1;show w.heap.size+1≠g;omega) _
     exact(I.j.E (O.j.J I.j.size)).setCell (p:=(Ki (w.heap.size+1) 0)) (by show w.heap.size<=w.heap.size+1;omega) _
    have M:=LE i
    have L:¬((NP o b).length:Int)<=100:=d
    clear i;go_wp2_with fail;refine AE (v:=.tuple #[LX none 0 0,Z 2]) (by simp[results,results174,go_sem,LX,r]) z (jj z ?_);exact(I.j.E (O.j.J I.j.size)).setCell (p:=(Ki (w.heap.size+1) 0)) (by show w.heap.size<=w.heap.size+1;omega) _
def QV(W S L T H F R U O:Int)(d:List Pr)(b:List Ch):Dd :=if (OW W S L T H F R U O d && PZ b)=true then
  if QW d b=0 then
   if MY (NC (QT d b)) W<=hv S-1 then
    if QB (MN b).size W<=hv S-U then
     ⟨0,W,S,L,T,H,F,R,U+QB (MN b).size W,O+QB (MN b).size W,QT d b,NE (2+H*hv S+U) (PK (MN b) L (F+U) W.toNat (56-W.toNat))⟩
    else LO 4
   else LO 3
  else LO 2
 else LO 1
theorem Ag(s:Q4)(l f:Int)(n m:Nat)(p:n+m=56)(i:1<=n)(j:n<=8)(o:1<=l/\l<=60000)(k:1<=f)(h:f+QB s.size (n:Int)<=1000000001):((PK s l f n m).length:Int)=QB s.size (n:Int):=by
 have e:(56-(n:Int)).toNat=m:=d
 unfold QB at h⊢;rw[G d,e]at h⊢;rw[vk z d,vh]
theorem p7(l:Nat)(n:Int)(f:1<=n)(i:n<=8):0<=QB l n/\QB l n<=(l:Int) / 48+1:=by
 unfold QB;rw[G ⟨f,i⟩];unfold RK
 split
 .rename_i h;subst h;simp
 have j:48<=(56-n).toNat:=d
 have:(l-1) / (56-n).toNat<=l / 48:=AJ (Nat.div_le_div_right d) (Nat.div_le_div_left j d);obtain⟨z,k⟩:=u ((l-1) / (56-n).toNat);rw[<-k]at this⊢;omega
theorem an{W S L T H F R U O:Int}{d:List Pr}(h:OW W S L T H F R U O d=true):(1<=W/\W<=8)/\(8<=S/\S<=200)/\(1<=L/\L<=60000)/\(0<=T/\T<=1000000000)/\(0<=H/\H<=1)/\(1<=F/\F<=999999000)/\(0<=U/\U<=hv S)/\(0<=O/\O<=U)/\MH d=true:=by
 unfold OW VO at h;simp only[BF,BH]at h;obtain⟨⟨⟨⟨⟨⟨⟨f,i⟩,j⟩,⟨⟨k,_⟩,l⟩,m⟩,o⟩,p⟩,q⟩,_⟩:=h;exact⟨f,i,j,k,l,m,o,p,q⟩
theorem xm(f:List Pr)(b:List Ch):(QT f b).length<=100:=by
 unfold QT
 by_cases d:QW f b=0
 .rw[G d]
  unfold QW at d
  by_cases h:(MH f && PZ b)=true
  .rw[G h]at d
   by_cases i:(NP f b).length<=100
   .exact i
   rw[A i]at d;omega
  rw[A h]at d;omega
 rw[A d];simp
theorem pW(c:Ch):∀(f:List Pr) (k:Nat),k=f.length->∀x∈(chW c f).2,x∈f\/x=(c.1,c.2.1)
 | f,0,hk=>by rw[AD hk.symm];simp[chW]
 | f,k+1,hk=>by
  obtain⟨p,bs,rfl⟩:∃b bs,f=bs++[b]:=by
   rcases GJ f with h|⟨l,a,h⟩
   .subst h;simp at hk
   exact⟨a,l,by simpa using h⟩
  have i:=pW c bs k (by simp at hk;omega);rw[SJ];generalize chW c bs=l at i⊢;intro x d;unfold NX at d
  have j:x∈l.2\/x=(c.1,c.2.1)\/x=p:=by
   split at d
   .split at d
    .rcases BZ.1 d with h|h
     .exact .inl h
     exact .inr (.inl (DL.1 h))
    exact .inl d
   split at d
   .rcases BZ.1 d with h|h
    .rcases BZ.1 h with h|h
     .exact .inl h
     exact .inr (.inl (DL.1 h))
    exact .inr (.inr (DL.1 h))
   rcases BZ.1 d with h|h
   .exact .inl h
   exact .inr (.inr (DL.1 h))
  rcases j with h|h|h
  .rcases i x h with h|h
   .exact .inl (by simp[h])
   exact .inr h
  .exact .inr h
  exact .inl (by simp[h])
theorem I1(p:List Pr)(P:Pr->Prop)(h:∀x∈p,P x):∀(b:List Ch),(∀c∈b,P (c.1,c.2.1))->∀x∈NP p b,P x:=by
 intro b;obtain⟨k,o⟩:=u b.length
 induction k generalizing b with
 | zero=>intro _;rw[AD o.symm];exact h
 | succ k q =>
  intro m
  obtain⟨c,bs,rfl⟩:∃c bs,b=bs++[c]:=by
   rcases GJ b with h|⟨l,a,h⟩
   .subst h;simp at o
   exact⟨a,l,by simpa using h⟩
  have i:=q bs (by simp at o;omega) (λc d=>m c (by simp[d]));rw[PB];intro x d;unfold PW at d
  split at d
  .rcases pW c _ _ z x d with f|f
   .exact i x f
   rw[f];exact m c j
  rw[BZ]at d
  rcases d with d|d
  .rcases pW c _ _ z x d with f|f
   .exact i x f
   rw[f];exact m c j
  simp at d;rw[d];exact m c j
theorem sZ(d:List Pr)(b:List Ch)(P:Pr->Prop)(h:∀x∈d,P x)(f:∀c∈b,P (c.1,c.2.1)):∀x∈QT d b,P x:=by
 unfold QT
 split
 .exact I1 d P h b f
 simp
theorem Hf(W S L T H F R U O:Int)(f:List Pr)(b:List Ch):(QV W S L T H F R U O f b).rs.length<=1048576/\(QV W S L T H F R U O f b).ops.length<=1000:=by
 unfold QV
 split
 .rename_i h
  rw[BF]at h;obtain⟨j,i,k,l,m,o,p,q,r⟩:=an h.1;have t:=QS i
  split
  .split
   .split
    .rename_i s
     refine⟨by have:=xm f b;simp;omega,?_⟩;simp only[TN];have:=Bh (MN b) L (F+U) W.toNat (56-W.toNat) d d d;rw[show((W.toNat:Nat):Int)=W by omega]at this;omega
    simp[LO]
   simp[LO]
  simp[LO]
 simp[LO]
section
theorem UH:(prog.info? 115).map (·.size)=some 12:=h
theorem QD:(prog.info? 44).map (·.size)=some 10:=h
@[reducible] def RU(d:Dd)(a:Q5)(c:Nat)(b:Q5)(e:Nat):List Ra:=[Z d.C,Z d.W,Z d.S,Z d.L,Z d.T,Z d.H,Z d.F,Z d.R,Z d.U,Z d.O,Y a d.rs.length c,Y b d.ops.length e]
structure StB(w v:Q9)(cs:List Ra)(M:Q9->Prop):Prop where
 e:Q3 w v
 r1:Row v w.heap.size cs
 r2:Row v (w.heap.size+1) [Z 0,Z 0,Z 0,Z 0,Z 0,Z 0,Z 0,Z 0,Z 0,Z 0,Y none 0 0,Y none 0 0]
 m:DepF v (λb=>b≠w.heap.size/\b≠w.heap.size+1) M
section
variable {w v v':Q9} {cs cs':List Ra} {M N:Q9->Prop}
theorem StB.I(h:StB w v cs M)(d:Q3 v v'):StB w v' cs M:=⟨h.e.E (d.J h.e.size),h.r1.I d,h.r2.I d,h.m.I d⟩
theorem StB.low{B:Nat}(h:StB w v cs (λ_=>True))(d:Below B v v')(f:w.heap.size+1<B):StB w v' cs (λ_=>True) :=⟨h.e.E (d.J ω),VM h.r1 (d.block _ ω) (AC h.r1.lt d.size),VM h.r2 (d.block _ ω) (AC h.r2.lt d.size),XP (λ_=>trivial)⟩
theorem StB.put(h:StB w v cs M)(d:v.grownBy v' (some w.heap.size))(f:Row v' w.heap.size cs'):StB w v' cs' M :=⟨h.e.E (MU d h.e.size (λx e=>by have e:=BQ e;omega)),f,h.r2.V d (λe=>by injection e with e;omega),h.m.V d (λg e k=>by cases e;exact k.1 rfl)⟩
theorem StB.set(h:StB w v cs M)(i:Nat)(d:i<cs.length)(u:Ra):StB w (v.setCell (Ki w.heap.size i) u) (cs.set i u) M:=h.put (NZ (BC _ _) _ _) (h.r1.set i d u)
theorem StB.aside{X:Nat}(h:StB w v cs (λ_=>True))(d:v.grownBy v' (some X))(f:w.heap.size+1<X):StB w v' cs (λ_=>True) :=⟨h.e.E (MU d h.e.size (λx e=>by have e:=BQ e;omega)),h.r1.V d (λe=>by injection e with e;omega),h.r2.V d (λe=>by injection e with e;omega),XP (λ_=>trivial)⟩
theorem yt(w:Q9)(o:Obj):Q3 w (w.alloc o):=LH _ _
theorem StB.add(h:StB w v cs M)(k:DepF v (λb=>b≠w.heap.size/\b≠w.heap.size+1) N):StB w v cs (λW=>M W/\N W):=⟨h.e,h.r1,h.r2,h.m.and k⟩
theorem StB.fin(h:StB w v cs M)(D:Dd)(a:Q5)(c:Nat)(b:Q5)(e:Nat)(j:D.rs.length<=c)(d:OwnDn v D.rs D.ops a b)(f:∀g,blk a D.rs.length=some g->w.heap.size+2<=g)(i:∀g,blk b D.ops.length=some g->w.heap.size+2<=g):Row (v.setCells (w.heap.size+1) 0 (RU D a c b e)) (w.heap.size+1) (RU D a c b e)/\VZ w (v.setCells (w.heap.size+1) 0 (RU D a c b e)) (Q2 (MT D a c b e)) D:=by
 have G:=QF v (w.heap.size+1) 0 (RU D a c b e);have l:=(RX (lo:=w.heap.size+2) d.s TS f).V G (λg e=>by cases e;omega);have m:=(RX (lo:=w.heap.size+2) d.p qy i).V G (λg e=>by cases e;omega);exact⟨h.r2.sets _ rfl,a,c,b,e,rfl,j,⟨l.q,m.q,d.ne⟩,λg k=>by have:=f g k;omega,λg k=>by have:=i g k;omega,h.e.E (MU G h.e.size (λx e=>by have e:=BQ e;omega))⟩
theorem StB.no(h:StB w v cs M)(C:Int):Row (v.setCells (w.heap.size+1) 0 [Z C,Z 0,Z 0,Z 0,Z 0,Z 0,Z 0,Z 0,Z 0,Z 0,Y none 0 0,Y none 0 0]) (w.heap.size+1) (RU (LO C) none 0 none 0)/\VZ w (v.setCells (w.heap.size+1) 0 [Z C,Z 0,Z 0,Z 0,Z 0,Z 0,Z 0,Z 0,Z 0,Z 0,Y none 0 0,Y none 0 0]) (Q2 (MT (LO C) none 0 none 0)) (LO C) :=h.fin (LO C) none 0 none 0 AA ⟨.inl rfl,.inl rfl,.inl rfl⟩ (λg k=>by cases k) (λg k=>by cases k)
theorem StB.noR(h:StB w v cs M)(C:Int){r:Nat}{d f:Oper}{a:Act}{Q:Exit->Act->Q9->Prop}(x y:Operand)(l:d.guard=none)(hv:(execOp a.eval d).run prog v=.ok (.value (.agg #[Z C,Z 0,Z 0,Z 0,Z 0,Z 0,Z 0,Z 0,Z 0,Z 0,Y none 0 0,Y none 0 0])) v)(m:f.guard=none)(o:f.op=.store 115 x y)(p:(a.put d.dst (.agg #[Z C,Z 0,Z 0,Z 0,Z 0,Z 0,Z 0,Z 0,Z 0,Z 0,Y none 0 0,Y none 0 0])).eval x=Dr (w.heap.size+1) 0)(q:(a.put d.dst (.agg #[Z C,Z 0,Z 0,Z 0,Z 0,Z 0,Z 0,Z 0,Z 0,Z 0,Y none 0 0,Y none 0 0])).eval y=.agg #[Z C,Z 0,Z 0,Z 0,Z 0,Z 0,Z 0,Z 0,Z 0,Z 0,Y none 0 0,Y none 0 0])
  (k:∀u,Row u (w.heap.size+1) (RU (LO C) none 0 none 0)->Hid (VZ w u (Q2 (MT (LO C) none 0 none 0)) (LO C))->wpList prog [d,f].toArray Q [] ((a.put d.dst (.agg #[Z C,Z 0,Z 0,Z 0,Z 0,Z 0,Z 0,Z 0,Z 0,Z 0,Y none 0 0,Y none 0 0])).put f.dst undef) u):(Code.region r [d,f].toArray false).wp prog Q a v:=by
 obtain⟨j,i⟩:=h.no C;exact AX (VD l _ hv (BV m _ x y o (w.heap.size+1) 0 _ p q (h.r2.there rfl) UH κ (k _ j (LE i))))
end
theorem gy{m N:Nat}(d:∀g,blk a n=some g->g<N)(f:∀g,blk b m=some g->N<=g):ic a n b m:=by
 cases h:blk a n with
 | none=>exact .inl h
 | some g=>exact .inr (.inr λe=>by rw[h]at e;have:=d g h;have:=f g e.symm;omega)
theorem Hg{m N:Nat}(d:∀g,blk a n=some g->N<=g)(f:∀g,blk b m=some g->g<N):ic a n b m:=by
 cases h:blk a n with
 | none=>exact .inl h
 | some g=>exact .inr (.inr λe=>by rw[h]at e;have:=d g h;have:=f g e.symm;omega)
theorem gz{f:List Pr}(h:OwnS w a (LS f))(k:blk a f.length=some g):g<w.heap.size:=by
 rcases h with h|⟨l,rfl,j⟩
 .have e:f.length=0:=by have:=BD List.length h;rw[aw,AU]at this;omega
  rw[e]at k
  cases a<;>simp[blk]at k
 by_cases i:f.length=0
 .rw[i]at k;simp[blk]at k
 rw[ND _ _ _ d]at k
 cases k
 exact j.lt
theorem VY{f:Func}{d:Act}{y:Q9}{D:Dd}(k:Nat)(j:f.results=#[.cell k 115])(X:Nat)(l:d.tmps.getD k undef=Dr X 0)(m:Row y X (RU D a c b e))(i:d.defers=[])(h:VZ w y (Q2 (MT D a c b e)) D):bodyPost prog f (λr w'=>VZ w w' r D) .ret d y :=XM k 115 j X l (RU D a c b e) _ m underlying115 z UH i h
def kw(w w':Q9)(x:Ending)(d:Dd):Prop:=VZ w w' x d/\∀a c b e,x=Q2 (MT d a c b e)->d.ops.length<=e
theorem Ij{D:Dd}(d:VZ w w' (Q2 (MT D a c b e)) D)(l:D.ops.length<=e):kw w w' (Q2 (MT D a c b e)) D :=⟨d,λf i h j k=>by simp[MT]at k;have:=k.2.2;omega⟩
theorem YG{f:Func}{d:Act}{y:Q9}{D:Dd}(k:Nat)(l:f.results=#[.cell k 115])(X:Nat)(m:d.tmps.getD k undef=Dr X 0)(o:Row y X (RU D a c b e))(i:d.defers=[])(h:VZ w y (Q2 (MT D a c b e)) D)(j:D.ops.length<=e:=by exact AA):bodyPost prog f (λr w'=>kw w w' r D) .ret d y :=XM k 115 l X m (RU D a c b e) _ o underlying115 z UH i (Ij h j)
end
def RM(W S L T H F R U O:Int)(d:List Pr):Dd:=if OW W S L T H F R U O d=true then ⟨0,W,S,L,T,H,F,R,U,0,d,[(true,0,empty)]⟩ else LO 1
theorem Mc(W S L T H F R U O:Int)(a:Q5)(p:List Pr)(c:Nat)(w:Q9)(m:Prs w a p)(V:p.length<=1048576)(X:∀f∈p,f.1.size<=1048576/\f.2.size<=1048576):Calls prog 119 #[NA W S L T H F R U O a p.length c] w λf w'=>VZ w w' f (RM W S L T H F R U O p):=by
 have k:=LE (λw' i=>sk W S L T H F R U O a p c w' i V X);have K:=LE m;clear m X;obtain⟨J,I⟩:=nHz (RM W S L T H F R U O p);rw[<-I.j];unfold NA at k⊢;go_enter func119,ntmps119;go_upto_region 1 with fail;generalize i:w.alloc _=v1;obtain⟨q,s,t⟩:=LP i;clear i;generalize o:v1.alloc _=d;obtain⟨r,y,i⟩:=LP o;clear o;rw[s]at i;have o:StB w d (sJ W S L T H F R U O (Y a p.length c)) (λ_=>True):=⟨q.E (r.J q.size),(t.I r).q,i.q,XP (λ_=>trivial)⟩;have B:w.heap.size+1<d.heap.size:=i.q.lt;clear q r t i s y;refine AX ?_;refine BE z 44 _ z w.heap.size 0 z _ _ o.r1.range underlying44 z QD ?_;simp only[PS];go_wp2_with fail;refine(k.j _ (K.j.I o.e)).J ?_;rintro f h ⟨rfl,i⟩;replace o:=o.I i;clear i B k
 cases hok:OW W S L T H F R U O p with
 | false =>
  obtain rfl:J=LO 1:=by rw[I.j];unfold RM;rw[AF (by rw[hok];simp)]
  go_upto_region 2 with fail;refine o.noR 1 _ _ z l z z z z (λy E k=>?_)
  try simp only[PS]
  clear o
  try go_wp2
  refine VY 2 results119 _ ?_ E ?_ k.j<;>rfl
 | true =>
  obtain rfl:J=⟨0,W,S,L,T,H,F,R,U,0,p,[(true,0,empty)]⟩:=by rw[I.j];unfold RM;rw[AI hok]
  clear hok;go_upto_region 3 with fail;refine AX ?_;refine BE z 44 _ z w.heap.size 0 z _ _ o.r1.range underlying44 z QD ?_;simp only[PS];go_upto_region 4 with fail;generalize k:h.alloc _=u;obtain⟨i,s,r⟩:=LP k;clear k;obtain⟨B,k⟩:=nMz h.heap.size;rw[<-k]at r⊢;have q:=r.q;have lB:w.heap.size+1<B:=by rw[k];exact o.r2.lt
  replace o:=o.I i;clear i r s k;generalize Value.agg _=A0;have i:=o.r1.y 9;have k:=o.r1.lt;go_wp2_with fail;clear i k;have k:=kl a p c u (K.j.I o.e) V;unfold LX at k;refine k.J ?_;rintro f v5 ⟨s,t,rfl,C,r,N,i⟩;unfold LX;have D:=RX (lo:=u.heap.size) r TS N;have l4:=q.lt;replace o:=o.I i;replace q:=q.I i;clear i k r;have i:=q.y 9;have r:=q.y 8;have E:=q.A 9;have y:=q.A 8;have k:=q.lt;go_upto_region 6 with fail;clear i E r y k;have i:=NZ (NZ (BC v5 (some B)) 9 (Y s p.length t)) 8 (Z 0);replace q:=(q.set 9 j (Y s p.length t)).set 8 j (Z 0);replace o:=o.aside i ω;replace D:=D.V i (λg e=>by cases e;omega);generalize k:World.setCell (World.setCell _ _ _) _ _=r at o q D i⊢;clear k;have l6:=i.size;refine AX ?_
  refine BE z 44 _ z B 0 z _ _ q.range underlying44 z QD ?_;simp only[PS];have Q:=yt r (.cells #[Q1 true,Z 0,Ow empty] 167);have G:=LZ r #[Q1 true,Z 0,Ow empty] 167;have M:=LE (o.I Q);refine VD z (.agg #[Q1 true,Z 0,Ow empty]) (by go_simp;rfl) ?_;simp only[PS];refine ko z (Y (Hw r.heap.size 0) 1 1) (r.alloc (.cells #[Q1 true,Z 0,Ow empty] 167)) l ?_;simp only[PS];refine VD z (.agg (dK 0 W S L T H F R U 0 (Y s p.length t) (Y (Hw r.heap.size 0) 1 1))) l ?_;simp only[PS];refine BV z 115 _ _ z (w.heap.size+1) 0 (dK 0 W S L T H F R U 0 (Y s p.length t) (Y (Hw r.heap.size 0) 1 1)) z z (M.j.r2.there z) UH κ ?_
  try simp only[PS]
  have l5:=q.lt
  have A:ic s p.length (Hw r.heap.size 0) 1:=gy (λg k=>gz D.q k) (λg k=>by rw[ND _ _ _ j]at k;cases k;exact AA)
  obtain⟨E,y⟩:=M.j.fin ⟨0,W,S,L,T,H,F,R,U,0,p,[(true,0,empty)]⟩ s t (Hw r.heap.size 0) 1 C ⟨(D.I Q).q,.inr ⟨_,z,G⟩,A⟩ (λg k=>by have:=N g k;omega) (λg k=>by rw[ND _ _ _ j]at k;cases k;omega)
  have k:=LE y;clear y;generalize x:World.setCells _ _ _ _=y at E k⊢;clear x
  try go_wp2
  refine VY 2 results119 _ ?_ E ?_ k.j<;>rfl
