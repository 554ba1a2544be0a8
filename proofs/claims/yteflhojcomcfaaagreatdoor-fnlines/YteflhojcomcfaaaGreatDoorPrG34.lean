import Derived.Test.YteflhojcomcfaaaGreatDoorPrG33
import Derived.Test.YteflhojcomcfaaaGreatDoorPrG28
import Derived.Shelf.Strings.BuilderK
set_option maxHeartbeats 16000000
set_option maxRecDepth 8000
set_option linter.all false
namespace Go.Proofs.YteflhojcomcfaaaGreatDoor
section
open Tryz
open Go.RowKit
variable {ws:List (Int×Q4)}{ss:List Q4}{N g:Nat}{F:Nat->Prop}{p:Q5}{P:Program}{w:Q9}
theorem Oi{s:Q4}{l f:Int}{n m k:Nat}(d:1<=n/\n<=8)(c:n+m=56)(h:1<=l/\l<=60000/\1<=f/\f+(N:Int)<=1000000001)(b:k<N):(dh s l f n m N k).size=64:=by
 unfold dh NB;have e:(s.extract (k*m) (k*m+m)).size<=m:=by rw[AQ];omega
 have a:OB (if k+1=N then 2 else 1) l (f+(k:Int)) (s.extract (k*m) (k*m+m)) (n:Int)=true:=by
  unfold OB;refine AM ?_
  split<;>omega
 rw[G a,ka _ _ _ _ _ q]
theorem Qy{n:Int}(h:(OL ss ws n).C=0):(OL ss ws n).S=ss.length:=by
 unfold OL at h⊢
 split at h
 .rename_i d
  rw[G d]
  split at h
  .exact absurd h (by simp[LO])
  rename_i f e
  by_cases a:60000<(OZ ss ws n).2.2+1
  .rw[G a]at h;exact absurd h (by simp[LO])
  rw[A a]at h⊢
  by_cases b:hv ss.length-1<MY (NC f) n
  .rw[G b]at h;exact absurd h (by simp[LO])
  rw[A b]at h⊢
  by_cases k3:hv ss.length<=(OZ ss ws n).2.1
  .rw[G k3]at h⊢
   unfold PU at h⊢
   by_cases c:da (ss.length:Int) (NJ ss ws n).1 (NJ ss ws n).2.2.1=true
   .rw[G c];rfl
   rw[A c]at h;exact absurd h (by simp[LO])
  rw[A k3]
 exact absurd h (by simp[LO])
theorem yM(h:LT ss ws=true)(a:List OpT)(z:Int):LT (OS ss ws a z).1 (OS ss ws a z).2=true/\(OS ss ws a z).1.length=ss.length:=by
 have b:(OS ss ws a z).1.length=ss.length:=by unfold OS;rw[G h,wF]
 have c:=(QH h).1.1;refine⟨(rI ss ws a z).resolve_right (λk=>?_),b⟩;rw[k.1]at b;simp at b;omega
theorem Ph{x:Wo}{e:Ev}(h:(x.call e).1.C=0)(a:(x.call e).2=true)(d:x.up=true->x.S=x.ss.length):(x.call e).1.S=x.ss.length:=by
 unfold Wo.call at h a⊢
 by_cases f:e.K=1
 .rw[G f]at h⊢;exact Qy h
 rw[A f]at h a⊢
 by_cases i:e.K=2
 .rw[G i]at h a⊢
  rw[<-d a];show(QV x.W x.S x.L x.T x.H x.F x.R x.U x.O x.rs e.b).S=x.S;replace h:(QV x.W x.S x.L x.T x.H x.F x.R x.U x.O x.rs e.b).C=0:=h;unfold QV at h⊢
  split at h
  .rename_i b;rw[G b]
   split at h
   .rename_i c;rw[G c]
    split at h
    .rename_i l;rw[G l]
     split at h
     .rename_i m;rw[G m]
     exact absurd h (by simp[LO])
    exact absurd h (by simp[LO])
   exact absurd h (by simp[LO])
  exact absurd h (by simp[LO])
 rw[A i]at h a⊢
 by_cases k3:e.K=3
 .rw[G k3]at h a⊢
  rw[<-d a];show(RM x.W x.S x.L x.T x.H x.F x.R x.U x.O x.rs).S=x.S;replace h:(RM x.W x.S x.L x.T x.H x.F x.R x.U x.O x.rs).C=0:=h;unfold RM at h⊢
  split at h
  .rename_i b;rw[G b]
  exact absurd h (by simp[LO])
 rw[A k3]at h a⊢
 by_cases k:e.K=4
 .rw[G k]at h a⊢
  rw[<-d a];show(QL x.W x.S x.L x.T x.H x.F x.R x.U x.O x.rs).S=x.S;replace h:(QL x.W x.S x.L x.T x.H x.F x.R x.U x.O x.rs).C=0:=h;unfold QL at h⊢
  split at h
  .rename_i b;rw[G b]
   unfold PU at h⊢
   split at h
   .rename_i c;rw[G c];rfl
   exact absurd h (by simp[LO])
  exact absurd h (by simp[LO])
 rw[A k]at a
 exact absurd a j
theorem ni(h:LT ss ws=true)(a:List Int):LT (QY a ss ws) []=true/\(QY a ss ws).length=ss.length:=by
 have b:(QY a ss ws).length=ss.length:=by unfold QY LW;rw[G h];simp[iq]
 have c:=(QH h).1.1;refine⟨(sX a ss ws).resolve_right (λk=>?_),b⟩;rw[k.1]at b;simp at b;omega
structure Wo.good(x:Wo)(N:Nat):Prop where
 ok:x.ok
 d:LT x.ss x.ws=true
 n:x.ss.length=N
 u:x.up=true->x.S=x.ss.length
theorem Wo.good.pow{x:Wo}(h:x.good N)(a:List Int):(x.pow a).good N :=⟨h.ok.pow a,(ni h.d a).1,(ni h.d a).2.E h.n,λk=>by cases k⟩
theorem Wo.good.doE{x:Wo}(h:x.good N)(e:Ev):(x.doE e).good N:=by
 refine⟨h.ok.doE e,?_,?_,?_⟩
 all_goals
  obtain⟨D,m⟩:=nMz (x.call e);have d:=Ph (x:=x) (e:=e);unfold Wo.doE;rw[<-m]at d⊢;have a:=yM h.d D.1.ops (YR e D.1)
  by_cases j:e.K=5
  .rw[AI j]
   first|exact(h.pow e.fs).d|exact(h.pow e.fs).n|exact(h.pow e.fs).u
  rw[AF j]
  by_cases b:D.2=false\/D.1.C≠0
  .rw[AI b]
   first|exact h.d|exact h.n|exact h.u
  rw[AF b]
  have n:D.2=true:=by
   cases hd2:D.2 with
   | true=>rfl
   | false=>exact absurd (.inl hd2) b
  have l:D.1.C=0:=Decidable.not_not.1 (λk=>b (.inr k));have c:=d l n h.u
  by_cases f:2000<(SC x e D.1).length\/200<(PQ x e D.1).length
  .rw[AI f]
   first|exact h.d|exact h.n|exact h.u
  rw[AF f]
  by_cases k3:TC e D.1=true
  .rw[AI k3]
   first|exact(ni a.1 e.fs).1|exact((ni a.1 e.fs).2.E a.2).E h.n|(intro k;cases k)
  rw[AF k3]
  by_cases i:e.K=2
  .rw[AI i]
   first|exact a.1|exact a.2.E h.n|(intro _;exact c.E (by rw[show((x.ran e D.1).upS D.1).ss.length=x.ss.length from a.2]))
  .rw[AF i]
   first|exact a.1|exact a.2.E h.n|(intro _;exact c.E (BD Nat.cast (show x.ss.length=((x.ran e D.1).upS D.1).ss.length from a.2.symm)))
section
structure Only(o:Nat->Nat)(K:Nat->Prop)(w w':Q9):Prop where
 os:w'.os=w.os
 tape:w'.tape=w.tape
 output:w'.output=w.output
 size:w.heap.size<=w'.heap.size
 block:∀b,b<w.heap.size->¬K (o b)->w'.heap[b]?=w.heap[b]?
def OwL(w:Q9)(o:Nat->Nat)(k:Nat)(a:Q5)(b:List Ra):Prop:=b=[]\/∃g,a=Hw g 0/\Row w g b/\o g=k
def PsR(w:Q9)(o:Nat->Nat)(p:Q5)(n:Nat)(R:Nat->List Pr):Prop :=n=0\/∃b,p=Hw b 0/\b<w.heap.size/\o b=5/\∀i,i<n->∃a c,w.cell? (Ki b i)=some (Y a (R i).length c)/\OwL w o (7+i) a (LS (R i))
section
variable {w w' v:Q9} {o o':Nat->Nat} {k:Nat} {a p:Q5} {cs:List Ra} {r:Option Nat} {K K':Nat->Prop} {n:Nat} {R R':Nat->List Pr} {rs:List Pr}
theorem Only.E(h:Only o K w w')(c:Only o K w' v):Only o K w v :=⟨c.os.E h.os,c.tape.E h.tape,c.output.E h.output,AJ h.size c.size,λb d e=>(c.block b (AC d h.size) e).E (h.block b d e)⟩
theorem Only.J(h:Only o K w w')(d:∀k,K k->K' k):Only o K' w w':=⟨h.os,h.tape,h.output,h.size,λb c k=>h.block b c (λe=>k (d _ e))⟩
theorem zh(h:Q3 w w'):Only o K w w':=⟨h.os,h.tape,h.output,h.size,λb c _=>h.block b c⟩
theorem pu(h:w.grownBy w' r)(d:∀g,r=some g->K (o g)):Only o K w w':=⟨h.os,h.tape,h.output,h.size,λb c k=>h.block b c (λe=>k (d b e.symm))⟩
theorem OwL.own(h:OwL w o k a cs):OwnS w a cs:=h.imp_right λ⟨g,e,h,_⟩=>⟨g,e,h⟩
theorem nC(h:OwnS w a cs)(e:∀g,a=Hw g 0->cs≠[]->o g=k):OwL w o k a cs:=by
 by_cases b:cs=[]
 .exact .inl b
 obtain⟨g,c,d⟩:=h.resolve_left b
 exact .inr ⟨g,c,d,e g c b⟩
theorem OwL.only(h:OwL w o k a cs)(b:Only o K w w')(c:¬K k):OwL w' o k a cs :=h.imp_right λ⟨g,e,h,n⟩=>⟨g,e,VM h (b.block g h.lt (by rw[n];exact c)) (AC h.lt b.size),n⟩
theorem OwL.lab(h:OwL w o k a cs)(c:∀b,b<w.heap.size->o' b=o b):OwL w o' k a cs:=h.imp_right λ⟨g,e,h,n⟩=>⟨g,e,h,(c g h.lt).E n⟩
theorem OwL.gb{m:Nat}(h:OwL w o k a cs)(c:cs=[]->m=0)(e:blk a m=some g):o g=k:=by
 rcases h with h|⟨b,rfl,h,n⟩
 .rw[c h]at e;simp[blk]at e
 rw[kp e];exact n
theorem OwL.prb(h:OwL w o k a (LS rs))(e:blk a rs.length=some g):o g=k:=h.gb (λe=>by have:=BD List.length e;rw[aw,AU]at this;omega) e
theorem PsR.only(h:PsR w o p n R)(d:Only o K w w')(q:¬K 5)(s:∀i,¬K (7+i)):PsR w' o p n R :=h.imp_right λ⟨b,e,f,c,u⟩=>⟨b,e,AC f d.size,c,λi t=>by
  obtain⟨x,j,l,m⟩:=u i t
  exact⟨x,j,(DT (a:=(Ki b i)) (d.block b f (by rw[c];exact q))).E l,m.only d (s i)⟩⟩
theorem PsR.lab(h:PsR w o p n R)(f:∀b,b<w.heap.size->o' b=o b):PsR w o' p n R :=h.imp_right λ⟨b,e,d,c,s⟩=>⟨b,e,d,(f b d).E c,λi q=>by
  obtain⟨t,j,l,m⟩:=s i q
  exact⟨t,j,l,m.lab f⟩⟩
theorem PsR.congr(h:PsR w o p n R)(f:∀i,i<n->R i=R' i):PsR w o p n R' :=h.imp_right λ⟨b,e,j,c,l⟩=>⟨b,e,j,c,λi d=>by rw[<-f i d];exact l i d⟩
theorem PsR.put(h:PsR w o p n R){j:Nat}(I:j<n):∃b c f,p=Hw b 0/\b<w.heap.size/\w.cell? (Ki b j)=some (Y c (R j).length f)/\OwL w o (7+j) c (LS (R j))/\∀w' S,w.grownBy w' (blk c (R j).length)->OwnS w' c (LS S)->S.length=(R j).length->PsR w' o p n (λi=>if i=j then S else R i):=by
 obtain⟨b,e,s,z,C⟩:=h.resolve_left ω;obtain⟨c,f,y,q⟩:=C j I;refine⟨b,c,f,e,s,y,q,λw' S B J G=>.inr ⟨b,e,AC s B.size,z,λi H=>?_⟩⟩;have A:Only o (λk=>k=7+j) w w':=pu B (λg k=>q.prb k);obtain⟨t,m,d,E⟩:=C i H;have u:=(DT (a:=(Ki b i)) (A.block b s (by rw[z];omega))).E d
 by_cases l:i=j
 .subst l
  obtain⟨rfl,_,rfl⟩:t=c/\True/\m=f:=by rw[y]at d;injection d with d;injection d with i x D;exact⟨i.symm,trivial,D.symm⟩
  refine⟨t,m,?_,?_⟩
  .simp only[IV];rw[G];exact u
  simp only[IV]
  exact nC J (λg i x=>q.gb (m:=1) (λe=>absurd (AD (by have:=BD List.length e;rw[aw,AU]at this;omega:S.length=0)) (λe=>x (by rw[e];rfl))) (by rw[i];rfl))
 refine⟨t,m,?_,?_⟩
 .simp only[AF l];exact u
 simp only[AF l];exact E.only A ω
end
abbrev bk(w:Q9)(o:Nat->Nat)(p:Q5)(P:List (List Pr)):Prop:=PsR w o p P.length (λi=>P.getD i [])
theorem PsR.pst{o:Nat->Nat}{P:List (List Pr)}(h:bk w o p P):Pst w p P:=by
 rcases h with h|⟨b,e,j,m,k⟩
 .exact .inl (AD h)
 refine .inr ⟨b,0,e,j,λi f=>?_⟩
 obtain⟨l,a,c,d⟩:=k i f;exact⟨l,a,by rw[BK];exact c,d.own.prs⟩
structure WoG(c1 c2 c3:List Ra)(n:Nat)(R:Nat->List Pr)(c5:List Ra)(w:Q9)(q:Wp)(o:Nat->Nat):Prop where
 h1:OwL w o 1 q.a c1
 h2:OwL w o 2 q.a' c2
 h3:OwL w o 3 q.s c3
 h4:PsR w o q.p n R
 h5:OwL w o 4 q.t c5
section
variable {c1 c2 c3:List Ra} {n:Nat} {R:Nat->List Pr} {c5:List Ra} {w w':Q9} {q:Wp} {o o':Nat->Nat} {K:Nat->Prop}
theorem WoG.only(h:WoG c1 c2 c3 n R c5 w q o)(b:Only o K w w')(a:∀k,K k->k=0):WoG c1 c2 c3 n R c5 w' q o :=⟨h.h1.only b (λk=>nomatch a _ k),h.h2.only b (λk=>nomatch a _ k),h.h3.only b (λk=>nomatch a _ k),h.h4.only b (λk=>nomatch a _ k) (λi k=>by have:=a _ k;omega),h.h5.only b (λk=>nomatch a _ k)⟩
theorem WoG.I(h:WoG c1 c2 c3 n R c5 w q o)(a:Q3 w w'):WoG c1 c2 c3 n R c5 w' q o:=h.only (zh (K:=λ_=>False) a) (λ_ k=>k.elim)
theorem WoG.V(h:WoG c1 c2 c3 n R c5 w q o)(b:w.grownBy w' (some g))(a:o g=0):WoG c1 c2 c3 n R c5 w' q o:=h.only (pu (K:=λk=>k=0) b (λ_ e=>by cases e;exact a)) (λ_ k=>k)
theorem WoG.lab(h:WoG c1 c2 c3 n R c5 w q o)(a:∀b,b<w.heap.size->o' b=o b):WoG c1 c2 c3 n R c5 w q o':=⟨h.h1.lab a,h.h2.lab a,h.h3.lab a,h.h4.lab a,h.h5.lab a⟩
end
abbrev RY(x:Wo)(w:Q9)(q:Wp)(o:Nat->Nat):Prop:=WoG (x.ss.map Value.string) (MZ x.ws) (LS x.rs) x.P.length (λi=>x.P.getD i []) (x.ts.map Value.string) w q o
theorem WoG.at{x:Wo}{q:Wp}{o:Nat->Nat}(h:RY x w q o):x.at w q:=⟨h.h1.own.strs,h.h2.own.wrs,h.h3.own.prs,PsR.pst h.h4,h.h5.own.strs⟩
end
section
def PstF(w:Q9)(F:Nat->Prop)(p:Q5)(P:List (List Pr)):Prop :=P=[]\/∃b o,p=Hw b o/\b<w.heap.size/\F b/\∀i,i<P.length->∃a c,w.cell? (Ki b (o+i))=some (Y a (P.getD i []).length c)/\DepF w F (λW=>Prs W a (P.getD i []))
section
variable {w w':Q9} {F G:Nat->Prop} {p:Q5} {P:List (List Pr)}
theorem PstF.step(h:PstF w F p P)(a:Below 0 w w')(e:∀b,F b->b<w.heap.size->w'.heap[b]?=w.heap[b]?):PstF w' F p P:=by
 rcases h with h|⟨b,o,j,c,d,k⟩
 .exact .inl h
 refine .inr ⟨b,o,j,AC c a.size,d,λi n=>?_⟩
 obtain⟨q,f,l,m⟩:=k i n;exact⟨q,f,(DT (a:=(Ki b (o+i))) (e b d c)).E l,m.step a e⟩
theorem PstF.J(h:PstF w F p P)(hF:∀b,b<w.heap.size->F b->G b):PstF w G p P:=by
 rcases h with h|⟨b,o,d,a,e,f⟩
 .exact .inl h
 refine .inr ⟨b,o,d,a,hF b a e,λi l=>?_⟩
 obtain⟨m,c,j,k⟩:=f i l;exact⟨m,c,j,k.J hF⟩
theorem PstF.pst(h:PstF w F p P):Pst w p P:=by
 rcases h with h|⟨b,o,c,d,m,e⟩
 .exact .inl h
 refine .inr ⟨b,o,c,d,λi k=>?_⟩
 obtain⟨l,a,f,j⟩:=e i k;exact⟨l,a,f,j.q⟩
theorem PstF.I(h:PstF w F p P)(a:Q3 w w'):PstF w' F p P:=h.step (a.J AL) (λb _ c=>a.block b c)
end
structure WoF(x:Wo)(w:Q9)(F:Nat->Prop)(q:Wp):Prop where
 h1:DepF w F (λW=>Strs W q.a x.ss)
 h2:DepF w F (λW=>Wrs W q.a' x.ws)
 h3:DepF w F (λW=>Prs W q.s x.rs)
 h4:PstF w F q.p x.P
 h5:DepF w F (λW=>Strs W q.t x.ts)
section
variable {x:Wo} {w w':Q9} {F G:Nat->Prop} {q:Wp}
theorem WoF.step(h:WoF x w F q)(a:Below 0 w w')(c:∀b,F b->b<w.heap.size->w'.heap[b]?=w.heap[b]?):WoF x w' F q:=⟨h.h1.step a c,h.h2.step a c,h.h3.step a c,h.h4.step a c,h.h5.step a c⟩
theorem WoF.I(h:WoF x w F q)(a:Q3 w w'):WoF x w' F q:=h.step (a.J AL) (λb _ c=>a.block b c)
theorem WoF.V{r:Option Nat}(h:WoF x w F q)(a:w.grownBy w' r)(f:∀g,r=some g->¬F g):WoF x w' F q :=h.step (MU a AL (λ_ _=>AL)) (λb c d=>a.block b d (λe=>f b e.symm c))
theorem WoF.J(h:WoF x w F q)(hF:∀b,b<w.heap.size->F b->G b):WoF x w G q:=⟨h.h1.J hF,h.h2.J hF,h.h3.J hF,h.h4.J hF,h.h5.J hF⟩
theorem WoF.at(h:WoF x w F q):x.at w q:=⟨h.h1.q,h.h2.q,h.h3.q,h.h4.pst,h.h5.q⟩
end
def sI(w a:Q9)(F:Nat->Prop)(e:Ending)(x:Wo):Prop:=∃q,e=Q2 (MD x q)/\WoF x a (λb=>F b\/w.heap.size<=b) q/\Q3 w a
theorem K0{P:List (List Pr)}(h:PstF w F p P):∃a:List Ra,a.length=P.length/\(∀u∈a,u.oneCell'=true)/\(∀i,i<P.length->∃d f,a[i]?=some (Y d (P.getD i []).length f)/\DepF w F (λW=>Prs W d (P.getD i [])))/\(P=[]\/∃b o,p=Hw b o/\b<w.heap.size/\∀i u,a[i]?=some u->w.cell? (Ki b (o+i))=some u):=by
 rcases h with h|⟨b,o,m,n,q,k⟩
 .exact⟨[],by simp[h],j,by simp[h],.inl h⟩
 have r:∀i,i<P.length->∃u,w.cell? (Ki b (o+i))=some u:=λi a=>by obtain⟨d,f,c,_⟩:=k i a;exact⟨_,c⟩
 refine⟨(List.range P.length).map λi=>(w.cell? (Ki b (o+i))).getD undef,j,λu l=>?_,λi a=>?_,.inr ⟨b,o,m,n,λi u l=>?_⟩⟩
 .obtain⟨i,a,rfl⟩:=DW.1 l
  obtain⟨d,f,c,_⟩:=k i (FR.1 a);rw[c];rfl
 .obtain⟨d,f,c,e⟩:=k i a
  exact⟨d,f,by simp[a,c],e⟩
 obtain⟨a,e⟩:=DJ.1 l
 simp only[BP,KO]at a;obtain⟨d,f,c,_⟩:=k i a;rw[<-e];simp[c]
theorem YU(w:Q9)(o:Obj):Q3 w (w.alloc o):=LH _ _
theorem gx(b j:Nat):((Ki b 0):Addr).add j=(Ki b j):=by unfold Addr.add;split<;>simp_all
theorem QC(x:Int)(a:-9223372036854775808<=x)(b:x<=9223372036854775807):IntKind.i64.wrap x=x:=by
 simp[IntKind.wrap,IntKind.bits,IntKind.signed];omega
theorem uX{i:Nat}{v:Ra}(h:w.cell? (Ki g i)=some v):g<w.heap.size:=by
 by_cases a:g<w.heap.size
 .exact a
 simp[World.cell?,EF (by omega:w.heap.size<=g)]at h
theorem pw{a:Nat}{e:TypeId}{c:Nat}{n d:Nat}{i:List Ra}(h:w.ownsRow a e c (Y (Hw g 0) n d) n i):a<=g:=by
 rcases h.2 with h|⟨k,j,f,b,l,_⟩
 .cases h.1
 injection b with b
 injection b with b;injection b with b;omega
theorem Pg{Q:List (List Pr)}(h:PstF w F p Q)(t e:TypeId)(l:P.underlying t=some (.slice e))(c:Nat):∃f,(∀k,Q3 w k->Src P 1 t (Y p Q.length c) Q.length f k)/\f.length=Q.length/\(∀i,i<Q.length->∃a b,f[i]?=some (Y a (Q.getD i []).length b)/\DepF w F (λW=>Prs W a (Q.getD i []))):=by
 obtain⟨f,m,n,q,i⟩:=K0 h;refine⟨f,λk s=>?_,m,q⟩;rcases i with i|⟨b,o,rfl,v,r⟩
 .subst i
  have:f=[]:=AD m;subst this
  cases p with
  | none=>exact Src.ofNil k l c
  | some x=>exact Src.ofSlice k l x 0 c [] j j j
 refine Src.ofSlice k l (Ki b o) Q.length c f d (λa u x=>?_) n
 have k:((Ki b o):Addr).add a=(Ki b (o+a)):=by unfold Addr.add;split<;>simp_all
 rw[k];exact(s.cell (p:=(Ki b (o+a))) v).E (r a u x)
theorem se{G:Nat->Prop}{P:List (List Pr)}{a:List Pr}{news:List Ra}{j:Q5}{l:Nat}(s:news.length=P.length)(h:∀i,i<P.length->∃b c,news[i]?=some (Y b (P.getD i []).length c)/\DepF w F (λW=>Prs W b (P.getD i [])))(f:Row w g (news++[Y j a.length l]))(q:F g)(o:DepF w F (λW=>Prs W j a)):PstF w F (Hw g 0) (P++[a]):=by
 refine .inr ⟨g,0,z,f.lt,q,λi r=>?_⟩;rw[AK,EJ]at r
 by_cases k:i<P.length
 .obtain⟨b,c,m,n⟩:=h i k
  have e:(P++[a]).getD i []=P.getD i []:=by simp[List.getD,BO k]
  rw[e,BK];exact⟨b,c,f.cell i _ (by rw[BO d];exact m),n⟩
 obtain rfl:i=P.length:=d
 have e:(P++[a]).getD P.length []=a:=by simp[List.getD]
 rw[e,BK];exact⟨j,l,f.cell _ _ (by rw[<-s];simp),o⟩
theorem Jw{a:List Pr}{b:Q5}{h:Nat}(f:Row w g [Y b a.length h])(d:F g)(c:DepF w F (λW=>Prs W b a)):PstF w F (Hw g 0) [a] :=se (G:=F) (P:=[]) (news:=[]) z (λi e=>absurd e j) f d c
theorem sU(t l e:TypeId)(i:TypeInfo)(a:Ra)(c o:Nat)(s:P.underlying t=some (.slice e))(r:P.info? e=some i)(J:i.zero=some a)(u:i.size=c)(A:i.bytes=o)(G:a.cells.size=c)
  (b B:Nat)(H:w.ownsRow B e c (Y (Hw b 0) 0 0) 0 [])(v:Ra)(n:Nat)(f:List Ra)(h:Src P c t v n f w)(K:n<=1048576)(y:n*o<=281474976710656)(I:B<=w.heap.size):∃g k m,(Builtin.append_ #[t,t] l #[Y (Hw b 0) 0 0,v]).run P w=.ok (Y (Hw g 0) n k) m/\m.ownsRow B e c (Y (Hw g 0) n k) n f/\(g=b\/g=w.heap.size)/\Q3 w m:=by
 subst u A
 by_cases E:n=0
 .subst E
  have m:f=[]:=AD (by have:=h.newsLen;omega);subst m;have k:=run_append_room_src (P:=P) w t t l e i s r b 0 0 0 v 0 [] h d j j;exact⟨_,_,_,k,H,.inl z,D⟩
 have x:(Builtin.firstCells i.size 0 (Y (Hw b 0) 0 0)).run P w.drew=.ok ([]:List Ra).toArray w.drew:=GI w.drew i.size 0 _ 0 0 [] j j
 have k:=run_append_grow_src (P:=P) w t t l e i a s r J (Hw b 0) 0 0 [] x v n f h d d (by rw[BK,rL n d];exact y);refine⟨_,_,_,by rw[k,BK],?_,.inr z,(D).drew.alloc C _⟩;have m:=JL w (0+n) 0 e;have q:=IR w (0+n) 0 e (by unfold maxLen;omega);rw[BK]at m q;refine⟨h.newsLen,.inr ⟨w.heap.size,_,_,z,I,AV w.drew _,m,q,?_,?_⟩⟩
 .simp[KJ,h.newsLen,G]
  rw[<-ID]
  congr 1
  omega
 simp[h.newsLen]
theorem uF{m:Array Oper}{l:List Oper}{o:Oper}{a:Act}{Q:Exit->Act->Q9->Prop}(C:o.guard=none)(s x:Operand)(t:TypeId)
  (R:o.op=.call { callee:=.builtin .append,args:=#[s,x],argTypes:=#[t,t] })(e:TypeId)(i:TypeInfo)(z:Ra)(c k:Nat)(T:P.underlying t=some (.slice e))(M:P.info? e=some i)(V:i.zero=some z)(q:i.size=c)(A:i.bytes=k)(D:z.cells.size=c)
  (b B:Nat)(S:a.eval s=Y (Hw b 0) 0 0)(E:w.ownsRow B e c (Y (Hw b 0) 0 0) 0 [])(v:Ra)(U:a.eval x=v)(n:Nat)(d:List Ra)(u:Src P c t v n d w)(O:n<=1048576)(y:n*k<=281474976710656)(J:B<=w.heap.size)
  (h:∀g f j,j.ownsRow B e c (Y (Hw g 0) n f) n d->(g=b\/g=w.heap.size)->Q3 w j->wpList P m Q l (a.put o.dst (Y (Hw g 0) n f)) j):wpList P m Q (o::l) a w:=by
 refine IG C λK L=>?_
 obtain⟨g,f,j,r,G,H,I⟩:=sU (P:=P) (w:=w) t o.type e i z c k T M V q A D b B E v n d u O y J;unfold Oper.wp;simp[execOp,R,resolve,invoke,builtin,S,U,r,Result.andThen];exact L _ _ (h g f j G H I)
theorem pN{l:Array Oper}{o:Oper}{a:Act}{K:Act->Q9->Prop}{Q:Exit->Act->Q9->Prop}{E:Prop}(A:o.guard=none)(s x:Operand)(t:TypeId)
  (R:o.op=.call { callee:=.builtin .append,args:=#[s,x],argTypes:=#[t,t] })(e:TypeId)(i:TypeInfo)(z:Ra)(c k:Nat)(T:P.underlying t=some (.slice e))(M:P.info? e=some i)(W:i.zero=some z)(m:i.size=c)(y:i.bytes=k)(C:z.cells.size=c)
  (b B:Nat)(S:a.eval s=Y (Hw b 0) 0 0)(D:w.ownsRow B e c (Y (Hw b 0) 0 0) 0 [])(v:Ra)(V:a.eval x=v)(n:Nat)(d:List Ra)(r:Src P c t v n d w)(O:n<=1048576)(u:n*k<=281474976710656)(L:B<=w.heap.size)
  (h:∀g f j,j.ownsRow B e c (Y (Hw g 0) n f) n d->(g=b\/g=w.heap.size)->Q3 w j->K (a.put o.dst (Y (Hw g 0) n f)) j):if Region.wanted o (yielded l a.tmps)=true then Oper.wp P o a w K Q else E:=by
 have U:Region.wanted o (yielded l a.tmps)=true:=by simp[Region.wanted,A]
 rw[G U];obtain⟨g,f,j,q,H,I,J⟩:=sU (P:=P) (w:=w) t o.type e i z c k T M W m y C b B D v n d r O u L;unfold Oper.wp;simp[execOp,R,resolve,invoke,builtin,S,V,q,Result.andThen];exact h g f j H I J
end
theorem NH:(prog.info? 47).map (·.size)=some 16:=h
theorem PstF.V{c:Q9}{P:List (List Pr)}{r:Option Nat}(h:PstF w F p P)(a:w.grownBy c r)(i:∀g,r=some g->¬F g):PstF c F p P :=h.step (MU a AL (λ_ _=>AL)) (λb d f=>a.block b f (λe=>i b e.symm d))
theorem lj:(prog.info? 44).map (·.size)=some 10:=h
def vx(w d:Q9)(e:Ending)(b:Option (List Pr)):Prop:=∃a c,e=Q2 (.tuple #[LX a (b.getD []).length c,Q1 b.isSome])/\(b.getD []).length<=c/\OwnS d a (LS (b.getD []))/\(∀g,blk a (b.getD []).length=some g->w.heap.size<=g)/\Q3 w d
theorem wJ{s:Q4}{o:List Ch}(h:XN s=some o):PZ o=true:=by
 rw[<-vK]at h;unfold ey at h
 split at h
 .cases h
 split at h
 .rename_i a;cases h;exact a
 cases h
theorem Bk{a:Q5}{b:List Ch}(h:OwnS w a (NL b)):Chs w a b:=by
 rcases h with h|⟨g,rfl,h⟩
 .refine .inl ?_
  cases b with
  | nil=>rfl
  | cons x r=>obtain⟨c,d,e⟩:=x;exact absurd h (by simp[NL])
 exact h.chs
theorem ce{l:List Pr}(h:LS l≠[]):l.length≠0:=λe=>h (by rw[AD e];rfl)
theorem OwnS.setF{a:Q5}{b:List Ra}(h:OwnS w a b)(p:Addr)(d:∀g,a=Hw g 0->b≠[]->p.block≠g)(v:Ra):OwnS (w.setCell p v) a b:=by
 by_cases c:b=[]
 .exact .inl c
 rcases h with h|⟨g,rfl,e⟩
 .exact absurd h c
 exact .inr ⟨g,rfl,e.other p (d g rfl c) v⟩
structure FdB(w W:Q9)(rs:List Pr)(sa:Q5)(sc:Nat):Prop where
 rb:Row W w.heap.size [Y none 0 0]
 st:Row W (w.heap.size+1) [Y sa rs.length sc]
 own:OwnS W sa (LS rs)
 lo:∀g,blk sa rs.length=some g->w.heap.size+2<=g
 cap:rs.length<=sc
 be:Q3 w W
theorem FdB.new(w:Q9):FdB w ((w.alloc (.cells #[Y none 0 0] 42)).alloc (.cells #[Y none 0 0] 42)) [] none 0 :=⟨(OY w #[Y none 0 0] 42 w.heap.size rfl).alloc _,OY _ #[Y none 0 0] 42 _ σ,.inl rfl,λg a=>(by cases a),AA,(LH _ _).alloc σ _⟩
theorem FdB.I{W b:Q9}{c:List Pr}{d:Q5}{e:Nat}(h:FdB w W c d e)(a:Q3 W b):FdB w b c d e:=⟨h.rb.I a,h.st.I a,h.own.I a,h.lo,h.cap,h.be.E (a.J h.be.size)⟩
theorem FdB.set{X:Q9}{d:Obj}{l a:List Pr}{m b:Q5}{n c:Nat}(h:FdB w (X.alloc d) l m n)(k:OwnS X b (LS a))(f:a.length<=c)(e:∀g,blk b a.length=some g->w.heap.size+2<=g):FdB w ((X.alloc d).setCell (Ki (w.heap.size+1) 0) (Y b a.length c)) a b c:=by
 refine⟨h.rb.other _ (by show w.heap.size+1≠w.heap.size;omega) _,h.st.set 0 σ _,OwnS.setF (k.I (LH _ _)) _ (λg i j=>?_) _,e,f,h.be.setCell (by show w.heap.size<=w.heap.size+1;omega) _⟩;have:=e g (by subst i;exact ND _ _ _ (ce j));show w.heap.size+1≠g;omega
theorem Ll(a:Q5)(f:List Q4)(c:Nat)(w:Q9)(h:Strs w a f)(hl:f.length<=1000)(hs:∀e∈f,e.size<=1048576):Calls prog 163 #[Y a f.length c] w λe b=>vx w b e (OU f []):=by
 obtain⟨E,aG⟩:=nHz (OU f []);rw[<-aG.j];have HH:=LE h;have HS:=LE hs;clear h hs;go_enter func163,ntmps163;go_wp2;go_loopw [5] (λb wr=>∃(i:Nat) (k:List Pr) (J:Q5) (K:Nat) (W:Q9),W=wr/\b=Z (i:Int)/\i<=f.length/\MH k=true/\Hid (OU (f.drop i) k=E)/\FdB w W k J K) (λb _=>((f.length:Int)-intOf b).toNat)
 case atStart =>
  exact⟨0,[],none,0,_,z,z,AL,YI,by show _=_;rw[aG.j];rfl,FdB.new w⟩
 case round =>
  obtain⟨i,k,J,K,wr,rfl,rfl,hi,l,B,D⟩:=hrel;have t:=LE D;have d1:=D.st.y 0;have G:=D.st.lt;have U:=D.rb.y 0;have A:=D.rb.lt;have x:=D.rb.A 0;have b:=XO l;have bU:=b.1;have bJ:=LE l;have bB:=LE b.2;clear l b D
  by_cases H:i<f.length
  .have aU:(i:Int)<(f.length:Int):=d
   have bR:(0:Int)<=(i:Int):=d
   have bV:IntKind.i64.wrap ((i:Int)+1)=(i:Int)+1:=by simp[IntKind.wrap,IntKind.bits,IntKind.signed];omega
   obtain⟨b,o,s,rfl,V,HE⟩:=(HH.j.I t.j.be).at H;have bF:s.size<=1048576:=HS.j s (by rw[HE.j];simp[List.getD,H]);have l:f.drop i=s::f.drop (i+1):=by rw[HE.j];simp[List.getD,H]
   have bP:b<wr.heap.size:=by have:=DP wr _ V;simpa using this
   have O:=LE (λm=>Ey s m bF)
   skip
   rw[l]at B;have bI:=LE l;clear l
   cases hR:XN s with
   | none =>
    rw[hR]at O;have u:Hid (E=none):=by show _=_;rw[<-B.j];exact wK hR
    clear hR;go_wp2_with fail;refine(O.j _).J ?_;rintro e w5 ⟨ab,cb,rfl,_,_,v⟩;simp only[JS,JH,AU];have l:=t.j.I v;have D:=LE l;have I:=l.rb.y 0;have C:=l.rb.lt;have R:=l.rb.A 0;clear d1 G U A x l v V;go_wp2;refine AE (v:=.tuple #[LX none 0 0,Q1 false]) (by simp[results,results163,go_sem,I,LX]) z ?_;rw[u.j];exact⟨none,0,z,AA,.inl z,λg r=>(by cases r),D.j.be.setCell (by show w.heap.size<=w.heap.size;omega) _⟩
   | some q =>
    rw[hR]at O;have l:=qP (wJ hR);have aY:=LE l.2;have bC:=l.1;clear l
    by_cases n:QW k q=0
    focus
     have u:Hid (OU (f.drop (i+1)) (NP k q)=E):=by show _=_;rw[<-B.j];exact(sP hR n).symm
     have I:QT k q=NP k q:=by unfold QT;rw[AI n]
     have aZ:=LE (SD n)
    rotate_left
    focus
     have u:Hid (E=none):=by show _=_;rw[<-B.j];exact xX hR n
     have I:QT k q=[]:=by unfold QT;rw[AF n]
     have bQ:(QW k q == 0)=false:=by simp[n]
     have bE:(QW k q != 0)=true:=by simp[n]
    rotate_left
    all_goals
     clear hR;go_wp2_with fail;refine(O.j _).J ?_;rintro e w5 ⟨ab,cb,rfl,R,C,v⟩;simp only[GD,JI]at R C⊢;have l:=t.j.I v;have D:=LE l;have r1:=l.st.y 0;have aX:=l.st.lt;have M:=LE (Bv J k K ab q cb w5 l.own.prs d bB.j (Bk R) d aY.j)
    .rw[I,n]at M
     clear d1 G U A x l v V R C;go_wp2_with fail;refine M.j.J ?_;rintro e X ⟨L,T,rfl,aW,S,Q,y⟩;have m:=(D.j.I y).I (MI X (.cells #[Y L (NP k q).length T] 42));have j:=LE (m.set S aW (λg r=>by have:=Q g r;omega));have x1:=m.st.y 0;have bW:=m.st.A 0;have bY:=m.st.lt;have x6:X.heap.size≠w.heap.size+1:=by have:=(D.j.I y).st.lt;omega
     clear r1 aX m y S Q n I;go_wp2;exact⟨⟨i+1,_,L,T,_,z,σ,d,aZ.j,u,j.j⟩,by simp[intOf];omega⟩
    rw[I]at M
    clear d1 G U A x l v V R C I;go_wp2_with fail;refine M.j.J ?_;rintro e X ⟨L,T,rfl,aW,S,Q,y⟩;have m:=(D.j.I y).I (MI X (.cells #[Y L 0 T] 42));have j:=LE m;have I:=m.rb.y 0;have C:=m.rb.lt;have R:=m.rb.A 0;clear r1 aX m y S Q;go_wp2;refine AE (v:=.tuple #[LX none 0 0,Q1 false]) (by simp[results,results163,go_sem,I,LX]) z ?_;rw[u.j];exact⟨none,0,z,AA,.inl z,λg r=>(by cases r),j.j.be.setCell (by show w.heap.size<=w.heap.size;omega) _⟩
  have u:Hid (E=some k):=by show _=_;rw[<-B.j,EA d];rfl
  have aU:¬((i:Int)<(f.length:Int)):=d
  have l:¬(w.heap.size=w.heap.size+1):=d
  go_wp2;refine AE (v:=.tuple #[LX J k.length K,Q1 true]) (by simp[results,results163,go_sem,U,LX]) z ?_;rw[u.j];refine⟨J,K,z,t.j.cap,OwnS.setF t.j.own (Ki w.heap.size 0) (λg r b=>?_) _,λg r=>by have:=t.j.lo g r;omega,t.j.be.setCell (by show w.heap.size<=w.heap.size;omega) _⟩;have:=t.j.lo g (by subst r;exact ND _ _ _ (ce b));show w.heap.size≠g;omega
@[reducible] def nW(a:Q5)(n c:Nat)(u l:Int):Ra:=.agg #[Y a n c,Z u,Z l]
theorem wI{f:Q9}{e:Ending}{x:Scd}(h:ji w f e x):∃a c,e=Q2 (nW a x.1.length c x.2.1 x.2.2)/\OwnS f a (x.1.map Value.string)/\(∀g,blk a x.1.length=some g->w.heap.size<=g)/\Q3 w f:=by
 obtain⟨y,rfl,j,i⟩:=h;rcases MS j with ⟨c,d⟩|⟨g,b,c,m,n,k⟩
 .subst c
  have:x.1=[]:=AD d;exact⟨none,0,by rw[d],.inl (by rw[this];rfl),λg a=>(by rw[d]at a;cases a),i⟩
 subst c
 refine⟨_,b,z,.inr ⟨g,z,k⟩,λl a=>?_,i⟩;have:=kp a;omega
theorem Pi(a:Q5)(f:List Q4)(c:Nat)(w:Q9)(h:Strs w a f)(hl:f.length<=1000)(hs:∀e∈f,e.size<=1048576):Calls prog 149 #[Y a f.length c] w λe b=>vx w b e (OU f []):=by
 obtain⟨E,aH⟩:=nHz (OU f []);rw[<-aH.j];have HH:=LE h;have HS:=LE hs;clear h hs;go_enter func149,ntmps149;go_wp2;go_loopw [13] (λb wr=>∃(i:Nat) (k:List Pr) (K:Q5) (L:Nat) (W:Q9),W=wr/\b=Z (i:Int)/\i<=f.length/\MH k=true/\Hid (OU (f.drop i) k=E)/\FdB w W k K L) (λb _=>((f.length:Int)-intOf b).toNat)
 case atStart =>
  exact⟨0,[],none,0,_,z,z,AL,YI,by show _=_;rw[aH.j];rfl,FdB.new w⟩
 case round =>
  obtain⟨i,k,K,L,wr,rfl,rfl,hi,l,B,D⟩:=hrel;have t:=LE D;have d1:=D.st.y 0;have G:=D.st.lt;have U:=D.rb.y 0;have A:=D.rb.lt;have x:=D.rb.A 0;have b:=XO l;have bU:=b.1;have bJ:=LE l;have bB:=LE b.2;clear l b D
  by_cases H:i<f.length
  .have aU:(i:Int)<(f.length:Int):=d
   have bR:(0:Int)<=(i:Int):=d
   have bV:IntKind.i64.wrap ((i:Int)+1)=(i:Int)+1:=by simp[IntKind.wrap,IntKind.bits,IntKind.signed];omega
   obtain⟨b,o,s,rfl,V,HE⟩:=(HH.j.I t.j.be).at H;have bF:s.size<=1048576:=HS.j s (by rw[HE.j];simp[List.getD,H]);have l:f.drop i=s::f.drop (i+1):=by rw[HE.j];simp[List.getD,H]
   have bP:b<wr.heap.size:=by have:=DP wr _ V;simpa using this
   have I:=LE (λm=>Ip s m bF);rw[vK]at I;rw[l]at B;have bI:=LE l;clear l
   cases hR:XN s with
   | none =>
    rw[hR]at I;have u:Hid (E=none):=by show _=_;rw[<-B.j];exact wK hR
    clear hR;go_wp2_with fail;refine(I.j _).J ?_;rintro e w5 ⟨ab,cb,rfl,_,_,v⟩;simp only[JS,JH,AU];have l:=t.j.I v;have D:=LE l;have J:=l.rb.y 0;have C:=l.rb.lt;have R:=l.rb.A 0;clear d1 G U A x l v V;go_wp2;refine AE (v:=.tuple #[LX none 0 0,Q1 false]) (by simp[results,results149,go_sem,J,LX]) z ?_;rw[u.j];exact⟨none,0,z,AA,.inl z,λg r=>(by cases r),D.j.be.setCell (by show w.heap.size<=w.heap.size;omega) _⟩
   | some q =>
    rw[hR]at I;have l:=qP (wJ hR);have aY:=LE l.2;have bC:=l.1;clear l
    by_cases n:QW k q=0
    focus
     have u:Hid (OU (f.drop (i+1)) (NP k q)=E):=by show _=_;rw[<-B.j];exact(sP hR n).symm
     have J:QT k q=NP k q:=by unfold QT;rw[AI n]
     have aZ:=LE (SD n)
    rotate_left
    focus
     have u:Hid (E=none):=by show _=_;rw[<-B.j];exact xX hR n
     have J:QT k q=[]:=by unfold QT;rw[AF n]
     have bQ:(QW k q == 0)=false:=by simp[n]
     have bE:(QW k q != 0)=true:=by simp[n]
    rotate_left
    all_goals
     clear hR;go_wp2_with fail;refine(I.j _).J ?_;rintro e w5 ⟨ab,cb,rfl,R,C,v⟩;simp only[GD,JI]at R C⊢;have l:=t.j.I v;have D:=LE l;have r1:=l.st.y 0;have aX:=l.st.lt;have O:=LE (vY K k L ab q cb w5 l.own.prs d bB.j (Bk R) d aY.j)
    .rw[J,n]at O
     clear d1 G U A x l v V R C;go_wp2_with fail;refine O.j.J ?_;rintro e X ⟨M,T,rfl,aW,S,Q,y⟩;have m:=(D.j.I y).I (MI X (.cells #[Y M (NP k q).length T] 42));have j:=LE (m.set S aW (λg r=>by have:=Q g r;omega));have x1:=m.st.y 0;have bW:=m.st.A 0;have bY:=m.st.lt;have x6:X.heap.size≠w.heap.size+1:=by have:=(D.j.I y).st.lt;omega
     clear r1 aX m y S Q n J;go_wp2;exact⟨⟨i+1,_,M,T,_,z,σ,d,aZ.j,u,j.j⟩,by simp[intOf];omega⟩
    rw[J]at O
    clear d1 G U A x l v V R C J;go_wp2_with fail;refine O.j.J ?_;rintro e X ⟨M,T,rfl,aW,S,Q,y⟩;have m:=(D.j.I y).I (MI X (.cells #[Y M 0 T] 42));have j:=LE m;have J:=m.rb.y 0;have C:=m.rb.lt;have R:=m.rb.A 0;clear r1 aX m y S Q;go_wp2;refine AE (v:=.tuple #[LX none 0 0,Q1 false]) (by simp[results,results149,go_sem,J,LX]) z ?_;rw[u.j];exact⟨none,0,z,AA,.inl z,λg r=>(by cases r),j.j.be.setCell (by show w.heap.size<=w.heap.size;omega) _⟩
  have u:Hid (E=some k):=by show _=_;rw[<-B.j,EA d];rfl
  have aU:¬((i:Int)<(f.length:Int)):=d
  have l:¬(w.heap.size=w.heap.size+1):=d
  go_wp2;refine AE (v:=.tuple #[LX K k.length L,Q1 true]) (by simp[results,results149,go_sem,U,LX]) z ?_;rw[u.j];refine⟨K,L,z,t.j.cap,OwnS.setF t.j.own (Ki w.heap.size 0) (λg r b=>?_) _,λg r=>by have:=t.j.lo g r;omega,t.j.be.setCell (by show w.heap.size<=w.heap.size;omega) _⟩;have:=t.j.lo g (by subst r;exact ND _ _ _ (ce b));show w.heap.size≠g;omega
end
section
open Tryz
open Go.RowKit Go.Shelf
variable {g1 g2 n3:Nat}{A B:Q9}
attribute [local go_sem] Oper.semAt_some
@[reducible] def nE(x:Int×Int×Int×Q4):Ra:=OD x.1 x.2.1 x.2.2.1 x.2.2.2
@[reducible] def ua{a:Nat->Q4}{b:Nat}{c:Int}{N:Nat}(x:Pgs a b c N):Array Ra:=#[Z (x.1:Int),nE (VP a b c x.1)]
def KpP(n3 g1 g2:Nat)(A B:Q9):Prop:=Below n3 A B/\B.heap[g1]?=A.heap[g1]?/\B.heap[g2]?=A.heap[g2]?
theorem KpP.t{C:Q9}(h:KpP n3 g1 g2 A B)(k:KpP n3 g1 g2 B C):KpP n3 g1 g2 A C:=⟨h.1.E k.1,k.2.1.E h.2.1,k.2.2.E h.2.2⟩
theorem KpP.b{w:Q9}(d:n3<=w.heap.size)(f:g1<w.heap.size)(g:g2<w.heap.size)(W:Q9)(l:Nat)(o a:Obj)(c:w.heap.size<=l)(h:W.heap[l]?=some o)(b:o.isCells=false)(e:o.isWalk=false):KpP n3 g1 g2 W (W.putObj l a) :=⟨belowK_b d W l o a c h b e,World.putObj_heap_other ω,World.putObj_heap_other ω⟩
theorem KpP.V{C:Q9}(h:KpP n3 g1 g2 A B)(a:Q3 B C)(b:n3<=B.heap.size)(c:g1<B.heap.size)(d:g2<B.heap.size):KpP n3 g1 g2 A C :=⟨h.1.E (a.J b),(a.block g1 c).E h.2.1,(a.block g2 d).E h.2.2⟩
def yA{b:Nat->Q4}{c:Nat}{d:Int}{N:Nat}(u:Nat)(a:List (Pgs b c d N)):Prop:=Good u a/\(N<=u+a.length\/OA (b (c+(u+a.length))) d=none)
theorem SZ{w:Q9}{g:Nat}{a:Array Ra}{t:TypeId}{z:Nat×Nat}(h:w.heap[g]?=some (.cells a t z))(i:Nat)(v:Ra)(hv:a[i]?=some v):w.cell? (Ki g i)=some v:=by
 simp[World.cell?,h,hv]
theorem sg(h:Q3 A B):A.grownBy B none:=⟨h.os,h.tape,h.output,h.size,λk a _=>h.block k a⟩
theorem K5(n:Nat)(hn:1<=n)(l g1 g2 g N a:Nat)(o:Nat->Q4)(h:Int)(w y:Ra)(C:Q9)(hN:N<=200)(hu:a<=N)
  (aZ:Hid (∀b,Q3 C b->∀m:Nat,m<N->Calls prog 269 #[qe w y (g:Int) (N:Int) h,Z (m:Int)] b λe c=>e=Q2 (WJ (OA (o (g+m)) h))/\Q3 b c))
  (J K:List (Pgs o g h N)->Q9->Prop)
  (U:∀b x f,J b f->b.length<N->YieldAt Fence.wide (n-1) prog l (ua x) f λe c=>(e=Q2 (Q1 true)/\J (b++[x]) c/\KpP C.heap.size g1 g2 f c)\/(e=Q2 (Q1 false)/\K (b++[x]) c))
  (W:Q9)(T:Q3 C W)(M:W.heap[g1]?=some (.cells #[.iface 299 (.agg #[w,y]),Z (g:Int),Z (N:Int),Z h] 234 (0,0)))(O:W.heap[g2]?=some (.cells #[Z (a:Int)] 3 (0,0)))
  (R:J [] W)(S:∀s A B,J s A->A.grownBy B none->J s B):CallsIn Fence.wide n prog 268 #[.func (.yield l) #[] #[],Dr g2 0,Dr g1 0] W λe c=>(∃v,e=Q2 v) /\
   ((∃f,yA a f/\J f c)\/(∃b,Good a b/\K b c)):=by
 refine JU func268 z trivial ?_ z;simp only[ntmps268,GQ,BN,AU,Nat.reduceAdd,Nat.reduceSub,GA,GC,GP,FK,EL,EX];have u:=LE U;have G:=LE S;clear U S;have b:=SZ O 0 (Z (a:Int)) z
 gi_wp2
 clear b
 gi_loopw [4] (λi wr=>∃(k:Nat) (b:List (Pgs o g h N)),b.length=k/\Good a b/\a+k<=N/\i=Z ((a+k:Nat):Int)/\J b wr/\Q3 C wr/\wr.heap[g1]?=some (.cells #[.iface 299 (.agg #[w,y]),Z (g:Int),Z (N:Int),Z h] 234 (0,0))) (λi _=>N-(intOf i).toNat)
 case atStart=>exact⟨0,[],z,Good.nil a,hu,z,R,T,M⟩
 case round =>
  obtain⟨k,b,r,i,s,rfl,f,P,c⟩:=hrel;obtain⟨q,e⟩:=nMz (a+k);rw[<-e];have j:=LE e;have m:=LE r;have p:=LE i;have E:=LE f;have D:=LE P;have bI:q<=N:=ω
  have aW:=LE c;have bE:=(AR.1 c).1;clear r i f s;have c0:=SZ c 0 (.iface 299 (.agg #[w,y])) z;have c1:=SZ c 1 (Z (g:Int)) z;have c2:=SZ c 2 (Z (N:Int)) z;have c3:=SZ c 3 (Z h) z;clear c e M O T R
  by_cases Q:q<N
  .have bF:(q:Int)<(N:Int):=ω
   have bJ:IntKind.i64.wrap ((q:Int)+1)=(q:Int)+1:=by simp[IntKind.wrap,IntKind.bits,IntKind.signed];omega
   have i:=aZ.j wr D.j q Q;clear P
   cases hR:OA (o (g+q)) h with
   | none =>
    rw[hR]at i;simp only[WJ]at i;have I:=LE hR;have x:=LE i;clear hR i
    gi_wp2_with (refine⟨trivial,?_⟩;gi_at_call 269;refine(FH.2 x.j).J ?_;rintro e X ⟨rfl,c⟩)
    refine⟨λf r=>(by cases r),?_⟩
    gi_wp2
    refine AE (KG z _ _ _) z ?_;refine⟨⟨_,z⟩,.inl ⟨b,⟨p.j,.inr ?_⟩,G.j _ _ _ E.j (sg (c.alloc c.size _))⟩⟩;rw[m.j,<-j.j];exact I.j
   | some pg =>
    obtain⟨r,s,t,v⟩:=pg;rw[hR]at i;simp only[WJ]at i;obtain⟨f,c⟩:∃f:Pgs o g h N,f.1=q:=⟨⟨q,Q,by rw[hR];rfl⟩,z⟩;have e:ua f=#[Z (q:Int),.agg #[Z r,Z s,Z t,Ow v]]:=by unfold ua nE VP;rw[c,hR];rfl
    have bB:=LE e;have L:=LE c;have I:=LE hR;have x:=LE i;clear hR i e c
    gi_wp2_with (refine⟨trivial,?_⟩;gi_at_call 269;refine(FH.2 x.j).J ?_;rintro e X ⟨rfl,c⟩)
    obtain⟨fn,V,aI,bC,i,F⟩:=u.j b f (X.alloc (.cells #[Z r,Z s,Z t,Ow v] 156)) (G.j _ _ _ E.j (sg (c.alloc c.size _))) (by rw[m.j];have:=j.j;omega);rw[bB.j]at i;have bH:=c.size;have aX:=LE ((c.alloc c.size (.cells #[Z r,Z s,Z t,Ow v] 156)).block _ bE);have d:=LE (D.j.E ((c.alloc c.size (.cells #[Z r,Z s,Z t,Ow v] 156)).J D.j.size));clear c;rw[i,Oper.uponIn_round];refine⟨λ_=>hn,?_⟩;refine F.J ?_;rintro e W6 (⟨rfl,hJ6,hk6⟩|⟨rfl,hJx6⟩)
    .have aY:=LE (hk6.2.1.E (aX.j.E aW.j))
     have H:=LE (d.j.E hk6.1);have c:=LE hJ6;clear hJ6 hk6 F i
     gi_wp2
     go_roundw
     case rel=>exact⟨k+1,b++[f],by rw[AK,m.j];rfl,p.j.push (by rw[L.j,m.j,j.j]),by have:=j.j;omega,by have:=j.j;simp;omega,c.j,H.j,aY.j⟩
     case measure=>simp[intOf];omega
    have c:=LE hJx6
    clear hJx6 F i
    gi_wp2
    refine AE (KG z _ _ _) z ?_;exact⟨⟨_,z⟩,.inr ⟨b++[f],p.j.push (by rw[L.j,m.j,j.j]),c.j⟩⟩
  gi_wp2
  go_end0;exact⟨⟨_,z⟩,.inl ⟨b,⟨p.j,.inl (by rw[m.j,<-j.j];omega)⟩,E.j⟩⟩
theorem Pt(n:Nat)(b c:Ra)(a N:Int)(d:Int)(u:Int)(w:Q9):CallsIn Fence.wide n prog 208 #[qe b c a N d,Z u] w λe f=>e=Q2 (.func (.func 268) #[] #[Dr (w.heap.size+1) 0,Dr w.heap.size 0])/\f=(w.alloc (.cells #[.iface 299 (.agg #[b,c]),Z a,Z N,Z d] 234)).alloc (.cells #[Z u] 3):=by
 refine JU func208 z trivial ?_ z;simp only[ntmps208,GQ,BN,AU,Nat.reduceAdd,Nat.reduceSub,GA,GC,GP,FK,EL,EX]
 gi_wp2
 go_ret;exact⟨z,z⟩
theorem Ck(n:Nat)(z:1<=n)(g1 g2 a N u:Nat)(d:Nat->Q4)(b:Int)(g h:Ra)(c w:Q9)(v:N<=200)(C:u<=N)(k:Q3 c w)
  (p:Hid (∀f,Q3 c f->∀m:Nat,m<N->Calls prog 269 #[qe g h (a:Int) (N:Int) b,Z (m:Int)] f λe i=>e=Q2 (WJ (OA (d (a+m)) b))/\Q3 f i))
  (i:w.heap[g1]?=some (.cells #[.iface 299 (.agg #[g,h]),Z (a:Int),Z (N:Int),Z b] 234 (0,0)))(j:w.heap[g2]?=some (.cells #[Z (u:Int)] 3 (0,0))):SeqStopsK Fence.wide n prog 268 #[Dr g2 0,Dr g1 0] (λx:Pgs d a b N=>ua x) (KpP c.heap.size g1 g2) (yA u) (Good u) N w:=λl J o W f t r y q =>
 K5 n z l g1 g2 a N u d b g h c v C p J o y W (k.E (f.J k.size)) ((f.block _ (AR.1 i).1).E i) ((f.block _ (AR.1 j).1).E j) q (λs A B x m=>t s A B none x m (λr e=>(by cases e)))
end
section
open Tryz
open Go.RowKit Go.Shelf
variable {b:Nat}{row:Option Nat}{T e:TypeId}{W W':Q9}
theorem Hu(B b:Nat)(bs:List Ra)(s:Q4)(w:Q9)(h:Lib.IsBuilderF 56 5 B b bs w)(c:bs.length+s.size<=140737488355328)(d:B<=w.heap.size):Calls prog 15 #[Dr b 0,Ow s] w λe a=>e=Q2 (.tuple #[Z s.size,.nilIface])/\(Lib.BuilderAtF 56 5 B b (Dr b 0) (bs++Lib.strCells s) a/\Below B w a/\Lib.OthersKept 5 (some b) w a):=Any.Builder_WriteString_k wX kn B b bs s w h c d
theorem B5(B b:Nat)(l:List UInt8)(w:Q9)(h:Lib.IsBuilderF 56 5 B b (Lib.byteCells l) w)(c:B<=w.heap.size):Calls prog 18 #[Dr b 0] w λe a=>e=Q2 (Ow ⟨l.toArray⟩)/\(Lib.IsBuilderF 56 5 B b (Lib.byteCells l) a/\Below B w a/\Lib.OthersKept 5 (some b) w a):=Any.Builder_String_any_k Aa kn B b l w h c
theorem rc{g:Nat}{c:Ra}{f:List Ra}(h:Row W g (c::f)):∃a t d,W.heap[g]?=some (.cells a t d):=by
 have:=h.cell 0 c z;unfold World.cell? at this
 split at this
 .exact⟨_,_,_,by assumption⟩
 cases this
theorem sj{g:Nat}{c:Ra}{f:List Ra}(h:Row W g (c::f))(l:W.grownBy W' row)(n:∀r,row=some r->r≠g\/∃o:Obj,W.heap[r]?=some o/\o.isCells=false):Row W' g (c::f):=by
 refine h.V l λe=>?_
 rcases n g e.symm with j|⟨o,i,k⟩
 .exact j z
 obtain⟨a,t,d,m⟩:=rc h
 rw[m]at i;cases i;cases k
theorem uT{a:Nat}{s:Nat}{v:Ra}{n:Nat}{d:List Ra}(h:W.ownsRow a e s v n d)(m:W.grownBy W' row)(p:∀r,row=some r->∃o:Obj,W.heap[r]?=some o/\o.isCells=false):W'.ownsRow a e s v n d:=by
 refine h.kept m ?_;rcases h.2 with ⟨rfl,_⟩|⟨g,i,j,rfl,_,f,_⟩
 .exact .inl z
 refine .inr λk=>?_
 obtain⟨o,c,l⟩:=p g (by simpa[Value.ownBlock] using k.symm)
 rw[f]at c;cases c;cases l
theorem uJ{B:Nat}{bs:List Ra}(h:Lib.IsBuilderF T e B b bs W)(j:W.grownBy W' row)(l:∀r,row=some r->r<B\/∃o:Obj,W.heap[r]?=some o/\o.isCells=false):Lib.IsBuilderF T e B b bs W':=by
 have i:∀p,Lib.BuilderAtF T e B b p bs W->Lib.BuilderAtF T e B b p bs W':=by
  rintro p ⟨s,v,f,d,n⟩;have m:b<W.heap.size:=(AR.1 f).1
  have r:some b≠row:=λe=>by
   rcases l b e.symm with h|⟨o,a,g⟩
   .omega
   rw[f]at a;cases a;cases g
  refine⟨s,v,(j.block b m r).E f,d.kept j ?_,n⟩
  cases hv:v.ownBlock with
  | none=>exact .inl z
  | some k =>
   refine .inr λq=>?_
   rcases l k q.symm with h|⟨o,a,g⟩
   .have:=(d.lt k hv).1;omega
   obtain⟨c,u,t⟩:=Lib.ownsRowF_kind d k hv
   rw[t]at a;cases a;cases g
 rcases h with h|h
 .exact .inl (i _ h)
 exact .inr (i _ h)
theorem yW{B:Nat}{bs:List Ra}(h:Lib.IsBuilderF T e B b bs W):∃a,W.heap[b]?=some (.cells a T (0,0)):=by
 rcases h with ⟨_,v,a,_⟩|⟨_,v,a,_⟩<;>exact⟨_,a⟩
theorem yR{a:Array Ra}{z:Nat×Nat}(g:W.heap[b]?=some (.cells a T z))(h:Lib.OthersKept e (some b) W W')(i:W.heap.size<=W'.heap.size):KeepsOthers W W' :=⟨i,λk o d f=>h k o d (λe=>by cases e;rw[g]at d;cases d;cases f) (λc j e=>by rw[e]at f;cases f)⟩
theorem pO(h:Q3 W W'):KeepsOthers W W':=⟨h.size,λk o a _=>(h.block k (AR.1 a).1).E a⟩
structure ScL(w3 W:Q9)(Rs:List Nat)(M:Nat)(c0 c1 c2 c3:Ra)(y:Ra)(ents:List Q4)(u l wk wl wm:Int)(wp:Q4):Prop where
 lb:Row W w3.heap.size [c0,c1,c2,c3]
 fb:Row W (w3.heap.size+1) [y,Z u,Z l]
 bb:Row W (w3.heap.size+2) [Z wk,Z wl,Z wm,Ow wp]
 own:W.ownsRow w3.heap.size 9 1 y ents.length (ents.map Value.string)
 yo:∀k,y.ownBlock=some k->w3.heap.size+2<k
 be:Q3 w3 W
 mr:∀r∈Rs,w3.heap.size<=r/\r<M/\W.heap[r]?=some (.deferred (some []))
 nd:Rs.Nodup
section
variable {w3 W W':Q9} {Rs:List Nat} {M:Nat} {c0 c1 c2 c3:Ra} {y:Ra} {ents:List Q4} {u l wk wl wm:Int} {wp:Q4}
theorem ScL.kept(h:ScL w3 W Rs M c0 c1 c2 c3 y ents u l wk wl wm wp)(m:w3.heap.size<=M)(a:W.grownBy W' row)(c:∀r,row=some r->M<=r/\∃o:Obj,W.heap[r]?=some o/\o.isCells=false):ScL w3 W' Rs M c0 c1 c2 c3 y ents u l wk wl wm wp:=by
 have d:∀g:Nat,∀r,row=some r->r≠g\/∃o:Obj,W.heap[r]?=some o/\o.isCells=false:=λg r e=>.inr (c r e).2
 refine⟨sj h.lb a (d _),sj h.fb a (d _),sj h.bb a (d _),uT h.own a (λr e=>(c r e).2),h.yo,h.be.V a h.be.size (λk e=>AJ m (c k e).1),λr g=>?_,h.nd⟩;obtain⟨i,j,f⟩:=h.mr r g;exact⟨i,j,(a.block r (AR.1 f).1 (λe=>by have:=(c r e.symm).1;omega)).E f⟩
theorem ScL.low(h:ScL w3 W Rs M c0 c1 c2 c3 y ents u l wk wl wm wp)(c:Below M W W')(t:w3.heap.size+2<M)(p:∀k,y.ownBlock=some k->k<M):ScL w3 W' Rs M c0 c1 c2 c3 y ents u l wk wl wm wp:=by
 have d:∀ {g:Nat} {j:List Ra},g<M->Row W g j->Row W' g j:=λf a=>⟨AC a.lt c.size,λi v hv=>(DT (a:=⟨_,i,none⟩) (c.block _ f)).E (a.cell i v hv),λi k=>(GR (a:=⟨_,i,none⟩) (c.block _ f)).E (a.froz i k)⟩
 have s:W'.ownsRow w3.heap.size 9 1 y ents.length (ents.map Value.string):=by
  have k:=h.own;refine⟨k.1,?_⟩;rcases k.2 with q|⟨g,f,i,hv,n,o,m⟩
  .exact .inl q
  exact .inr ⟨g,f,i,hv,n,(c.block g (p g (by rw[hv];rfl))).E o,m⟩
 exact⟨d ω h.lb,d ω h.fb,d ω h.bb,s,h.yo,h.be.E (c.J ω),λr a=>⟨(h.mr r a).1,(h.mr r a).2.1,(c.block r (h.mr r a).2.1).E (h.mr r a).2.2⟩,h.nd⟩
theorem ScL.top(h:ScL w3 W Rs M c0 c1 c2 c3 y ents u l wk wl wm wp):ScL w3 W Rs W.heap.size c0 c1 c2 c3 y ents u l wk wl wm wp :=⟨h.lb,h.fb,h.bb,h.own,h.yo,h.be,λr a=>⟨(h.mr r a).1,(AR.1 (h.mr r a).2.2).1,(h.mr r a).2.2⟩,h.nd⟩
theorem ScL.I(h:ScL w3 W Rs M c0 c1 c2 c3 y ents u l wk wl wm wp)(a:Q3 W W'):ScL w3 W' Rs M c0 c1 c2 c3 y ents u l wk wl wm wp :=⟨h.lb.I a,h.fb.I a,h.bb.I a,MK h.own a,h.yo,h.be.E (a.J h.be.size),λr c=>⟨(h.mr r c).1,(h.mr r c).2.1,(a.block r (AR.1 (h.mr r c).2.2).1).E (h.mr r c).2.2⟩,h.nd⟩
theorem ScL.own_ne(h:ScL w3 W Rs M c0 c1 c2 c3 y ents u l wk wl wm wp){k:Nat}(a:k<=w3.heap.size+2):y.ownBlock≠some k:=λe=>by have:=h.yo k e;omega
theorem ScL.mk_ne(h:ScL w3 W Rs M c0 c1 c2 c3 y ents u l wk wl wm wp){r:Nat}(i:r∈Rs):r≠w3.heap.size+1/\r≠w3.heap.size+2/\y.ownBlock≠some r:=by
 have c:=(h.mr r i).2.2;refine⟨λe=>?_,λe=>?_,λe=>?_⟩
 .obtain⟨a,t,z,d⟩:=rc h.fb
  rw[e,d]at c;cases c
 .obtain⟨a,t,z,d⟩:=rc h.bb
  rw[e,d]at c;cases c
 rcases h.own.2 with ⟨rfl,_⟩|⟨g,d,f,rfl,_,a,_⟩
 .cases e
 have:g=r:=by simpa[Value.ownBlock] using e
 rw[this,c]at a;cases a
theorem ScL.setWas(h:ScL w3 W Rs M c0 c1 c2 c3 y ents u l wk wl wm wp)(f j k:Int)(m:Q4):ScL w3 ((((W.setCell (Ki (w3.heap.size+2) 0) (Z f)).setCell (Ki (w3.heap.size+2) 1) (Z j)).setCell (Ki (w3.heap.size+2) 2) (Z k)).setCell (Ki (w3.heap.size+2) 3) (Ow m)) Rs M c0 c1 c2 c3 y ents u l f j k m:=by
 have n:∀ {g:Nat} {o:List Ra},g≠w3.heap.size+2->Row W g o->Row ((((W.setCell (Ki (w3.heap.size+2) 0) (Z f)).setCell (Ki (w3.heap.size+2) 1) (Z j)).setCell (Ki (w3.heap.size+2) 2) (Z k)).setCell (Ki (w3.heap.size+2) 3) (Ow m)) g o:=λc a =>
  (((a.other _ (JC c) _).other _ (JC c) _).other _ (JC c) _).other _ (JC c) _
 have d:=h.own_ne AA
 have bs:∀ {x:Q9},Q3 w3 x->∀i v,Q3 w3 (x.setCell (Ki (w3.heap.size+2) i) v):=λc i v=>c.setCell (by show w3.heap.size<=w3.heap.size+2;omega) _
 refine⟨n ω h.lb,n ω h.fb,(((h.bb.set 0 σ _).set 1 σ _).set 2 σ _).set 3 σ _,BT (BT (BT (BT h.own d _) d _) d _) d _,h.yo,bs (bs (bs (bs h.be _ _) _ _) _ _) _ _,λr a=>⟨(h.mr r a).1,(h.mr r a).2.1,?_⟩,h.nd⟩;have c:=(h.mk_ne a).2.1;rw[BM _ _ _ _ c,BM _ _ _ _ c,BM _ _ _ _ c,BM _ _ _ _ c];exact(h.mr r a).2.2
theorem ScL.take(h:ScL w3 W Rs M c0 c1 c2 c3 y ents u l wk wl wm wp){a:List Q4}{s q:Int}(x:pZ w3.heap.size (w3.heap.size+1) y W a s q W'):∃j,ScL w3 W' Rs M c0 c1 c2 c3 j a s q wk wl wm wp:=by
 obtain⟨j,c,w,t,o,p⟩:=x
 have m:∀ {g:Nat} {n:List Ra},g<=w3.heap.size+2->g≠w3.heap.size+1->Row W g n->Row W' g n:=λf d c=>by
  have e:=p _ c.lt d (λe=>h.own_ne f e.symm);exact⟨AC c.lt o.size,λi v hv=>(DT (a:=⟨_,i,none⟩) e).E (c.cell i v hv),λi d=>(GR (a:=⟨_,i,none⟩) e).E (c.froz i d)⟩
 have v:=h.bb.lt;refine⟨j,m ω ω h.lb,c,m ω ω h.bb,w,λk e=>?_,h.be.E o,λr d=>⟨(h.mr r d).1,(h.mr r d).2.1,?_⟩,h.nd⟩
 .rcases t with f|⟨H,f,i⟩
  .exact h.yo k (f.symm.E e)
  rw[f]at e;cases e;omega
 have f:=h.mk_ne d
 exact(p r (AR.1 (h.mr r d).2.2).1 f.1 (λe=>f.2.2 e.symm)).E (h.mr r d).2.2
theorem ScL.takeKeeps(h:ScL w3 W Rs M c0 c1 c2 c3 y ents u l wk wl wm wp){c:List Q4}{r q:Int}(p:pZ w3.heap.size (w3.heap.size+1) y W c r q W'):KeepsOthers W W':=by
 obtain⟨x,w,v,s,m,n⟩:=p;refine⟨m.size,λk o d f=>(n k (AR.1 d).1 (λe=>?_) (λe=>?_)).E d⟩
 .obtain⟨a,t,z,g⟩:=rc h.fb
  rw[e,g]at d;cases d;cases f
 rcases h.own.2 with ⟨rfl,_⟩|⟨g,i,j,rfl,_,a,_⟩
 .cases e
 have:k=g:=by simpa[Value.ownBlock] using e
 rw[this,a]at d;cases d;cases f
theorem ScL.push(h:ScL w3 W Rs M c0 c1 c2 c3 y ents u l wk wl wm wp){D:Nat}(c:W.heap[D]?=some (.deferred (some [])))(g:M<=D)(d:w3.heap.size<=D):ScL w3 W (D::Rs) W.heap.size c0 c1 c2 c3 y ents u l wk wl wm wp :=⟨h.lb,h.fb,h.bb,h.own,h.yo,h.be,λr a=>by
  rcases DZ.1 a with rfl|a
  .exact⟨d,(AR.1 c).1,c⟩
  exact⟨(h.mr r a).1,(AR.1 (h.mr r a).2.2).1,(h.mr r a).2.2⟩,List.nodup_cons.2 ⟨λf=>by have:=(h.mr D f).2.1;omega,h.nd⟩⟩
end
structure ScN(w3 W:Q9)(Rs:List Nat)(b:Nat)(c0 c1 c2 c3:Ra)(y:Ra)(ents:List Q4)(u l wk wl wm:Int)(wp op:Q4):Prop where
 sl:ScL w3 W Rs b c0 c1 c2 c3 y ents u l wk wl wm wp
 bu:Lib.IsBuilderF 56 5 b b (Lib.byteCells op.data.toList) W
 g1:W.heap[b+1]?=some (.cells #[c0,c1,c2,c3] 234 (0,0))
 g2:W.heap[b+2]?=some (.cells #[Z u] 3 (0,0))
 yb:∀k,y.ownBlock=some k->k<b
 lo:w3.heap.size+2<b
section
variable {w3 W W':Q9} {Rs:List Nat} {b:Nat} {c0 c1 c2 c3:Ra} {y:Ra} {ents:List Q4} {u l wk wl wm:Int} {wp op:Q4}
theorem ScN.kept(h:ScN w3 W Rs b c0 c1 c2 c3 y ents u l wk wl wm wp op)(c:W.grownBy W' row)(f:∀r,row=some r->b<=r/\∃o:Obj,W.heap[r]?=some o/\o.isCells=false):ScN w3 W' Rs b c0 c1 c2 c3 y ents u l wk wl wm wp op:=by
 have i:∀ {g:Nat} {a:Array Ra} {t:TypeId} {z:Nat×Nat},W.heap[g]?=some (.cells a t z)->W'.heap[g]?=some (.cells a t z):=λd=>(c.block _ (AR.1 d).1 (λe=>by
  obtain⟨_,o,j,k⟩:=f _ e.symm
  rw[d]at j;cases j;cases k)).E d
 exact⟨h.sl.kept (by have:=h.lo;omega) c f,uJ h.bu c (λr e=>.inr (f r e).2),i h.g1,i h.g2,h.yb,h.lo⟩
theorem ScN.alloc(h:ScN w3 W Rs b c0 c1 c2 c3 y ents u l wk wl wm wp op)(o:Obj):ScN w3 (W.alloc o) Rs b c0 c1 c2 c3 y ents u l wk wl wm wp op:=h.kept (World.grownBy_alloc W o none) (λr e=>by cases e)
theorem ScN.setWas(h:ScN w3 W Rs b c0 c1 c2 c3 y ents u l wk wl wm wp op)(f j m:Int)(n:Q4):ScN w3 ((((W.setCell (Ki (w3.heap.size+2) 0) (Z f)).setCell (Ki (w3.heap.size+2) 1) (Z j)).setCell (Ki (w3.heap.size+2) 2) (Z m)).setCell (Ki (w3.heap.size+2) 3) (Ow n)) Rs b c0 c1 c2 c3 y ents u l f j m n op:=by
 have p:=h.lo
 have g:∀(X:Q9) (i:Nat) (v:Ra),X.grownBy (X.setCell (Ki (w3.heap.size+2) i) v) (some (w3.heap.size+2)):=λX i v=>⟨rfl,rfl,rfl,σ,λk _ c=>BM _ _ _ _ (λe=>c (by rw[e]))⟩
 have bs:∀ {X:Q9},Lib.IsBuilderF 56 5 b b (Lib.byteCells op.data.toList) X->∀i v,Lib.IsBuilderF 56 5 b b (Lib.byteCells op.data.toList) (X.setCell (Ki (w3.heap.size+2) i) v):=λd i v=>uJ d (g _ i v) (λr e=>by cases e;exact .inl p)
 have a:∀ {X:Q9} {k:Nat} {o:Obj},k≠w3.heap.size+2->X.heap[k]?=some o->∀i v,(X.setCell (Ki (w3.heap.size+2) i) v).heap[k]?=some o:=λc d i v=>(BM _ _ _ _ c).E d
 have c:b+1≠w3.heap.size+2:=ω
 have d:b+2≠w3.heap.size+2:=ω
 exact⟨h.sl.setWas f j m n,bs (bs (bs (bs h.bu _ _) _ _) _ _) _ _,a c (a c (a c (a c h.g1 _ _) _ _) _ _) _ _,a d (a d (a d (a d h.g2 _ _) _ _) _ _) _ _,h.yb,h.lo⟩
theorem ScN.wrote(h:ScN w3 W Rs b c0 c1 c2 c3 y ents u l wk wl wm wp op){op':Q4}(g:Below b W W')(a:Lib.OthersKept 5 (some b) W W')(d:Lib.IsBuilderF 56 5 b b (Lib.byteCells op'.data.toList) W'):ScN w3 W' Rs b c0 c1 c2 c3 y ents u l wk wl wm wp op' :=⟨h.sl.low g h.lo h.yb,d,a _ _ h.g1 σ (by intro c f e;simp at e),a _ _ h.g2 σ (by intro c f e;simp at e),h.yb,h.lo⟩
end
def InS{i:Nat->Q4}{p:Nat}{r:Int}{N:Nat}(first:Int)(j:Scd)(q:Q9)(h:List Nat)(b:Nat)(k m n o:Ra)(y:Ra)(a:List Q4)(u:Nat)(l:Int)(c:List (Pgs i p r N))(W:Q9):Prop :=∃f g s t d,ScN q W h b k m n o y a (u:Int) l f g s t d/\d.size<=64*c.length/\Chn first j u c f g d (a,(u:Int),l)
def InX{m:Nat->Q4}{s:Nat}{w:Int}{N:Nat}(first:Int)(n:Scd)(v:Q9)(k:List Nat)(b:Nat)(o p q r:Ra)(y:Ra)(d:List Q4)(u:Nat)(l:Int)(c:Code)(f:List (Pgs m s w N))(W:Q9):Prop :=(c=.exit 0/\(∃g h i j,ScL v W k b o p q r y d (u:Int) l g h i j)/\(Good u f->(d,(u:Int),l)=n)) ∨
 (c=.exit 1/\∃(x:Nat) (z:Ra) (a:List Q4) (t g h i:Int) (j:Q4),ScL v W k b o p q r z a ((x+1:Nat):Int) t g h i j/\x<N/\(Good u f->u<=x/\a.length<=d.length+1/\Chn (S:=m) (frm:=s) (n:=w) (size:=N) first n (x+1) [] g h ByteArray.empty (a,((x+1:Nat):Int),t)))
section
variable {SF:Nat->Q4} {fm:Nat} {wd:Int} {N:Nat} {first:Int} {RES:Scd} {w3:Q9} {Rs:List Nat} {b:Nat} {c0 c1 c2 c3:Ra} {y:Ra} {ents:List Q4} {u:Nat} {l:Int}
theorem InS.own(B:Nat)(h:b<=B):OwnFrom B (λ(c:List (Pgs SF fm wd N)) W=>InS first RES w3 Rs b c0 c1 c2 c3 y ents u l c W):=by
 rintro s X a row ⟨m,n,o,p,k,j,f,g⟩ i d;exact⟨m,n,o,p,k,j.kept i (λr e=>⟨AJ h (d r e).1,(d r e).2⟩),f,g⟩
theorem InX.own(B:Nat)(w:b<=B)(p:w3.heap.size<=b)(c:Code):OwnFrom B (λ(j:List (Pgs SF fm wd N)) W=>InX first RES w3 Rs b c0 c1 c2 c3 y ents u l c j W):=by
 rintro s X a row h t v
 have q:∀r,row=some r->b<=r/\∃o:Obj,X.heap[r]?=some o/\o.isCells=false:=λr e=>⟨AJ w (v r e).1,(v r e).2⟩
 rcases h with ⟨g,⟨k,m,n,o,i⟩,f⟩|⟨g,x,A,d,z,k,m,n,o,i,r,f⟩
 .exact .inl ⟨g,⟨k,m,n,o,i.kept p t q⟩,f⟩
 exact .inr ⟨g,x,A,d,z,k,m,n,o,i.kept p t q,r,f⟩
end
theorem ww{F:Fence}{n:Nat}{P:Program}{fn:Func}{tmps:Array Ra}{R:Ending->Q9->Prop}(B:Nat)(Pr:Q9->Prop)(aB:∀W r,B<=r->W.heap[r]?=some (.deferred (some []))->Pr W->Pr (W.putObj r (.deferred none)))(aA:∀W,Pr W->LeavesIn F n P fn tmps R [] .returning W):∀(Rs:List Nat) (W:Q9),Rs.Nodup->(∀r∈Rs,B<=r/\W.heap[r]?=some (.deferred (some [])))->Pr W->LeavesInM F n P fn tmps R (Rs.map (λr=>({ target:=.collected r,args:=#[] }:Deferred))) .returning W
 | [],W,_,_,hp=>aA W hp
 | r::Rs,W,hn,hm,hp=>by
  have h0:=hm r (EN ..);refine⟨σ,.inl ⟨r,_,rfl,run_takeDeferred h0.2,?_⟩⟩;have hnr:=List.nodup_cons.1 hn;refine ww B Pr aB aA Rs _ hnr.2 (λq hq=>?_) (aB W r h0.1 h0.2 hp);have h1:=hm q (DK _ hq);exact⟨h1.1,(World.putObj_heap_other (λe:q=r=>hnr.1 (by rw[<-e];exact hq))).E h1.2⟩
def ScF1(w c:Q9)(RB:Nat)(y:Ra)(a:List Q4)(u l:Int)(X:Q9):Prop:=Row X RB [y,Z u,Z l]/\X.ownsRow c.heap.size 9 1 y a.length (a.map Value.string)/\Q3 w X
theorem ScF1.put{w c:Q9}{RB:Nat}{y:Ra}{a:List Q4}{u l:Int}(n:w.heap.size<=c.heap.size)(X:Q9)(r:Nat)(m:c.heap.size<=r)(j:X.heap[r]?=some (.deferred (some [])))(h:ScF1 w c RB y a u l X):ScF1 w c RB y a u l (X.putObj r (.deferred none)):=by
 obtain⟨g,i,f⟩:=h
 have d:∀q,some r=some q->∃o:Obj,X.heap[q]?=some o/\o.isCells=false:=λq e=>by cases e;exact⟨_,j,rfl⟩
 exact⟨sj g (grownBy_putObj' X r _) (λq e=>.inr (d q e)),uT i (grownBy_putObj' X r _) d,f.V (grownBy_putObj' X r _) f.size (λk e=>by cases e;omega)⟩
theorem ScL.fin{w c:Q9}{m:List Nat}{M:Nat}{t x z A:Ra}{y:Ra}{a:List Q4}{u l B C D:Int}{E:Q4}{RB:Nat}{o p q:Ra}(h:ScL c W m M t x z A y a u l B C D E)(j:Row c RB [o,p,q])(f:w.heap.size<=RB)(n:Q3 w c):ScF1 w c RB y a u l (((W.setCell (Ki RB 0) y).setCell (Ki RB 1) (Z u)).setCell (Ki RB 2) (Z l))/\(∀r∈m,c.heap.size<=r/\(((W.setCell (Ki RB 0) y).setCell (Ki RB 1) (Z u)).setCell (Ki RB 2) (Z l)).heap[r]?=some (.deferred (some []))):=by
 have g:=j.lt;have s:Row W RB [o,p,q]:=⟨AC g h.be.size,λi v hv=>(DT (a:=⟨_,i,none⟩) (h.be.block _ g)).E (j.cell i v hv),λi d=>(GR (a:=⟨_,i,none⟩) (h.be.block _ g)).E (j.froz i d)⟩
 have k:y.ownBlock≠some RB:=λe=>by have:=h.yo RB e;omega
 refine⟨⟨((s.set 0 σ _).set 1 σ _).set 2 σ _,BT (BT (BT h.own k _) k _) k _,(((n.E (h.be.J n.size)).setCell f _).setCell f _).setCell f _⟩,λr d=>⟨(h.mr r d).1,?_⟩⟩;have i:r≠RB:=by have:=(h.mr r d).1;omega
 rw[BM _ _ _ _ i,BM _ _ _ _ i,BM _ _ _ _ i];exact(h.mr r d).2.2
