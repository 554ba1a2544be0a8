import Derived.Shelf.Small.Strs
import Derived.Sort.Walk0
import Derived.Test.YteflhojcomcfaaaGreatDoorPrG38
import Derived.ChangeKeysEq
import Derived.Test.YteflhojcomcfaaaGreatDoorPrG37
set_option maxHeartbeats 16000000
set_option maxRecDepth 8000
set_option linter.all false
namespace Go.Proofs.YteflhojcomcfaaaGreatDoor
open _root_.ByteArray(empty)
section
open Tryz
open Go.RowKit
variable {w:Q9}
def nl(k:Nat):List Int:=if h:k=0 then [] else nl (k / 10)++[48+((k % 10:Nat):Int)]
def ox(k:Nat):Q4:=⟨#[109]⟩++strOfNums (nl k)
abbrev OpT:=Bool×Int×Q4
def Ops(w:Q9)(a:Q5)(c:List (Bool×Int×Q4)):Prop :=c=[]\/∃b o,a=Hw b o/\b<w.heap.size/\∀i,i<c.length->w.cell? (Ki b (o+i*3))=some (Q1 (c.getD i (false,0,empty)).1)/\w.cell? (Ki b (o+i*3+1))=some (Z (c.getD i (false,0,empty)).2.1)/\w.cell? (Ki b (o+i*3+2))=some (Ow (c.getD i (false,0,empty)).2.2)
theorem Ops.I{j:Q9}{a:Q5}{g:List (Bool×Int×Q4)}(h:Ops w a g)(d:Q3 w j):Ops j a g:=by
 rcases h with h|⟨b,o,k,c,e⟩
 .exact .inl h
 exact .inr ⟨b,o,k,AC c d.size,λi f=>⟨(d.cell (p:=(Ki b (o+i*3))) c).E (e i f).1,(d.cell (p:=(Ki b (o+i*3+1))) c).E (e i f).2.1,(d.cell (p:=(Ki b (o+i*3+2))) c).E (e i f).2.2⟩⟩
theorem Ops.at{a:Q5}{e:List (Bool×Int×Q4)}(h:Ops w a e){k:Nat}(c:k<e.length):∃b o d f g,a=Hw b o/\w.cell? (Ki b (o+k*3))=some (Q1 d)/\w.cell? (Ki b (o+k*3+1))=some (Z f)/\w.cell? (Ki b (o+k*3+2))=some (Ow g)/\Hid ((d,f,g)=e.getD k (false,0,empty)):=by
 rcases h with h|⟨b,o,f,g,d⟩
 .subst h;simp at c
 exact⟨b,o,_,_,_,f,(d k c).1,(d k c).2.1,(d k c).2.2,LE rfl⟩
def LG(a:List (Bool×Int×Q4)):List Ra:=a.flatMap λx=>[Q1 x.1,Z x.2.1,Ow x.2.2]
theorem MA(a b:List (Bool×Int×Q4)):LG (a++b)=LG a++LG b:=by simp[LG]
theorem PE(a:List (Bool×Int×Q4)):(LG a).length=a.length*3:=by
 induction a with
 | nil=>rfl
 | cons x r b=>simp[LG]at b⊢;omega
theorem OP:∀(a:List (Bool×Int×Q4)) (i:Nat),i<a.length->(LG a)[i*3]?=some (Q1 (a.getD i (false,0,empty)).1)/\(LG a)[i*3+1]?=some (Z (a.getD i (false,0,empty)).2.1)/\(LG a)[i*3+2]?=some (Ow (a.getD i (false,0,empty)).2.2)
 | x::r,0,_=>by simp[LG]
 | x::r,i+1,h=>by
  have b:=OP r i (by simpa using h);have e:LG (x::r)=Q1 x.1::Z x.2.1::Ow x.2.2::LG r:=by simp[LG]
  rw[e,show(i+1)*3=i*3+3 by omega];simpa using b
theorem Row.ops{g:Nat}{a:List (Bool×Int×Q4)}(h:Row w g (LG a)):Ops w (Hw g 0) a :=.inr ⟨g,0,rfl,h.lt,λi b=>by
  rw[BK]
  exact⟨h.cell _ _ (OP a i b).1,h.cell _ _ (OP a i b).2.1,h.cell _ _ (OP a i b).2.2⟩⟩
end
section
open Tryz
open Go.Shelf
def zj:Go.Shelf.Ren:=⟨fun|106=>145|213=>204|265=>265|n=>n,fun|9=>9|3=>3|n=>n,fun|n=>n⟩
theorem ZF:Go.Proofs.Lays.n106 prog zj:={
 mixed:=h
 f106:=func145.E (BD some h)
 f213:=func204.E (BD some h)
 f265:=func265.E (BD some h)
 t3:=underlying3
 a3:=isAgg3
 z3:=sizeOf3
 v3:=zeroValue3
 t9:=underlying9
 a9:=isAgg9
 z9:=sizeOf9
 v9:=zeroValue9 }
def LJ(a b:Q4):Int:=Lib.compareBytes a.data.toList b.data.toList
open Go.RowKit in
theorem XU(a b:Q4)(w:Q9):Calls prog 145 #[Ow a,Ow b] w λe c=>e=Q2 (Z (LJ a b))/\c=w:=Any.strings_Compare ZF a b w
end
section
open Tryz
open Go.RowKit Go.Sort
theorem ZW(a b:UInt8)(c:¬a<b)(d:¬b<a):a=b:=by
 apply UInt8.toNat_inj.1
 rw[KZ]at c d;omega
theorem ZG:∀(x y:List UInt8),Lib.compareBytes x y<0<->x<y
 | [],[]=>by simp[Lib.compareBytes]
 | [],b::l2=>by simp[Lib.compareBytes]
 | a::l,[]=>by simp[Lib.compareBytes]
 | a::l,b::l2=>by
  rw[List.cons_lt_cons_iff];unfold Lib.compareBytes
  split
  .rename_i h;simp[h]
  rename_i h
  split
  .rename_i h2
   have hne:¬a=b:=λe=>by subst e;exact h h2
   simp[h,hne]
  rename_i h2
  have e:=ZW a b h h2;subst e;rw[ZG l l2];simp[h]
theorem WV:∀(x y:List UInt8),Lib.compareBytes x y=0<->x=y
 | [],[]=>by simp[Lib.compareBytes]
 | [],b::l2=>by simp[Lib.compareBytes]
 | a::l,[]=>by simp[Lib.compareBytes]
 | a::l,b::l2=>by
  unfold Lib.compareBytes
  split
  .rename_i h
   have hne:¬a=b:=λe=>by subst e;rw[KZ]at h;omega
   simp[hne]
  rename_i h
  split
  .rename_i h2
   have hne:¬a=b:=λe=>by subst e;exact h h2
   simp[hne]
  rename_i h2
  have e:=ZW a b h h2;subst e;rw[WV l l2];simp
theorem NI(a b:Q4):LJ a b<0<->Op.bytesLess a.toList b.toList=true:=by
 unfold LJ;rw[ZG,bytesLess_eq,BH,CZ,CZ]
theorem MB(a b:Q4):LJ a b=0<->a=b:=by
 unfold LJ;rw[WV]
 constructor
 .intro h;exact EV (IH h)
 intro h;rw[h]
theorem ZH(k v a:Q4)(w:Q9):Calls prog 144 #[.agg #[Ow k,Ow v],Ow a] w λe b=>e=Q2 (Z (LJ k a))/\Q3 w b:=by
 go_enter func144,ntmps144;go_wp2_with (go_at_call 145;refine(XU k a _).J ?_;rintro e b ⟨rfl,rfl⟩);go_ret;exact⟨z,LH _ _⟩
def MV(a:List (Q4×Q4))(t:Nat):Q4:=(a.getD t (empty,empty)).1
theorem zi(a:Q5)(g:List (Q4×Q4))(c:Nat)(k:Q4)(w:Q9)(h:Prs w a g)(U:g.length<=1048576)(G:Hid (∀t m,t<=m->m<g.length->LJ (MV g m) k<0->LJ (MV g t) k<0)):Calls prog 143 #[Y a g.length c,Ow k,.func (.func 144) #[] #[]] w λe b =>
   ∃p:Nat,p<=g.length/\(∀t,t<p->LJ (MV g t) k<0)/\(∀t,p<=t->t<g.length->0<=LJ (MV g t) k)/\e=Q2 (.tuple #[Z (p:Int),Q1 (decide (p<g.length/\LJ (MV g p) k=0))])/\Q3 w b:=by
 go_enter func143,ntmps143;go_wp2_with fail;go_loopw [9,10,11] (λi j _ wr=>∃p q:Nat,p<=q/\q<=g.length/\i=Z (p:Int)/\j=Z (q:Int)/\Hid (∀t,t<p->LJ (MV g t) k<0)/\Hid (∀t,q<=t->t<g.length->0<=LJ (MV g t) k)/\Q3 w wr) (λi j _ _=>(intOf j).toNat-(intOf i).toNat)
 case atStart=>exact⟨0,g.length,AL,C,z,z,λt M=>d,λt H I=>d,D⟩
 case round =>
  obtain⟨p,q,T,F,rfl,rfl,r,v,i⟩:=hrel
  by_cases P:p<q
  .obtain⟨m,n⟩:=u ((p+q) / 2:Nat)
   have Q:p<=m:=d
   have R:m<q:=d
   have S:((p:Int)+(q:Int)) / 2=(m:Int):=d
   obtain⟨b,o,j,B,rfl,K,L,E⟩:=(h.I i).at (show m<g.length by omega);have s:Hid (j=MV g m):=by show _=_;unfold MV;rw[<-E.j]
   have O:(p:Int)<(q:Int):=d
   obtain⟨f,l⟩:=x (LJ j k);clear n;have A:=v;have y:=r;clear v r
   by_cases N:f<0
   .go_wp2_with (go_at_call 144;refine(ZH j B k _).J ?_;rw[<-l.j];rintro e J ⟨rfl,n⟩)
    refine⟨⟨m+1,q,d,F,ν,z,λt M=>?_,A.j,i.E (n.J i.size)⟩,by simp[intOf];omega⟩;exact G.j t m d d (by rw[<-s.j,<-l.j];exact N)
   go_wp2_with (go_at_call 144;refine(ZH j B k _).J ?_;rw[<-l.j];rintro e J ⟨rfl,n⟩)
   refine⟨⟨p,m,d,d,z,z,y.j,λt H I=>Int.not_lt.1 (λM=>?_),i.E (n.J i.size)⟩,by simp[intOf];omega⟩;have:=G.j m t H I M;rw[<-s.j,<-l.j]at this;omega
  have H:p=q:=d
  subst H;have A:=v;have y:=r;clear v r
  by_cases r:p<g.length
  .have t:(p:Int)<(g.length:Int):=d
   obtain⟨b,o,j,B,rfl,K,L,E⟩:=(h.I i).at r;have s:Hid (j=MV g p):=by show _=_;unfold MV;rw[<-E.j]
   obtain⟨f,l⟩:=x (LJ j k);go_wp2_with (go_at_call 144;refine(ZH j B k _).J ?_;rw[<-l.j];rintro e J ⟨rfl,n⟩);go_ret2;refine⟨p,F,y.j,A.j,?_,i.E (n.J i.size)⟩;rw[<-s.j,<-l.j];simp[r];rw[JB];simp
  have t:(g.length:Int)<=(p:Int):=d
  go_wp2;go_ret2;refine⟨p,F,y.j,A.j,?_,i⟩;simp[r]
end
section
open Tryz
open Go.RowKit Go.Sort
variable {rs:List (Q4×Q4)}
theorem MX(a b c:Q4)(d:LJ a b<0)(e:LJ b c<0):LJ a c<0:=by
 unfold LJ at *;rw[ZG]at *;exact List.lt_trans d e
theorem UX(h:MH rs=true)(i:Nat)(a:i+1<rs.length):LJ (MV rs i) (MV rs (i+1))<0:=by
 have:=(gw h).2 (i+1) a;unfold RN UM at this;simp only[JF,BF,Bool.or_eq_true,BH]at this;rw[NI];rcases this.2 with h|h
 .omega
 exact h
theorem asc(h:MH rs=true)(t:Nat):∀d,t+d+1<rs.length->LJ (MV rs t) (MV rs (t+d+1))<0
 | 0,hd=>UX h t hd
 | d+1,hd=>MX _ _ _ (asc h t d ω) (UX h (t+d+1) hd)
theorem ik(h:MH rs=true){t u:Nat}(c:t<u)(b:u<rs.length):LJ (MV rs t) (MV rs u)<0:=by
 obtain⟨a,rfl⟩:∃a,u=t+a+1:=⟨u-t-1,d⟩;exact asc h t a b
theorem dp(h:MH rs=true)(a:Q4):∀t m,t<=m->m<rs.length->LJ (MV rs m) a<0->LJ (MV rs t) a<0:=by
 intro t m f e c;rcases FV t m with b|b
 .exact MX _ _ _ (ik h b e) c
 have:t=m:=d
 subst this;exact c
theorem WF(a:Q5)(rs:List (Q4×Q4))(c:Nat)(b:Q4)(w:Q9)(h:Prs w a rs)(q:rs.length<=1048576)(n:Hid (∀t m,t<=m->m<rs.length->LJ (MV rs m) b<0->LJ (MV rs t) b<0)):Calls prog 98 #[.agg #[Ow b],Y a rs.length c] w λe d =>
   ∃p:Nat,p<=rs.length/\(∀t,t<p->LJ (MV rs t) b<0)/\(∀t,p<=t->t<rs.length->0<=LJ (MV rs t) b)/\e=Q2 (.tuple #[Z (p:Int),Q1 (decide (p<rs.length/\LJ (MV rs p) b=0))])/\Q3 w d:=by
 have f:∀o,Q3 w (w.alloc o):=λo=>LH _ _
 go_enter func98,ntmps98;go_wp2_with fail;refine(zi a rs c b _ (h.I (f _)) q n).J ?_;rintro e r ⟨p,o,g,i,rfl,m⟩;obtain⟨B,d⟩:=x (decide (p<rs.length/\LJ (MV rs p) b=0));rw[<-d.j];have k:=LE g;have l:=LE i;clear g i;go_wp2;go_ret2;refine⟨p,o,k.j,l.j,by rw[<-d.j];rfl,(f _).E (m.J j)⟩
end
section
open Tryz
open Go.RowKit Go.Sort
theorem WU:∀(x y:List UInt8),0<Lib.compareBytes x y->Lib.compareBytes y x<0
 | [],[]=>by simp[Lib.compareBytes]
 | [],b::l2=>by simp[Lib.compareBytes]
 | a::l,[]=>by simp[Lib.compareBytes]
 | a::l,b::l2=>by
  unfold Lib.compareBytes;intro h
  by_cases h1:a<b
  .simp[h1]at h
  by_cases h2:b<a
  .simp[h2]
  simp only[h1,h2,JA]at h⊢
  exact WU l l2 h
theorem PM{a b:Q4}(h:0<LJ a b):UM b a=true:=by
 have:=WU _ _ h;exact(NI b a).1 this
theorem ML(a:Q4):LJ a a=0:=(MB a a).2 z
theorem ZO{a b:Q4}(h:LJ a b<0):UM b a=false:=by
 cases hk:UM b a with
 | false=>rfl
 | true =>
  have c:LJ b a<0:=(NI b a).2 hk;have d:=MX a b a h c;rw[ML]at d;omega
theorem SN(a:Q4):UM a a=false:=by
 cases hk:UM a a with
 | false=>rfl
 | true =>
  have b:LJ a a<0:=(NI a a).2 hk;rw[ML]at b;omega
def NX(b c:Q4)(a:Bool×List Pr)(p:Pr):Bool×List Pr :=if p.1=b then (if (!a.1 && UM b p.1)=true then (true,a.2++[(b,c)]) else a)
 else (if (!a.1 && UM b p.1)=true then (true,a.2++[(b,c)]++[p]) else (a.1,a.2++[p]))
def chW(c:Ch)(a:List Pr):Bool×List Pr:=a.foldl (NX c.1 c.2.1) (c.2.2,[])
def PW(c:Ch)(a:List Pr):List Pr:=if (chW c a).1=true then (chW c a).2 else (chW c a).2++[(c.1,c.2.1)]
theorem SJ(c:Ch)(a:List Pr)(p:Pr):chW c (a++[p])=NX c.1 c.2.1 (chW c a) p:=by unfold chW;rw[IU];rfl
def MP(a:List Pr):Prop:=a.Pairwise λx y=>LJ x.1 y.1<0
theorem fu(aA aB:Q4):∀(l:List Pr) (g:Bool) (out:List Pr),(∀x∈l,LJ x.1 aA<0)->l.foldl (NX aA aB) (g,out)=(g,out++l)
 | [],g,out,_=>σ
 | x::l,g,out,h=>by
  have hx:=h x EN
  have hne:¬x.1=aA:=λe=>by rw[e,ML]at hx;omega
  rw[GX,NX,AF hne,ZO hx,IK,AF σ];rw[fu aA aB l g (out++[x]) (λy hy=>h y (DK _ hy)),BY];rfl
theorem ZV(aA aB:Q4):∀(l:List Pr) (out:List Pr),(∀x∈l,0<LJ x.1 aA)->l.foldl (NX aA aB) (true,out)=(true,out++l)
 | [],out,_=>σ
 | x::l,out,h=>by
  have hx:=h x EN
  have hne:¬x.1=aA:=λe=>by rw[e,ML]at hx;omega
  rw[GX,NX,AF hne,AF σ];rw[ZV aA aB l (out++[x]) (λy hy=>h y (DK _ hy)),BY];rfl
def SY(c:Ch)(a r:List Pr):List Pr:=a++(if c.2.2=true then [] else [(c.1,c.2.1)])++r
theorem SG(c:Ch)(a m r:List Pr)(n:∀x∈a,LJ x.1 c.1<0)(o:m=[]\/∃v,m=[(c.1,v)])(f:∀x∈r,0<LJ x.1 c.1):PW c (a++m++r)=SY c a r:=by
 obtain⟨b,d,g⟩:=c
 have k:chW (b,d,g) (a++m++r)=r.foldl (NX b d) (g,a):=by
  unfold chW;rw[BY,IU,fu b d a g [] n,EL,IU];rcases o with rfl|⟨v,rfl⟩
  .rfl
  rw[GX,List.foldl_nil,NX,G z,SN,IK,A j]
 unfold PW SY;rw[k]
 cases g with
 | true=>rw[ZV b d r a f];simp
 | false =>
  cases r with
  | nil=>simp
  | cons x l =>
   have h:=f x EN
   have i:¬x.1=b:=λe=>by rw[e,ML]at h;omega
   rw[GX,NX,A i];simp only[Bool.not_false,GL];rw[PM h,G z,ZV b d l _ (λy e=>f y (DK _ e))];simp
theorem QG(c:Ch)(a m r:List Pr)(h:MP (a++m++r))(n:∀x∈a,LJ x.1 c.1<0)(o:∀x∈r,0<LJ x.1 c.1):MP (SY c a r):=by
 unfold MP SY at *;rw[IC,IC]at h;obtain⟨⟨f,p,q⟩,g,l⟩:=h
 have e:∀x∈a,∀y∈r,LJ x.1 y.1<0:=λx b y d=>l x (List.mem_append_left _ b) y d
 have k:∀y∈r,LJ c.1 y.1<0:=λy d=>(NI _ _).2 (PM (o y d))
 by_cases i:c.2.2=true
 .rw[G i,FT,IC]
  exact⟨f,g,e⟩
 rw[A i,IC,IC]
 refine⟨⟨f,j,λx b y d=>?_⟩,g,λx b y d=>?_⟩
 .simp at d;subst d;exact n x b
 rw[BZ]at b
 rcases b with b|b
 .exact e x b y d
 simp at b;subst b;exact k y d
theorem MG{α:Type}(a:List α)(i:Nat)(h:i<a.length){d:α}:a.getD i d=a[i]:=by simp[List.getD,h]
theorem ZE{b:List Pr}(h:MH b=true):MP b:=by
 unfold MP;rw[GW];intro i j d a c;have:=ik h c a;unfold MV at this
 rwa [MG _ _ d,MG _ _ a]at this
theorem UW{a:List Pr}(h:MP a)(c:Q4):∀t m,t<=m->m<a.length->LJ (MV a m) c<0->LJ (MV a t) c<0:=λt m g f b=>by
 rcases JG g with e|e
 .subst e;exact b
 unfold MP at h
 rw[GW]at h;have:=h t m d f e;unfold MV at *;rw[MG _ _ f]at b;rw[MG _ _ d];exact MX _ _ _ this b
theorem RV{b:List Pr}(h:MP b)(f:Q4)(p:Nat)(u:p<=b.length)(s:∀t,t<p->LJ (MV b t) f<0)(r:∀t,p<=t->t<b.length->0<=LJ (MV b t) f)(a:Nat)(g:a=if p<b.length/\LJ (MV b p) f=0 then 1 else 0):b=b.take p++(b.drop p).take a++b.drop (p+a)/\(∀x∈b.take p,LJ x.1 f<0)/\((b.drop p).take a=[]\/∃v,(b.drop p).take a=[(f,v)])/\(∀x∈b.drop (p+a),0<LJ x.1 f):=by
 have t:=h;unfold MP at h;rw[GW]at h;refine⟨?_,?_,?_,?_⟩
 .rw[BY,<-GO,FL,FL]
 .intro x n
  obtain⟨i,l,rfl⟩:=EM n;rw[AZ]at l;have:=s i d;unfold MV at this;rw[MG _ _ d]at this;rw[List.getElem_take];exact this
 .by_cases c:p<b.length/\LJ (MV b p) f=0
  .rw[G c]at g
   subst g
   right
   have e:=(MB _ _).1 c.2;unfold MV at e;rw[MG _ _ c.1]at e;refine⟨(b[p]'c.1).2,?_⟩;rw[FW c.1,KD,FZ];exact BD (λk=>[k]) (Prod.ext e z)
  rw[A c]at g
  subst g;exact .inl j
 intro x n
 obtain⟨i,l,rfl⟩:=EM n;rw[BS]at l;rw[List.getElem_drop];have m:=r (p+a+i) d d;unfold MV at m;rw[MG _ _ d]at m;rcases Int.lt_or_eq_of_le m with k|k
 .exact k
 exfalso
 have e:=(MB _ _).1 k.symm
 by_cases q:a+i=0
 .have o:a=0:=d
  have q:i=0:=d
  subst q;rw[o]at g
  by_cases c:p<b.length/\LJ (MV b p) f=0
  .rw[G c]at g;cases g
  refine c ⟨d,?_⟩
  unfold MV;rw[MG _ _ d];subst o;exact k.symm
 have o:=h p (p+a+i) d d d
 rw[e]at o;have c:=r p C d;unfold MV at c;rw[MG _ _ d]at c;omega
def NP(a:List Pr)(b:List Ch):List Pr:=b.foldl (λs c=>PW c s) a
theorem PB(a:List Pr)(b:List Ch)(c:Ch):NP a (b++[c])=PW c (NP a b):=by unfold NP;rw[IU];rfl
def QW(a:List Pr)(b:List Ch):Int:=if (MH a && PZ b)=true then (if (NP a b).length<=100 then 0 else 2) else 1
def QT(a:List Pr)(b:List Ch):List Pr:=if QW a b=0 then NP a b else []
theorem TV(c:Ch):∀(e:List Pr) (k:Nat),k=e.length->(chW c e).2.length<=e.length+(if (chW c e).1=true/\c.2.2=false then 1 else 0)/\(c.2.2=true->(chW c e).1=true)
 | e,0,hk=>by rw[AD hk.symm];simp[chW]
 | e,k+1,hk=>by
  obtain⟨b,bs,rfl⟩:∃b bs,e=bs++[b]:=by
   rcases GJ e with h|⟨l,a,h⟩
   .subst h;simp at hk
   exact⟨a,l,by simpa using h⟩
  have f:=TV c bs k (by simp at hk;omega);rw[SJ];obtain⟨a,i,g⟩:=c;generalize chW (a,i,g) bs=m at f⊢;obtain⟨d,l⟩:=m;unfold NX;rw[AK,EJ];have h:=SN a
  cases d<;>cases hk2:UM a b.1<;>by_cases j:b.1=a<;>cases g<;>simp[j,hk2,h]at f hk2⊢<;>omega
theorem cq(c:Ch)(a:List Pr):(PW c a).length<=a.length+1:=by
 have:=(TV c a _ z).1;unfold PW
 split
 .split at this<;>omega
 rename_i h
 rw[A (λe=>h e.1)]at this;rw[AK];simp;omega
theorem TU(rs:List Pr)(b:List Ch):∀k,(NP rs (b.take k)).length<=rs.length+k
 | 0=>by simp[NP]
 | k+1=>by
  have ih:=TU rs b k
  by_cases h:k<b.length
  .rw[BJ h,PB]
   have:=cq b[k] (NP rs (b.take k));omega
  rw[AS ω]at ih⊢
  omega
end
section
open Tryz
open Go.RowKit Go.Sort
theorem UY{a b:Q4}(h:LJ a b<0):0<LJ b a:=by
 rcases KN (LJ b a) 0 with c|c|c
 .have:=MX a b a h c
  rw[ML]at this;omega
 .have:=(MB _ _).1 c
  subst this;rw[ML]at h;omega
 exact c
theorem NW(a:List Pr):MH a=true<->a.length<=100/\(∀x∈a,QP x.1=true/\PA x.2=true)/\MP a:=by
 constructor
 .intro h
  obtain⟨b,c⟩:=gw h;refine⟨b,λx f=>?_,ZE h⟩;obtain⟨i,e,rfl⟩:=EM f;have:=c i e;unfold RN at this;rw[MG _ _ e]at this;simp only[BF]at this;exact this.1
 rintro⟨b,c,e⟩
 refine nQ b (λk f=>?_);unfold RN;have h:=c _ (FU f);rw[MG _ _ f,h.1,h.2]
 by_cases i:k=0
 .simp[i]
 have g:k-1<a.length:=d
 rw[MG _ _ g];unfold MP at e;rw[GW]at e;have:=e (k-1) k g f d;have j:UM a[k-1].1 a[k].1=true:=(NI _ _).1 this;simp[j]
theorem VH(aA:Q4):∀(rs:List Pr),MP rs->∃a m r,rs=a++m++r/\(∀x∈a,LJ x.1 aA<0)/\(m=[]\/∃v,m=[(aA,v)])/\(∀x∈r,0<LJ x.1 aA)
 | [],_=>⟨[],[],[],rfl,σ,.inl rfl,σ⟩
 | x::l,h=>by
  unfold MP at h;rw[List.pairwise_cons]at h;rcases KN (LJ x.1 aA) 0 with h1|h1|h1
  .obtain⟨a,m,r,e,ha,hm,hr⟩:=VH aA l h.2
   refine⟨x::a,m,r,by rw[e];rfl,λy hy=>?_,hm,hr⟩;rcases DZ.1 hy with rfl|hy
   .exact h1
   exact ha y hy
  .have e:=(MB _ _).1 h1
   refine⟨[],[x],l,rfl,σ,.inr ⟨x.2,by rw[<-e]⟩,λy hy=>?_⟩;rw[<-e];exact UY (h.1 y hy)
  refine⟨[],[],x::l,rfl,σ,.inl rfl,λy hy=>?_⟩
  rcases DZ.1 hy with rfl|hy
  .exact h1
  have h2:LJ aA x.1<0:=(NI _ _).2 (PM h1)
  exact UY (MX _ _ _ h2 (h.1 y hy))
theorem TD(c:Ch)(b:List Pr)(h:MP b):∃a m r,b=a++m++r/\(∀x∈a,LJ x.1 c.1<0)/\(m=[]\/∃v,m=[(c.1,v)])/\(∀x∈r,0<LJ x.1 c.1)/\PW c b=SY c a r:=by
 obtain⟨a,m,r,e,d,f,g⟩:=VH c.1 b h;exact⟨a,m,r,e,d,f,g,by rw[e];exact SG c a m r d f g⟩
theorem WW(c:Ch)(b:List Pr)(h:MP b):MP (PW c b):=by
 obtain⟨a,m,r,e,d,i,g,f⟩:=TD c b h;rw[f];rw[e]at h;exact QG c a m r h d g
theorem cr(c:Ch)(d:List Pr)(h:MP d):∀x∈PW c d,x∈d\/(x=(c.1,c.2.1)/\c.2.2=false):=by
 obtain⟨a,m,r,e,i,j,k,f⟩:=TD c d h;rw[f];intro x b;unfold SY at b;rw[BZ,BZ]at b;rcases b with (b|b)|b
 .exact .inl (by rw[e];simp[b])
 .split at b
  .simp at b
  rename_i g
  simp at b;exact .inr ⟨b,by simpa using g⟩
 exact .inl (by rw[e];simp[b])
theorem cj(a:List Pr)(h:MP a):∀(b:List Ch),MP (NP a b):=by
 intro b;unfold NP
 induction b generalizing a with
 | nil=>exact h
 | cons c l d=>exact d _ (WW c a h)
theorem cn(a:List Pr)(h:MP a):∀(b:List Ch),∀x∈NP a b,x∈a\/∃c∈b,x=(c.1,c.2.1):=by
 intro b;unfold NP
 induction b generalizing a with
 | nil=>exactλx f=>.inl f
 | cons c l j =>
  intro x f;rcases j _ (WW c a h) x f with d|⟨g,d,i⟩
  .rcases cr c a h x d with e|e
   .exact .inl e
   exact .inr ⟨c,EN,e.1⟩
  exact .inr ⟨g,DK _ d,i⟩
theorem SI{c:Ch}(h:QK c=true):QP c.1=true/\PA c.2.1=true:=by
 unfold QK at h;simp only[BF]at h;exact h.1
theorem ZD{c:List Pr}{b:List Ch}(h:QW c b=0):MH c=true/\PZ b=true/\(NP c b).length<=100:=by
 unfold QW at h
 split at h
 .rename_i a
  simp only[BF]at a
  split at h
  .rename_i d;exact⟨a.1,a.2,d⟩
  cases h
 cases h
theorem SD{a:List Pr}{b:List Ch}(h:QW a b=0):MH (NP a b)=true:=by
 obtain⟨e,f,g⟩:=ZD h;obtain⟨_,j,k3⟩:=(NW a).1 e;refine(NW _).2 ⟨g,λx i=>?_,cj a k3 b⟩;rcases cn a k3 b x i with d|⟨c,d,rfl⟩
 .exact j x d
 exact SI ((dr f).2 c d)
end
section
open Tryz
open Go.RowKit
theorem ZP(z:Ra)(c:z.cells=#[z])(n:Nat):(madeCells z.cells (n*1)).toList=List.replicate n z:=by
 unfold madeCells;rw[JX,KV,KI,JP];refine⟨j,λb a=>?_⟩;obtain⟨i,_,rfl⟩:=DW.1 a;rw[c];have:i % (#[z]:Array Ra).size=0:=by simp[Nat.mod_one]
 rw[this];rfl
theorem Dsk.start(w:Q9)(c d e f:TypeId):Dsk w ((w.alloc (.cells #[Y none 0 0,Y none 0 0] c)).alloc (.cells #[Y none 0 0,Y none 0 0] d)) w.heap.size (w.heap.size+1) (w.heap.size+1+1) e f (Y none 0 0) (Y none 0 0) [] []:=by
 have g:Q3 w ((w.alloc (.cells #[Y none 0 0,Y none 0 0] c)).alloc (.cells #[Y none 0 0,Y none 0 0] d)):=(LH _ _).alloc σ _;have b:=(LZ w #[Y none 0 0,Y none 0 0] c).alloc (.cells #[Y none 0 0,Y none 0 0] d);have a:=LZ (w.alloc (.cells #[Y none 0 0,Y none 0 0] c)) #[Y none 0 0,Y none 0 0] d;simp only[BG]at a;exact⟨AA,ω,ω,ω,ω,σ,g,b.y 0,b.y 1,b.A 0,b.A 1,a.y 0,a.y 1,a.A 0,a.A 1,BU _ _ _ _,BU _ _ _ _,.inl rfl⟩
theorem LY{P:Program}{e:TypeId}{z:Ra}{a b:Nat}(h:(P.info? e).map (λi=>(i.zero,i.size,i.bytes))=some (some z,a,b)):∃i,P.info? e=some i/\i.zero=some z/\i.size=a/\i.bytes=b:=by
 obtain⟨i,d,c⟩:=EC.1 h;simp only[EK]at c;exact⟨i,d,c⟩
end
section
open Tryz
structure Wr(p:Prop):Prop where
 j:p
end
section
open Tryz
open Go.RowKit
variable {xs:List Ra}{base n size:Nat}{g0 r:Option Nat}{e:TypeId}{v:Ra}{w w' wS wr:Q9}
structure Grow(wS wr:Q9)(g0:Option Nat)(base:Nat)(e:TypeId)(size:Nat)(v:Ra)(n:Nat)(xs:List Ra):Prop where
 own:wr.ownsRow base e size v n xs
 gb:wS.grownBy wr g0
 at_:∀k,v.ownBlock=some k->g0=some k\/wS.heap.size<=k
theorem Grow.start(h:w.ownsRow base e size v n xs):Grow w w v.ownBlock base e size v n xs:=⟨h,BC _ _,λk a=>.inl a⟩
theorem Grow.I(h:Grow wS wr g0 base e size v n xs)(a:Q3 wr w'):Grow wS w' g0 base e size v n xs :=⟨MK h.own a,⟨a.os.E h.gb.os,a.tape.E h.gb.tape,a.output.E h.gb.output,AJ h.gb.size a.size,λk b c=>(a.block k (AC b h.gb.size)).E (h.gb.block k b c)⟩,h.at_⟩
theorem SL{f:Q9}(h:wS.grownBy wr g0)(a:wr.grownBy f r)(g:∀k,r=some k->g0=some k\/wS.heap.size<=k):wS.grownBy f g0 :=⟨a.os.E h.os,a.tape.E h.tape,a.output.E h.output,AJ h.size a.size,λk d b=>(a.block k (AC d h.size) (λe=>by
  rcases g k e.symm with c|c
  .exact b c.symm
  .omega)).E (h.block k d b)⟩
theorem Grow.push{d:Q9}{a:Ra}{g H:Nat}{f:List Ra}(h:Grow wS wr g0 base e size v n xs)(i:d.ownsRow base e size a g f)(m:wr.grownBy d v.ownBlock)(j:v.ownBlock=a.ownBlock\/a.ownBlock=some H)(l:wr.heap.size<=H):Grow wS d g0 base e size a g f :=⟨i,SL h.gb m h.at_,λk c=>by
  rcases j with b|b
  .exact h.at_ k (b.E c)
  rw[b]at c;cases c;exact .inr (AJ h.gb.size l)⟩
theorem Grow.E{f:Q9}{d:Ra}{c:Nat}{b:List Ra}(h:Grow wS f g0 base e size v n xs)(k:Grow f wr v.ownBlock base e size d c b):Grow wS wr g0 base e size d c b :=⟨k.own,SL h.gb k.gb h.at_,λj g=>by
  rcases k.at_ j g with a|a
  .exact h.at_ j a
  exact .inr (AJ h.gb.size a)⟩
theorem LK(a:w.grownBy w' r)(f:n<=w.heap.size)(b:∀k,r=some k->n<=k):Below n w w' :=⟨a.os,a.tape,a.output,a.size,λk c=>a.block k d (λe=>by have:=b k e.symm;omega)⟩
theorem XJ(h:w.drew.grownBy w' r):w.grownBy w' r:=⟨h.os,h.tape,h.output,h.size,h.block⟩
def ou(k n:Nat):List Q4:=(List.range n).map λi=>ox (k+i)
def mixed(k i:Nat)(a:List Q4):List Ra:=(ou k i++a.drop i).map Value.string
section
section
variable {P:Program} {e t:TypeId} {i:TypeInfo} {n:Nat}
theorem XE(a:∀w,(isAgg e).run P w=.ok false w)(xs:List Int)(j:Nat)(b:j<xs.length)(w:Q9):(part e (xs.map (Value.int .u8)).toArray j).run P w=.ok (.int .u8 (xs.getD j 0)) w:=by
 unfold part;simp[a,Result.andThen,b,List.getD]
theorem nt(c:P.underlying e=some (.int .u8))(d:Nat)(a b:Int)(w:Q9):(Op.equalIn (d+1) e (.int .u8 a) (.int .u8 b)).run P w=.ok (a == b) w:=by
 simp[Op.equalIn,GG c,Result.andThen]
theorem SK(he:∀w,(isAgg e).run P w=.ok false w)(hu:P.underlying e=some (.int .u8))(d:Nat)(xs ys:List Int)(w:Q9):∀(js:List Nat),(∀j∈js,j<xs.length/\j<ys.length)->(Op.eqItems (d+1) e 1 (xs.map (Value.int .u8)).toArray (ys.map (Value.int .u8)).toArray js).run P w=.ok (js.all λj=>xs.getD j 0 == ys.getD j 0) w
 | [],_=>by simp[Op.eqItems]
 | j::js,h=>by
  have hj:=h j (EN);have ih:=SK he hu d xs ys w js (λq hq=>h q (DK _ hq));simp only[Op.eqItems,IF,JX,XE he xs j hj.1,XE he ys j hj.2,nt hu,IE]
  cases hc:(xs.getD j 0 == ys.getD j 0) with
  | false=>simp only[Bool.not_false,IV,IZ,List.all_cons,hc,Bool.false_and]
  | true=>simp only[Bool.not_true,FD,JA,ih,List.all_cons,hc,GL]
theorem ij(xs a:List Int)(d:xs.length=a.length):((List.range xs.length).all λj=>xs.getD j 0 == a.getD j 0)=decide (xs=a):=by
 rw[JB];simp only[DI,FR,beq_iff_eq,BH]
 constructor
 .intro h
  apply KW d
  intro j b c;have:=h j b;simpa[List.getD,b,c] using this
 intro h j b;rw[h]
theorem VG(l:P.underlying t=some (.array n e))(g:P.info? e=some i)(c:P.cellsOf e=1)(f:∀w,(isAgg e).run P w=.ok false w)(b:P.underlying e=some (.int .u8))(xs a:List Int)(m:xs.length=n)(o:a.length=n)(w:Q9):(binOp .neq t (.agg (xs.map (Value.int .u8)).toArray) (.agg (a.map (Value.int .u8)).toArray)).run P w=.ok (Q1 (!decide (xs=a))) w:=by
 have h:=run_equalIn_array (w:=w) 9999 (xs.map (Value.int .u8)).toArray (a.map (Value.int .u8)).toArray l g;rw[c,<-m,SK f b 9998 xs a w (List.range xs.length) (λj k=>by have:=FR.1 k;omega),ij xs a d]at h;simp only[binOp];simp[Op.equal,Op.maxDepth,h,Result.andThen]
end
end
theorem ip:(prog.info? 5).map (λi=>(i.zero,i.size,i.bytes))=some (some (.int .u8 0),1,1):=h
def MW:Q4:=strOfNums (List.replicate 64 0)
theorem dz(w:Q9):Calls prog 69 #[] w λe w'=>e=Q2 (Ow MW)/\Q3 w w':=by
 go_enter func69,ntmps69;go_wp2_with (at_make;refine vm z _ _ 22 z 5 _ 1 1 underlying22 ip 64 z z d d ?_;intro g a c j;rw[ZP _ z]at a;have h:=EO (P:=prog) g 22 5 underlying22 underlying5 w.heap.size 0 64 64 (List.replicate 64 0) z (λi b=>by rw[BK];have f:=a.cell i (.int .u8 0) (by rw[EP,G b]);rw[f,AY,EP,G b];rfl) 9 underlying9;clear a);go_ret;exact⟨z,c⟩
theorem pe(n:Nat)(w:Q9)(S:8<=n)(T:n<=200):Calls prog 42 #[Z (n:Int)] w λe w'=>∃g c,e=Q2 (LR (Hw g 0) n c none 0 0)/\w.heap.size<=g/\Row w' g ((List.replicate n MW).map Value.string)/\Q3 w w':=by
 have P:(8:Int)<=(n:Int):=d
 have Q:(n:Int)<=200:=d
 obtain⟨F,a,b,c,h⟩:=LY mL;have m:=LE (I a (I b (I c h)));clear a b c h;go_enter func42,ntmps42;go_wp2;go_loopw [4] (λi wr=>∃(k:Nat) (v:Ra),k<=n/\i=Z k/\Dsk w wr w.heap.size (w.heap.size+1) (w.heap.size+1+1) 9 125 v (Y none 0 0) (List.replicate k MW) []) (λi _=>n-(intOf i).toNat)
 case atStart=>exact⟨0,_,AL,z,Dsk.start _ _ _ _ _⟩
 case round =>
  obtain⟨k,v,U,rfl,a⟩:=hrel
  by_cases R:k<n
  .have c:=LE a
   have G:=a.d0;have J:=a.fd0;clear a;go_wp2_with fail
   go_region_law (first|(refine step_append_lies _ f _ _ _ f (w.heap.size+1+1) 9 F (Ow empty) 1 16 underlying29 m.j.1 m.j.2.1 m.j.2.2.1 m.j.2.2.2 z d v (List.replicate k MW).length ((List.replicate k MW).map Value.string) f A.j (Ki i.heap.size 0) 1 1 [Ow MW] f z (World.news_of_block (AV i _)) (by intro u t;simp at t;subst t;rfl) d (by rw[DX];unfold maxLen;omega) (by rw[DX];omega) ξ (i.heap.size+1) j ?_;intro g b V p o s M;obtain⟨K,L⟩:=q.j.V o;have E:=LE p;have D:=LE o;have B:=LE s;clear p o s)|(refine LM f 69 #[] l (dz _) ?_;rintro e i ⟨rfl,h⟩;refine⟨_,z,?_⟩;have x:=(c.j.drew.I h).d0;have y:=(c.j.drew.I h).fd0;have N:=(c.j.drew.I h).sz;have O:w.heap.size+1<i.heap.size:=d;have A:=LE ((c.j.drew.I h).own.alloc (.cells #[Ow MW] 9));have q:=LE ((c.j.drew.I h).alloc (.cells #[Ow MW] 9))))
   all_goals
    have o:=q.j.push E.j D.j B.j j;rw[DX,show List.replicate k MW++[MW]=List.replicate (k+1) MW by rw[LA]]at o;have p:=LE o;clear o;go_wp2;go_roundw
    case rel=>exact⟨k+1,_,d,ν,p.j⟩
    case measure=>simp[intOf];omega
  have o:k=n:=d
  subst o;have c:=MS a.own;rw[DX]at c
  obtain⟨g,b,rfl,p,q,h⟩:∃g b,v=Y (Hw g 0) k b/\w.heap.size+1+1<=g/\g<wr.heap.size/\Row wr g ((List.replicate k MW).map Value.string):=by
   rcases c with i|i
   .omega
   exact i
  clear c;have c:=LE a.bel;have i:=LE h;clear h;have G:=a.d0;have J:=a.d1;have x:=a.r0;have y:=a.r1;have K:=a.fr0;have L:=a.fr1;clear a;go_wp2;refine H (v:=LR (Hw g 0) k b none 0 0) (by simp[results,results42,go_sem,x,y]) z ⟨g,b,z,d,?_,?_⟩
  .exact(i.j.other _ (by show w.heap.size≠g;omega) _).other _ (by show w.heap.size≠g;omega) _
  exact(c.j.setCell C _).setCell C _
end
section
open Tryz
abbrev nA(m:Nat):List Ra:=List.replicate m (Y none 0 0)
end
end Go.Proofs.YteflhojcomcfaaaGreatDoor
namespace Go.Proofs.YteflhojcomcfaaaGreatDoor.nw
open _root_.ByteArray(empty)
open _root_.Go.Proofs.Tryz
open Go.RowKit
variable {w:Q9}
theorem new_s_no(n:Int)(w:Q9)(h:¬(8<=n/\n<=200)):Calls prog 42 #[Z n] w λe a=>e=Q2 (LR none 0 0 none 0 0)/\Q3 w a:=by
 by_cases b:8<=n
 .have a:200<n:=d
  go_enter func42,ntmps42;go_wp2;exact H (v:=LR none 0 0 none 0 0) (by simp[results,results42,go_sem]) z ⟨z,MI _ _⟩
 go_enter func42,ntmps42
 go_wp2;exact H (v:=LR none 0 0 none 0 0) (by simp[results,results42,go_sem]) z ⟨z,MI _ _⟩
theorem f16{g:Nat}{a b c d e f i j k l m n o p q r:Ra}(h:Row w g [a,b,c,d,e,f,i,j,k,l,m,n,o,p,q,r]):w.frozen? (Ki g 0)=false/\w.frozen? (Ki g 1)=false/\w.frozen? (Ki g 2)=false/\w.frozen? (Ki g 3)=false/\w.frozen? (Ki g 4)=false/\w.frozen? (Ki g 5)=false/\w.frozen? (Ki g 6)=false/\w.frozen? (Ki g 7)=false/\w.frozen? (Ki g 8)=false/\w.frozen? (Ki g 9)=false/\w.frozen? (Ki g 10)=false/\w.frozen? (Ki g 11)=false/\w.frozen? (Ki g 12)=false/\w.frozen? (Ki g 13)=false/\w.frozen? (Ki g 14)=false/\w.frozen? (Ki g 15)=false :=⟨h.A 0,h.A 1,h.A 2,h.A 3,h.A 4,h.A 5,h.A 6,h.A 7,h.A 8,h.A 9,h.A 10,h.A 11,h.A 12,h.A 13,h.A 14,h.A 15⟩
def newSS(n:Int):List Q4:=if 8<=n/\n<=200 then List.replicate n.toNat MW else []
theorem new_s_any(n:Int)(w:Q9):Calls prog 42 #[Z n] w λe b=>∃a c f h,e=Q2 (LR a (newSS n).length c f 0 h)/\OwnS b a ((newSS n).map Value.string)/\(∀g,blk a (newSS n).length=some g->w.heap.size<=g)/\Q3 w b:=by
 by_cases h:8<=n/\n<=200
 .obtain⟨m,rfl⟩:∃m:Nat,n=(m:Int):=⟨n.toNat,d⟩
  have f:newSS (m:Int)=List.replicate m MW:=by simp[newSS,h]
  rw[f];refine(pe m w d d).J ?_;rintro e b ⟨g,c,rfl,k,l,i⟩
  exact⟨_,c,none,0,by rw[DX],.inr ⟨g,z,l⟩,λj a=>by rw[DX,ND g 0 m d]at a;cases a;exact k,i⟩
 have f:newSS n=[]:=by simp[newSS,h]
 rw[f];refine(new_s_no n w h).J ?_;rintro e b ⟨rfl,i⟩;exact⟨none,0,none,0,z,.inl z,(λj a=>by cases a),i⟩
def worldV(f:Int)(a:Q5)(n c:Nat)(b:Q5)(d:Nat)(p:Q5)(m e:Nat):Ra:=.agg #[Z f,Y a n c,Y b 0 d,Q1 false,Z 0,Z 0,Z 0,Z 0,Z 0,Z 0,Z 0,Z 0,Z 0,Y none 0 0,Y p m e,Y none 0 0]
def NwPost(w d:Q9)(e:Ending)(j:Int)(b:List Q4)(m:Nat):Prop:=∃a c f h p i,e=Q2 (worldV j a b.length c f h p m i)/\OwnS d a (b.map Value.string)/\OwnS d p (nA m)/\(∀g,blk a b.length=some g->w.heap.size<=g/\∀k,blk p m=some k->g≠k)/\(∀g,blk p m=some g->w.heap.size<=g)/\Q3 w d
theorem OwnS.setw{a:Q5}{b:List Ra}(h:OwnS w a b)(p:Addr)(d:∀g,a=Hw g 0->b≠[]->p.block≠g)(v:Ra):OwnS (w.setCell p v) a b:=by
 by_cases c:b=[]
 .exact .inl c
 obtain⟨g,rfl,e⟩:=h.resolve_left c
 exact .inr ⟨g,rfl,e.other p (d g rfl c) v⟩
theorem row_atw{A:Array Ra}{t:TypeId}{g:Nat}(a:w.heap.size=g):Row (w.alloc (.cells A t)) g A.toList:=by subst a;exact LZ w A t
theorem nw_s_yes(n f:Int)(w:Q9)(t:8<=n/\n<=200)(X:1<=f/\f<=8):Calls prog 20 #[Z n,Z f] w λe a=>NwPost w a e f (newSS n) 1:=by
 have V:decide (1<=f/\f<=8)=true:=AM X;have hd:decide (8<=n/\n<=200)=true:=AM t;obtain⟨m,i⟩:∃m:Nat,(newSS n).length=m:=⟨_,z⟩;have G:m≠0:=by rw[<-i];unfold newSS;rw[AI t];simp;omega
 have cF:¬(m:Int)=0:=d
 have h:=LE i;go_enter func20,ntmps20
 go_wp2_with (first|(go_at_call 42;refine(new_s_any n _).J ?_;rintro e u ⟨a,c,l,s,rfl,k,g,b⟩;rw[i]at g⊢;have p:=LE k;have o:=LE g;have S:=LE (((@D w.heap.size w).alloc C _).E (b.J j));have R:=(LZ w _ _).I b;obtain⟨F,I,J,K,L,M,N,O,P,Q,v,x,y,A,B,E,T⟩:=c16 R;obtain⟨bH,bI,bJ,bP,bQ,bR,bT,bU,bV,bW,H,aV,aW,aX,aY,aZ⟩:=f16 R;clear R;clear b k g)|(go_at_call 43;refine(RZ _ _).J ?_;rw[V];rintro e U ⟨rfl,r⟩;rw[r];clear r U))
 have U:=p.j.lt m (λb=>ph (by rw[h.j];exact b))
 have R:∀g,a=Hw g 0->(newSS n).map Value.string≠[]->w.heap.size<g:=λg b k=>by
  have:=o.j g (by subst b;exact ND _ _ _ G);simp at this;omega
 refine AE (v:=worldV f a m c l s (Hw (u.heap.size+1) 0) 1 1) (by simp[results,results20,go_sem,worldV,T,F,I,J,K,L,M,N,O,P,Q,v,x,y,A,B,E]) z ⟨a,c,l,s,_,1,by rw[h.j],?_,?_,?_,?_,?_⟩
 .refine OwnS.I ?_ ((D).alloc C _);refine OwnS.I ?_ ((D).alloc C _)
  iterate 16(refine OwnS.setw ?_ _ (λg b k=>by have:=R g b k;show w.heap.size≠g;omega) _)
  exact p.j
 .exact .inr ⟨u.heap.size+1,z,row_atw j⟩
 .intro g b
  rw[h.j]at b;have W:=o.j g b;have e2:=U g b;simp at W
  exact⟨d,λk r=>by rw[ND _ _ _ d]at r;cases r;omega⟩
 .intro g b
  rw[ND _ _ _ d]at b;cases b;omega
 refine Below.alloc ?_ q _;refine Below.alloc ?_ q _
 iterate 16(refine GS ?_ (by show w.heap.size<=w.heap.size;omega) _)
 exact S.j
end Go.Proofs.YteflhojcomcfaaaGreatDoor.nw
namespace Go.Proofs.YteflhojcomcfaaaGreatDoor
open _root_.ByteArray(empty)
section
open Tryz
open Go.RowKit Go.Sort
variable {aA:Q4}{rs:List (Q4×Q4)}
def MJ(rs:List (Q4×Q4))(aA:Q4):Option Q4:=if MH rs=true then (rs.find? (λx=>decide (x.1=aA))).map (·.2) else none
theorem cz(rs:List (Q4×Q4))(aA:Q4)(k:Nat)(b:k<rs.length)(h:∀t,t<k->MV rs t≠aA)(a:MV rs k=aA):rs.find? (λx=>decide (x.1=aA))=some (rs.getD k (empty,empty)):=by
 rw[List.find?_eq_some_iff_getElem];refine⟨by unfold MV at a;simpa using a,k,b,by simp[List.getD,b],λj c=>?_⟩;have:=h j c;unfold MV at this;simp only[List.getD,AO (show j<rs.length by omega),GD]at this;simpa using this
theorem XV(rs:List (Q4×Q4))(aA:Q4)(h:∀t,t<rs.length->MV rs t≠aA):rs.find? (λx=>decide (x.1=aA))=none:=by
 rw[List.find?_eq_none];intro x b;obtain⟨t,a,rfl⟩:=List.mem_iff_getElem.1 b;have:=h t a;unfold MV at this;simp only[List.getD,AO a,GD]at this;simpa using this
theorem WY(h:MH rs=false):MJ rs aA=none:=by unfold MJ;rw[A (by simp[h])]
theorem VA{k:Nat}{b c:Q4}(d:MH rs=true)(a:(b,c)=rs.getD k (empty,empty))(f:k<rs.length)(h:∀t,t<k->MV rs t≠aA)(e:b=aA):MJ rs aA=some c:=by
 unfold MJ;rw[G d,cz rs aA k f h (by unfold MV;rw[<-a];exact e),<-a];rfl
theorem TG(h:∀t,t<rs.length->MV rs t≠aA):MJ rs aA=none:=by
 unfold MJ
 split
 .rw[XV rs aA h];rfl
 rfl
theorem nu(a:Q5)(rs:List (Q4×Q4))(c:Nat)(aA:Q4)(w:Q9)(h:Prs w a rs)(s:rs.length<=1048576)(v:∀b∈rs,b.1.size<=1048576/\b.2.size<=1048576):Calls prog 60 #[.agg #[Y a rs.length c],Ow aA] w λe f=>e=Q2 (.tuple #[Ow ((MJ rs aA).getD ⟨#[]⟩),Q1 (MJ rs aA).isSome])/\Q3 w f:=by
 have k:∀o,Q3 w (w.alloc o):=λo=>(D).alloc C _
 obtain⟨R,i⟩:=x (MJ rs aA);rw[<-i.j]
 cases hok:MH rs with
 | false =>
  rw[WY hok]at i;go_enter func60,ntmps60;go_wp2_with (go_at_call 97;refine(ky a rs c _ (h.I (k _)) s v).J ?_;rw[hok];rintro e z ⟨rfl,b⟩);go_ret2;exact⟨by rw[i.j];rfl,(k _).E (b.J j)⟩
 | true =>
  have B:=LE (dp hok aA);go_enter func60,ntmps60;go_wp2_with (go_at_call 97;refine(ky a rs c _ (h.I (k _)) s v).J ?_;rw[hok];rintro e z ⟨rfl,b⟩;have y:z.cell? (Ki w.heap.size 0)=some (Y a rs.length c):=(b.cell (p:=(Ki w.heap.size 0)) j).E l;have n:=LE ((k _).E (b.J j));have E:=b.size;clear b);refine(WF a rs c aA _ (h.I n.j) s B).J ?_;rintro e F ⟨p,J,g,r,rfl,b⟩;have K:F.cell? (Ki w.heap.size 0)=some (Y a rs.length c):=(b.cell (p:=(Ki w.heap.size 0)) (by have:=E;simp at this;show w.heap.size<_;omega)).E y;have q:=LE (n.j.E (b.J n.j.size))
  have u:Hid (∀t,t<p->MV rs t≠aA):=λt m f=>by have:=g t m;rw[(MB _ _).2 f]at this;omega
  have A:=LE r;clear g r y b
  by_cases g:p<rs.length/\LJ (MV rs p) aA=0
  .rw[AM g]
   obtain⟨b,o,y,L,rfl,G,H,r⟩:=(h.I q.j).at g.1;have I:(p:Int)<(rs.length:Int):=d
   have f:y=aA:=by have:=(MB _ _).1 g.2;unfold MV at this;rw[<-r.j]at this;exact this
   rw[VA hok r.j g.1 u.j f]at i;clear g f;go_wp2;go_ret2;exact⟨by rw[i.j];rfl,q.j⟩
  rw[AH g]
  rw[TG (λt m f=>?miss)]at i
  case miss =>
   rcases FV t p with b|b
   .exact u.j t b f
   have t:=A.j p C d
   rcases JG b with r|r
   .subst r;exact g ⟨m,(MB _ _).2 f⟩
   have:=ik hok r m
   rw[f]at this;omega
  clear g;go_wp2;go_ret2;exact⟨by rw[i.j];rfl,q.j⟩
end
section
open Tryz
open Go.RowKit Go.Sort
theorem ny(a:Q5)(f:List (Q4×Q4))(c:Nat)(g:Q4)(w:Q9)(h:Prs w a f)(A:f.length<=1048576)(B:∀b∈f,b.1.size<=1048576/\b.2.size<=1048576):Calls prog 71 #[.agg #[Y a f.length c],Ow g] w λe i=>e=Q2 (.tuple #[Ow ((MJ f g).getD ⟨#[]⟩),Q1 (MJ f g).isSome])/\Q3 w i:=by
 have p:∀o,Q3 w (w.alloc o):=λo=>(D).alloc C _
 obtain⟨R,m⟩:=x (MJ f g);rw[<-m.j]
 cases hok:MH f with
 | false =>
  rw[WY hok]at m;go_enter func71,ntmps71;go_wp2_with (go_at_call 106;refine(lk a f c _ (h.I (p _)) A B).J ?_;rw[hok];rintro e s ⟨rfl,b⟩);go_ret2;exact⟨by rw[m.j];rfl,(p _).E (b.J j)⟩
 | true =>
  go_enter func71,ntmps71;go_wp2_with (go_at_call 106;refine(lk a f c _ (h.I (p _)) A B).J ?_;rw[hok];rintro e s ⟨rfl,b⟩;have n:=LE b;clear b);have I:w.heap.size<s.heap.size:=by have:=n.j.size;simp at this;omega
  go_loopw [6] (λi wr=>∃k:Nat,k<=f.length/\i=Z (k:Int)/\Hid (∀t,t<k->MV f t≠g)/\Q3 s wr) (λi _=>f.length-(intOf i).toNat)
  case atStart=>exact⟨0,AL,z,λt E=>d,D⟩
  case round =>
   obtain⟨k,N,rfl,q,b⟩:=hrel;have O:wr.cell? (Ki w.heap.size 0)=some (Y a f.length c):=(b.cell (p:=(Ki w.heap.size 0)) I).E ((n.j.cell (p:=(Ki w.heap.size 0)) j).E l);have r:=LE ((p _).E ((n.j.E (b.J n.j.size)).J j));have H:=LE b;clear b
   by_cases v:k<f.length
   .obtain⟨b,o,F,P,rfl,K,L,u⟩:=(h.I r.j).at v
    have J:(k:Int)<(f.length:Int):=d
    by_cases i:F=g
    .rw[VA hok u.j v q.j i]at m
     subst i;go_wp2;go_ret2;exact⟨by rw[m.j];rfl,r.j⟩
    have M:(F.toList == g.toList)=false:=by rw[BL];intro y;rw[CZ,CZ]at y;exact i (EV (IH y))
    have G:Hid (MV f k≠g):=by show _≠_;unfold MV;rw[<-u.j];exact i
    clear i;go_wp2;refine⟨⟨k+1,d,ν,λt E=>?_,H.j⟩,by simp[intOf];omega⟩;rcases FV t k with i|i
    .exact q.j t i
    have:t=k:=d
    subst this;exact G.j
   rw[TG (λt E=>q.j t d)]at m
   go_wp2;go_ret2;exact⟨by rw[m.j];rfl,r.j⟩
