import Derived.Shelf.Small.Strs
import Derived.Sort.Walk0
import Derived.Test.YtkdedmclofhndaaGreatDoorPrG38
import Derived.ChangeKeysEq
set_option maxHeartbeats 16000000
set_option maxRecDepth 8000
set_option linter.all false
namespace Go.Proofs.YtkdedmclofhndaaGreatDoor
open _root_.ByteArray(empty)
section
open Tryz
open Go.RowKit
variable {B:Nat}{v0 v1:qD}{w w':xV}
structure Cx(w:xV)(B:Nat)(v0 v1:qD):Prop where
 lt:B<w.heap.size
 c0:w.cell? (yA B 0)=some v0
 c1:w.cell? (yA B 1)=some v1
theorem Cx.I(h:Cx w B v0 v1)(a:yX w w'):Cx w' B v0 v1 :=⟨AC h.lt a.size,(a.cell (p:=⟨_,0,none⟩) h.lt).E h.c0,(a.cell (p:=⟨_,1,none⟩) h.lt).E h.c1⟩
theorem Cx.V{r:Option Nat}(h:Cx w B v0 v1)(a:w.grownBy w' r)(b:some B≠r):Cx w' B v0 v1 :=⟨AC h.lt a.size,(DP (a:=(yA B 0)) (a.block B h.lt b)).E h.c0,(DP (a:=(yA B 1)) (a.block B h.lt b)).E h.c1⟩
theorem Cx.drew(h:Cx w B v0 v1):Cx w.drew B v0 v1:=⟨h.lt,h.c0,h.c1⟩
theorem Cx.new(w:xV)(v0 v1:qD)(t:TypeId):Cx (w.alloc (.cells #[v0,v1] t)) w.heap.size v0 v1 :=⟨σ,by rw[EH _ _ _ _ rfl];rfl,by rw[EH _ _ _ _ rfl];rfl⟩
theorem Oq(w:xV)(o:Obj):yX w (w.alloc o):=LG _ _
theorem Below.then{a b c:xV}(h:Below B a b)(d:B<=a.heap.size)(k:yX b c):Below B a c:=h.E (k.J (AJ d h.size))
def X2(k:Nat):List Int:=if h:k=0 then [] else X2 (k / 10)++[48+((k % 10:Nat):Int)]
def Ya(k:Nat):yZ:=⟨#[109]⟩++strOfNums (X2 k)
abbrev OpT:=Bool×Int×yZ
def Ops(w:xV)(a:xA)(c:List (Bool×Int×yZ)):Prop :=c=[]\/∃b o,a=zY b o/\b<w.heap.size/\∀i,i<c.length->w.cell? (yA b (o+i*3))=some (yR (c.getD i (false,0,empty)).1)/\w.cell? (yA b (o+i*3+1))=some (Z (c.getD i (false,0,empty)).2.1)/\w.cell? (yA b (o+i*3+2))=some (yQ (c.getD i (false,0,empty)).2.2)
theorem Ops.I{a:xA}{g:List (Bool×Int×yZ)}(h:Ops w a g)(d:yX w w'):Ops w' a g:=by
 rcases h with h|⟨b,o,j,c,e⟩
 ·exact .inl h
 exact .inr ⟨b,o,j,AC c d.size,λi f=>⟨(d.cell (p:=(yA b (o+i*3))) c).E (e i f).1,(d.cell (p:=(yA b (o+i*3+1))) c).E (e i f).2.1,(d.cell (p:=(yA b (o+i*3+2))) c).E (e i f).2.2⟩⟩
theorem Ops.at{a:xA}{e:List (Bool×Int×yZ)}(h:Ops w a e){k:Nat}(c:k<e.length):∃b o d f g,a=zY b o/\w.cell? (yA b (o+k*3))=some (yR d)/\w.cell? (yA b (o+k*3+1))=some (Z f)/\w.cell? (yA b (o+k*3+2))=some (yQ g)/\Hid ((d,f,g)=e.getD k (false,0,empty)):=by
 rcases h with h|⟨b,o,f,g,d⟩
 ·subst h;simp at c
 exact⟨b,o,_,_,_,f,(d k c).1,(d k c).2.1,(d k c).2.2,Y rfl⟩
def Or(a:List (Bool×Int×yZ)):List qD:=a.flatMap λx=>[yR x.1,Z x.2.1,yQ x.2.2]
theorem O8(a b:List (Bool×Int×yZ)):Or (a++b)=Or a++Or b:=by simp[Or]
theorem Qh(a:List (Bool×Int×yZ)):(Or a).length=a.length*3:=by
 induction a with
 | nil=>rfl
 | cons x r b=>simp[Or]at b⊢;omega
theorem P9:∀(a:List (Bool×Int×yZ)) (i:Nat),i<a.length->(Or a)[i*3]?=some (yR (a.getD i (false,0,empty)).1)/\(Or a)[i*3+1]?=some (Z (a.getD i (false,0,empty)).2.1)/\(Or a)[i*3+2]?=some (yQ (a.getD i (false,0,empty)).2.2)
 | x::r,0,_=>by simp[Or]
 | x::r,i+1,h=>by
  have b:=P9 r i (by simpa using h);have e:Or (x::r)=yR x.1::Z x.2.1::yQ x.2.2::Or r:=by simp[Or]
  rw[e,show(i+1)*3=i*3+3 by omega];simpa using b
theorem Row.ops{g:Nat}{a:List (Bool×Int×yZ)}(h:Row w g (Or a)):Ops w (zY g 0) a :=.inr ⟨g,0,rfl,h.lt,λi b=>by
  rw[BK]
  exact⟨h.cell _ _ (P9 a i b).1,h.cell _ _ (P9 a i b).2.1,h.cell _ _ (P9 a i b).2.2⟩⟩
end
section
open Tryz
open Go.Shelf
def Yg:Go.Shelf.Ren:=⟨fun|106=>164|213=>216|265=>267|n=>n,fun|9=>9|3=>3|n=>n,fun|n=>n⟩
theorem Ut:Go.Proofs.Lays.n106 prog Yg:={
 mixed:=κ
 f106:=func164.E (BC some κ)
 f213:=func216.E (BC some κ)
 f265:=func267.E (BC some κ)
 t3:=underlying3
 a3:=isAgg3
 z3:=sizeOf3
 v3:=zeroValue3
 t9:=underlying9
 a9:=isAgg9
 z9:=sizeOf9
 v9:=zeroValue9 }
def Ou(a b:yZ):Int:=Lib.compareBytes a.data.toList b.data.toList
open Go.RowKit in
theorem Ue(a b:yZ)(w:xV):Calls prog 164 #[yQ a,yQ b] w λe c=>e=yT (Z (Ou a b))/\c=w:=Any.strings_Compare Ut a b w
end
section
open Tryz
open Go.RowKit Go.Sort
theorem Vm(a b:UInt8)(c:¬a<b)(d:¬b<a):a=b:=by
 apply UInt8.toNat_inj.1
 rw[KZ]at c d;omega
theorem Uu:∀(x y:List UInt8),Lib.compareBytes x y<0<->x<y
 | [],[]=>by simp[Lib.compareBytes]
 | [],b::l2=>by simp[Lib.compareBytes]
 | a::l,[]=>by simp[Lib.compareBytes]
 | a::l,b::l2=>by
  rw[List.cons_lt_cons_iff];unfold Lib.compareBytes
  split
  ·rename_i h;simp[h]
  rename_i h
  split
  ·rename_i h2
   have hne:¬a=b:=λe=>by subst e;exact h h2
   simp[h,hne]
  rename_i h2
  have e:=Vm a b h h2;subst e;rw[Uu l l2];simp[h]
theorem Ts:∀(x y:List UInt8),Lib.compareBytes x y=0<->x=y
 | [],[]=>by simp[Lib.compareBytes]
 | [],b::l2=>by simp[Lib.compareBytes]
 | a::l,[]=>by simp[Lib.compareBytes]
 | a::l,b::l2=>by
  unfold Lib.compareBytes
  split
  ·rename_i h
   have hne:¬a=b:=λe=>by subst e;rw[KZ]at h;omega
   simp[hne]
  rename_i h
  split
  ·rename_i h2
   have hne:¬a=b:=λe=>by subst e;exact h h2
   simp[hne]
  rename_i h2
  have e:=Vm a b h h2;subst e;rw[Ts l l2];simp
theorem Pt(a b:yZ):Ou a b<0<->Op.bytesLess a.toList b.toList=true:=by
 unfold Ou;rw[Uu,bytesLess_eq,BG,CZ,CZ]
theorem O9(a b:yZ):Ou a b=0<->a=b:=by
 unfold Ou;rw[Ts]
 constructor
 ·intro h;exact EQ (IE h)
 intro h;rw[h]
theorem Ux(k v a:yZ)(w:xV):Calls prog 163 #[.agg #[yQ k,yQ v],yQ a] w λe b=>e=yT (Z (Ou k a))/\yX w b:=by
 go_enter func163,ntmps163;go_wp2_with (go_at_call 164;refine(Ue k a _).J ?_;rintro e b ⟨rfl,rfl⟩);go_ret;exact⟨rfl,LG _ _⟩
def ME(a:List (yZ×yZ))(t:Nat):yZ:=(a.getD t (empty,empty)).1
theorem Yf(a:xA)(d:List (yZ×yZ))(c:Nat)(f:yZ)(w:xV)(h:Prs w a d)(O:d.length<=1048576)(z:Hid (∀t m,t<=m->m<d.length->Ou (ME d m) f<0->Ou (ME d t) f<0)):Calls prog 162 #[yI a d.length c,yQ f,.func (.func 163) #[] #[]] w λe b =>
   ∃p:Nat,p<=d.length/\(∀t,t<p->Ou (ME d t) f<0)/\(∀t,p<=t->t<d.length->0<=Ou (ME d t) f)/\e=yT (.tuple #[Z (p:Int),yR (decide (p<d.length/\Ou (ME d p) f=0))])/\yX w b:=by
 go_enter func162,ntmps162;go_wp2_with fail;go_loopw [9,10,11] (λi j _ wr=>∃p q:Nat,p<=q/\q<=d.length/\i=Z (p:Int)/\j=Z (q:Int)/\Hid (∀t,t<p->Ou (ME d t) f<0)/\Hid (∀t,q<=t->t<d.length->0<=Ou (ME d t) f)/\yX w wr) (λi j _ _=>(intOf j).toNat-(intOf i).toNat)
 case atStart=>exact⟨0,d.length,AL _,AA _,rfl,rfl,λt G=>ω,λt A B=>ω,AB _ _⟩
 case round =>
  obtain⟨p,q,N,y,rfl,rfl,l,r,g⟩:=hrel
  by_cases J:p<q
  ·obtain⟨m,k⟩:∃m:Nat,m=(p+q) / 2:=⟨_,rfl⟩
   have K:p<=m:=ω
   have L:m<q:=ω
   have M:((p:Int)+(q:Int)) / 2=(m:Int):=ω
   obtain⟨b,o,i,v,rfl,E,F,x⟩:=(h.I g).at (show m<d.length by omega);have n:Hid (i=ME d m):=by show _=_;unfold ME;rw[<-x.j]
   have I:(p:Int)<(q:Int):=ω
   obtain⟨C,j⟩:∃C,Hid (C=Ou i f):=⟨_,Y rfl⟩;clear k;have u:=r;have s:=l;clear r l
   by_cases H:C<0
   ·go_wp2_with (go_at_call 163;refine(Ux i v f _).J ?_;rw[<-j.j];rintro e D ⟨rfl,k⟩)
    refine⟨⟨m+1,q,ω,y,ν,rfl,λt G=>?_,u.j,g.E (k.J g.size)⟩,by simp[intOf];omega⟩;exact z.j t m ω ω (by rw[<-n.j,<-j.j];exact H)
   go_wp2_with (go_at_call 163;refine(Ux i v f _).J ?_;rw[<-j.j];rintro e D ⟨rfl,k⟩)
   refine⟨⟨p,m,ω,ω,rfl,rfl,s.j,λt A B=>Int.not_lt.1 (λG=>?_),g.E (k.J g.size)⟩,by simp[intOf];omega⟩;have:=z.j m t A B G;rw[<-n.j,<-j.j]at this;omega
  have t:p=q:=ω
  subst t;have u:=r;have s:=l;clear r l
  by_cases l:p<d.length
  ·have r:(p:Int)<(d.length:Int):=ω
   obtain⟨b,o,i,v,rfl,E,F,x⟩:=(h.I g).at l;have n:Hid (i=ME d p):=by show _=_;unfold ME;rw[<-x.j]
   obtain⟨C,j⟩:∃C,Hid (C=Ou i f):=⟨_,Y rfl⟩;go_wp2_with (go_at_call 163;refine(Ux i v f _).J ?_;rw[<-j.j];rintro e D ⟨rfl,k⟩);go_ret2;refine⟨p,y,s.j,u.j,?_,g.E (k.J g.size)⟩;rw[<-n.j,<-j.j];simp[l];rw[JB];simp
  have r:(d.length:Int)<=(p:Int):=ω
  go_wp2;go_ret2;refine⟨p,y,s.j,u.j,?_,g⟩;simp[l]
end
section
open Tryz
open Go.RowKit Go.Sort
variable {rs:List (yZ×yZ)}
theorem Pn(a b c:yZ)(d:Ou a b<0)(e:Ou b c<0):Ou a c<0:=by
 unfold Ou at *;rw[Uu]at *;exact List.lt_trans d e
theorem Su(h:LX rs=true)(i:Nat)(a:i+1<rs.length):Ou (ME rs i) (ME rs (i+1))<0:=by
 have:=(ZM h).2 (i+1) a;unfold QA RX at this;simp only[JF,BD,Bool.or_eq_true,BG]at this;rw[Pt];rcases this.2 with h|h
 ·omega
 exact h
theorem asc(h:LX rs=true)(t:Nat):∀d,t+d+1<rs.length->Ou (ME rs t) (ME rs (t+d+1))<0
 | 0,hd=>Su h t hd
 | d+1,hd=>Pn _ _ _ (asc h t d ω) (Su h (t+d+1) hd)
theorem Wy(h:LX rs=true){t u:Nat}(b:t<u)(a:u<rs.length):Ou (ME rs t) (ME rs u)<0:=by
 obtain⟨d,rfl⟩:∃d,u=t+d+1:=⟨u-t-1,ω⟩;exact asc h t d a
theorem Wc(h:LX rs=true)(a:yZ):∀t m,t<=m->m<rs.length->Ou (ME rs m) a<0->Ou (ME rs t) a<0:=by
 intro t m e d c;rcases FX t m with b|b
 ·exact Pn _ _ _ (Wy h b d) c
 have:t=m:=ω
 subst this;exact c
theorem Tm(a:xA)(rs:List (yZ×yZ))(c:Nat)(b:yZ)(w:xV)(h:Prs w a rs)(q:rs.length<=1048576)(l:Hid (∀t m,t<=m->m<rs.length->Ou (ME rs m) b<0->Ou (ME rs t) b<0)):Calls prog 115 #[.agg #[yQ b],yI a rs.length c] w λe d =>
   ∃p:Nat,p<=rs.length/\(∀t,t<p->Ou (ME rs t) b<0)/\(∀t,p<=t->t<rs.length->0<=Ou (ME rs t) b)/\e=yT (.tuple #[Z (p:Int),yR (decide (p<rs.length/\Ou (ME rs p) b=0))])/\yX w d:=by
 have f:∀o,yX w (w.alloc o):=λo=>LG _ _
 go_enter func115,ntmps115;go_wp2_with fail;refine(Yf a rs c b _ (h.I (f _)) q l).J ?_;rintro e o ⟨p,n,g,i,rfl,m⟩;obtain⟨B,d⟩:∃B,Hid (B=decide (p<rs.length/\Ou (ME rs p) b=0)):=⟨_,Y rfl⟩;rw[<-d.j];have j:=Y g;have k:=Y i;clear g i;go_wp2;go_ret2;refine⟨p,n,j.j,k.j,by rw[<-d.j];rfl,(f _).E (m.J σ)⟩
end
section
open Tryz
open Go.RowKit Go.Sort
theorem Tr:∀(x y:List UInt8),0<Lib.compareBytes x y->Lib.compareBytes y x<0
 | [],[]=>by simp[Lib.compareBytes]
 | [],b::l2=>by simp[Lib.compareBytes]
 | a::l,[]=>by simp[Lib.compareBytes]
 | a::l,b::l2=>by
  unfold Lib.compareBytes;intro h
  by_cases h1:a<b
  ·simp[h1]at h
  by_cases h2:b<a
  ·simp[h2]
  simp only[h1,h2,JA]at h⊢
  exact Tr l l2 h
theorem Qp{a b:yZ}(h:0<Ou a b):RX b a=true:=by
 have:=Tr _ _ h;exact(Pt b a).1 this
theorem Pf(a:yZ):Ou a a=0:=(O9 a a).2 rfl
theorem U9{a b:yZ}(h:Ou a b<0):RX b a=false:=by
 cases hk:RX b a with
 | false=>rfl
 | true =>
  have c:Ou b a<0:=(Pt b a).2 hk;have d:=Pn a b a h c;rw[Pf]at d;omega
theorem Rz(a:yZ):RX a a=false:=by
 cases hk:RX a a with
 | false=>rfl
 | true =>
  have b:Ou a a<0:=(Pt a a).2 hk;rw[Pf]at b;omega
def P1(b c:yZ)(a:Bool×List Pr)(p:Pr):Bool×List Pr :=if p.1=b then (if (!a.1 && RX b p.1)=true then (true,a.2++[(b,c)]) else a)
 else (if (!a.1 && RX b p.1)=true then (true,a.2++[(b,c)]++[p]) else (a.1,a.2++[p]))
def chW(c:Ch)(a:List Pr):Bool×List Pr:=a.foldl (P1 c.1 c.2.1) (c.2.2,[])
def OJ(c:Ch)(a:List Pr):List Pr:=if (chW c a).1=true then (chW c a).2 else (chW c a).2++[(c.1,c.2.1)]
theorem Rr(c:Ch)(a:List Pr)(p:Pr):chW c (a++[p])=P1 c.1 c.2.1 (chW c a) p:=by unfold chW;rw[IT];rfl
def Ph(a:List Pr):Prop:=a.Pairwise λx y=>Ou x.1 y.1<0
theorem Wv(aA aB:yZ):∀(l:List Pr) (g:Bool) (out:List Pr),(∀x∈l,Ou x.1 aA<0)->l.foldl (P1 aA aB) (g,out)=(g,out++l)
 | [],g,out,_=>σ
 | x::l,g,out,h=>by
  have hx:=h x EM
  have hne:¬x.1=aA:=λe=>by rw[e,Pf]at hx;omega
  rw[GV,P1,AF hne,U9 hx,IH,AF σ];rw[Wv aA aB l g (out++[x]) (λy hy=>h y (DJ _ hy)),BV];rfl
theorem Vl(aA aB:yZ):∀(l:List Pr) (out:List Pr),(∀x∈l,0<Ou x.1 aA)->l.foldl (P1 aA aB) (true,out)=(true,out++l)
 | [],out,_=>σ
 | x::l,out,h=>by
  have hx:=h x EM
  have hne:¬x.1=aA:=λe=>by rw[e,Pf]at hx;omega
  rw[GV,P1,AF hne,AF σ];rw[Vl aA aB l (out++[x]) (λy hy=>h y (DJ _ hy)),BV];rfl
def Sa(c:Ch)(a r:List Pr):List Pr:=a++(if c.2.2=true then [] else [(c.1,c.2.1)])++r
theorem Rp(c:Ch)(a m r:List Pr)(k:∀x∈a,Ou x.1 c.1<0)(n:m=[]\/∃v,m=[(c.1,v)])(f:∀x∈r,0<Ou x.1 c.1):OJ c (a++m++r)=Sa c a r:=by
 obtain⟨b,d,g⟩:=c
 have j:chW (b,d,g) (a++m++r)=r.foldl (P1 b d) (g,a):=by
  unfold chW;rw[BV,IT,Wv b d a g [] k,EK,IT];rcases n with rfl|⟨v,rfl⟩
  ·rfl
  rw[GV,List.foldl_nil,P1,AI rfl,Rz,IH,AF σ]
 unfold OJ Sa;rw[j]
 cases g with
 | true=>rw[Vl b d r a f];simp
 | false =>
  cases r with
  | nil=>simp
  | cons x l =>
   have h:=f x EM
   have i:¬x.1=b:=λe=>by rw[e,Pf]at h;omega
   rw[GV,P1,AF i];simp only[Bool.not_false,GK];rw[Qp h,AI rfl,Vl b d l _ (λy e=>f y (DJ _ e))];simp
theorem Qz(c:Ch)(a m r:List Pr)(h:Ph (a++m++r))(l:∀x∈a,Ou x.1 c.1<0)(n:∀x∈r,0<Ou x.1 c.1):Ph (Sa c a r):=by
 unfold Ph Sa at *;rw[IA,IA]at h;obtain⟨⟨f,o,p⟩,g,k⟩:=h
 have e:∀x∈a,∀y∈r,Ou x.1 y.1<0:=λx b y d=>k x (List.mem_append_left _ b) y d
 have j:∀y∈r,Ou c.1 y.1<0:=λy d=>(Pt _ _).2 (Qp (n y d))
 by_cases i:c.2.2=true
 ·rw[AI i,FQ,IA]
  exact⟨f,g,e⟩
 rw[AF i,IA,IA]
 refine⟨⟨f,σ,λx b y d=>?_⟩,g,λx b y d=>?_⟩
 ·simp at d;subst d;exact l x b
 rw[BZ]at b
 rcases b with b|b
 ·exact e x b y d
 simp at b;subst b;exact j y d
theorem Pd{α:Type}(a:List α)(i:Nat)(h:i<a.length){d:α}:a.getD i d=a[i]:=by simp[List.getD,h]
theorem Us{b:List Pr}(h:LX b=true):Ph b:=by
 unfold Ph;rw[GU];intro i j d a c;have:=Wy h c a;unfold ME at this
 rwa [Pd _ _ d,Pd _ _ a]at this
theorem St{a:List Pr}(h:Ph a)(c:yZ):∀t m,t<=m->m<a.length->Ou (ME a m) c<0->Ou (ME a t) c<0:=λt m f d b=>by
 rcases JG f with e|e
 ·subst e;exact b
 unfold Ph at h
 rw[GU]at h;have:=h t m ω d e;unfold ME at *;rw[Pd _ _ d]at b;rw[Pd _ _ ω];exact Pn _ _ _ this b
theorem Rn{a:List Pr}(h:Ph a)(c:yZ)(p:Nat)(s:p<=a.length)(q:∀t,t<p->Ou (ME a t) c<0)(o:∀t,p<=t->t<a.length->0<=Ou (ME a t) c)(d:Nat)(f:d=if p<a.length/\Ou (ME a p) c=0 then 1 else 0):a=a.take p++(a.drop p).take d++a.drop (p+d)/\(∀x∈a.take p,Ou x.1 c<0)/\((a.drop p).take d=[]\/∃v,(a.drop p).take d=[(c,v)])/\(∀x∈a.drop (p+d),0<Ou x.1 c):=by
 have r:=h;unfold Ph at h;rw[GU]at h;refine⟨?_,?_,?_,?_⟩
 ·rw[BV,<-GN,FJ,FJ]
 ·intro x l
  obtain⟨i,j,rfl⟩:=EL l;rw[AX]at j;have:=q i ω;unfold ME at this;rw[Pd _ _ ω]at this;rw[List.getElem_take];exact this
 ·by_cases b:p<a.length/\Ou (ME a p) c=0
  ·rw[AI b]at f
   subst f
   right
   have e:=(O9 _ _).1 b.2;unfold ME at e;rw[Pd _ _ b.1]at e;refine⟨(a[p]'b.1).2,?_⟩;rw[FR b.1,KD,FV];exact BC (λk=>[k]) (Prod.ext e rfl)
  rw[AF b]at f
  subst f;exact .inl σ
 intro x l
 obtain⟨i,j,rfl⟩:=EL l;rw[BQ]at j;rw[List.getElem_drop];have k:=o (p+d+i) ω ω;unfold ME at k;rw[Pd _ _ ω]at k;rcases Int.lt_or_eq_of_le k with g|g
 ·exact g
 exfalso
 have e:=(O9 _ _).1 g.symm
 by_cases n:d+i=0
 ·have m:d=0:=ω
  have n:i=0:=ω
  subst n;rw[m]at f
  by_cases b:p<a.length/\Ou (ME a p) c=0
  ·rw[AI b]at f;cases f
  refine b ⟨ω,?_⟩
  unfold ME;rw[Pd _ _ ω];subst m;exact g.symm
 have m:=h p (p+d+i) ω ω ω
 rw[e]at m;have b:=o p (AA _) ω;unfold ME at b;rw[Pd _ _ ω]at b;omega
def MV(a:List Pr)(b:List Ch):List Pr:=b.foldl (λs c=>OJ c s) a
theorem Qe(a:List Pr)(b:List Ch)(c:Ch):MV a (b++[c])=OJ c (MV a b):=by unfold MV;rw[IT];rfl
def PK(a:List Pr)(b:List Ch):Int:=if (LX a && OM b)=true then (if (MV a b).length<=100 then 0 else 2) else 1
def PH(a:List Pr)(b:List Ch):List Pr:=if PK a b=0 then MV a b else []
theorem Sl(c:Ch):∀(e:List Pr) (k:Nat),k=e.length->(chW c e).2.length<=e.length+(if (chW c e).1=true/\c.2.2=false then 1 else 0)/\(c.2.2=true->(chW c e).1=true)
 | e,0,hk=>by rw[AD hk.symm];simp[chW]
 | e,k+1,hk=>by
  obtain⟨b,bs,rfl⟩:∃b bs,e=bs++[b]:=by
   rcases GJ e with h|⟨l,a,h⟩
   ·subst h;simp at hk
   exact⟨a,l,by simpa using h⟩
  have f:=Sl c bs k (by simp at hk;omega);rw[Rr];obtain⟨a,i,g⟩:=c;generalize chW (a,i,g) bs=m at f⊢;obtain⟨d,l⟩:=m;unfold P1;rw[AK,EI];have h:=Rz a
  cases d<;>cases hk2:RX a b.1<;>by_cases j:b.1=a<;>cases g<;>simp[j,hk2,h]at f hk2⊢<;>omega
theorem Vr(c:Ch)(a:List Pr):(OJ c a).length<=a.length+1:=by
 have:=(Sl c a _ rfl).1;unfold OJ
 split
 ·split at this<;>omega
 rename_i h
 rw[AF (λe=>h e.1)]at this;rw[AK];simp;omega
theorem Sk(rs:List Pr)(b:List Ch):∀k,(MV rs (b.take k)).length<=rs.length+k
 | 0=>by simp[MV]
 | k+1=>by
  have ih:=Sk rs b k
  by_cases h:k<b.length
  ·rw[BH h,Qe]
   have:=Vr b[k] (MV rs (b.take k));omega
  rw[AR ω]at ih⊢
  omega
end
section
open Tryz
open Go.RowKit Go.Sort
theorem Sv{a b:yZ}(h:Ou a b<0):0<Ou b a:=by
 rcases KN (Ou b a) 0 with c|c|c
 ·have:=Pn a b a h c
  rw[Pf]at this;omega
 ·have:=(O9 _ _).1 c
  subst this;rw[Pf]at h;omega
 exact c
theorem P0(a:List Pr):LX a=true<->a.length<=100/\(∀x∈a,PC x.1=true/\OB x.2=true)/\Ph a:=by
 constructor
 ·intro h
  obtain⟨b,c⟩:=ZM h;refine⟨b,λx e=>?_,Us h⟩;obtain⟨i,d,rfl⟩:=EL e;have:=c i d;unfold QA at this;rw[Pd _ _ d]at this;simp only[BD]at this;exact this.1
 rintro⟨b,c,d⟩
 refine wj b (λk e=>?_);unfold QA;have g:=c _ (GA e);rw[Pd _ _ e,g.1,g.2]
 by_cases h:k=0
 ·simp[h]
 have f:k-1<a.length:=ω
 rw[Pd _ _ f];unfold Ph at d;rw[GU]at d;have:=d (k-1) k f e ω;have e:RX a[k-1].1 a[k].1=true:=(Pt _ _).1 this;simp[e]
theorem Tb(aA:yZ):∀(rs:List Pr),Ph rs->∃a m r,rs=a++m++r/\(∀x∈a,Ou x.1 aA<0)/\(m=[]\/∃v,m=[(aA,v)])/\(∀x∈r,0<Ou x.1 aA)
 | [],_=>⟨[],[],[],rfl,σ,.inl rfl,σ⟩
 | x::l,h=>by
  unfold Ph at h;rw[List.pairwise_cons]at h;rcases KN (Ou x.1 aA) 0 with h1|h1|h1
  ·obtain⟨a,m,r,e,ha,hm,hr⟩:=Tb aA l h.2
   refine⟨x::a,m,r,by rw[e];rfl,λy hy=>?_,hm,hr⟩;rcases DX.1 hy with rfl|hy
   ·exact h1
   exact ha y hy
  ·have e:=(O9 _ _).1 h1
   refine⟨[],[x],l,rfl,σ,.inr ⟨x.2,by rw[<-e]⟩,λy hy=>?_⟩;rw[<-e];exact Sv (h.1 y hy)
  refine⟨[],[],x::l,rfl,σ,.inl rfl,λy hy=>?_⟩
  rcases DX.1 hy with rfl|hy
  ·exact h1
  have h2:Ou aA x.1<0:=(Pt _ _).2 (Qp h1)
  exact Sv (Pn _ _ _ h2 (h.1 y hy))
theorem Sd(c:Ch)(b:List Pr)(h:Ph b):∃a m r,b=a++m++r/\(∀x∈a,Ou x.1 c.1<0)/\(m=[]\/∃v,m=[(c.1,v)])/\(∀x∈r,0<Ou x.1 c.1)/\OJ c b=Sa c a r:=by
 obtain⟨a,m,r,e,d,f,g⟩:=Tb c.1 b h;exact⟨a,m,r,e,d,f,g,by rw[e];exact Rp c a m r d f g⟩
theorem Tt(c:Ch)(b:List Pr)(h:Ph b):Ph (OJ c b):=by
 obtain⟨a,m,r,e,d,i,g,f⟩:=Sd c b h;rw[f];rw[e]at h;exact Qz c a m r h d g
theorem Vs(c:Ch)(d:List Pr)(h:Ph d):∀x∈OJ c d,x∈d\/(x=(c.1,c.2.1)/\c.2.2=false):=by
 obtain⟨a,m,r,e,i,j,k,f⟩:=Sd c d h;rw[f];intro x b;unfold Sa at b;rw[BZ,BZ]at b;rcases b with (b|b)|b
 ·exact .inl (by rw[e];simp[b])
 ·split at b
  ·simp at b
  rename_i g
  simp at b;exact .inr ⟨b,by simpa using g⟩
 exact .inl (by rw[e];simp[b])
theorem Vo(a:List Pr)(h:Ph a):∀(b:List Ch),Ph (MV a b):=by
 intro b;unfold MV
 induction b generalizing a with
 | nil=>exact h
 | cons c l d=>exact d _ (Tt c a h)
theorem Vp(a:List Pr)(h:Ph a):∀(b:List Ch),∀x∈MV a b,x∈a\/∃c∈b,x=(c.1,c.2.1):=by
 intro b;unfold MV
 induction b generalizing a with
 | nil=>exactλx f=>.inl f
 | cons c l j =>
  intro x f;rcases j _ (Tt c a h) x f with d|⟨g,d,i⟩
  ·rcases Vs c a h x d with e|e
   ·exact .inl e
   exact .inr ⟨c,EM,e.1⟩
  exact .inr ⟨g,DJ _ d,i⟩
theorem Rq{c:Ch}(h:OX c=true):PC c.1=true/\OB c.2.1=true:=by
 unfold OX at h;simp only[BD]at h;exact h.1
theorem Uq{c:List Pr}{b:List Ch}(h:PK c b=0):LX c=true/\OM b=true/\(MV c b).length<=100:=by
 unfold PK at h
 split at h
 ·rename_i a
  simp only[BD]at a
  split at h
  ·rename_i d;exact⟨a.1,a.2,d⟩
  cases h
 cases h
theorem Ro{a:List Pr}{b:List Ch}(h:PK a b=0):LX (MV a b)=true:=by
 obtain⟨e,f,g⟩:=Uq h;obtain⟨_,j,k3⟩:=(P0 a).1 e;refine(P0 _).2 ⟨g,λx i=>?_,Vo a k3 b⟩;rcases Vp a k3 b x i with d|⟨c,d,rfl⟩
 ·exact j x d
 exact Rq ((XW f).2 c d)
end
section
open Tryz
open Go.RowKit
theorem Vf(z:qD)(c:z.cells=#[z])(n:Nat):(madeCells z.cells (n*1)).toList=List.replicate n z:=by
 unfold madeCells;rw[JX,KV,KI,JP];refine⟨σ,λb a=>?_⟩;obtain⟨i,_,rfl⟩:=DT.1 a;rw[c];have:i % (#[z]:Array qD).size=0:=by simp[Nat.mod_one]
 rw[this];rfl
theorem Dsk.start(w:xV)(c d e f:TypeId):Dsk w ((w.alloc (.cells #[yI none 0 0,yI none 0 0] c)).alloc (.cells #[yI none 0 0,yI none 0 0] d)) w.heap.size (w.heap.size+1) (w.heap.size+1+1) e f (yI none 0 0) (yI none 0 0) [] []:=by
 have g:yX w ((w.alloc (.cells #[yI none 0 0,yI none 0 0] c)).alloc (.cells #[yI none 0 0,yI none 0 0] d)):=(LG _ _).alloc σ _;have b:=(LS w #[yI none 0 0,yI none 0 0] c).alloc (.cells #[yI none 0 0,yI none 0 0] d);have a:=LS (w.alloc (.cells #[yI none 0 0,yI none 0 0] c)) #[yI none 0 0,yI none 0 0] d;simp only[BE]at a;exact⟨AA _,ω,ω,ω,ω,σ,g,b.y 0,b.y 1,b.A 0,b.A 1,a.y 0,a.y 1,a.A 0,a.A 1,BT _ _ _ _,BT _ _ _ _,.inl rfl⟩
theorem O5{P:Program}{e:TypeId}{z:qD}{a b:Nat}(h:(P.info? e).map (λi=>(i.zero,i.size,i.bytes))=some (some z,a,b)):∃i,P.info? e=some i/\i.zero=some z/\i.size=a/\i.bytes=b:=by
 obtain⟨i,d,c⟩:=DZ.1 h;simp only[EJ]at c;exact⟨i,d,c⟩
end
section
open Tryz
structure Wr(p:Prop):Prop where
 j:p
end
section
open Tryz
open Go.RowKit
variable {xs:List qD}{base n size:Nat}{g0 r:Option Nat}{e:TypeId}{v:qD}{w w' wS wr:xV}
structure Grow(wS wr:xV)(g0:Option Nat)(base:Nat)(e:TypeId)(size:Nat)(v:qD)(n:Nat)(xs:List qD):Prop where
 own:wr.ownsRow base e size v n xs
 gb:wS.grownBy wr g0
 at_:∀k,v.ownBlock=some k->g0=some k\/wS.heap.size<=k
theorem Grow.start(h:w.ownsRow base e size v n xs):Grow w w v.ownBlock base e size v n xs:=⟨h,AY _ _,λk a=>.inl a⟩
theorem Grow.I(h:Grow wS wr g0 base e size v n xs)(a:yX wr w'):Grow wS w' g0 base e size v n xs :=⟨LZ h.own a,⟨a.os.E h.gb.os,a.tape.E h.gb.tape,a.output.E h.gb.output,AJ h.gb.size a.size,λk b c=>(a.block k (AC b h.gb.size)).E (h.gb.block k b c)⟩,h.at_⟩
theorem Rw{f:xV}(h:wS.grownBy wr g0)(a:wr.grownBy f r)(g:∀k,r=some k->g0=some k\/wS.heap.size<=k):wS.grownBy f g0 :=⟨a.os.E h.os,a.tape.E h.tape,a.output.E h.output,AJ h.size a.size,λk d b=>(a.block k (AC d h.size) (λe=>by
  rcases g k e.symm with c|c
  ·exact b c.symm
  ·omega)).E (h.block k d b)⟩
theorem Grow.push{d:xV}{a:qD}{g H:Nat}{f:List qD}(h:Grow wS wr g0 base e size v n xs)(i:d.ownsRow base e size a g f)(m:wr.grownBy d v.ownBlock)(j:v.ownBlock=a.ownBlock\/a.ownBlock=some H)(l:wr.heap.size<=H):Grow wS d g0 base e size a g f :=⟨i,Rw h.gb m h.at_,λk c=>by
  rcases j with b|b
  ·exact h.at_ k (b.E c)
  rw[b]at c;cases c;exact .inr (AJ h.gb.size l)⟩
theorem Grow.E{f:xV}{d:qD}{c:Nat}{b:List qD}(h:Grow wS f g0 base e size v n xs)(k:Grow f wr v.ownBlock base e size d c b):Grow wS wr g0 base e size d c b :=⟨k.own,Rw h.gb k.gb h.at_,λj g=>by
  rcases k.at_ j g with a|a
  ·exact h.at_ j a
  exact .inr (AJ h.gb.size a)⟩
theorem Ow(a:w.grownBy w' r)(d:n<=w.heap.size)(b:∀k,r=some k->n<=k):Below n w w' :=⟨a.os,a.tape,a.output,a.size,λk c=>a.block k ω (λe=>by have:=b k e.symm;omega)⟩
theorem Ua(h:w.drew.grownBy w' r):w.grownBy w' r:=⟨h.os,h.tape,h.output,h.size,h.block⟩
def X9(k n:Nat):List yZ:=(List.range n).map λi=>Ya (k+i)
def mixed(k i:Nat)(a:List yZ):List qD:=(X9 k i++a.drop i).map Value.string
section
section
variable {P:Program} {e t:TypeId} {i:TypeInfo} {n:Nat}
theorem T5(a:∀w,(isAgg e).run P w=.ok false w)(xs:List Int)(j:Nat)(b:j<xs.length)(w:xV):(part e (xs.map (Value.int .u8)).toArray j).run P w=.ok (.int .u8 (xs.getD j 0)) w:=by
 unfold part;simp[a,Result.andThen,b,List.getD]
theorem X3(c:P.underlying e=some (.int .u8))(d:Nat)(a b:Int)(w:xV):(Op.equalIn (d+1) e (.int .u8 a) (.int .u8 b)).run P w=.ok (a == b) w:=by
 simp[Op.equalIn,GG c,Result.andThen]
theorem Ru(he:∀w,(isAgg e).run P w=.ok false w)(hu:P.underlying e=some (.int .u8))(d:Nat)(xs ys:List Int)(w:xV):∀(js:List Nat),(∀j∈js,j<xs.length/\j<ys.length)->(Op.eqItems (d+1) e 1 (xs.map (Value.int .u8)).toArray (ys.map (Value.int .u8)).toArray js).run P w=.ok (js.all λj=>xs.getD j 0 == ys.getD j 0) w
 | [],_=>by simp[Op.eqItems]
 | j::js,h=>by
  have hj:=h j (EM);have ih:=Ru he hu d xs ys w js (λq hq=>h q (DJ _ hq));simp only[Op.eqItems,IC,JX,T5 he xs j hj.1,T5 he ys j hj.2,X3 hu,IB]
  cases hc:(xs.getD j 0 == ys.getD j 0) with
  | false=>simp only[Bool.not_false,IU,IZ,List.all_cons,hc,Bool.false_and]
  | true=>simp only[Bool.not_true,FA,JA,ih,List.all_cons,hc,GK]
theorem Ww(xs a:List Int)(d:xs.length=a.length):((List.range xs.length).all λj=>xs.getD j 0 == a.getD j 0)=decide (xs=a):=by
 rw[JB];simp only[DH,FP,beq_iff_eq,BG]
 constructor
 ·intro h
  apply KW d
  intro j b c;have:=h j b;simpa[List.getD,b,c] using this
 intro h j b;rw[h]
theorem Ta(k:P.underlying t=some (.array n e))(f:P.info? e=some i)(c:P.cellsOf e=1)(d:∀w,(isAgg e).run P w=.ok false w)(b:P.underlying e=some (.int .u8))(xs a:List Int)(l:xs.length=n)(m:a.length=n)(w:xV):(binOp .neq t (.agg (xs.map (Value.int .u8)).toArray) (.agg (a.map (Value.int .u8)).toArray)).run P w=.ok (yR (!decide (xs=a))) w:=by
 have h:=run_equalIn_array (w:=w) 9999 (xs.map (Value.int .u8)).toArray (a.map (Value.int .u8)).toArray k f;rw[c,<-l,Ru d b 9998 xs a w (List.range xs.length) (λj g=>by have:=FP.1 g;omega),Ww xs a ω]at h;simp only[binOp];simp[Op.equal,Op.maxDepth,h,Result.andThen]
end
end
theorem Xl:(prog.info? 5).map (λi=>(i.zero,i.size,i.bytes))=some (some (.int .u8 0),1,1):=κ
def Pm:yZ:=strOfNums (List.replicate 64 0)
theorem Wm(w:xV):Calls prog 53 #[] w λe w'=>e=yT (yQ Pm)/\yX w w':=by
 go_enter func53,ntmps53;go_wp2_with (at_make;refine py rfl _ _ 24 rfl 5 _ 1 1 underlying24 Xl 64 rfl rfl ω ω ?_;intro f a c h;rw[Vf _ rfl]at a;have g:=ES (P:=prog) f 24 5 underlying24 underlying5 w.heap.size 0 64 64 (List.replicate 64 0) rfl (λi b=>by rw[BK];have d:=a.cell i (.int .u8 0) (by rw[EN,AI b]);rw[d,BF,EN,AI b];rfl) 9 underlying9;clear a);go_ret;exact⟨rfl,c⟩
theorem Yc(n:Nat)(w:xV)(K:8<=n)(L:n<=200):Calls prog 23 #[Z (n:Int)] w λe w'=>∃g c,e=yT (LM (zY g 0) n c none 0 0)/\w.heap.size<=g/\Row w' g ((List.replicate n Pm).map Value.string)/\yX w w':=by
 have H:(8:Int)<=(n:Int):=ω
 have I:(n:Int)<=200:=ω
 obtain⟨z,a,b,c,d⟩:=O5 ut;have f:=Y (AG a (AG b (AG c d)));clear a b c d;go_enter func23,ntmps23;go_wp2;go_loopw [4] (λi wr=>∃(k:Nat) (v:qD),k<=n/\i=Z k/\Dsk w wr w.heap.size (w.heap.size+1) (w.heap.size+1+1) 9 147 v (yI none 0 0) (List.replicate k Pm) []) (λi _=>n-(intOf i).toNat)
 case atStart=>exact⟨0,_,AL _,rfl,Dsk.start _ _ _ _ _⟩
 case round =>
  obtain⟨k,v,M,rfl,a⟩:=hrel
  by_cases J:k<n
  ·have c:=Y a
   have A:=a.d0;have B:=a.fd0;clear a;go_wp2_with fail
   go_region_law (first|(refine step_append_lies _ ρ _ _ _ ρ (w.heap.size+1+1) 9 z (yQ empty) 1 16 underlying27 f.j.1 f.j.2.1 f.j.2.2.1 f.j.2.2.2 rfl ω v (List.replicate k Pm).length ((List.replicate k Pm).map Value.string) ρ s.j (yA h.heap.size 0) 1 1 [yQ Pm] ρ rfl (World.news_of_block (AU h _)) (by intro u o;simp at o;subst o;rfl) ω (by rw[DU];unfold maxLen;omega) (by rw[DU];omega) ξ (h.heap.size+1) σ ?_;intro g b N j i m E;obtain⟨C,D⟩:=l.j.V i;have y:=Y j;have x:=Y i;have t:=Y m;clear j i m)|(refine LI ρ 53 #[] γ (Wm _) ?_;rintro e h ⟨rfl,d⟩;refine⟨_,rfl,?_⟩;have p:=(c.j.drew.I d).d0;have q:=(c.j.drew.I d).fd0;have F:=(c.j.drew.I d).sz;have G:w.heap.size+1<h.heap.size:=ω;have s:=Y ((c.j.drew.I d).own.alloc (.cells #[yQ Pm] 9));have l:=Y ((c.j.drew.I d).alloc (.cells #[yQ Pm] 9))))
   all_goals
    have i:=l.j.push y.j x.j t.j σ;rw[DU,show List.replicate k Pm++[Pm]=List.replicate (k+1) Pm by rw[LA]]at i;have j:=Y i;clear i;go_wp2;go_roundw
    case rel=>exact⟨k+1,_,ω,ν,j.j⟩
    case measure=>simp[intOf];omega
  have i:k=n:=ω
  subst i;have c:=MC a.own;rw[DU]at c
  obtain⟨g,b,rfl,j,l,d⟩:∃g b,v=yI (zY g 0) k b/\w.heap.size+1+1<=g/\g<wr.heap.size/\Row wr g ((List.replicate k Pm).map Value.string):=by
   rcases c with h|h
   ·omega
   exact h
  clear c;have c:=Y a.bel;have h:=Y d;clear d;have A:=a.d0;have B:=a.d1;have p:=a.r0;have q:=a.r1;have C:=a.fr0;have D:=a.fr1;clear a;go_wp2;refine AE (v:=LM (zY g 0) k b none 0 0) (by simp[results,results23,go_sem,p,q]) rfl ⟨g,b,rfl,ω,?_,?_⟩
  ·exact(h.j.other _ (by show w.heap.size≠g;omega) _).other _ (by show w.heap.size≠g;omega) _
  exact(c.j.setCell (AA _) _).setCell (AA _) _
end
section
open Tryz
abbrev Yi(m:Nat):List qD:=List.replicate m (yI none 0 0)
end
end Go.Proofs.YtkdedmclofhndaaGreatDoor
namespace Go.Proofs.YtkdedmclofhndaaGreatDoor.nw
open _root_.ByteArray(empty)
open _root_.Go.Proofs.Tryz
open Go.RowKit
variable {w:xV}
theorem new_s_no(n:Int)(w:xV)(h:¬(8<=n/\n<=200)):Calls prog 23 #[Z n] w λe a=>e=yT (LM none 0 0 none 0 0)/\yX w a:=by
 by_cases b:8<=n
 ·have a:200<n:=ω
  go_enter func23,ntmps23;go_wp2;exact AE (v:=LM none 0 0 none 0 0) (by simp[results,results23,go_sem]) rfl ⟨rfl,Oq _ _⟩
 go_enter func23,ntmps23
 go_wp2;exact AE (v:=LM none 0 0 none 0 0) (by simp[results,results23,go_sem]) rfl ⟨rfl,Oq _ _⟩
theorem f16{g:Nat}{a b c d e f i j k l m n o p q r:qD}(h:Row w g [a,b,c,d,e,f,i,j,k,l,m,n,o,p,q,r]):w.frozen? (yA g 0)=false/\w.frozen? (yA g 1)=false/\w.frozen? (yA g 2)=false/\w.frozen? (yA g 3)=false/\w.frozen? (yA g 4)=false/\w.frozen? (yA g 5)=false/\w.frozen? (yA g 6)=false/\w.frozen? (yA g 7)=false/\w.frozen? (yA g 8)=false/\w.frozen? (yA g 9)=false/\w.frozen? (yA g 10)=false/\w.frozen? (yA g 11)=false/\w.frozen? (yA g 12)=false/\w.frozen? (yA g 13)=false/\w.frozen? (yA g 14)=false/\w.frozen? (yA g 15)=false :=⟨h.A 0,h.A 1,h.A 2,h.A 3,h.A 4,h.A 5,h.A 6,h.A 7,h.A 8,h.A 9,h.A 10,h.A 11,h.A 12,h.A 13,h.A 14,h.A 15⟩
def newSS(n:Int):List yZ:=if 8<=n/\n<=200 then List.replicate n.toNat Pm else []
theorem new_s_any(n:Int)(w:xV):Calls prog 23 #[Z n] w λe b=>∃a c d f,e=yT (LM a (newSS n).length c d 0 f)/\OwnS b a ((newSS n).map Value.string)/\(∀g,blk a (newSS n).length=some g->w.heap.size<=g)/\yX w b:=by
 by_cases h:8<=n/\n<=200
 ·obtain⟨m,rfl⟩:∃m:Nat,n=(m:Int):=⟨n.toNat,ω⟩
  have d:newSS (m:Int)=List.replicate m Pm:=by simp[newSS,h]
  rw[d];refine(Yc m w ω ω).J ?_;rintro e b ⟨g,c,rfl,j,k,f⟩
  exact⟨_,c,none,0,by rw[DU],.inr ⟨g,rfl,k⟩,λi a=>by rw[DU,ML g 0 m ω]at a;cases a;exact j,f⟩
 have d:newSS n=[]:=by simp[newSS,h]
 rw[d];refine(new_s_no n w h).J ?_;rintro e b ⟨rfl,f⟩;exact⟨none,0,none,0,rfl,.inl rfl,(λi a=>by cases a),f⟩
def worldV(f:Int)(a:xA)(n c:Nat)(b:xA)(d:Nat)(p:xA)(m e:Nat):qD:=.agg #[Z f,yI a n c,yI b 0 d,yR false,Z 0,Z 0,Z 0,Z 0,Z 0,Z 0,Z 0,Z 0,Z 0,yI none 0 0,yI p m e,yI none 0 0]
def NwPost(w d:xV)(e:Ending)(j:Int)(b:List yZ)(m:Nat):Prop:=∃a c f h p i,e=yT (worldV j a b.length c f h p m i)/\OwnS d a (b.map Value.string)/\OwnS d p (Yi m)/\(∀g,blk a b.length=some g->w.heap.size<=g/\∀k,blk p m=some k->g≠k)/\(∀g,blk p m=some g->w.heap.size<=g)/\yX w d
theorem OwnS.setw{a:xA}{b:List qD}(h:OwnS w a b)(p:Addr)(d:∀g,a=zY g 0->b≠[]->p.block≠g)(v:qD):OwnS (w.setCell p v) a b:=by
 by_cases c:b=[]
 ·exact .inl c
 obtain⟨g,rfl,e⟩:=h.resolve_left c
 exact .inr ⟨g,rfl,e.other p (d g rfl c) v⟩
theorem row_atw{A:Array qD}{t:TypeId}{g:Nat}(a:w.heap.size=g):Row (w.alloc (.cells A t)) g A.toList:=by subst a;exact LS w A t
theorem nw_s_yes(n d:Int)(w:xV)(q:8<=n/\n<=200)(P:1<=d/\d<=8):Calls prog 9 #[Z n,Z d] w λe a=>NwPost w a e d (newSS n) 1:=by
 have N:decide (1<=d/\d<=8)=true:=AM P;have hd:decide (8<=n/\n<=200)=true:=AM q;obtain⟨m,h⟩:∃m:Nat,(newSS n).length=m:=⟨_,rfl⟩;have Q:m≠0:=by rw[<-h];unfold newSS;rw[AI q];simp;omega
 have cF:¬(m:Int)=0:=ω
 have f:=Y h;go_enter func9,ntmps9
 go_wp2_with (first|(go_at_call 23;refine(new_s_any n _).J ?_;rintro e r ⟨a,c,i,p,rfl,k,g,b⟩;rw[h]at g⊢;have l:=Y k;have j:=Y g;have J:=Y (((AB w.heap.size w).alloc (AA _) _).E (b.J σ));have R:=(LS w _ _).I b;obtain⟨z,A,B,C,D,E,F,G,H,I,s,t,u,v,x,y,L⟩:=c16 R;obtain⟨bH,bI,bJ,bP,bQ,bR,bT,bU,bV,bW,S,T,U,V,W,X⟩:=f16 R;clear R;clear b k g)|(go_at_call 24;refine(QH _ _).J ?_;rw[N];rintro e K ⟨rfl,o⟩;rw[o];clear o K))
 have M:=l.j.lt m (λb=>ir (by rw[f.j];exact b))
 have K:∀g,a=zY g 0->(newSS n).map Value.string≠[]->w.heap.size<g:=λg b k=>by
  have:=j.j g (by subst b;exact ML _ _ _ Q);simp at this;omega
 refine AE (v:=worldV d a m c i p (zY (r.heap.size+1) 0) 1 1) (by simp[results,results9,go_sem,worldV,L,z,A,B,C,D,E,F,G,H,I,s,t,u,v,x,y]) rfl ⟨a,c,i,p,_,1,by rw[f.j],?_,?_,?_,?_,?_⟩
 ·refine OwnS.I ?_ ((AB _ _).alloc (AA _) _);refine OwnS.I ?_ ((AB _ _).alloc (AA _) _)
  iterate 16(refine OwnS.setw ?_ _ (λg b k=>by have:=K g b k;show w.heap.size≠g;omega) _)
  exact l.j
 ·exact .inr ⟨r.heap.size+1,rfl,row_atw σ⟩
 ·intro g b
  rw[f.j]at b;have O:=j.j g b;have R:=M g b;simp at O
  exact⟨ω,λk o=>by rw[ML _ _ _ ω]at o;cases o;omega⟩
 ·intro g b
  rw[ML _ _ _ ω]at b;cases b;omega
 refine Below.alloc ?_ τ _;refine Below.alloc ?_ τ _
 iterate 16(refine GR ?_ (by show w.heap.size<=w.heap.size;omega) _)
 exact J.j
end Go.Proofs.YtkdedmclofhndaaGreatDoor.nw
namespace Go.Proofs.YtkdedmclofhndaaGreatDoor
open _root_.ByteArray(empty)
section
open Tryz
open Go.RowKit Go.Sort
variable {aA:yZ}{rs:List (yZ×yZ)}
def Pe(rs:List (yZ×yZ))(aA:yZ):Option yZ:=if LX rs=true then (rs.find? (λx=>decide (x.1=aA))).map (·.2) else none
theorem V4(rs:List (yZ×yZ))(aA:yZ)(k:Nat)(b:k<rs.length)(h:∀t,t<k->ME rs t≠aA)(a:ME rs k=aA):rs.find? (λx=>decide (x.1=aA))=some (rs.getD k (empty,empty)):=by
 rw[List.find?_eq_some_iff_getElem];refine⟨by unfold ME at a;simpa using a,k,b,by simp[List.getD,b],λj c=>?_⟩;have:=h j c;unfold ME at this;simp only[List.getD,AO (show j<rs.length by omega),GC]at this;simpa using this
theorem Ug(rs:List (yZ×yZ))(aA:yZ)(h:∀t,t<rs.length->ME rs t≠aA):rs.find? (λx=>decide (x.1=aA))=none:=by
 rw[List.find?_eq_none];intro x b;obtain⟨t,a,rfl⟩:=List.mem_iff_getElem.1 b;have:=h t a;unfold ME at this;simp only[List.getD,AO a,GC]at this;simpa using this
theorem Tx(h:LX rs=false):Pe rs aA=none:=by unfold Pe;rw[AF (by simp[h])]
theorem Sx{k:Nat}{b c:yZ}(d:LX rs=true)(a:(b,c)=rs.getD k (empty,empty))(f:k<rs.length)(h:∀t,t<k->ME rs t≠aA)(e:b=aA):Pe rs aA=some c:=by
 unfold Pe;rw[AI d,V4 rs aA k f h (by unfold ME;rw[<-a];exact e),<-a];rfl
theorem Sg(h:∀t,t<rs.length->ME rs t≠aA):Pe rs aA=none:=by
 unfold Pe
 split
 ·rw[Ug rs aA h];rfl
 rfl
theorem X4(a:xA)(rs:List (yZ×yZ))(c:Nat)(aA:yZ)(w:xV)(h:Prs w a rs)(n:rs.length<=1048576)(r:∀x∈rs,x.1.size<=1048576/\x.2.size<=1048576):Calls prog 72 #[.agg #[yI a rs.length c],yQ aA] w λe b=>e=yT (.tuple #[yQ ((Pe rs aA).getD ⟨#[]⟩),yR (Pe rs aA).isSome])/\yX w b:=by
 have i:∀o,yX w (w.alloc o):=λo=>(AB _ _).alloc (AA _) _
 obtain⟨R,g⟩:∃R,Hid (R=Pe rs aA):=⟨_,Y rfl⟩;rw[<-g.j]
 cases hok:LX rs with
 | false =>
  rw[Tx hok]at g;go_enter func72,ntmps72;go_wp2_with (go_at_call 114;refine(ei a rs c _ (h.I (i _)) n r).J ?_;rw[hok];rintro e u ⟨rfl,b⟩);go_ret2;exact⟨by rw[g.j];rfl,(i _).E (b.J σ)⟩
 | true =>
  have x:=Y (Wc hok aA);go_enter func72,ntmps72;go_wp2_with (go_at_call 114;refine(ei a rs c _ (h.I (i _)) n r).J ?_;rw[hok];rintro e u ⟨rfl,b⟩;have s:u.cell? (yA w.heap.size 0)=some (yI a rs.length c):=(b.cell (p:=(yA w.heap.size 0)) σ).E γ;have k:=Y ((i _).E (b.J σ));have y:=b.size;clear b);refine(Tm a rs c aA _ (h.I k.j) n x).J ?_;rintro e z ⟨p,D,f,m,rfl,b⟩;have E:z.cell? (yA w.heap.size 0)=some (yI a rs.length c):=(b.cell (p:=(yA w.heap.size 0)) (by have:=y;simp at this;show w.heap.size<_;omega)).E s;have l:=Y (k.j.E (b.J k.j.size))
  have q:Hid (∀t,t<p->ME rs t≠aA):=λt j d=>by have:=f t j;rw[(O9 _ _).2 d]at this;omega
  have v:=Y m;clear f m s b
  by_cases f:p<rs.length/\Ou (ME rs p) aA=0
  ·rw[AM f]
   obtain⟨b,o,s,F,rfl,A,B,m⟩:=(h.I l.j).at f.1;have C:(p:Int)<(rs.length:Int):=ω
   have d:s=aA:=by have:=(O9 _ _).1 f.2;unfold ME at this;rw[<-m.j]at this;exact this
   rw[Sx hok m.j f.1 q.j d]at g;clear f d;go_wp2;go_ret2;exact⟨by rw[g.j];rfl,l.j⟩
  rw[AH f]
  rw[Sg (λt j d=>?miss)]at g
  case miss =>
   rcases FX t p with b|b
   ·exact q.j t b d
   have s:=v.j p (AA _) ω
   rcases JG b with m|m
   ·subst m;exact f ⟨j,(O9 _ _).2 d⟩
   have:=Wy hok m j
   rw[d]at this;omega
  clear f;go_wp2;go_ret2;exact⟨by rw[g.j];rfl,l.j⟩
end
section
open Tryz
open Go.RowKit Go.Sort
theorem X6(a:xA)(d:List (yZ×yZ))(c:Nat)(f:yZ)(w:xV)(h:Prs w a d)(u:d.length<=1048576)(v:∀x∈d,x.1.size<=1048576/\x.2.size<=1048576):Calls prog 55 #[.agg #[yI a d.length c],yQ f] w λe b=>e=yT (.tuple #[yQ ((Pe d f).getD ⟨#[]⟩),yR (Pe d f).isSome])/\yX w b:=by
 have l:∀o,yX w (w.alloc o):=λo=>(AB _ _).alloc (AA _) _
 obtain⟨R,g⟩:∃R,Hid (R=Pe d f):=⟨_,Y rfl⟩;rw[<-g.j]
 cases hok:LX d with
 | false =>
  rw[Tx hok]at g;go_enter func55,ntmps55;go_wp2_with (go_at_call 82;refine(ew a d c _ (h.I (l _)) u v).J ?_;rw[hok];rintro e p ⟨rfl,b⟩);go_ret2;exact⟨by rw[g.j];rfl,(l _).E (b.J σ)⟩
 | true =>
  go_enter func55,ntmps55;go_wp2_with (go_at_call 82;refine(ew a d c _ (h.I (l _)) u v).J ?_;rw[hok];rintro e p ⟨rfl,b⟩;have j:=Y b;clear b);have B:w.heap.size<p.heap.size:=by have:=j.j.size;simp at this;omega
  go_loopw [6] (λi wr=>∃k:Nat,k<=d.length/\i=Z (k:Int)/\Hid (∀t,t<k->ME d t≠f)/\yX p wr) (λi _=>d.length-(intOf i).toNat)
  case atStart=>exact⟨0,AL _,rfl,λt x=>ω,AB _ _⟩
  case round =>
   obtain⟨k,G,rfl,m,b⟩:=hrel;have H:wr.cell? (yA w.heap.size 0)=some (yI a d.length c):=(b.cell (p:=(yA w.heap.size 0)) B).E ((j.j.cell (p:=(yA w.heap.size 0)) σ).E γ);have n:=Y ((l _).E ((j.j.E (b.J j.j.size)).J σ));have A:=Y b;clear b
   by_cases r:k<d.length
   ·obtain⟨b,o,y,I,rfl,D,E,q⟩:=(h.I n.j).at r
    have C:(k:Int)<(d.length:Int):=ω
    by_cases i:y=f
    ·rw[Sx hok q.j r m.j i]at g
     subst i;go_wp2;go_ret2;exact⟨by rw[g.j];rfl,n.j⟩
    have F:(y.toList == f.toList)=false:=by rw[BI];intro s;rw[CZ,CZ]at s;exact i (EQ (IE s))
    have z:Hid (ME d k≠f):=by show _≠_;unfold ME;rw[<-q.j];exact i
    clear i;go_wp2;refine⟨⟨k+1,ω,ν,λt x=>?_,A.j⟩,by simp[intOf];omega⟩;rcases FX t k with i|i
    ·exact m.j t i
    have:t=k:=ω
    subst this;exact z.j
   rw[Sg (λt x=>m.j t ω)]at g
   go_wp2;go_ret2;exact⟨by rw[g.j];rfl,n.j⟩
