import Derived.Test.YtjdmogljfdffeaaGreatDoorPrG35
import Derived.Shelf.Small.Strs
import Derived.Sort.Walk0
set_option maxHeartbeats 16000000
set_option maxRecDepth 8000
set_option linter.all false
namespace Go.Proofs.YtjdmogljfdffeaaGreatDoor
open _root_.ByteArray(empty)
section
open Tryz
open Go.RowKit
variable {B:Nat}{v0 v1:Value}{w w':World}
def hv(n:Int):Int:=if 8<=n/\n<=200 then (n-2) / 2 else 0
theorem mj(n:Int)(w:World):Calls prog 44 #[.int .i64 n] w λe w'=>e=.returned (.bool (decide (8<=n/\n<=200)))/\w'=w:=by
 go_enter func44,ntmps44
 by_cases a:8<=n<;>by_cases b:n<=200<;>(go_wp2;go_ret;simp[a,b])
theorem ek(n:Int)(w:World):Calls prog 70 #[.int .i64 n] w λe w'=>e=.returned (.int .i64 (hv n))/\w'=w:=by
 by_cases h:8<=n/\n<=200
 ·have a:decide (8<=n/\n<=200)=true:=by simp[h]
  have b:hv n=(n-2) / 2:=by unfold hv;rw[AF h]
  obtain⟨d,f⟩:=h;go_enter func70,ntmps70;go_wp2_with (go_at_call 44;refine(mj _ _).A ?_;rw[a];rintro e c ⟨rfl,rfl⟩);go_ret;refine⟨?_,rfl⟩;rw[b];rfl
 have a:decide (8<=n/\n<=200)=false:=by simpa using h
 have b:hv n=0:=by unfold hv;rw[AG h]
 rw[b];go_enter func70,ntmps70;go_wp2_with (go_at_call 44;refine(mj _ _).A ?_;rw[a];rintro e c ⟨rfl,rfl⟩);go_ret;exact⟨rfl,rfl⟩
theorem XD(n:Int)(w:World):Calls prog 22 #[.int .i64 n] w λe w'=>e=.returned (.int .i64 (hv n))/\w'=w:=by
 by_cases b:8<=n
 ·by_cases c:n<=200
  ·have a:hv n=(n-2) / 2:=by unfold hv;rw[AF ⟨b,c⟩]
   go_enter func22,ntmps22;go_wp2;go_ret;refine⟨?_,rfl⟩;rw[a];rfl
  have a:hv n=0:=by unfold hv;rw[AG (λx=>c x.2)]
  rw[a];go_enter func22,ntmps22;go_wp2;go_ret;exact⟨rfl,rfl⟩
 have a:hv n=0:=by unfold hv;rw[AG (λx=>b x.1)]
 rw[a];go_enter func22,ntmps22;go_wp2;go_ret;exact⟨rfl,rfl⟩
def MM(W S L T H F R U O:Int)(a:Option Addr)(n c:Nat):Value:=.agg #[.int .i64 W,.int .i64 S,.int .i64 L,.int .i64 T,.int .i64 H,.int .i64 F,.int .i64 R,.int .i64 U,.int .i64 O,.slice a n c]
structure Cx(w:World)(B:Nat)(v0 v1:Value):Prop where
 lt:B<w.heap.size
 c0:w.cell? ⟨B,0,none⟩=some v0
 c1:w.cell? ⟨B,1,none⟩=some v1
theorem Cx.z(h:Cx w B v0 v1)(a:Below w.heap.size w w'):Cx w' B v0 v1 :=⟨AD h.lt a.size,(a.cell (p:=⟨_,0,none⟩) h.lt).j h.c0,(a.cell (p:=⟨_,1,none⟩) h.lt).j h.c1⟩
theorem Cx.I{r:Option Nat}(h:Cx w B v0 v1)(a:w.grownBy w' r)(b:some B≠r):Cx w' B v0 v1 :=⟨AD h.lt a.size,(CT (a:=⟨B,0,none⟩) (a.block B h.lt b)).j h.c0,(CT (a:=⟨B,1,none⟩) (a.block B h.lt b)).j h.c1⟩
theorem Cx.drew(h:Cx w B v0 v1):Cx w.drew B v0 v1:=⟨h.lt,h.c0,h.c1⟩
theorem Cx.new(w:World)(v0 v1:Value)(t:TypeId):Cx (w.alloc (.cells #[v0,v1] t)) w.heap.size v0 v1 :=⟨σ,by rw[EC _ _ _ _ rfl];rfl,by rw[EC _ _ _ _ rfl];rfl⟩
theorem MF(w:World)(o:Obj):Below w.heap.size w (w.alloc o):=KW _ _
theorem Below.then{a b c:World}(h:Below B a b)(d:B<=a.heap.size)(k:Below b.heap.size b c):Below B a c:=h.j (k.A (AL d h.size))
def n7(k:Nat):List Int:=if h:k=0 then [] else n7 (k / 10)++[48+((k % 10:Nat):Int)]
def Cm(k:Nat):ByteArray:=⟨#[109]⟩++strOfNums (n7 k)
abbrev OpT:=Bool×Int×ByteArray
def Ops(w:World)(a:Option Addr)(c:List (Bool×Int×ByteArray)):Prop :=c=[]\/∃b o,a=some ⟨b,o,none⟩/\b<w.heap.size/\∀i,i<c.length->w.cell? ⟨b,o+i*3,none⟩=some (.bool (c.getD i (false,0,empty)).1)/\w.cell? ⟨b,o+i*3+1,none⟩=some (.int .i64 (c.getD i (false,0,empty)).2.1)/\w.cell? ⟨b,o+i*3+2,none⟩=some (.string (c.getD i (false,0,empty)).2.2)
theorem Ops.z{a:Option Addr}{g:List (Bool×Int×ByteArray)}(h:Ops w a g)(d:Below w.heap.size w w'):Ops w' a g:=by
 rcases h with h|⟨b,o,j,c,e⟩
 ·exact .inl h
 exact .inr ⟨b,o,j,AD c d.size,λi f=>⟨(d.cell (p:=⟨b,o+i*3,none⟩) c).j (e i f).1,(d.cell (p:=⟨b,o+i*3+1,none⟩) c).j (e i f).2.1,(d.cell (p:=⟨b,o+i*3+2,none⟩) c).j (e i f).2.2⟩⟩
theorem Ops.at{a:Option Addr}{e:List (Bool×Int×ByteArray)}(h:Ops w a e){k:Nat}(c:k<e.length):∃b o d f g,a=some ⟨b,o,none⟩/\w.cell? ⟨b,o+k*3,none⟩=some (.bool d)/\w.cell? ⟨b,o+k*3+1,none⟩=some (.int .i64 f)/\w.cell? ⟨b,o+k*3+2,none⟩=some (.string g)/\Hid ((d,f,g)=e.getD k (false,0,empty)):=by
 rcases h with h|⟨b,o,f,g,d⟩
 ·subst h;simp at c
 exact⟨b,o,_,_,_,f,(d k c).1,(d k c).2.1,(d k c).2.2,Z rfl⟩
def NJ(a:List (Bool×Int×ByteArray)):List Value:=a.flatMap λx=>[.bool x.1,.int .i64 x.2.1,.string x.2.2]
theorem iz(a b:List (Bool×Int×ByteArray)):NJ (a++b)=NJ a++NJ b:=by simp[NJ]
theorem mH(a:List (Bool×Int×ByteArray)):(NJ a).length=a.length*3:=by
 induction a with
 | nil=>rfl
 | cons x r b=>simp[NJ]at b⊢;omega
theorem pq:∀(a:List (Bool×Int×ByteArray)) (i:Nat),i<a.length->(NJ a)[i*3]?=some (.bool (a.getD i (false,0,empty)).1)/\(NJ a)[i*3+1]?=some (.int .i64 (a.getD i (false,0,empty)).2.1)/\(NJ a)[i*3+2]?=some (.string (a.getD i (false,0,empty)).2.2)
 | x::r,0,_=>by simp[NJ]
 | x::r,i+1,h=>by
  have b:=pq r i (by simpa using h);have e:NJ (x::r)=.bool x.1::.int .i64 x.2.1::.string x.2.2::NJ r:=by simp[NJ]
  rw[e,show(i+1)*3=i*3+3 by omega];simpa using b
theorem Row.ops{g:Nat}{a:List (Bool×Int×ByteArray)}(h:Row w g (NJ a)):Ops w (some ⟨g,0,none⟩) a :=.inr ⟨g,0,rfl,h.lt,λi b=>by
  rw[BH]
  exact⟨h.cell _ _ (pq a i b).1,h.cell _ _ (pq a i b).2.1,h.cell _ _ (pq a i b).2.2⟩⟩
end
section
open Tryz
open Go.Shelf
def I4:Go.Shelf.Ren:=⟨fun|106=>229|213=>231|265=>232|n=>n,fun|9=>9|3=>3|n=>n,fun|n=>n⟩
theorem Hw:Go.Proofs.Lays.n106 prog I4:={
 mixed:=κ
 f106:=func229.j (BY some κ)
 f213:=func231.j (BY some κ)
 f265:=func232.j (BY some κ)
 t3:=underlying3
 a3:=isAgg3
 z3:=sizeOf3
 v3:=zeroValue3
 t9:=underlying9
 a9:=isAgg9
 z9:=sizeOf9
 v9:=zeroValue9 }
def LY(a b:ByteArray):Int:=Lib.compareBytes a.data.toList b.data.toList
open Go.RowKit in
theorem zD(a b:ByteArray)(w:World):Calls prog 229 #[.string a,.string b] w λe c=>e=.returned (.int .i64 (LY a b))/\c=w:=Any.strings_Compare Hw a b w
end
section
open Tryz
open Go.RowKit Go.Sort
theorem zo(a b:UInt8)(c:¬a<b)(d:¬b<a):a=b:=by
 apply UInt8.toNat_inj.1
 rw[KM]at c d;omega
theorem xe:∀(x y:List UInt8),Lib.compareBytes x y<0<->x<y
 | [],[]=>by simp[Lib.compareBytes]
 | [],b::l2=>by simp[Lib.compareBytes]
 | a::l,[]=>by simp[Lib.compareBytes]
 | a::l,b::l2=>by
  rw[List.cons_lt_cons_iff];unfold Lib.compareBytes
  split
  ·rename_i h;simp[h]
  rename_i h
  split
  ·rename_i h2
   have hne:¬a=b:=λe=>by subst e;exact h h2
   simp[h,hne]
  rename_i h2
  have e:=zo a b h h2;subst e;rw[xe l l2];simp[h]
theorem pQ:∀(x y:List UInt8),Lib.compareBytes x y=0<->x=y
 | [],[]=>by simp[Lib.compareBytes]
 | [],b::l2=>by simp[Lib.compareBytes]
 | a::l,[]=>by simp[Lib.compareBytes]
 | a::l,b::l2=>by
  unfold Lib.compareBytes
  split
  ·rename_i h
   have hne:¬a=b:=λe=>by subst e;rw[KM]at h;omega
   simp[hne]
  rename_i h
  split
  ·rename_i h2
   have hne:¬a=b:=λe=>by subst e;exact h h2
   simp[hne]
  rename_i h2
  have e:=zo a b h h2;subst e;rw[pQ l l2];simp
theorem XV(a b:ByteArray):LY a b<0<->Op.bytesLess a.toList b.toList=true:=by
 unfold LY;rw[xe,bytesLess_eq,BC,DF,DF]
theorem dr(a b:ByteArray):LY a b=0<->a=b:=by
 unfold LY;rw[pQ]
 constructor
 ·intro h;exact EP (IU h)
 intro h;rw[h]
theorem qm(k v a:ByteArray)(w:World):Calls prog 228 #[.agg #[.string k,.string v],.string a] w λe b=>e=.returned (.int .i64 (LY k a))/\Below w.heap.size w b:=by
 go_enter func228,ntmps228;go_wp2_with (go_at_call 229;refine(zD k a _).A ?_;rintro e b ⟨rfl,rfl⟩);go_ret;exact⟨rfl,KW _ _⟩
def NM(a:List (ByteArray×ByteArray))(t:Nat):ByteArray:=(a.getD t (empty,empty)).1
theorem zI(a:Option Addr)(d:List (ByteArray×ByteArray))(c:Nat)(f:ByteArray)(w:World)(h:Prs w a d)(P:d.length<=1048576)(z:Hid (∀t m,t<=m->m<d.length->LY (NM d m) f<0->LY (NM d t) f<0)):Calls prog 227 #[.slice a d.length c,.string f,.func (.func 228) #[] #[]] w λe b =>
   ∃p:Nat,p<=d.length/\(∀t,t<p->LY (NM d t) f<0)/\(∀t,p<=t->t<d.length->0<=LY (NM d t) f)/\e=.returned (.tuple #[.int .i64 (p:Int),.bool (decide (p<d.length/\LY (NM d p) f=0))])/\Below w.heap.size w b:=by
 go_enter func227,ntmps227;go_wp2_with fail;go_loopw [9,10,11] (λi j _ wr=>∃p q:Nat,p<=q/\q<=d.length/\i=.int .i64 (p:Int)/\j=.int .i64 (q:Int)/\Hid (∀t,t<p->LY (NM d t) f<0)/\Hid (∀t,q<=t->t<d.length->0<=LY (NM d t) f)/\Below w.heap.size w wr) (λi j _ _=>(intOf j).toNat-(intOf i).toNat)
 case atStart=>exact⟨0,d.length,AO _,Y _,rfl,rfl,λt G=>ω,λt A B=>ω,AC _ _⟩
 case round =>
  obtain⟨p,q,O,y,rfl,rfl,l,r,g⟩:=hrel
  by_cases K:p<q
  ·obtain⟨m,k⟩:∃m:Nat,m=(p+q) / 2:=⟨_,rfl⟩
   have L:p<=m:=ω
   have M:m<q:=ω
   have N:((p:Int)+(q:Int)) / 2=(m:Int):=ω
   obtain⟨b,o,i,v,rfl,E,F,x⟩:=(h.z g).at (show m<d.length by omega);have n:Hid (i=NM d m):=by show _=_;unfold NM;rw[<-x.l]
   have I:(p:Int)<(q:Int):=ω
   obtain⟨C,j⟩:∃C,Hid (C=LY i f):=⟨_,Z rfl⟩;clear k;have u:=r;have s:=l;clear r l
   by_cases H:C<0
   ·go_wp2_with (go_at_call 228;refine(qm i v f _).A ?_;rw[<-j.l];rintro e D ⟨rfl,k⟩)
    refine⟨⟨m+1,q,ω,y,ν,rfl,λt G=>?_,u.l,g.j (k.A g.size)⟩,by simp[intOf];omega⟩;exact z.l t m ω ω (by rw[<-n.l,<-j.l];exact H)
   go_wp2_with (go_at_call 228;refine(qm i v f _).A ?_;rw[<-j.l];rintro e D ⟨rfl,k⟩)
   refine⟨⟨p,m,ω,ω,rfl,rfl,s.l,λt A B=>Int.not_lt.1 (λG=>?_),g.j (k.A g.size)⟩,by simp[intOf];omega⟩;have:=z.l m t A B G;rw[<-n.l,<-j.l]at this;omega
  have t:p=q:=ω
  subst t;have u:=r;have s:=l;clear r l
  by_cases l:p<d.length
  ·have r:(p:Int)<(d.length:Int):=ω
   obtain⟨b,o,i,v,rfl,E,F,x⟩:=(h.z g).at l;have n:Hid (i=NM d p):=by show _=_;unfold NM;rw[<-x.l]
   obtain⟨C,j⟩:∃C,Hid (C=LY i f):=⟨_,Z rfl⟩;go_wp2_with (go_at_call 228;refine(qm i v f _).A ?_;rw[<-j.l];rintro e D ⟨rfl,k⟩);go_ret2;refine⟨p,y,s.l,u.l,?_,g.j (k.A g.size)⟩;rw[<-n.l,<-j.l];simp[l];rw[IQ];simp
  have r:(d.length:Int)<=(p:Int):=ω
  go_wp2;go_ret2;refine⟨p,y,s.l,u.l,?_,g⟩;simp[l]
end
section
open Tryz
open Go.RowKit Go.Sort
variable {rs:List (ByteArray×ByteArray)}
theorem ij(a b c:ByteArray)(d:LY a b<0)(e:LY b c<0):LY a c<0:=by
 unfold LY at *;rw[xe]at *;exact List.lt_trans d e
theorem vK(h:LV rs=true)(i:Nat)(a:i+1<rs.length):LY (NM rs i) (NM rs (i+1))<0:=by
 have:=(ZT h).2 (i+1) a;unfold PW SD at this;simp only[JW,BE,Bool.or_eq_true,BC]at this;rw[XV];rcases this.2 with h|h
 ·omega
 exact h
theorem asc(h:LV rs=true)(t:Nat):∀d,t+d+1<rs.length->LY (NM rs t) (NM rs (t+d+1))<0
 | 0,hd=>vK h t hd
 | d+1,hd=>ij _ _ _ (asc h t d ω) (vK h (t+d+1) hd)
theorem Is(h:LV rs=true){t u:Nat}(b:t<u)(a:u<rs.length):LY (NM rs t) (NM rs u)<0:=by
 obtain⟨d,rfl⟩:∃d,u=t+d+1:=⟨u-t-1,ω⟩;exact asc h t d a
theorem pE(a:Option Addr)(rs:List (ByteArray×ByteArray))(c:Nat)(b:ByteArray)(w:World)(h:Prs w a rs)(q:rs.length<=1048576)(l:Hid (∀t m,t<=m->m<rs.length->LY (NM rs m) b<0->LY (NM rs t) b<0)):Calls prog 223 #[.agg #[.string b],.slice a rs.length c] w λe d =>
   ∃p:Nat,p<=rs.length/\(∀t,t<p->LY (NM rs t) b<0)/\(∀t,p<=t->t<rs.length->0<=LY (NM rs t) b)/\e=.returned (.tuple #[.int .i64 (p:Int),.bool (decide (p<rs.length/\LY (NM rs p) b=0))])/\Below w.heap.size w d:=by
 have f:∀o,Below w.heap.size w (w.alloc o):=λo=>KW _ _
 go_enter func223,ntmps223;go_wp2_with fail;refine(zI a rs c b _ (h.z (f _)) q l).A ?_;rintro e o ⟨p,n,g,i,rfl,m⟩;obtain⟨B,d⟩:∃B,Hid (B=decide (p<rs.length/\LY (NM rs p) b=0)):=⟨_,Z rfl⟩;rw[<-d.l];have j:=Z g;have k:=Z i;clear g i;go_wp2;go_ret2;refine⟨p,n,j.l,k.l,by rw[<-d.l];rfl,(f _).j (m.A σ)⟩
end
section
open Tryz
open Go.RowKit Go.Sort
theorem tV:∀(x y:List UInt8),0<Lib.compareBytes x y->Lib.compareBytes y x<0
 | [],[]=>by simp[Lib.compareBytes]
 | [],b::l2=>by simp[Lib.compareBytes]
 | a::l,[]=>by simp[Lib.compareBytes]
 | a::l,b::l2=>by
  unfold Lib.compareBytes;intro h
  by_cases h1:a<b
  ·simp[h1]at h
  by_cases h2:b<a
  ·simp[h2]
  simp only[h1,h2,IJ]at h⊢
  exact tV l l2 h
theorem ka{a b:ByteArray}(h:0<LY a b):SD b a=true:=by
 have:=tV _ _ h;exact(XV b a).1 this
theorem ZQ(a:ByteArray):LY a a=0:=(dr a a).2 rfl
theorem uD{a b:ByteArray}(h:LY a b<0):SD b a=false:=by
 cases hk:SD b a with
 | false=>rfl
 | true =>
  have c:LY b a<0:=(XV b a).2 hk;have d:=ij a b a h c;rw[ZQ]at d;omega
theorem ry(a:ByteArray):SD a a=false:=by
 cases hk:SD a a with
 | false=>rfl
 | true =>
  have b:LY a a<0:=(XV a a).2 hk;rw[ZQ]at b;omega
def UP(b c:ByteArray)(a:Bool×List Pr)(p:Pr):Bool×List Pr :=if p.1=b then (if (!a.1 && SD b p.1)=true then (true,a.2++[(b,c)]) else a)
 else (if (!a.1 && SD b p.1)=true then (true,a.2++[(b,c)]++[p]) else (a.1,a.2++[p]))
def chW(c:Ch)(a:List Pr):Bool×List Pr:=a.foldl (UP c.1 c.2.1) (c.2.2,[])
def ON(c:Ch)(a:List Pr):List Pr:=if (chW c a).1=true then (chW c a).2 else (chW c a).2++[(c.1,c.2.1)]
theorem qu(c:Ch)(a:List Pr)(p:Pr):chW c (a++[p])=UP c.1 c.2.1 (chW c a) p:=by unfold chW;rw[IF];rfl
def OK(a:List Pr):Prop:=a.Pairwise λx y=>LY x.1 y.1<0
theorem qW(aA aB:ByteArray):∀(l:List Pr) (g:Bool) (out:List Pr),(∀x∈l,LY x.1 aA<0)->l.foldl (UP aA aB) (g,out)=(g,out++l)
 | [],g,out,_=>σ
 | x::l,g,out,h=>by
  have hx:=h x EH
  have hne:¬x.1=aA:=λe=>by rw[e,ZQ]at hx;omega
  rw[IR,UP,AG hne,uD hx,IH,AG σ];rw[qW aA aB l g (out++[x]) (λy hy=>h y (DS _ hy)),BN];rfl
theorem qo(aA aB:ByteArray):∀(l:List Pr) (out:List Pr),(∀x∈l,0<LY x.1 aA)->l.foldl (UP aA aB) (true,out)=(true,out++l)
 | [],out,_=>σ
 | x::l,out,h=>by
  have hx:=h x EH
  have hne:¬x.1=aA:=λe=>by rw[e,ZQ]at hx;omega
  rw[IR,UP,AG hne,AG σ];rw[qo aA aB l (out++[x]) (λy hy=>h y (DS _ hy)),BN];rfl
def VL(c:Ch)(a r:List Pr):List Pr:=a++(if c.2.2=true then [] else [(c.1,c.2.1)])++r
theorem cq(c:Ch)(a m r:List Pr)(k:∀x∈a,LY x.1 c.1<0)(n:m=[]\/∃v,m=[(c.1,v)])(f:∀x∈r,0<LY x.1 c.1):ON c (a++m++r)=VL c a r:=by
 obtain⟨b,d,g⟩:=c
 have j:chW (b,d,g) (a++m++r)=r.foldl (UP b d) (g,a):=by
  unfold chW;rw[BN,IF,qW b d a g [] k,DQ,IF];rcases n with rfl|⟨v,rfl⟩
  ·rfl
  rw[IR,List.foldl_nil,UP,AF rfl,ry,IH,AG σ]
 unfold ON VL;rw[j]
 cases g with
 | true=>rw[qo b d r a f];simp
 | false =>
  cases r with
  | nil=>simp
  | cons x l =>
   have h:=f x EH
   have i:¬x.1=b:=λe=>by rw[e,ZQ]at h;omega
   rw[IR,UP,AG i];simp only[Bool.not_false,IB];rw[ka h,AF rfl,qo b d l _ (λy e=>f y (DS _ e))];simp
theorem ko(c:Ch)(a m r:List Pr)(h:OK (a++m++r))(l:∀x∈a,LY x.1 c.1<0)(n:∀x∈r,0<LY x.1 c.1):OK (VL c a r):=by
 unfold OK VL at *;rw[GQ,GQ]at h;obtain⟨⟨f,o,p⟩,g,k⟩:=h
 have e:∀x∈a,∀y∈r,LY x.1 y.1<0:=λx b y d=>k x (List.mem_append_left _ b) y d
 have j:∀y∈r,LY c.1 y.1<0:=λy d=>(XV _ _).2 (ka (n y d))
 by_cases i:c.2.2=true
 ·rw[AF i,EA,GQ]
  exact⟨f,g,e⟩
 rw[AG i,GQ,GQ]
 refine⟨⟨f,σ,λx b y d=>?_⟩,g,λx b y d=>?_⟩
 ·simp at d;subst d;exact l x b
 rw[BS]at b
 rcases b with b|b
 ·exact e x b y d
 simp at b;subst b;exact j y d
theorem VK{α:Type}(a:List α)(i:Nat)(h:i<a.length){d:α}:a.getD i d=a[i]:=by simp[List.getD,h]
theorem vG{b:List Pr}(h:LV b=true):OK b:=by
 unfold OK;rw[GE];intro i j d a c;have:=Is h c a;unfold NM at this
 rwa [VK _ _ d,VK _ _ a]at this
theorem tQ{a:List Pr}(h:OK a)(c:ByteArray):∀t m,t<=m->m<a.length->LY (NM a m) c<0->LY (NM a t) c<0:=λt m f d b=>by
 rcases JX f with e|e
 ·subst e;exact b
 unfold OK at h
 rw[GE]at h;have:=h t m ω d e;unfold NM at *;rw[VK _ _ d]at b;rw[VK _ _ ω];exact ij _ _ _ this b
theorem nu{a:List Pr}(h:OK a)(c:ByteArray)(p:Nat)(s:p<=a.length)(q:∀t,t<p->LY (NM a t) c<0)(o:∀t,p<=t->t<a.length->0<=LY (NM a t) c)(d:Nat)(f:d=if p<a.length/\LY (NM a p) c=0 then 1 else 0):a=a.take p++(a.drop p).take d++a.drop (p+d)/\(∀x∈a.take p,LY x.1 c<0)/\((a.drop p).take d=[]\/∃v,(a.drop p).take d=[(c,v)])/\(∀x∈a.drop (p+d),0<LY x.1 c):=by
 have r:=h;unfold OK at h;rw[GE]at h;refine⟨?_,?_,?_,?_⟩
 ·rw[BN,<-FO,FN,FN]
 ·intro x l
  obtain⟨i,j,rfl⟩:=FG l;rw[BF]at j;have:=q i ω;unfold NM at this;rw[VK _ _ ω]at this;rw[List.getElem_take];exact this
 ·by_cases b:p<a.length/\LY (NM a p) c=0
  ·rw[AF b]at f
   subst f
   right
   have e:=(dr _ _).1 b.2;unfold NM at e;rw[VK _ _ b.1]at e;refine⟨(a[p]'b.1).2,?_⟩;rw[GN b.1,JS,FQ];exact BY (λk=>[k]) (Prod.ext e rfl)
  rw[AG b]at f
  subst f;exact .inl σ
 intro x l
 obtain⟨i,j,rfl⟩:=FG l;rw[BV]at j;rw[List.getElem_drop];have k:=o (p+d+i) ω ω;unfold NM at k;rw[VK _ _ ω]at k;rcases Int.lt_or_eq_of_le k with g|g
 ·exact g
 exfalso
 have e:=(dr _ _).1 g.symm
 by_cases n:d+i=0
 ·have m:d=0:=ω
  have n:i=0:=ω
  subst n;rw[m]at f
  by_cases b:p<a.length/\LY (NM a p) c=0
  ·rw[AF b]at f;cases f
  refine b ⟨ω,?_⟩
  unfold NM;rw[VK _ _ ω];subst m;exact g.symm
 have m:=h p (p+d+i) ω ω ω
 rw[e]at m;have b:=o p (Y _) ω;unfold NM at b;rw[VK _ _ ω]at b;omega
def ML(a:List Pr)(b:List Ch):List Pr:=b.foldl (λs c=>ON c s) a
theorem db(a:List Pr)(b:List Ch)(c:Ch):ML a (b++[c])=ON c (ML a b):=by unfold ML;rw[IF];rfl
def OE(a:List Pr)(b:List Ch):Int:=if (LV a && NL b)=true then (if (ML a b).length<=100 then 0 else 2) else 1
def OA(a:List Pr)(b:List Ch):List Pr:=if OE a b=0 then ML a b else []
theorem xz(c:Ch):∀(e:List Pr) (k:Nat),k=e.length->(chW c e).2.length<=e.length+(if (chW c e).1=true/\c.2.2=false then 1 else 0)/\(c.2.2=true->(chW c e).1=true)
 | e,0,hk=>by rw[AB hk.symm];simp[chW]
 | e,k+1,hk=>by
  obtain⟨b,bs,rfl⟩:∃b bs,e=bs++[b]:=by
   rcases EF e with h|⟨l,a,h⟩
   ·subst h;simp at hk
   exact⟨a,l,by simpa using h⟩
  have f:=xz c bs k (by simp at hk;omega);rw[qu];obtain⟨a,i,g⟩:=c;generalize chW (a,i,g) bs=m at f⊢;obtain⟨d,l⟩:=m;unfold UP;rw[AE,EQ];have h:=ry a
  cases d<;>cases hk2:SD a b.1<;>by_cases j:b.1=a<;>cases g<;>simp[j,hk2,h]at f hk2⊢<;>omega
theorem Ed(c:Ch)(a:List Pr):(ON c a).length<=a.length+1:=by
 have:=(xz c a _ rfl).1;unfold ON
 split
 ·split at this<;>omega
 rename_i h
 rw[AG (λe=>h e.1)]at this;rw[AE];simp;omega
theorem re(rs:List Pr)(b:List Ch):∀k,(ML rs (b.take k)).length<=rs.length+k
 | 0=>by simp[ML]
 | k+1=>by
  have ih:=re rs b k
  by_cases h:k<b.length
  ·rw[AX h,db]
   have:=Ed b[k] (ML rs (b.take k));omega
  rw[AV ω]at ih⊢
  omega
end
section
open Tryz
open Go.RowKit Go.Sort
theorem zu{a b:ByteArray}(h:LY a b<0):0<LY b a:=by
 rcases KA (LY b a) 0 with c|c|c
 ·have:=ij a b a h c
  rw[ZQ]at this;omega
 ·have:=(dr _ _).1 c
  subst this;rw[ZQ]at h;omega
 exact c
theorem ah(a:List Pr):LV a=true<->a.length<=100/\(∀x∈a,OU x.1=true/\NY x.2=true)/\OK a:=by
 constructor
 ·intro h
  obtain⟨b,c⟩:=ZT h;refine⟨b,λx e=>?_,vG h⟩;obtain⟨i,d,rfl⟩:=FG e;have:=c i d;unfold PW at this;rw[VK _ _ d]at this;simp only[BE]at this;exact this.1
 rintro⟨b,c,d⟩
 refine vk b (λk e=>?_);unfold PW;have g:=c _ (JH e);rw[VK _ _ e,g.1,g.2]
 by_cases h:k=0
 ·simp[h]
 have f:k-1<a.length:=ω
 rw[VK _ _ f];unfold OK at d;rw[GE]at d;have:=d (k-1) k f e ω;have i:SD a[k-1].1 a[k].1=true:=(XV _ _).1 this;simp[i]
theorem vD(aA:ByteArray):∀(rs:List Pr),OK rs->∃a m r,rs=a++m++r/\(∀x∈a,LY x.1 aA<0)/\(m=[]\/∃v,m=[(aA,v)])/\(∀x∈r,0<LY x.1 aA)
 | [],_=>⟨[],[],[],rfl,σ,.inl rfl,σ⟩
 | x::l,h=>by
  unfold OK at h;rw[List.pairwise_cons]at h;rcases KA (LY x.1 aA) 0 with h1|h1|h1
  ·obtain⟨a,m,r,e,ha,hm,hr⟩:=vD aA l h.2
   refine⟨x::a,m,r,by rw[e];rfl,λy hy=>?_,hm,hr⟩;rcases DX.1 hy with rfl|hy
   ·exact h1
   exact ha y hy
  ·have e:=(dr _ _).1 h1
   refine⟨[],[x],l,rfl,σ,.inr ⟨x.2,by rw[<-e]⟩,λy hy=>?_⟩;rw[<-e];exact zu (h.1 y hy)
  refine⟨[],[],x::l,rfl,σ,.inl rfl,λy hy=>?_⟩
  rcases DX.1 hy with rfl|hy
  ·exact h1
  have h2:LY aA x.1<0:=(XV _ _).2 (ka h1)
  exact zu (ij _ _ _ h2 (h.1 y hy))
theorem p7(c:Ch)(b:List Pr)(h:OK b):∃a m r,b=a++m++r/\(∀x∈a,LY x.1 c.1<0)/\(m=[]\/∃v,m=[(c.1,v)])/\(∀x∈r,0<LY x.1 c.1)/\ON c b=VL c a r:=by
 obtain⟨a,m,r,e,d,f,g⟩:=vD c.1 b h;exact⟨a,m,r,e,d,f,g,by rw[e];exact cq c a m r d f g⟩
theorem qF(c:Ch)(b:List Pr)(h:OK b):OK (ON c b):=by
 obtain⟨a,m,r,e,d,i,g,f⟩:=p7 c b h;rw[f];rw[e]at h;exact ko c a m r h d g
theorem yA(c:Ch)(d:List Pr)(h:OK d):∀x∈ON c d,x∈d\/(x=(c.1,c.2.1)/\c.2.2=false):=by
 obtain⟨a,m,r,e,i,j,k,f⟩:=p7 c d h;rw[f];intro x b;unfold VL at b;rw[BS,BS]at b;rcases b with (b|b)|b
 ·exact .inl (by rw[e];simp[b])
 ·split at b
  ·simp at b
  rename_i g
  simp at b;exact .inr ⟨b,by simpa using g⟩
 exact .inl (by rw[e];simp[b])
theorem zY(a:List Pr)(h:OK a):∀(b:List Ch),OK (ML a b):=by
 intro b;unfold ML
 induction b generalizing a with
 | nil=>exact h
 | cons c l d=>exact d _ (qF c a h)
theorem Ef(a:List Pr)(h:OK a):∀(b:List Ch),∀x∈ML a b,x∈a\/∃c∈b,x=(c.1,c.2.1):=by
 intro b;unfold ML
 induction b generalizing a with
 | nil=>exactλx f=>.inl f
 | cons c l j =>
  intro x f;rcases j _ (qF c a h) x f with d|⟨g,d,i⟩
  ·rcases yA c a h x d with e|e
   ·exact .inl e
   exact .inr ⟨c,EH,e.1⟩
  exact .inr ⟨g,DS _ d,i⟩
theorem sW{c:Ch}(h:NZ c=true):OU c.1=true/\NY c.2.1=true:=by
 unfold NZ at h;simp only[BE]at h;exact h.1
theorem Ik{c:List Pr}{b:List Ch}(h:OE c b=0):LV c=true/\NL b=true/\(ML c b).length<=100:=by
 unfold OE at h
 split at h
 ·rename_i a
  simp only[BE]at a
  split at h
  ·rename_i d;exact⟨a.1,a.2,d⟩
  cases h
 cases h
theorem ed{a:List Pr}{b:List Ch}(h:OE a b=0):LV (ML a b)=true:=by
 obtain⟨e,f,g⟩:=Ik h;obtain⟨_,j,k3⟩:=(ah a).1 e;refine(ah _).2 ⟨g,λx i=>?_,zY a k3 b⟩;rcases Ef a k3 b x i with d|⟨c,d,rfl⟩
 ·exact j x d
 exact sW ((WO f).2 c d)
end
section
open Tryz
structure Wr(p:Prop):Prop where
 l:p
end
section
open Tryz
open Go.RowKit
variable {xs:List Value}{base n size:Nat}{g0 r:Option Nat}{e:TypeId}{v:Value}{w w' wS wr:World}
structure Grow(wS wr:World)(g0:Option Nat)(base:Nat)(e:TypeId)(size:Nat)(v:Value)(n:Nat)(xs:List Value):Prop where
 own:wr.ownsRow base e size v n xs
 gb:wS.grownBy wr g0
 at_:∀k,v.ownBlock=some k->g0=some k\/wS.heap.size<=k
theorem Grow.start(h:w.ownsRow base e size v n xs):Grow w w v.ownBlock base e size v n xs:=⟨h,BO _ _,λk a=>.inl a⟩
theorem Grow.z(h:Grow wS wr g0 base e size v n xs)(a:Below wr.heap.size wr w'):Grow wS w' g0 base e size v n xs :=⟨LR h.own a,⟨a.os.j h.gb.os,a.tape.j h.gb.tape,a.output.j h.gb.output,AL h.gb.size a.size,λk b c=>(a.block k (AD b h.gb.size)).j (h.gb.block k b c)⟩,h.at_⟩
theorem uN{f:World}(h:wS.grownBy wr g0)(a:wr.grownBy f r)(g:∀k,r=some k->g0=some k\/wS.heap.size<=k):wS.grownBy f g0 :=⟨a.os.j h.os,a.tape.j h.tape,a.output.j h.output,AL h.size a.size,λk d b=>(a.block k (AD d h.size) (λe=>by
  rcases g k e.symm with c|c
  ·exact b c.symm
  ·omega)).j (h.block k d b)⟩
theorem Grow.push{d:World}{a:Value}{g H:Nat}{f:List Value}(h:Grow wS wr g0 base e size v n xs)(i:d.ownsRow base e size a g f)(m:wr.grownBy d v.ownBlock)(j:v.ownBlock=a.ownBlock\/a.ownBlock=some H)(l:wr.heap.size<=H):Grow wS d g0 base e size a g f :=⟨i,uN h.gb m h.at_,λk c=>by
  rcases j with b|b
  ·exact h.at_ k (b.j c)
  rw[b]at c;cases c;exact .inr (AL h.gb.size l)⟩
theorem Grow.j{f:World}{d:Value}{c:Nat}{b:List Value}(h:Grow wS f g0 base e size v n xs)(k:Grow f wr v.ownBlock base e size d c b):Grow wS wr g0 base e size d c b :=⟨k.own,uN h.gb k.gb h.at_,λj g=>by
  rcases k.at_ j g with a|a
  ·exact h.at_ j a
  exact .inr (AL h.gb.size a)⟩
theorem YL(a:w.grownBy w' r)(d:n<=w.heap.size)(b:∀k,r=some k->n<=k):Below n w w' :=⟨a.os,a.tape,a.output,a.size,λk c=>a.block k ω (λe=>by have:=b k e.symm;omega)⟩
theorem qY(h:w.drew.grownBy w' r):w.grownBy w' r:=⟨h.os,h.tape,h.output,h.size,h.block⟩
def He(k n:Nat):List ByteArray:=(List.range n).map λi=>Cm (k+i)
def mixed(k i:Nat)(a:List ByteArray):List Value:=(He k i++a.drop i).map Value.string
