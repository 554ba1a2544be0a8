import Derived.Test.YtmlejnbjclkdjaaGreatDoorPrAq
import Derived.Test.YtmlejnbjclkdjaaGreatDoorPrG44
import Derived.Shelf.Small.Strs
import Derived.Sort.Walk0
import Derived.ChangeKeysEq
import Derived.Laws.IdiomStrings
import Derived.Laws.Bits64b
import Derived.Deep.Cut
import Derived.Deep.CutRange
import Derived.SliceStrings
import Derived.Deep.SlicePairs
import Derived.ProofKit
import Derived.ChangeOld
import Derived.ChangeSlices
import Derived.OpenShut
set_option maxHeartbeats 32000000
set_option maxRecDepth 8000
set_option linter.all false
namespace Go.Proofs.YtmlejnbjclkdjaaGreatDoor
open _root_.ByteArray(empty)
section
open Tryz
open Go.RowKit
variable {w:Nb}
def n4(k:Nat):List Int:=if h:k=0 then [] else n4 (k / 10)++[48+((k % 10:Nat):Int)]
def Dx(k:Nat):Y:=⟨#[109]⟩++strOfNums (n4 k)
abbrev OpT:=Bool×Int×Y
def Ops(w:Nb)(a:M6)(c:List (Bool×Int×Y)):Prop :=c=[]\/∃b o,a=Mw b o/\b<w.heap.size/\∀i,i<c.length->w.cell? ⟨b,o+i*3,none⟩=some (M0 (c.getD i (false,0,empty)).1)/\w.cell? ⟨b,o+i*3+1,none⟩=some (.int .i64 (c.getD i (false,0,empty)).2.1)/\w.cell? ⟨b,o+i*3+2,none⟩=some (Mz (c.getD i (false,0,empty)).2.2)
theorem Ops.I{j:Nb}{a:M6}{g:List (Bool×Int×Y)}(h:Ops w a g)(d:Below w.heap.size w j):Ops j a g:=by
 rcases h with h|⟨b,o,k,c,e⟩
 ·exact .inl h
 exact .inr ⟨b,o,k,AD c d.size,λi f=>⟨(d.cell (p:=⟨b,o+i*3,none⟩) c).j (e i f).1,(d.cell (p:=⟨b,o+i*3+1,none⟩) c).j (e i f).2.1,(d.cell (p:=⟨b,o+i*3+2,none⟩) c).j (e i f).2.2⟩⟩
theorem Ops.at{a:M6}{e:List (Bool×Int×Y)}(h:Ops w a e){k:Nat}(c:k<e.length):∃b o d f g,a=Mw b o/\w.cell? ⟨b,o+k*3,none⟩=some (M0 d)/\w.cell? ⟨b,o+k*3+1,none⟩=some (.int .i64 f)/\w.cell? ⟨b,o+k*3+2,none⟩=some (Mz g)/\Hid ((d,f,g)=e.getD k (false,0,empty)):=by
 rcases h with h|⟨b,o,f,g,d⟩
 ·subst h;simp at c
 exact⟨b,o,_,_,_,f,(d k c).1,(d k c).2.1,(d k c).2.2,Z rfl⟩
def OO(a:List (Bool×Int×Y)):List Nc:=a.flatMap λx=>[M0 x.1,.int .i64 x.2.1,Mz x.2.2]
theorem ir(a b:List (Bool×Int×Y)):OO (a++b)=OO a++OO b:=by simp[OO]
theorem mC(a:List (Bool×Int×Y)):(OO a).length=a.length*3:=by
 induction a with
 | nil=>rfl
 | cons x r b=>simp[OO]at b⊢;omega
theorem nt:∀(a:List (Bool×Int×Y)) (i:Nat),i<a.length->(OO a)[i*3]?=some (M0 (a.getD i (false,0,empty)).1)/\(OO a)[i*3+1]?=some (.int .i64 (a.getD i (false,0,empty)).2.1)/\(OO a)[i*3+2]?=some (Mz (a.getD i (false,0,empty)).2.2)
 | x::r,0,_=>by simp[OO]
 | x::r,i+1,h=>by
  have b:=nt r i (by simpa using h);have e:OO (x::r)=M0 x.1::.int .i64 x.2.1::Mz x.2.2::OO r:=by simp[OO]
  rw[e,show(i+1)*3=i*3+3 by omega];simpa using b
theorem Row.ops{g:Nat}{a:List (Bool×Int×Y)}(h:Row w g (OO a)):Ops w (Mw g 0) a :=.inr ⟨g,0,rfl,h.lt,λi b=>by
  rw[BG]
  exact⟨h.cell _ _ (nt a i b).1,h.cell _ _ (nt a i b).2.1,h.cell _ _ (nt a i b).2.2⟩⟩
end
section
open Tryz
open Go.Shelf
def Ll:Go.Shelf.Ren:=⟨fun|106=>264|213=>266|265=>267|n=>n,fun|9=>9|3=>3|n=>n,fun|n=>n⟩
theorem Ke:Go.Proofs.Lays.n106 prog Ll:={
 mixed:=κ
 f106:=func264.j (CX some κ)
 f213:=func266.j (CX some κ)
 f265:=func267.j (CX some κ)
 t3:=underlying3
 a3:=isAgg3
 z3:=sizeOf3
 v3:=zeroValue3
 t9:=underlying9
 a9:=isAgg9
 z9:=sizeOf9
 v9:=zeroValue9 }
def NA(a b:Y):Int:=Lib.compareBytes a.data.toList b.data.toList
open Go.RowKit in
theorem Ak(a b:Y)(w:Nb):Calls prog 264 #[Mz a,Mz b] w λe c=>e=M3 (.int .i64 (NA a b))/\c=w:=Any.strings_Compare Ke a b w
end
section
open Tryz
open Go.RowKit Go.Sort
theorem zh(a b:UInt8)(c:¬a<b)(d:¬b<a):a=b:=by
 apply UInt8.toNat_inj.1
 rw[KW]at c d;omega
theorem wi:∀(x y:List UInt8),Lib.compareBytes x y<0<->x<y
 | [],[]=>by simp[Lib.compareBytes]
 | [],b::l2=>by simp[Lib.compareBytes]
 | a::l,[]=>by simp[Lib.compareBytes]
 | a::l,b::l2=>by
  rw[List.cons_lt_cons_iff];unfold Lib.compareBytes
  split
  ·rename_i h;simp[h]
  rename_i h
  split
  ·rename_i h2
   have hne:¬a=b:=λe=>by subst e;exact h h2
   simp[h,hne]
  rename_i h2
  have e:=zh a b h h2;subst e;rw[wi l l2];simp[h]
theorem pM:∀(x y:List UInt8),Lib.compareBytes x y=0<->x=y
 | [],[]=>by simp[Lib.compareBytes]
 | [],b::l2=>by simp[Lib.compareBytes]
 | a::l,[]=>by simp[Lib.compareBytes]
 | a::l,b::l2=>by
  unfold Lib.compareBytes
  split
  ·rename_i h
   have hne:¬a=b:=λe=>by subst e;rw[KW]at h;omega
   simp[hne]
  rename_i h
  split
  ·rename_i h2
   have hne:¬a=b:=λe=>by subst e;exact h h2
   simp[hne]
  rename_i h2
  have e:=zh a b h h2;subst e;rw[pM l l2];simp
theorem XT(a b:Y):NA a b<0<->Op.bytesLess a.toList b.toList=true:=by
 unfold NA;rw[wi,bytesLess_eq,AT,DF,DF]
theorem dh(a b:Y):NA a b=0<->a=b:=by
 unfold NA;rw[pM]
 constructor
 ·intro h;exact EP (JB h)
 intro h;rw[h]
theorem po(k v a:Y)(w:Nb):Calls prog 263 #[.agg #[Mz k,Mz v],Mz a] w λe b=>e=M3 (.int .i64 (NA k a))/\Below w.heap.size w b:=by
 go_enter func263,ntmps263;go_wp2_with (go_at_call 264;refine(Ak k a _).z ?_;rintro e b ⟨rfl,rfl⟩);go_ret;exact⟨rfl,LO _ _⟩
def OW(a:List (Y×Y))(t:Nat):Y:=(a.getD t (empty,empty)).1
theorem Ar(a:M6)(d:List (Y×Y))(c:Nat)(f:Y)(w:Nb)(h:Prs w a d)(O:d.length<=1048576)(z:Hid (∀t m,t<=m->m<d.length->NA (OW d m) f<0->NA (OW d t) f<0)):Calls prog 262 #[.slice a d.length c,Mz f,.func (.func 263) #[] #[]] w λe b =>
   ∃p:Nat,p<=d.length/\(∀t,t<p->NA (OW d t) f<0)/\(∀t,p<=t->t<d.length->0<=NA (OW d t) f)/\e=M3 (.tuple #[.int .i64 (p:Int),M0 (decide (p<d.length/\NA (OW d p) f=0))])/\Below w.heap.size w b:=by
 go_enter func262,ntmps262;go_wp2_with fail;go_loopw [9,10,11] (λi j _ wr=>∃p q:Nat,p<=q/\q<=d.length/\i=.int .i64 (p:Int)/\j=.int .i64 (q:Int)/\Hid (∀t,t<p->NA (OW d t) f<0)/\Hid (∀t,q<=t->t<d.length->0<=NA (OW d t) f)/\Below w.heap.size w wr) (λi j _ _=>(intOf j).toNat-(intOf i).toNat)
 case atStart=>exact⟨0,d.length,AM _,AA _,rfl,rfl,λt G=>ω,λt A B=>ω,AB _ _⟩
 case round =>
  obtain⟨p,q,N,y,rfl,rfl,l,r,g⟩:=hrel
  by_cases J:p<q
  ·obtain⟨m,k⟩:∃m:Nat,m=(p+q) / 2:=⟨_,rfl⟩
   have K:p<=m:=ω
   have L:m<q:=ω
   have M:((p:Int)+(q:Int)) / 2=(m:Int):=ω
   obtain⟨b,o,i,v,rfl,E,F,x⟩:=(h.I g).at (show m<d.length by omega);have n:Hid (i=OW d m):=by show _=_;unfold OW;rw[<-x.l]
   have I:(p:Int)<(q:Int):=ω
   obtain⟨C,j⟩:∃C,Hid (C=NA i f):=⟨_,Z rfl⟩;clear k;have u:=r;have s:=l;clear r l
   by_cases H:C<0
   ·go_wp2_with (go_at_call 263;refine(po i v f _).z ?_;rw[<-j.l];rintro e D ⟨rfl,k⟩)
    refine⟨⟨m+1,q,ω,y,ν,rfl,λt G=>?_,u.l,g.j (k.z g.size)⟩,by simp[intOf];omega⟩;exact z.l t m ω ω (by rw[<-n.l,<-j.l];exact H)
   go_wp2_with (go_at_call 263;refine(po i v f _).z ?_;rw[<-j.l];rintro e D ⟨rfl,k⟩)
   refine⟨⟨p,m,ω,ω,rfl,rfl,s.l,λt A B=>Int.not_lt.1 (λG=>?_),g.j (k.z g.size)⟩,by simp[intOf];omega⟩;have:=z.l m t A B G;rw[<-n.l,<-j.l]at this;omega
  have t:p=q:=ω
  subst t;have u:=r;have s:=l;clear r l
  by_cases l:p<d.length
  ·have r:(p:Int)<(d.length:Int):=ω
   obtain⟨b,o,i,v,rfl,E,F,x⟩:=(h.I g).at l;have n:Hid (i=OW d p):=by show _=_;unfold OW;rw[<-x.l]
   obtain⟨C,j⟩:∃C,Hid (C=NA i f):=⟨_,Z rfl⟩;go_wp2_with (go_at_call 263;refine(po i v f _).z ?_;rw[<-j.l];rintro e D ⟨rfl,k⟩);go_ret2;refine⟨p,y,s.l,u.l,?_,g.j (k.z g.size)⟩;rw[<-n.l,<-j.l];simp[l];rw[IY];simp
  have r:(d.length:Int)<=(p:Int):=ω
  go_wp2;go_ret2;refine⟨p,y,s.l,u.l,?_,g⟩;simp[l]
end
section
open Tryz
open Go.RowKit Go.Sort
variable {rs:List (Y×Y)}
theorem gy(a b c:Y)(d:NA a b<0)(e:NA b c<0):NA a c<0:=by
 unfold NA at *;rw[wi]at *;exact List.lt_trans d e
theorem wJ(h:MU rs=true)(i:Nat)(a:i+1<rs.length):NA (OW rs i) (OW rs (i+1))<0:=by
 have:=(ZH h).2 (i+1) a;unfold QT TG at this;simp only[KC,AX,Bool.or_eq_true,AT]at this;rw[XT];rcases this.2 with h|h
 ·omega
 exact h
theorem asc(h:MU rs=true)(t:Nat):∀d,t+d+1<rs.length->NA (OW rs t) (OW rs (t+d+1))<0
 | 0,hd=>wJ h t hd
 | d+1,hd=>gy _ _ _ (asc h t d ω) (wJ h (t+d+1) hd)
theorem Lc(h:MU rs=true){t u:Nat}(b:t<u)(a:u<rs.length):NA (OW rs t) (OW rs u)<0:=by
 obtain⟨d,rfl⟩:∃d,u=t+d+1:=⟨u-t-1,ω⟩;exact asc h t d a
theorem o7(a:M6)(rs:List (Y×Y))(c:Nat)(b:Y)(w:Nb)(h:Prs w a rs)(q:rs.length<=1048576)(l:Hid (∀t m,t<=m->m<rs.length->NA (OW rs m) b<0->NA (OW rs t) b<0)):Calls prog 258 #[.agg #[Mz b],.slice a rs.length c] w λe d =>
   ∃p:Nat,p<=rs.length/\(∀t,t<p->NA (OW rs t) b<0)/\(∀t,p<=t->t<rs.length->0<=NA (OW rs t) b)/\e=M3 (.tuple #[.int .i64 (p:Int),M0 (decide (p<rs.length/\NA (OW rs p) b=0))])/\Below w.heap.size w d:=by
 have f:∀o,Below w.heap.size w (w.alloc o):=λo=>LO _ _
 go_enter func258,ntmps258;go_wp2_with fail;refine(Ar a rs c b _ (h.I (f _)) q l).z ?_;rintro e o ⟨p,n,g,i,rfl,m⟩;obtain⟨B,d⟩:∃B,Hid (B=decide (p<rs.length/\NA (OW rs p) b=0)):=⟨_,Z rfl⟩;rw[<-d.l];have j:=Z g;have k:=Z i;clear g i;go_wp2;go_ret2;refine⟨p,n,j.l,k.l,by rw[<-d.l];rfl,(f _).j (m.z σ)⟩
end
section
open Tryz
open Go.RowKit Go.Sort
theorem uP:∀(x y:List UInt8),0<Lib.compareBytes x y->Lib.compareBytes y x<0
 | [],[]=>by simp[Lib.compareBytes]
 | [],b::l2=>by simp[Lib.compareBytes]
 | a::l,[]=>by simp[Lib.compareBytes]
 | a::l,b::l2=>by
  unfold Lib.compareBytes;intro h
  by_cases h1:a<b
  ·simp[h1]at h
  by_cases h2:b<a
  ·simp[h2]
  simp only[h1,h2,IS]at h⊢
  exact uP l l2 h
theorem jt{a b:Y}(h:0<NA a b):TG b a=true:=by
 have:=uP _ _ h;exact(XT b a).1 this
theorem ZE(a:Y):NA a a=0:=(dh a a).2 rfl
theorem uV{a b:Y}(h:NA a b<0):TG b a=false:=by
 cases hk:TG b a with
 | false=>rfl
 | true =>
  have c:NA b a<0:=(XT b a).2 hk;have d:=gy a b a h c;rw[ZE]at d;omega
theorem rj(a:Y):TG a a=false:=by
 cases hk:TG a a with
 | false=>rfl
 | true =>
  have b:NA a a<0:=(XT a a).2 hk;rw[ZE]at b;omega
def VB(b c:Y)(a:Bool×List Pr)(p:Pr):Bool×List Pr :=if p.1=b then (if (!a.1 && TG b p.1)=true then (true,a.2++[(b,c)]) else a)
 else (if (!a.1 && TG b p.1)=true then (true,a.2++[(b,c)]++[p]) else (a.1,a.2++[p]))
def chW(c:Ch)(a:List Pr):Bool×List Pr:=a.foldl (VB c.1 c.2.1) (c.2.2,[])
def PX(c:Ch)(a:List Pr):List Pr:=if (chW c a).1=true then (chW c a).2 else (chW c a).2++[(c.1,c.2.1)]
theorem pz(c:Ch)(a:List Pr)(p:Pr):chW c (a++[p])=VB c.1 c.2.1 (chW c a) p:=by unfold chW;rw[IN];rfl
def PU(a:List Pr):Prop:=a.Pairwise λx y=>NA x.1 y.1<0
theorem qY(aA aB:Y):∀(l:List Pr) (g:Bool) (out:List Pr),(∀x∈l,NA x.1 aA<0)->l.foldl (VB aA aB) (g,out)=(g,out++l)
 | [],g,out,_=>σ
 | x::l,g,out,h=>by
  have hx:=h x EE
  have hne:¬x.1=aA:=λe=>by rw[e,ZE]at hx;omega
  rw[JW,VB,AG hne,uV hx,IQ,AG σ];rw[qY aA aB l g (out++[x]) (λy hy=>h y (DO _ hy)),BT];rfl
theorem pu(aA aB:Y):∀(l:List Pr) (out:List Pr),(∀x∈l,0<NA x.1 aA)->l.foldl (VB aA aB) (true,out)=(true,out++l)
 | [],out,_=>σ
 | x::l,out,h=>by
  have hx:=h x EE
  have hne:¬x.1=aA:=λe=>by rw[e,ZE]at hx;omega
  rw[JW,VB,AG hne,AG σ];rw[pu aA aB l (out++[x]) (λy hy=>h y (DO _ hy)),BT];rfl
def WE(c:Ch)(a r:List Pr):List Pr:=a++(if c.2.2=true then [] else [(c.1,c.2.1)])++r
theorem ei(c:Ch)(a m r:List Pr)(k:∀x∈a,NA x.1 c.1<0)(n:m=[]\/∃v,m=[(c.1,v)])(f:∀x∈r,0<NA x.1 c.1):PX c (a++m++r)=WE c a r:=by
 obtain⟨b,d,g⟩:=c
 have j:chW (b,d,g) (a++m++r)=r.foldl (VB b d) (g,a):=by
  unfold chW;rw[BT,IN,qY b d a g [] k,DW,IN];rcases n with rfl|⟨v,rfl⟩
  ·rfl
  rw[JW,List.foldl_nil,VB,AE rfl,rj,IQ,AG σ]
 unfold PX WE;rw[j]
 cases g with
 | true=>rw[pu b d r a f];simp
 | false =>
  cases r with
  | nil=>simp
  | cons x l =>
   have h:=f x EE
   have i:¬x.1=b:=λe=>by rw[e,ZE]at h;omega
   rw[JW,VB,AG i];simp only[Bool.not_false,IJ];rw[jt h,AE rfl,pu b d l _ (λy e=>f y (DO _ e))];simp
theorem kg(c:Ch)(a m r:List Pr)(h:PU (a++m++r))(l:∀x∈a,NA x.1 c.1<0)(n:∀x∈r,0<NA x.1 c.1):PU (WE c a r):=by
 unfold PU WE at *;rw[GY,GY]at h;obtain⟨⟨f,o,p⟩,g,k⟩:=h
 have e:∀x∈a,∀y∈r,NA x.1 y.1<0:=λx b y d=>k x (List.mem_append_left _ b) y d
 have j:∀y∈r,NA c.1 y.1<0:=λy d=>(XT _ _).2 (jt (n y d))
 by_cases i:c.2.2=true
 ·rw[AE i,DZ,GY]
  exact⟨f,g,e⟩
 rw[AG i,GY,GY]
 refine⟨⟨f,σ,λx b y d=>?_⟩,g,λx b y d=>?_⟩
 ·simp at d;subst d;exact l x b
 rw[BJ]at b
 rcases b with b|b
 ·exact e x b y d
 simp at b;subst b;exact j y d
theorem VX{α:Type}(a:List α)(i:Nat)(h:i<a.length){d:α}:a.getD i d=a[i]:=by simp[List.getD,h]
theorem wG{b:List Pr}(h:MU b=true):PU b:=by
 unfold PU;rw[GK];intro i j d a c;have:=Lc h c a;unfold OW at this
 rwa [VX _ _ d,VX _ _ a]at this
theorem uH{a:List Pr}(h:PU a)(c:Y):∀t m,t<=m->m<a.length->NA (OW a m) c<0->NA (OW a t) c<0:=λt m f d b=>by
 rcases KE f with e|e
 ·subst e;exact b
 unfold PU at h
 rw[GK]at h;have:=h t m ω d e;unfold OW at *;rw[VX _ _ d]at b;rw[VX _ _ ω];exact gy _ _ _ this b
theorem mx{a:List Pr}(h:PU a)(c:Y)(p:Nat)(s:p<=a.length)(q:∀t,t<p->NA (OW a t) c<0)(o:∀t,p<=t->t<a.length->0<=NA (OW a t) c)(d:Nat)(f:d=if p<a.length/\NA (OW a p) c=0 then 1 else 0):a=a.take p++(a.drop p).take d++a.drop (p+d)/\(∀x∈a.take p,NA x.1 c<0)/\((a.drop p).take d=[]\/∃v,(a.drop p).take d=[(c,v)])/\(∀x∈a.drop (p+d),0<NA x.1 c):=by
 have r:=h;unfold PU at h;rw[GK]at h;refine⟨?_,?_,?_,?_⟩
 ·rw[BT,<-FU,FN,FN]
 ·intro x l
  obtain⟨i,j,rfl⟩:=EN l;rw[AP]at j;have:=q i ω;unfold OW at this;rw[VX _ _ ω]at this;rw[List.getElem_take];exact this
 ·by_cases b:p<a.length/\NA (OW a p) c=0
  ·rw[AE b]at f
   subst f
   right
   have e:=(dh _ _).1 b.2;unfold OW at e;rw[VX _ _ b.1]at e;refine⟨(a[p]'b.1).2,?_⟩;rw[GW b.1,EW,ES];exact CX (λk=>[k]) (Prod.ext e rfl)
  rw[AG b]at f
  subst f;exact .inl σ
 intro x l
 obtain⟨i,j,rfl⟩:=EN l;rw[CU]at j;rw[List.getElem_drop];have k:=o (p+d+i) ω ω;unfold OW at k;rw[VX _ _ ω]at k;rcases Int.lt_or_eq_of_le k with g|g
 ·exact g
 exfalso
 have e:=(dh _ _).1 g.symm
 by_cases n:d+i=0
 ·have m:d=0:=ω
  have n:i=0:=ω
  subst n;rw[m]at f
  by_cases b:p<a.length/\NA (OW a p) c=0
  ·rw[AE b]at f;cases f
  refine b ⟨ω,?_⟩
  unfold OW;rw[VX _ _ ω];subst m;exact g.symm
 have m:=h p (p+d+i) ω ω ω
 rw[e]at m;have b:=o p (AA _) ω;unfold OW at b;rw[VX _ _ ω]at b;omega
def NB(a:List Pr)(b:List Ch):List Pr:=b.foldl (λs c=>PX c s) a
theorem cq(a:List Pr)(b:List Ch)(c:Ch):NB a (b++[c])=PX c (NB a b):=by unfold NB;rw[IN];rfl
def PO(a:List Pr)(b:List Ch):Int:=if (MU a && PA b)=true then (if (NB a b).length<=100 then 0 else 2) else 1
def PQ(a:List Pr)(b:List Ch):List Pr:=if PO a b=0 then NB a b else []
theorem xf(c:Ch):∀(e:List Pr) (k:Nat),k=e.length->(chW c e).2.length<=e.length+(if (chW c e).1=true/\c.2.2=false then 1 else 0)/\(c.2.2=true->(chW c e).1=true)
 | e,0,hk=>by rw[AC hk.symm];simp[chW]
 | e,k+1,hk=>by
  obtain⟨b,bs,rfl⟩:∃b bs,e=bs++[b]:=by
   rcases ET e with h|⟨l,a,h⟩
   ·subst h;simp at hk
   exact⟨a,l,by simpa using h⟩
  have f:=xf c bs k (by simp at hk;omega);rw[pz];obtain⟨a,i,g⟩:=c;generalize chW (a,i,g) bs=m at f⊢;obtain⟨d,l⟩:=m;unfold VB;rw[AF,EU];have h:=rj a
  cases d<;>cases hk2:TG a b.1<;>by_cases j:b.1=a<;>cases g<;>simp[j,hk2,h]at f hk2⊢<;>omega
theorem Ge(c:Ch)(a:List Pr):(PX c a).length<=a.length+1:=by
 have:=(xf c a _ rfl).1;unfold PX
 split
 ·split at this<;>omega
 rename_i h
 rw[AG (λe=>h e.1)]at this;rw[AF];simp;omega
theorem qj(rs:List Pr)(b:List Ch):∀k,(NB rs (b.take k)).length<=rs.length+k
 | 0=>by simp[NB]
 | k+1=>by
  have ih:=qj rs b k
  by_cases h:k<b.length
  ·rw[AY h,cq]
   have:=Ge b[k] (NB rs (b.take k));omega
  rw[AQ ω]at ih⊢
  omega
end
section
open Tryz
open Go.RowKit Go.Sort
theorem zq{a b:Y}(h:NA a b<0):0<NA b a:=by
 rcases KI (NA b a) 0 with c|c|c
 ·have:=gy a b a h c
  rw[ZE]at this;omega
 ·have:=(dh _ _).1 c
  subst this;rw[ZE]at h;omega
 exact c
theorem ZS(a:List Pr):MU a=true<->a.length<=100/\(∀x∈a,QD x.1=true/\PE x.2=true)/\PU a:=by
 constructor
 ·intro h
  obtain⟨b,c⟩:=ZH h;refine⟨b,λx e=>?_,wG h⟩;obtain⟨i,d,rfl⟩:=EN e;have:=c i d;unfold QT at this;rw[VX _ _ d]at this;simp only[AX]at this;exact this.1
 rintro⟨b,c,d⟩
 refine uy b (λk e=>?_);unfold QT;have g:=c _ (GL e);rw[VX _ _ e,g.1,g.2]
 by_cases h:k=0
 ·simp[h]
 have f:k-1<a.length:=ω
 rw[VX _ _ f];unfold PU at d;rw[GK]at d;have:=d (k-1) k f e ω;have i:TG a[k-1].1 a[k].1=true:=(XT _ _).1 this;simp[i]
theorem wE(aA:Y):∀(rs:List Pr),PU rs->∃a m r,rs=a++m++r/\(∀x∈a,NA x.1 aA<0)/\(m=[]\/∃v,m=[(aA,v)])/\(∀x∈r,0<NA x.1 aA)
 | [],_=>⟨[],[],[],rfl,σ,.inl rfl,σ⟩
 | x::l,h=>by
  unfold PU at h;rw[List.pairwise_cons]at h;rcases KI (NA x.1 aA) 0 with h1|h1|h1
  ·obtain⟨a,m,r,e,ha,hm,hr⟩:=wE aA l h.2
   refine⟨x::a,m,r,by rw[e];rfl,λy hy=>?_,hm,hr⟩;rcases DY.1 hy with rfl|hy
   ·exact h1
   exact ha y hy
  ·have e:=(dh _ _).1 h1
   refine⟨[],[x],l,rfl,σ,.inr ⟨x.2,by rw[<-e]⟩,λy hy=>?_⟩;rw[<-e];exact zq (h.1 y hy)
  refine⟨[],[],x::l,rfl,σ,.inl rfl,λy hy=>?_⟩
  rcases DY.1 hy with rfl|hy
  ·exact h1
  have h2:NA aA x.1<0:=(XT _ _).2 (jt h1)
  exact zq (gy _ _ _ h2 (h.1 y hy))
theorem pZ(c:Ch)(b:List Pr)(h:PU b):∃a m r,b=a++m++r/\(∀x∈a,NA x.1 c.1<0)/\(m=[]\/∃v,m=[(c.1,v)])/\(∀x∈r,0<NA x.1 c.1)/\PX c b=WE c a r:=by
 obtain⟨a,m,r,e,d,f,g⟩:=wE c.1 b h;exact⟨a,m,r,e,d,f,g,by rw[e];exact ei c a m r d f g⟩
theorem qH(c:Ch)(b:List Pr)(h:PU b):PU (PX c b):=by
 obtain⟨a,m,r,e,d,i,g,f⟩:=pZ c b h;rw[f];rw[e]at h;exact kg c a m r h d g
theorem zE(c:Ch)(d:List Pr)(h:PU d):∀x∈PX c d,x∈d\/(x=(c.1,c.2.1)/\c.2.2=false):=by
 obtain⟨a,m,r,e,i,j,k,f⟩:=pZ c d h;rw[f];intro x b;unfold WE at b;rw[BJ,BJ]at b;rcases b with (b|b)|b
 ·exact .inl (by rw[e];simp[b])
 ·split at b
  ·simp at b
  rename_i g
  simp at b;exact .inr ⟨b,by simpa using g⟩
 exact .inl (by rw[e];simp[b])
theorem Be(a:List Pr)(h:PU a):∀(b:List Ch),PU (NB a b):=by
 intro b;unfold NB
 induction b generalizing a with
 | nil=>exact h
 | cons c l d=>exact d _ (qH c a h)
theorem Gg(a:List Pr)(h:PU a):∀(b:List Ch),∀x∈NB a b,x∈a\/∃c∈b,x=(c.1,c.2.1):=by
 intro b;unfold NB
 induction b generalizing a with
 | nil=>exactλx f=>.inl f
 | cons c l j =>
  intro x f;rcases j _ (qH c a h) x f with d|⟨g,d,i⟩
  ·rcases zE c a h x d with e|e
   ·exact .inl e
   exact .inr ⟨c,EE,e.1⟩
  exact .inr ⟨g,DO _ d,i⟩
theorem tD{c:Ch}(h:PJ c=true):QD c.1=true/\PE c.2.1=true:=by
 unfold PJ at h;simp only[AX]at h;exact h.1
theorem Kx{c:List Pr}{b:List Ch}(h:PO c b=0):MU c=true/\PA b=true/\(NB c b).length<=100:=by
 unfold PO at h
 split at h
 ·rename_i a
  simp only[AX]at a
  split at h
  ·rename_i d;exact⟨a.1,a.2,d⟩
  cases h
 cases h
theorem ZW{a:List Pr}{b:List Ch}(h:PO a b=0):MU (NB a b)=true:=by
 obtain⟨e,f,g⟩:=Kx h;obtain⟨_,j,k3⟩:=(ZS a).1 e;refine(ZS _).2 ⟨g,λx i=>?_,Be a k3 b⟩;rcases Gg a k3 b x i with d|⟨c,d,rfl⟩
 ·exact j x d
 exact tD ((WR f).2 c d)
end
section
open Tryz
open Go.RowKit
section
structure B4(w:Nb)(B:Nat)(v0 v1 v2 v3:Nc):Prop where
 lt:B<w.heap.size
 c0:w.cell? ⟨B,0,none⟩=some v0
 c1:w.cell? ⟨B,1,none⟩=some v1
 c2:w.cell? ⟨B,2,none⟩=some v2
 c3:w.cell? ⟨B,3,none⟩=some v3
 f0:w.frozen? ⟨B,0,none⟩=false
 f1:w.frozen? ⟨B,1,none⟩=false
 f2:w.frozen? ⟨B,2,none⟩=false
 f3:w.frozen? ⟨B,3,none⟩=false
section
variable {w w':Nb} {B:Nat} {v0 v1 v2 v3:Nc}
theorem B4.past(h:B4 w B v0 v1 v2 v3){N:Nat}(d:B<N)(c:Below N w w'):B4 w' B v0 v1 v2 v3:=by
 have a:∀i,w'.cell? ⟨B,i,none⟩=w.cell? ⟨B,i,none⟩:=λi=>c.cell (p:=⟨B,i,none⟩) d
 have b:∀i,w'.frozen? ⟨B,i,none⟩=w.frozen? ⟨B,i,none⟩:=λi=>c.frozen (p:=⟨B,i,none⟩) d
 exact⟨AD h.lt c.size,(a _).j h.c0,(a _).j h.c1,(a _).j h.c2,(a _).j h.c3,(b _).j h.f0,(b _).j h.f1,(b _).j h.f2,(b _).j h.f3⟩
theorem B4.I(h:B4 w B v0 v1 v2 v3)(a:Below w.heap.size w w'):B4 w' B v0 v1 v2 v3:=h.past h.lt a
theorem B4.drew(h:B4 w B v0 v1 v2 v3):B4 w.drew B v0 v1 v2 v3:=⟨h.lt,h.c0,h.c1,h.c2,h.c3,h.f0,h.f1,h.f2,h.f3⟩
theorem B4.alloc(h:B4 w B v0 v1 v2 v3)(o:Obj):B4 (w.alloc o) B v0 v1 v2 v3:=h.I (LO _ _)
theorem B4.new(w:Nb)(v0 v1 v2 v3:Nc)(t:TypeId):B4 (w.alloc (.cells #[v0,v1,v2,v3] t)) w.heap.size v0 v1 v2 v3:=by
 refine⟨σ,?_,?_,?_,?_,?_,?_,?_,?_⟩<;>first|(simp;done)|(rw[DQ];exact XR _ _ _ (AA _))
end
section
variable {W w w':Nb} {R B:Nat} {v0 v1 v2 v3 u0 u1 u2 u3:Nc}
end
end
end
section
open Tryz
structure Wr(p:Prop):Prop where
 l:p
end
section
open Tryz
open Go
variable {a:Act}{aA:Array Bool}{aB i:Nat}{w:Nb}
section
variable {P:Program} {ops:Array Oper} {Q:Exit->Act->Nb->Prop} {md:Region.Mode} {S:Nb->Prop} {z:Nat}
def TA(P:Program)(md:Region.Mode)(ops:Array Oper)(Q:Exit->Act->Nb->Prop)(S:Nb->Prop)(z:Nat):Nat->Array Bool->Act->Nb->Prop
 | 0,listed,a,w=>Region.ready md ops listed=[]/\Q .normal a w
 | fuel+1,listed,a,w =>
  (Region.ready md ops listed=[]->Q .normal a w) /\
  ∀i∈Region.ready md ops listed,wpOp P ops Q i (λa' w'=>(i≠z->S w')/\TA P md ops Q S z fuel (listed.setIfInBounds i true) a' w') a w
theorem vQ:∀(aB:Nat) (aA:Array Bool) (a:Act) (w:Nb),TA P md ops Q S z aB aA a w->wpAny P md ops Q aB aA a w
 | 0,_,_,_,h=>h
 | aB+1,_,_,_,h=>⟨h.1,λi hi=>wpOp_mono (λa' w' h'=>vQ aB _ a' w' h'.2) (h.2 i hi)⟩
theorem I5{l:Oper}{v:Nc}(s:ops[i]?=some l)(C:∀(j:Nat) (o:Oper) k b,ops[j]?=some o->o.op≠.select k b)
  (K:∀c a w,Q (.panic c) (a.put l.dst v) w->Q (.panic c) a w)(O:i≠z)(M:∀d,ops[z]?=some d->∃e∈d.after,Region.binds md e=true/\e.on=i):∀(aB:Nat) (aA:Array Bool) (a:Act) (w:Nb),
   (∀j d,ops[j]?=some d->j≠i->aA.getD j true=false->(∀e∈d.after,Region.binds md e=true->e.on≠i)->l.apart ops d=true) ->
   i∈Region.ready md ops aA->YieldsIf P ops S l v a->S w ->
   TA P md ops Q S z aB (aA.setIfInBounds i true) (a.put l.dst v) w->TA P md ops Q S z (aB+1) aA a w:=by
 intro aB
 induction aB with
 | zero =>
  intro aA a w _ g q m H;refine⟨λh=>(by rw[h]at g;cases g),λj p=>?_⟩
  by_cases c:j=i
  ·subst c;exact q.wpOp s m ⟨λ_=>m,H⟩
  have:=ready_mono p c
  rw[H.1]at this
  cases this
 | succ aB N =>
  intro aA a w y g q m H;refine⟨λh=>(by rw[h]at g;cases g),λj p=>?_⟩
  by_cases c:j=i
  ·subst c;exact q.wpOp s m ⟨λ_=>m,H⟩
  have f:=H.2 j (ready_mono p c)
  obtain⟨A,d,n,E⟩:=mem_ready.1 p
  have B:∀e∈d.after,Region.binds md e=true->e.on≠i:=λe t r h=>by
   have f:=E e t r;have t:=(mem_ready.1 g).1;rw[h]at f;rcases GF i aA.size with h|h
   ·simp[h]at t f;rw[t]at f;cases f
   simp[DU h]at f
  have F:j≠z:=λe=>by
   subst e;obtain⟨x,t,r,h⟩:=M d n;exact B x t r h
  have J:=wpOp_putIf n (y j d n c A B) (λk b=>C i l k b s) (λk b=>C j d k b n) K q (wpOp_mono (λu t h=>(⟨h.1 F,h.2⟩:S t/\_)) f)
  have D:∀k b,ops[k]?=some b->k≠i->(aA.setIfInBounds j true).getD k true=false ->
    (∀e∈b.after,Region.binds md e=true->e.on≠i)->l.apart ops b=true:=λk b L G x I=>by
   refine y k b L G ?_ I
   by_cases b:j=k
   ·subst b;exact A
   rw[getD_set_ne true b]at x;exact x
  refine wpOp_mono (λu t b=>⟨λ_=>b.2.1,N (aA.setIfInBounds j true) u t D (ready_mono g (IV c)) b.1 b.2.1 ?_⟩) J;rw[Array.setIfInBounds_comm _ _ c];exact b.2.2
def jr(md:Region.Mode)(ops:Array Oper)(z i:Nat):Bool:=i != z && (match ops[z]? with|some o=>o.after.any λe=>Region.binds md e && e.on == i|none=>true)
theorem nF{d:Oper}{v:Nc}(g:ops[i]?=some d)
  (p:Region.noSelect ops=true)(m:Region.free md ops aA i=true)(o:(Region.ready md ops aA).contains i=true)(b:jr md ops z i=true)
  (j:∀c a w,Q (.panic c) (a.put d.dst v) w->Q (.panic c) a w)(q:YieldsIf P ops S d v a)(k:S w)
  (h:TA P md ops Q S z aB (aA.setIfInBounds i true) (a.put d.dst v) w):TA P md ops Q S z (aB+1) aA a w:=by
 unfold jr at b;rw[AX]at b;refine I5 g (Region.noSelect_spec p) j (by simpa using b.1) (λr n=>?_) aB aA a w (Region.free_spec g m) (by simpa using o) q k h;have f:=b.2;rw[n]at f;obtain⟨e,l,c⟩:=Array.any_eq_true'.1 f;rw[AX]at c;exact⟨e,l,c.1,by simpa using c.2⟩
def AllReadyT(P:Program)(md:Region.Mode)(ops:Array Oper)(Q:Exit->Act->Nb->Prop)(S:Nb->Prop)(z:Nat)(aB:Nat)(aA:Array Bool)(a:Act)(w:Nb)(d:List Nat):Prop :=∀i∈d,wpOp P ops Q i (λc b=>(i≠z->S b)/\TA P md ops Q S z aB (aA.setIfInBounds i true) c b) a w
theorem AllReadyT.nil:AllReadyT P md ops Q S z aB aA a w []:=λ_ h=>by cases h
theorem AllReadyT.cons{o:Oper}{e:List Nat}(k:ops[i]?=some o)
  (h:∀b:Act->Nb->Prop,Shut (∀a w,S w->(S w->TA P md ops Q S z aB (aA.setIfInBounds i true) a w)->b a w)->if Region.wanted o (yielded ops a.tmps)=true then Oper.wp P o a w b Q else b (a.put o.dst undef) w)
  (l:AllReadyT P md ops Q S z aB aA a w e):AllReadyT P md ops Q S z aB aA a w (i::e):=λj c=>by
 rcases DY.1 c with rfl|c
 ·exact wpOp_step k (λb f=>h b (λa w d g=>f a w ⟨λ_=>d,g d⟩))
 exact l j c
theorem AllReadyT.last{o:Oper}(e:ops[z]?=some o)
  (h:∀b:Act->Nb->Prop,Shut (∀a w,True->(True->TA P md ops Q S z aB (aA.setIfInBounds z true) a w)->b a w)->if Region.wanted o (yielded ops a.tmps)=true then Oper.wp P o a w b Q else b (a.put o.dst undef) w):AllReadyT P md ops Q S z aB aA a w [z]:=λj c=>by
 rw[BL]at c;subst c;exact wpOp_step e (λb c=>h b (λa w _ d=>c a w ⟨λk=>absurd rfl k,d trivial⟩))
theorem RT{rs:List Nat}(b:Region.ready md ops aA=rs)(c:rs≠[])
  (h:AllReadyT P md ops Q S z aB aA a w rs):TA P md ops Q S z (aB+1) aA a w:=⟨λd=>absurd (b ▸ d) c,b ▸ h⟩
theorem UY(hr:Region.ready md ops aA=[])(h:Q .normal a w):∀aB,TA P md ops Q S z aB aA a w
 | 0=>⟨hr,h⟩
 | _+1=>⟨λ_=>h,by rw[hr];simp⟩
theorem VS{d:Nat}(z:Nat)(c:P.follows .mixedOrders=true)(b:S w.drew)
  (h:S w.drew->TA P .any ops Q S z ops.size (Array.replicate ops.size false) a w.drew):(Code.region d ops true).wp P Q a w :=wp_region_any c (vQ _ _ _ _ (h b))
end
end
section
open Tryz
open Go Go.RowKit
variable {a:Act}{aA:Array Bool}{ops:Array Oper}{Q:Exit->Act->Nb->Prop}{aB:Nat}{P:Program}{md:Region.Mode}{w:Nb}{S:Nb->Prop}
theorem OZ{z:Nat}(i:Nat){b:Oper}(v:Nc)(g:ops[i]?=some b)(l:YieldsIf P ops S b v a)(e:S w)
  (h:TA P md ops Q S z aB (aA.setIfInBounds i true) (a.put b.dst v) w)(k:Region.noSelect ops=true:=by kernel_rfl)(f:Region.free md ops aA i=true:=by kernel_rfl)(j:(Region.ready md ops aA).contains i=true:=by kernel_rfl)(m:jr md ops z i=true:=by kernel_rfl)
  (d:∀c a w,Q (.panic c) (a.put b.dst v) w->Q (.panic c) a w:=by exactλ_ _ _ h=>h):TA P md ops Q S z (aB+1) aA a w:=nF g k f j m d l e h
theorem NN{z:Nat}(i:Nat){b:Oper}(v:Nc)(g:ops[i]?=some b)(e:S w)
  (h:TA P md ops Q S z aB (aA.setIfInBounds i true) (a.put b.dst v) w)(l:YieldsIf P ops S b v a:=by exact BO ⟨ρ,λw hw=>by(repeat (obtain⟨_,hw⟩:=hw));go_simp⟩)(k:Region.noSelect ops=true:=by kernel_rfl)(f:Region.free md ops aA i=true:=by kernel_rfl)(j:(Region.ready md ops aA).contains i=true:=by kernel_rfl)(m:jr md ops z i=true:=by kernel_rfl)
  (d:∀c a w,Q (.panic c) (a.put b.dst v) w->Q (.panic c) a w:=by exactλ_ _ _ h=>h):TA P md ops Q S z (aB+1) aA a w:=nF g k f j m d l e h
theorem PH{z:Nat}(i:Nat){o:Oper}(c:ops[i]?=some o)
  (h:∀b:Act->Nb->Prop,Shut (∀a w,S w->(S w->TA P md ops Q S z aB (aA.setIfInBounds i true) a w)->b a w)->if Region.wanted o (yielded ops a.tmps)=true then Oper.wp P o a w b Q else b (a.put o.dst undef) w)
  (b:Region.ready md ops aA=[i]:=by kernel_rfl):TA P md ops Q S z (aB+1) aA a w:=RT b σ (AllReadyT.cons c h AllReadyT.nil)
end
section
open Tryz
open Go.RowKit
variable {p:Int}{cs xs:List Nc}{R X base c k m n size:Nat}{a:M6}{g0 r:Option Nat}{e:TypeId}{v y:Nc}{w w' w0 wS wr:Nb}
structure Grow(wS wr:Nb)(g0:Option Nat)(base:Nat)(e:TypeId)(size:Nat)(v:Nc)(n:Nat)(xs:List Nc):Prop where
 own:wr.ownsRow base e size v n xs
 gb:wS.grownBy wr g0
 at_:∀k,v.ownBlock=some k->g0=some k\/wS.heap.size<=k
theorem Grow.start(h:w.ownsRow base e size v n xs):Grow w w v.ownBlock base e size v n xs:=⟨h,BY _ _,λk b=>.inl b⟩
theorem Grow.I(h:Grow wS wr g0 base e size v n xs)(b:Below wr.heap.size wr w'):Grow wS w' g0 base e size v n xs :=⟨NC h.own b,⟨b.os.j h.gb.os,b.tape.j h.gb.tape,b.output.j h.gb.output,AK h.gb.size b.size,λk d f=>(b.block k (AD d h.gb.size)).j (h.gb.block k d f)⟩,h.at_⟩
theorem vJ{i:Nb}(h:wS.grownBy wr g0)(b:wr.grownBy i r)(j:∀k,r=some k->g0=some k\/wS.heap.size<=k):wS.grownBy i g0 :=⟨b.os.j h.os,b.tape.j h.tape,b.output.j h.output,AK h.size b.size,λk g d=>(b.block k (AD g h.size) (λe=>by
  rcases j k e.symm with f|f
  ·exact d f.symm
  ·omega)).j (h.block k g d)⟩
theorem Grow.push{g:Nb}{b:Nc}{j H:Nat}{i:List Nc}(h:Grow wS wr g0 base e size v n xs)(l:g.ownsRow base e size b j i)(s:wr.grownBy g v.ownBlock)(o:v.ownBlock=b.ownBlock\/b.ownBlock=some H)(q:wr.heap.size<=H):Grow wS g g0 base e size b j i :=⟨l,vJ h.gb s h.at_,λk f=>by
  rcases o with d|d
  ·exact h.at_ k (d.j f)
  rw[d]at f;cases f;exact .inr (AK h.gb.size q)⟩
theorem Grow.j{i:Nb}{g:Nc}{f:Nat}{d:List Nc}(h:Grow wS i g0 base e size v n xs)(k:Grow i wr v.ownBlock base e size g f d):Grow wS wr g0 base e size g f d :=⟨k.own,vJ h.gb k.gb h.at_,λj l=>by
  rcases k.at_ j l with b|b
  ·exact h.at_ j b
  exact .inr (AK h.gb.size b)⟩
theorem YE(b:w.grownBy w' r)(g:n<=w.heap.size)(d:∀k,r=some k->n<=k):Below n w w' :=⟨b.os,b.tape,b.output,b.size,λk f=>b.block k ω (λe=>by have:=d k e.symm;omega)⟩
theorem qZ(h:w.drew.grownBy w' r):w.grownBy w' r:=⟨h.os,h.tape,h.output,h.size,h.block⟩
def TH(r:Y):Nc:=match pc r with|none=>.tuple #[Mz ⟨#[]⟩,Mz ⟨#[]⟩,M0 false]|some (k,m)=>.tuple #[Mz k,Mz m,M0 true]
theorem XX(r:Y)(h:0<r.size):(r[0]'h).toNat=b0 r:=by
 unfold b0;have b:0<r.data.toList.length:=h;rw[AZ,BQ b];rfl
theorem bd(r:Y)(w:Nb)(A:r.size<=1048576):Calls prog 221 #[Mz r] w λe w'=>e=M3 (TH r)/\Below w.heap.size w w':=by
 by_cases l:0<r.size
 ·have o:=XX r l
  obtain⟨b,d⟩:∃b,b=b0 r:=⟨_,rfl⟩;obtain⟨e,h⟩:∃e,e=1+b:=⟨_,rfl⟩;have u:b<=255:=by rw[d];exact jq r
  rw[<-d]at o;have x:(1:Int)<=(r.size:Int):=ω
  have j:r.toList.isEmpty=false:=by rw[VP];exact AI ω
  have z:(1:Int)+(b:Int)=(e:Int):=ω
  have q:(0:Int)<=(e:Int):=ω
  have s:(1:Int)<=(e:Int):=ω
  have t:IntKind.i64.wrap (e:Int)=(e:Int):=by simp[IntKind.wrap,IntKind.bits,IntKind.signed];omega
  by_cases g:1+b<=r.size
  ·have f:Hid (TH r=.tuple #[Mz (r.extract 1 e),Mz (r.extract e r.size),M0 true]):=by
    show _=_;unfold TH pc;rw[<-d,AE ⟨ω,g⟩,<-h]
   have i:(e:Int)<=(r.size:Int):=ω
   clear d g h;go_enter func221,ntmps221;go_wp2;go_quiet (fail);go_wp2;go_ret3;exact⟨by rw[f.l];rfl,below_drewN (AB _ _) _⟩
  have f:Hid (TH r=.tuple #[Mz ⟨#[]⟩,Mz ⟨#[]⟩,M0 false]):=by
   show _=_;unfold TH pc;rw[<-d,AG ω]
  have i:(r.size:Int)<(e:Int):=ω
  clear d g h;go_enter func221,ntmps221;go_wp2;go_ret3;exact⟨by rw[f.l];rfl,AB _ _⟩
 have f:Hid (TH r=.tuple #[Mz ⟨#[]⟩,Mz ⟨#[]⟩,M0 false]):=by
  show _=_;unfold TH pc;rw[AG ω]
 have b:(r.size:Int)<1:=ω
 have j:r.toList.isEmpty=true:=by rw[VP];exact AL ω
 go_enter func221,ntmps221;go_wp2;go_ret3;exact⟨by rw[f.l];rfl,AB _ _⟩
theorem ae(r:Y)(w:Nb)(A:r.size<=1048576):Calls prog 219 #[Mz r] w λe w'=>e=M3 (TH r)/\Below w.heap.size w w':=by
 by_cases l:0<r.size
 ·have o:=XX r l
  obtain⟨b,d⟩:∃b,b=b0 r:=⟨_,rfl⟩;obtain⟨e,h⟩:∃e,e=1+b:=⟨_,rfl⟩;have u:b<=255:=by rw[d];exact jq r
  rw[<-d]at o;have x:(1:Int)<=(r.size:Int):=ω
  have j:r.toList.isEmpty=false:=by rw[VP];exact AI ω
  have z:(1:Int)+(b:Int)=(e:Int):=ω
  have q:(0:Int)<=(e:Int):=ω
  have s:(1:Int)<=(e:Int):=ω
  have t:IntKind.i64.wrap (e:Int)=(e:Int):=by simp[IntKind.wrap,IntKind.bits,IntKind.signed];omega
  by_cases g:1+b<=r.size
  ·have f:Hid (TH r=.tuple #[Mz (r.extract 1 e),Mz (r.extract e r.size),M0 true]):=by
    show _=_;unfold TH pc;rw[<-d,AE ⟨ω,g⟩,<-h]
   have i:(e:Int)<=(r.size:Int):=ω
   clear d g h;go_enter func219,ntmps219;go_wp2;go_quiet (fail);go_wp2;go_ret3;exact⟨by rw[f.l];rfl,below_drewN (AB _ _) _⟩
  have f:Hid (TH r=.tuple #[Mz ⟨#[]⟩,Mz ⟨#[]⟩,M0 false]):=by
   show _=_;unfold TH pc;rw[<-d,AG ω]
  have i:(r.size:Int)<(e:Int):=ω
  clear d g h;go_enter func219,ntmps219;go_wp2;go_ret3;exact⟨by rw[f.l];rfl,AB _ _⟩
 have f:Hid (TH r=.tuple #[Mz ⟨#[]⟩,Mz ⟨#[]⟩,M0 false]):=by
  show _=_;unfold TH pc;rw[AG ω]
 have b:(r.size:Int)<1:=ω
 have j:r.toList.isEmpty=true:=by rw[VP];exact AL ω
 go_enter func219,ntmps219;go_wp2;go_ret3;exact⟨by rw[f.l];rfl,AB _ _⟩
theorem XC{o:Obj}(h:Below (w.alloc o).heap.size (w.alloc o) w'):Below w.heap.size w w':=(LO _ _).j (h.z σ)
def ek(r:Y):Option (Ch×Y):=if 1<b0 r then none else RM r
def pJ(o:Option (Ch×Y))(e:Ending):Prop:=match o with
 | none=>∃k v g b,e=.returned (.tuple #[.agg #[.string k,.string v,.bool g],.string b,.bool false])
 | some (c,r')=>e=.returned (.tuple #[.agg #[.string c.1,.string c.2.1,.bool c.2.2],.string r',.bool true])
theorem fj{r:Y}(h:pc r=none):TH r=.tuple #[Mz ⟨#[]⟩,Mz ⟨#[]⟩,M0 false]:=by unfold TH;rw[h]
theorem eg{r k m:Y}(h:pc r=some (k,m)):TH r=.tuple #[Mz k,Mz m,M0 true]:=by unfold TH;rw[h]
def Jj(k n:Nat):List Y:=(List.range n).map λi=>Dx (k+i)
def mixed(k i:Nat)(b:List Y):List Nc:=(Jj k i++b.drop i).map Value.string
section
structure RI(W w:Nb)(c0 c1 c2 c3:Nc):Prop where
 size:W.heap.size+2<=w.heap.size
 bel:Below W.heap.size W w
 b0:w.cell? ⟨W.heap.size,0,none⟩=some c0
 b1:w.cell? ⟨W.heap.size,1,none⟩=some c1
 b2:w.cell? ⟨W.heap.size,2,none⟩=some c2
 b3:w.cell? ⟨W.heap.size,3,none⟩=some c3
section
variable {W w w':Nb} {c0 c1 c2 c3:Nc}
theorem RI.drew(h:RI W w c0 c1 c2 c3):RI W w.drew c0 c1 c2 c3:=⟨h.size,h.bel.drew,h.b0,h.b1,h.b2,h.b3⟩
theorem RI.past(h:RI W w c0 c1 c2 c3)(b:Below (W.heap.size+1) w w'):RI W w' c0 c1 c2 c3 :=have d:=h.size
 ⟨AK d b.size,h.bel.j (b.z ω),(b.cell (p:=⟨_,0,none⟩) (by show W.heap.size<_;omega)).j h.b0,(b.cell (p:=⟨_,1,none⟩) (by show W.heap.size<_;omega)).j h.b1,
  (b.cell (p:=⟨_,2,none⟩) (by show W.heap.size<_;omega)).j h.b2,(b.cell (p:=⟨_,3,none⟩) (by show W.heap.size<_;omega)).j h.b3⟩
theorem RI.I(h:RI W w c0 c1 c2 c3)(b:Below w.heap.size w w'):RI W w' c0 c1 c2 c3:=h.past (b.z (by have:=h.size;omega))
theorem RI.wrote{o:Nat}{d:List Int}(h:RI W w c0 c1 c2 c3)(b:Wrote w w' (W.heap.size+1) o d):RI W w' c0 c1 c2 c3:=h.past (b.I (AA _))
theorem RI.toS(h:RI W w c0 c1 c2 c3):w.cell? ⟨W.heap.size,0,none⟩=some c0/\w.cell? ⟨W.heap.size,1,none⟩=some c1/\w.cell? ⟨W.heap.size,2,none⟩=some c2/\w.cell? ⟨W.heap.size,3,none⟩=some c3/\RI W w c0 c1 c2 c3:=⟨h.b0,h.b1,h.b2,h.b3,h⟩
theorem RI.ofS(h:w.cell? ⟨W.heap.size,0,none⟩=some c0/\w.cell? ⟨W.heap.size,1,none⟩=some c1/\w.cell? ⟨W.heap.size,2,none⟩=some c2/\w.cell? ⟨W.heap.size,3,none⟩=some c3/\RI W w c0 c1 c2 c3):RI W w c0 c1 c2 c3:=h.2.2.2.2
end
theorem Le{P:Program}{c:Code}{Q:Exit->Act->Nb->Prop}{a:Act}(w:Nb)(d f g j:Nc)(l o:TypeId)
  (h:∀b,RI w b d f g j->Fm b (w.heap.size+1) [0,0,0,0,0]->c.wp P Q a b):c.wp P Q a ((w.alloc (.cells #[d,f,g,j] l)).alloc (.cells #[.int .u8 0,.int .u8 0,.int .u8 0,.int .u8 0,.int .u8 0] o)):=by
 refine h _ ⟨σ,(LO _ _).alloc σ _,σ,σ,σ,σ⟩ ⟨λi b=>?_,λi b=>?_⟩
 ·rw[EL _ _ _ _ σ]
  have q:i<5:=b;have:i=0\/i=1\/i=2\/i=3\/i=4:=ω
  rcases this with h|h|h|h|h<;>subst h<;>rfl
 rw[DQ,DQ]
 exact XR _ _ _ ω
theorem Ee(h f:Int){b d:List Int}(g:b=QP [0,0,0,0,0] 0 (be 1 h))(i:d=QP b 1 (be 4 f)):strOfNums d=SU h f:=by
 have j:(be 1 h).length=1:=PV _ _;have l:(be 4 f).length=4:=PV _ _;unfold SU;rw[<-UJ];subst g i
 congr 1
theorem Mq(t h f l n:Int)(w:Nb)(g:¬UL h f):Calls prog 201 #[ON t h f l,.int .i64 n] w λe w'=>e=M3 (Mz empty)/\Below w.heap.size w w':=by
 have i:∀o,Below w.heap.size w (w.alloc o):=λo=>LO _ _
 unfold UL at g
 by_cases b:0<=h/\h<=1
 ·have d:decide (0<=h/\h<=1)=true:=AL b
  have j:decide (1<=f/\f<=999999000)=false:=τ
  clear g b;go_enter func201,ntmps201
  go_wp2_with (first|(go_at_call 197;refine(uw _ _).z ?_;rw[d];rintro e o ⟨rfl,rfl⟩)|(go_at_call 198;refine(m5 _ _).z ?_;rw[j];rintro e q ⟨rfl,rfl⟩))
  go_ret;exact⟨rfl,i _⟩
 have d:decide (0<=h/\h<=1)=false:=AI b
 clear g b;go_enter func201,ntmps201
 go_wp2_with (first|(go_at_call 197;refine(uw _ _).z ?_;rw[d];rintro e o ⟨rfl,rfl⟩))
 go_ret;exact⟨rfl,i _⟩
set_option maxRecDepth 4000 in
theorem Iq(t h f l n:Int)(w:Nb)(U:UL h f):Calls prog 201 #[ON t h f l,.int .i64 n] w λe w'=>e=M3 (Mz (MM 4 l t (SU h f) n))/\Below w.heap.size w w':=by
 obtain⟨h1,h2,h3,h4⟩:=U;have W:decide (0<=h/\h<=1)=true:=τ
 have d2:decide (1<=f/\f<=999999000)=true:=τ
 have u1:IntKind.u64.wrap h=h:=XU h ω ω;have u2:IntKind.u64.wrap f=f:=XU f ω ω;obtain⟨d,K⟩:∃d,Hid (d=SU h f):=⟨_,QV rfl⟩;rw[<-K.l];go_enter func201,ntmps201
 go_wp2_with (first|(go_at_call 197;refine(uw _ _).z ?_;rw[W];rintro e w1 ⟨rfl,rfl⟩)|(go_at_call 198;refine(m5 _ _).z ?_;rw[d2];rintro e w2 ⟨rfl,rfl⟩))
 refine Le w (.int .i64 t) (.int .i64 h) (.int .i64 f) (.int .i64 l) _ _ ?_;intro wa F s;have L:=QV F.toS;clear F
 go_region_held3 (λw'=>w'.cell? ⟨w.heap.size,0,none⟩=some (.int .i64 t)/\w'.cell? ⟨w.heap.size,1,none⟩=some (.int .i64 h)/\w'.cell? ⟨w.heap.size,2,none⟩=some (.int .i64 f)/\w'.cell? ⟨w.heap.size,3,none⟩=some (.int .i64 l)/\RI w w' (.int .i64 t) (.int .i64 h) (.int .i64 f) (.int .i64 l))
  (first|assumption|exact(RI.ofS L.l).drew.toS|exact(RI.wrote (RI.ofS (by assumption)) (by assumption)).toS)
  (first|(go_at_call 139;refine(bk (w.heap.size+1) 0 1 5 h _ ω ω ω (λi E=>⟨_,s.drew.cell (0+i) τ⟩) (λi E=>s.drew.froz (0+i) τ)).z ?_;rintro e wb ⟨rfl,O⟩))
 have G:RI w wb (.int .i64 t) (.int .i64 h) (.int .i64 f) (.int .i64 l):=RI.ofS (by assumption);have g:=s.drew.wrote O (by rw[PV];simp);obtain⟨x,B⟩:∃x,Hid (x=QP [0,0,0,0,0] 0 (be 1 h)):=⟨_,QV rfl⟩;have j:x.length=5:=by rw[B.l,je _ _ _ (by rw[PV];simp)];rfl
 rw[<-B.l]at g;clear L O s;go_wp2_with fail;have M:=QV G.toS;clear G
 go_region_held3 (λw'=>w'.cell? ⟨w.heap.size,0,none⟩=some (.int .i64 t)/\w'.cell? ⟨w.heap.size,1,none⟩=some (.int .i64 h)/\w'.cell? ⟨w.heap.size,2,none⟩=some (.int .i64 f)/\w'.cell? ⟨w.heap.size,3,none⟩=some (.int .i64 l)/\RI w w' (.int .i64 t) (.int .i64 h) (.int .i64 f) (.int .i64 l))
  (first|assumption|exact(RI.ofS M.l).drew.toS|exact(RI.wrote (RI.ofS (by assumption)) (by assumption)).toS)
  (first|(go_at_call 139;refine(bk (w.heap.size+1) 1 4 4 f _ ω ω ω (λi E=>⟨_,g.drew.cell (1+i) (by rw[j];omega)⟩) (λi E=>g.drew.froz (1+i) (by rw[j];omega))).z ?_;rintro e wc ⟨rfl,P⟩))
 have H:RI w wc (.int .i64 t) (.int .i64 h) (.int .i64 f) (.int .i64 l):=RI.ofS (by assumption);have A:=g.drew.wrote P (by rw[PV,j];omega);obtain⟨o,C⟩:∃o,Hid (o=QP x 1 (be 4 f)):=⟨_,QV rfl⟩;have T:o.length=5:=by rw[C.l,je _ _ _ (by rw[PV,j];omega),j]
 rw[<-C.l]at A;have D:strOfNums o=SU h f:=Ee h f B.l C.l;rw[<-K.l]at D;have V:d.size<=1048576:=by rw[<-D,CJ,T];omega
 have N:∀z,Fm z (w.heap.size+1) o->(convert 22 9 (.slice (Mw (w.heap.size+1) 0) 5 5)).run prog z=.ok (Mz d) z:=λz hf=>by
  have:=hf.text (P:=prog) 22 5 9 underlying22 underlying5 underlying9 0 5 5 ω;rw[FD,AQ ω,D]at this;exact this
 have I:=QV N;have J:=QV A;clear M P g A N;go_wp2_with fail;have b:=QV H.toS;clear H;have Q:w.heap.size+1<wc.heap.size:=by have:=(RI.ofS b.l).size;omega
 go_region_held3 (λw'=>(convert 22 9 (.slice (Mw (w.heap.size+1) 0) 5 5)).run prog w'=.ok (Mz d) w'/\w'.cell? ⟨w.heap.size,0,none⟩=some (.int .i64 t)/\w'.cell? ⟨w.heap.size,3,none⟩=some (.int .i64 l)/\RI w w' (.int .i64 t) (.int .i64 h) (.int .i64 f) (.int .i64 l))
  (first|assumption|exact⟨I.l _ J.l.drew,(RI.ofS b.l).drew.b0,(RI.ofS b.l).drew.b3,(RI.ofS b.l).drew⟩|exact⟨I.l _ (J.l.drew.I u Q),((RI.ofS b.l).drew.I u).b0,((RI.ofS b.l).drew.I u).b3,(RI.ofS b.l).drew.I u⟩)
  (first|(go_at_call 202;refine(eo 4 l t d n _ V).z ?_;rintro e w4 ⟨rfl,u⟩))
 rename_i q;have S:=q.2.2.2.bel;clear q;go_wp2;go_ret;exact⟨rfl,S⟩
theorem uI(t h f l n:Int)(w:Nb):Calls prog 201 #[ON t h f l,.int .i64 n] w λe w'=>e=M3 (Mz (MZ t h f l n))/\Below w.heap.size w w':=by
 unfold MZ
 by_cases b:UL h f
 ·rw[AE b];exact Iq t h f l n w b
 rw[AG b];exact Mq t h f l n w b
end
section
section
variable {P:Program} {e t:TypeId} {i:TypeInfo} {n:Nat}
theorem sW(b:∀w,(isAgg e).run P w=.ok false w)(xs:List Int)(j:Nat)(d:j<xs.length)(w:Nb):(part e (xs.map (Value.int .u8)).toArray j).run P w=.ok (.int .u8 (xs.getD j 0)) w:=by
 unfold part;simp[b,Result.andThen,d,List.getD]
theorem Gt(f:P.underlying e=some (.int .u8))(d:Nat)(a b:Int)(w:Nb):(Op.equalIn (d+1) e (.int .u8 a) (.int .u8 b)).run P w=.ok (a == b) w:=by
 simp[Op.equalIn,GG f,Result.andThen]
theorem pF(he:∀w,(isAgg e).run P w=.ok false w)(hu:P.underlying e=some (.int .u8))(d:Nat)(xs ys:List Int)(w:Nb):∀(js:List Nat),(∀j∈js,j<xs.length/\j<ys.length)->(Op.eqItems (d+1) e 1 (xs.map (Value.int .u8)).toArray (ys.map (Value.int .u8)).toArray js).run P w=.ok (js.all λj=>xs.getD j 0 == ys.getD j 0) w
 | [],_=>by simp[Op.eqItems]
 | j::js,h=>by
  have hj:=h j (EE);have ih:=pF he hu d xs ys w js (λq hq=>h q (DO _ hq));simp only[Op.eqItems,IF,KM,sW he xs j hj.1,sW he ys j hj.2,Gt hu,IP]
  cases hc:(xs.getD j 0 == ys.getD j 0) with
  | false=>simp only[Bool.not_false,IH,JK,List.all_cons,hc,Bool.false_and]
  | true=>simp only[Bool.not_true,FH,IS,ih,List.all_cons,hc,IJ]
theorem Ah(xs b:List Int)(g:xs.length=b.length):((List.range xs.length).all λj=>xs.getD j 0 == b.getD j 0)=decide (xs=b):=by
 rw[IY];simp only[EH,GP,beq_iff_eq,AT]
 constructor
 ·intro h
  apply KR g
  intro j d f;have:=h j d;simpa[List.getD,d,f] using this
 intro h j d;rw[h]
theorem Ex(q:P.underlying t=some (.array n e))(l:P.info? e=some i)(f:P.cellsOf e=1)(g:∀w,(isAgg e).run P w=.ok false w)(d:P.underlying e=some (.int .u8))(xs b:List Int)(s:xs.length=n)(u:b.length=n)(w:Nb):(binOp .neq t (.agg (xs.map (Value.int .u8)).toArray) (.agg (b.map (Value.int .u8)).toArray)).run P w=.ok (M0 (!decide (xs=b))) w:=by
 have h:=run_equalIn_array (w:=w) 9999 (xs.map (Value.int .u8)).toArray (b.map (Value.int .u8)).toArray q l;rw[f,<-s,pF g d 9998 xs b w (List.range xs.length) (λj o=>by have:=GP.1 o;omega),Ah xs b ω]at h;simp only[binOp];simp[Op.equal,Op.maxDepth,h,Result.andThen]
end
end
theorem mR(w:Nb)(o:Obj):(w.alloc o).heap[w.heap.size]?=some o:=by
 show(w.heap.push o)[w.heap.size]?=some o;simp
theorem Ib(w:Nb)(C:Array Nc)(e:TypeId)(n i:Nat)(h:i<n):(w.alloc (.cells C e (n,n+1))).frozen? ⟨w.heap.size,i,none⟩=false:=by
 simp only[World.frozen?,mR];simp;omega
theorem Es(w:Nb)(C:Array Nc)(e:TypeId)(b:Nat×Nat)(i:Nat):(w.alloc (.cells C e b)).cell? ⟨w.heap.size,i,none⟩=C[i]?:=by
 simp only[World.cell?,mR];simp
theorem Jd(w:Nb)(p:Y):∃b d,(convert 9 22 (Mz p)).run prog w=.ok (.slice (Mw w.heap.size 0) p.size b) d/\Below w.heap.size w d/\d.heap.size=w.heap.size+1/\Fm d w.heap.size (LI p)/\p.size<=b:=by
 refine⟨_,_,run_bytes_of_string w _ _ 5 p underlying9 underlying22 underlying5,((AB _ _).drew).alloc (AA _) _,σ,⟨λi b=>?_,λi b=>?_⟩,JG _ _ _ _⟩
 ·rw[NH]at b
  refine(Es w.drew _ _ _ i).j ?_;rw[bytesRow_at p _ i b];have d:i<p.data.toList.length:=b;simp only[AZ,LI,JI,BQ d];rfl
 rw[NH]at b
 exact Ib w.drew _ _ _ i (by unfold bytesRow;simp;omega)
theorem Gi(a b:Nat)(g:a<4611686018427387904)(h:b<4611686018427387904):bits .xor .i64 (a:Int) (b:Int)=((a ^^^ b:Nat):Int):=by
 have i:a ^^^ b<2 ^ 62:=Nat.xor_lt_two_pow ω ω
 have d:(BitVec.ofInt 64 (a:Int)).toNat=a:=by
  rw[BitVec.ofInt_natCast,BitVec.toNat_ofNat];exact Nat.mod_eq_of_lt ω
 have f:(BitVec.ofInt 64 (b:Int)).toNat=b:=by
  rw[BitVec.ofInt_natCast,BitVec.toNat_ofNat];exact Nat.mod_eq_of_lt ω
 show IntKind.i64.wrap ((BitVec.ofInt 64 (a:Int) ^^^ BitVec.ofInt 64 (b:Int)).toNat:Int)=_;rw[BitVec.toNat_xor,d,f];simp[IntKind.wrap,IntKind.bits,IntKind.signed];omega
structure Rdr(w:Nb)(R:Nat)(a:M6)(n c:Nat)(p:Int):Prop where
 b:w.cell? ⟨R,0,none⟩=some (.slice a n c)
 pc:w.cell? ⟨R,1,none⟩=some (.int .i64 p)
 f:w.frozen? ⟨R,1,none⟩=false
 bytes:∃g o,(n=0\/a=Mw g o)/\∀i,i<n->g≠R/\∃x:Int,w.cell? ⟨g,o+i,none⟩=some (.int .u8 x)/\0<=x/\x<=255
 p0:0<=p
 p1:p<=100000000
 n1:n<=2000
theorem QQ(x:Int)(b:-9223372036854775808<=x)(d:x<=9223372036854775807):IntKind.i64.wrap x=x:=by
 simp[IntKind.wrap,IntKind.bits,IntKind.signed];omega
theorem I2(R:Nat)(a:M6)(n c:Nat)(p m:Int)(w:Nb)(h:Rdr w R a n c p):Calls prog 23 #[Mv R 0,.int .i64 m] w λe w'=>(∃v,e=M3 (.int .i64 v)/\0<=v/\(v=0\/v<m))/\(w'=w.setCell ⟨R,1,none⟩ (.int .i64 (p+1))\/w'=(w.setCell ⟨R,1,none⟩ (.int .i64 (p+1))).drew):=by
 have hb:=h.b;have hp:=h.pc;have hf:=h.f;have p0:=h.p0;have p1:=h.p1;have n1:=h.n1;obtain⟨g,o,H,d⟩:=h.bytes;have b:=Z d;clear h d;have P:IntKind.i64.wrap (p+1)=p+1:=by simp[IntKind.wrap,IntKind.bits,IntKind.signed];omega
 by_cases hm:m<1
 ·go_enter func23,ntmps23
  go_wp2;go_ret;exact⟨⟨0,rfl,ω,.inl rfl⟩,.inl rfl⟩
 by_cases z:n=0
 ·subst z
  go_enter func23,ntmps23;go_wp2;go_ret;exact⟨⟨0,rfl,ω,.inl rfl⟩,.inl rfl⟩
 obtain rfl:a=Mw g o:=H.resolve_left z
 have O:¬((n:Int)=0):=ω
 by_cases hk:p<(n:Int)
 ·obtain⟨k,rfl⟩:∃k:Nat,p=(k:Int):=⟨p.toNat,ω⟩
  obtain⟨j,x,l,B,C⟩:=b.l k ω;have u:(w.setCell ⟨R,1,none⟩ (.int .i64 ((k:Int)+1))).cell? ⟨g,o+k,none⟩=some (.int .u8 x):=(DC _ _ _ _ (λe=>j e.symm)).j l;go_enter func23,ntmps23;go_wp2;go_ret;exact⟨⟨x % m,rfl,Int.emod_nonneg _ ω,.inr (Int.emod_lt_of_pos _ ω)⟩,.inl rfl⟩
 obtain⟨k,rfl⟩:∃k:Nat,p=(k:Int):=⟨p.toNat,ω⟩
 obtain⟨f,s⟩:∃f:Nat,(k:Int) % (n:Int)=(f:Int):=⟨k % n,σ⟩;obtain⟨i,t⟩:∃i:Nat,((k:Int)*7+3) % (n:Int)=(i:Int):=⟨(k*7+3) % n,σ⟩;have I:f<n:=by have:=Int.emod_lt_of_pos (k:Int) (b:=(n:Int)) ω;omega
 have J:i<n:=by have:=Int.emod_lt_of_pos ((k:Int)*7+3) (b:=(n:Int)) ω;omega
 obtain⟨j,x,l,B,C⟩:=b.l f I;obtain⟨_,y,E,U,W⟩:=b.l i J;have u:(w.setCell ⟨R,1,none⟩ (.int .i64 ((k:Int)+1))).cell? ⟨g,o+f,none⟩=some (.int .u8 x):=(DC _ _ _ _ (λe=>j e.symm)).j l;have F:(w.setCell ⟨R,1,none⟩ (.int .i64 ((k:Int)+1))).cell? ⟨g,o+i,none⟩=some (.int .u8 y):=(DC _ _ _ _ (λe=>j e.symm)).j E;obtain⟨q,d⟩:∃q:Int,(k:Int) / (n:Int)=q:=⟨_,rfl⟩;have Q:0<=q:=by rw[<-d];exact Int.ediv_nonneg ω ω
 have S:q<=(k:Int):=by rw[<-d];exact Int.ediv_le_self _ ω
 have K:(k:Int).tmod (n:Int)=(f:Int):=by rw[EK ω];exact s
 have L:((k:Int)*7+3).tmod (n:Int)=(i:Int):=by rw[EK ω];exact t
 have T:(k:Int).tdiv (n:Int)=q:=by rw[Int.tdiv_eq_ediv_of_nonneg ω];exact d
 have aZ:(f:Int)<(n:Int):=ω
 have bC:(i:Int)<(n:Int):=ω
 have w1:IntKind.i64.wrap ((k:Int)*7)=(k:Int)*7:=by simp[IntKind.wrap,IntKind.bits,IntKind.signed];omega
 have w2:IntKind.i64.wrap ((k:Int)*7+3)=(k:Int)*7+3:=by simp[IntKind.wrap,IntKind.bits,IntKind.signed];omega
 clear b s t d;go_enter func23,ntmps23;go_wp2;have A:(w.setCell ⟨R,1,none⟩ (.int .i64 ((k:Int)+1))).cell? ⟨R,0,none⟩=some (.slice (Mw g o) n c):=γ
 have t:=Z (AH A (AH u F))
 go_region_held3 (λw'=>w'.cell? ⟨R,0,none⟩=some (.slice (Mw g o) n c)/\w'.cell? ⟨g,o+f,none⟩=some (.int .u8 x)/\w'.cell? ⟨g,o+i,none⟩=some (.int .u8 y))
  (first|assumption|exact t.l)
  (fail)
 obtain⟨V,b⟩:∃V,IntKind.i64.wrap (IntKind.i64.wrap (IntKind.i64.wrap (IntKind.i64.wrap (IntKind.i64.wrap x*131)+IntKind.i64.wrap (IntKind.i64.wrap y*1117))+IntKind.i64.wrap ((k:Int)*29))+IntKind.i64.wrap (IntKind.i64.wrap q*53))=V:=⟨_,rfl⟩
 have d:V=x*131+y*1117+(k:Int)*29+q*53:=by
  rw[<-b,QQ x ω ω,QQ y ω ω,QQ q ω ω,QQ (x*131) ω ω,QQ (y*1117) ω ω,QQ ((k:Int)*29) ω ω,QQ (q*53) ω ω,QQ (x*131+y*1117) ω ω,QQ (x*131+y*1117+(k:Int)*29) ω ω,QQ (x*131+y*1117+(k:Int)*29+q*53) ω ω]
 rw[b];have M:0<=V:=ω
 have N:V<=1000000000000:=ω
 clear b d;obtain⟨d,rfl⟩:∃d:Nat,V=(d:Int):=⟨V.toNat,ω⟩
 have D:bits .xor .i64 (d:Int) ((d:Int) / 64)=((d ^^^ (d / 64):Nat):Int):=by
  have e:((d:Int) / 64)=((d / 64:Nat):Int):=ω
  rw[e];exact Gi d (d / 64) ω ω
 obtain⟨b,G⟩:∃b:Nat,d ^^^ (d / 64)=b:=⟨_,rfl⟩;rw[G]at D;have s:((b:Int)).tmod m=(b:Int) % m:=EK ω;go_wp2;go_ret;refine⟨⟨(b:Int) % m,?_,Int.emod_nonneg _ ω,.inr (Int.emod_lt_of_pos _ ω)⟩,.inr rfl⟩
 first|rfl|(rw[<-s];rfl)|(simp[s])
theorem Rdr.set(h:Rdr w R a n c p)(q:Int)(u:0<=q)(z:q<=100000000):Rdr (w.setCell ⟨R,1,none⟩ (.int .i64 q)) R a n c q:=by
 obtain⟨g,o,j,t⟩:=h.bytes;refine⟨(CZ w ⟨R,1,none⟩ ⟨R,0,none⟩ _ (λe=>absurd (CX Addr.off e) (by show ¬(1=0);decide))).j h.b,FK w _ _ h.pc,by rw[BS];exact h.f,⟨g,o,j,λi s=>?_⟩,u,z,h.n1⟩;obtain⟨b,x,l,d,f⟩:=t i s;exact⟨b,x,(DC _ _ _ _ (λe=>b e.symm)).j l,d,f⟩
theorem Rdr.drew(h:Rdr w R a n c p):Rdr w.drew R a n c p:=⟨h.b,h.pc,h.f,h.bytes,h.p0,h.p1,h.n1⟩
theorem tZ(w:Nb)(R:Nat)(v:Nc):w.grownBy (w.setCell ⟨R,1,none⟩ v) (some R) :=⟨rfl,rfl,rfl,by rw[BH];exact AA _,λi d b=>BF _ _ _ _ (λe=>b (CX some e))⟩
theorem PZ(R:Nat)(a:M6)(n c:Nat)(p m:Int)(w:Nb)(h:Rdr w R a n c p)(f:p<100000000):Calls prog 23 #[Mv R 0,.int .i64 m] w λe w'=>(∃v,e=M3 (.int .i64 v)/\0<=v/\(v=0\/v<m))/\Rdr w' R a n c (p+1)/\w.grownBy w' (some R):=by
 have g:=h.p0
 refine(I2 R a n c p m w h).z λe w' d=>?_
 obtain⟨hv,rfl|rfl⟩:=d
 ·exact⟨hv,h.set (p+1) ω ω,tZ w R _⟩
 refine⟨hv,(h.set (p+1) ω ω).drew,?_⟩
 have b:=tZ w R (.int .i64 (p+1));exact⟨b.os,b.tape,b.output,b.size,b.block⟩
def Bys(w:Nb)(a:M6)(n:Nat):Prop:=∃g o,(n=0\/a=Mw g o)/\∀i,i<n->g<w.heap.size/\∃x:Int,w.cell? ⟨g,o+i,none⟩=some (.int .u8 x)/\0<=x/\x<=255
theorem Bys.I(h:Bys w a n)(b:Below w.heap.size w w'):Bys w' a n:=by
 obtain⟨g,o,l,t⟩:=h;refine⟨g,o,l,λi s=>?_⟩;obtain⟨d,x,q,f,j⟩:=t i s;exact⟨AD d b.size,x,(b.cell (p:=⟨g,o+i,none⟩) d).j q,f,j⟩
theorem Bys.rdr(h:Bys w a n)(z:m<=n)(f:m<=2000)(c:Nat)(t:TypeId):Rdr (w.alloc (.cells #[.slice a m c,.int .i64 0] t)) w.heap.size a m c 0:=by
 obtain⟨g,o,j,s⟩:=h;refine⟨σ,σ,?_,⟨g,o,?_,λi u=>?_⟩,ω,ω,f⟩
 ·rw[DQ]
  have e:w.heap[w.heap.size]?=none:=σ
  simp[World.frozen?,e]
 ·rcases j with h|h
  ·exact .inl ω
  exact .inr h
 obtain⟨q,x,l,b,d⟩:=s i ω
 exact⟨ω,x,(FA _ _ _ (by exact q)).j l,b,d⟩
theorem sE(a:M6)(n c:Nat)(w:Nb)(h:Bys w a n)(q:n<=1048576)(l:n<=c):Calls prog 22 #[.slice a n c] w λe w'=>e=M3 (Mv w.heap.size 0)/\(∃m b,Rdr w' w.heap.size a m b 0)/\Below w.heap.size w w':=by
 by_cases f:n<=2000
 ·have d:(n:Int)<=2000:=ω
  go_enter func22,ntmps22;go_wp2;go_ret;exact⟨rfl,⟨n,c,h.rdr (AA _) f c _⟩,LO _ _⟩
 have d:2000<(n:Int):=ω
 have j:(2000:Int)<=(c:Int):=ω
 have b:=Z (h.rdr (m:=2000) ω (AA _) c 107);obtain⟨g,o,i,s⟩:=h;obtain rfl:a=Mw g o:=i.resolve_left ω;go_enter func22,ntmps22;go_wp2;go_ret;exact⟨rfl,⟨2000,c,b.l⟩,LO _ _⟩
theorem bn{g i:Nat}(h:w.cell? ⟨g,i,none⟩=some v):g<w.heap.size:=by
 rcases GF g w.heap.size with b|b
 ·exact b
 exfalso
 have:w.heap[g]?=none:=DU b;simp[World.cell?,this]at h
theorem Rdr.I(h:Rdr w R a n c p)(b:Below w.heap.size w w'):Rdr w' R a n c p:=by
 obtain⟨g,o,s,u⟩:=h.bytes;have d:=bn h.pc;refine⟨(b.cell (p:=⟨R,0,none⟩) d).j h.b,(b.cell (p:=⟨R,1,none⟩) d).j h.pc,(b.frozen (p:=⟨R,1,none⟩) d).j h.f,⟨g,o,s,λi t=>?_⟩,h.p0,h.p1,h.n1⟩;obtain⟨j,x,f,l,q⟩:=u i t;exact⟨j,x,(b.cell (p:=⟨g,o+i,none⟩) (bn f)).j f,l,q⟩
theorem WX{b i:Nat}(f:w.grownBy w' (some R))(d:b≠R)(h:w.cell? ⟨b,i,none⟩=some v):w'.cell? ⟨b,i,none⟩=some v :=(DH (a:=⟨b,i,none⟩) (f.block b (bn h) (λe=>d (by injection e)))).j h
theorem Fb(s:Y)(n:Int)(d:s.size<=64)(h:n<=1000):Hid (s.size*n.toNat+empty.size<=64000):=by
 show _<=_;have b:n.toNat<=1000:=ω
 have f:=Nat.mul_le_mul d b;have g:empty.size=0:=rfl;omega
theorem sU(s:Y)(n:Int)(w:Nb)(z:s.size<=64)(l:n<=1000):Calls prog 160 #[Mz s,.int .i64 n] w λe w'=>(∃t:Y,e=M3 (Mz t)/\t.size<=64000)/\Below w.heap.size w w':=by
 go_enter func160,ntmps160;go_wp2;go_loop [0,1,5] (λf b d=>∃(t u:Y) (m:Int),f=Mz t/\b=.int .i64 m/\d=Mz u/\m<=1000/\Hid (t.size*m.toNat+u.size<=64000)/\t.size<=128000) (λ_ b _=>(intOf b).toNat)
 case atStart=>exact⟨s,empty,n,rfl,rfl,rfl,l,Fb s n z l,ω⟩
 case round =>
  obtain⟨t,u,m,rfl,rfl,rfl,G,d,I⟩:=hrel
  by_cases E:0<m
  ·obtain⟨q,r,j,H⟩:∃q r:Nat,m.toNat=2*q+r/\r<2:=⟨m.toNat / 2,m.toNat % 2,ω,ω⟩
   have B:m=2*(q:Int)+(r:Int):=ω
   have b:=d.l;rw[j,Nat.mul_add]at b;have x:t.size*(2*q)=2*(t.size*q):=by rw[Nat.mul_left_comm]
   rw[x]at b;obtain⟨P,i⟩:∃P,t.size*q=P:=⟨_,rfl⟩;rw[i]at b
   have D:t.size<=64000:=by
    rcases GM r with h|h
    ·subst h
     have f:1<=q:=ω
     have:t.size<=t.size*q:=Nat.le_mul_of_pos_right _ f;omega
    have:t.size*1<=t.size*r:=Nat.mul_le_mul_left _ h
    omega
   have J:¬(9223372036854775807<t.size+t.size):=ω
   have F:m.tdiv 2=(q:Int):=by rw[Int.tdiv_eq_ediv_of_nonneg ω];omega
   have A:m / 2=(q:Int):=ω
   rcases GM r with h|h
   ·subst h
    have C:m % 2=0:=ω
    have g:¬(m % 2=1):=ω
    have o:¬(m.tmod 2=1):=by rw[EK ω];omega
    have f:Hid ((t++t).size*((q:Int)).toNat+u.size<=64000):=by
     show _<=_;rw[BM,BN,GJ,i];omega
    clear d b j;go_wp2;exact⟨⟨_,_,_,rfl,rfl,rfl,ω,f.l,by rw[BN];omega⟩,by simp[intOf];omega⟩
   have g:r=1:=ω
   subst g;have g:m % 2=1:=ω
   have o:m.tmod 2=1:=by rw[EK ω];omega
   have C:¬(9223372036854775807<u.size+t.size):=ω
   have f:Hid ((t++t).size*((q:Int)).toNat+(u++t).size<=64000):=by
    show _<=_;rw[BM,BN,BN,GJ,i];omega
   clear d b j;go_wp2;exact⟨⟨_,_,_,rfl,rfl,rfl,ω,(by rw[show((2*(q:Int)+1) / 2)=(q:Int) by omega];exact f.l),by rw[BN];omega⟩,by simp[intOf];omega⟩
  go_wp2
  go_ret;exact⟨⟨u,rfl,by have:=d.l;omega⟩,AB _ _⟩
def dr(W:Nb)(R:Nat)(a:M6)(n c:Nat)(p:Int)(d:Int)(w:Nb):Prop:=(∃q,p<=q/\q<=p+d/\Rdr w R a n c q)/\W.grownBy w (some R)
theorem Mn(t b:Y){k:Int}(h:(t.size:Int)+k<=4):((t++b.extract 0 1).size:Int)+(k-1)<=4:=by
 rw[BN];have:(b.extract 0 1).size<=1:=by simp only[AO];omega
 omega
theorem Iy(R:Nat)(a:M6)(n c:Nat)(p:Int)(w:Nb)(h:Rdr w R a n c p)(L:p<99999000):Calls prog 108 #[Mv R 0] w λe w'=>(∃t:Y,e=M3 (Mz t)/\t.size<=64000)/\dr w R a n c p 10 w':=by
 have J:=bn h.pc;have O:=h.p0;go_enter func108,ntmps108;go_wp2_with fail;refine(PZ R a n c p 8 _ h ω).z ?_;rintro e U ⟨⟨v,rfl,S,T⟩,d,b⟩
 by_cases z:v=0
 ·subst z
  go_wp2;go_ret;exact⟨⟨_,rfl,δ⟩,⟨p+1,ω,ω,d⟩,b⟩
 by_cases A:v=1
 ·subst A
  go_wp2;go_ret;exact⟨⟨_,rfl,δ⟩,⟨p+1,ω,ω,d⟩,b⟩
 by_cases B:v=2
 ·subst B
  go_wp2_with fail;refine(PZ R a n c (p+1) 21 _ d ω).z ?_;rintro e E ⟨⟨u,rfl,u0,u1⟩,g,f⟩;have D:IntKind.i64.wrap (5+u)=5+u:=QQ _ ω ω;go_wp2_with fail;refine(sU _ (5+u) _ δ ω).z ?_;rintro e F ⟨⟨t,rfl,j⟩,i⟩;go_wp2;go_ret;exact⟨⟨t,rfl,j⟩,⟨p+1+1,ω,ω,g.I i⟩,QG (QG b f) (UA _ i)⟩
 by_cases C:v=3
 ·subst C
  go_wp2;go_ret;exact⟨⟨_,rfl,δ⟩,⟨p+1,ω,ω,d⟩,b⟩
 go_wp2_with fail;refine(PZ R a n c (p+1) 4 _ d ω).z ?_;rintro e E ⟨⟨u,rfl,u0,u1⟩,g,f⟩;have D:IntKind.i64.wrap (1+u)=1+u:=QQ _ ω ω;have o:=Z g;have j:=Z (QG b f);clear d b g f h;go_wp2;go_loopw [3,4] (λd b wr=>∃(t:Y) (k q:Int),d=Mz t/\b=.int .i64 k/\0<=k/\k<=4/\(t.size:Int)+k<=4/\p<=q/\q+k<=p+6/\Rdr wr R a n c q/\w.grownBy wr (some R)) (λ_ b _=>(intOf b).toNat)
 case atStart=>exact⟨⟨#[]⟩,1+u,p+1+1,rfl,rfl,ω,ω,by show(0:Int)+(1+u)<=4;omega,ω,ω,o.l,j.l⟩
 case round =>
  obtain⟨t,k,q,rfl,rfl,M,N,I,P,Q,d,b⟩:=hrel
  by_cases K:0<k
  ·have f:=Z b
   clear b;go_wp2_with fail;refine(PZ R a n c q 4 _ d ω).z ?_;rintro e F ⟨⟨x,rfl,G,H⟩,i,g⟩;have s:=Z i;have l:=Z (QG f.l g);clear i g d f;have g:IntKind.i64.wrap (k-1)=k-1:=QQ _ ω ω;have i:t.size<=4:=ω
   have V:¬(9223372036854775807<t.size+1):=ω
   have f:x=0\/x=1\/x=2\/x=3:=ω
   clear G H;rcases f with rfl|rfl|rfl|rfl
   all_goals go_wp2
   all_goals go_roundw
   all_goals first
    | exact⟨_,k-1,q+1,rfl,rfl,ω,ω,Mn _ _ ω,ω,ω,s.l,l.l⟩
    | (simp[intOf];omega)
  go_wp2
  go_ret;exact⟨⟨t,rfl,ω⟩,⟨q,ω,ω,d⟩,b⟩
theorem RZ(w:Nb)(o:Obj):Below w.heap.size w (w.alloc o):=LO _ _
theorem xH{a b:Nb}(h:a.grownBy b r)(p:Addr)(g:a.heap.size<=p.block)(v:Nc):a.grownBy (b.setCell p v) r :=⟨h.os,h.tape,h.output,by rw[BH];exact h.size,λi d f=>(BF _ _ _ _ (λe=>ω)).j (h.block i d f)⟩
theorem Rdr.keep{N:Nat}(h:Rdr w R a n c p)(d:R<N)(t:∀g o,a=Mw g o->0<n->g<N)(b:Below N w w'):Rdr w' R a n c p:=by
 obtain⟨g,o,f,z⟩:=h.bytes;refine⟨(b.cell (p:=⟨R,0,none⟩) d).j h.b,(b.cell (p:=⟨R,1,none⟩) d).j h.pc,(b.frozen (p:=⟨R,1,none⟩) d).j h.f,⟨g,o,f,λi u=>?_⟩,h.p0,h.p1,h.n1⟩;obtain⟨j,x,s,l,q⟩:=z i u;exact⟨j,x,(b.cell (p:=⟨g,o+i,none⟩) (t g o (f.resolve_left ω) ω)).j s,l,q⟩
theorem Rdr.lts(h:Rdr w R a n c p):R<w.heap.size/\∀g o,a=Mw g o->0<n->g<w.heap.size:=by
 refine⟨bn h.pc,λg o f i=>?_⟩;obtain⟨o,q,b,j⟩:=h.bytes;have e:=b.resolve_left ω;rw[f]at e;injection e with e;injection e with d l;subst d;obtain⟨_,x,g,_⟩:=j 0 i;exact bn g
def vj(b:List (Y×Y×Bool))(k v:Nat):Prop:=∀x∈b,x.1.size<=k/\x.2.1.size<=v
theorem ui{B:Nat}(h:w.ownsRow B e k y m cs):∃b d,y=.slice b m d:=by
 rcases NU h with ⟨d,f⟩|⟨g,b,d,_⟩
 ·exact⟨none,0,by rw[d,f]⟩
 exact⟨_,b,d⟩
structure BdS(w0 w:Nb)(e:TypeId)(k:Nat)(R:Nat)(a:M6)(n c:Nat)(q:Int)(y:Nc)(m:Nat)(cs:List Nc):Prop where
 rd:Rdr w R a n c q
 own:w.ownsRow w0.heap.size e k y m cs
 gr:w0.grownBy w (some R)
 lR:R<w0.heap.size
 ga:∀g o,a=Mw g o->0<n->g<w0.heap.size
theorem BdS.pick{q d:Int}(h:BdS w0 w e k R a n c q y m cs)(f:Rdr w' R a n c d)(b:w.grownBy w' (some R)):BdS w0 w' e k R a n c d y m cs :=⟨f,h.own.kept b (.inr (λe=>by have:=(h.own.lt _ e).1;have:=h.lR;omega)),QG h.gr b,h.lR,h.ga⟩
theorem BdS.I{q:Int}(h:BdS w0 w e k R a n c q y m cs)(b:Below w.heap.size w w'):BdS w0 w' e k R a n c q y m cs :=⟨h.rd.I b,NC h.own b,QG h.gr (UA _ b),h.lR,h.ga⟩
theorem BdS.drew{q:Int}(h:BdS w0 w e k R a n c q y m cs):BdS w0 w.drew e k R a n c q y m cs:=h.I (AB _ _).drew
theorem BdS.lt{q:Int}(h:BdS w0 w e k R a n c q y m cs):w0.heap.size<=w.heap.size:=h.gr.size
theorem BdS.set{q:Int}(h:BdS w0 w e k R a n c q y m cs)(X i:Nat)(b:w0.heap.size<=X)(f:y.ownBlock≠some X)(v:Nc):BdS w0 (w.setCell ⟨X,i,none⟩ v) e k R a n c q y m cs:=by
 have d:=h.lR;refine⟨h.rd.keep (N:=w0.heap.size) d h.ga ((AB _ _).setCell b _),BW h.own f v,xH h.gr _ b _,d,h.ga⟩
theorem BdS.push{q:Int}{l:Nc}{j:Nat}{d:List Nc}(h:BdS w0 w e k R a n c q y m cs)(o:w'.ownsRow w0.heap.size e k l j d)(b:w.grownBy w' y.ownBlock):BdS w0 w' e k R a n c q l j d:=by
 have f:Below w0.heap.size w w':=NR b h.lt (λg e=>(h.own.lt _ e).1);exact⟨h.rd.keep (N:=w0.heap.size) h.lR h.ga f,o,⟨b.os.j h.gr.os,b.tape.j h.gr.tape,b.output.j h.gr.output,AK h.gr.size b.size,λi g s=>(f.block i g).j (h.gr.block i g s)⟩,h.lR,h.ga⟩
structure BdX(w0 w:Nb)(e:TypeId)(k:Nat)(R:Nat)(a:M6)(n c:Nat)(q:Int)(y:Nc)(m:Nat)(cs:List Nc)(X:Nat)(xs:List Nc):Prop where
 s:BdS w0 w e k R a n c q y m cs
 row:Row w X xs
 xo:y.ownBlock≠some X
 xb:w0.heap.size<=X
theorem BdX.ne{q:Int}(h:BdX w0 w e k R a n c q y m cs X xs):X≠R:=by have:=h.xb;have:=h.s.lR;omega
theorem BdX.pick{q d:Int}(h:BdX w0 w e k R a n c q y m cs X xs)(f:Rdr w' R a n c d)(b:w.grownBy w' (some R)):BdX w0 w' e k R a n c d y m cs X xs :=⟨h.s.pick f b,h.row.J b (λe=>h.ne (by injection e)),h.xo,h.xb⟩
theorem BdX.I{q:Int}(h:BdX w0 w e k R a n c q y m cs X xs)(b:Below w.heap.size w w'):BdX w0 w' e k R a n c q y m cs X xs :=⟨h.s.I b,h.row.I b,h.xo,h.xb⟩
theorem BdX.drew{q:Int}(h:BdX w0 w e k R a n c q y m cs X xs):BdX w0 w.drew e k R a n c q y m cs X xs:=h.I (AB _ _).drew
theorem BdX.set{q:Int}(h:BdX w0 w e k R a n c q y m cs X xs)(i:Nat)(b:i<xs.length)(v:Nc):BdX w0 (w.setCell ⟨X,i,none⟩ v) e k R a n c q y m cs X (xs.set i v) :=⟨h.s.set X i h.xb h.xo v,h.row.set i b v,h.xo,h.xb⟩
theorem BdS.box{q:Int}(h:BdS w0 w e k R a n c q y m cs)(A:Array Nc)(t:TypeId):BdX w0 (w.alloc (.cells A t)) e k R a n c q y m cs w.heap.size A.toList :=⟨h.I (RZ _ _),MT _ _ _,λe=>by have:=(h.own.lt _ e).2;omega,h.lt⟩
theorem Jz(w:Nb)(cs:Array Nc)(t:TypeId):∀j u,cs.toList[j]?=some u->(w.alloc (.cells cs t)).cell? ((⟨w.heap.size,0,none⟩:Addr).add j)=some u:=World.news_of_block (AU w (.cells cs t))
theorem F4:(prog.info? 171).map (λi=>(i.zero,i.size,i.bytes))=some (some (.agg #[Mz empty,Mz empty,M0 false]),3,40):=κ
theorem nr{P:Program}{z:Nc}{b:Nat}(h:(P.info? e).map (λi=>(i.zero,i.size,i.bytes))=some (some z,size,b)):∃i,P.info? e=some i/\i.zero=some z/\i.size=size/\i.bytes=b:=by
 cases h1:P.info? e with
 | none=>rw[h1]at h;cases h
 | some i=>rw[h1]at h;simp at h;exact⟨i,rfl,h.1,h.2.1,h.2.2⟩
theorem zL(k v:Y)(g:Bool):∀u∈[Mz k,Mz v,M0 g],u.oneCell'=true:=by
 intro u b;simp only[DY,EJ,GV]at b;rcases b with rfl|rfl|rfl<;>rfl
theorem H4(o:List (Y×Y×Bool))(c:Y×Y×Bool):NL (o++[c])=NL o++[Mz c.1,Mz c.2.1,M0 c.2.2]:=by rw[ww];rfl
theorem xF(R:Nat)(a:M6)(n c:Nat)(p:Int)(w:Nb)(h:Rdr w R a n c p)(hp:p<99990000):Calls prog 56 #[Mv R 0] w λe w'=>(∃v d,e=M3 v/\w'.ownsRow w.heap.size 171 3 v d.length (NL d)/\(1<=d.length/\d.length<=20)/\vj d 3 100)/\dr w R a n c p 600 w':=by
 have p0:=h.p0;obtain⟨i0,b,f,g,i⟩:=nr F4;have HI:=Z (AH b (AH f (AH g i)));clear b f g i
 have b:BdS w (w.alloc (.cells #[] 171)) 171 3 R a n c p (.slice (Mw w.heap.size 0) 0 0) 0 [] :=⟨h.I (RZ _ _),DT _ #[] 0 (AA _) σ σ,UA _ (RZ _ _),h.lts.1,h.lts.2⟩
 clear h;go_enter func56,ntmps56;go_wp2_with fail;refine(PZ R a n c p 4 _ b.rd ω).z ?_;rintro e w1 ⟨⟨v,rfl,j,l⟩,i,g⟩;have f:=b.pick i g;have hv:IntKind.i64.wrap (1+v)=1+v:=QQ _ ω ω;clear b i g;go_wp2_with fail;refine(PZ R a n c (p+1) 10 _ f.rd ω).z ?_;rintro e w2 ⟨⟨u,rfl,u0,u1⟩,i,g⟩;have b:=f.pick i g;clear f i g;go_upto_if 13 with fail;go_cut [4] from 11 to 16 (λf s=>∃(N q:Int),f=.int .i64 N/\1<=N/\N<=20/\p<=q/\q<=p+3/\BdS w s 171 3 R a n c q (.slice (Mw w.heap.size 0) 0 0) 0 [])
 case first =>
  by_cases i:u=0
  ·subst i
   go_wp2_with fail;refine(PZ R a n c (p+1+1) 2 _ b.rd ω).z ?_;rintro e t ⟨⟨z,rfl,H,J⟩,g,f⟩;have P:=b.pick g f;have o:IntKind.i64.wrap (20-z)=20-z:=QQ _ ω ω;clear b g f;go_wp2_with fail;go_meet;exact⟨20-z,p+1+1+1,rfl,ω,ω,ω,ω,P⟩
  go_wp2_with fail
  go_meet;exact⟨1+v,p+1+1,rfl,ω,ω,ω,ω,b⟩
 case rest =>
 obtain⟨N,q,rfl,N0,N1,dL,dM,P⟩:=hcut;clear b u0 u1 hv j l;go_wp2;go_loopw [3,5] (λy f wr=>∃(d:List (Y×Y×Bool)) (q:Int) (b:Nc),b=y/\f=.int .i64 (d.length:Int)/\(d.length:Int)<=N/\p<=q/\q<=p+3+20*(d.length:Int)/\vj d 3 100/\BdS w wr 171 3 R a n c q y d.length (NL d)) (λ_ f _=>(N-intOf f).toNat)
 case atStart=>exact⟨[],q,_,rfl,rfl,τ,ω,τ,(λx G=>by simp at G),P⟩
 case round =>
  obtain⟨d,q,y,rfl,rfl,hl,q0,q1,f,F⟩:=hrel;have aX:=Z f;clear f;have cM:d.length<=20:=ω
  by_cases dH:(d.length:Int)<N
  ·have cV:¬N<=(d.length:Int):=ω
   obtain⟨D,E,rfl⟩:=ui F.own;have dP:IntKind.i64.wrap ((d.length:Int)+1)=(d.length:Int)+1:=QQ _ ω ω;go_upto_region 8 with fail;go_cut [6] from 17 to 58 (λg s=>∃(X:Nat) (i:Y) (f:Bool),g=Mv X 0/\i.size=2/\BdX w s 171 3 R a n c (q+1+1) (.slice D d.length E) d.length (NL d) X [Mz i,Mz ⟨#[]⟩,M0 f])
   case first =>
    refine AN (S:=λw'=>True) κ (trivial) (λj=>?_);refine TY 0 (Mv R 0) rfl j (TY 5 (Mv R 0) rfl j ?_);simp only[PS];refine EF (rs:=[1,9]) κ σ ?_;refine BK rfl (λt l=>?_) (BK rfl (λt l=>?_) DX)
    ·refine LW ρ _ _ γ (PZ R a n c q 8 _ F.drew.rd ω) ?_
     rintro e V ⟨⟨O,rfl,H,J⟩,o,g⟩;refine⟨_,rfl,?_⟩;have I:=F.drew.pick o g;clear o g;obtain⟨x,rfl⟩:∃k:Nat,O=(k:Int):=⟨O.toNat,ω⟩;have cQ:(x:Int)<=8:=ω
     have aW:x<8:=ω
     clear H J;have cJ:((⟨#[97,98,99,100,101,102,103,104]⟩:Y).extract x 8).size=8-x:=by simp only[AO];show min 8 8-x=8-x;omega
     have aV:(1:Int)<=(((8-x:Nat)):Int):=ω
     obtain⟨B,S⟩:∃z,((⟨#[97,98,99,100,101,102,103,104]⟩:Y).extract x 8).extract 0 1=z:=⟨_,rfl⟩;have cL:B.size=1:=by rw[<-S];simp only[AO];show min 1 (min 8 8-x)-0=1;omega
     obtain⟨i,Q⟩:∃z,(⟨#[107]⟩:Y)++B=z:=⟨_,rfl⟩;have L:i.size=2:=by rw[<-Q,BN];show 1+B.size=2;omega
     have cT:¬(9223372036854775807<1+B.size):=ω
     refine l.l _ _ j (λ_=>?_)
     try simp only[PS]
     refine TY 2 (Mz ((⟨#[97,98,99,100,101,102,103,104]⟩:Y).extract x 8)) rfl j (TY 3 (Mz B) rfl j (TY 4 (Mz i) rfl j ?_));simp only[PS];refine EF (rs:=[6,9]) κ σ ?_;refine BK rfl (λt l=>?_) (BK rfl (λt l=>?_) DX)
     ·refine LW ρ _ _ γ (PZ R a n c (q+1) 4 _ I.rd ω) ?_
      rintro e J ⟨⟨H,rfl,u0,u1⟩,o,g⟩;refine⟨_,rfl,?_⟩;have K:=I.pick o g;clear o g;obtain⟨f,M⟩:∃g:Bool,(H == 0)=g:=⟨_,rfl⟩;have W:decide (H=0)=f:=by rw[<-M];rfl
      refine l.l _ _ j (λ_=>?_)
      try simp only[PS]
      refine TY 7 (M0 f) rfl j (TY 8 (.agg #[Mz i,Mz ⟨#[]⟩,M0 f]) rfl j ?_);simp only[PS];refine RD 9 rfl (λt l=>?_);go_simp;have C:=(K.box #[Mz ⟨#[]⟩,Mz ⟨#[]⟩,M0 false] 171);obtain⟨X,A⟩:∃z,z=J.heap.size:=⟨_,rfl⟩;obtain⟨s,o⟩:∃z,z=(J.alloc (.cells #[Mz ⟨#[]⟩,Mz ⟨#[]⟩,M0 false] 171)):=⟨_,rfl⟩;rw[<-o,<-A]at C;rw[<-o,<-A];clear o A;refine l.l _ _ j (λ_=>?_)
      try simp only[PS]
      refine RD 10 rfl (λt l=>?_);have o:=C;obtain⟨T,l1,l2⟩:=o.row.k3;obtain⟨b7,cA,cB⟩:=o.row.z3;have U:=o.row.lt;go_simp;refine l.l _ _ j (λ_=>?_)
      try simp only[PS]
      refine DN ?_;have A:BdX w (((s.setCell ⟨X,0,none⟩ (Mz i)).setCell ⟨X,1,none⟩ (Mz ⟨#[]⟩)).setCell ⟨X,2,none⟩ (M0 f)) 171 3 R a n c (q+1+1) (.slice D d.length E) d.length (NL d) X [Mz i,Mz ⟨#[]⟩,M0 f]:=((o.set 0 σ (Mz i)).set 1 σ (Mz ⟨#[]⟩)).set 2 σ (M0 f);go_wp2_with fail;go_meet;exact⟨X,i,f,rfl,L,A⟩
     go_simp
     have C:=(I.box #[Mz ⟨#[]⟩,Mz ⟨#[]⟩,M0 false] 171);obtain⟨X,A⟩:∃z,z=V.heap.size:=⟨_,rfl⟩;obtain⟨s,o⟩:∃z,z=(V.alloc (.cells #[Mz ⟨#[]⟩,Mz ⟨#[]⟩,M0 false] 171)):=⟨_,rfl⟩;rw[<-o,<-A]at C;rw[<-o,<-A];clear o A;refine l.l _ _ j (λ_=>?_)
     try simp only[PS]
     refine RD 6 rfl (λt l=>?_);refine LW ρ _ _ γ (PZ R a n c (q+1) 4 _ C.s.rd ω) ?_;rintro e J ⟨⟨H,rfl,u0,u1⟩,o,g⟩;refine⟨_,rfl,?_⟩;have K:=C.pick o g;clear o g;obtain⟨f,M⟩:∃g:Bool,(H == 0)=g:=⟨_,rfl⟩;have W:decide (H=0)=f:=by rw[<-M];rfl
     refine l.l _ _ j (λ_=>?_)
     try simp only[PS]
     refine TY 7 (M0 f) rfl j (TY 8 (.agg #[Mz i,Mz ⟨#[]⟩,M0 f]) rfl j ?_);simp only[PS];refine RD 10 rfl (λt l=>?_);have o:=K;obtain⟨T,l1,l2⟩:=o.row.k3;obtain⟨b7,cA,cB⟩:=o.row.z3;have U:=o.row.lt;go_simp;refine l.l _ _ j (λ_=>?_)
     try simp only[PS]
     refine DN ?_;have A:BdX w (((J.setCell ⟨X,0,none⟩ (Mz i)).setCell ⟨X,1,none⟩ (Mz ⟨#[]⟩)).setCell ⟨X,2,none⟩ (M0 f)) 171 3 R a n c (q+1+1) (.slice D d.length E) d.length (NL d) X [Mz i,Mz ⟨#[]⟩,M0 f]:=((o.set 0 σ (Mz i)).set 1 σ (Mz ⟨#[]⟩)).set 2 σ (M0 f);go_wp2_with fail;go_meet;exact⟨X,i,f,rfl,L,A⟩
    go_simp
    have C:=(F.box #[Mz ⟨#[]⟩,Mz ⟨#[]⟩,M0 false] 171).drew;obtain⟨X,A⟩:∃z,z=wr.heap.size:=⟨_,rfl⟩;obtain⟨s,o⟩:∃z,z=(wr.alloc (.cells #[Mz ⟨#[]⟩,Mz ⟨#[]⟩,M0 false] 171)).drew:=⟨_,rfl⟩;rw[<-o,<-A]at C;rw[<-o,<-A];clear o A;refine l.l _ _ j (λ_=>?_)
    try simp only[PS]
    refine RD 1 rfl (λt l=>?_);refine LW ρ _ _ γ (PZ R a n c q 8 _ C.s.rd ω) ?_;rintro e V ⟨⟨O,rfl,H,J⟩,o,g⟩;refine⟨_,rfl,?_⟩;have I:=C.pick o g;clear o g;obtain⟨x,rfl⟩:∃k:Nat,O=(k:Int):=⟨O.toNat,ω⟩;have cQ:(x:Int)<=8:=ω
    have aW:x<8:=ω
    clear H J;have cJ:((⟨#[97,98,99,100,101,102,103,104]⟩:Y).extract x 8).size=8-x:=by simp only[AO];show min 8 8-x=8-x;omega
    have aV:(1:Int)<=(((8-x:Nat)):Int):=ω
    obtain⟨B,S⟩:∃z,((⟨#[97,98,99,100,101,102,103,104]⟩:Y).extract x 8).extract 0 1=z:=⟨_,rfl⟩;have cL:B.size=1:=by rw[<-S];simp only[AO];show min 1 (min 8 8-x)-0=1;omega
    obtain⟨i,Q⟩:∃z,(⟨#[107]⟩:Y)++B=z:=⟨_,rfl⟩;have L:i.size=2:=by rw[<-Q,BN];show 1+B.size=2;omega
    have cT:¬(9223372036854775807<1+B.size):=ω
    refine l.l _ _ j (λ_=>?_)
    try simp only[PS]
    refine TY 2 (Mz ((⟨#[97,98,99,100,101,102,103,104]⟩:Y).extract x 8)) rfl j (TY 3 (Mz B) rfl j (TY 4 (Mz i) rfl j ?_));simp only[PS];refine RD 6 rfl (λt l=>?_);refine LW ρ _ _ γ (PZ R a n c (q+1) 4 _ I.s.rd ω) ?_;rintro e J ⟨⟨H,rfl,u0,u1⟩,o,g⟩;refine⟨_,rfl,?_⟩;have K:=I.pick o g;clear o g;obtain⟨f,M⟩:∃g:Bool,(H == 0)=g:=⟨_,rfl⟩;have W:decide (H=0)=f:=by rw[<-M];rfl
    refine l.l _ _ j (λ_=>?_)
    try simp only[PS]
    refine TY 7 (M0 f) rfl j (TY 8 (.agg #[Mz i,Mz ⟨#[]⟩,M0 f]) rfl j ?_);simp only[PS];refine RD 10 rfl (λt l=>?_);have o:=K;obtain⟨T,l1,l2⟩:=o.row.k3;obtain⟨b7,cA,cB⟩:=o.row.z3;have U:=o.row.lt;go_simp;refine l.l _ _ j (λ_=>?_)
    try simp only[PS]
    refine DN ?_;have A:BdX w (((J.setCell ⟨X,0,none⟩ (Mz i)).setCell ⟨X,1,none⟩ (Mz ⟨#[]⟩)).setCell ⟨X,2,none⟩ (M0 f)) 171 3 R a n c (q+1+1) (.slice D d.length E) d.length (NL d) X [Mz i,Mz ⟨#[]⟩,M0 f]:=((o.set 0 σ (Mz i)).set 1 σ (Mz ⟨#[]⟩)).set 2 σ (M0 f);go_wp2_with fail;go_meet;exact⟨X,i,f,rfl,L,A⟩
   case rest =>
   obtain⟨X,i,f,rfl,L,A⟩:=hcut;clear F;go_upto_if 32 with fail;go_cut [] from 17 to 58 (λs=>∃(o:Y) (B:Int),o.size<=3/\q<=B/\B<=q+3/\BdX w s 171 3 R a n c B (.slice D d.length E) d.length (NL d) X [Mz o,Mz ⟨#[]⟩,M0 f])
   case first =>
    by_cases S:8<N
    ·go_upto_region 10 with fail
     refine VS (8) (S:=λw'=>w'.cell? ⟨X,0,none⟩=some (Mz i)) κ (A.drew.row.y 0) (λj=>?_);refine NN 0 (Mv X 0) rfl j (NN 1 (Mz i) rfl j (NN 2 (Mv R 0) rfl j ?_));simp only[PS];refine PH 3 rfl (λt l=>?_);refine LW ρ _ _ γ (PZ R a n c (q+1+1) 3 _ A.drew.s.rd ω) ?_;rintro e M ⟨⟨I,rfl,H,J⟩,z,g⟩;refine⟨_,rfl,?_⟩;have C:=A.drew.pick z g;clear z g;obtain⟨z,rfl⟩:∃k:Nat,I=(k:Int):=⟨I.toNat,ω⟩;have dR:(z:Int)<=3:=ω
     have Q:z<3:=ω
     clear H J;have V:((⟨#[120,121,122]⟩:Y).extract z 3).size=3-z:=by simp only[AO];show min 3 3-z=3-z;omega
     have O:(1:Int)<=(((3-z:Nat)):Int):=ω
     obtain⟨g,K⟩:∃x,((⟨#[120,121,122]⟩:Y).extract z 3).extract 0 1=x:=⟨_,rfl⟩;have W:g.size=1:=by rw[<-K];simp only[AO];show min 1 (min 3 3-z)-0=1;omega
     have zk:¬(9223372036854775807<i.size+g.size):=ω
     refine l.l _ _ (C.row.y 0) (λH=>?_)
     try simp only[PS]
     refine NN 4 (Mz ((⟨#[120,121,122]⟩:Y).extract z 3)) rfl H (NN 5 (Mz g) rfl H (NN 6 (Mz (i++g)) rfl H (NN 7 (Mv X 0) rfl H ?_)));simp only[PS];refine RT (rs:=[8]) κ σ ?_;refine AllReadyT.last rfl (λt l=>?_);have T:=C.row.y 0;have lf:=C.row.A 0;have U:=C.row.lt;go_simp;refine l.l _ _ trivial (λ_=>?_)
     try simp only[PS]
     refine UY κ ?_ _;have J:BdX w (M.setCell ⟨X,0,none⟩ (Mz (i++g))) 171 3 R a n c (q+1+1+1) (.slice D d.length E) d.length (NL d) X [Mz (i++g),Mz ⟨#[]⟩,M0 f]:=C.set 0 σ (Mz (i++g));go_wp2_with fail;go_meet;exact⟨i++g,q+1+1+1,by rw[BN];omega,ω,ω,J⟩
    go_wp2_with fail
    go_meet;exact⟨i,q+1+1,ω,ω,ω,A⟩
   case rest =>
   obtain⟨o,B,U,dU,dV,l⟩:=hcut;obtain⟨z,C,H⟩:=l.row.k3;have I:=l.row.lt;go_upto_if 43 with fail;clear z C H I;go_cut [] from 17 to 58 (λs=>∃(t:Y) (j:Int),t.size<=64000/\q<=j/\j<=q+15/\BdX w s 171 3 R a n c j (.slice D d.length E) d.length (NL d) X [Mz o,Mz t,M0 f])
   case first =>
    cases f with
    | true =>
     go_wp2_with fail;go_meet;exact⟨⟨#[]⟩,B,δ,ω,ω,l⟩
    | false =>
     go_wp2_with fail;refine(Iy R a n c B _ l.s.rd ω).z ?_;rintro e Q ⟨⟨t,rfl,O⟩,⟨K,S,T,C⟩,z⟩;have g:=l.pick C z;clear C z;obtain⟨z,C,H⟩:=g.row.k3;have J:=g.row.A 1;have I:=g.row.lt;have M:BdX w (Q.setCell ⟨X,1,none⟩ (Mz t)) 171 3 R a n c K (.slice D d.length E) d.length (NL d) X [Mz o,Mz t,M0 false]:=g.set 1 σ (Mz t);go_wp2_with fail;go_meet;exact⟨t,K,O,ω,ω,M⟩
   case rest =>
   obtain⟨t,j,O,dZ,eB,g⟩:=hcut;obtain⟨z,C,H⟩:=g.row.k3;have J:=g.row.A 1;have I:=g.row.lt;go_upto_if 50 with fail;go_cut [] from 17 to 58 (λs=>∃(t:Y),t.size<=100/\BdX w s 171 3 R a n c j (.slice D d.length E) d.length (NL d) X [Mz o,Mz t,M0 f])
   case first =>
    by_cases M:t.size<=100
    ·have Q:¬(100<(t.size:Int)):=ω
     go_wp2_with fail;go_meet;exact⟨t,M,g⟩
    have Q:100<(t.size:Int):=ω
    have S:(100:Int)<=(t.size:Int):=ω
    have K:BdX w (_) 171 3 R a n c j (.slice D d.length E) d.length (NL d) X [Mz o,Mz (t.extract 0 100),M0 f]:=g.set 1 σ (Mz (t.extract 0 100));go_wp2_with fail;go_meet;exact⟨t.extract 0 100,by simp only[AO];omega,K⟩
   case rest =>
   clear z C H J I g;obtain⟨C,V,z⟩:=hcut;obtain⟨H,J,x2⟩:=z.row.k3;have xl:=z.row.lt;have I:=z.s.I (RZ _ (.cells #[Mz o,Mz C,M0 f] 171));have T:=Z I.own;have dQ:=z.s.lt
   go_wp2_with (first|(at_builtin;refine QY _ rfl _ _ 42 rfl w.heap.size underlying42 HI.l rfl ω _ d.length _ rfl T.l ⟨wc.heap.size,0,none⟩ 1 1 [Mz o,Mz C,M0 f] rfl rfl (Jz _ _ _) (zL _ _ _) τ (wc.heap.size+1) σ ?_;intro g W eG M K Q bI;have S:=I.push M K;clear M K Q))
   go_roundw
   case rel =>
    refine⟨d++[(o,C,f)],j,_,rfl,σ,τ,ω,τ,?_,?_⟩
    ·intro x G
     rcases BJ.1 G with G|G
     ·exact aX.l x G
     simp at G;subst G;exact⟨U,V⟩
    rw[H4,AF];exact S
   all_goals (simp[intOf];omega)
  go_wp2
  go_ret;exact⟨⟨_,rfl,d,F.own,⟨ω,cM⟩,aX.l⟩,⟨q,q0,ω,F.rd⟩,F.gr⟩
end
section
open Tryz
open Go.RowKit Go.Sort
theorem tQ(a:List Pr)(h:PU a)(i:Nat):∀n,i+n<=a.length->NB (a.take i) (((a.drop i).take n).map VF)=a.take (i+n)
 | 0,_=>by simp[NB]
 | n+1,hn=>by
  have e:n<(a.drop i).length:=by rw[CU];omega
  rw[AY e,DK,List.map_singleton,cq,tQ a h i n ω];rw[List.getElem_drop];have c:=h;unfold PU at c;rw[GK]at c;have b:i+n<a.length:=ω
  have d:=ei (VF (a[i+n]'b)) (a.take (i+n)) [] [] (λx g=>by
   obtain⟨j,f,rfl⟩:=EN g;rw[AP]at f;rw[List.getElem_take]
   exact c j (i+n) ω b ω) (.inl rfl) σ
  rw[DZ,DZ]at d;rw[d];unfold WE VF;simp;rw[show i+(n+1)=(i+n)+1 by omega,AY b]
theorem As{a:List Pr}(h:MU a=true)(i:Nat):MU (a.take i)=true:=by
 obtain⟨e,b,c⟩:=(ZS a).1 h;refine(ZS _).2 ⟨by rw[AP];omega,λx d=>b x (DE d),?_⟩;unfold PU at *;exact c.sublist (List.take_sublist _ _)
theorem vL{a:List Pr}(h:MU a=true)(k:Nat)(g:k*20<a.length):PA (PC a k)=true:=by
 obtain⟨e,c,f⟩:=(ZS a).1 h;refine ym (by rw[m9];omega) (λx b=>?_);unfold PC at b;obtain⟨p,d,rfl⟩:=DS.1 b;have:=c p (FE (DE d));unfold PJ VF;simp[this.1,this.2]
theorem yW{a:List Pr}(h:MU a=true)(k:Nat)(d:k*20<a.length):PO (a.take (k*20)) (PC a k)=0/\PQ (a.take (k*20)) (PC a k)=a.take ((k+1)*20):=by
 obtain⟨g,i,c⟩:=(ZS a).1 h
 have e:NB (a.take (k*20)) (PC a k)=a.take ((k+1)*20):=by
  have f:k*20+min 20 (a.length-k*20)<=a.length:=ω
  have:=tQ a c (k*20) (min 20 (a.length-k*20)) f
  have b:((a.drop (k*20)).take (min 20 (a.length-k*20)))=((a.drop (k*20)).take 20):=by
   rw[<-CU];rw[<-GU,CW]
  rw[b]at this;unfold PC;rw[this]
  by_cases j:(k+1)*20<=a.length
  ·congr 1;omega
  rw[AQ ω,AQ ω]
 have b:PO (a.take (k*20)) (PC a k)=0:=by
  unfold PO;rw[As h,vL h k d,e,AE σ,AE (by rw[AP];omega)]
 exact⟨b,by unfold PQ;rw[AE b,e]⟩
end
section
open Tryz
open Go.RowKit
theorem qz{r k m:Y}(h:LI r=[(k.size:Int)]++LI k++LI m)(g:k.size<=255):pc r=some (k,m):=by
 have e:=CX List.length h;simp only[AF,CY,AR,NH]at e;have f:=gi r ω
 have d:b0 r=k.size:=by
  rw[f]at h;simp only[List.singleton_append,EI,JU]at h;omega
 unfold pc;rw[AE ω,d];have a:(LI k).length=k.size:=NH k
 have b:r.extract 1 (1+k.size)=k:=by
  apply nj
  rw[ie,h,BT,FJ ρ,Nat.add_sub_cancel_left,EQ a]
 have c:r.extract (1+k.size) r.size=m:=by
  apply nj
  rw[ie,h,FJ (by rw[AF,a];simp),AQ (by rw[NH];omega)]
 rw[b,c]
theorem Eg{r m:Y}{c:Ch}(d:PJ c=true)(h:LI r=NV c++LI m):RM r=some (c,m):=by
 obtain⟨k,v,g⟩:=c;unfold PJ QD PE at d;simp only[AX,AT,JH,Bool.and_eq_false_iff,IC]at d;have i:=uK r
 cases g with
 | true =>
  have hv:v=empty:=by
   apply nj
   have:v.size=0:=by rcases d.2 with h|h<;>simp_all
   rw[yI];exact AC (by rw[NH];exact this)
  subst hv;have e:NV (k,empty,true)=[1]++([(k.size:Int)]++LI k):=rfl;rw[e]at h
  have b:b0 r=1:=by
   have a:=CX List.length h;simp only[AF,CY,AR,NH]at a;rw[gi r ω]at h;simp only[List.singleton_append,EI,JU]at h;omega
  have a:=qz (r:=r.extract 1 r.size) (k:=k) (m:=m) (by rw[i,h];simp) ω;unfold RM;rw[a];simp only[b,IH]
 | false =>
  have e:NV (k,v,false)=[0]++([(k.size:Int)]++LI k)++([(v.size:Int)]++LI v):=rfl;rw[e]at h
  have b:¬b0 r=1:=by
   have a:=CX List.length h;simp only[AF,CY,AR,NH]at a;rw[gi r ω]at h;simp only[List.singleton_append,EI,JU]at h;omega
  have f:∀y∈([(v.size:Int)]++LI v)++LI m,0<=y/\y<=255:=by
   intro y a;have:=gq r y;rw[h]at this;exact this (by simp only[BT,BJ]at a⊢;rcases a with a|a|a<;>simp[a])
  have a:=qz (r:=r.extract 1 r.size) (k:=k) (m:=strOfNums (([(v.size:Int)]++LI v)++LI m)) (by rw[i,h,ZA _ f];simp) ω;have j:=qz (r:=strOfNums (([(v.size:Int)]++LI v)++LI m)) (k:=v) (m:=m) (ZA _ f) ω;unfold RM;rw[a];simp only[b,IS,j]
theorem tC:∀(l:List Ch) (n:Nat) (r:Y) (o:List Ch),(∀x∈l,PJ x=true)->l.length<=n->LI r=l.flatMap NV->∃b,run n r o=some (o++l,b)
 | [],n,r,o,_,_,h=>by
  have a:r.size=0:=by rw[<-NH,h];rfl
  exact⟨r,by rw[mH n o r a,DZ]⟩
 | c::l,0,r,o,_,hn,_=>by simp at hn
 | c::l,n+1,r,o,hc,hn,h=>by
  rw[GQ]at h;have i:1<=(NV c).length:=by unfold NV;split<;>simp<;>omega
  have a:¬r.size=0:=by
   have:=CX List.length h;rw[NH,AF]at this;omega
  have d:∀y∈l.flatMap NV,0<=y/\y<=255:=by
   intro y e;have:=gq r y;rw[h]at this;exact this (List.mem_append_right _ e)
  have f:=Eg (hc c EE) (m:=strOfNums (l.flatMap NV)) (r:=r) (by rw[h,ZA _ d]);obtain⟨b,e⟩:=tC l n (strOfNums (l.flatMap NV)) (o++[c]) (λx g=>hc x (DO _ g)) (by simp at hn;omega) (ZA _ d);refine⟨b,?_⟩;rw[run,AG a,f];simp only;rw[e,BT];rfl
theorem Jw{x:Ch}(h:PJ x=true):1<=x.1.size/\x.1.size<=20/\x.2.1.size<=100:=by
 unfold PJ QD PE at h;simp only[AX,AT]at h;omega
theorem nG(b:List Ch)(h:∀x∈b,PJ x=true):LI (SC b)=b.flatMap NV:=by
 refine ZA _ (λy a=>?_);obtain⟨x,c,a⟩:=IU.1 a;have:=Jw (h x c);exact qR x ω ω y a
theorem yV(b:List Ch)(h:PA b=true):(SC b).size≠0:=by
 intro a;obtain⟨c,d⟩:=WR h;have e:=nG b d;have:b.flatMap NV=[]:=by rw[<-e];exact AC (by rw[NH];exact a)
 match b,c with
 | x::o',_ =>
  simp only[GQ,List.append_eq_nil_iff]at this;have:=this.1;unfold NV at this
  split at this<;>simp at this
theorem E9(b:List Ch)(h:PA b=true):SX (SC b)=some b:=by
 obtain⟨d,a⟩:=WR h;obtain⟨e,c⟩:=tC b 21 (SC b) [] a ω (nG b a);unfold SX;rw[c,DW];simp only;rw[AE ⟨yV b h,by unfold LT;rw[AE h]⟩]
theorem gu(R:Nat)(a:M6)(n c:Nat)(p:Int)(w:Nb)(h:Rdr w R a n c p)(i:p<100000000):Calls prog 162 #[Mv R 0] w λe b=>(∃v,e=M3 (.int .i64 v)/\1<=v/\v<=8)/\Rdr b R a n c (p+1)/\w.grownBy b (some R):=by
 have t:=bn h.pc;go_enter func162,ntmps162;go_wp2_with fail;refine(PZ R a n c p 6 _ (h.I ((AB _ _).alloc (AA _) _)) i).z ?_;rintro e u ⟨⟨v,rfl,j,k⟩,d,b⟩;have l:=WX (b:=w.heap.size) (i:=0) b ω (v:=.int .i64 8) σ;have m:=WX (b:=w.heap.size) (i:=1) b ω (v:=.int .i64 8) σ;have o:=WX (b:=w.heap.size) (i:=2) b ω (v:=.int .i64 4) σ;have q:=WX (b:=w.heap.size) (i:=3) b ω (v:=.int .i64 2) σ;have r:=WX (b:=w.heap.size) (i:=4) b ω (v:=.int .i64 1) σ;have s:=WX (b:=w.heap.size) (i:=5) b ω (v:=.int .i64 1) σ;have f:=Z (QG (UA (some R) ((AB _ _).alloc (AA _) (.cells #[.int .i64 8,.int .i64 8,.int .i64 4,.int .i64 2,.int .i64 1,.int .i64 1] 3))) b);have g:=Z d;clear b d;have hv:v=0\/v=1\/v=2\/v=3\/v=4\/v=5:=ω
 clear j k;rcases hv with rfl|rfl|rfl|rfl|rfl|rfl<;>(go_wp2;go_ret;exact⟨⟨_,rfl,ω,ω⟩,g.l,f.l⟩)
end
section
open Tryz
open Go.RowKit Go.ChangeShapes Go.WideShapes Go.Deep
section
variable {H:Type} {enc:TypeId×Nc->H} {P:Program} {w:Nb} {base:Nat} {spare:Nat->Bool} {XbJ:Bool}
theorem Ma{a:Addr}{i:Nat}{v:Nc}(h:w.cell? (a.add i)=some v)(c:∃u,w.cell? (a.add 0)=some u):∃b o,a=⟨b,o,none⟩:=by
 obtain⟨b,o,s⟩:=a;obtain⟨u,e⟩:=c;have d:s=none:=by simpa[Addr.add] using World.cell?_spot e
 exact⟨b,o,by rw[d]⟩
theorem uU(b o i:Nat):(⟨b,o,none⟩:Addr).add i=⟨b,o+i,none⟩:=by unfold Addr.add;split<;>simp_all
end
end
section
open Tryz
open Go.RowKit Go.ChangeShapes Go.WideShapes Go.Deep
section
variable {H:Type} {enc:TypeId×Nc->H} {P:Program} {w:Nb} {base:Nat} {spare:Nat->Bool} {XbJ:Bool}
theorem oR{t e:TypeId}{m:Nat}{v:Nc}{x:DataW H×List MemPlace}(u:P.underlying t=some (.slice e))(r:P.underlying e=some (.int .u8))(q:P.cellsOf e=1)
  (h:DataW.trod enc P w base spare XbJ m t [v]=some x):∃a n c,v=.slice a n c/\Bys w a n/\n<=c/\n<=maxLen:=by
 rcases open_ints u r q h with ⟨c,_⟩|⟨a,g,j,l,c,_,s,A,y,_,d,n⟩
 ·simp at c
  exact⟨none,0,0,by simpa using c,⟨0,0,.inl rfl,λi f=>absurd f ω⟩,AA _,AM _⟩
 simp at c
 have z:g<=l.length:=by rw[y];split<;>omega
 refine⟨some a,g,j,c,?_,s,ω⟩
 by_cases p:g=0
 ·subst p
  exact⟨0,0,.inl rfl,λi f=>absurd f ω⟩
 obtain⟨b,o,rfl⟩:=Ma (d 0 ω) ⟨_,d 0 ω⟩
 have k:=DM w _ (d 0 ω);rw[uU]at k;refine⟨b,o,.inr rfl,λi f=>⟨k,l.getD i 0,?_,?_⟩⟩
 ·have:=d i ω
  rwa [uU]at this
 rw[AZ]
 exact range_u8 n i
end
