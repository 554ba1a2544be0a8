import Derived.Test.YthcfgbpailnahaaGreatDoorPrAq
import Derived.Shelf.Small.Strs
import Derived.Sort.Walk0
import Derived.Test.YthcfgbpailnahaaGreatDoorPrG27
import Derived.Deep.Cut
import Derived.Deep.CutRange
import Derived.Test.YthcfgbpailnahaaGreatDoorPrG42
import Derived.Test.YthcfgbpailnahaaGreatDoorPrG28
set_option maxHeartbeats 16000000
set_option maxRecDepth 8000
set_option linter.all false
namespace Go.Proofs.YthcfgbpailnahaaGreatDoor
open _root_.ByteArray(empty)
section
open Tryz
open Go.Shelf
def Hl:Go.Shelf.Ren:=⟨fun|106=>277|213=>279|265=>280|n=>n,fun|9=>9|3=>3|n=>n,fun|n=>n⟩
def F9:Go.Proofs.Lays.n106 prog Hl:={
 mixed:=by kernel_rfl
 f106:=func277.j (BT some (by kernel_rfl))
 f213:=func279.j (BT some (by kernel_rfl))
 f265:=func280.j (BT some (by kernel_rfl))
 t3:=underlying3
 a3:=isAgg3
 z3:=sizeOf3
 v3:=zeroValue3
 t9:=underlying9
 a9:=isAgg9
 z9:=sizeOf9
 v9:=zeroValue9 }
def LW(a b:ByteArray):Int:=Lib.compareBytes a.data.toList b.data.toList
open Go.RowKit in
def vI(a b:ByteArray)(w:World):Calls prog 277 #[.string a,.string b] w λe w'=>e=.returned (.int .i64 (LW a b))/\w'=w:=Any.strings_Compare F9 a b w
end
section
open Tryz
open Go.RowKit Go.Sort
def rl(a b:UInt8)(h1:¬a<b)(h2:¬b<a):a=b:=by
 apply UInt8.toNat_inj.1
 rw[LA]at h1 h2;omega
def pn:∀(x y:List UInt8),Lib.compareBytes x y<0<->x<y
 | [],[]=>by simp[Lib.compareBytes]
 | [],b::l2=>by simp[Lib.compareBytes]
 | a::l,[]=>by simp[Lib.compareBytes]
 | a::l,b::l2=>by
  rw[List.cons_lt_cons_iff];unfold Lib.compareBytes
  split
  ·rename_i h;simp[h]
  rename_i h
  split
  ·rename_i h2
   have hne:¬a=b:=λe=>by subst e;exact h h2
   simp[h,hne]
  rename_i h2
  have e:=rl a b h h2;subst e;rw[pn l l2];simp[h]
def xf:∀(x y:List UInt8),Lib.compareBytes x y=0<->x=y
 | [],[]=>by simp[Lib.compareBytes]
 | [],b::l2=>by simp[Lib.compareBytes]
 | a::l,[]=>by simp[Lib.compareBytes]
 | a::l,b::l2=>by
  unfold Lib.compareBytes
  split
  ·rename_i h
   have hne:¬a=b:=λe=>by subst e;rw[LA]at h;omega
   simp[hne]
  rename_i h
  split
  ·rename_i h2
   have hne:¬a=b:=λe=>by subst e;exact h h2
   simp[hne]
  rename_i h2
  have e:=rl a b h h2;subst e;rw[xf l l2];simp
def VO(a b:ByteArray):LW a b<0<->Op.bytesLess a.toList b.toList=true:=by
 unfold LW;rw[pn,bytesLess_eq,DO,DF,DF]
def ZC(a b:ByteArray):LW a b=0<->a=b:=by
 unfold LW;rw[xf]
 constructor
 ·intro h;exact FA (JC h)
 intro h;rw[h]
def jh(k v aA:ByteArray)(w:World):Calls prog 276 #[.agg #[.string k,.string v],.string aA] w λe w'=>e=.returned (.int .i64 (LW k aA))/\Below w.heap.size w w':=by
 go_enter func276,ntmps276;go_wp2_with (go_at_call 277;refine(vI k aA _).i ?_;rintro e w2 ⟨rfl,rfl⟩);go_ret;exact⟨rfl,LG _ _⟩
def NA(rs:List (ByteArray×ByteArray))(t:Nat):ByteArray:=(rs.getD t (empty,empty)).1
def vO(a:Option Addr)(rs:List (ByteArray×ByteArray))(c:Nat)(aB:ByteArray)(w:World)(h:Prs w a rs)(hl:rs.length<=1048576)(aC:Hid (∀t m,t<=m->m<rs.length->LW (NA rs m) aB<0->LW (NA rs t) aB<0)):Calls prog 275 #[.slice a rs.length c,.string aB,.func (.func 276) #[] #[]] w λe w' =>
   ∃p:Nat,p<=rs.length/\(∀t,t<p->LW (NA rs t) aB<0)/\(∀t,p<=t->t<rs.length->0<=LW (NA rs t) aB)/\e=.returned (.tuple #[.int .i64 (p:Int),.bool (decide (p<rs.length/\LW (NA rs p) aB=0))])/\Below w.heap.size w w':=by
 go_enter func275,ntmps275;go_wp2_with fail;go_loopw [9,10,11] (λi j _ wr=>∃p q:Nat,p<=q/\q<=rs.length/\i=.int .i64 (p:Int)/\j=.int .i64 (q:Int)/\Hid (∀t,t<p->LW (NA rs t) aB<0)/\Hid (∀t,q<=t->t<rs.length->0<=LW (NA rs t) aB)/\Below w.heap.size w wr) (λi j _ _=>(intOf j).toNat-(intOf i).toNat)
 case atStart=>exact⟨0,rs.length,AH _,AA _,rfl,rfl,λt ht=>by omega,λt h1 h2=>by omega,AB _ _⟩
 case round =>
  obtain⟨p,q,aQ,hq,rfl,rfl,HA,HZ,aA⟩:=hrel
  by_cases aM:p<q
  ·obtain⟨m,hm⟩:∃m:Nat,m=(p+q) / 2:=⟨_,rfl⟩
   have aN:p<=m:=by omega
   have aO:m<q:=by omega
   have aP:((p:Int)+(q:Int)) / 2=(m:Int):=by omega
   obtain⟨b,o,s0,s1,rfl,aJ,aK,HS⟩:=(h.I aA).at (show m<rs.length by omega);have HK:Hid (s0=NA rs m):=by show _=_;unfold NA;rw[<-HS.o]
   have aL:(p:Int)<(q:Int):=by omega
   obtain⟨C,HC⟩:∃C,Hid (C=LW s0 aB):=⟨_,LE rfl⟩;clear hm;have aF:=HZ;have aE:=HA;clear HZ HA
   by_cases hC:C<0
   ·go_wp2_with (go_at_call 276;refine(jh s0 s1 aB _).i ?_;rw[<-HC.o];rintro e w2 ⟨rfl,aD⟩)
    refine⟨⟨m+1,q,by omega,hq,by go_num,rfl,λt ht=>?_,aF.o,aA.j (aD.i aA.size)⟩,by simp[intOf];omega⟩;exact aC.o t m (by omega) (by omega) (by rw[<-HK.o,<-HC.o];exact hC)
   go_wp2_with (go_at_call 276;refine(jh s0 s1 aB _).i ?_;rw[<-HC.o];rintro e w2 ⟨rfl,aD⟩)
   refine⟨⟨p,m,by omega,by omega,rfl,rfl,aE.o,λt h1 h2=>Int.not_lt.1 (λh3=>?_),aA.j (aD.i aA.size)⟩,by simp[intOf];omega⟩;have:=aC.o m t h1 h2 h3;rw[<-HK.o,<-HC.o]at this;omega
  have aI:p=q:=by omega
  subst aI;have aF:=HZ;have aE:=HA;clear HZ HA
  by_cases aG:p<rs.length
  ·have aH:(p:Int)<(rs.length:Int):=by omega
   obtain⟨b,o,s0,s1,rfl,aJ,aK,HS⟩:=(h.I aA).at aG;have HK:Hid (s0=NA rs p):=by show _=_;unfold NA;rw[<-HS.o]
   obtain⟨C,HC⟩:∃C,Hid (C=LW s0 aB):=⟨_,LE rfl⟩;go_wp2_with (go_at_call 276;refine(jh s0 s1 aB _).i ?_;rw[<-HC.o];rintro e w2 ⟨rfl,aD⟩);go_ret2;refine⟨p,hq,aE.o,aF.o,?_,aA.j (aD.i aA.size)⟩;rw[<-HK.o,<-HC.o];simp[aG];rw[IA];simp
  have aH:(rs.length:Int)<=(p:Int):=by omega
  go_wp2;go_ret2;refine⟨p,hq,aE.o,aF.o,?_,aA⟩;simp[aG]
end
section
open Tryz
open Go.RowKit Go.Sort
variable {rs:List (ByteArray×ByteArray)}
def bp(a b c:ByteArray)(h1:LW a b<0)(h2:LW b c<0):LW a c<0:=by
 unfold LW at *;rw[pn]at *;exact List.lt_trans h1 h2
def qM(h:MA rs=true)(i:Nat)(hi:i+1<rs.length):LW (NA rs i) (NA rs (i+1))<0:=by
 have:=(XH h).2 (i+1) hi;unfold OX QR at this;simp only[KD,CU,Bool.or_eq_true,DO]at this;rw[VO];rcases this.2 with h|h
 ·omega
 exact h
def asc(h:MA rs=true)(t:Nat):∀d,t+d+1<rs.length->LW (NA rs t) (NA rs (t+d+1))<0
 | 0,hd=>qM h t hd
 | d+1,hd=>bp _ _ _ (asc h t d (by omega)) (qM h (t+d+1) hd)
def G0(h:MA rs=true){t u:Nat}(aA:t<u)(hu:u<rs.length):LW (NA rs t) (NA rs u)<0:=by
 obtain⟨d,rfl⟩:∃d,u=t+d+1:=⟨u-t-1,by omega⟩;exact asc h t d hu
def vu(a:Option Addr)(rs:List (ByteArray×ByteArray))(c:Nat)(aA:ByteArray)(w:World)(h:Prs w a rs)(hl:rs.length<=1048576)(aB:Hid (∀t m,t<=m->m<rs.length->LW (NA rs m) aA<0->LW (NA rs t) aA<0)):Calls prog 271 #[.agg #[.string aA],.slice a rs.length c] w λe w' =>
   ∃p:Nat,p<=rs.length/\(∀t,t<p->LW (NA rs t) aA<0)/\(∀t,p<=t->t<rs.length->0<=LW (NA rs t) aA)/\e=.returned (.tuple #[.int .i64 (p:Int),.bool (decide (p<rs.length/\LW (NA rs p) aA=0))])/\Below w.heap.size w w':=by
 have aC:∀o,Below w.heap.size w (w.alloc o):=λo=>LG _ _
 go_enter func271,ntmps271;go_wp2_with fail;refine(vO a rs c aA _ (h.I (aC _)) hl aB).i ?_;rintro e w2 ⟨p,h1,h2,h3,rfl,aD⟩;obtain⟨B,HB⟩:∃B,Hid (B=decide (p<rs.length/\LW (NA rs p) aA=0)):=⟨_,LE rfl⟩;rw[<-HB.o];have H2:=LE h2;have H3:=LE h3;clear h2 h3;go_wp2;go_ret2;refine⟨p,h1,H2.o,H3.o,by rw[<-HB.o];rfl,(aC _).j (aD.i (by simp))⟩
end
section
open Tryz
open Go.RowKit Go.Sort
def pA:∀(x y:List UInt8),0<Lib.compareBytes x y->Lib.compareBytes y x<0
 | [],[]=>by simp[Lib.compareBytes]
 | [],b::l2=>by simp[Lib.compareBytes]
 | a::l,[]=>by simp[Lib.compareBytes]
 | a::l,b::l2=>by
  unfold Lib.compareBytes;intro h
  by_cases h1:a<b
  ·simp[h1]at h
  by_cases h2:b<a
  ·simp[h2]
  simp only[h1,h2,IX]at h⊢
  exact pA l l2 h
def ef{a b:ByteArray}(h:0<LW a b):QR b a=true:=by
 have:=pA _ _ h;exact(VO b a).1 this
def XE(a:ByteArray):LW a a=0:=(ZC a a).2 rfl
def pI{a b:ByteArray}(h:LW a b<0):QR b a=false:=by
 cases hk:QR b a with
 | false=>rfl
 | true =>
  have h2:LW b a<0:=(VO b a).2 hk;have h3:=bp a b a h h2;rw[XE]at h3;omega
def kg(a:ByteArray):QR a a=false:=by
 cases hk:QR a a with
 | false=>rfl
 | true =>
  have h2:LW a a<0:=(VO a a).2 hk;rw[XE]at h2;omega
def ST(aA aB:ByteArray)(st:Bool×List Pr)(p:Pr):Bool×List Pr :=if p.1=aA then (if (!st.1 && QR aA p.1)=true then (true,st.2++[(aA,aB)]) else st)
 else (if (!st.1 && QR aA p.1)=true then (true,st.2++[(aA,aB)]++[p]) else (st.1,st.2++[p]))
def chW(c:Ch)(rs:List Pr):Bool×List Pr:=rs.foldl (ST c.1 c.2.1) (c.2.2,[])
def NX(c:Ch)(rs:List Pr):List Pr:=if (chW c rs).1=true then (chW c rs).2 else (chW c rs).2++[(c.1,c.2.1)]
def jl(c:Ch)(rs:List Pr)(p:Pr):chW c (rs++[p])=ST c.1 c.2.1 (chW c rs) p:=by unfold chW;rw[II];rfl
def OC(rs:List Pr):Prop:=rs.Pairwise λx y=>LW x.1 y.1<0
def zm(aA aB:ByteArray):∀(l:List Pr) (g:Bool) (out:List Pr),(∀x∈l,LW x.1 aA<0)->l.foldl (ST aA aB) (g,out)=(g,out++l)
 | [],g,out,_=>by simp
 | x::l,g,out,h=>by
  have hx:=h x DZ
  have hne:¬x.1=aA:=λe=>by rw[e,XE]at hx;omega
  rw[JW,ST,AE hne,pI hx,IL,AE (by simp)];rw[zm aA aB l g (out++[x]) (λy hy=>h y (BQ _ hy)),BG];rfl
def jj(aA aB:ByteArray):∀(l:List Pr) (out:List Pr),(∀x∈l,0<LW x.1 aA)->l.foldl (ST aA aB) (true,out)=(true,out++l)
 | [],out,_=>by simp
 | x::l,out,h=>by
  have hx:=h x DZ
  have hne:¬x.1=aA:=λe=>by rw[e,XE]at hx;omega
  rw[JW,ST,AE hne,AE (by simp)];rw[jj aA aB l (out++[x]) (λy hy=>h y (BQ _ hy)),BG];rfl
def VB(c:Ch)(a r:List Pr):List Pr:=a++(if c.2.2=true then [] else [(c.1,c.2.1)])++r
def dg(c:Ch)(a m r:List Pr)(ha:∀x∈a,LW x.1 c.1<0)(hm:m=[]\/∃v,m=[(c.1,v)])(hr:∀x∈r,0<LW x.1 c.1):NX c (a++m++r)=VB c a r:=by
 obtain⟨aA,aB,g⟩:=c
 have e1:chW (aA,aB,g) (a++m++r)=r.foldl (ST aA aB) (g,a):=by
  unfold chW;rw[BG,II,zm aA aB a g [] ha,DU,II];rcases hm with rfl|⟨v,rfl⟩
  ·rfl
  rw[JW,List.foldl_nil,ST,AK rfl,kg,IL,AE (by simp)]
 unfold NX VB;rw[e1]
 cases g with
 | true=>rw[jj aA aB r a hr];simp
 | false =>
  cases r with
  | nil=>simp
  | cons x l =>
   have hx:=hr x DZ
   have aC:¬x.1=aA:=λe=>by rw[e,XE]at hx;omega
   rw[JW,ST,AE aC];simp only[Bool.not_false,IC];rw[ef hx,AK rfl,jj aA aB l _ (λy hy=>hr y (BQ _ hy))];simp
def ex(c:Ch)(a m r:List Pr)(h:OC (a++m++r))(ha:∀x∈a,LW x.1 c.1<0)(hr:∀x∈r,0<LW x.1 c.1):OC (VB c a r):=by
 unfold OC VB at *;rw[GM,GM]at h;obtain⟨⟨h1,h2,h3⟩,h4,h5⟩:=h
 have aA:∀x∈a,∀y∈r,LW x.1 y.1<0:=λx hx y hy=>h5 x (List.mem_append_left _ hx) y hy
 have aB:∀y∈r,LW c.1 y.1<0:=λy hy=>(VO _ _).2 (ef (hr y hy))
 by_cases hg:c.2.2=true
 ·rw[AK hg,EY,GM]
  exact⟨h1,h4,aA⟩
 rw[AE hg,GM,GM]
 refine⟨⟨h1,by simp,λx hx y hy=>?_⟩,h4,λx hx y hy=>?_⟩
 ·simp at hy;subst hy;exact ha x hx
 rw[BP]at hx
 rcases hx with hx|hx
 ·exact aA x hx y hy
 simp at hx;subst hx;exact aB y hy
def TM{α:Type}(rs:List α)(i:Nat)(h:i<rs.length){d:α}:rs.getD i d=rs[i]:=by simp[List.getD,h]
def qJ{rs:List Pr}(h:MA rs=true):OC rs:=by
 unfold OC;rw[GH];intro i j hi hj aA;have:=G0 h aA hj;unfold NA at this
 rwa [TM _ _ hi,TM _ _ hj]at this
def oV{rs:List Pr}(h:OC rs)(aA:ByteArray):∀t m,t<=m->m<rs.length->LW (NA rs m) aA<0->LW (NA rs t) aA<0:=λt m ht hm hk=>by
 rcases KE ht with e|e
 ·subst e;exact hk
 unfold OC at h
 rw[GH]at h;have:=h t m (by omega) hm e;unfold NA at *;rw[TM _ _ hm]at hk;rw[TM _ _ (by omega)];exact bp _ _ _ this hk
def ii{rs:List Pr}(h:OC rs)(aA:ByteArray)(p:Nat)(hp:p<=rs.length)(h1:∀t,t<p->LW (NA rs t) aA<0)(h2:∀t,p<=t->t<rs.length->0<=LW (NA rs t) aA)(d:Nat)(hd:d=if p<rs.length/\LW (NA rs p) aA=0 then 1 else 0):rs=rs.take p++(rs.drop p).take d++rs.drop (p+d)/\(∀x∈rs.take p,LW x.1 aA<0)/\((rs.drop p).take d=[]\/∃v,(rs.drop p).take d=[(aA,v)])/\(∀x∈rs.drop (p+d),0<LW x.1 aA):=by
 have aD:=h;unfold OC at h;rw[GH]at h;refine⟨?_,?_,?_,?_⟩
 ·rw[BG,<-GR,ES,ES]
 ·intro x hx
  obtain⟨i,hi,rfl⟩:=FP hx;rw[BC]at hi;have:=h1 i (by omega);unfold NA at this;rw[TM _ _ (by omega)]at this;rw[List.getElem_take];exact this
 ·by_cases hc:p<rs.length/\LW (NA rs p) aA=0
  ·rw[AK hc]at hd
   subst hd
   right
   have e:=(ZC _ _).1 hc.2;unfold NA at e;rw[TM _ _ hc.1]at e;refine⟨(rs[p]'hc.1).2,?_⟩;rw[GG hc.1,JY,FE];exact BT (λk=>[k]) (Prod.ext e rfl)
  rw[AE hc]at hd
  subst hd;exact .inl (by simp)
 intro x hx
 obtain⟨i,hi,rfl⟩:=FP hx;rw[BU]at hi;rw[List.getElem_drop];have hq:=h2 (p+d+i) (by omega) (by omega);unfold NA at hq;rw[TM _ _ (by omega)]at hq;rcases Int.lt_or_eq_of_le hq with h3|h3
 ·exact h3
 exfalso
 have e:=(ZC _ _).1 h3.symm
 by_cases aC:d+i=0
 ·have aB:d=0:=by omega
  have aC:i=0:=by omega
  subst aC;rw[aB]at hd
  by_cases hc:p<rs.length/\LW (NA rs p) aA=0
  ·rw[AK hc]at hd;cases hd
  refine hc ⟨by omega,?_⟩
  unfold NA;rw[TM _ _ (by omega)];subst aB;exact h3.symm
 have h4:=h p (p+d+i) (by omega) (by omega) (by omega)
 rw[e]at h4;have h5:=h2 p (AA _) (by omega);unfold NA at h5;rw[TM _ _ (by omega)]at h5;omega
def MO(rs:List Pr)(b:List Ch):List Pr:=b.foldl (λs c=>NX c s) rs
def ZY(rs:List Pr)(b:List Ch)(c:Ch):MO rs (b++[c])=NX c (MO rs b):=by unfold MO;rw[II];rfl
def OQ(rs:List Pr)(b:List Ch):Int:=if (MA rs && OA b)=true then (if (MO rs b).length<=100 then 0 else 2) else 1
def OR(rs:List Pr)(b:List Ch):List Pr:=if OQ rs b=0 then MO rs b else []
def qe(c:Ch):∀(rs:List Pr) (k:Nat),k=rs.length->(chW c rs).2.length<=rs.length+(if (chW c rs).1=true/\c.2.2=false then 1 else 0)/\(c.2.2=true->(chW c rs).1=true)
 | rs,0,hk=>by rw[AC hk.symm];simp[chW]
 | rs,k+1,hk=>by
  obtain⟨b,bs,rfl⟩:∃b bs,rs=bs++[b]:=by
   rcases GF rs with h|⟨l,a,h⟩
   ·subst h;simp at hk
   exact⟨a,l,by simpa using h⟩
  have ih:=qe c bs k (by simp at hk;omega);rw[jl];obtain⟨aA,aC,g⟩:=c;generalize chW (aA,aC,g) bs=st at ih⊢;obtain⟨d,out⟩:=st;unfold ST;rw[AF,EQ];have aB:=kg aA
  cases d<;>cases hk2:QR aA b.1<;>by_cases he:b.1=aA<;>cases g<;>simp[he,hk2,aB]at ih hk2⊢<;>omega
def Bz(c:Ch)(rs:List Pr):(NX c rs).length<=rs.length+1:=by
 have:=(qe c rs _ rfl).1;unfold NX
 split
 ·split at this<;>omega
 rename_i h
 rw[AE (λe=>h e.1)]at this;rw[AF];simp;omega
def jq(rs:List Pr)(b:List Ch):∀k,(MO rs (b.take k)).length<=rs.length+k
 | 0=>by simp[MO]
 | k+1=>by
  have ih:=jq rs b k
  by_cases h:k<b.length
  ·rw[AQ h,ZY]
   have:=Bz b[k] (MO rs (b.take k));omega
  rw[AT (by omega)]at ih⊢
  omega
end
section
open Tryz
open Go.RowKit Go.Sort
def ru{a b:ByteArray}(h:LW a b<0):0<LW b a:=by
 rcases KI (LW b a) 0 with h1|h1|h1
 ·have:=bp a b a h h1
  rw[XE]at this;omega
 ·have:=(ZC _ _).1 h1
  subst this;rw[XE]at h;omega
 exact h1
def kx(rs:List Pr):MA rs=true<->rs.length<=100/\(∀x∈rs,OG x.1=true/\NN x.2=true)/\OC rs:=by
 constructor
 ·intro h
  obtain⟨h1,h2⟩:=XH h;refine⟨h1,λx hx=>?_,qJ h⟩;obtain⟨i,hi,rfl⟩:=FP hx;have:=h2 i hi;unfold OX at this;rw[TM _ _ hi]at this;simp only[CU]at this;exact this.1
 rintro⟨h1,h2,h3⟩
 refine np h1 (λk hk=>?_);unfold OX;have hm:=h2 _ (KV hk);rw[TM _ _ hk,hm.1,hm.2]
 by_cases h0:k=0
 ·simp[h0]
 have aA:k-1<rs.length:=by omega
 rw[TM _ _ aA];unfold OC at h3;rw[GH]at h3;have:=h3 (k-1) k aA hk (by omega);have h4:QR rs[k-1].1 rs[k].1=true:=(VO _ _).1 this;simp[h4]
def qF(aA:ByteArray):∀(rs:List Pr),OC rs->∃a m r,rs=a++m++r/\(∀x∈a,LW x.1 aA<0)/\(m=[]\/∃v,m=[(aA,v)])/\(∀x∈r,0<LW x.1 aA)
 | [],_=>⟨[],[],[],rfl,by simp,.inl rfl,by simp⟩
 | x::l,h=>by
  unfold OC at h;rw[List.pairwise_cons]at h;rcases KI (LW x.1 aA) 0 with h1|h1|h1
  ·obtain⟨a,m,r,e,ha,hm,hr⟩:=qF aA l h.2
   refine⟨x::a,m,r,by rw[e];rfl,λy hy=>?_,hm,hr⟩;rcases DK.1 hy with rfl|hy
   ·exact h1
   exact ha y hy
  ·have e:=(ZC _ _).1 h1
   refine⟨[],[x],l,rfl,by simp,.inr ⟨x.2,by rw[<-e]⟩,λy hy=>?_⟩;rw[<-e];exact ru (h.1 y hy)
  refine⟨[],[],x::l,rfl,by simp,.inl rfl,λy hy=>?_⟩
  rcases DK.1 hy with rfl|hy
  ·exact h1
  have h2:LW aA x.1<0:=(VO _ _).2 (ef h1)
  exact ru (bp _ _ _ h2 (h.1 y hy))
def yd(c:Ch)(rs:List Pr)(h:OC rs):∃a m r,rs=a++m++r/\(∀x∈a,LW x.1 c.1<0)/\(m=[]\/∃v,m=[(c.1,v)])/\(∀x∈r,0<LW x.1 c.1)/\NX c rs=VB c a r:=by
 obtain⟨a,m,r,e,ha,hm,hr⟩:=qF c.1 rs h;exact⟨a,m,r,e,ha,hm,hr,by rw[e];exact dg c a m r ha hm hr⟩
def yk(c:Ch)(rs:List Pr)(h:OC rs):OC (NX c rs):=by
 obtain⟨a,m,r,e,ha,hm,hr,hc⟩:=yd c rs h;rw[hc];rw[e]at h;exact ex c a m r h ha hr
def tS(c:Ch)(rs:List Pr)(h:OC rs):∀x∈NX c rs,x∈rs\/(x=(c.1,c.2.1)/\c.2.2=false):=by
 obtain⟨a,m,r,e,ha,hm,hr,hc⟩:=yd c rs h;rw[hc];intro x hx;unfold VB at hx;rw[BP,BP]at hx;rcases hx with (hx|hx)|hx
 ·exact .inl (by rw[e];simp[hx])
 ·split at hx
  ·simp at hx
  rename_i hg
  simp at hx;exact .inr ⟨hx,by simpa using hg⟩
 exact .inl (by rw[e];simp[hx])
def wC(rs:List Pr)(h:OC rs):∀(b:List Ch),OC (MO rs b):=by
 intro b;unfold MO
 induction b generalizing rs with
 | nil=>exact h
 | cons c l ih=>exact ih _ (yk c rs h)
def B5(rs:List Pr)(h:OC rs):∀(b:List Ch),∀x∈MO rs b,x∈rs\/∃c∈b,x=(c.1,c.2.1):=by
 intro b;unfold MO
 induction b generalizing rs with
 | nil=>exactλx hx=>.inl hx
 | cons c l ih =>
  intro x hx;rcases ih _ (yk c rs h) x hx with h1|⟨c',h1,h2⟩
  ·rcases tS c rs h x h1 with h3|h3
   ·exact .inl h3
   exact .inr ⟨c,DZ,h3.1⟩
  exact .inr ⟨c',BQ _ h1,h2⟩
def n7{c:Ch}(h:OE c=true):OG c.1=true/\NN c.2.1=true:=by
 unfold OE at h;simp only[CU]at h;exact h.1
def Gu{rs:List Pr}{b:List Ch}(h:OQ rs b=0):MA rs=true/\OA b=true/\(MO rs b).length<=100:=by
 unfold OQ at h
 split at h
 ·rename_i h1
  simp only[CU]at h1
  split at h
  ·rename_i h2;exact⟨h1.1,h1.2,h2⟩
  cases h
 cases h
def gc{rs:List Pr}{b:List Ch}(h:OQ rs b=0):MA (MO rs b)=true:=by
 obtain⟨h1,h2,h3⟩:=Gu h;obtain⟨_,k2,k3⟩:=(kx rs).1 h1;refine(kx _).2 ⟨h3,λx hx=>?_,wC rs k3 b⟩;rcases B5 rs k3 b x hx with h4|⟨c,h4,rfl⟩
 ·exact k2 x h4
 exact n7 ((VQ h2).2 c h4)
end
section
open Tryz
open Go
variable {a:Act}{aA:Array Bool}{aB i:Nat}{w:World}
section
variable {P:Program} {ops:Array Oper} {Q:Exit->Act->World->Prop} {md:Region.Mode} {S:World->Prop} {z:Nat}
def QQ(P:Program)(md:Region.Mode)(ops:Array Oper)(Q:Exit->Act->World->Prop)(S:World->Prop)(z:Nat):Nat->Array Bool->Act->World->Prop
 | 0,listed,a,w=>Region.ready md ops listed=[]/\Q .normal a w
 | fuel+1,listed,a,w =>
  (Region.ready md ops listed=[]->Q .normal a w) /\
  ∀i∈Region.ready md ops listed,wpOp P ops Q i (λa' w'=>(i≠z->S w')/\QQ P md ops Q S z fuel (listed.setIfInBounds i true) a' w') a w
def pX:∀(aB:Nat) (aA:Array Bool) (a:Act) (w:World),QQ P md ops Q S z aB aA a w->wpAny P md ops Q aB aA a w
 | 0,_,_,_,h=>h
 | aB+1,_,_,_,h=>⟨h.1,λi hi=>wpOp_mono (λa' w' h'=>pX aB _ a' w' h'.2) (h.2 i hi)⟩
def Et{oi:Oper}{v:Value}(hi:ops[i]?=some oi)(aH:∀(j:Nat) (o:Oper) cs b,ops[j]?=some o->o.op≠.select cs b)
  (hQ:∀c a w,Q (.panic c) (a.put oi.dst v) w->Q (.panic c) a w)(hz:i≠z)(hl:∀oz,ops[z]?=some oz->∃e∈oz.after,Region.binds md e=true/\e.on=i):∀(aB:Nat) (aA:Array Bool) (a:Act) (w:World),
   (∀j oj,ops[j]?=some oj->j≠i->aA.getD j true=false->(∀e∈oj.after,Region.binds md e=true->e.on≠i)->oi.apart ops oj=true) ->
   i∈Region.ready md ops aA->YieldsIf P ops S oi v a->S w ->
   QQ P md ops Q S z aB (aA.setIfInBounds i true) (a.put oi.dst v) w->QQ P md ops Q S z (aB+1) aA a w:=by
 intro aB
 induction aB with
 | zero =>
  intro aA a w _ hr hy hS H;refine⟨λh=>(by rw[h]at hr;cases hr),λj hj=>?_⟩
  by_cases aD:j=i
  ·subst aD;exact hy.wpOp hi hS ⟨λ_=>hS,H⟩
  have:=ready_mono hj aD
  rw[H.1]at this
  cases this
 | succ aB ih =>
  intro aA a w aC hr hy hS H;refine⟨λh=>(by rw[h]at hr;cases hr),λj hj=>?_⟩
  by_cases aD:j=i
  ·subst aD;exact hy.wpOp hi hS ⟨λ_=>hS,H⟩
  have h1:=H.2 j (ready_mono hj aD)
  obtain⟨aF,oj,aI,aJ⟩:=mem_ready.1 hj
  have aG:∀e∈oj.after,Region.binds md e=true->e.on≠i:=λe he hb aM=>by
   have h1:=aJ e he hb;have h0:=(mem_ready.1 hr).1;rw[aM]at h1;rcases GN i aA.size with h'|h'
   ·simp[h']at h0 h1;rw[h0]at h1;cases h1
   simp[DW h']at h1
  have aN:j≠z:=λe=>by
   subst e;obtain⟨x,hx,hb,ho⟩:=hl oj aI;exact aG x hx hb ho
  have h2:=wpOp_putIf aI (aC j oj aI aD aF aG) (λcs b=>aH i oi cs b hi) (λcs b=>aH j oj cs b aI) hQ hy (wpOp_mono (λa' w' h'=>(⟨h'.1 aN,h'.2⟩:S w'/\_)) h1)
  have aE:∀k ok,ops[k]?=some ok->k≠i->(aA.setIfInBounds j true).getD k true=false ->
    (∀e∈ok.after,Region.binds md e=true->e.on≠i)->oi.apart ops ok=true:=λk ok hk aO aL aP=>by
   refine aC k ok hk aO ?_ aP
   by_cases aK:j=k
   ·subst aK;exact aF
   rw[getD_set_ne true aK]at aL;exact aL
  refine wpOp_mono (λa' w' h3=>⟨λ_=>h3.2.1,ih (aA.setIfInBounds j true) a' w' aE (ready_mono hr (IZ aD)) h3.1 h3.2.1 ?_⟩) h2;rw[Array.setIfInBounds_comm _ _ aD];exact h3.2.2
def ee(md:Region.Mode)(ops:Array Oper)(z i:Nat):Bool:=i != z && (match ops[z]? with|some o=>o.after.any λe=>Region.binds md e && e.on == i|none=>true)
def tr{oi:Oper}{v:Value}(hi:ops[i]?=some oi)
  (hs:Region.noSelect ops=true)(hf:Region.free md ops aA i=true)(hr:(Region.ready md ops aA).contains i=true)(hz:ee md ops z i=true)
  (hQ:∀c a w,Q (.panic c) (a.put oi.dst v) w->Q (.panic c) a w)(hy:YieldsIf P ops S oi v a)(hS:S w)
  (h:QQ P md ops Q S z aB (aA.setIfInBounds i true) (a.put oi.dst v) w):QQ P md ops Q S z (aB+1) aA a w:=by
 unfold ee at hz;rw[CU]at hz;refine Et hi (Region.noSelect_spec hs) hQ (by simpa using hz.1) (λoz ho=>?_) aB aA a w (Region.free_spec hi hf) (by simpa using hr) hy hS h;have h2:=hz.2;rw[ho]at h2;obtain⟨e,he,h3⟩:=Array.any_eq_true'.1 h2;rw[CU]at h3;exact⟨e,he,h3.1,by simpa using h3.2⟩
def AllReadyT(P:Program)(md:Region.Mode)(ops:Array Oper)(Q:Exit->Act->World->Prop)(S:World->Prop)(z:Nat)(aB:Nat)(aA:Array Bool)(a:Act)(w:World)(rs:List Nat):Prop :=∀i∈rs,wpOp P ops Q i (λa' w'=>(i≠z->S w')/\QQ P md ops Q S z aB (aA.setIfInBounds i true) a' w') a w
def AllReadyT.nil:AllReadyT P md ops Q S z aB aA a w []:=λ_ h=>by cases h
def AllReadyT.cons{o:Oper}{rs:List Nat}(ho:ops[i]?=some o)
  (h:∀K':Act->World->Prop,Shut (∀a w,S w->(S w->QQ P md ops Q S z aB (aA.setIfInBounds i true) a w)->K' a w)->if Region.wanted o (yielded ops a.tmps)=true then Oper.wp P o a w K' Q else K' (a.put o.dst undef) w)
  (hs:AllReadyT P md ops Q S z aB aA a w rs):AllReadyT P md ops Q S z aB aA a w (i::rs):=λj hj=>by
 rcases DK.1 hj with rfl|hj
 ·exact wpOp_step ho (λK' hK=>h K' (λa w hS hW=>hK a w ⟨λ_=>hS,hW hS⟩))
 exact hs j hj
def AllReadyT.last{o:Oper}(ho:ops[z]?=some o)
  (h:∀K':Act->World->Prop,Shut (∀a w,True->(True->QQ P md ops Q S z aB (aA.setIfInBounds z true) a w)->K' a w)->if Region.wanted o (yielded ops a.tmps)=true then Oper.wp P o a w K' Q else K' (a.put o.dst undef) w):AllReadyT P md ops Q S z aB aA a w [z]:=λj hj=>by
 rw[EH]at hj;subst hj;exact wpOp_step ho (λK' hK=>h K' (λa w _ hW=>hK a w ⟨λk=>absurd rfl k,hW trivial⟩))
def PD{rs:List Nat}(hr:Region.ready md ops aA=rs)(aC:rs≠[])
  (h:AllReadyT P md ops Q S z aB aA a w rs):QQ P md ops Q S z (aB+1) aA a w:=⟨λh0=>absurd (hr ▸ h0) aC,hr ▸ h⟩
def UN(hr:Region.ready md ops aA=[])(h:Q .normal a w):∀aB,QQ P md ops Q S z aB aA a w
 | 0=>⟨hr,h⟩
 | _+1=>⟨λ_=>h,by rw[hr];simp⟩
def UV{id:Nat}(z:Nat)(hm:P.follows .mixedOrders=true)(hS:S w.drew)
  (h:S w.drew->QQ P .any ops Q S z ops.size (Array.replicate ops.size false) a w.drew):(Code.region id ops true).wp P Q a w :=wp_region_any hm (pX _ _ _ _ (h hS))
end
end
section
open Tryz
open Go Go.RowKit
variable {a:Act}{aA:Array Bool}{ops:Array Oper}{Q:Exit->Act->World->Prop}{aB:Nat}{P:Program}{md:Region.Mode}{w:World}{S:World->Prop}
def MY{z:Nat}(i:Nat){oi:Oper}(v:Value)(hi:ops[i]?=some oi)(hy:YieldsIf P ops S oi v a)(hS:S w)
  (h:QQ P md ops Q S z aB (aA.setIfInBounds i true) (a.put oi.dst v) w)(hs:Region.noSelect ops=true:=by kernel_rfl)(hf:Region.free md ops aA i=true:=by kernel_rfl)(hr:(Region.ready md ops aA).contains i=true:=by kernel_rfl)(hz:ee md ops z i=true:=by kernel_rfl)
  (hQ:∀c a w,Q (.panic c) (a.put oi.dst v) w->Q (.panic c) a w:=by exactλ_ _ _ h=>h):QQ P md ops Q S z (aB+1) aA a w:=tr hi hs hf hr hz hQ hy hS h
def NZ{z:Nat}(i:Nat){oi:Oper}(v:Value)(hi:ops[i]?=some oi)(hS:S w)
  (h:QQ P md ops Q S z aB (aA.setIfInBounds i true) (a.put oi.dst v) w)(hy:YieldsIf P ops S oi v a:=by exact BN ⟨by rfl,λw hw=>by(repeat (obtain⟨_,hw⟩:=hw));go_simp⟩)(hs:Region.noSelect ops=true:=by kernel_rfl)(hf:Region.free md ops aA i=true:=by kernel_rfl)(hr:(Region.ready md ops aA).contains i=true:=by kernel_rfl)(hz:ee md ops z i=true:=by kernel_rfl)
  (hQ:∀c a w,Q (.panic c) (a.put oi.dst v) w->Q (.panic c) a w:=by exactλ_ _ _ h=>h):QQ P md ops Q S z (aB+1) aA a w:=tr hi hs hf hr hz hQ hy hS h
def ND{z:Nat}(i:Nat){o:Oper}(ho:ops[i]?=some o)
  (h:∀K':Act->World->Prop,Shut (∀a w,S w->(S w->QQ P md ops Q S z aB (aA.setIfInBounds i true) a w)->K' a w)->if Region.wanted o (yielded ops a.tmps)=true then Oper.wp P o a w K' Q else K' (a.put o.dst undef) w)
  (hr:Region.ready md ops aA=[i]:=by kernel_rfl):QQ P md ops Q S z (aB+1) aA a w:=PD hr (by simp) (AllReadyT.cons ho h AllReadyT.nil)
end
section
open Tryz
open Go.RowKit
variable {xs:List Value}{base n size:Nat}{a:Option Addr}{g0 r:Option Nat}{e:TypeId}{v:Value}{w w' w9 wS wb wr:World}
structure Grow(wS wr:World)(g0:Option Nat)(base:Nat)(e:TypeId)(size:Nat)(v:Value)(n:Nat)(xs:List Value):Prop where
 own:wr.ownsRow base e size v n xs
 gb:wS.grownBy wr g0
 at_:∀k,v.ownBlock=some k->g0=some k\/wS.heap.size<=k
def Grow.start(h:w.ownsRow base e size v n xs):Grow w w v.ownBlock base e size v n xs:=⟨h,BH _ _,λk hk=>.inl hk⟩
def Grow.I(h:Grow wS wr g0 base e size v n xs)(hb:Below wr.heap.size wr w'):Grow wS w' g0 base e size v n xs :=⟨LY h.own hb,⟨hb.os.j h.gb.os,hb.tape.j h.gb.tape,hb.output.j h.gb.output,AL h.gb.size hb.size,λk hk aA=>(hb.block k (AD hk h.gb.size)).j (h.gb.block k hk aA)⟩,h.at_⟩
def pT(h:wS.grownBy wr g0)(hg:wr.grownBy w9 r)(hr:∀k,r=some k->g0=some k\/wS.heap.size<=k):wS.grownBy w9 g0 :=⟨hg.os.j h.os,hg.tape.j h.tape,hg.output.j h.output,AL h.size hg.size,λk hk aA=>(hg.block k (AD hk h.size) (λe=>by
  rcases hr k e.symm with h1|h1
  ·exact aA h1.symm
  ·omega)).j (h.block k hk aA)⟩
def Grow.push{v9:Value}{n9 H:Nat}{aB:List Value}(h:Grow wS wr g0 base e size v n xs)(aA:w9.ownsRow base e size v9 n9 aB)(hg:wr.grownBy w9 v.ownBlock)(aC:v.ownBlock=v9.ownBlock\/v9.ownBlock=some H)(hH:wr.heap.size<=H):Grow wS w9 g0 base e size v9 n9 aB :=⟨aA,pT h.gb hg h.at_,λk hk=>by
  rcases aC with h1|h1
  ·exact h.at_ k (h1.j hk)
  rw[h1]at hk;cases hk;exact .inr (AL h.gb.size hH)⟩
def Grow.j{w4:World}{v':Value}{n':Nat}{aA:List Value}(h:Grow wS w4 g0 base e size v n xs)(k:Grow w4 wr v.ownBlock base e size v' n' aA):Grow wS wr g0 base e size v' n' aA :=⟨k.own,pT h.gb k.gb h.at_,λj hj=>by
  rcases k.at_ j hj with h1|h1
  ·exact h.at_ j h1
  exact .inr (AL h.gb.size h1)⟩
def WA(hg:w.grownBy w' r)(hn:n<=w.heap.size)(hr:∀k,r=some k->n<=k):Below n w w' :=⟨hg.os,hg.tape,hg.output,hg.size,λk hk=>hg.block k (by omega) (λe=>by have:=hr k e.symm;omega)⟩
def zo(h:w.drew.grownBy w' r):w.grownBy w' r:=⟨h.os,h.tape,h.output,h.size,h.block⟩
def VK(k v:ByteArray):∀u∈[Value.string k,.string v],u.oneCell'=true:=by
 intro u hu;simp only[DK,EN,IY]at hu;rcases hu with rfl|rfl<;>rfl
def nh(o:List Pr)(c:Pr):LI (o++[c])=LI o++[.string c.1,.string c.2]:=by rw[QT];rfl
def ZV{A:Array Value}{t:TypeId}{g:Nat}(hg:w.heap.size=g):Row (w.alloc (.cells A t)) g A.toList:=by subst hg;exact ME w A t
def yB{o:Obj}(h:(w.drew.alloc o).grownBy w' r):(w.alloc o).grownBy w' r:=⟨h.os,h.tape,h.output,h.size,h.block⟩
def Eh{s:Nat}(h:w.ownsRow base e s v n xs)(hk:∀b,base<=b->b<w.heap.size->w'.heap[b]?=w.heap[b]?):w'.ownsRow base e s v n xs:=by
 refine⟨h.1,?_⟩;rcases h.2 with hn|⟨g,cap,cur,rfl,hb,aB,aA⟩
 ·exact .inl hn
 exact .inr ⟨g,cap,cur,rfl,hb,(hk g hb (AS.1 aB).1).j aB,aA⟩
def gm{α:Type}(l:List α)(k:Nat)(d:α)(h:k<l.length):l.take (k+1)=l.take k++[l.getD k d]:=by
 rw[AQ h];simp[List.getD,h]
structure OutX(w wb wr:World)(v:Value)(o:List Pr):Prop where
 row:Row wr (w.heap.size+1+1+1) [v]
 own:wr.ownsRow (w.heap.size+1+1+1+1) 162 2 v o.length (LI o)
 bel:Below (w.heap.size+1+1+1) wb wr
def OutX.I{o:List Pr}(h:OutX w wb wr v o)(hb:Below wr.heap.size wr w'):OutX w wb w' v o:=⟨h.row.I hb,LY h.own hb,h.bel.j (hb.i (by have:=h.row.lt;omega))⟩
def OutX.sl{o:List Pr}(h:OutX w wb wr v o):∃va vc,v=Value.slice va o.length vc:=by
 rcases MM h.own with ⟨e1,e2⟩|⟨g,cap,e1,_⟩
 ·exact⟨none,0,by rw[e1,e2]⟩
 exact⟨_,cap,e1⟩
def OutX.push{va:Option Addr}{vc g9 aA:Nat}{out:List Pr}{x:Pr}{o:Obj}(h:OutX w wb wr (.slice va out.length vc) out)
  (aB:w9.ownsRow (w.heap.size+1+1+1+1) 162 2 (.slice (some ⟨g9,0,none⟩) (out.length+1) aA) (out.length+1) (LI out++[.string x.1,.string x.2]))(hg:(wr.alloc o).grownBy w9 (Value.slice va out.length vc).ownBlock):Row w9 (w.heap.size+1+1+1) [.slice va out.length vc]/\OutX w wb (w9.setCell ⟨w.heap.size+1+1+1,0,none⟩ (.slice (some ⟨g9,0,none⟩) (out.length+1) aA)) (.slice (some ⟨g9,0,none⟩) (out.length+1) aA) (out++[x])/\Below (w.heap.size+1+1+1) wb w9:=by
 have aG:=h.row.lt;have hr:Row w9 (w.heap.size+1+1+1) [.slice va out.length vc]:=(h.row.alloc o).z hg (λe=>by have:=(h.own.lt _ e.symm).1;omega);have aC:Below (w.heap.size+1+1+1) wb w9:=h.bel.j (WA (w:=wr) ⟨hg.os,hg.tape,hg.output,AL (by simp) hg.size,λk hk aE=>(hg.block k (by simp;omega) aE).j (((AB wr.heap.size wr).alloc (AA _) o).block k hk)⟩ (by omega) (λk hk=>by have:=(h.own.lt k hk).1;omega));have aF:=(aB.lt g9 rfl).1;refine⟨hr,⟨hr.set 0 (by simp) _,?_,aC.setCell (p:=⟨w.heap.size+1+1+1,0,none⟩) (AA _) _⟩,aC⟩;have aD:w9.grownBy (w9.setCell ⟨w.heap.size+1+1+1,0,none⟩ (.slice (some ⟨g9,0,none⟩) (out.length+1) aA)) (some (w.heap.size+1+1+1)):=⟨rfl,rfl,rfl,by simp[World.setCell],λk _ hk=>BD _ _ _ k (λe=>hk (by rw[e]))⟩;have:=aB.kept aD (.inr (by simp[Value.ownBlock];omega));rw[AF,nh];exact this
def qP(w w':World)(e:Ending)(rs:List Pr):Prop:=∃a c,e=.returned (LR a rs.length c)/\rs.length<=c/\OwnS w' a (LI rs)/\(∀g,blk a rs.length=some g->w.heap.size<=g)/\Below w.heap.size w w'/\w'.ownsRow w.heap.size 162 2 (.slice a rs.length c) rs.length (LI rs)
def tJ{B B':Nat}{k:Nat}(h:w.ownsRow B e k v n xs)(hb:B'<=B):w.ownsRow B' e k v n xs:=⟨h.1,h.2.imp id (λ⟨g,cap,cur,h1,h2,r⟩=>⟨g,cap,cur,h1,AL hb h2,r⟩)⟩
def uh{va:Option Addr}{vc:Nat}{out:List Pr}(h:OutX w wb wr (.slice va out.length vc) out)(hb:Below w.heap.size wr w')(hk:∀k,w.heap.size+1+1+1+1<=k->w'.heap[k]?=wr.heap[k]?)(aB:Below w.heap.size w wb)(hs:w.heap.size+1+1+1+1<=wb.heap.size):qP w w' (.returned (LR va out.length vc)) out:=by
 have aA:out.length<=vc:=by
  rcases h.own.2 with ⟨e1,e2⟩|⟨g,cap,cur,e1,_,_,h3,_⟩
  ·rw[e2];omega
  cases e1;exact h3
 have ho:=Eh h.own (λb h1 _=>hk b h1);refine⟨va,vc,rfl,aA,?_,λg hg=>?_,aB.j ((h.bel.i (by omega)).j hb),tJ ho (by omega)⟩
 ·rcases MM ho with ⟨_,e2⟩|⟨g,cap,e1,_,_,e4⟩
  ·exact .inl (by rw[AC e2];rfl)
  cases e1;exact .inr ⟨g,rfl,e4⟩
 unfold blk at hg
 split at hg
 ·cases hg
 cases va with
 | none=>cases hg
 | some ad =>
  simp at hg;subst hg;have:=(h.own.lt ad.block rfl).1;omega
def rC(a:Option Addr)(rs:List Pr)(c:Nat)(aB aC:ByteArray)(aD:Bool)(w:World)(h:Prs w a rs)(hl:rs.length<=100000):Calls prog 205 #[LR a rs.length c,.agg #[.string aB,.string aC,.bool aD]] w λe w'=>qP w w' e (NX (aB,aC,aD) rs):=by
 obtain⟨i0,cW,dB,dF,dH⟩:=UP ZK;have HI:=LE (AG cW (AG dB (AG dF dH)));clear cW dB dF dH;unfold LR;obtain⟨wb,aN⟩:∃wb,wb=(((w.alloc (.cells #[.slice a rs.length c] 48)).alloc (.cells #[.string aB,.string aC,.bool aD] 127)).alloc (.cells #[.slice none 0 0] 48)).alloc (.cells #[.slice none 0 0] 48):=⟨_,rfl⟩;have eE:wb.heap.size=w.heap.size+1+1+1+1:=by rw[aN];simp
 have bT:Hid (Below w.heap.size w wb):=by show Below _ _ _;rw[aN];exact(((LG _ _).alloc (by simp) _).alloc (by simp<;>omega) _).alloc (by simp<;>omega) _
 have aR:Hid (∀w',Below (w.heap.size+1+1+1) wb w'->Row w' (w.heap.size) [.slice a rs.length c]/\Row w' (w.heap.size+1) [.string aB,.string aC,.bool aD]/\Row w' (w.heap.size+1+1) [.slice none 0 0]):=λw' hb=>by
  have r0:Row wb (w.heap.size) [.slice a rs.length c]:=by rw[aN];exact(((ME w _ _).alloc _).alloc _).alloc _
  have r1:Row wb (w.heap.size+1) [.string aB,.string aC,.bool aD]:=by rw[aN];exact((ZV (w:=w.alloc _) (by simp)).alloc _).alloc _
  have r2:Row wb (w.heap.size+1+1) [.slice none 0 0]:=by rw[aN];exact(ZV (w:=(w.alloc _).alloc _) (by simp)).alloc _
  have aB:∀ {g:Nat} {cs:List Value},g<w.heap.size+1+1+1->Row wb g cs->Row w' g cs:=λhg r=>⟨AD r.lt hb.size,λi v hv=>(hb.cell (p:=⟨_,i,none⟩) hg).j (r.cell i v hv),λi hi=>(hb.frozen (p:=⟨_,i,none⟩) hg).j (r.froz i hi)⟩
  exact⟨aB (by omega) r0,aB (by omega) r1,aB (by omega) r2⟩
 have aP:Row wb (w.heap.size+1+1+1) [.slice none 0 0]:=by rw[aN];exact ZV (w:=((w.alloc _).alloc _).alloc _) (by simp)
 have dM:Hid (Row wb (w.heap.size+1+1+1) [.slice none 0 0]):=aP;clear aP;go_enter func205,ntmps205;go_wp2_with fail;rw[<-aN];clear aN;go_loopw [6,7] (λd i wr=>∃k:Nat,k<=rs.length/\i=.int .i64 (k:Int)/\d=.bool (chW (aB,aC,aD) (rs.take k)).1/\∃y,OutX w wb wr y (chW (aB,aC,aD) (rs.take k)).2) (λ_ i _=>rs.length-(intOf i).toNat)
 case atStart =>
  exact⟨0,AH _,rfl,by simp[chW],.slice none 0 0,⟨dM.o,BZ _ _ _ _,AB _ _⟩⟩
 case round =>
  obtain⟨k,hk,rfl,rfl,y,hx⟩:=hrel;obtain⟨out,aM⟩:∃out,out=(chW (aB,aC,aD) (rs.take k)).2:=⟨_,rfl⟩;obtain⟨d,hd⟩:∃d,d=(chW (aB,aC,aD) (rs.take k)).1:=⟨_,rfl⟩;have aW:chW (aB,aC,aD) (rs.take k)=(d,out):=by rw[hd,aM]
  rw[<-aM]at hx;rw[<-hd]
  have cX:out.length<=100001:=by
   have:=(qe (aB,aC,aD) (rs.take k) _ rfl).1;rw[<-aM,BC]at this
   split at this<;>omega
  clear aM hd;obtain⟨va,vc,rfl⟩:=hx.sl;obtain⟨bJ,aT,bC⟩:=aR.o _ hx.bel;have q0:=bJ.x 0;have cA:=aT.x 0;have cB:=aT.x 1;have q3:=hx.row.x 0;have r3:=hx.row.q 0;have l3:=hx.row.lt;have cM:Below w.heap.size w wr:=bT.o.j (hx.bel.i (by omega));have HX:=LE hx;clear hx
  by_cases cQ:k<rs.length
  ·obtain⟨b,o,s0,s1,rfl,cN,cO,HS⟩:=(h.I cM).at cQ
   have bW:b<w.heap.size:=by
    rcases h with h|⟨b',o',h1,h2,_⟩
    ·subst h;simp at cQ
    cases h1;exact h2
   have dU:(k:Int)<(rs.length:Int):=by omega
   have eH:(0:Int)<=(k:Int):=by omega
   have aQ:chW (aB,aC,aD) (rs.take (k+1))=ST aB aC (d,out) (s0,s1):=by rw[gm rs k (empty,empty) cQ,jl,<-HS.o,aW]
   have aG:=LE aQ;clear aQ aW HS bJ aT bC
   have dL:Hid (∀w',Below (w.heap.size+1+1+1) wr w'->w'.cell? ⟨w.heap.size,0,none⟩=some (.slice (some ⟨b,o,none⟩) rs.length c)/\w'.cell? ⟨b,o+k*2,none⟩=some (.string s0)/\w'.cell? ⟨b,o+k*2+1,none⟩=some (.string s1)/\w'.cell? ⟨w.heap.size+1,0,none⟩=some (.string aB)/\w'.cell? ⟨w.heap.size+1,1,none⟩=some (.string aC)):=λw' hb=>⟨(hb.cell (p:=⟨w.heap.size,0,none⟩) (by show w.heap.size<_;omega)).j q0,(hb.cell (p:=⟨b,o+k*2,none⟩) (by show b<_;omega)).j cN,(hb.cell (p:=⟨b,o+k*2+1,none⟩) (by show b<_;omega)).j cO,(hb.cell (p:=⟨w.heap.size+1,0,none⟩) (by show w.heap.size+1<_;omega)).j cA,(hb.cell (p:=⟨w.heap.size+1,1,none⟩) (by show w.heap.size+1<_;omega)).j cB⟩
   have dN:Hid (∀w',Below w.heap.size w w'->w'.cell? ⟨b,o+k*2,none⟩=some (.string s0)/\w'.cell? ⟨b,o+k*2+1,none⟩=some (.string s1)):=λw' hb=>⟨(hb.cell (p:=⟨b,o+k*2,none⟩) bW).j ((cM.cell (p:=⟨b,o+k*2,none⟩) bW).symm.j cN),(hb.cell (p:=⟨b,o+k*2+1,none⟩) bW).j ((cM.cell (p:=⟨b,o+k*2+1,none⟩) bW).symm.j cO)⟩
   have aJ:Hid (∀w',Below (w.heap.size+1+1+1) wb w'->w'.cell? ⟨w.heap.size,0,none⟩=some (.slice (some ⟨b,o,none⟩) rs.length c)/\w'.cell? ⟨b,o+k*2,none⟩=some (.string s0)/\w'.cell? ⟨b,o+k*2+1,none⟩=some (.string s1)/\w'.cell? ⟨w.heap.size+1,0,none⟩=some (.string aB)/\w'.cell? ⟨w.heap.size+1,1,none⟩=some (.string aC)):=λw' hb=>by
    obtain⟨bJ,aT,bC⟩:=aR.o _ hb;obtain⟨eB,eC⟩:=dN.o w' (bT.o.j (hb.i (by omega)));exact⟨bJ.x 0,eB,eC,aT.x 0,aT.x 1⟩
   obtain⟨bA,cL⟩:∃b,b=(!d && QR aB s0):=⟨_,rfl⟩;obtain⟨d1,cP⟩:∃b,b=(d || bA):=⟨_,rfl⟩;obtain⟨o1,b7⟩:∃l,l=(if bA=true then out++[(aB,aC)] else out):=⟨_,rfl⟩;have dZ:o1.length<=100002:=by rw[b7];split<;>(try rw[AF])<;>(try simp only[BY,AR])<;>omega
   have cY:ST aB aC (d,out) (s0,s1)=(d1,if s0=aB then o1 else o1++[(s0,s1)]):=by
    rw[cP,b7,cL];unfold ST;cases d<;>cases hk:QR aB s0<;>by_cases he:s0=aB<;>simp[he,hk]<;>(first|done|(rw[he]at hk;simp_all))
   rw[cY]at aG;have bQ:=LE cL;have cC:=LE cP;have cE:=LE b7;clear cL cP b7 cY;have aK:Below wr.heap.size wr wr.drew:=(AB _ _).drew;go_upto_region 6 with fail;clear dL cN cO q0 cA cB q3 r3 l3;go_cut [30] from 18 to 30 (λtv wx=>tv=.bool bA/\Below wr.heap.size wr wx)
   case first =>
    cases d with
    | true =>
     refine AP (S:=λw'=>w'.cell? ⟨w.heap.size,0,none⟩=some (.slice (some ⟨b,o,none⟩) rs.length c)/\w'.cell? ⟨b,o+k*2,none⟩=some (.string s0)/\w'.cell? ⟨b,o+k*2+1,none⟩=some (.string s1)/\w'.cell? ⟨w.heap.size+1,0,none⟩=some (.string aB)/\w'.cell? ⟨w.heap.size+1,1,none⟩=some (.string aC)) (by kernel_rfl) (aJ.o _ (HX.o.bel.j (aK.i (by have:=HX.o.row.lt;omega)))) (λaA=>?_);refine TY 0 (.bool true) rfl aA ?_;simp only[PS];refine TY 1 (.bool false) rfl aA ?_;simp only[PS];refine TY 2 (.bool false) rfl aA ?_;simp only[PS];refine TK 3 (undef) rfl (IQ ⟨by kernel_rfl,rfl⟩) aA ?_;simp only[PS];refine TK 4 (undef) rfl (IQ ⟨by kernel_rfl,rfl⟩) aA ?_;simp only[PS];refine TK 5 (undef) rfl (IQ ⟨by kernel_rfl,rfl⟩) aA ?_;simp only[PS];refine TK 6 (undef) rfl (IQ ⟨by kernel_rfl,rfl⟩) aA ?_;simp only[PS];refine TK 7 (undef) rfl (IQ ⟨by kernel_rfl,rfl⟩) aA ?_;simp only[PS]
     refine TK 8 (undef) rfl (IQ ⟨by kernel_rfl,rfl⟩) aA ?_;simp only[PS];refine TK 9 (undef) rfl (IQ ⟨by kernel_rfl,rfl⟩) aA ?_;simp only[PS];refine TK 10 (undef) rfl (IQ ⟨by kernel_rfl,rfl⟩) aA ?_;simp only[PS];refine TK 11 (undef) rfl (IQ ⟨by kernel_rfl,rfl⟩) aA ?_;simp only[PS];refine TY 12 (.bool false) rfl aA ?_;simp only[PS];refine DN ?_;go_wp2_with fail;go_meet;exact⟨by rw[bQ.o];rfl,aK⟩
    | false =>
     rcases KI (LW s0 aB) 0 with aV|aV|aV
     focus
      have bU:Hid (QR aB s0=false):=pI aV;have cU:Op.bytesLess s0.toList aB.toList=true:=(VO _ _).1 aV
     rotate_left
     focus
      have he:=(ZC _ _).1 aV;have bU:Hid (QR aB s0=false):=by show _=_;rw[he];exact kg _
      have cU:s0.toList=aB.toList:=by rw[he]
      clear he
     rotate_left
     ·have bU:Hid (QR aB s0=true):=ef aV
      have cU:¬(s0.toList=aB.toList):=λhh=>by rw[DF,DF]at hh;rw[FA (JC hh),XE]at aV;omega
      have eG:Op.bytesLess s0.toList aB.toList=false:=by cases hq:Op.bytesLess s0.toList aB.toList with|false=>rfl|true=>(have:=(VO _ _).2 hq;omega)
      refine AP (S:=λw'=>w'.cell? ⟨w.heap.size,0,none⟩=some (.slice (some ⟨b,o,none⟩) rs.length c)/\w'.cell? ⟨b,o+k*2,none⟩=some (.string s0)/\w'.cell? ⟨b,o+k*2+1,none⟩=some (.string s1)/\w'.cell? ⟨w.heap.size+1,0,none⟩=some (.string aB)/\w'.cell? ⟨w.heap.size+1,1,none⟩=some (.string aC)) (by kernel_rfl) (aJ.o _ (HX.o.bel.j (aK.i (by have:=HX.o.row.lt;omega)))) (λaA=>?_);refine TY 0 (.bool false) rfl aA ?_;simp only[PS];refine TY 1 (.bool true) rfl aA ?_;simp only[PS];refine TY 2 (.bool true) rfl aA ?_;simp only[PS];refine TY 3 (.pointer (some ⟨w.heap.size,0,none⟩)) rfl aA ?_;simp only[PS];refine TY 4 (.slice (some ⟨b,o,none⟩) rs.length c) rfl aA ?_;simp only[PS];refine TY 5 (.int .i64 (k:Int)) rfl aA ?_;simp only[PS];refine TY 6 (.pointer (some ⟨b,o+k*2,none⟩)) rfl aA ?_;simp only[PS];refine TY 7 (.pointer (some ⟨b,o+k*2,none⟩)) rfl aA ?_;simp only[PS];refine TY 8 (.string s0) rfl aA ?_
      simp only[PS];refine TY 9 (.pointer (some ⟨w.heap.size+1,0,none⟩)) rfl aA ?_;simp only[PS];refine TY 10 (.string aB) rfl aA ?_;simp only[PS];refine TY 11 (.bool true) rfl aA ?_;simp only[PS];refine TY 12 (.bool true) rfl aA ?_;simp only[PS];refine DN ?_;go_wp2_with fail;go_meet;exact⟨by rw[bQ.o,bU.o];rfl,aK⟩
     all_goals
      refine AP (S:=λw'=>w'.cell? ⟨w.heap.size,0,none⟩=some (.slice (some ⟨b,o,none⟩) rs.length c)/\w'.cell? ⟨b,o+k*2,none⟩=some (.string s0)/\w'.cell? ⟨b,o+k*2+1,none⟩=some (.string s1)/\w'.cell? ⟨w.heap.size+1,0,none⟩=some (.string aB)/\w'.cell? ⟨w.heap.size+1,1,none⟩=some (.string aC)) (by kernel_rfl) (aJ.o _ (HX.o.bel.j (aK.i (by have:=HX.o.row.lt;omega)))) (λaA=>?_);refine TY 0 (.bool false) rfl aA ?_;simp only[PS];refine TY 1 (.bool true) rfl aA ?_;simp only[PS];refine TY 2 (.bool true) rfl aA ?_;simp only[PS];refine TY 3 (.pointer (some ⟨w.heap.size,0,none⟩)) rfl aA ?_;simp only[PS];refine TY 4 (.slice (some ⟨b,o,none⟩) rs.length c) rfl aA ?_;simp only[PS];refine TY 5 (.int .i64 (k:Int)) rfl aA ?_;simp only[PS];refine TY 6 (.pointer (some ⟨b,o+k*2,none⟩)) rfl aA ?_;simp only[PS];refine TY 7 (.pointer (some ⟨b,o+k*2,none⟩)) rfl aA ?_;simp only[PS];refine TY 8 (.string s0) rfl aA ?_
      simp only[PS];refine TY 9 (.pointer (some ⟨w.heap.size+1,0,none⟩)) rfl aA ?_;simp only[PS];refine TY 10 (.string aB) rfl aA ?_;simp only[PS];refine TY 11 (.bool false) rfl aA ?_;simp only[PS];refine TY 12 (.bool false) rfl aA ?_;simp only[PS];refine DN ?_;go_wp2_with fail;go_meet;exact⟨by rw[bQ.o,bU.o];rfl,aK⟩
   case rest =>
    obtain⟨rfl,hb⟩:=hcut
    rename World=>wa
    have aZ:=LE (HX.o.I hb);clear HX hb aK;have HX:=aZ;clear aZ;obtain⟨-,-,-,cA,cB⟩:=aJ.o _ HX.o.bel;have q3:=HX.o.row.x 0;have r3:=HX.o.row.q 0;have l3:=HX.o.row.lt;go_upto_if 30 with fail;go_cut [6] from 31 to 40 (λdv wx=>dv=.bool d1/\∃va vc,OutX w wb wx (.slice va o1.length vc) o1)
    case first =>
     cases bA with
     | true =>
      have e1:=cE.o;rw[AK rfl]at e1;subst e1;have e2:=cC.o;rw[Bool.or_true]at e2;subst e2;go_wp2_with (at_builtin;refine PU _ rfl _ _ 46 rfl (w.heap.size+1+1+1+1) underlying46 HI.o rfl (by omega) _ out.length _ rfl (HX.o.own.alloc _) ⟨wa.heap.size,0,none⟩ 1 1 [.string aB,.string aC] rfl rfl (World.news_of_block (AY wa _)) (VK _ _) (by simp;omega) (wa.heap.size+1) (by simp) ?_;intro g7 aI w7 aH aE aU cS;have aF:=OutX.push (x:=(aB,aC)) HX.o aH aE;have q7:=aF.1.x 0;have r7:=aF.1.q 0;have l7:=aF.1.lt;have cT:=(aR.o _ aF.2.2).2.2.x 0;have eF:=(aR.o _ aF.2.2).2.2.q 0;have bV:=LE aF;clear aH aE aU aF);have aX:=bV.o.2.1;have e8:Value.slice (some ⟨g7,0,none⟩) (out.length+1) aI=.slice (some ⟨g7,0,none⟩) (out++[(aB,aC)]).length aI:=by rw[AF];rfl
      go_meet;refine⟨rfl,some ⟨g7,0,none⟩,aI,?_⟩;rw[<-e8];exact aX
     | false =>
      have e1:=cE.o;rw[AE (by simp)]at e1;subst e1;have e2:=cC.o;rw[Bool.or_false]at e2;subst e2;go_wp2_with fail;go_meet;exact⟨rfl,va,vc,HX.o⟩
    case rest =>
     obtain⟨rfl,bE,bF,aX⟩:=hcut
     rename World=>w8
     clear q3 r3 l3 cA cB HX cE cC bQ;have HX:=LE aX;clear aX;obtain⟨eb,bP⟩:∃eb,(s0.toList == aB.toList)=eb:=⟨_,rfl⟩;have aK:Below w8.heap.size w8 w8.drew:=(AB _ _).drew;go_upto_region 9 with fail;refine AP (S:=λw'=>w'.cell? ⟨w.heap.size,0,none⟩=some (.slice (some ⟨b,o,none⟩) rs.length c)/\w'.cell? ⟨b,o+k*2,none⟩=some (.string s0)/\w'.cell? ⟨b,o+k*2+1,none⟩=some (.string s1)/\w'.cell? ⟨w.heap.size+1,0,none⟩=some (.string aB)/\w'.cell? ⟨w.heap.size+1,1,none⟩=some (.string aC)) (by kernel_rfl) (aJ.o _ (HX.o.bel.j (aK.i (by have:=HX.o.row.lt;omega)))) (λaA=>?_);refine TY 0 (.pointer (some ⟨w.heap.size,0,none⟩)) rfl aA ?_;simp only[PS];refine TY 1 (.slice (some ⟨b,o,none⟩) rs.length c) rfl aA ?_;simp only[PS];refine TY 2 (.int .i64 (k:Int)) rfl aA ?_;simp only[PS];refine TY 3 (.pointer (some ⟨b,o+k*2,none⟩)) rfl aA ?_;simp only[PS];refine TY 4 (.pointer (some ⟨b,o+k*2,none⟩)) rfl aA ?_
     simp only[PS];refine TY 5 (.string s0) rfl aA ?_;simp only[PS];refine TY 6 (.pointer (some ⟨w.heap.size+1,0,none⟩)) rfl aA ?_;simp only[PS];refine TY 7 (.string aB) rfl aA ?_;simp only[PS];refine TY 8 (.bool (!eb)) rfl aA ?_;simp only[PS];refine DN ?_;obtain⟨wd,cZ⟩:∃wd,wd=w8.drew:=⟨_,rfl⟩;rw[<-cZ]at aK⊢;have aS:=LE (HX.o.I aK);clear cZ HX aK aA;have ld:=aS.o.row.lt;have qd:=aS.o.row.x 0;have rd:=aS.o.row.q 0
     cases eb with
   | true =>
    have HE:Hid (s0=aB):=by have:=eq_of_beq bP;rw[DF,DF]at this;exact FA (JC this)
    clear bP;go_wp2;refine⟨⟨k+1,by omega,by go_num,by rw[aG.o],.slice bE o1.length bF,?_⟩,by simp[intOf];omega⟩;rw[aG.o,AK HE.o];exact aS.o
   | false =>
    have HE:Hid (¬s0=aB):=λe=>by rw[e]at bP;simp at bP
    clear bP;go_upto_region 10 with fail
    have cF:Hid (∀w',Below (w.heap.size+1+1+1) wb w'->Row w' (w.heap.size+1+1+1) [.slice bE o1.length bF]->w'.cell? ⟨w.heap.size,0,none⟩=some (.slice (some ⟨b,o,none⟩) rs.length c)/\w'.cell? ⟨b,o+k*2,none⟩=some (.string s0)/\w'.cell? ⟨b,o+k*2+1,none⟩=some (.string s1)/\w'.cell? ⟨w.heap.size+1,0,none⟩=some (.string aB)/\w'.cell? ⟨w.heap.size+1,1,none⟩=some (.string aC)/\w'.cell? ⟨w.heap.size+1+1+1,0,none⟩=some (.slice bE o1.length bF)):=λw' hb hr=>by obtain⟨a1,a2,a3,a4,a5⟩:=aJ.o _ hb;exact⟨a1,a2,a3,a4,a5,hr.x 0⟩
    have dQ:Below wd.heap.size wd (wd.drew.alloc (.cells #[.string s0,.string s1] 162)):=(AB _ _).drew.alloc (AA _) _;have aZ:=LE (aS.o.I dQ);have cV:=aS.o.I (AB wd.heap.size wd).drew;refine UV (10) (S:=λw'=>w'.cell? ⟨w.heap.size,0,none⟩=some (.slice (some ⟨b,o,none⟩) rs.length c)/\w'.cell? ⟨b,o+k*2,none⟩=some (.string s0)/\w'.cell? ⟨b,o+k*2+1,none⟩=some (.string s1)/\w'.cell? ⟨w.heap.size+1,0,none⟩=some (.string aB)/\w'.cell? ⟨w.heap.size+1,1,none⟩=some (.string aC)/\w'.cell? ⟨w.heap.size+1+1+1,0,none⟩=some (.slice bE o1.length bF)) (by kernel_rfl) (cF.o _ cV.bel cV.row) (λaA=>?_);refine NZ 0 (.pointer (some ⟨w.heap.size+1+1+1,0,none⟩)) rfl aA ?_;simp only[PS];refine NZ 1 (.slice bE o1.length bF) rfl aA ?_;simp only[PS];refine NZ 2 (.pointer (some ⟨w.heap.size,0,none⟩)) rfl aA ?_;simp only[PS];refine NZ 3 (.slice (some ⟨b,o,none⟩) rs.length c) rfl aA ?_
    simp only[PS];refine NZ 4 (.int .i64 (k:Int)) rfl aA ?_;simp only[PS];refine NZ 5 (.pointer (some ⟨b,o+k*2,none⟩)) rfl aA ?_;simp only[PS];refine NZ 6 (.agg #[.string s0,.string s1]) rfl aA ?_;simp only[PS];refine ND 7 rfl (λKq bI=>?_);go_simp;refine bI.o _ _ (cF.o _ aZ.o.bel aZ.o.row) (λdP=>?_)
    try simp only[PS]
    refine ND 8 rfl (λKq bI=>?_);refine step_append_lies _ (by rfl) _ _ _ (by rfl) (w.heap.size+1+1+1+1) 162 i0 (.agg #[.string empty,.string empty]) 2 32 underlying46 HI.o.1 HI.o.2.1 HI.o.2.2.1 HI.o.2.2.2 rfl (by omega) (.slice bE o1.length bF) o1.length _ (by rfl) aZ.o.own ⟨wd.heap.size,0,none⟩ 1 1 [.string s0,.string s1] (by rfl) rfl (World.news_of_block (AY wd.drew _)) (VK _ _) (by omega) (by unfold maxLen;(try simp)<;>omega) (by(try simp)<;>omega) (by(try simp)<;>omega) (wd.heap.size+1) (by simp) ?_;intro g9 cH w9 aO aL cJ dV;have aF:=OutX.push (x:=(s0,s1)) aS.o aO (yB aL);have aY:=LE aF;clear aO aL cJ aF;refine bI.o _ _ (cF.o _ aY.o.2.2 aY.o.1) (λcI=>?_)
    try simp only[PS]
    refine NZ 9 (.pointer (some ⟨w.heap.size+1+1+1,0,none⟩)) rfl cI ?_;simp only[PS];refine PD (rs:=[10]) (by kernel_rfl) (by simp) ?_;refine AllReadyT.last rfl (λKq bI=>?_);have q9:=aY.o.1.x 0;have r9:=aY.o.1.q 0;have l9:=aY.o.1.lt;go_simp;clear q9 r9 l9;refine bI.o _ _ trivial (λ_=>?_)
    try simp only[PS]
    refine UN (by kernel_rfl) ?_ _;go_wp2;refine⟨⟨k+1,by omega,by go_num,by rw[aG.o],.slice (some ⟨g9,0,none⟩) (o1.length+1) cH,?_⟩,by simp[intOf];omega⟩;rw[aG.o,AE HE.o];simpa only[AF,EQ] using aY.o.2.1
  have dR:k=rs.length:=by omega
  subst dR;rw[DC]at aW;have q2:=bC.x 0;have r2:=bC.q 0;have l2:=bC.lt;clear bJ aT bC
  cases d with
  | true =>
   have hF:NX (aB,aC,aD) rs=out:=by unfold NX;rw[aW];rfl
   have HF:=LE hF;clear aW hF;go_wp2_with fail;rw[HF.o];refine AJ (v:=LR va out.length vc) (by simp[results,results205,go_sem,LR,q2]) rfl (uh HX.o ?_ ?_ bT.o (by omega))
   ·exact((AB _ _).setCell (p:=⟨w.heap.size+1+1,0,none⟩) (by show w.heap.size<=w.heap.size+1+1;omega) _)
   exactλk hk=>BD _ _ _ k (by show _≠w.heap.size+1+1;omega)
  | false =>
   have hF:NX (aB,aC,aD) rs=out++[(aB,aC)]:=by unfold NX;rw[aW];rfl
   have HF:=LE hF;clear aW hF;go_wp2_with (at_builtin;refine PU _ rfl _ _ 46 rfl (w.heap.size+1+1+1+1) underlying46 HI.o rfl (by omega) _ out.length _ rfl (HX.o.own.alloc _) ⟨wr.heap.size,0,none⟩ 1 1 [.string aB,.string aC] rfl rfl (World.news_of_block (AY wr _)) (VK _ _) (by simp;omega) (wr.heap.size+1) (by simp) ?_;intro g7 aI w7 aH aE aU cS;have aF:=OutX.push (x:=(aB,aC)) HX.o aH aE;have q7:=aF.1.x 0;have r7:=aF.1.q 0;have l7:=aF.1.lt;have cT:=(aR.o _ aF.2.2).2.2.x 0;have eF:=(aR.o _ aF.2.2).2.2.q 0;have bV:=LE aF;clear aH aE aU aF);have cT:w7.cell? ⟨w.heap.size+1+1,0,none⟩=some (.slice none 0 0):=(aR.o _ bV.o.2.2).2.2.x 0;rw[HF.o];have e8:Value.slice (some ⟨g7,0,none⟩) (out.length+1) aI=.slice (some ⟨g7,0,none⟩) (out++[(aB,aC)]).length aI:=by rw[AF];rfl
   have aX:=bV.o.2.1;rw[e8]at aX;refine AJ (v:=LR (some ⟨g7,0,none⟩) (out++[(aB,aC)]).length aI) (by simp[results,results205,go_sem,LR,cT]) rfl (uh aX ?_ ?_ bT.o (by omega))
   ·rw[<-e8];exact((AB _ _).setCell (p:=⟨w.heap.size+1+1,0,none⟩) (by show w.heap.size<=w.heap.size+1+1;omega) _)
   rw[<-e8];exactλk hk=>BD _ _ _ k (by show _≠w.heap.size+1+1;omega)
def Cf(a:Option Addr)(rs:List Pr)(c:Nat)(aB aC:ByteArray)(aA:Bool)(w:World)(h:Prs w a rs)(hl:rs.length<=100000):Calls prog 205 #[LR a rs.length c,.agg #[.string aB,.string aC,.bool aA]] w λe w'=>au w w' e (NX (aB,aC,aA) rs):=by
 refine(rC a rs c aB aC aA w h hl).i ?_;rintro e w' ⟨a1,c1,h1,h2,h3,h4,h5,-⟩;exact⟨a1,c1,h1,h2,h3,h4,h5⟩
def WG(w w':World)(e:Ending)(rs:List Pr)(aA:Int):Prop:=∃a c,e=.returned (.tuple #[LR a rs.length c,.int .i64 aA])/\rs.length<=c/\OwnS w' a (LI rs)/\(∀g,blk a rs.length=some g->w.heap.size<=g)/\Below w.heap.size w w'
def YJ{e:Ending}{c:Nat}{aA:Int}(he:e=.returned (.tuple #[LR a 0 c,.int .i64 aA]))(hb:Below w.heap.size w w'):WG w w' e [] aA:=⟨a,c,he,AH _,.inl rfl,λg h=>(by cases h),hb⟩
def OwnS.setA{cs:List Value}(h:OwnS w a cs)(p:Addr)(hp:∀g,a=some ⟨g,0,none⟩->cs≠[]->p.block≠g)(v:Value):OwnS (w.setCell p v) a cs:=by
 by_cases h0:cs=[]
 ·exact .inl h0
 obtain⟨g,rfl,hr⟩:=h.resolve_left h0
 exact .inr ⟨g,rfl,hr.other p (hp g rfl h0) v⟩
def OwnS.prsA{rs:List Pr}(h:OwnS w a (LI rs)):Prs w a rs:=by
 rcases h with h|⟨g,rfl,h⟩
 ·exact .inl (by have:=BT List.length h;rw[RC,AR]at this;exact AC (by omega))
 exact h.prs
def ks{rs:List Pr}(h:LI rs≠[]):rs.length≠0:=λe=>h (by rw[AC e];rfl)
def qR(a:Option Addr)(rs:List Pr)(c:Nat)(a2:Option Addr)(b:List Ch)(c2:Nat)(w:World)(h:Prs w a rs)(hl:rs.length<=1048576)(hs:∀x∈rs,x.1.size<=1048576/\x.2.size<=1048576)(h2:Chs w a2 b)(cW:b.length<=1048576)(dB:∀x∈b,x.1.size<=1048576/\x.2.1.size<=1048576):Calls prog 157 #[LR a rs.length c,.slice a2 b.length c2] w λe w'=>WG w w' e (OR rs b) (OQ rs b):=by
 have aC:∀o1 o2,Below w.heap.size w ((w.alloc o1).alloc o2):=λo1 o2=>(LG _ _).alloc (by simp) _
 have aL:=LE (λw' h'=>it a rs c w' h' hl hs);have aS:=LE (λw' h'=>io a2 b c2 w' h' cW dB);unfold LR;unfold OR OQ
 cases hok:MA rs with
 | false =>
  rw[hok]at aL;simp only[Bool.false_and,EJ,IX];rw[AE (by omega)];go_enter func157,ntmps157;go_wp2_with (go_at_call 62;refine(aL.o _ (h.I (aC _ _))).i ?_;rintro e w3 ⟨rfl,aA⟩;have q1:w3.cell? ⟨w.heap.size+1,0,none⟩=some (.slice none 0 0):=LH aA (by go_simp) (by simp);have f1:w3.frozen? ⟨w.heap.size+1,0,none⟩=false:=LM aA (by go_simp) (by simp);have l1:w.heap.size+1<w3.heap.size:=AD (by simp) aA.size);refine AJ (v:=.tuple #[LR none 0 0,.int .i64 1]) (by simp[results,results157,go_sem,LR,q1]) rfl (YJ rfl ?_);exact((aC _ _).j (aA.i (by simp;omega))).setCell (p:=⟨w.heap.size+1,0,none⟩) (by show w.heap.size<=w.heap.size+1;omega) _
 | true =>
  rw[hok]at aL;simp only[IC]
  cases hokb:OA b with
  | false =>
   rw[hokb]at aS;simp only[EJ,IX];rw[AE (by omega)];go_enter func157,ntmps157
   go_wp2_with (first|(go_at_call 62;refine(aL.o _ (h.I (aC _ _))).i ?_;rintro e w3 ⟨rfl,aA⟩;have aG:=LE aA;clear aA)|(go_at_call 156;refine(aS.o _ (h2.I ((aC _ _).j (aG.o.i (by simp;omega))))).i ?_;rintro e w4 ⟨rfl,aT⟩;have aA:=aG.o;have aD:=aA.j (aT.i aA.size);have q1:w4.cell? ⟨w.heap.size+1,0,none⟩=some (.slice none 0 0):=LH aD (by go_simp) (by simp);have f1:w4.frozen? ⟨w.heap.size+1,0,none⟩=false:=LM aD (by go_simp) (by simp);have l1:w.heap.size+1<w4.heap.size:=AD (by simp) aD.size))
   refine AJ (v:=.tuple #[LR none 0 0,.int .i64 1]) (by simp[results,results157,go_sem,LR,q1]) rfl (YJ rfl ?_);exact((aC _ _).j (aD.i (by simp;omega))).setCell (p:=⟨w.heap.size+1,0,none⟩) (by show w.heap.size<=w.heap.size+1;omega) _
  | true =>
   rw[hokb]at aS;simp only[IK];have dP:rs.length<=100:=(XH hok).1;have cX:b.length<=20:=(VQ hokb).1.2;have bQ:=LE (λw' h'=>bi a rs c w' h' hl);unfold au LR at bQ;have cI:=LE (jq rs b);go_enter func157,ntmps157
   go_wp2_with (first|(go_at_call 62;refine(aL.o _ (h.I (aC _ _))).i ?_;rintro e w3 ⟨rfl,aA⟩;have aG:=LE aA;clear aA)|(go_at_call 156;refine(aS.o _ (h2.I ((aC _ _).j (aG.o.i (by simp;omega))))).i ?_;rintro e w4 ⟨rfl,aT⟩;have aI:=LE (aG.o.j (aT.i aG.o.size));clear aT;have q0:w4.cell? ⟨w.heap.size,0,none⟩=some (.slice a rs.length c):=LH aI.o (by go_simp) (by simp;omega))|(go_at_call 64;refine(bQ.o _ (h.I ((aC _ _).j (aI.o.i (by simp;omega))))).i ?_;rintro e w5 ⟨a5,c5,rfl,cT,b7,bV,aZ⟩;have bP:=LE (aI.o.j (aZ.i aI.o.size));have bT:=LE b7;have bE:=cT;have cF:=LE bV;have aY:=LE aZ.size;clear b7 bV aZ))
   have dQ:w.heap.size+1<w4.heap.size:=by have:=aI.o.size;simp at this;omega
   have dR:w4.heap.size<=w5.heap.size:=aY.o;have aH:Hid (Below w.heap.size w w5):=(aC _ _).j (bP.o.i (by simp;omega))
   have cJ:Hid (∀w',Below w5.heap.size w5 w'->Row w' (w.heap.size+1) [.slice none 0 0]):=λw' hb=>((ZV (w:=w.alloc (.cells #[.slice a rs.length c] 48)) (A:=#[.slice none 0 0]) (t:=48) (g:=w.heap.size+1) (by simp)).I bP.o).I hb
   go_loopw [7] (λi wr=>∃k:Nat,k<=b.length/\i=.int .i64 (k:Int)/\∃va vc,Row wr w5.heap.size [.slice va (MO rs (b.take k)).length vc]/\(MO rs (b.take k)).length<=vc/\OwnS wr va (LI (MO rs (b.take k)))/\(∀g,blk va (MO rs (b.take k)).length=some g->w.heap.size+1<g/\g≠w5.heap.size)/\Below w5.heap.size w5 wr) (λi _=>b.length-(intOf i).toNat)
   case atStart=>exact⟨0,AH _,rfl,a5,c5,ME w5 _ _,bE,bT.o.I (LG _ _),λg hg=>by have h1:=cF.o g hg;have h2:=bT.o.lt rs.length (λh e=>h (by have:=BT List.length e;rw[RC,AR]at this;omega)) g hg;omega,LG _ _⟩
   case round =>
    obtain⟨k,hk,rfl,va,vc,aP,bF,cA,bU,bC⟩:=hrel;have hN:=cI.o k;have cB:=aP.x 0;have dL:=aP.q 0;have dN:=aP.lt;have dF:=bC.size;have aX:=LE aP;have aR:=LE cA;have aQ:=LE bU;have aJ:=LE bC;clear aP cA bU bC
    by_cases bI:k<b.length
    ·obtain⟨bb,oo,s0,s1,g0,rfl,cP,cQ,cS,HS⟩:=(h2.I (aH.o.j (aJ.o.i aH.o.size))).at bI
     have aF:bb<w.heap.size:=by
      rcases h2 with h|⟨b',o',h1,h2,_⟩
      ·subst h;simp at bI
      cases h1;exact h2
     have cY:(k:Int)<(b.length:Int):=by omega
     have dM:(0:Int)<=(k:Int):=by omega
     have cC:MO rs (b.take (k+1))=NX (s0,s1,g0) (MO rs (b.take k)):=by rw[gm b k (empty,empty,false) bI,ZY,<-HS.o]
     have aK:=LE cC;have aW:=LE (λW (hW:Prs W va (MO rs (b.take k)))=>Cf va (MO rs (b.take k)) vc s0 s1 g0 W hW (by omega));obtain⟨cur,aO⟩:∃cur,cur=MO rs (b.take k):=⟨_,rfl⟩;rw[<-aO]at aK aW aX aR aQ cB hN bF;clear cC aO HS;unfold LR au at aW
     have HT:Hid (∀w',Below w.heap.size wr w'->w'.cell? ⟨bb,oo+k*3,none⟩=some (.string s0)/\w'.cell? ⟨bb,oo+k*3+1,none⟩=some (.string s1)/\w'.cell? ⟨bb,oo+k*3+2,none⟩=some (.bool g0)):=λw' hb=>⟨(hb.cell (p:=⟨bb,oo+k*3,none⟩) aF).j cP,(hb.cell (p:=⟨bb,oo+k*3+1,none⟩) aF).j cQ,(hb.cell (p:=⟨bb,oo+k*3+2,none⟩) aF).j cS⟩
     have cE:w.heap.size<=wr.heap.size:=by omega
     go_wp2_with fail;refine AP (S:=λw'=>w'.cell? ⟨bb,oo+k*3,none⟩=some (.string s0)/\w'.cell? ⟨bb,oo+k*3+1,none⟩=some (.string s1)/\w'.cell? ⟨bb,oo+k*3+2,none⟩=some (.bool g0)) (by kernel_rfl) (HT.o _ (AB _ _).drew) (λaN=>?_);refine TY 1 (.slice (some ⟨bb,oo,none⟩) b.length c2) rfl aN (TY 2 (.int .i64 (k:Int)) rfl aN (TY 3 (.pointer (some ⟨bb,oo+k*3,none⟩)) rfl aN (TY 4 (.agg #[.string s0,.string s1,.bool g0]) rfl aN ?_)));simp only[PS];refine RD 0 rfl (λK hK=>?_);go_simp;refine hK.o _ _ aN (λ_=>?_);clear hK K
     try simp only[PS]
     refine RD 5 rfl (λK hK=>?_);refine LK (by rfl) 205 #[.agg #[.slice va cur.length vc],.agg #[.string s0,.string s1,.bool g0]] (by go_simp) (aW.o _ ((aR.o.I (AB _ _).drew).prsA)) ?_;rintro e w7 ⟨a7,c7,rfl,cU,cZ,bW,cO⟩;refine⟨_,rfl,?_⟩;have aE:Below wr.heap.size wr w7:=(AB _ _).drew.j cO;have aV:=aX.o.I aE;have q7:=aV.x 0;have f7:=aV.q 0;have l7:=aV.lt;refine hK.o _ _ (HT.o _ (aE.i cE)) (λcM=>?_);clear hK K
     try simp only[PS]
     refine RD 6 rfl (λK hK=>?_);go_simp;refine hK.o _ _ (HT.o _ ((aE.i cE).setCell (p:=⟨w5.heap.size,0,none⟩) (by show w.heap.size<=w5.heap.size;omega) _)) (λcN=>?_);clear hK K
     try simp only[PS]
     refine DN ?_;go_wp2;refine⟨⟨k+1,by omega,by go_num,a7,c7,?_,?_,?_,?_,?_⟩,by simp[intOf];omega⟩
     ·rw[aK.o];exact aV.set 0 (by simp) _
     ·rw[aK.o];exact cU
     ·rw[aK.o];exact cZ.setA _ (λg hg bJ=>by have:wr.heap.size<=g:=bW g (by subst hg;exact MI _ _ _ (ks bJ));show w5.heap.size≠g;omega) _
     ·rw[aK.o];exactλg hg=>by have:wr.heap.size<=g:=bW g hg;omega
     exact(aJ.o.j (aE.i dF)).setCell (p:=⟨w5.heap.size,0,none⟩) (AA _) _
    have cV:k=b.length:=by omega
    subst cV;have aU:=cJ.o _ aJ.o;have q1:=aU.x 0;have f1:=aU.q 0;have l1:=aU.lt;have dH:w.heap.size+1≠w5.heap.size:=by omega
    have cL:¬w5.heap.size=w.heap.size+1:=by omega
    rw[DC]at cB bF aX aR aQ;clear aU hN
    by_cases aB:(MO rs b).length<=100
    ·have cH:=LE aB
     have aM:((MO rs b).length:Int)<=100:=by omega
     clear aB;go_wp2_with fail;refine AJ (v:=.tuple #[LR va (MO rs b).length vc,.int .i64 0]) (by simp[results,results157,go_sem,LR,q1]) rfl ⟨va,vc,rfl,bF,?_,λg hg=>by have:=(aQ.o g hg).1;omega,?_⟩
     ·exact aR.o.setA _ (λg hg bJ=>by have:=(aQ.o g (by subst hg;exact MI _ _ _ (ks bJ))).1;show w.heap.size+1≠g;omega) _
     exact(aH.o.j (aJ.o.i aH.o.size)).setCell (p:=⟨w.heap.size+1,0,none⟩) (by show w.heap.size<=w.heap.size+1;omega) _
    have cH:=LE aB
    have aM:¬((MO rs b).length:Int)<=100:=by omega
    clear aB;go_wp2_with fail;refine AJ (v:=.tuple #[LR none 0 0,.int .i64 2]) (by simp[results,results157,go_sem,LR,q1]) rfl (YJ rfl ?_);exact(aH.o.j (aJ.o.i aH.o.size)).setCell (p:=⟨w.heap.size+1,0,none⟩) (by show w.heap.size<=w.heap.size+1;omega) _
