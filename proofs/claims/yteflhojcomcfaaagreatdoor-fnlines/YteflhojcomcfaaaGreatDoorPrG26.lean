import Derived.Test.YteflhojcomcfaaaGreatDoorPrAo
import Derived.Test.YteflhojcomcfaaaGreatDoorPrG25
import Derived.RangeFuncNested
import Derived.RangeFuncBound
import Derived.RangeFuncCalls
import Derived.RangeFuncLeaves
import Derived.RangeFuncBox
import Derived.Shelf.Abstract
import Derived.Shelf.RegionOpenV
import Derived.OwnWalkIn
import Derived.TacticsInMore
import Derived.LoopNIn
import Derived.LoopIn
import Derived.Sort.QuietIn
import Derived.Maps.AppendAt
import Derived.Maps.OwnIn
set_option maxHeartbeats 16000000
set_option maxRecDepth 8000
set_option linter.all false
namespace Go.Proofs.YteflhojcomcfaaaGreatDoor
open _root_.ByteArray(empty)
section
open Tryz
open Go.RowKit
variable {r:Q4}{vs xs:List Ra}{base cap g m n n0:Nat}{e:TypeId}{v x:Ra}{w w' w1 w7 wr:Q9}
def OM(x:Q4×Q4×Bool):List Int:=if x.2.2 then [1]++([(x.1.size:Int)]++LF x.1) else [0]++([(x.1.size:Int)]++LF x.1)++([(x.2.1.size:Int)]++LF x.2.1)
def VJ(a:List (Q4×Q4×Bool)):Q4:=strOfNums (a.flatMap OM)
theorem N0:VJ []=empty:=rfl
theorem Gx(k v:Q4):strOfNums [0]++(strOfNums [(k.size:Int)]++k)++(strOfNums [(v.size:Int)]++v)=strOfNums (OM (k,v,false)):=by
 show _=strOfNums ([0]++([(k.size:Int)]++LF k)++([(v.size:Int)]++LF v));rw[WB,WB,WB,WB,WR,WR]
theorem Ji(k v:Q4):strOfNums [1]++(strOfNums [(k.size:Int)]++k)=strOfNums (OM (k,v,true)):=by
 show _=strOfNums ([1]++([(k.size:Int)]++LF k));rw[WB,WB,WR]
theorem I6(a:List (Q4×Q4×Bool))(k:Nat)(x:Q4×Q4×Bool)(d:Q4×Q4×Bool)(h:k<a.length)(b:x=a.getD k d):VJ (a.take (k+1))=VJ (a.take k)++strOfNums (OM x):=by
 unfold VJ;rw[BJ h,List.flatMap_append,WB];simp[List.getD,h]at b;rw[b];simp
theorem qU(x:Q4×Q4×Bool)(h:QK x=true):(strOfNums (OM x)).size<=123:=by
 rw[CY];unfold QK QP PA at h;simp only[BF,BH]at h;unfold OM
 split
 .simp[NK];omega
 simp[NK];omega
theorem ym(a:List (Q4×Q4×Bool))(h:∀x∈a,QK x=true):(VJ a).size<=123*a.length:=by
 induction a with
 | nil=>simp[N0]
 | cons x r c =>
  have d:=c (λy b=>h y (DK _ b));have b:=qU x (h x (EN));have e:VJ (x::r)=strOfNums (OM x)++VJ r:=by unfold VJ;rw[IB,WB]
  rw[e,AP,BN];omega
def MN(a:List (Q4×Q4×Bool)):Q4:=if PZ a=true then VJ a else empty
abbrev Ch:=Q4×Q4×Bool
def b0(r:Q4):Nat:=(r.data.toList.getD 0 0).toNat
theorem ri(r:Q4):b0 r<=255:=by unfold b0;have:=GU (r.data.toList.getD 0 0);omega
theorem nM(r:Q4)(a b:Nat):LF (r.extract a b)=((LF r).drop a).take (b-a):=by
 unfold LF;rw[IN,JV,List.extract_eq_take_drop,GT,KS]
theorem uO(r:Q4)(h:0<r.size):LF r=(b0 r:Int)::(LF r).drop 1:=by
 have a:0<r.data.toList.length:=h;unfold LF b0
 match r.data.toList,a with
 | x::l,_=>simp
theorem Or{s:Q4}(h:LF r=LF s):r=s:=by rw[<-WR r,h,WR]
theorem lN(r:Q4):∀y∈LF r,0<=y/\y<=255:=by
 intro y a;unfold LF at a;obtain⟨c,_,rfl⟩:=DW.1 a;have:=GU c;omega
theorem oZ:∀(xs:List Int),(∀y∈xs,0<=y/\y<=255)->LF (strOfNums xs)=xs
 | [],_=>rfl
 | x::l,h=>by
  have ih:=oZ l (λy hy=>h y (DK _ hy));have hx:=h x (EN);simp only[LF,strOfNums]at ih⊢;simp only[FY,IP,List.toList_toArray]at ih⊢;simp[List.map_eq_map_iff]at ih⊢
  constructor
  .omega
  exact ih
def pc(r:Q4):Option (Q4×Q4):=if 1<=r.size/\1+b0 r<=r.size then some (r.extract 1 (1+b0 r),r.extract (1+b0 r) r.size) else none
theorem mY{k m:Q4}(h:pc r=some (k,m)):LF r=[(k.size:Int)]++LF k++LF m/\k.size<=255:=by
 unfold pc at h
 split at h
 .rename_i j
  simp only[EZ,EK]at h;obtain⟨rfl,rfl⟩:=h;have a:(r.extract 1 (1+b0 r)).size=b0 r:=by simp only[AQ];omega
  refine⟨?_,by rw[a];exact ri r⟩;rw[a,nM,nM];have i:=uO r d;have b:r.size-(1+b0 r)=(LF r).length-(1+b0 r):=by rw[NK]
  rw[b,<-BS,DG];have c:1+b0 r-1=b0 r:=d
  rw[c];have f:(LF r).drop (1+b0 r)=((LF r).drop 1).drop (b0 r):=by rw[GO]
  rw[f,BY,FL];exact i
 cases h
def TM(r:Q4):Option (Ch×Q4) :=match pc (r.extract 1 r.size) with
 | none=>none
 | some (k,m)=>if b0 r=1 then some ((k,empty,true),m) else
  match pc m with
  | none=>none
  | some (v,m')=>some ((k,v,false),m')
theorem Nm(r:Q4):LF (r.extract 1 r.size)=(LF r).drop 1:=by
 rw[nM];have a:r.size-1=((LF r).drop 1).length:=by rw[BS,NK]
 rw[a,DG]
theorem wQ{i:Q4}{c:Ch}(s:0<r.size)(h:TM r=some (c,i)):c.1.size<=255/\c.2.1.size<=255/\∃t,OM c++LF i=(if b0 r=1 then 1 else 0)::t/\LF r=(b0 r:Int)::t:=by
 unfold TM at h
 split at h
 .cases h
 rename_i k m p
 obtain⟨a,d⟩:=mY p;rw[Nm]at a;have f:=uO r s
 split at h
 .rename_i b
  simp only[EZ,EK]at h;obtain⟨rfl,rfl⟩:=h;refine⟨d,j,_,?_,f⟩;rw[a,G b];simp[OM]
 rename_i b
 split at h
 .cases h
 rename_i v u q
 obtain⟨l,o⟩:=mY q;simp only[EZ,EK]at h;obtain⟨rfl,rfl⟩:=h;refine⟨d,o,_,?_,f⟩;rw[a,l,A b];simp[OM]
def run:Nat->Q4->List Ch->Option (List Ch×Q4)
 | 0,r,o=>some (o,r)
 | n+1,r,o=>if r.size=0 then some (o,r) else
  match TM r with
  | none=>none
  | some (c,r')=>run n r' (o++[c])
def UF:Nat->Q4->List Ch->Option (List Ch×Q4)
 | 0,r,o=>some (o,r)
 | n+1,r,o=>if r.size=0 then some (o,r) else if 1<b0 r then none else
  match TM r with
  | none=>none
  | some (c,r')=>UF n r' (o++[c])
theorem Dg(n:Nat)(o:List Ch)(r:Q4)(h:r.size=0):run n r o=some (o,r):=by cases n<;>simp[run,h]
theorem uG:∀(n:Nat) (r:Q4) (o i:List Ch) (b:Q4),run n r o=some (i,b) ->
  ∃l,i=o++l/\(∀x∈l,x.1.size<=255/\x.2.1.size<=255)/\(b.size=0\/l.length=n) /\
   ((UF n r o=some (i,b)/\l.flatMap OM++LF b=LF r)\/(UF n r o=none/\∀a,l.flatMap OM++a≠LF r))
 | 0,r,o,i,b,h=>by
  simp only[run,EZ,EK]at h;obtain⟨rfl,rfl⟩:=h;exact⟨[],j,j,.inr z,.inl ⟨z,j⟩⟩
 | n+1,r,o,i,b,h=>by
  by_cases f:r.size=0
  .rw[run,G f]at h
   simp only[EZ,EK]at h;obtain⟨rfl,rfl⟩:=h;exact⟨[],j,j,.inl f,.inl ⟨by rw[UF,G f],j⟩⟩
  rw[run,A f]at h
  cases hs:TM r with
  | none=>rw[hs]at h;cases h
  | some p =>
   obtain⟨c,D⟩:=p;rw[hs]at h;obtain⟨O,P,t,k3,I⟩:=wQ d hs;obtain⟨l,J,K,q,s⟩:=uG n D (o++[c]) i b h;refine⟨c::l,by rw[J];simp,λx C=>?_,?_,?_⟩
   .rcases DZ.1 C with rfl|C
    .exact⟨O,P⟩
    exact K x C
   .rcases q with q|q
    .exact .inl q
    exact .inr (by simp[q])
   by_cases F:1<b0 r
   .refine .inr ⟨by rw[UF,A f,G F],λa k=>?_⟩
    have y:¬b0 r=1:=d
    rw[A y]at k3
    have M:∃u,OM c=0::u:=by
     have:c.2.2=false:=by
      unfold TM at hs
      split at hs
      .cases hs
      rw[A y]at hs
      split at hs
      .cases hs
      simp only[EZ,EK]at hs
      rw[<-hs.1]
     exact⟨_,by unfold OM;rw[this];rfl⟩
    obtain⟨u,N⟩:=M;rw[IB,N,I]at k;simp at k;omega
   have H:LF r=OM c++LF D:=by
    rw[k3,I]
    split
    .rename_i L;rw[L];rfl
    have:b0 r=0:=d
    rw[this];rfl
   have E:UF (n+1) r o=UF n D (o++[c]):=by rw[UF,A f,A F,hs]
   rcases s with ⟨s,B⟩|⟨s,B⟩
   .refine .inl ⟨E.E s,?_⟩
    rw[IB,BY,B,H]
   refine .inr ⟨E.E s,λa k=>B a ?_⟩
   rw[IB,BY,H]at k;exact List.append_cancel_left k
theorem qT:∀(n:Nat) (r:Q4) (o:List Ch),run n r o=none->UF n r o=none
 | 0,r,o,h=>by simp[run]at h
 | n+1,r,o,h=>by
  by_cases hz:r.size=0
  .rw[run,AI hz]at h;cases h
  rw[run,AF hz]at h
  rw[UF,AF hz]
  split
  .rfl
  cases hs:TM r with
  | none=>rfl
  | some p =>
   obtain⟨c,r1⟩:=p;rw[hs]at h;exact qT n r1 _ h
theorem J9(x:Ch)(b:x.1.size<=255)(c:x.2.1.size<=255):∀y∈OM x,0<=y/\y<=255:=by
 intro y a;unfold OM at a
 split at a
 .simp only[BZ,DZ,EY,IX]at a
  rcases a with rfl|rfl|a
  .omega
  .omega
  exact lN _ y a
 simp only[BZ,DZ,EY,IX]at a
 rcases a with (rfl|rfl|a)|rfl|a
 .omega
 .omega
 .exact lN _ y a
 .omega
 exact lN _ y a
def XN(s:Q4):Option (List Ch):=match run 21 s [] with|none=>none|some (o,_)=>if s.size≠0/\MN o=s then some o else none
def ey(s:Q4):Option (List Ch):=match UF 21 s [] with|none=>none|some (o,_)=>if PZ o=true then some o else none
theorem vK(s:Q4):ey s=XN s:=by
 unfold ey XN
 cases hr:run 21 s [] with
 | none=>rw[qT _ _ _ hr]
 | some p =>
  obtain⟨o,r⟩:=p;obtain⟨l,k,q,i,d⟩:=uG 21 s [] o r hr;rw[EL]at k;subst k
  have j:∀y∈o.flatMap OM,0<=y/\y<=255:=by
   intro y a;obtain⟨x,b,a⟩:=JQ.1 a;exact J9 x (q x b).1 (q x b).2 y a
  have t:VJ o=s->o.flatMap OM=LF s:=λh=>by rw[<-h];exact(oZ _ j).symm
  rcases d with ⟨d,a⟩|⟨d,a⟩
  .rw[d]
   simp only
   by_cases c:PZ o=true
   .have h:r.size=0:=by
     rcases i with i|i
     .exact i
     have:=(dr c).1;omega
    have b:LF r=[]:=AD (by rw[NK];exact h);rw[b,FT]at a
    have C:MN o=s:=by
     unfold MN;rw[G c]
     apply Or
     rw[<-a];exact oZ _ j
    have u:s.size≠0:=by
     intro B;have f:LF s=[]:=AD (by rw[NK];exact B);rw[f]at a
     match o,(dr c).1 with
     | x::o',_ =>
      simp only[IB,List.append_eq_nil_iff]at a;have:=a.1;unfold OM at this
      split at this<;>simp at this
    rw[G c,G ⟨u,C⟩]
   have h:MN o=empty:=by unfold MN;rw[A c]
   rw[A c,A];rintro⟨f,b⟩;rw[h]at b;rw[<-b]at f;exact f z
  rw[d]
  simp only;rw[A];rintro⟨f,b⟩;unfold MN at b
  split at b
  .have:=t b
   exact a [] (by rw[FT];exact this)
  rw[<-b]at f
  exact f z
abbrev Pr:=Q4×Q4
abbrev PD:Ra:=Y none 0 0
def br(p:Pr):Ch:=(p.1,p.2,false)
def RC(a:List Pr)(k:Nat):List Ch:=((a.drop (k*20)).take 20).map br
def VK(a:List Pr)(i:Nat):List (List Ch):=(List.range ((i+19) / 20)).map (RC (a.take i))
def NC(a:List Pr):List (List Ch):=if MH a=true then VK a a.length else []
theorem Ng(a:List Pr)(i:Nat):(VK a i).length=(i+19) / 20:=by simp[VK]
theorem Ad(a:List Pr)(i k:Nat)(b:i<a.length)(c:k*20+20<=i):RC (a.take (i+1)) k=RC (a.take i) k:=by
 unfold RC
 congr 1
 rw[FX,FX,IL,IL]
 congr 1
 omega
theorem Ar(b:List Pr)(i k:Nat)(c:i<b.length)(f:k*20<=i)(h:i<k*20+20)(a:Pr):RC (b.take (i+1)) k=RC (b.take i) k++[br (b.getD i a)]:=by
 unfold RC;rw[FX,FX,IL,IL,Nat.min_eq_right d,Nat.min_eq_right d];rw[show i+1-k*20=(i-k*20)+1 by omega,List.take_add_one,DC]
 congr 1
 rw[FE,show k*20+(i-k*20)=i by omega];simp[List.getD,c]
theorem Fz(b:List Pr)(i:Nat)(c:i<b.length)(h:i % 20=0)(a:Pr):VK b (i+1)=VK b i++[[br (b.getD i a)]]:=by
 unfold VK;rw[show(i+1+19) / 20=(i+19) / 20+1 by omega,GY,DC]
 have f:RC (b.take i) (i / 20)=[]:=by
  unfold RC;rw[List.drop_eq_nil_of_le (by rw[AZ];omega)];rfl
 congr 1
 .exact IJ λk j=>Ad b i k c (by simp at j;omega)
 have j:(i+19) / 20=i / 20:=d
 rw[j,List.map_singleton,Ar b i (i / 20) c d d a,f];rfl
theorem Ku(b:List Pr)(i:Nat)(j:i<b.length)(h:i % 20≠0)(a:Pr):∃f c,VK b i=f++[c]/\VK b (i+1)=f++[c++[br (b.getD i a)]]/\c.length<=20:=by
 refine⟨(List.range (i / 20)).map (RC (b.take i)),RC (b.take i) (i / 20),?_,?_,?_⟩
 .unfold VK
  rw[show(i+19) / 20=i / 20+1 by omega,GY,DC];rfl
 .unfold VK
  rw[show(i+1+19) / 20=i / 20+1 by omega,GY,DC,List.map_singleton,Ar b i (i / 20) j d d a]
  congr 1
  exact IJ λk c=>Ad b i k j (by simp at c;omega)
 unfold RC;simp;omega
theorem Er(a:List Pr)(k:Nat):(RC a k).length=min 20 (a.length-k*20):=by unfold RC;simp
theorem Ah(a:List Pr):VK a a.length=(List.range ((a.length+19) / 20)).map (RC a):=by unfold VK;rw[DG]
theorem Lr{a:List Pr}{b:List Ch}(h:b∈VK a a.length):b.length<=20/\∀x∈b,(x.1,x.2.1)∈a:=by
 rw[Ah]at h;obtain⟨k,f,rfl⟩:=DW.1 h;refine⟨by rw[Er];omega,λx c=>?_⟩;unfold RC at c;obtain⟨p,d,rfl⟩:=DW.1 c;exact FA (DR d)
def Bat(w:Q9)(base:Nat)(v:Ra)(a:List (List Ch)):Prop :=∃vs:List Ra,w.ownsRow base 49 1 v a.length vs/\(∀i,i<a.length->w.ownsRow base 102 3 (vs.getD i PD) (a.getD i []).length (NL (a.getD i []))) /\
  ∀i j k,i<j->j<a.length->(vs.getD i PD).ownBlock=some k->(vs.getD j PD).ownBlock≠some k
theorem Bat.nil(w:Q9)(base:Nat):Bat w base PD []:=⟨[],BU _ _ _ _,λi h=>absurd h σ,λi j k _ h=>absurd h σ⟩
theorem Bat.I{a:List (List Ch)}(h:Bat w base v a)(b:Q3 w w'):Bat w' base v a:=by
 obtain⟨vs,c,d,f⟩:=h;exact⟨vs,MK c b,λi j=>MK (d i j) b,f⟩
theorem ia{h i:Nat}{c d:TypeId}{t u:Nat}{a f:Ra}{q s:Nat}{y A:List Ra}(k:w.ownsRow h c t a q y)(l:w.ownsRow i d u f s A)(o:c≠d):a.ownBlock=none\/a.ownBlock≠f.ownBlock:=by
 rcases k.2 with ⟨rfl,_⟩|⟨g,cap,j,rfl,_,p,_⟩
 .exact .inl z
 right
 rcases l.2 with ⟨rfl,_⟩|⟨D,B,C,rfl,_,b,_⟩
 .simp[Value.ownBlock]
 simp only[Value.ownBlock,ne_eq,EZ]
 intro e;subst e;rw[p]at b
 cases b
 exact o z
theorem Bat.kept{a:List (List Ch)}{row:Option Nat}(h:Bat w base v a)(l:w.grownBy w' row)(o:∀k,row=some k->base > k\/w.heap.size<=k):Bat w' base v a:=by
 obtain⟨vs,d,f,j⟩:=h
 have b:∀ {e:TypeId} {s:Nat} {u:Ra} {n:Nat} {xs:List Ra},w.ownsRow base e s u n xs->w'.ownsRow base e s u n xs:=λc=>by
  refine c.kept l ?_
  cases hu:(Value.ownBlock _) with
  | none=>exact .inl rfl
  | some k =>
   refine .inr λe=>?_
   have:=c.lt k hu;rcases o k e.symm with h|h<;>omega
 exact⟨vs,b d,λi c=>b (f i c),j⟩
theorem Bat.push{y:Ra}{a:List (List Ch)}{c:List Ch}(h:w.ownsRow base 49 1 v a.length vs)(q:∀i,i<a.length->w.ownsRow base 102 3 (vs.getD i PD) (a.getD i []).length (NL (a.getD i [])))
  (B:∀i j k,i<j->j<a.length->(vs.getD i PD).ownBlock=some k->(vs.getD j PD).ownBlock≠some k)(t:w.ownsRow base 102 3 x c.length (NL c))(A:∀i k,i<a.length->(vs.getD i PD).ownBlock=some k->x.ownBlock≠some k)
  (E:w1.ownsRow base 49 1 y (a.length+1) (vs++[x]))(s:w.grownBy w1 v.ownBlock):Bat w1 base y (a++[c]):=by
 have p:vs.length=a.length:=by have:=h.1;omega
 have u:(102:TypeId)≠49:=δ
 refine⟨vs++[x],by simpa using E,λi C=>?_,λi j k o D l=>?_⟩
 .by_cases d:i<a.length
  .have f:(vs++[x]).getD i PD=vs.getD i PD:=by simp[List.getD,BO (show i<vs.length by omega)]
   have b:(a++[c]).getD i []=a.getD i []:=by simp[List.getD,BO d]
   rw[f,b];exact(q i d).kept s (ia (q i d) h u)
  have z:i=a.length:=by simp at C;omega
  subst z;have f:(vs++[x]).getD a.length PD=x:=by rw[<-p];simp[List.getD]
  have b:(a++[c]).getD a.length []=c:=by simp[List.getD]
  rw[f,b];exact t.kept s (ia t h u)
 simp only[AK,BN,AU]at D
 have f:(vs++[x]).getD i PD=vs.getD i PD:=by simp[List.getD,BO (show i<vs.length by omega)]
 rw[f]at l
 by_cases d:j<a.length
 .have b:(vs++[x]).getD j PD=vs.getD j PD:=by simp[List.getD,BO (show j<vs.length by omega)]
  rw[b];exact B i j k o d l
 have z:j=a.length:=ω
 subst z;have b:(vs++[x]).getD a.length PD=x:=by rw[<-p];simp[List.getD]
 rw[b];exact A i k o l
def Bts(w:Q9)(a:Q5)(b:List (List Ch)):Prop :=b=[]\/∃g,a=Hw g 0/\g<w.heap.size/\∀i,i<b.length->∃p c,w.cell? (Ki g i)=some (Y p (b.getD i []).length c)/\Chs w p (b.getD i [])
theorem Bts.I{a:Q5}{d:List (List Ch)}(h:Bts w a d)(b:Q3 w w'):Bts w' a d:=by
 rcases h with h|⟨g,j,f,k⟩
 .exact .inl h
 refine .inr ⟨g,j,AC f b.size,λi q=>?_⟩
 obtain⟨p,c,l,o⟩:=k i q;exact⟨p,c,(b.cell (p:=(Ki g i)) f).E l,o.I b⟩
theorem xB{B:Nat}{y:Ra}{o:List Ch}(h:w.ownsRow B e 3 y o.length (NL o)):∃a c,y=Y a o.length c/\Chs w a o:=by
 rcases MS h with ⟨a,b⟩|⟨g,cap,a,b,_,c⟩
 .have:o=[]:=AD b
  subst this;exact⟨none,0,a,.inl z⟩
 exact⟨_,cap,a,c.chs⟩
theorem Bat.bts{b:List (List Ch)}(h:Bat w base v b):∃a c,v=Y a b.length c/\Bts w a b:=by
 obtain⟨vs,f,q,u⟩:=h;rcases MS f with ⟨a,d⟩|⟨g,cap,a,d,j,k⟩
 .have:b=[]:=AD d
  subst this;exact⟨none,0,a,.inl rfl⟩
 refine⟨_,cap,a,.inr ⟨g,rfl,j,λi s=>?_⟩⟩
 obtain⟨p,c,l,o⟩:=xB (q i s);have t:vs.length=b.length:=by have:=f.1;omega
 refine⟨p,c,k.cell i _ ?_,o⟩;exact(by simp[List.getD,AO (show i<vs.length by omega)]:vs[i]?=some (vs.getD i PD)).E (BD some l)
theorem Bts.at{a:Q5}{b:List (List Ch)}(h:Bts w a b){k:Nat}(d:k<b.length):∃g p c,a=Hw g 0/\g<w.heap.size/\w.cell? (Ki g k)=some (Y p (b.getD k []).length c)/\Chs w p (b.getD k []):=by
 rcases h with h|⟨g,f,i,j⟩
 .subst h;simp at d
 obtain⟨p,c,l,o⟩:=j k d
 exact⟨g,p,c,f,i,l,o⟩
theorem Au:(prog.info? 102).map (λi=>(i.zero,i.size,i.bytes))=some (some (.agg #[Ow empty,Ow empty,Q1 false]),3,40):=h
theorem yE:(prog.info? 49).map (λi=>(i.zero,i.size,i.bytes))=some (some (Y none 0 0),1,24):=h
theorem YO{P:Program}{z:Ra}{a b:Nat}(h:(P.info? e).map (λi=>(i.zero,i.size,i.bytes))=some (some z,a,b)):∃i,P.info? e=some i/\i.zero=some z/\i.size=a/\i.bytes=b:=by
 obtain⟨i,d,c⟩:=EC.1 h;simp only[EK]at c;exact⟨i,d,c⟩
theorem UJ{W:Q9}{b:Nat}{B:Nat}(c:Below B W w)(own:w.ownsRow B e b v n xs)(a:w.grownBy w1 v.ownBlock)(h:B<=w.heap.size):Below B W w1 :=c.E ⟨a.os,a.tape,a.output,a.size,λk i=>a.block k d (λf=>by have:=(own.lt k f.symm).1;omega)⟩
theorem pY{b c:Nat}{s:Nat}(h:w.ownsRow b e s v n xs)(k:c<=b):w.ownsRow c e s v n xs:=by
 refine⟨h.1,?_⟩;rcases h.2 with d|⟨g,cap,a,f,i,j⟩
 .exact .inl d
 exact .inr ⟨g,cap,a,f,AJ k i,j⟩
theorem Bat.J{b c:Nat}{a:List (List Ch)}(h:Bat w b v a)(d:c<=b):Bat w c v a:=by
 obtain⟨vs,f,j,k⟩:=h;exact⟨vs,pY f d,λi l=>pY (j i l) d,k⟩
structure Rest(w:Q9)(base:Nat)(bss:List (List Ch))(vs:List Ra)(x:Ra):Prop where
 len:vs.length=bss.length
 own:∀i,i<bss.length->w.ownsRow base 102 3 (vs.getD i PD) (bss.getD i []).length (NL (bss.getD i []))
 apart:∀i j k,i<j->j<bss.length->(vs.getD i PD).ownBlock=some k->(vs.getD j PD).ownBlock≠some k
 last:∀i k,i<bss.length->(vs.getD i PD).ownBlock=some k->x.ownBlock≠some k
theorem Bat.last{a:List (List Ch)}{b:List Ch}(h:Bat w base v (a++[b])):∃g cap vs p c,v=Y (Hw g 0) (a.length+1) cap/\w.ownsRow base 49 1 v (a.length+1) (vs++[Y p b.length c])/\w.ownsRow base 102 3 (Y p b.length c) b.length (NL b)/\Rest w base a vs (Y p b.length c):=by
 obtain⟨vs,o,z,A⟩:=h;have q:vs.length=a.length+1:=by have:=o.1;simp at this;omega
 obtain⟨f,x,rfl⟩:∃f x,vs=f++[x]:=⟨vs.dropLast,vs.getLast (by intro e;subst e;simp at q),(JZ _).symm⟩;have u:f.length=a.length:=by simp at q;exact q
 have t:=z a.length σ;have y:(f++[x]).getD a.length PD=x:=by rw[<-u];simp[List.getD]
 have C:(a++[b]).getD a.length []=b:=by simp[List.getD]
 rw[y,C]at t
 have l:∀i,i<a.length->(f++[x]).getD i PD=f.getD i PD:=λi d=>by simp[List.getD,BO (show i<f.length by omega)]
 have D:∀i,i<a.length->(a++[b]).getD i []=a.getD i []:=λi d=>by simp[List.getD,BO d]
 obtain⟨p,c,rfl,_⟩:=xB t;simp only[AK,BN,AU]at o
 obtain⟨g,cap,hv⟩:∃g cap,v=Y (Hw g 0) (a.length+1) cap:=by
  rcases MS o with ⟨_,j⟩|⟨g,cap,j,_⟩
  .omega
  exact⟨g,cap,j⟩
 refine⟨g,cap,f,p,c,hv,o,t,u,λi d=>?_,λi j k B E s=>?_,λi k d s=>?_⟩
 .have:=z i τ
  rwa [l i d,D i d]at this
 .have:=A i j k B τ
  rw[l i ω,l j E]at this;exact this s
 have:=A i a.length k d σ
 rw[l i d,y]at this;exact this s
theorem Rest.relast{a:List (List Ch)}{l:List Ch}{c:Ra}{H:List Ch}(o:Rest w base a vs x)(hb:base<=w.heap.size)
  (F:w.ownsRow base 49 1 (Y (Hw g 0) (a.length+1) cap) (a.length+1) (vs++[x]))(V:w.ownsRow base 102 3 x n0 (NL H))
  (E:w.grownBy w1 x.ownBlock)(J:w1.ownsRow base 102 3 c l.length (NL l))(U:x.ownBlock=c.ownBlock\/c.ownBlock=some w.heap.size):Bat (w1.setCell (Ki g a.length) c) base (Y (Hw g 0) (a.length+1) cap) (a++[l]):=by
 have G:(102:TypeId)≠49:=δ
 have t:=o.len
 have z:w1.ownsRow base 49 1 (Y (Hw g 0) (a.length+1) cap) (a.length+1) (vs++[x]):=F.kept E (by
  rcases ia F V (JC G) with h|h
  .exact .inl h
  .exact .inr h)
 have I:w1.grownBy (w1.setCell (Ki g a.length) c) (some g):=⟨rfl,rfl,rfl,by simp[World.setCell],λk _ p=>BM _ _ _ k (λe=>p (by rw[e]))⟩
 have A:∀ {u:Ra} {n:Nat} {xs:List Ra},w1.ownsRow base 102 3 u n xs->(w1.setCell (Ki g a.length) c).ownsRow base 102 3 u n xs:=λh=>h.kept I (ia h z G)
 have K:∀i,i<a.length->w1.ownsRow base 102 3 (vs.getD i PD) (a.getD i []).length (NL (a.getD i [])):=λi f=>(o.own i f).kept E (by
  cases p:(vs.getD i PD).ownBlock with
  | none=>exact .inl rfl
  | some k=>exact .inr λe=>o.last i k f p e.symm)
 have y:∀i,i<a.length->(vs++[c]).getD i PD=vs.getD i PD:=λi f=>by simp[List.getD,BO (show i<vs.length by omega)]
 have M:∀i,i<a.length->(a++[l]).getD i []=a.getD i []:=λi f=>by simp[List.getD,BO f]
 have B:(vs++[c]).getD a.length PD=c:=by rw[<-t];simp[List.getD]
 have L:(a++[l]).getD a.length []=l:=by simp[List.getD]
 refine⟨vs++[c],?_,λi f=>?_,λi j k s T q=>?_⟩
 .refine⟨by simp[t],.inr ?_⟩
  rcases z.2 with ⟨N,_⟩|⟨X,W,b,O,P,C,Q,R,S,D⟩
  .cases N
  cases O
  refine⟨g,cap,b.set! a.length c,σ,P,?_,by simpa using Q,R,by simpa using S,?_⟩
  .have d:=(AR.1 C).1
   have p:=(AR.1 C).2;show(w1.heap.modify g _)[g]?=_;rw[Array.getElem?_eq_getElem (by rw[Array.size_modify];exact d),Array.getElem_modify_self,p];rfl
  have hz:b.toList.length=b.size:=σ
  have d:a.length<b.toList.length:=ω
  simp only[JX,AK,BN,AU]at D⊢;have:(b.set! a.length c).toList=b.toList.set a.length c:=σ
  rw[this,BK,List.take_set,D,IS _ _ ω,t];simp
 .by_cases d:i<a.length
  .rw[y i d,M i d];exact A (K i d)
  have:i=a.length:=by simp at f;omega
  subst this;rw[B,L];exact A J
 simp only[AK,BN,AU]at T
 rw[y i ω]at q
 by_cases d:j<a.length
 .rw[y j d];exact o.apart i j k s d q
 have:j=a.length:=ω
 subst this;rw[B];rcases U with h|h
 .rw[<-h];exact o.last i k s q
 rw[h]
 intro e;have:=(o.own i s).lt k q;simp at e;omega
theorem mo(k v:Q4)(g:Bool):∀u∈[Ow k,Ow v,Q1 g],u.oneCell'=true:=by
 intro u a;simp only[DZ,EY,IX]at a;rcases a with rfl|rfl|rfl<;>rfl
theorem oK(c:w.ownsRow base e 1 (Y (Hw g 0) (m+1) cap) (m+1) (vs++[x]))(b:vs.length=m):w.cell? (Ki g m)=some x/\w.frozen? (Ki g m)=false:=by
 have a:=UA c;exact⟨a.cell m x (by rw[<-b];simp),a.froz m q⟩
theorem gp{o:Obj}(a:w.ownsRow base 49 1 (Y (Hw g 0) (m+1) cap) (m+1) (vs++[x])/\vs.length=m)(c:w.ownsRow base 102 3 x n0 xs)(b:(w.alloc o).grownBy w1 x.ownBlock):w1.cell? (Ki g m)=some x/\w1.frozen? (Ki g m)=false:=by
 have d:(49:TypeId)≠102:=δ
 exact oK ((a.1.alloc o).kept b (ia a.1 c d)) a.2
theorem Rest.alloc{a:List (List Ch)}(h:Rest w base a vs x)(o:Obj):Rest (w.alloc o) base a vs x:=⟨h.len,λi b=>(h.own i b).alloc o,h.apart,h.last⟩
theorem qZ(w:Q9)(A:Obj)(a:Array Ra)(t:TypeId):∀j u,a.toList[j]?=some u->((w.alloc A).alloc (.cells a t)).cell? (((Ki (w.heap.size+1) 0):Addr).add j)=some u:=by
 have h:=AV (w.alloc A) (.cells a t);rw[BG]at h;exact World.news_of_block h
theorem P7{o:Obj}(b:wr.ownsRow base 49 1 v n vs)(c:base<=wr.heap.size)(d:((wr.alloc (.cells #[] 102)).alloc o).grownBy w7 v.ownBlock):w7.ownsRow base 102 3 (Y (Hw wr.heap.size 0) 0 0) 0 []:=by
 have a:(wr.alloc (.cells #[] 102)).ownsRow base 102 3 (Y (Hw wr.heap.size 0) 0 0) 0 []:=by
  have:=DH wr (base:=base) (e:=102) (size:=3) #[] 0 c j j;simpa using this
 exact(a.alloc o).kept d (ia (a.alloc o) ((b.alloc _).alloc _) δ)
theorem Ok{b:Q9}{j:Nat}{i:Q5}(k:Below base b wr)(f:base<=wr.heap.size)(a:wr.ownsRow base 49 1 (Y i m j) m vs)(d:w7.ownsRow base 49 1 (Y (Hw g 0) (m+1) cap) (m+1) (vs++[Y (Hw wr.heap.size 0) 0 0]))
  (c:((wr.alloc (.cells #[] 102)).alloc (.cells #[Y (Hw wr.heap.size 0) 0 0] 49)).grownBy w7 (Y i m j).ownBlock):Below base b w7/\(w7.ownsRow base 49 1 (Y (Hw g 0) (m+1) cap) (m+1) (vs++[Y (Hw wr.heap.size 0) 0 0])/\vs.length=m)/\w7.ownsRow base 102 3 (Y (Hw wr.heap.size 0) 0 0) 0 []/\w7.cell? (Ki g m)=some (Y (Hw wr.heap.size 0) 0 0):=by
 have h:vs.length=m:=by have:=a.1;omega
 exact⟨UJ ((k.alloc f _).alloc q _) ((a.alloc _).alloc _) c q,⟨d,h⟩,P7 a f c,(oK d h).1⟩
theorem xS(o:List Ch)(c:Ch):NL (o++[c])=NL o++[Ow c.1,Ow c.2.1,Q1 c.2.2]:=by rw[oU];rfl
theorem jx{o:Obj}{r:Option Nat}(h:(w.drew.alloc o).grownBy w' r):(w.alloc o).grownBy w' r:=⟨h.os,h.tape,h.output,h.size,h.block⟩
theorem ui{k W b:Q9}{a d c:Nat}{p:Q5}{f:List (List Ch)}{cs:List Ch}{i j:Q4}{o:Obj}(C:base<=W.heap.size)(F:Rest W base f vs (Y p n0 c))(D:m=f.length)(E:n0=cs.length)
  (s:W.ownsRow base 49 1 (Y (Hw g 0) (m+1) cap) (m+1) (vs++[Y p n0 c]))(t:W.ownsRow base 102 3 (Y p n0 c) n0 (NL cs))(l:(W.alloc o).grownBy b (Y p n0 c).ownBlock)
  (A:b.ownsRow base 102 3 (Y (Hw a 0) (n0+1) d) (n0+1) (NL cs++[Ow i,Ow j,Q1 false]))(y:(Y p n0 c).ownBlock=some a\/a=W.heap.size+1)(u:Below base k W):Bat (b.setCell (Ki g m) (Y (Hw a 0) (n0+1) d)) base (Y (Hw g 0) (m+1) cap) (f++[cs++[(i,j,false)]])/\Below base k (b.setCell (Ki g m) (Y (Hw a 0) (n0+1) d)):=by
 subst D E
 have B:b.ownsRow base 102 3 (Y (Hw a 0) (cs.length+1) d) (cs++[(i,j,false)]).length (NL (cs++[(i,j,false)])):=by
  rw[xS,AK];exact A
 refine⟨(F.alloc o).relast q (s.alloc o) (t.alloc o) l B ?_,?_⟩
 .rcases y with h|h
  .exact .inl h
  right;rw[h];simp[Value.ownBlock]
 have h:=(s.lt g z).1
 exact(UJ (u.alloc C o) (t.alloc o) l q).setCell (p:=(Ki g f.length)) h _
theorem O2{h:Nat}{f:Q5}{a:List (List Ch)}{o:Obj}(d:wr.ownsRow base 49 1 (Y f m h) m vs)(c:∀i,i<a.length->wr.ownsRow base 102 3 (vs.getD i PD) (a.getD i []).length (NL (a.getD i [])))
  (l:∀i j k,i<j->j<a.length->(vs.getD i PD).ownBlock=some k->(vs.getD j PD).ownBlock≠some k)(q:base<=wr.heap.size)(s:m=a.length)(p:((wr.alloc (.cells #[] 102)).alloc o).grownBy w7 (Y f m h).ownBlock):Rest w7 base a vs (Y (Hw wr.heap.size 0) 0 0):=by
 refine⟨by have:=d.1;omega,λi b=>(((c i b).alloc _).alloc _).kept p (ia (c i b) d δ),l,λi k b j=>?_⟩;have:=(c i b).lt k j;simp only[Value.ownBlock,ne_eq,EZ];omega
theorem oB(a:List Pr)(i:Nat)(b:i<=100):(VK a i).length<=5:=by rw[Ng];omega
theorem wO(a:Q5)(A:List Pr)(c:Nat)(w:Q9)(s:Prs w a A)(hl:A.length<=1048576)(hs:∀x∈A,x.1.size<=1048576/\x.2.size<=1048576):Calls prog 234 #[.agg #[Y a A.length c]] w λe w'=>∃v,e=Q2 v/\Bat w' (w.heap.size+1) v (NC A)/\Q3 w w':=by
 obtain⟨i0,b,t,y,B⟩:=YO Au;have HI:=LE (AG b (AG t (AG y B)));obtain⟨i1,i,k,o,p⟩:=YO yE;have HJ:=LE (AG i (AG k (AG o p)));clear b t y B i k o p;unfold NC;have o:Q3 w ((w.alloc (.cells #[Y a A.length c] 42)).alloc (.cells #[] 49)):=(LH _ _).alloc j _;have hv:=lk a A c ((w.alloc (.cells #[Y a A.length c] 42)).alloc (.cells #[] 49)) (s.I o) hl hs
 have p:Bat ((w.alloc (.cells #[Y a A.length c] 42)).alloc (.cells #[] 49)) (w.heap.size+1) (Y (Hw (w.heap.size+1) 0) 0 0) []:=by
  refine⟨[],?_,λi s=>absurd s j,λi b k _ s=>absurd s j⟩;have:=DH (w.alloc (.cells #[Y a A.length c] 42)) (base:=w.heap.size+1) (e:=49) (size:=1) #[] 0 j j j;simpa using this
 have HV:=LE hv;have cF:=LE o;have HE:=LE p;clear hv o p
 cases hok:MH A
 focus
  rw[hok]at HV;simp only[FD,JA]
 rotate_left
 focus
  rw[hok]at HV;simp only[IV];have dM:A.length<=100:=(gw hok).1
 rotate_left
 all_goals
  go_enter func234,ntmps234;go_wp2_with (go_at_call 106;refine HV.j.J ?_;rintro e w2 ⟨rfl,bG⟩)
 .go_ret
  exact⟨_,z,HE.j.I bG,cF.j.E (bG.J cF.j.size)⟩
 have dH:=bG.size
 simp only[BG]at dH;go_loopw [3,4] (λy i wr=>∃k:Nat,k<=A.length/\i=Z k/\Bat wr (w.heap.size+1) y (VK A k)/\Below (w.heap.size+1) (w.alloc (.cells #[Y a A.length c] 42)) wr) (λ_ i _=>A.length-(intOf i).toNat)
 case atStart =>
  exact⟨0,AL,z,HE.j.I bG,((D).alloc j _).E (bG.J j)⟩
 case round =>
  obtain⟨k,hk,rfl,aW,q⟩:=hrel;have q0:wr.cell? (Ki w.heap.size 0)=some (Y a A.length c):=(q.cell (p:=(Ki w.heap.size 0)) (by show w.heap.size<_;omega)).E γ;have bI:w.heap.size+1<=wr.heap.size:=by have:=q.size;simpa using this
  by_cases bQ:k<A.length
  .obtain⟨b,o,F,G,rfl,bJ,bP,HS⟩:=(s.I ((LH _ _).E (q.J d))).at bQ
   have M:b<w.heap.size:=by
    rcases s with s|⟨t,y,i,p,_⟩
    .subst s;simp at bQ
    cases i;exact p
   have cZ:(k:Int)<(A.length:Int):=d
   have h:=LE q;have I:=LE aW;clear q aW
   by_cases hr:k % 20=0
   focus
    have dF:(k:Int) % 20=0:=d
    have bT:=LE (Fz A k bQ hr (empty,empty));have bC:=oB A k d;obtain⟨aV,i⟩:=nMz (VK A k);rw[<-i]at I bC bT;clear i;obtain⟨vs,i,p,B⟩:=I.j
    obtain⟨ya,yc,rfl⟩:∃ya yc,u3=Y ya aV.length yc:=by
     rcases MS i with ⟨t,y⟩|⟨g,cap,t,_⟩
     .exact⟨none,0,by rw[t,y]⟩
     exact⟨_,cap,t⟩
    obtain⟨m,N⟩:=nMz aV.length;rw[<-N]at i bC⊢;have u:=LE N;have H1:=LE i;have H2:=LE p;have H3:=LE B;clear I i p B N;go_wp2_with (at_builtin;refine SX _ z _ _ 245 z (w.heap.size+1) underlying245 HJ.j z d _ m _ z ((H1.j.alloc _).alloc _) (Ki (wr.heap.size+1) 0) 1 1 [Y (Hw wr.heap.size 0) 0 0] z z (qZ wr _ _ _) (by intro i hu;simp at hu;subst hu;rfl) τ (wr.heap.size+1+1) j ?_;intro g cap w7 y t J bW;obtain⟨p,C,H,q7⟩:=Ok h.j bI H1.j y t;have bE:=LE p;have E:=LE C;have B:=LE H;have L:w.heap.size+1<=w7.heap.size:=AJ j p.size;have cA:=(p.cell (p:=(Ki w.heap.size 0)) (JR _)).E ((h.j.cell (p:=(Ki w.heap.size 0)) (JR _)).symm.E q0);have cC:=(p.cell (p:=(Ki b (o+k*2))) (FP M)).E ((h.j.cell (p:=(Ki b (o+k*2))) (FP M)).symm.E bJ);have cE:=(p.cell (p:=(Ki b (o+k*2+1))) (FP M)).E ((h.j.cell (p:=(Ki b (o+k*2+1))) (FP M)).symm.E bP);have dL:b<w7.heap.size:=AC (FP M) L;have cW:=LE t;clear y t J p C H bJ bP q0)
    have dB:(m:Int)<(m:Int)+1:=d
    have bY:(0:Int)<=(m:Int):=d
    have bF:=LE (B.j.alloc (.cells #[Ow F,Ow G,Q1 false] 102));have HR:Hid (Rest w7 (w.heap.size+1) aV vs (Y (Hw wr.heap.size 0) 0 0)):=LE (O2 H1.j H2.j H3.j bI u.j cW.j)
    have N:∀w',Below (w.heap.size+1) w7 w'->w'.cell? (Ki w.heap.size 0)=some (Y (Hw b o) A.length c)/\w'.cell? (Ki b (o+k*2))=some (Ow F)/\w'.cell? (Ki b (o+k*2+1))=some (Ow G):=λw' W=>⟨(W.cell (p:=(Ki w.heap.size 0)) (JR _)).E cA,(W.cell (p:=(Ki b (o+k*2))) (FP M)).E cC,(W.cell (p:=(Ki b (o+k*2+1))) (FP M)).E cE⟩
    have H:=LE N;clear N;refine AN (S:=λw'=>w'.cell? (Ki w.heap.size 0)=some (Y (Hw b o) A.length c)/\w'.cell? (Ki b (o+k*2))=some (Ow F)/\w'.cell? (Ki b (o+k*2+1))=some (Ow G)) κ (H.j _ (D).drew) (λt=>?_);refine TY 0 (Y (Hw g 0) (m+1) cap) z t (TY 1 (Z (m:Int)) z t (TY 2 (Y (Hw g 0) (m+1) cap) z t (TY 3 (Z (m:Int)) z t (TY 4 (Dr g m) z t (TY 6 (Dr w.heap.size 0) z t (TY 7 (Y (Hw b o) A.length c) z t (TY 8 (Z (k:Int)) z t (TY 9 (Dr b (o+k*2)) z t (TY 10 (Dr b (o+k*2)) z t (TY 11 (Ow F) z t (TY 12 (Dr w.heap.size 0) z t ?_)))))))))));simp only[PS];refine TY 13 (Y (Hw b o) A.length c) z t (TY 14 (Z (k:Int)) z t (TY 15 (Dr b (o+k*2)) z t (TY 16 (Dr b (o+k*2+1)) z t (TY 17 (Ow G) z t (TY 18 (.agg #[Ow F,Ow G,Q1 false]) z t ?_)))))
    simp only[PS];refine EU (rs:=[5,19]) κ j ?_;have T:=H.j (w7.drew.alloc (.cells #[Ow F,Ow G,Q1 false] 102)) ((D).drew.alloc L _);refine DA z (λK y=>?_) (DA z (λK y=>?_) EQ)
    focus
     go_simp;refine y.j _ _ t (λ_=>?_);clear y K;refine RD 19 z (λK y=>?_);go_simp;refine y.j _ _ T (λ_=>?_);clear y K;refine RD 20 z (λK y=>?_);refine UG _ f _ _ _ f (w.heap.size+1) underlying49 HI.j z d (Y (Hw wr.heap.size 0) 0 0) 0 _ f bF.j (Ki w7.heap.size 0) 1 1 [Ow F,Ow G,Q1 false] f z (World.news_of_block (AV w7 _)) (mo _ _ _) ξ (w7.heap.size+1) j ?_;intro X S l P O Q aX;have V:=LE P;have C:=LE (jx O);have U:=LE Q;have R:=ui L HR.j u.j (cs:=[]) z E.j.1 B.j C.j V.j U.j bE.j;have aN:=LE R;have q9:=(gp E.j B.j C.j).1;have r9:=(gp E.j B.j C.j).2;have J:Below (w.heap.size+1) w7 l:=UJ ((D).alloc L _) (B.j.alloc _) C.j τ;have aO:=H.j _ J;have aR:=H.j _ (J.setCell (p:=(Ki g m)) (E.j.1.lt g z).1 (Y (Hw X 0) (0+1) S))
    rotate_left
    focus
     go_simp;refine y.j _ _ T (λ_=>?_);clear y K;refine RD 5 z (λK y=>?_);go_simp;refine y.j _ _ T (λ_=>?_);clear y K;refine RD 20 z (λK y=>?_);refine UG _ f _ _ _ f (w.heap.size+1) underlying49 HI.j z d (Y (Hw wr.heap.size 0) 0 0) 0 _ f bF.j (Ki w7.heap.size 0) 1 1 [Ow F,Ow G,Q1 false] f z (World.news_of_block (AV w7 _)) (mo _ _ _) ξ (w7.heap.size+1) j ?_;intro X S l P O Q aX;have V:=LE P;have C:=LE (jx O);have U:=LE Q;have R:=ui L HR.j u.j (cs:=[]) z E.j.1 B.j C.j V.j U.j bE.j;have aN:=LE R;have q9:=(gp E.j B.j C.j).1;have r9:=(gp E.j B.j C.j).2;have J:Below (w.heap.size+1) w7 l:=UJ ((D).alloc L _) (B.j.alloc _) C.j τ;have aO:=H.j _ J;have aR:=H.j _ (J.setCell (p:=(Ki g m)) (E.j.1.lt g z).1 (Y (Hw X 0) (0+1) S))
    rotate_left
   rotate_left 2
   focus
    have dF:decide ((k:Int) % 20=0)=false:=τ
    obtain⟨aV,cs,cJ,cN,cX⟩:=Ku A k bQ hr (empty,empty);have bT:=LE cN;have bC:=oB A k d;rw[cJ]at I bC;obtain⟨g,cap,vs,p,c9,rfl,hO,hX,hR⟩:=I.j.last;obtain⟨m,N⟩:=nMz aV.length;obtain⟨n0,bR⟩:=nMz cs.length;have dN:m<=5:=by simp at bC;omega
    have bZ:vs.length=m:=by rw[hR.len,N]
    rw[<-N,<-bR]at hO;rw[<-bR]at hX hR cX;rw[<-N];have u:=LE N;have HN:=LE bR;have E:=LE (AG hO bZ);have B:=LE hX;have HR:=LE hR;have bW:g<wr.heap.size:=(hO.lt g z).2;have q7:=(oK hO bZ).1;clear cJ cN bC hO hX hR N bR I bZ;have dB:(m:Int)<(m:Int)+1:=d
    have bY:(0:Int)<=(m:Int):=d
    have bF:=LE (B.j.alloc (.cells #[Ow F,Ow G,Q1 false] 102));have dL:b<wr.heap.size:=AC (FP M) bI;have cA:=q0;have cC:=bJ;have cE:=bP;have L:=bI;have bE:=h;clear q0 bJ bP bI h;go_wp2_with fail
    have N:∀w',Below (w.heap.size+1) wr w'->w'.cell? (Ki w.heap.size 0)=some (Y (Hw b o) A.length c)/\w'.cell? (Ki b (o+k*2))=some (Ow F)/\w'.cell? (Ki b (o+k*2+1))=some (Ow G):=λw' W=>⟨(W.cell (p:=(Ki w.heap.size 0)) (JR _)).E cA,(W.cell (p:=(Ki b (o+k*2))) (FP M)).E cC,(W.cell (p:=(Ki b (o+k*2+1))) (FP M)).E cE⟩
    have H:=LE N;clear N;refine AN (S:=λw'=>w'.cell? (Ki w.heap.size 0)=some (Y (Hw b o) A.length c)/\w'.cell? (Ki b (o+k*2))=some (Ow F)/\w'.cell? (Ki b (o+k*2+1))=some (Ow G)) κ (H.j _ (D).drew) (λt=>?_);refine TY 0 (Y (Hw g 0) (m+1) cap) z t (TY 1 (Z (m:Int)) z t (TY 2 (Y (Hw g 0) (m+1) cap) z t (TY 3 (Z (m:Int)) z t (TY 4 (Dr g m) z t (TY 6 (Dr w.heap.size 0) z t (TY 7 (Y (Hw b o) A.length c) z t (TY 8 (Z (k:Int)) z t (TY 9 (Dr b (o+k*2)) z t (TY 10 (Dr b (o+k*2)) z t (TY 11 (Ow F) z t (TY 12 (Dr w.heap.size 0) z t ?_)))))))))));simp only[PS];refine TY 13 (Y (Hw b o) A.length c) z t (TY 14 (Z (k:Int)) z t (TY 15 (Dr b (o+k*2)) z t (TY 16 (Dr b (o+k*2+1)) z t (TY 17 (Ow G) z t (TY 18 (.agg #[Ow F,Ow G,Q1 false]) z t ?_)))))
    simp only[PS];refine EU (rs:=[5,19]) κ j ?_;have T:=H.j (wr.drew.alloc (.cells #[Ow F,Ow G,Q1 false] 102)) ((D).drew.alloc L _);refine DA z (λK y=>?_) (DA z (λK y=>?_) EQ)
    focus
     go_simp;refine y.j _ _ t (λ_=>?_);clear y K;refine RD 19 z (λK y=>?_);go_simp;refine y.j _ _ T (λ_=>?_);clear y K;refine RD 20 z (λK y=>?_);refine UG _ f _ _ _ f (w.heap.size+1) underlying49 HI.j z d (Y p n0 c9) n0 _ f bF.j (Ki wr.heap.size 0) 1 1 [Ow F,Ow G,Q1 false] f z (World.news_of_block (AV wr _)) (mo _ _ _) ξ (wr.heap.size+1) j ?_;intro X S l P O Q aX;have V:=LE P;have C:=LE (jx O);have U:=LE Q;have R:=ui L HR.j u.j HN.j E.j.1 B.j C.j V.j U.j bE.j;have aN:=LE R;have q9:=(gp E.j B.j C.j).1;have r9:=(gp E.j B.j C.j).2;have J:Below (w.heap.size+1) wr l:=UJ ((D).alloc L _) (B.j.alloc _) C.j τ;have aO:=H.j _ J;have aR:=H.j _ (J.setCell (p:=(Ki g m)) (E.j.1.lt g z).1 (Y (Hw X 0) (n0+1) S))
    rotate_left
    focus
     go_simp;refine y.j _ _ T (λ_=>?_);clear y K;refine RD 5 z (λK y=>?_);go_simp;refine y.j _ _ T (λ_=>?_);clear y K;refine RD 20 z (λK y=>?_);refine UG _ f _ _ _ f (w.heap.size+1) underlying49 HI.j z d (Y p n0 c9) n0 _ f bF.j (Ki wr.heap.size 0) 1 1 [Ow F,Ow G,Q1 false] f z (World.news_of_block (AV wr _)) (mo _ _ _) ξ (wr.heap.size+1) j ?_;intro X S l P O Q aX;have V:=LE P;have C:=LE (jx O);have U:=LE Q;have R:=ui L HR.j u.j HN.j E.j.1 B.j C.j V.j U.j bE.j;have aN:=LE R;have q9:=(gp E.j B.j C.j).1;have r9:=(gp E.j B.j C.j).2;have J:Below (w.heap.size+1) wr l:=UJ ((D).alloc L _) (B.j.alloc _) C.j τ;have aO:=H.j _ J;have aR:=H.j _ (J.setCell (p:=(Ki g m)) (E.j.1.lt g z).1 (Y (Hw X 0) (n0+1) S))
    rotate_left
   rotate_left 2
   all_goals
    clear P O Q R J;refine y.j _ _ aO (λ_=>?_);clear y K;simp only[PS];refine TY 21 (Dr g m) z aO ?_;simp only[PS];refine RD 22 z (λK y=>?_);go_simp;refine y.j _ _ aR (λ_=>?_);clear y K;refine DN ?_;go_wp2;refine⟨⟨k+1,d,ν,?_,aN.j.2⟩,by simp[intOf];omega⟩;rw[bT.j];have y:(F,G,false)=br (A.getD k (empty,empty)):=by rw[<-HS.j];rfl
    rw[<-y];exact aN.j.1
  have b:k=A.length:=d
  subst b;go_wp2;go_ret;exact⟨_,z,aW,(LH _ _).E (q.J d)⟩
end
section
open Tryz
open Go.RowKit Go.Shelf
attribute [local go_sem] Oper.semAt_some
def je(b a c k:Nat):Ra:=Y (Hw b (a+k*20*2)) (min 20 (c-k*20)) (min 20 (c-k*20))
theorem zG(w:Q9)(q:Nat):w.grownBy (w.drewN q) none:=⟨z,z,z,C,λ_ _ _=>z⟩
theorem J6(F:Fence)(n:Nat)(R:F.fn 299)(O:F.round=none)(hn:1<=n)(l o m b g a c:Nat)(T:a<=100)(S:a<=c)(C:Q9->Q9->Prop)(r:∀A B,C A B->B.cell? (Ki o 0)=A.cell? (Ki o 0)/\B.cell? (Ki m 0)=A.cell? (Ki m 0))(J y:List Nat->Q9->Prop)
  (E:∀f x W,J f W->f.length<(a+19) / 20->YieldAt F (n-1) prog l #[je b g a x] W λe i =>
   (e=Q2 (Q1 true)/\J (f++[x]) i/\C W i)\/(e=Q2 (Q1 false)/\y (f++[x]) i))
  (W:Q9)(M:W.cell? (Ki o 0)=some (Y (Hw b g) a c))(L:W.cell? (Ki m 0)=some (Z 20))(Q:J [] W)(D:∀s A B,J s A->A.grownBy B none->J s B):CallsIn F n prog 299 #[.func (.yield l) #[] #[],Dr o 0,Dr m 0] W λe i=>(∃v,e=Q2 v) /\
   ((∃k,k=List.range ((a+19) / 20)/\J k i)\/(∃f,True/\y f i)):=by
 refine JU func299 z R ?_ O;simp only[ntmps299,GQ,BN,AU,Nat.reduceAdd,Nat.reduceSub,GA,GC,GP,FK,EL,EX]
 gi_wp2
 gi_loopw [4] (λi wr=>∃k q:Nat,q=k*20/\k<=(a+19) / 20/\i=Z (q:Int)/\J (List.range k) wr/\wr.cell? (Ki o 0)=some (Y (Hw b g) a c)/\wr.cell? (Ki m 0)=some (Z 20)) (λi _=>a+20-(intOf i).toNat)
 case atStart=>exact⟨0,0,z,AL,z,Q,M,L⟩
 case round =>
  obtain⟨k,q,e,hk,rfl,w,B,A⟩:=hrel;have f:=LE e;clear e;have X:prog.follows .mixedOrders=true:=κ
  by_cases V:q<a
  .have h:(0:Int)<=(q:Int):=d
   have aU:(q:Int)<=(a:Int):=d
   have aV:(q:Int)<(a:Int):=d
   have aW:(a:Int)<=(c:Int):=d
   by_cases hc:20<=a-q
   .have s:Hid (min 20 (a-q)=20):=by show _=_;omega
    have N:(q:Int)+20<=(a:Int):=d
    have U:(q:Int)+20<=(c:Int):=d
    gi_wp2
    gi_big_quiet_th_v (fail)
    obtain⟨P,p,I,K,i,x⟩:=E _ k (wr.drewN nq) (D _ _ _ w (zG wr nq)) (by have:=f.j;rw[KO];omega);have u:(wr.drewN nq).cell? (Ki o 0)=some (Y (Hw b g) a c):=B;unfold je at i;rw[<-f.j,s.j]at i
    gi_wp2
    refine x.J ?_;rintro e G (⟨rfl,hJ3,hk3⟩|⟨rfl,hJx3⟩)
    .have t:=(r _ _ hk3).2.E (show(wr.drewN nq).cell? (Ki m 0)=some (Z 20) from A)
     have v:=(r _ _ hk3).1.E u
     gi_wp2
     go_roundw
     case rel=>exact⟨k+1,q+20,by have:=f.j;omega,by have:=f.j;omega,j,by rw[GY];exact hJ3,v,t⟩
     case measure=>simp[intOf];omega
    gi_wp2
    refine H (KG z _ _ _) z ?_;exact⟨⟨_,z⟩,.inr ⟨_,trivial,hJx3⟩⟩
   have s:Hid (min 20 (a-q)=a-q):=by show _=_;omega
   have N:(q:Int)+((a-q:Nat):Int)=(a:Int):=d
   gi_wp2
   gi_big_quiet_th_v (fail)
   obtain⟨P,p,I,K,i,x⟩:=E _ k (wr.drewN nq) (D _ _ _ w (zG wr nq)) (by have:=f.j;rw[KO];omega);have u:(wr.drewN nq).cell? (Ki o 0)=some (Y (Hw b g) a c):=B;unfold je at i;rw[<-f.j,s.j]at i
   gi_wp2
   refine x.J ?_;rintro e G (⟨rfl,hJ3,hk3⟩|⟨rfl,hJx3⟩)
   .have t:=(r _ _ hk3).2.E (show(wr.drewN nq).cell? (Ki m 0)=some (Z 20) from A)
    have v:=(r _ _ hk3).1.E u
    gi_wp2
    go_roundw
    case rel=>exact⟨k+1,q+20,by have:=f.j;omega,by have:=f.j;omega,j,by rw[GY];exact hJ3,v,t⟩
    case measure=>simp[intOf];omega
   gi_wp2
   refine H (KG z _ _ _) z ?_;exact⟨⟨_,z⟩,.inr ⟨_,trivial,hJx3⟩⟩
  have e:k=(a+19) / 20:=by have:=f.j;omega
  gi_wp2
  go_end0;exact⟨⟨_,z⟩,.inl ⟨_,by rw[e],w⟩⟩
theorem Mo(F:Fence)(n:Nat)(j:F.fn 299)(g:F.round=none)(l b d c:Nat)(a:Q5)(J:List Nat->Q9->Prop)(W:Q9)(k:W.cell? (Ki b 0)=some (Y a 0 c))(h:J [] W):CallsIn F n prog 299 #[.func (.yield l) #[] #[],Dr b 0,Dr d 0] W λe f=>(∃v,e=Q2 v)/\J [] f:=by
 refine JU func299 z j ?_ g;simp only[ntmps299,GQ,BN,AU,Nat.reduceAdd,Nat.reduceSub,GA,GC,GP,FK,EL,EX]
 gi_wp2
 gi_loopw [4] (λi wr=>i=Z 0/\wr=W) (λ_ _=>0)
 case atStart=>exact⟨z,z⟩
 case round =>
  obtain⟨rfl,rfl⟩:=hrel
  gi_wp2
  go_end0;exact⟨⟨_,z⟩,h⟩
theorem Gj(F:Fence)(n:Nat)(f:F.fn 272)(d:F.round=none)(a:Q5)(c b:Nat)(w:Q9):CallsIn F n prog 272 #[Y a c b,Z 20] w λe g=>e=Q2 (.func (.func 299) #[] #[Dr w.heap.size 0,Dr (w.heap.size+1) 0])/\g=(w.alloc (.cells #[Y a c b] 40)).alloc (.cells #[Z 20] 3):=by
 refine JU func272 z f ?_ d;simp only[ntmps272,GQ,BN,AU,Nat.reduceAdd,Nat.reduceSub,GA,GC,GP,FK,EL,EX]
 gi_wp2
 go_ret;exact⟨z,z⟩
theorem Lh(F:Fence)(n:Nat)(q:F.fn 299)(o:F.round=none)(K:1<=n)(f d b h g c:Nat)(a:Q5)(v:g<=100)(u:g<=c)(w:Q9)(C:f<w.heap.size)(y:d<w.heap.size)(j:Q9->Q9->Prop)(E:∀A B,j A B->B.cell? (Ki f 0)=A.cell? (Ki f 0)/\B.cell? (Ki d 0)=A.cell? (Ki d 0))
  (m:w.cell? (Ki f 0)=some (Y a g c))(I:w.cell? (Ki d 0)=some (Z 20))(H:g=0\/a=Hw b h):SeqStopsK F n prog 299 #[Dr f 0,Dr d 0] (λx:Nat=>#[je b h g x]) j (λi=>i=List.range ((g+19) / 20)) (λ_=>True) ((g+19) / 20) w:=λl J t W e D k G p=>by
 have i:=(e.cell (p:=(Ki f 0)) C).E m;have k:=(e.cell (p:=(Ki d 0)) y).E I;rcases H with rfl|rfl
 .exact(Mo F n q o l f d c a J W i p).J λe W' ⟨he,hj⟩=>⟨he,.inl ⟨_,z,hj⟩⟩
 exact J6 F n q o K l f d b h g c v u j E J t G W i k p (λs A B m x=>D s A B none m x (λr e=>(by cases e)))
