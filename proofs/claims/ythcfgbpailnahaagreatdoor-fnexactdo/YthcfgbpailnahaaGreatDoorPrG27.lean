import Derived.Test.YthcfgbpailnahaaGreatDoorPrAo
import Derived.Test.YthcfgbpailnahaaGreatDoorPrG26
import Derived.RangeFuncNested
import Derived.RangeFuncBound
import Derived.RangeFuncCalls
import Derived.RangeFuncLeaves
import Derived.RangeFuncBox
import Derived.Shelf.Abstract
import Derived.Shelf.RegionOpenV
import Derived.OwnWalkIn
import Derived.TacticsInMore
import Derived.LoopNIn
import Derived.LoopIn
import Derived.Sort.QuietIn
import Derived.Maps.AppendAt
import Derived.Maps.OwnIn
set_option maxHeartbeats 16000000
set_option maxRecDepth 8000
set_option linter.all false
namespace Go.Proofs.YthcfgbpailnahaaGreatDoor
open _root_.ByteArray(empty)
section
open Tryz
open Go.RowKit
variable {r:ByteArray}{vs xs:List Value}{base cap g m n n0:Nat}{e:TypeId}{v x:Value}{w w' w1 w7 wr:World}
abbrev Ch:=ByteArray×ByteArray×Bool
def b0(r:ByteArray):Nat:=(r.data.toList.getD 0 0).toNat
def ec(r:ByteArray):b0 r<=255:=by unfold b0;have:=GU (r.data.toList.getD 0 0);omega
def nj(r:ByteArray)(a b:Nat):LF (r.extract a b)=((LF r).drop a).take (b-a):=by
 unfold LF;rw[GW,JS,List.extract_eq_take_drop,ID,KR]
def vi(r:ByteArray)(h:0<r.size):LF r=(b0 r:Int)::(LF r).drop 1:=by
 have hl:0<r.data.toList.length:=h;unfold LF b0
 match r.data.toList,hl with
 | x::l,_=>simp
def Gd{s:ByteArray}(h:LF r=LF s):r=s:=by rw[<-SJ r,h,SJ]
def mg(r:ByteArray):∀y∈LF r,0<=y/\y<=255:=by
 intro y hy;unfold LF at hy;obtain⟨c,_,rfl⟩:=CE.1 hy;have:=GU c;omega
def qf:∀(xs:List Int),(∀y∈xs,0<=y/\y<=255)->LF (strOfNums xs)=xs
 | [],_=>rfl
 | x::l,h=>by
  have ih:=qf l (λy hy=>h y (BQ _ hy));have hx:=h x (DZ);simp only[LF,strOfNums]at ih⊢;simp only[FD,IT,List.toList_toArray]at ih⊢;simp[List.map_eq_map_iff]at ih⊢
  constructor
  ·omega
  exact ih
def pc(r:ByteArray):Option (ByteArray×ByteArray):=if 1<=r.size/\1+b0 r<=r.size then some (r.extract 1 (1+b0 r),r.extract (1+b0 r) r.size) else none
def mt{k m:ByteArray}(h:pc r=some (k,m)):LF r=[(k.size:Int)]++LF k++LF m/\k.size<=255:=by
 unfold pc at h
 split at h
 ·rename_i hc
  simp only[EU,EA]at h;obtain⟨rfl,rfl⟩:=h;have hk:(r.extract 1 (1+b0 r)).size=b0 r:=by simp only[AW];omega
  refine⟨?_,by rw[hk];exact ec r⟩;rw[hk,nj,nj];have hn:=vi r (by omega);have e1:r.size-(1+b0 r)=(LF r).length-(1+b0 r):=by rw[ML]
  rw[e1,<-BU,DC];have e2:1+b0 r-1=b0 r:=by omega
  rw[e2];have e3:(LF r).drop (1+b0 r)=((LF r).drop 1).drop (b0 r):=by rw[GR]
  rw[e3,BG,ES];exact hn
 cases h
def QB(r:ByteArray):Option (Ch×ByteArray) :=match pc (r.extract 1 r.size) with
 | none=>none
 | some (k,m)=>if b0 r=1 then some ((k,empty,true),m) else
  match pc m with
  | none=>none
  | some (v,m')=>some ((k,v,false),m')
def Ew(r:ByteArray):LF (r.extract 1 r.size)=(LF r).drop 1:=by
 rw[nj];have e1:r.size-1=((LF r).drop 1).length:=by rw[BU,ML]
 rw[e1,DC]
def yx{r1:ByteArray}{c:Ch}(hr:0<r.size)(h:QB r=some (c,r1)):c.1.size<=255/\c.2.1.size<=255/\∃t,MZ c++LF r1=(if b0 r=1 then 1 else 0)::t/\LF r=(b0 r:Int)::t:=by
 unfold QB at h
 split at h
 ·cases h
 rename_i k m hp
 obtain⟨h1,h2⟩:=mt hp;rw[Ew]at h1;have hn:=vi r hr
 split at h
 ·rename_i hb
  simp only[EU,EA]at h;obtain⟨rfl,rfl⟩:=h;refine⟨h2,by simp,_,?_,hn⟩;rw[h1,AK hb];simp[MZ]
 rename_i hb
 split at h
 ·cases h
 rename_i v m' hq
 obtain⟨h3,h4⟩:=mt hq;simp only[EU,EA]at h;obtain⟨rfl,rfl⟩:=h;refine⟨h2,h4,_,?_,hn⟩;rw[h1,h3,AE hb];simp[MZ]
def run:Nat->ByteArray->List Ch->Option (List Ch×ByteArray)
 | 0,r,o=>some (o,r)
 | n+1,r,o=>if r.size=0 then some (o,r) else
  match QB r with
  | none=>none
  | some (c,r')=>run n r' (o++[c])
def QN:Nat->ByteArray->List Ch->Option (List Ch×ByteArray)
 | 0,r,o=>some (o,r)
 | n+1,r,o=>if r.size=0 then some (o,r) else if 1<b0 r then none else
  match QB r with
  | none=>none
  | some (c,r')=>QN n r' (o++[c])
def sR(n:Nat)(o:List Ch)(r:ByteArray)(h:r.size=0):run n r o=some (o,r):=by cases n<;>simp[run,h]
def uy:∀(n:Nat) (r:ByteArray) (o o':List Ch) (r':ByteArray),run n r o=some (o',r') ->
  ∃l,o'=o++l/\(∀x∈l,x.1.size<=255/\x.2.1.size<=255)/\(r'.size=0\/l.length=n) /\
   ((QN n r o=some (o',r')/\l.flatMap MZ++LF r'=LF r)\/(QN n r o=none/\∀z,l.flatMap MZ++z≠LF r))
 | 0,r,o,o',r',h=>by
  simp only[run,EU,EA]at h;obtain⟨rfl,rfl⟩:=h;exact⟨[],by simp,by simp,.inr rfl,.inl ⟨rfl,by simp⟩⟩
 | n+1,r,o,o',r',h=>by
  by_cases hz:r.size=0
  ·rw[run,AK hz]at h
   simp only[EU,EA]at h;obtain⟨rfl,rfl⟩:=h;exact⟨[],by simp,by simp,.inl hz,.inl ⟨by rw[QN,AK hz],by simp⟩⟩
  rw[run,AE hz]at h
  cases hs:QB r with
  | none=>rw[hs]at h;cases h
  | some p =>
   obtain⟨c,r1⟩:=p;rw[hs]at h;obtain⟨k1,k2,t,k3,k4⟩:=yx (by omega) hs;obtain⟨l,e1,e2,e3,e4⟩:=uy n r1 (o++[c]) o' r' h;refine⟨c::l,by rw[e1];simp,λx hx=>?_,?_,?_⟩
   ·rcases DK.1 hx with rfl|hx
    ·exact⟨k1,k2⟩
    exact e2 x hx
   ·rcases e3 with e3|e3
    ·exact .inl e3
    exact .inr (by simp[e3])
   by_cases hb:1<b0 r
   ·refine .inr ⟨by rw[QN,AE hz,AK hb],λz aA=>?_⟩
    have hb1:¬b0 r=1:=by omega
    rw[AE hb1]at k3
    have hc:∃u,MZ c=0::u:=by
     have:c.2.2=false:=by
      unfold QB at hs
      split at hs
      ·cases hs
      rw[AE hb1]at hs
      split at hs
      ·cases hs
      simp only[EU,EA]at hs
      rw[<-hs.1]
     exact⟨_,by unfold MZ;rw[this];rfl⟩
    obtain⟨u,hu⟩:=hc;rw[GL,hu,k4]at aA;simp at aA;omega
   have hr:LF r=MZ c++LF r1:=by
    rw[k3,k4]
    split
    ·rename_i h1;rw[h1];rfl
    have:b0 r=0:=by omega
    rw[this];rfl
   have aB:QN (n+1) r o=QN n r1 (o++[c]):=by rw[QN,AE hz,AE hb,hs]
   rcases e4 with ⟨e4,e5⟩|⟨e4,e5⟩
   ·refine .inl ⟨aB.j e4,?_⟩
    rw[GL,BG,e5,hr]
   refine .inr ⟨aB.j e4,λz aA=>e5 z ?_⟩
   rw[GL,BG,hr]at aA;exact List.append_cancel_left aA
def se:∀(n:Nat) (r:ByteArray) (o:List Ch),run n r o=none->QN n r o=none
 | 0,r,o,h=>by simp[run]at h
 | n+1,r,o,h=>by
  by_cases hz:r.size=0
  ·rw[run,AK hz]at h;cases h
  rw[run,AE hz]at h
  rw[QN,AE hz]
  split
  ·rfl
  cases hs:QB r with
  | none=>rfl
  | some p =>
   obtain⟨c,r1⟩:=p;rw[hs]at h;exact se n r1 _ h
def Av(x:Ch)(h1:x.1.size<=255)(h2:x.2.1.size<=255):∀y∈MZ x,0<=y/\y<=255:=by
 intro y hy;unfold MZ at hy
 split at hy
 ·simp only[BP,DK,EN,IY]at hy
  rcases hy with rfl|rfl|hy
  ·omega
  ·omega
  exact mg _ y hy
 simp only[BP,DK,EN,IY]at hy
 rcases hy with (rfl|rfl|hy)|rfl|hy
 ·omega
 ·omega
 ·exact mg _ y hy
 ·omega
 exact mg _ y hy
def SW(s:ByteArray):Option (List Ch):=match run 21 s [] with|none=>none|some (o,_)=>if s.size≠0/\LX o=s then some o else none
def WI(s:ByteArray):Option (List Ch):=match QN 21 s [] with|none=>none|some (o,_)=>if OA o=true then some o else none
def xe(s:ByteArray):WI s=SW s:=by
 unfold WI SW
 cases hr:run 21 s [] with
 | none=>rw[se _ _ _ hr]
 | some p =>
  obtain⟨o,r⟩:=p;obtain⟨l,e1,e2,e3,e4⟩:=uy 21 s [] o r hr;rw[DU]at e1;subst e1
  have aB:∀y∈o.flatMap MZ,0<=y/\y<=255:=by
   intro y hy;obtain⟨x,hx,hy⟩:=EE.1 hy;exact Av x (e2 x hx).1 (e2 x hx).2 y hy
  have aC:RA o=s->o.flatMap MZ=LF s:=λh=>by rw[<-h];exact(qf _ aB).symm
  rcases e4 with ⟨e4,e5⟩|⟨e4,e5⟩
  ·rw[e4]
   simp only
   by_cases aA:OA o=true
   ·have aF:r.size=0:=by
     rcases e3 with e3|e3
     ·exact e3
     have:=(VQ aA).1;omega
    have aD:LF r=[]:=AC (by rw[ML];exact aF);rw[aD,EY]at e5
    have hs:LX o=s:=by
     unfold LX;rw[AK aA]
     apply Gd
     rw[<-e5];exact qf _ aB
    have aG:s.size≠0:=by
     intro h0;have aE:LF s=[]:=AC (by rw[ML];exact h0);rw[aE]at e5
     match o,(VQ aA).1 with
     | x::o',_ =>
      simp only[GL,List.append_eq_nil_iff]at e5;have:=e5.1;unfold MZ at this
      split at this<;>simp at this
    rw[AK aA,AK ⟨aG,hs⟩]
   have hb:LX o=empty:=by unfold LX;rw[AE aA]
   rw[AE aA,AE];rintro⟨h1,h2⟩;rw[hb]at h2;rw[<-h2]at h1;exact h1 rfl
  rw[e4]
  simp only;rw[AE];rintro⟨h1,h2⟩;unfold LX at h2
  split at h2
  ·have:=aC h2
   exact e5 [] (by rw[EY];exact this)
  rw[<-h2]at h1
  exact h1 rfl
abbrev Pr:=ByteArray×ByteArray
abbrev NP:Value:=.slice none 0 0
def VL(p:Pr):Ch:=(p.1,p.2,false)
def OS(rs:List Pr)(k:Nat):List Ch:=((rs.drop (k*20)).take 20).map VL
def RE(rs:List Pr)(i:Nat):List (List Ch):=(List.range ((i+19) / 20)).map (OS (rs.take i))
def MN(rs:List Pr):List (List Ch):=if MA rs=true then RE rs rs.length else []
def Eq(rs:List Pr)(i:Nat):(RE rs i).length=(i+19) / 20:=by simp[RE]
def pJ(rs:List Pr)(i k:Nat)(hi:i<rs.length)(hk:k*20+20<=i):OS (rs.take (i+1)) k=OS (rs.take i) k:=by
 unfold OS
 congr 1
 rw[FC,FC,GT,GT]
 congr 1
 omega
def pU(rs:List Pr)(i k:Nat)(hi:i<rs.length)(h1:k*20<=i)(h2:i<k*20+20)(d:Pr):OS (rs.take (i+1)) k=OS (rs.take i) k++[VL (rs.getD i d)]:=by
 unfold OS;rw[FC,FC,GT,GT,Nat.min_eq_right (by omega),Nat.min_eq_right (by omega)];rw[show i+1-k*20=(i-k*20)+1 by omega,List.take_add_one,BK]
 congr 1
 rw[EV,show k*20+(i-k*20)=i by omega];simp[List.getD,hi]
def vD(rs:List Pr)(i:Nat)(hi:i<rs.length)(h:i % 20=0)(d:Pr):RE rs (i+1)=RE rs i++[[VL (rs.getD i d)]]:=by
 unfold RE;rw[show(i+1+19) / 20=(i+19) / 20+1 by omega,DR,BK]
 have e0:OS (rs.take i) (i / 20)=[]:=by
  unfold OS;rw[List.drop_eq_nil_of_le (by rw[BC];omega)];rfl
 congr 1
 ·exact GP λk hk=>pJ rs i k hi (by simp at hk;omega)
 have e1:(i+19) / 20=i / 20:=by omega
 rw[e1,List.map_singleton,pU rs i (i / 20) hi (by omega) (by omega) d,e0];rfl
def Bq(rs:List Pr)(i:Nat)(hi:i<rs.length)(h:i % 20≠0)(d:Pr):∃aA cs,RE rs i=aA++[cs]/\RE rs (i+1)=aA++[cs++[VL (rs.getD i d)]]/\cs.length<=20:=by
 refine⟨(List.range (i / 20)).map (OS (rs.take i)),OS (rs.take i) (i / 20),?_,?_,?_⟩
 ·unfold RE
  rw[show(i+19) / 20=i / 20+1 by omega,DR,BK];rfl
 ·unfold RE
  rw[show(i+1+19) / 20=i / 20+1 by omega,DR,BK,List.map_singleton,pU rs i (i / 20) hi (by omega) (by omega) d]
  congr 1
  exact GP λk hk=>pJ rs i k hi (by simp at hk;omega)
 unfold OS;simp;omega
def tW(rs:List Pr)(k:Nat):(OS rs k).length=min 20 (rs.length-k*20):=by unfold OS;simp
def pN(rs:List Pr):RE rs rs.length=(List.range ((rs.length+19) / 20)).map (OS rs):=by unfold RE;rw[DC]
def Cr{rs:List Pr}{b:List Ch}(h:b∈RE rs rs.length):b.length<=20/\∀x∈b,(x.1,x.2.1)∈rs:=by
 rw[pN]at h;obtain⟨k,hk,rfl⟩:=CE.1 h;refine⟨by rw[tW];omega,λx hx=>?_⟩;unfold OS at hx;obtain⟨p,hp,rfl⟩:=CE.1 hx;exact EW (DQ hp)
def Bat(w:World)(base:Nat)(v:Value)(aA:List (List Ch)):Prop :=∃vs:List Value,w.ownsRow base 56 1 v aA.length vs/\(∀i,i<aA.length->w.ownsRow base 127 3 (vs.getD i NP) (aA.getD i []).length (LZ (aA.getD i []))) /\
  ∀i j k,i<j->j<aA.length->(vs.getD i NP).ownBlock=some k->(vs.getD j NP).ownBlock≠some k
def Bat.nil(w:World)(base:Nat):Bat w base NP []:=⟨[],BZ _ _ _ _,λi h=>absurd h (by simp),λi j k _ h=>absurd h (by simp)⟩
def Bat.I{aA:List (List Ch)}(h:Bat w base v aA)(hb:Below w.heap.size w w'):Bat w' base v aA:=by
 obtain⟨vs,h1,h2,h3⟩:=h;exact⟨vs,LY h1 hb,λi hi=>LY (h2 i hi) hb,h3⟩
def XK{b1 b2:Nat}{e1 e2:TypeId}{s1 s2:Nat}{v1 v2:Value}{n1 n2:Nat}{x1 x2:List Value}(h1:w.ownsRow b1 e1 s1 v1 n1 x1)(h2:w.ownsRow b2 e2 s2 v2 n2 x2)(he:e1≠e2):v1.ownBlock=none\/v1.ownBlock≠v2.ownBlock:=by
 rcases h1.2 with ⟨rfl,_⟩|⟨g,cap,cur,rfl,_,hg,_⟩
 ·exact .inl rfl
 right
 rcases h2.2 with ⟨rfl,_⟩|⟨g',aB,aC,rfl,_,aA,_⟩
 ·simp[Value.ownBlock]
 simp only[Value.ownBlock,ne_eq,EU]
 intro e;subst e;rw[hg]at aA
 cases aA
 exact he rfl
def Bat.kept{aA:List (List Ch)}{row:Option Nat}(h:Bat w base v aA)(hg:w.grownBy w' row)(hr:∀k,row=some k->base > k\/w.heap.size<=k):Bat w' base v aA:=by
 obtain⟨vs,h1,h2,h3⟩:=h
 have aB:∀ {e:TypeId} {s:Nat} {u:Value} {n:Nat} {xs:List Value},w.ownsRow base e s u n xs->w'.ownsRow base e s u n xs:=λhh=>by
  refine hh.kept hg ?_
  cases hu:(Value.ownBlock _) with
  | none=>exact .inl rfl
  | some k =>
   refine .inr λe=>?_
   have:=hh.lt k hu;rcases hr k e.symm with h|h<;>omega
 exact⟨vs,aB h1,λi hi=>aB (h2 i hi),h3⟩
def Bat.push{v':Value}{aA:List (List Ch)}{cs:List Ch}(h1:w.ownsRow base 56 1 v aA.length vs)(h2:∀i,i<aA.length->w.ownsRow base 127 3 (vs.getD i NP) (aA.getD i []).length (LZ (aA.getD i [])))
  (h3:∀i j k,i<j->j<aA.length->(vs.getD i NP).ownBlock=some k->(vs.getD j NP).ownBlock≠some k)(hx:w.ownsRow base 127 3 x cs.length (LZ cs))(aG:∀i k,i<aA.length->(vs.getD i NP).ownBlock=some k->x.ownBlock≠some k)
  (ho:w1.ownsRow base 56 1 v' (aA.length+1) (vs++[x]))(hg:w.grownBy w1 v.ownBlock):Bat w1 base v' (aA++[cs]):=by
 have aD:vs.length=aA.length:=by have:=h1.1;omega
 have ne:(127:TypeId)≠56:=by decide
 refine⟨vs++[x],by simpa using ho,λi hi=>?_,λi j k aC hj he=>?_⟩
 ·by_cases aB:i<aA.length
  ·have e1:(vs++[x]).getD i NP=vs.getD i NP:=by simp[List.getD,AX (show i<vs.length by omega)]
   have e2:(aA++[cs]).getD i []=aA.getD i []:=by simp[List.getD,AX aB]
   rw[e1,e2];exact(h2 i aB).kept hg (XK (h2 i aB) h1 ne)
  have aE:i=aA.length:=by simp at hi;omega
  subst aE;have e1:(vs++[x]).getD aA.length NP=x:=by rw[<-aD];simp[List.getD]
  have e2:(aA++[cs]).getD aA.length []=cs:=by simp[List.getD]
  rw[e1,e2];exact hx.kept hg (XK hx h1 ne)
 simp only[AF,BY,AR]at hj
 have e1:(vs++[x]).getD i NP=vs.getD i NP:=by simp[List.getD,AX (show i<vs.length by omega)]
 rw[e1]at he
 by_cases aB:j<aA.length
 ·have e2:(vs++[x]).getD j NP=vs.getD j NP:=by simp[List.getD,AX (show j<vs.length by omega)]
  rw[e2];exact h3 i j k aC aB he
 have aF:j=aA.length:=by omega
 subst aF;have e2:(vs++[x]).getD aA.length NP=x:=by rw[<-aD];simp[List.getD]
 rw[e2];exact aG i k aC he
def Bts(w:World)(a:Option Addr)(aA:List (List Ch)):Prop :=aA=[]\/∃g,a=some ⟨g,0,none⟩/\g<w.heap.size/\∀i,i<aA.length->∃p c,w.cell? ⟨g,i,none⟩=some (.slice p (aA.getD i []).length c)/\Chs w p (aA.getD i [])
def Bts.I{a:Option Addr}{aA:List (List Ch)}(h:Bts w a aA)(hb:Below w.heap.size w w'):Bts w' a aA:=by
 rcases h with h|⟨g,h1,h2,h3⟩
 ·exact .inl h
 refine .inr ⟨g,h1,AD h2 hb.size,λi hi=>?_⟩
 obtain⟨p,c,h4,h5⟩:=h3 i hi;exact⟨p,c,(hb.cell (p:=⟨g,i,none⟩) h2).j h4,h5.I hb⟩
def zq{B:Nat}{y:Value}{o:List Ch}(h:w.ownsRow B e 3 y o.length (LZ o)):∃a c,y=.slice a o.length c/\Chs w a o:=by
 rcases MM h with ⟨h1,h2⟩|⟨g,cap,h1,h2,_,h3⟩
 ·have:o=[]:=AC h2
  subst this;exact⟨none,0,h1,.inl rfl⟩
 exact⟨_,cap,h1,h3.chs⟩
def Bat.bts{aA:List (List Ch)}(h:Bat w base v aA):∃a c,v=.slice a aA.length c/\Bts w a aA:=by
 obtain⟨vs,h1,h2,h3⟩:=h;rcases MM h1 with ⟨e1,e2⟩|⟨g,cap,e1,e2,e3,e4⟩
 ·have:aA=[]:=AC e2
  subst this;exact⟨none,0,e1,.inl rfl⟩
 refine⟨_,cap,e1,.inr ⟨g,rfl,e3,λi hi=>?_⟩⟩
 obtain⟨p,c,f1,f2⟩:=zq (h2 i hi);have aB:vs.length=aA.length:=by have:=h1.1;omega
 refine⟨p,c,e4.cell i _ ?_,f2⟩;rw[<-f1];simp[List.getD,AM (show i<vs.length by omega)]
def Bts.at{a:Option Addr}{aA:List (List Ch)}(h:Bts w a aA){k:Nat}(hk:k<aA.length):∃g p c,a=some ⟨g,0,none⟩/\g<w.heap.size/\w.cell? ⟨g,k,none⟩=some (.slice p (aA.getD k []).length c)/\Chs w p (aA.getD k []):=by
 rcases h with h|⟨g,h1,h2,h3⟩
 ·subst h;simp at hk
 obtain⟨p,c,h4,h5⟩:=h3 k hk
 exact⟨g,p,c,h1,h2,h4,h5⟩
def pV:(prog.info? 127).map (λi=>(i.zero,i.size,i.bytes))=some (some (.agg #[.string empty,.string empty,.bool false]),3,40):=by kernel_rfl
def nX:(prog.info? 56).map (λi=>(i.zero,i.size,i.bytes))=some (some (.slice none 0 0),1,24):=by kernel_rfl
def eq{P:Program}{z:Value}{size aA:Nat}(h:(P.info? e).map (λi=>(i.zero,i.size,i.bytes))=some (some z,size,aA)):∃i,P.info? e=some i/\i.zero=some z/\i.size=size/\i.bytes=aA:=by
 obtain⟨i,hi,hh⟩:=EF.1 h;simp only[EA]at hh;exact⟨i,hi,hh⟩
def RL{W:World}{size:Nat}{B:Nat}(hb:Below B W w)(own:w.ownsRow B e size v n xs)(hg:w.grownBy w1 v.ownBlock)(hB:B<=w.heap.size):Below B W w1 :=hb.j ⟨hg.os,hg.tape,hg.output,hg.size,λk hk=>hg.block k (by omega) (λhe=>by have:=(own.lt k he.symm).1;omega)⟩
def ra{b b':Nat}{s:Nat}(h:w.ownsRow b e s v n xs)(hb:b'<=b):w.ownsRow b' e s v n xs:=by
 refine⟨h.1,?_⟩;rcases h.2 with h0|⟨g,cap,cur,h1,h2,h3⟩
 ·exact .inl h0
 exact .inr ⟨g,cap,cur,h1,AL hb h2,h3⟩
def Bat.i{b b':Nat}{aA:List (List Ch)}(h:Bat w b v aA)(hb:b'<=b):Bat w b' v aA:=by
 obtain⟨vs,h1,h2,h3⟩:=h;exact⟨vs,ra h1 hb,λi hi=>ra (h2 i hi) hb,h3⟩
structure Rest(w:World)(base:Nat)(bss:List (List Ch))(vs:List Value)(x:Value):Prop where
 len:vs.length=bss.length
 own:∀i,i<bss.length->w.ownsRow base 127 3 (vs.getD i NP) (bss.getD i []).length (LZ (bss.getD i []))
 apart:∀i j k,i<j->j<bss.length->(vs.getD i NP).ownBlock=some k->(vs.getD j NP).ownBlock≠some k
 last:∀i k,i<bss.length->(vs.getD i NP).ownBlock=some k->x.ownBlock≠some k
def Bat.last{aA:List (List Ch)}{cs:List Ch}(h:Bat w base v (aA++[cs])):∃g cap vs p c,v=.slice (some ⟨g,0,none⟩) (aA.length+1) cap/\w.ownsRow base 56 1 v (aA.length+1) (vs++[.slice p cs.length c])/\w.ownsRow base 127 3 (.slice p cs.length c) cs.length (LZ cs)/\Rest w base aA vs (.slice p cs.length c):=by
 obtain⟨vs,h1,h2,h3⟩:=h;have aB:vs.length=aA.length+1:=by have:=h1.1;simp at this;omega
 obtain⟨us,x,rfl⟩:∃us x,vs=us++[x]:=⟨vs.dropLast,vs.getLast (by intro e;subst e;simp at aB),(JU _).symm⟩;have aC:us.length=aA.length:=by simp at aB;exact aB
 have hx:=h2 aA.length (by simp);have e1:(us++[x]).getD aA.length NP=x:=by rw[<-aC];simp[List.getD]
 have e2:(aA++[cs]).getD aA.length []=cs:=by simp[List.getD]
 rw[e1,e2]at hx
 have f1:∀i,i<aA.length->(us++[x]).getD i NP=us.getD i NP:=λi hi=>by simp[List.getD,AX (show i<us.length by omega)]
 have f2:∀i,i<aA.length->(aA++[cs]).getD i []=aA.getD i []:=λi hi=>by simp[List.getD,AX hi]
 obtain⟨p,c,rfl,_⟩:=zq hx;simp only[AF,BY,AR]at h1
 obtain⟨g,cap,hv⟩:∃g cap,v=.slice (some ⟨g,0,none⟩) (aA.length+1) cap:=by
  rcases MM h1 with ⟨_,h0⟩|⟨g,cap,h0,_⟩
  ·omega
  exact⟨g,cap,h0⟩
 refine⟨g,cap,us,p,c,hv,h1,hx,aC,λi hi=>?_,λi j k aD hj he=>?_,λi k hi he=>?_⟩
 ·have:=h2 i (by simp;omega)
  rwa [f1 i hi,f2 i hi]at this
 ·have:=h3 i j k aD (by simp;omega)
  rw[f1 i (by omega),f1 j hj]at this;exact this he
 have:=h3 i aA.length k hi (by simp)
 rw[f1 i hi,e1]at this;exact this he
def Rest.relast{aA:List (List Ch)}{cs:List Ch}{x':Value}{aG:List Ch}(hr:Rest w base aA vs x)(hb:base<=w.heap.size)
  (ho:w.ownsRow base 56 1 (.slice (some ⟨g,0,none⟩) (aA.length+1) cap) (aA.length+1) (vs++[x]))(hx:w.ownsRow base 127 3 x n0 (LZ aG))
  (hg:w.grownBy w1 x.ownBlock)(aI:w1.ownsRow base 127 3 x' cs.length (LZ cs))(hn:x.ownBlock=x'.ownBlock\/x'.ownBlock=some w.heap.size):Bat (w1.setCell ⟨g,aA.length,none⟩ x') base (.slice (some ⟨g,0,none⟩) (aA.length+1) cap) (aA++[cs]):=by
 have ne:(127:TypeId)≠56:=by decide
 have aD:=hr.len
 have aE:w1.ownsRow base 56 1 (.slice (some ⟨g,0,none⟩) (aA.length+1) cap) (aA.length+1) (vs++[x]):=ho.kept hg (by
  rcases XK ho hx (IZ ne) with h|h
  ·exact .inl h
  ·exact .inr h)
 have aH:w1.grownBy (w1.setCell ⟨g,aA.length,none⟩ x') (some g):=⟨rfl,rfl,rfl,by simp[World.setCell],λk _ hk=>BD _ _ _ k (λe=>hk (by rw[e]))⟩
 have ap:∀ {u:Value} {n:Nat} {xs:List Value},w1.ownsRow base 127 3 u n xs->(w1.setCell ⟨g,aA.length,none⟩ x').ownsRow base 127 3 u n xs:=λh=>h.kept aH (XK h aE ne)
 have aJ:∀i,i<aA.length->w1.ownsRow base 127 3 (vs.getD i NP) (aA.getD i []).length (LZ (aA.getD i [])):=λi hi=>(hr.own i hi).kept hg (by
  cases hk:(vs.getD i NP).ownBlock with
  | none=>exact .inl rfl
  | some k=>exact .inr λe=>hr.last i k hi hk e.symm)
 have f1:∀i,i<aA.length->(vs++[x']).getD i NP=vs.getD i NP:=λi hi=>by simp[List.getD,AX (show i<vs.length by omega)]
 have f2:∀i,i<aA.length->(aA++[cs]).getD i []=aA.getD i []:=λi hi=>by simp[List.getD,AX hi]
 have e1:(vs++[x']).getD aA.length NP=x':=by rw[<-aD];simp[List.getD]
 have e2:(aA++[cs]).getD aA.length []=cs:=by simp[List.getD]
 refine⟨vs++[x'],?_,λi hi=>?_,λi j k aC hj he=>?_⟩
 ·refine⟨by simp[aD],.inr ?_⟩
  rcases aE.2 with ⟨h0,_⟩|⟨g',aF,cur,h1,h2,h3,h4,h5,h6,h7⟩
  ·cases h0
  cases h1
  refine⟨g,cap,cur.set! aA.length x',by simp,h2,?_,by simpa using h4,h5,by simpa using h6,?_⟩
  ·have aB:=(AS.1 h3).1
   have hk:=(AS.1 h3).2;show(w1.heap.modify g _)[g]?=_;rw[Array.getElem?_eq_getElem (by rw[Array.size_modify];exact aB),Array.getElem_modify_self,hk];rfl
  have hz:cur.toList.length=cur.size:=by simp
  have hl:aA.length<cur.toList.length:=by omega
  simp only[IP,AF,BY,AR]at h7⊢;have:(cur.set! aA.length x').toList=cur.toList.set aA.length x':=by simp
  rw[this,BF,List.take_set,h7,BV _ _ (by omega),aD];simp
 ·by_cases aB:i<aA.length
  ·rw[f1 i aB,f2 i aB];exact ap (aJ i aB)
  have:i=aA.length:=by simp at hi;omega
  subst this;rw[e1,e2];exact ap aI
 simp only[AF,BY,AR]at hj
 rw[f1 i (by omega)]at he
 by_cases aB:j<aA.length
 ·rw[f1 j aB];exact hr.apart i j k aC aB he
 have:j=aA.length:=by omega
 subst this;rw[e1];rcases hn with h|h
 ·rw[<-h];exact hr.last i k aC he
 rw[h]
 intro e;have:=(hr.own i aC).lt k he;simp at e;omega
def am(k v:ByteArray)(g:Bool):∀u∈[Value.string k,.string v,.bool g],u.oneCell'=true:=by
 intro u hu;simp only[DK,EN,IY]at hu;rcases hu with rfl|rfl|rfl<;>rfl
def pe(ho:w.ownsRow base e 1 (.slice (some ⟨g,0,none⟩) (m+1) cap) (m+1) (vs++[x]))(hl:vs.length=m):w.cell? ⟨g,m,none⟩=some x/\w.frozen? ⟨g,m,none⟩=false:=by
 have hr:=RW ho;exact⟨hr.cell m x (by rw[<-hl];simp),hr.froz m (by simp;omega)⟩
def XC{o:Obj}(ho:w.ownsRow base 56 1 (.slice (some ⟨g,0,none⟩) (m+1) cap) (m+1) (vs++[x])/\vs.length=m)(hx:w.ownsRow base 127 3 x n0 xs)(hg:(w.alloc o).grownBy w1 x.ownBlock):w1.cell? ⟨g,m,none⟩=some x/\w1.frozen? ⟨g,m,none⟩=false:=by
 have ne:(56:TypeId)≠127:=by decide
 exact pe ((ho.1.alloc o).kept hg (XK ho.1 hx ne)) ho.2
def Rest.alloc{aA:List (List Ch)}(h:Rest w base aA vs x)(o:Obj):Rest (w.alloc o) base aA vs x:=⟨h.len,λi hi=>(h.own i hi).alloc o,h.apart,h.last⟩
def sn(w:World)(A:Obj)(cs:Array Value)(t:TypeId):∀j u,cs.toList[j]?=some u->((w.alloc A).alloc (.cells cs t)).cell? ((⟨w.heap.size+1,0,none⟩:Addr).add j)=some u:=by
 have h:=AY (w.alloc A) (.cells cs t);rw[AU]at h;exact World.news_of_block h
def Hu{o:Obj}(h1:wr.ownsRow base 56 1 v n vs)(hb:base<=wr.heap.size)(hg:((wr.alloc (.cells #[] 127)).alloc o).grownBy w7 v.ownBlock):w7.ownsRow base 127 3 (.slice (some ⟨wr.heap.size,0,none⟩) 0 0) 0 []:=by
 have h0:(wr.alloc (.cells #[] 127)).ownsRow base 127 3 (.slice (some ⟨wr.heap.size,0,none⟩) 0 0) 0 []:=by
  have:=DM wr (base:=base) (e:=127) (size:=3) #[] 0 hb (by simp) (by simp);simpa using this
 exact(h0.alloc o).kept hg (XK (h0.alloc o) ((h1.alloc _).alloc _) (by decide))
def F0{W0:World}{yc:Nat}{ya:Option Addr}(aC:Below base W0 wr)(aD:base<=wr.heap.size)(h1:wr.ownsRow base 56 1 (.slice ya m yc) m vs)(aB:w7.ownsRow base 56 1 (.slice (some ⟨g,0,none⟩) (m+1) cap) (m+1) (vs++[.slice (some ⟨wr.heap.size,0,none⟩) 0 0]))
  (aA:((wr.alloc (.cells #[] 127)).alloc (.cells #[.slice (some ⟨wr.heap.size,0,none⟩) 0 0] 56)).grownBy w7 (Value.slice ya m yc).ownBlock):Below base W0 w7/\(w7.ownsRow base 56 1 (.slice (some ⟨g,0,none⟩) (m+1) cap) (m+1) (vs++[.slice (some ⟨wr.heap.size,0,none⟩) 0 0])/\vs.length=m)/\w7.ownsRow base 127 3 (.slice (some ⟨wr.heap.size,0,none⟩) 0 0) 0 []/\w7.cell? ⟨g,m,none⟩=some (.slice (some ⟨wr.heap.size,0,none⟩) 0 0):=by
 have hl:vs.length=m:=by have:=h1.1;omega
 exact⟨RL ((aC.alloc aD _).alloc (by simp;omega) _) ((h1.alloc _).alloc _) aA (by simp;omega),⟨aB,hl⟩,Hu h1 aD aA,(pe aB hl).1⟩
def nM(o:List Ch)(c:Ch):LZ (o++[c])=LZ o++[.string c.1,.string c.2.1,.bool c.2.2]:=by rw[YI];rfl
def YS{o:Obj}{r:Option Nat}(h:(w.drew.alloc o).grownBy w' r):(w.alloc o).grownBy w' r:=⟨h.os,h.tape,h.output,h.size,h.block⟩
def ib{W0 W w9:World}{g9 aA c:Nat}{p:Option Addr}{aB:List (List Ch)}{cs:List Ch}{s0 s1:ByteArray}{o:Obj}(hb:base<=W.heap.size)(hr:Rest W base aB vs (.slice p n0 c))(hm:m=aB.length)(hn:n0=cs.length)
  (ho:W.ownsRow base 56 1 (.slice (some ⟨g,0,none⟩) (m+1) cap) (m+1) (vs++[.slice p n0 c]))(hx:W.ownsRow base 127 3 (.slice p n0 c) n0 (LZ cs))(hg:(W.alloc o).grownBy w9 (Value.slice p n0 c).ownBlock)
  (aF:w9.ownsRow base 127 3 (.slice (some ⟨g9,0,none⟩) (n0+1) aA) (n0+1) (LZ cs++[.string s0,.string s1,.bool false]))(aD:(Value.slice p n0 c).ownBlock=some g9\/g9=W.heap.size+1)(aC:Below base W0 W):Bat (w9.setCell ⟨g,m,none⟩ (.slice (some ⟨g9,0,none⟩) (n0+1) aA)) base (.slice (some ⟨g,0,none⟩) (m+1) cap) (aB++[cs++[(s0,s1,false)]])/\Below base W0 (w9.setCell ⟨g,m,none⟩ (.slice (some ⟨g9,0,none⟩) (n0+1) aA)):=by
 subst hm hn
 have aG:w9.ownsRow base 127 3 (.slice (some ⟨g9,0,none⟩) (cs.length+1) aA) (cs++[(s0,s1,false)]).length (LZ (cs++[(s0,s1,false)])):=by
  rw[nM,AF];exact aF
 refine⟨(hr.alloc o).relast (by simp;omega) (ho.alloc o) (hx.alloc o) hg aG ?_,?_⟩
 ·rcases aD with h|h
  ·exact .inl h
  right;rw[h];simp[Value.ownBlock]
 have aE:=(ho.lt g rfl).1
 exact(RL (aC.alloc hb o) (hx.alloc o) hg (by simp;omega)).setCell (p:=⟨g,aB.length,none⟩) aE _
def Gl{yc:Nat}{ya:Option Addr}{aA:List (List Ch)}{o:Obj}(h1:wr.ownsRow base 56 1 (.slice ya m yc) m vs)(h2:∀i,i<aA.length->wr.ownsRow base 127 3 (vs.getD i NP) (aA.getD i []).length (LZ (aA.getD i [])))
  (h3:∀i j k,i<j->j<aA.length->(vs.getD i NP).ownBlock=some k->(vs.getD j NP).ownBlock≠some k)(hb:base<=wr.heap.size)(hm:m=aA.length)(hg:((wr.alloc (.cells #[] 127)).alloc o).grownBy w7 (Value.slice ya m yc).ownBlock):Rest w7 base aA vs (.slice (some ⟨wr.heap.size,0,none⟩) 0 0):=by
 refine⟨by have:=h1.1;omega,λi hi=>(((h2 i hi).alloc _).alloc _).kept hg (XK (h2 i hi) h1 (by decide)),h3,λi k hi he=>?_⟩;have:=(h2 i hi).lt k he;simp only[Value.ownBlock,ne_eq,EU];omega
def ou(rs:List Pr)(i:Nat)(hi:i<=100):(RE rs i).length<=5:=by rw[Eq];omega
def yu(a:Option Addr)(rs:List Pr)(c:Nat)(w:World)(h:Prs w a rs)(hl:rs.length<=1048576)(hs:∀x∈rs,x.1.size<=1048576/\x.2.size<=1048576):Calls prog 146 #[.agg #[.slice a rs.length c]] w λe w'=>∃v,e=.returned v/\Bat w' (w.heap.size+1) v (MN rs)/\Below w.heap.size w w':=by
 obtain⟨i0,cP,cW,cX,cY⟩:=eq pV;have HI:=LE (AG cP (AG cW (AG cX cY)));obtain⟨i1,cQ,cT,cU,cV⟩:=eq nX;have HJ:=LE (AG cQ (AG cT (AG cU cV)));clear cP cW cX cY cQ cT cU cV;unfold MN;have cB:Below w.heap.size w ((w.alloc (.cells #[.slice a rs.length c] 48)).alloc (.cells #[] 56)):=(LG _ _).alloc (by simp) _;have hv:=it a rs c ((w.alloc (.cells #[.slice a rs.length c] 48)).alloc (.cells #[] 56)) (h.I cB) hl hs
 have aP:Bat ((w.alloc (.cells #[.slice a rs.length c] 48)).alloc (.cells #[] 56)) (w.heap.size+1) (.slice (some ⟨w.heap.size+1,0,none⟩) 0 0) []:=by
  refine⟨[],?_,λi h=>absurd h (by simp),λi j k _ h=>absurd h (by simp)⟩;have:=DM (w.alloc (.cells #[.slice a rs.length c] 48)) (base:=w.heap.size+1) (e:=56) (size:=1) #[] 0 (by simp) (by simp) (by simp);simpa using this
 have HV:=LE hv;have cL:=LE cB;have HE:=LE aP;clear hv cB aP
 cases hok:MA rs
 focus
  rw[hok]at HV;simp only[EJ,IX]
 rotate_left
 focus
  rw[hok]at HV;simp only[IK];have dQ:rs.length<=100:=(XH hok).1
 rotate_left
 all_goals
  go_enter func146,ntmps146;go_wp2_with (go_at_call 62;refine HV.o.i ?_;rintro e w2 ⟨rfl,bJ⟩)
 ·go_ret
  exact⟨_,rfl,HE.o.I bJ,cL.o.j (bJ.i cL.o.size)⟩
 have dN:=bJ.size
 simp only[AU]at dN;go_loopw [3,4] (λy i wr=>∃k:Nat,k<=rs.length/\i=.int .i64 k/\Bat wr (w.heap.size+1) y (RE rs k)/\Below (w.heap.size+1) (w.alloc (.cells #[.slice a rs.length c] 48)) wr) (λ_ i _=>rs.length-(intOf i).toNat)
 case atStart =>
  exact⟨0,AH _,rfl,HE.o.I bJ,((AB _ _).alloc (by simp) _).j (bJ.i (by simp))⟩
 case round =>
  obtain⟨k,hk,rfl,aW,aK⟩:=hrel;have q0:wr.cell? ⟨w.heap.size,0,none⟩=some (.slice a rs.length c):=(aK.cell (p:=⟨w.heap.size,0,none⟩) (by show w.heap.size<_;omega)).j (by go_simp);have bQ:w.heap.size+1<=wr.heap.size:=by have:=aK.size;simpa using this
  by_cases bV:k<rs.length
  ·obtain⟨b,o,s0,s1,rfl,bT,bU,HS⟩:=(h.I ((LG _ _).j (aK.i (by omega)))).at bV
   have aQ:b<w.heap.size:=by
    rcases h with h|⟨b',o',h1,h2,_⟩
    ·subst h;simp at bV
    cases h1;exact h2
   have dH:(k:Int)<(rs.length:Int):=by omega
   have HB:=LE aK;have aZ:=LE aW;clear aK aW
   by_cases hr:k % 20=0
   focus
    have dM:(k:Int) % 20=0:=by omega
    have b7:=LE (vD rs k bV hr (empty,empty));have bE:=ou rs k (by omega);obtain⟨aV,bP⟩:∃aV,aV=RE rs k:=⟨_,rfl⟩;rw[<-bP]at aZ bE b7;clear bP;obtain⟨vs,h1,h2,h3⟩:=aZ.o
    obtain⟨ya,yc,rfl⟩:∃ya yc,u3=Value.slice ya aV.length yc:=by
     rcases MM h1 with ⟨e1,e2⟩|⟨g,cap,e1,_⟩
     ·exact⟨none,0,by rw[e1,e2]⟩
     exact⟨_,cap,e1⟩
    obtain⟨m,hm⟩:∃m,m=aV.length:=⟨_,rfl⟩;rw[<-hm]at h1 bE⊢;have HM:=LE hm;have H1:=LE h1;have H2:=LE h2;have H3:=LE h3;clear aZ h1 h2 h3 hm;go_wp2_with (at_builtin;refine PU _ rfl _ _ 200 rfl (w.heap.size+1) underlying200 HJ.o rfl (by omega) _ m _ rfl ((H1.o.alloc _).alloc _) ⟨wr.heap.size+1,0,none⟩ 1 1 [.slice (some ⟨wr.heap.size,0,none⟩) 0 0] rfl rfl (sn wr _ _ _) (by intro u hu;simp at hu;subst hu;rfl) (by simp;omega) (wr.heap.size+1+1) (by simp) ?_;intro g cap w7 aS aI cA cC;obtain⟨bC,cM,cN,q7⟩:=F0 HB.o bQ H1.o aS aI;have bF:=LE bC;have HO:=LE cM;have HX:=LE cN;have aM:w.heap.size+1<=w7.heap.size:=AL (by simp) bC.size;have cH:=(bC.cell (p:=⟨w.heap.size,0,none⟩) (JO _)).j ((HB.o.cell (p:=⟨w.heap.size,0,none⟩) (JO _)).symm.j q0);have cI:=(bC.cell (p:=⟨b,o+k*2,none⟩) (ET aQ)).j ((HB.o.cell (p:=⟨b,o+k*2,none⟩) (ET aQ)).symm.j bT);have cJ:=(bC.cell (p:=⟨b,o+k*2+1,none⟩) (ET aQ)).j ((HB.o.cell (p:=⟨b,o+k*2+1,none⟩) (ET aQ)).symm.j bU);have dP:b<w7.heap.size:=AD (ET aQ) aM;have cZ:=LE aI;clear aS aI cA bC cM cN bT bU q0)
    have dL:(m:Int)<(m:Int)+1:=by omega
    have cE:(0:Int)<=(m:Int):=by omega
    have bI:=LE (HX.o.alloc (.cells #[.string s0,.string s1,.bool false] 127));have HR:Hid (Rest w7 (w.heap.size+1) aV vs (.slice (some ⟨wr.heap.size,0,none⟩) 0 0)):=LE (Gl H1.o H2.o H3.o bQ HM.o cZ.o)
    have hS:∀w',Below (w.heap.size+1) w7 w'->w'.cell? ⟨w.heap.size,0,none⟩=some (.slice (some ⟨b,o,none⟩) rs.length c)/\w'.cell? ⟨b,o+k*2,none⟩=some (.string s0)/\w'.cell? ⟨b,o+k*2+1,none⟩=some (.string s1):=λw' aY=>⟨(aY.cell (p:=⟨w.heap.size,0,none⟩) (JO _)).j cH,(aY.cell (p:=⟨b,o+k*2,none⟩) (ET aQ)).j cI,(aY.cell (p:=⟨b,o+k*2+1,none⟩) (ET aQ)).j cJ⟩
    have aJ:=LE hS;clear hS;refine AP (S:=λw'=>w'.cell? ⟨w.heap.size,0,none⟩=some (.slice (some ⟨b,o,none⟩) rs.length c)/\w'.cell? ⟨b,o+k*2,none⟩=some (.string s0)/\w'.cell? ⟨b,o+k*2+1,none⟩=some (.string s1)) (by kernel_rfl) (aJ.o _ (AB _ _).drew) (λaA=>?_);refine TY 0 (.slice (some ⟨g,0,none⟩) (m+1) cap) rfl aA (TY 1 (.int .i64 (m:Int)) rfl aA (TY 2 (.slice (some ⟨g,0,none⟩) (m+1) cap) rfl aA (TY 3 (.int .i64 (m:Int)) rfl aA (TY 4 (.pointer (some ⟨g,m,none⟩)) rfl aA (TY 6 (.pointer (some ⟨w.heap.size,0,none⟩)) rfl aA (TY 7 (.slice (some ⟨b,o,none⟩) rs.length c) rfl aA (TY 8 (.int .i64 (k:Int)) rfl aA (TY 9 (.pointer (some ⟨b,o+k*2,none⟩)) rfl aA (TY 10 (.pointer (some ⟨b,o+k*2,none⟩)) rfl aA (TY 11 (.string s0) rfl aA (TY 12 (.pointer (some ⟨w.heap.size,0,none⟩)) rfl aA ?_)))))))))));simp only[PS];refine TY 13 (.slice (some ⟨b,o,none⟩) rs.length c) rfl aA (TY 14 (.int .i64 (k:Int)) rfl aA (TY 15 (.pointer (some ⟨b,o+k*2,none⟩)) rfl aA (TY 16 (.pointer (some ⟨b,o+k*2+1,none⟩)) rfl aA (TY 17 (.string s1) rfl aA (TY 18 (.agg #[.string s0,.string s1,.bool false]) rfl aA ?_)))))
    simp only[PS];refine EZ (rs:=[5,19]) (by kernel_rfl) (by simp) ?_;have aH:=aJ.o (w7.drew.alloc (.cells #[.string s0,.string s1,.bool false] 127)) ((AB _ _).drew.alloc aM _);refine CY rfl (λK hK=>?_) (CY rfl (λK hK=>?_) EX)
    focus
     go_simp;refine hK.o _ _ aA (λ_=>?_);clear hK K;refine RD 19 rfl (λK hK=>?_);go_simp;refine hK.o _ _ aH (λ_=>?_);clear hK K;refine RD 20 rfl (λK hK=>?_);refine QO _ (by rfl) _ _ _ (by rfl) (w.heap.size+1) underlying56 HI.o rfl (by omega) (.slice (some ⟨wr.heap.size,0,none⟩) 0 0) 0 _ (by rfl) bI.o ⟨w7.heap.size,0,none⟩ 1 1 [.string s0,.string s1,.bool false] (by rfl) rfl (World.news_of_block (AY w7 _)) (am _ _ _) (by simp<;>omega) (w7.heap.size+1) (by simp) ?_;intro g9 aG w9 aC aB aE aX;have aU:=LE aC;have aD:=LE (YS aB);have aT:=LE aE;have aF:=ib aM HR.o HM.o (cs:=[]) rfl HO.o.1 HX.o aD.o aU.o aT.o bF.o;have aN:=LE aF;have q9:=(XC HO.o HX.o aD.o).1;have r9:=(XC HO.o HX.o aD.o).2;have aL:Below (w.heap.size+1) w7 w9:=RL ((AB _ _).alloc aM _) (HX.o.alloc _) aD.o (by simp;omega);have aO:=aJ.o _ aL;have aR:=aJ.o _ (aL.setCell (p:=⟨g,m,none⟩) (HO.o.1.lt g rfl).1 (.slice (some ⟨g9,0,none⟩) (0+1) aG))
    rotate_left
    focus
     go_simp;refine hK.o _ _ aH (λ_=>?_);clear hK K;refine RD 5 rfl (λK hK=>?_);go_simp;refine hK.o _ _ aH (λ_=>?_);clear hK K;refine RD 20 rfl (λK hK=>?_);refine QO _ (by rfl) _ _ _ (by rfl) (w.heap.size+1) underlying56 HI.o rfl (by omega) (.slice (some ⟨wr.heap.size,0,none⟩) 0 0) 0 _ (by rfl) bI.o ⟨w7.heap.size,0,none⟩ 1 1 [.string s0,.string s1,.bool false] (by rfl) rfl (World.news_of_block (AY w7 _)) (am _ _ _) (by simp<;>omega) (w7.heap.size+1) (by simp) ?_;intro g9 aG w9 aC aB aE aX;have aU:=LE aC;have aD:=LE (YS aB);have aT:=LE aE;have aF:=ib aM HR.o HM.o (cs:=[]) rfl HO.o.1 HX.o aD.o aU.o aT.o bF.o;have aN:=LE aF;have q9:=(XC HO.o HX.o aD.o).1;have r9:=(XC HO.o HX.o aD.o).2;have aL:Below (w.heap.size+1) w7 w9:=RL ((AB _ _).alloc aM _) (HX.o.alloc _) aD.o (by simp;omega);have aO:=aJ.o _ aL;have aR:=aJ.o _ (aL.setCell (p:=⟨g,m,none⟩) (HO.o.1.lt g rfl).1 (.slice (some ⟨g9,0,none⟩) (0+1) aG))
    rotate_left
   rotate_left 2
   focus
    have dM:decide ((k:Int) % 20=0)=false:=by simp;omega
    obtain⟨aV,cs,cO,cS,dB⟩:=Bq rs k bV hr (empty,empty);have b7:=LE cS;have bE:=ou rs k (by omega);rw[cO]at aZ bE;obtain⟨g,cap,vs,p,c9,rfl,hO,hX,hR⟩:=aZ.o.last;obtain⟨m,hm⟩:∃m,m=aV.length:=⟨_,rfl⟩;obtain⟨n0,bW⟩:∃n0,n0=cs.length:=⟨_,rfl⟩;have dR:m<=5:=by simp at bE;omega
    have cF:vs.length=m:=by rw[hR.len,hm]
    rw[<-hm,<-bW]at hO;rw[<-bW]at hX hR dB;rw[<-hm];have HM:=LE hm;have HN:=LE bW;have HO:=LE (AG hO cF);have HX:=LE hX;have HR:=LE hR;have cC:g<wr.heap.size:=(hO.lt g rfl).2;have q7:=(pe hO cF).1;clear cO cS bE hO hX hR hm bW aZ cF;have dL:(m:Int)<(m:Int)+1:=by omega
    have cE:(0:Int)<=(m:Int):=by omega
    have bI:=LE (HX.o.alloc (.cells #[.string s0,.string s1,.bool false] 127));have dP:b<wr.heap.size:=AD (ET aQ) bQ;have cH:=q0;have cI:=bT;have cJ:=bU;have aM:=bQ;have bF:=HB;clear q0 bT bU bQ HB;go_wp2_with fail
    have hS:∀w',Below (w.heap.size+1) wr w'->w'.cell? ⟨w.heap.size,0,none⟩=some (.slice (some ⟨b,o,none⟩) rs.length c)/\w'.cell? ⟨b,o+k*2,none⟩=some (.string s0)/\w'.cell? ⟨b,o+k*2+1,none⟩=some (.string s1):=λw' aY=>⟨(aY.cell (p:=⟨w.heap.size,0,none⟩) (JO _)).j cH,(aY.cell (p:=⟨b,o+k*2,none⟩) (ET aQ)).j cI,(aY.cell (p:=⟨b,o+k*2+1,none⟩) (ET aQ)).j cJ⟩
    have aJ:=LE hS;clear hS;refine AP (S:=λw'=>w'.cell? ⟨w.heap.size,0,none⟩=some (.slice (some ⟨b,o,none⟩) rs.length c)/\w'.cell? ⟨b,o+k*2,none⟩=some (.string s0)/\w'.cell? ⟨b,o+k*2+1,none⟩=some (.string s1)) (by kernel_rfl) (aJ.o _ (AB _ _).drew) (λaA=>?_);refine TY 0 (.slice (some ⟨g,0,none⟩) (m+1) cap) rfl aA (TY 1 (.int .i64 (m:Int)) rfl aA (TY 2 (.slice (some ⟨g,0,none⟩) (m+1) cap) rfl aA (TY 3 (.int .i64 (m:Int)) rfl aA (TY 4 (.pointer (some ⟨g,m,none⟩)) rfl aA (TY 6 (.pointer (some ⟨w.heap.size,0,none⟩)) rfl aA (TY 7 (.slice (some ⟨b,o,none⟩) rs.length c) rfl aA (TY 8 (.int .i64 (k:Int)) rfl aA (TY 9 (.pointer (some ⟨b,o+k*2,none⟩)) rfl aA (TY 10 (.pointer (some ⟨b,o+k*2,none⟩)) rfl aA (TY 11 (.string s0) rfl aA (TY 12 (.pointer (some ⟨w.heap.size,0,none⟩)) rfl aA ?_)))))))))));simp only[PS];refine TY 13 (.slice (some ⟨b,o,none⟩) rs.length c) rfl aA (TY 14 (.int .i64 (k:Int)) rfl aA (TY 15 (.pointer (some ⟨b,o+k*2,none⟩)) rfl aA (TY 16 (.pointer (some ⟨b,o+k*2+1,none⟩)) rfl aA (TY 17 (.string s1) rfl aA (TY 18 (.agg #[.string s0,.string s1,.bool false]) rfl aA ?_)))))
    simp only[PS];refine EZ (rs:=[5,19]) (by kernel_rfl) (by simp) ?_;have aH:=aJ.o (wr.drew.alloc (.cells #[.string s0,.string s1,.bool false] 127)) ((AB _ _).drew.alloc aM _);refine CY rfl (λK hK=>?_) (CY rfl (λK hK=>?_) EX)
    focus
     go_simp;refine hK.o _ _ aA (λ_=>?_);clear hK K;refine RD 19 rfl (λK hK=>?_);go_simp;refine hK.o _ _ aH (λ_=>?_);clear hK K;refine RD 20 rfl (λK hK=>?_);refine QO _ (by rfl) _ _ _ (by rfl) (w.heap.size+1) underlying56 HI.o rfl (by omega) (.slice p n0 c9) n0 _ (by rfl) bI.o ⟨wr.heap.size,0,none⟩ 1 1 [.string s0,.string s1,.bool false] (by rfl) rfl (World.news_of_block (AY wr _)) (am _ _ _) (by simp<;>omega) (wr.heap.size+1) (by simp) ?_;intro g9 aG w9 aC aB aE aX;have aU:=LE aC;have aD:=LE (YS aB);have aT:=LE aE;have aF:=ib aM HR.o HM.o HN.o HO.o.1 HX.o aD.o aU.o aT.o bF.o;have aN:=LE aF;have q9:=(XC HO.o HX.o aD.o).1;have r9:=(XC HO.o HX.o aD.o).2;have aL:Below (w.heap.size+1) wr w9:=RL ((AB _ _).alloc aM _) (HX.o.alloc _) aD.o (by simp;omega);have aO:=aJ.o _ aL;have aR:=aJ.o _ (aL.setCell (p:=⟨g,m,none⟩) (HO.o.1.lt g rfl).1 (.slice (some ⟨g9,0,none⟩) (n0+1) aG))
    rotate_left
    focus
     go_simp;refine hK.o _ _ aH (λ_=>?_);clear hK K;refine RD 5 rfl (λK hK=>?_);go_simp;refine hK.o _ _ aH (λ_=>?_);clear hK K;refine RD 20 rfl (λK hK=>?_);refine QO _ (by rfl) _ _ _ (by rfl) (w.heap.size+1) underlying56 HI.o rfl (by omega) (.slice p n0 c9) n0 _ (by rfl) bI.o ⟨wr.heap.size,0,none⟩ 1 1 [.string s0,.string s1,.bool false] (by rfl) rfl (World.news_of_block (AY wr _)) (am _ _ _) (by simp<;>omega) (wr.heap.size+1) (by simp) ?_;intro g9 aG w9 aC aB aE aX;have aU:=LE aC;have aD:=LE (YS aB);have aT:=LE aE;have aF:=ib aM HR.o HM.o HN.o HO.o.1 HX.o aD.o aU.o aT.o bF.o;have aN:=LE aF;have q9:=(XC HO.o HX.o aD.o).1;have r9:=(XC HO.o HX.o aD.o).2;have aL:Below (w.heap.size+1) wr w9:=RL ((AB _ _).alloc aM _) (HX.o.alloc _) aD.o (by simp;omega);have aO:=aJ.o _ aL;have aR:=aJ.o _ (aL.setCell (p:=⟨g,m,none⟩) (HO.o.1.lt g rfl).1 (.slice (some ⟨g9,0,none⟩) (n0+1) aG))
    rotate_left
   rotate_left 2
   all_goals
    clear aC aB aE aF aL;refine hK.o _ _ aO (λ_=>?_);clear hK K;simp only[PS];refine TY 21 (.pointer (some ⟨g,m,none⟩)) rfl aO ?_;simp only[PS];refine RD 22 rfl (λK hK=>?_);go_simp;refine hK.o _ _ aR (λ_=>?_);clear hK K;refine DN ?_;go_wp2;refine⟨⟨k+1,by omega,by go_num,?_,aN.o.2⟩,by simp[intOf];omega⟩;rw[b7.o];have e2:(s0,s1,false)=VL (rs.getD k (empty,empty)):=by rw[<-HS.o];rfl
    rw[<-e2];exact aN.o.1
  have dF:k=rs.length:=by omega
  subst dF;go_wp2;go_ret;exact⟨_,rfl,aW,(LG _ _).j (aK.i (by omega))⟩
end
section
open Tryz
open Go.RowKit Go.Shelf
attribute [local go_sem] Oper.semAt_some
def YC(b off aA k:Nat):Value:=.slice (some ⟨b,off+k*20*2,none⟩) (min 20 (aA-k*20)) (min 20 (aA-k*20))
def oS(w:World)(q:Nat):w.grownBy (w.drewN q) none:=⟨rfl,rfl,rfl,AA _,λ_ _ _=>rfl⟩
def As(F:Fence)(n:Nat)(hf:F.fn 235)(aP:F.round=none)(hn:1<=n)(l Bs Bn b off aA cap:Nat)(aO:aA<=100)(aM:aA<=cap)(Kp:World->World->Prop)(hK:∀A B,Kp A B->B.cell? ⟨Bs,0,none⟩=A.cell? ⟨Bs,0,none⟩/\B.cell? ⟨Bn,0,none⟩=A.cell? ⟨Bn,0,none⟩)(J Jx:List Nat->World->Prop)
  (hY:∀pre x W,J pre W->pre.length<(aA+19) / 20->YieldAt F (n-1) prog l #[YC b off aA x] W λe W' =>
   (e=.returned (.bool true)/\J (pre++[x]) W'/\Kp W W')\/(e=.returned (.bool false)/\Jx (pre++[x]) W'))
  (W:World)(aK:W.cell? ⟨Bs,0,none⟩=some (.slice (some ⟨b,off,none⟩) aA cap))(aJ:W.cell? ⟨Bn,0,none⟩=some (.int .i64 20))(h0:J [] W)(hJ:∀s A B,J s A->A.grownBy B none->J s B):CallsIn F n prog 235 #[.func (.yield l) #[] #[],.pointer (some ⟨Bs,0,none⟩),.pointer (some ⟨Bn,0,none⟩)] W λe W'=>(∃v,e=.returned v) /\
   ((∃ys,ys=List.range ((aA+19) / 20)/\J ys W')\/(∃pre,True/\Jx pre W')):=by
 refine JR func235 rfl hf ?_ aP;simp only[ntmps235,FX,BY,AR,Nat.reduceAdd,Nat.reduceSub,FI,FJ,FW,EO,DU,ED]
 gi_wp2
 gi_loopw [4] (λi wr=>∃k q:Nat,q=k*20/\k<=(aA+19) / 20/\i=.int .i64 (q:Int)/\J (List.range k) wr/\wr.cell? ⟨Bs,0,none⟩=some (.slice (some ⟨b,off,none⟩) aA cap)/\wr.cell? ⟨Bn,0,none⟩=some (.int .i64 20)) (λi _=>aA+20-(intOf i).toNat)
 case atStart=>exact⟨0,0,rfl,AH _,rfl,h0,aK,aJ⟩
 case round =>
  obtain⟨k,q,hq,hk,rfl,aG,aI,aH⟩:=hrel;have HQ:=LE hq;clear hq;have aS:prog.follows .mixedOrders=true:=by kernel_rfl
  by_cases aR:q<aA
  ·have aT:(0:Int)<=(q:Int):=by omega
   have aU:(q:Int)<=(aA:Int):=by omega
   have aV:(q:Int)<(aA:Int):=by omega
   have aW:(aA:Int)<=(cap:Int):=by omega
   by_cases hc:20<=aA-q
   ·have HC:Hid (min 20 (aA-q)=20):=by show _=_;omega
    have aL:(q:Int)+20<=(aA:Int):=by omega
    have aQ:(q:Int)+20<=(cap:Int):=by omega
    gi_wp2
    gi_big_quiet_th_v (fail)
    obtain⟨fn,tmps,aB,aF,hy,hR⟩:=hY _ k (wr.drewN nq) (hJ _ _ _ aG (oS wr nq)) (by have:=HQ.o;rw[KL];omega);have aD:(wr.drewN nq).cell? ⟨Bs,0,none⟩=some (.slice (some ⟨b,off,none⟩) aA cap):=aI;unfold YC at hy;rw[<-HQ.o,HC.o]at hy
    gi_wp2
    refine hR.i ?_;rintro e W3 (⟨rfl,hJ3,hk3⟩|⟨rfl,hJx3⟩)
    ·have aC:=(hK _ _ hk3).2.j (show(wr.drewN nq).cell? ⟨Bn,0,none⟩=some (.int .i64 20) from aH)
     have aE:=(hK _ _ hk3).1.j aD
     gi_wp2
     go_roundw
     case rel=>exact⟨k+1,q+20,by have:=HQ.o;omega,by have:=HQ.o;omega,by simp,by rw[DR];exact hJ3,aE,aC⟩
     case measure=>simp[intOf];omega
    gi_wp2
    refine AJ (KA rfl _ _ _) rfl ?_;exact⟨⟨_,rfl⟩,.inr ⟨_,trivial,hJx3⟩⟩
   have HC:Hid (min 20 (aA-q)=aA-q):=by show _=_;omega
   have aL:(q:Int)+((aA-q:Nat):Int)=(aA:Int):=by omega
   gi_wp2
   gi_big_quiet_th_v (fail)
   obtain⟨fn,tmps,aB,aF,hy,hR⟩:=hY _ k (wr.drewN nq) (hJ _ _ _ aG (oS wr nq)) (by have:=HQ.o;rw[KL];omega);have aD:(wr.drewN nq).cell? ⟨Bs,0,none⟩=some (.slice (some ⟨b,off,none⟩) aA cap):=aI;unfold YC at hy;rw[<-HQ.o,HC.o]at hy
   gi_wp2
   refine hR.i ?_;rintro e W3 (⟨rfl,hJ3,hk3⟩|⟨rfl,hJx3⟩)
   ·have aC:=(hK _ _ hk3).2.j (show(wr.drewN nq).cell? ⟨Bn,0,none⟩=some (.int .i64 20) from aH)
    have aE:=(hK _ _ hk3).1.j aD
    gi_wp2
    go_roundw
    case rel=>exact⟨k+1,q+20,by have:=HQ.o;omega,by have:=HQ.o;omega,by simp,by rw[DR];exact hJ3,aE,aC⟩
    case measure=>simp[intOf];omega
   gi_wp2
   refine AJ (KA rfl _ _ _) rfl ?_;exact⟨⟨_,rfl⟩,.inr ⟨_,trivial,hJx3⟩⟩
  have aN:k=(aA+19) / 20:=by have:=HQ.o;omega
  gi_wp2
  go_end0;exact⟨⟨_,rfl⟩,.inl ⟨_,by rw[aN],aG⟩⟩
def Dt(F:Fence)(n:Nat)(hf:F.fn 235)(aA:F.round=none)(l Bs Bn c:Nat)(a:Option Addr)(J:List Nat->World->Prop)(W:World)(aB:W.cell? ⟨Bs,0,none⟩=some (.slice a 0 c))(h0:J [] W):CallsIn F n prog 235 #[.func (.yield l) #[] #[],.pointer (some ⟨Bs,0,none⟩),.pointer (some ⟨Bn,0,none⟩)] W λe W'=>(∃v,e=.returned v)/\J [] W':=by
 refine JR func235 rfl hf ?_ aA;simp only[ntmps235,FX,BY,AR,Nat.reduceAdd,Nat.reduceSub,FI,FJ,FW,EO,DU,ED]
 gi_wp2
 gi_loopw [4] (λi wr=>i=.int .i64 0/\wr=W) (λ_ _=>0)
 case atStart=>exact⟨rfl,rfl⟩
 case round =>
  obtain⟨rfl,rfl⟩:=hrel
  gi_wp2
  go_end0;exact⟨⟨_,rfl⟩,h0⟩
def vM(F:Fence)(n:Nat)(hf:F.fn 215)(aB:F.round=none)(a:Option Addr)(aA cap:Nat)(w:World):CallsIn F n prog 215 #[.slice a aA cap,.int .i64 20] w λe w'=>e=.returned (.func (.func 235) #[] #[.pointer (some ⟨w.heap.size,0,none⟩),.pointer (some ⟨w.heap.size+1,0,none⟩)])/\w'=(w.alloc (.cells #[.slice a aA cap] 46)).alloc (.cells #[.int .i64 20] 3):=by
 refine JR func215 rfl hf ?_ aB;simp only[ntmps215,FX,BY,AR,Nat.reduceAdd,Nat.reduceSub,FI,FJ,FW,EO,DU,ED]
 gi_wp2
 go_ret;exact⟨rfl,rfl⟩
def Cg(F:Fence)(n:Nat)(hf:F.fn 235)(aD:F.round=none)(hn:1<=n)(Bs Bn b off aA cap:Nat)(a:Option Addr)(aC:aA<=100)(aB:aA<=cap)(w:World)(aF:Bs<w.heap.size)(aE:Bn<w.heap.size)(Kp:World->World->Prop)(hK:∀A B,Kp A B->B.cell? ⟨Bs,0,none⟩=A.cell? ⟨Bs,0,none⟩/\B.cell? ⟨Bn,0,none⟩=A.cell? ⟨Bn,0,none⟩)
  (hs:w.cell? ⟨Bs,0,none⟩=some (.slice a aA cap))(hc:w.cell? ⟨Bn,0,none⟩=some (.int .i64 20))(ha:aA=0\/a=some ⟨b,off,none⟩):SeqStopsK F n prog 235 #[.pointer (some ⟨Bs,0,none⟩),.pointer (some ⟨Bn,0,none⟩)] (λx:Nat=>#[YC b off aA x]) Kp (λys=>ys=List.range ((aA+19) / 20)) (λ_=>True) ((aA+19) / 20) w:=λl J Jx W hW hJ aG hY h0=>by
 have hs':=(hW.cell (p:=⟨Bs,0,none⟩) aF).j hs;have hc':=(hW.cell (p:=⟨Bn,0,none⟩) aE).j hc;rcases ha with rfl|rfl
 ·exact(Dt F n hf aD l Bs Bn cap a J W hs' h0).i λe W' ⟨he,hj⟩=>⟨he,.inl ⟨_,rfl,hj⟩⟩
 exact As F n hf aD hn l Bs Bn b off aA cap aC aB Kp hK J Jx hY W hs' hc' h0 (λs A B hs hg=>hJ s A B none hs hg (λr e=>(by cases e)))
end
section
open Tryz
open Go.RowKit Go.Shelf
variable {B Bn Bs n₀:Nat}{v:Value}{W w:World}
def KpC(n₀ Bs Bn:Nat)(A B:World):Prop:=Below n₀ A B/\B.cell? ⟨Bs,0,none⟩=A.cell? ⟨Bs,0,none⟩/\B.cell? ⟨Bn,0,none⟩=A.cell? ⟨Bn,0,none⟩
def KpC.t{A B C:World}(h:KpC n₀ Bs Bn A B)(k:KpC n₀ Bs Bn B C):KpC n₀ Bs Bn A C:=⟨h.1.j k.1,k.2.1.j h.2.1,k.2.2.j h.2.2⟩
def KpC.b(hn:n₀<=w.heap.size)(h1:Bs<w.heap.size)(h2:Bn<w.heap.size)(W:World)(l:Nat)(o o':Obj)(hl:w.heap.size<=l)(h:W.heap[l]?=some o)(hc:o.isCells=false)(hw:o.isWalk=false):KpC n₀ Bs Bn W (W.putObj l o') :=⟨belowK_b hn W l o o' hl h hc hw,CW (World.putObj_heap_other (by show Bs≠l;omega)),CW (World.putObj_heap_other (by show Bn≠l;omega))⟩
def Bat.boxed{base:Nat}{u z:Value}{aA:List (List Ch)}(h:Bat w base v aA)(hb:Boxed w B 200 u):Bat (w.setCell ⟨B,0,none⟩ z) base v aA:=by
 obtain⟨vs,h1,h2,h3⟩:=h;refine⟨vs,h1.kept (grownBy_setCell' w B z) (.inr λe=>hb.not_row (by decide) h1 e.symm),λi hi=>(h2 i hi).kept (grownBy_setCell' w B z) (.inr λe=>hb.not_row (by decide) (h2 i hi) e.symm),h3⟩
def uj{X Y:World}{row:Option Nat}{base:Nat}{e:TypeId}{s:Nat}{n:Nat}{xs:List Value}(h:X.ownsRow base e s v n xs)(hg:X.grownBy Y row)(hr:∀r,row=some r->∃o:Obj,X.heap[r]?=some o/\o.isCells=false):Y.ownsRow base e s v n xs:=by
 refine h.kept hg ?_;rcases h.2 with ⟨rfl,_⟩|⟨g,cap,cur,rfl,_,aA,_⟩
 ·exact .inl rfl
 refine .inr λe'=>?_
 obtain⟨o,ho,hc⟩:=hr g (by simpa[Value.ownBlock] using e'.symm)
 rw[aA]at ho;cases ho;cases hc
def rh{X Y:World}{row:Option Nat}{t:TypeId}(h:Boxed X B t v)(hg:X.grownBy Y row)(hr:∀r,row=some r->∃o:Obj,X.heap[r]?=some o/\o.isCells=false):Boxed Y B t v:=by
 refine h.kept hg λe=>?_
 obtain⟨o,ho,hc⟩:=hr B e.symm
 rw[show X.heap[B]?=_ from h]at ho;cases ho;cases hc
def InSn(n₀ B Bs Bn:Nat)(sv:Value)(aA:List (List Ch))(W:World):Prop:=∃v,Boxed W B 200 v/\Bat W n₀ v aA/\Boxed W Bs 46 sv/\Boxed W Bn 3 (.int .i64 20)
def InSn.own(n₀ B Bs Bn:Nat)(sv:Value)(f:List Nat->List (List Ch)):Own (λpre W=>InSn n₀ B Bs Bn sv (f pre) W):=by
 rintro s X Y row ⟨v,hv,⟨vs,h1,h2,h3⟩,h4,h5⟩ hg hr;exact⟨v,rh hv hg hr,⟨vs,uj h1 hg hr,λi hi=>uj (h2 i hi) hg hr,h3⟩,rh h4 hg hr,rh h5 hg hr⟩
def sS{W':World}(h:Below W.heap.size W W'):KeepsOthers W W':=⟨h.size,λk o hk _=>(h.block k (AS.1 hk).1).j hk⟩
def InSn.push{wr w1:World}{sv v' y:Value}{aB:List (List Ch)}{cs:List Ch}{vs:List Value}{aA:Obj}(hn:n₀<=W.heap.size)(hB:n₀<=B)(hv:Boxed W B 200 v)(h1:W.ownsRow n₀ 56 1 v aB.length vs)(h2:∀i,i<aB.length->W.ownsRow n₀ 127 3 (vs.getD i NP) (aB.getD i []).length (LZ (aB.getD i [])))
  (h3:∀i j k,i<j->j<aB.length->(vs.getD i NP).ownBlock=some k->(vs.getD j NP).ownBlock≠some k)(hs:Boxed W Bs 46 sv)(hm:Boxed W Bn 3 (.int .i64 20))(aC:Below W.heap.size W wr)
  (hy:wr.ownsRow W.heap.size 127 3 y cs.length (LZ cs))(ho:w1.ownsRow n₀ 56 1 v' (aB.length+1) (vs++[y]))(hg:(wr.alloc aA).grownBy w1 v.ownBlock):Boxed w1 B 200 v/\InSn n₀ B Bs Bn sv (aB++[cs]) (w1.setCell ⟨B,0,none⟩ v')/\KeepsOthers W (w1.setCell ⟨B,0,none⟩ v')/\KpC n₀ Bs Bn W (w1.setCell ⟨B,0,none⟩ v'):=by
 have bx:∀ {b:Nat} {t:TypeId} {u:Value},Boxed W b t u->Boxed wr b t u:=λh=>(aC.block _ h.lt).j h
 have aD:=LY h1 aC;have aF:Boxed w1 B 200 v:=((bx hv).alloc aA).kept hg ((bx hv).not_row (by decide) aD);have aK:Boxed w1 Bs 46 sv:=((bx hs).alloc aA).kept hg ((bx hs).not_row (by decide) aD);have aJ:Boxed w1 Bn 3 (.int .i64 20):=((bx hm).alloc aA).kept hg ((bx hm).not_row (by decide) aD)
 have aE:Bat w1 n₀ v' (aB++[cs]):=Bat.push (aD.alloc aA) (λi hi=>(LY (h2 i hi) aC).alloc aA) h3 ((ra hy hn).alloc aA) (λi k hi he e=>by
  have a1:=(h2 i hi).lt k he;have a2:=hy.lt k e
  omega) ho hg
 have ns:Bs≠B:=λe=>by
  have:=(show W.heap[Bs]?=_ from hs);rw[e,show W.heap[B]?=_ from hv]at this;simp at this
 have nm:Bn≠B:=λe=>by
  have:=(show W.heap[Bn]?=_ from hm);rw[e,show W.heap[B]?=_ from hv]at this;simp at this
 have aH:Boxed (w1.setCell ⟨B,0,none⟩ v') Bs 46 sv:=aK.kept (grownBy_setCell' w1 B v') (by simp[ns]);have aG:Boxed (w1.setCell ⟨B,0,none⟩ v') Bn 3 (.int .i64 20):=aJ.kept (grownBy_setCell' w1 B v') (by simp[nm]);refine⟨aF,⟨v',aF.set v',aE.boxed aF,aH,aG⟩,?_,?_,aH.cell.j hs.cell.symm,aG.cell.j hm.cell.symm⟩
 ·refine(((sS aC).j (KeepsOthers.alloc _ aA)).j (KeepsOthers.of_grownBy hg λj o ej hj=>?_)).j (KeepsOthers.setCell _ _ _)
  rcases(aD.alloc aA).2 with ⟨rfl,_⟩|⟨g,cap,cur,rfl,_,aI,_⟩
  ·simp[Value.ownBlock]at ej
  obtain rfl:g=j:=by simpa[Value.ownBlock] using ej
  rw[aI]at hj;cases hj;rfl
 refine((((AB n₀ W).j (aC.i hn)).alloc (by have:=aC.size;omega) aA).z hg (by have:=aC.size;simp;omega) λj ej=>?_).setCell (p:=⟨B,0,none⟩) hB v'
 exact(h1.lt j ej).1
def InSn.I{W':World}{sv:Value}{aA:List (List Ch)}(h:InSn n₀ B Bs Bn sv aA W)(hb:Below W.heap.size W W'):InSn n₀ B Bs Bn sv aA W':=by
 obtain⟨v,hv,h1,h2,h3⟩:=h;exact⟨v,(hb.block _ hv.lt).j hv,h1.I hb,(hb.block _ h2.lt).j h2,(hb.block _ h3.lt).j h3⟩
def Ie{b o:Nat}{rs:List Pr}(h:Prs w (some ⟨b,o,none⟩) rs)(k:Nat):Prs w (some ⟨b,o+k*20*2,none⟩) ((rs.drop (k*20)).take 20):=by
 rcases h with h|⟨b',o',h1,h2,h3⟩
 ·subst h;exact .inl (by simp)
 cases h1
 refine .inr ⟨b,o+k*20*2,rfl,h2,λi hi=>?_⟩;simp only[BC,BU]at hi;have:=h3 (k*20+i) (by omega);rw[show o+k*20*2+i*2=o+(k*20+i)*2 by omega]
 have e:((rs.drop (k*20)).take 20).getD i (empty,empty)=rs.getD (k*20+i) (empty,empty):=by
  simp[List.getD,FH,EV,show i<20 by omega]
 rw[e];exact this
end
section
open Tryz
open Go.RowKit Go.Shelf
attribute [local go_sem] Oper.semAt_some
def yg(a:Option Addr)(rs:List Pr)(c:Nat)(w:World)(h:Prs w a rs)(hc:rs.length<=c)(hl:rs.length<=1048576)(hs:∀x∈rs,x.1.size<=1048576/\x.2.size<=1048576):Calls prog 175 #[.agg #[.slice a rs.length c]] w λe w'=>∃v,e=.returned v/\Bat w' w.heap.size v (MN rs)/\Below w.heap.size w w':=by
 refine(EL (n:=4)).1 ?_;unfold MN;have aN:Below w.heap.size w (w.alloc (.cells #[.slice a rs.length c] 48)):=LG _ _;have hv:=ig a rs c (w.alloc (.cells #[.slice a rs.length c] 48)) (h.I aN) hl hs;have HV:=LE hv;have aG:=LE aN;clear hv aN;refine callsIn_of_wp_marks func175 rfl trivial ?_ rfl;simp only[ntmps175,FX,BY,AR,Nat.reduceAdd,Nat.reduceSub,FI,FJ,FW,EO,DU,ED]
 cases hok:MA rs with
 | false =>
  rw[hok]at HV;simp only[EJ,IX]
  gi_wp2_with (refine⟨trivial,?_⟩;gi_at_call 118;refine(EL.2 HV.o).i ?_;rintro e w2 ⟨rfl,aH⟩)
  exact⟨_,results_tmp rfl _ _ _,_,rfl,Bat.nil _ _,aG.o.j (aH.i aG.o.size)⟩
 | true =>
  rw[hok]at HV;simp only[IK];have cV:rs.length<=100:=(XH hok).1
  gi_wp2_with (first|(refine⟨trivial,?_⟩;gi_at_call 118;refine(EL.2 HV.o).i ?_;rintro e w2 ⟨rfl,aH⟩;have q2:w2.cell? ⟨w.heap.size,0,none⟩=some (.slice a rs.length c):=LH aH (by go_simp) (by simp);have dN:w.heap.size<w2.heap.size:=AD (by simp) aH.size)|(refine⟨trivial,?_⟩;gi_at_call 215;refine(vM Fence.wide _ trivial rfl _ _ _ _).i ?_;rintro e w4 ⟨rfl,rfl⟩))
  obtain⟨b,o,aZ,hp⟩:∃b o,(rs.length=0\/a=some ⟨b,o,none⟩)/\Prs w (some ⟨b,o,none⟩) rs:=by
   rcases h with h|⟨b,o,h1,h2,h3⟩
   ·exact⟨0,0,.inl (by rw[h];rfl),.inl h⟩
   exact⟨b,o,.inr h1,.inr ⟨b,o,rfl,h2,h3⟩⟩
  have bP:=hp.I (aG.o.j (aH.i aG.o.size));have HP:=LE bP;have aM:=LE (aG.o.j (aH.i aG.o.size));have cE:=LE aZ;clear hp bP aZ h HV aG aH q2;obtain⟨i0,bE,b7,cA,cB⟩:=eq pV;have HI:=LE (AG bE (AG b7 (AG cA cB)));obtain⟨i1,aQ,bT,bU,bV⟩:=eq nX;have HJ:=LE (AG aQ (AG bT (AG bU bV)));clear bE b7 cA cB aQ bT bU bV;have bO:=Boxed.new w2 200 (.slice none 0 0);have bS:=Boxed.new (w2.alloc (.cells #[.slice none 0 0] 200)) 46 (.slice a rs.length c);have bN:=Boxed.new ((w2.alloc (.cells #[.slice none 0 0] 200)).alloc (.cells #[.slice a rs.length c] 46)) 3 (.int .i64 20);simp only[AU]at bS bN;have cQ:Below w2.heap.size w2 (((w2.alloc (.cells #[.slice none 0 0] 200)).alloc (.cells #[.slice a rs.length c] 46)).alloc (.cells #[.int .i64 20] 3)):=(((AB _ w2).alloc (AA _) _).alloc (by simp) _).alloc (by simp;omega) _
  refine wpIn_rangeFunc_ownG rfl (by omega) (gf:=235) (lb:=#[.pointer (some ⟨w2.heap.size+1,0,none⟩),.pointer (some ⟨w2.heap.size+1+1,0,none⟩)]) rfl trivial (enters_of func235 (by kernel_rfl) rfl)
   (Cg Fence.wide 3 trivial rfl (by omega) (w2.heap.size+1) (w2.heap.size+1+1) b o rs.length c a cV hc _ (by simp) (by simp) (KpC w2.heap.size (w2.heap.size+1) (w2.heap.size+1+1)) (λA B h=>h.2) (bS.alloc _).cell bN.cell cE.o)
   KpC.t (KpC.b (by simp;omega) (by simp) (by simp)) (AB _ _) (λ_=>rfl)
   (λpre W=>InSn w2.heap.size w2.heap.size (w2.heap.size+1) (w2.heap.size+1+1) (.slice a rs.length c) (pre.map (OS rs)) W/\Below w2.heap.size w2 W)
   (λ_ _ _=>False)
   (OwnFrom.and (Own.from (InSn.own _ _ _ _ _ (λpre=>pre.map (OS rs))) _) (ownFrom_below (AA _) (by simp;omega)))
   (λ_ _ _ _ _ hs _ _=>hs)
   ⟨⟨_,(bO.alloc _).alloc _,Bat.nil _ _,bS.alloc _,bN⟩,cQ⟩
   (λx=>{ tmps:=#[.agg #[.slice a rs.length c],.pointer (some ⟨w.heap.size,0,none⟩),.slice none 0 0,.pointer (some ⟨w2.heap.size,0,none⟩),YC b o rs.length x,undef,undef,undef,.agg #[.slice a rs.length c],.bool true,.bool false,.pointer (some ⟨w.heap.size,0,none⟩),.slice a rs.length c,.func (.func 235) #[] #[.pointer (some ⟨w2.heap.size+1,0,none⟩),.pointer (some ⟨w2.heap.size+1+1,0,none⟩)],YC b o rs.length x,undef,undef,undef,undef,undef,undef,undef,undef,undef,undef,undef,undef,undef,undef,undef,undef,undef,undef,undef,undef],defers:=[] }) ?assign ?body ?done ?stop
  case assign =>
   intro l x W K hK
   gi_wp2
   exact hK
  case body =>
   rintro l pre x W ⟨⟨v,hv,⟨vs,h1,h2,h3⟩,aV,aS⟩,hB⟩ dL;have aU:=Ie (HP.o.I hB) x;obtain⟨cs,aL⟩:∃cs,cs=(rs.drop (x*20)).take 20:=⟨_,rfl⟩;have bC:cs.length=min 20 (rs.length-x*20):=by rw[aL];simp
   have cI:Hid (OS rs x=cs.map VL):=by show _=_;rw[aL];rfl
   obtain⟨oo,aT⟩:∃oo,oo=o+x*20*2:=⟨_,rfl⟩;unfold YC;rw[<-bC,<-aT];rw[<-aL,<-aT]at aU;have cW:cs.length<=20:=by omega
   have cM:=LE aU;have H1:=LE h1;have H2:=LE h2;have H3:=LE h3;have aJ:=LE hv;have cN:=LE aV;have cJ:=LE aS;have HB:=LE hB;clear aU h1 h2 h3 hv aV aS aL aT bC
   gi_wp2
   gi_loopw [5,17] (λy i wr=>∃j:Nat,j<=cs.length/\i=.int .i64 (j:Int)/\wr.ownsRow W.heap.size 127 3 y j (LZ ((cs.map VL).take j))/\Below W.heap.size W wr) (λ_ i _=>cs.length-(intOf i).toNat)
   case atStart=>exact⟨0,AH _,rfl,BZ _ _ _ _,AB _ _⟩
   case round =>
    obtain⟨j,hj,rfl,aD,aA⟩:=hrel;have aX:=LE aA
    by_cases aR:j<cs.length
    ·obtain⟨bb,ob,s0,s1,he,cS,dB,HS⟩:=(cM.o.I aA).at aR
     obtain⟨rfl,rfl⟩:b=bb/\oo=ob:=by cases he;exact⟨rfl,rfl⟩
     clear he;have cU:(j:Int)<(cs.length:Int):=by omega
     have aQ:(0:Int)<=(j:Int):=by omega
     have aY:=LE ((aD.alloc (.cells #[.string s0,.string s1] 162)).alloc (.cells #[.string s0,.string s1,.bool false] 127));have cZ:=aA.size;have dH:b<wr.heap.size:=by have:=BE wr _ cS;simpa using this
     gi_wp2_with (gi_at_builtin;refine wpListIn_append_own _ rfl _ _ 56 rfl W.heap.size 127 i0 (.agg #[.string empty,.string empty,.bool false]) 3 40 underlying56 HI.o.1 HI.o.2.1 HI.o.2.2.1 HI.o.2.2.2 rfl (by omega) _ j _ rfl aY.o ⟨wr.heap.size+1,0,none⟩ 1 1 [.string s0,.string s1,.bool false] rfl rfl (sn wr _ _ _) (am _ _ _) (by unfold maxLen;omega) (by omega) (by simp;omega) ?_;intro v' w7 aF aB _;have cL:=LE aF;have cF:=LE (RL (((aX.o.alloc cZ _).alloc (by simp;omega) _)) aY.o aB (by simp;omega));clear aF aB)
     go_roundw
     case rel =>
      refine⟨j+1,by omega,by go_num,?_,cF.o⟩
      have e2:(cs.map VL).take (j+1)=(cs.map VL).take j++[(s0,s1,false)]:=by
       rw[AQ (by simpa using aR)]
       congr 2
       have:=HS.o;simp[List.getD,aR]at this;rw[KU,<-this];rfl
      rw[e2,nM];exact cL.o
     case measure=>simp[intOf];omega
    have cT:j=cs.length:=by omega
    subst cT;rw[AT (by simp)]at aD
    obtain⟨ya,yc,rfl⟩:∃ya yc,u5=Value.slice ya cs.length yc:=by
     rcases MM aD with ⟨e1,e2⟩|⟨g,cap,e1,_⟩
     ·exact⟨none,0,by rw[e1,e2]⟩
     exact⟨_,cap,e1⟩
    have bW:wr.ownsRow W.heap.size 127 3 (.slice ya cs.length yc) (OS rs x).length (LZ (OS rs x)):=by rw[cI.o,BJ];exact aD
    have cO:=LE bW;have qv:wr.cell? ⟨w2.heap.size,0,none⟩=some v:=(aA.cell (p:=⟨w2.heap.size,0,none⟩) aJ.o.lt).j aJ.o.cell;have lv:w2.heap.size<wr.heap.size:=AD aJ.o.lt aA.size
    obtain⟨va,vc,bQ⟩:∃va vc,v=Value.slice va (pre.map (OS rs)).length vc:=by
     rcases MM H1.o with ⟨e1,e2⟩|⟨g,cap,e1,_⟩
     ·exact⟨none,0,by rw[e1,e2]⟩
     exact⟨_,cap,e1⟩
    have cX:w2.heap.size<=W.heap.size:=HB.o.size;have dM:w2.heap.size<=wr.heap.size:=by omega
    have cY:(pre.map (OS rs)).length<=10:=by rw[BJ];omega
    obtain⟨aK,aI⟩:∃aK,aK=pre.map (OS rs):=⟨_,rfl⟩;have cH:Hid ((pre++[x]).map (OS rs)=aK++[OS rs x]):=by show _=_;rw[aI];simp
    rw[<-aI]at H1 H2 H3 bQ cY;subst bQ;have cC:=LE ((LY H1.o aA).alloc (.cells #[.slice ya cs.length yc] 56));clear aD aA bW aI
    gi_wp2_with (gi_at_builtin;refine wpListIn_append_own _ rfl _ _ 200 rfl w2.heap.size 56 i1 (.slice none 0 0) 1 24 underlying200 HJ.o.1 HJ.o.2.1 HJ.o.2.2.1 HJ.o.2.2.2 rfl (by omega) _ aK.length _ rfl cC.o ⟨wr.heap.size,0,none⟩ 1 1 [.slice ya cs.length yc] rfl rfl (cell_one_new _ _ _) (by simp[Value.oneCell']) (by unfold maxLen;omega) (by omega) (by simp;omega) ?_;intro v' w9 aE aC _;obtain⟨g',cP,rfl⟩:=ownsRow_succ aE;obtain⟨aW,bF,bI,bJ⟩:=InSn.push cX (AA _) aJ.o H1.o H2.o H3.o cN.o cJ.o aX.o cO.o aE aC;have q9:=aW.cell;have r9:=aW.frozen;have HE:=LE (AG bF (AG bI bJ));clear aE aC aW bF bI bJ)
    exact⟨HE.o.2.1.from _,HE.o.2.2,by rw[cH.o];exact HE.o.1,HB.o.j HE.o.2.2.1⟩
  case done =>
   rintro D ys W hD rfl ⟨⟨v,hv,aO,aV,aS⟩,hB⟩ hK;have dF:=hv.cell
   gi_wp2
   refine⟨by simp,.inl ⟨_,_,rfl,run_takeDeferred hK,?_⟩⟩
   have aP:Bat (W.putObj D (.deferred none)) w2.heap.size v (RE rs rs.length):=by
    obtain⟨vs,h1,h2,h3⟩:=aO;rw[pN];exact⟨vs,ownsRow_putObj h1 _ hK rfl,λi hi=>ownsRow_putObj (h2 i hi) _ hK rfl,h3⟩
   exact⟨_,results_tmp rfl _ _ _,v,rfl,aP.i aM.o.size,aM.o.j ((hB.j (belowK_b (w:=w2) (AA _) W D _ _ (by simp at hD;omega) hK rfl rfl)).i aM.o.size)⟩
  case stop =>
   rintro D c pre W _ _ h _;exact h.elim
def WX(rs:List Pr):(MN rs).length<=5:=by
 unfold MN
 split
 ·rename_i h;exact ou rs _ (XH h).1
 simp
def fu{rs:List Pr}{b:List Ch}(h:b∈MN rs):b.length<=20/\∀x∈b,(x.1,x.2.1)∈rs:=by
 unfold MN at h
 split at h
 ·exact Cr h
 simp at h
