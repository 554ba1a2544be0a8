import Derived.Test.YthcfgbpailnahaaGreatDoorPrRpS
import Derived.Test.YthcfgbpailnahaaGreatDoorPrRbWa
import Derived.Test.YthcfgbpailnahaaGreatDoorPrRbWb
import Derived.Test.YthcfgbpailnahaaGreatDoorPrRbWc
import Derived.Test.YthcfgbpailnahaaGreatDoorPrRbWd
import Derived.Test.YthcfgbpailnahaaGreatDoorPrFbS
import Derived.Laws.Bits64b
import Derived.Test.YthcfgbpailnahaaGreatDoorPrG36
import Derived.Test.YthcfgbpailnahaaGreatDoorPrDrvOf
import Derived.ChangeSlices
import Derived.Test.YthcfgbpailnahaaGreatDoorPrFate
set_option maxHeartbeats 16000000
set_option maxRecDepth 8000
set_option linter.all false
namespace Go.Proofs.YthcfgbpailnahaaGreatDoor
open _root_.ByteArray(empty)
section
open Tryz
open Go.RowKit
variable {op p:ByteArray}{first k m n wk wl:Int}{B f frm i size:Nat}{e:TypeId}{v y:Value}{W w w':World}
theorem an(r:ByteArray):∀y∈LF r,0<=y/\y<=255:=by
 intro y hy;unfold LF at hy;obtain⟨c,_,rfl⟩:=CE.1 hy;have:=GU c;omega
theorem da(b:ByteArray)(i j:Nat):LF (b.extract i j)=((LF b).take j).drop i:=by
 unfold LF;rw[<-ID,<-KR,GW,JS];simp[List.extract,FC]
theorem WV:∀(k:Nat) (ys:List Int),ys.length=k->(∀y∈ys,0<=y/\y<=255)->0<=MR ys/\MR ys<(256:Int) ^ k:=by
 intro k
 induction k with
 | zero=>intro ys hl _;have:ys=[]:=AC hl;subst this;simp[MR]
 | succ k ih =>
  intro ys hl hy;have aA:ys≠[]:=by intro h;subst h;simp at hl
  have hd:=JU aA;have h1:=ih ys.dropLast (by simp;omega) (λy h=>hy y (List.dropLast_subset _ h));have h2:=hy _ (List.getLast_mem aA);rw[<-hd,iw,LB];omega
theorem ub(y:Int):MR [y]=y:=by simp[MR]
theorem Br(s:ByteArray)(n:Nat)(hs:s.size=64)(h2:n<=8){b:ByteArray}(hb:b=s.extract n 64):(rpN b:Int)=MR (((LF s).drop (n+7)).take 1)/\SO b=MR (((LF s).drop n).take 1)/\SP b=MR (((LF s).drop (n+1)).take 2)/\SQ b=MR (((LF s).drop (n+3)).take 4)/\RX b=strOfNums (((LF s).drop (n+8)).take (rpN b)):=by
 have hn:LF b=(LF s).drop n:=by rw[hb,da,AT (by rw[ML];omega)]
 have aB:b.data.toList.length=64-n:=by have:=ML s;have h:=BT List.length hn;rw[BU,ML,ML,hs]at h;exact h
 have aA:∀i,i<64-n->MR (((LF s).drop (n+i)).take 1)=((b.data.toList.getD i 0).toNat:Int):=λi hi=>by
  rw[<-GR,<-hn];unfold LF;rw[<-KR,<-ID,GG (by omega)];simp only[JY,FE,FD,IU,ub];rw[BB,AM (by omega)];rfl
 refine⟨?_,?_,?_,?_,?_⟩
 ·rw[aA 7 (by omega)];rfl
 ·have:=aA 0 (by omega);rw[GX]at this;rw[this];rfl
 ·unfold SP;rw[da,hn];simp[FC,GR]
 ·unfold SQ;rw[da,hn];simp[FC,GR]
 unfold RX
 rw[<-SJ (b.extract 8 (8+rpN b)),da,hn];simp[FC,GR]
abbrev RtT:=Int×Int×Int×Int
def QK(p:ByteArray):Int:=MR ((LF p).take 1)
def PZ(p:ByteArray):Int:=MR (((LF p).drop 1).take 4)
def NC(s:ByteArray)(a n:Int):Option RtT :=match MX s n with
 | none=>none
 | some (_,l,m,p)=>if p.size=5/\ON m (QK p) (PZ p) l n=s/\m % 2=a then some (m,QK p,PZ p,l) else none
theorem SR{s:ByteArray}{l:Int}(h:MX s n=some (k,l,m,p)):s.size=64/\MP k l m p n=s/\1<=m/\m<=1000000000/\1<=l/\l<=60000/\p.size<=64:=by
 unfold MX at h
 split at h
 ·rename_i hh
  obtain⟨h1,h2,h3,h4,h5⟩:=hh;simp only[EU,EA]at h;obtain⟨rfl,rfl,rfl,rfl⟩:=h;refine⟨h3,h5,?_⟩
  have aA:NI (SO (s.extract n.toNat 64)) (SP (s.extract n.toNat 64)) (SQ (s.extract n.toNat 64)) (RX (s.extract n.toNat 64)) n=true:=by
   cases hc:NI (SO (s.extract n.toNat 64)) (SP (s.extract n.toNat 64)) (SQ (s.extract n.toNat 64)) (RX (s.extract n.toNat 64)) n with
   | true=>rfl
   | false =>
    exfalso;unfold MP at h5;rw[hc,AE (by simp)]at h5;rw[<-h5]at h3;exact absurd h3 (by decide)
  have hd:=AZ (by unfold NI at aA;exact aA);omega
 cases h
theorem qo{s:ByteArray}{a:Int}{x:RtT}(h:NC s a n=some x):1<=x.1:=by
 unfold NC at h
 split at h
 ·cases h
 rename_i k l m p hp
 split at h
 ·simp only[EU]at h
  subst h;exact(SR hp).2.2.1
 cases h
def RP(b:RtT)(o:Option RtT):RtT:=match o with
 | none=>b
 | some r=>if b.1<r.1 then r else b
def bj(s0 s1:ByteArray)(n:Int):RtT:=RP (RP (0,0,1,0) (NC s0 0 n)) (NC s1 1 n)
def MJ:RtT:=(0,0,0,0)
def PM(b r:RtT):RtT:=if b.1<r.1 then r else b
theorem yL(s0 s1:ByteArray)(n:Int):(if PM (PM MJ ((NC s0 0 n).getD MJ)) ((NC s1 1 n).getD MJ)=MJ then ((0,0,1,0):RtT) else PM (PM MJ ((NC s0 0 n).getD MJ)) ((NC s1 1 n).getD MJ))=bj s0 s1 n:=by
 unfold bj
 cases h0:NC s0 0 n with
 | none =>
  cases h1:NC s1 1 n with
  | none=>simp[PM,MJ,RP]
  | some y =>
   have:=qo h1;obtain⟨y1,y2,y3,y4⟩:=y;have hy:(0:Int)<y1:=by show 0<y1;have:1<=y1:=this;omega
   have aD:¬y1=0:=by omega
   simp[PM,MJ,RP,hy,aD]
 | some x =>
  have aE:=qo h0;obtain⟨x1,x2,x3,x4⟩:=x;have hx:(0:Int)<x1:=by have:1<=x1:=aE;omega
  have aA:¬x1=0:=by omega
  cases h1:NC s1 1 n with
  | none =>
   have hl:¬x1<0:=by omega
   simp[PM,MJ,RP,hx,aA,hl]
  | some y =>
   have aF:=qo h1;obtain⟨y1,y2,y3,y4⟩:=y;have aB:¬y1=0:=by have:1<=y1:=aF;omega
   by_cases aC:x1<y1
   ·simp[PM,MJ,RP,hx,aA,aC,aB]
   simp[PM,MJ,RP,hx,aA,aC,aB]
def PE(wk wl k l:Int):Bool:=decide (wl<=l) && (if k=3 then decide (wk≠1) else (decide (k=1) || decide (k=2)) && (decide (wk≠1) || decide (wl=l)))
abbrev Scd:=List ByteArray×Int×Int
def NG(S:Nat->ByteArray)(frm:Nat)(first n:Int):Nat->Nat->Int->Int->ByteArray->Scd->Scd
 | 0,_,_,_,_,out=>out
 | f+1,i,wk,wl,op,out =>
  match MX (S (frm+i)) n with
  | none=>out
  | some (k,l,m,p)=>if IntKind.i64.wrap (m-(i:Int))=first/\PE wk wl k l=true then
    (if k=1 then NG S frm first n f (i+1) k l (op++p) out
     else NG S frm first n f (i+1) k l empty (if k=2 then out.1++[op++p] else out.1,(i:Int)+1,l))
   else out
theorem zb{S:Nat->ByteArray}{out:Scd}(h:MX (S (frm+i)) n=none):NG S frm first n f i wk wl op out=out:=by
 cases f with
 | zero=>rfl
 | succ f=>rw[NG,h]
theorem kz{S:Nat->ByteArray}{l:Int}{out:Scd}(h:MX (S (frm+i)) n=some (k,l,m,p))(hn:¬(IntKind.i64.wrap (m-(i:Int))=first/\PE wk wl k l=true)):NG S frm first n f i wk wl op out=out:=by
 cases f with
 | zero=>rfl
 | succ f=>rw[NG,h];simp only;rw[AE hn]
theorem vf{S:Nat->ByteArray}{l:Int}{out:Scd}(h:MX (S (frm+i)) n=some (1,l,m,p))(hn:IntKind.i64.wrap (m-(i:Int))=first)(hg:PE wk wl 1 l=true):NG S frm first n (f+1) i wk wl op out=NG S frm first n f (i+1) 1 l (op++p) out:=by
 rw[NG,h];simp only;rw[AK ⟨hn,hg⟩,AK trivial]
theorem sb{S:Nat->ByteArray}{l:Int}{out:Scd}(h:MX (S (frm+i)) n=some (k,l,m,p))(hn:IntKind.i64.wrap (m-(i:Int))=first)(hg:PE wk wl k l=true)(hk:k≠1):NG S frm first n (f+1) i wk wl op out=NG S frm first n f (i+1) k l empty (if k=2 then out.1++[op++p] else out.1,(i:Int)+1,l):=by
 rw[NG,h];simp only;rw[AK ⟨hn,hg⟩,AE hk]
def UO(wk wl k l:Int):Bool:=if k=1\/k=2 then (decide (l=wl) || (!decide (wk=1) && decide (wl<l))) else if k=3 then decide (wl<=l) && !decide (wk=1) else false
theorem Fv(wk wl k l:Int):UO wk wl k l=PE wk wl k l:=by
 unfold UO PE;rw[IA]
 by_cases h3:k=3
 ·subst h3
  simp
 by_cases aA:k=1\/k=2
 ·have hd:(decide (k=1) || decide (k=2))=true:=by simpa using aA
  rw[AK aA,AE h3,hd]
  by_cases h1:wk=1
  ·subst h1;simp;omega
  simp[h1];omega
 have hd:(decide (k=1) || decide (k=2))=false:=by simpa using aA
 rw[AE aA,AE h3,AE h3,hd];simp
theorem Ap(S:Nat->ByteArray)(frm:Nat)(first n:Int)(f i:Nat)(wl:Int)(op:ByteArray)(out:Scd):NG S frm first n f i 2 wl op out=NG S frm first n f i 0 wl op out:=by
 cases f with
 | zero=>rfl
 | succ f =>
  rw[NG,NG]
  have:∀k l,PE 2 wl k l=PE 0 wl k l:=λk l=>by unfold PE;simp
  simp only[this]
theorem qz(S:Nat->ByteArray)(frm:Nat)(first n:Int):∀(f i:Nat) (wk wl:Int) (op:ByteArray) (out:Scd) (B:Nat),op.size+64*f<=B->(∀e∈out.1,e.size<=B)->(∀e∈(NG S frm first n f i wk wl op out).1,e.size<=B)/\(NG S frm first n f i wk wl op out).1.length<=out.1.length+f
 | 0,i,wk,wl,op,out,B,_,h2=>⟨h2,by simp[NG]⟩
 | f+1,i,wk,wl,op,out,B,h1,h2=>by
  rw[NG]
  split
  ·exact⟨h2,by omega⟩
  rename_i k l m p hp
  have hps:=(SR hp).2.2.2.2.2.2
  split
  ·split
   ·have:=qz S frm first n f (i+1) k l (op++p) out B (by rw[DI];omega) h2
    exact⟨this.1,by omega⟩
   have:=qz S frm first n f (i+1) k l empty (if k=2 then out.1++[op++p] else out.1,(i:Int)+1,l) B (by show 0+_<=_;omega) (by
    intro e he;simp only at he
    split at he
    ·rw[BP]at he
     rcases he with he|he
     ·exact h2 e he
     simp at he;subst he;rw[DI];omega
    ·exact h2 e he)
   refine⟨this.1,AL this.2 ?_⟩;simp only
   split
   ·simp;omega
   omega
  exact⟨h2,by omega⟩
theorem nf(S:Nat->ByteArray)(frm:Nat)(first n:Int):∀(f i:Nat) (wk wl:Int) (op:ByteArray) (out:Scd),(0<=out.2.1/\out.2.1<=(i:Int))->0<=(NG S frm first n f i wk wl op out).2.1/\(NG S frm first n f i wk wl op out).2.1<=(i:Int)+f
 | 0,i,wk,wl,op,out,h=>by rw[NG];omega
 | f+1,i,wk,wl,op,out,h=>by
  rw[NG]
  split
  ·omega
  rename_i k l m p hp
  split
  ·split
   ·have:=nf S frm first n f (i+1) k l (op++p) out (by omega)
    omega
   have:=nf S frm first n f (i+1) k l empty (if k=2 then out.1++[op++p] else out.1,(i:Int)+1,l) (by show 0<=(i:Int)+1/\(i:Int)+1<=_;omega)
   omega
  omega
theorem ox(S:Nat->ByteArray)(frm:Nat)(first n:Int):∀(f i:Nat) (wk wl:Int) (op:ByteArray) (out:Scd),(NG S frm first n f i wk wl op out).2.2=out.2.2\/(1<=(NG S frm first n f i wk wl op out).2.2/\(NG S frm first n f i wk wl op out).2.2<=60000)
 | 0,i,wk,wl,op,out=>.inl rfl
 | f+1,i,wk,wl,op,out=>by
  rw[NG]
  split
  ·exact .inl rfl
  rename_i k l m p hp
  have hl:=SR hp
  split
  ·split
   ·exact ox S frm first n f (i+1) k l (op++p) out
   rcases ox S frm first n f (i+1) k l empty (if k=2 then out.1++[op++p] else out.1,(i:Int)+1,l) with h|h
   ·right
    rw[h];show 1<=l/\l<=60000;omega
   exact .inr h
  exact .inl rfl
theorem zg(s:ByteArray)(n:Int)(w:World)(hs:s.size<=1048576):Calls prog 198 #[.string s,.int .i64 n] w λe w'=>e=.returned (TW (MX s n))/\Below w.heap.size w w':=by
 have aC:∀o,Below w.heap.size w (w.alloc o):=λo=>LG _ _
 by_cases hn:1<=n/\n<=8
 focus
  obtain⟨m,rfl⟩:∃m:Nat,n=(m:Int):=⟨n.toNat,by omega⟩;have hd:decide (1<=(m:Int)/\(m:Int)<=8)=true:=by simp;omega
  by_cases aB:s.size=64
  ·by_cases hN:rpN (s.extract m 64)<=56-m
   ·exact xE s m w aB (by omega) (by omega) hN
   have HR:=LQ (YZ (s:=s) (n:=(m:Int)) (λhh=>hN (by have:=hh.2.2.2.1;rw[DG]at this;omega)))
   have aE:(s.size:Int)=64:=by omega
   obtain⟨b,hb⟩:∃b,s.extract m 64=b:=⟨_,rfl⟩;have aD:b.size=64-m:=by rw[<-hb];simp only[AW];omega
   obtain⟨q,hq⟩:∃q:Nat,b.size=q:=⟨_,rfl⟩;have l7:7<b.size:=by omega
   have g7:=jd b 7 l7;rw[hb]at hN;obtain⟨N,aA⟩:∃N,N=(b.data.toList.getD 7 0).toNat:=⟨_,rfl⟩;rw[<-aA]at g7;have aG:(64-(m:Int)-8)<(N:Int):=by have:rpN b=N:=aA.symm;omega
   have aF:N<=255:=by rw[aA];have:=GU (b.data.toList.getD 7 0);omega
   have aI:(7:Int)<(q:Int):=by omega
   have aH:m+q=64:=by omega
   clear aD aA hN;go_enter func198,ntmps198
   go_wp2_with (first|(go_at_call 57;refine(PV _ _).i ?_;rw[hd];rintro e w2 ⟨rfl,rfl⟩)|(go_at_call 228;refine(aq _ _ (by omega) (by omega)).i ?_;rintro e w2 ⟨rfl,rfl⟩))
   refine AJ (v:=.tuple #[NH 0 0 0 ⟨#[]⟩,.bool false]) (by simp[results,results198,go_sem]) rfl ⟨by rw[HR.o];rfl,?_⟩;exact aC _
  focus
   have HR:=LQ (YZ (s:=s) (n:=(m:Int)) (λhh=>aB hh.2.2.1));have aE:((s.size:Int) != 64)=true:=by simp;omega
   clear aB
  rotate_left
 rotate_left
 focus
  have HR:=LQ (YZ (s:=s) (n:=n) (λhh=>hn ⟨hh.1,hh.2.1⟩));have hd:decide (1<=n/\n<=8)=false:=by simpa using hn
  clear hn
 rotate_left
 all_goals
  go_enter func198,ntmps198
  go_wp2_with (first|(go_at_call 57;refine(PV _ _).i ?_;rw[hd];rintro e w2 ⟨rfl,rfl⟩))
  refine AJ (v:=.tuple #[NH 0 0 0 ⟨#[]⟩,.bool false]) (by simp[results,results198,go_sem]) rfl ⟨by rw[HR.o];rfl,?_⟩;exact aC _
theorem sy{r k m:ByteArray}(h:pc r=some (k,m)):m.size<=r.size:=by
 have:=BT List.length (mt h).1;simp[ML]at this;omega
theorem Dj(r:ByteArray)(w:World)(hs:r.size<=1048576)(h0:0<r.size):Calls prog 213 #[.string r] w λe w'=>wu (ZU r) e/\Below w.heap.size w w':=by
 unfold ZU
 by_cases hb:1<b0 r
 ·rw[AK hb];exact Aa r w hs h0 hb
 rw[AE hb]
 unfold QB
 cases hp:pc (r.extract 1 r.size) with
 | none =>
  rcases GD (b0 r) with h1|h1
  ·exact yQ r w hs h0 h1 hp
  exact Em r w hs h0 (by omega) hp
 | some p =>
  obtain⟨k,m⟩:=p;have aA:m.size<=1048576:=by have:=sy hp;simp only[AW]at this;omega
  rcases GD (b0 r) with h1|h1
  ·simp only
   rw[AE (by omega)]
   cases hq:pc m with
   | none=>exact Ax r w hs h0 h1 k m hp aA hq
   | some q =>
    obtain⟨v,m'⟩:=q;exact Cw r w hs h0 h1 k m hp aA v m' hq
  simp only
  rw[AK (by omega)];exact xU r w hs h0 (by omega) k m hp
theorem zy:(prog.info? 127).map (λi=>(i.zero,i.size,i.bytes))=some (some (.agg #[.string empty,.string empty,.bool false]),3,40):=by kernel_rfl
theorem nL{P:Program}{z:Value}{aA:Nat}(h:(P.info? e).map (λi=>(i.zero,i.size,i.bytes))=some (some z,size,aA)):∃i,P.info? e=some i/\i.zero=some z/\i.size=size/\i.bytes=aA:=by
 obtain⟨i,hi,hh⟩:=EF.1 h;simp only[EA]at hh;exact⟨i,hi,hh⟩
theorem ju{w1:World}{n:Nat}{xs:List Value}(hb:Below B W w)(own:w.ownsRow B e size v n xs)(hg:w.grownBy w1 v.ownBlock)(hB:B<=w.heap.size):Below B W w1 :=hb.j ⟨hg.os,hg.tape,hg.output,hg.size,λk hk=>hg.block k (by omega) (λhe=>by have:=(own.lt k he.symm).1;omega)⟩
theorem my{r r1:ByteArray}{c:Ch}(hr:0<r.size)(h:QB r=some (c,r1)):r1.size<r.size/\c.1.size<=255/\c.2.1.size<=255:=by
 obtain⟨k1,k2,t,k3,k4⟩:=yx hr h;refine⟨?_,k1,k2⟩;have e1:=BT List.length k3;have e2:=BT List.length k4;rw[ML]at e2;rw[AF,ML]at e1;have e3:2<=(MZ c).length:=by unfold MZ;split<;>simp<;>omega
 simp only[BY]at e1 e2;omega
def gz(w w':World)(e:Ending)(aA:Option (List Ch)):Prop:=∃a c,e=.returned (.tuple #[.slice a (aA.getD []).length c,.bool aA.isSome])/\OwnS w' a (LZ (aA.getD []))/\(∀g,blk a (aA.getD []).length=some g->w.heap.size<=g)/\Below w.heap.size w w'
theorem VM{a:Option Addr}{c:Nat}(hv:v=.tuple #[.slice a 0 c,.bool false])(hb:Below w.heap.size w w'):gz w w' (.returned v) none:=⟨a,c,by rw[hv];rfl,.inl rfl,λg h=>(by cases h),hb⟩
theorem qx{o:List Ch}(h:w'.ownsRow w.heap.size e 3 y o.length (LZ o))(hv:v=.tuple #[y,.bool true])(hb:Below w.heap.size w w'):gz w w' (.returned v) (some o):=by
 rcases MM h with ⟨h1,h2⟩|⟨g,cap,h1,h2,_,h3⟩
 ·have:o=[]:=AC h2
  subst this;exact⟨none,0,by rw[hv,h1];rfl,.inl rfl,λg h=>(by cases h),hb⟩
 refine⟨_,cap,by rw[hv,h1];rfl,.inr ⟨g,rfl,h3⟩,λg' aA=>?_,hb⟩
 simp only[GA]at aA
 by_cases h0:o.length=0
 ·rw[h0]at aA;cases aA
 rw[MI g 0 _ h0]at aA;cases aA;exact h2
theorem uo{o:List Ch}(h:w.ownsRow B e 3 y o.length (LZ o)):∃a c,y=.slice a o.length c/\Chs w a o:=by
 rcases MM h with ⟨h1,h2⟩|⟨g,cap,h1,h2,_,h3⟩
 ·have:o=[]:=AC h2
  subst this;exact⟨none,0,h1,.inl rfl⟩
 exact⟨_,cap,h1,h3.chs⟩
theorem qn(o:List Ch)(c:Ch):LZ (o++[c])=LZ o++[.string c.1,.string c.2.1,.bool c.2.2]:=by rw[YI];rfl
theorem At(w:World)(A:Obj)(cs:Array Value)(t:TypeId):∀j u,cs.toList[j]?=some u->((w.alloc A).alloc (.cells cs t)).cell? ((⟨w.heap.size+1,0,none⟩:Addr).add j)=some u:=by
 have h:=AY (w.alloc A) (.cells cs t);rw[AU]at h;exact World.news_of_block h
theorem ms(k v:ByteArray)(g:Bool):∀u∈[Value.string k,.string v,.bool g],u.oneCell'=true:=by
 intro u hu;simp only[DK,EN,IY]at hu;rcases hu with rfl|rfl|rfl<;>rfl
theorem yI(s:ByteArray)(w:World)(hs:s.size<=1048576):Calls prog 171 #[.string s] w λe w'=>gz w w' e (WI s):=by
 obtain⟨R,HR⟩:∃R,Hid (R=WI s):=⟨_,LE rfl⟩;rw[<-HR.o];obtain⟨i0,aS,aT,aU,aV⟩:=nL zy;have HI:=LE (AG aS (AG aT (AG aU aV)));clear aS aT aU aV;go_enter func171,ntmps171;go_wp2_with fail;go_loopw [0,4] (λx y wr=>∃(j:Nat) (o:List Ch) (r:ByteArray),x=.string r/\j+o.length=21/\r.size<=1048576/\Hid (QN j r o=QN 21 s [])/\Hid (∀z∈o,z.1.size<=1048576/\z.2.1.size<=1048576)/\wr.ownsRow w.heap.size 127 3 y o.length (LZ o)/\Below w.heap.size w wr) (λx _ _=>match x with | .string r=>r.size|_=>0)
 case atStart =>
  exact⟨21,[],s,rfl,rfl,hs,rfl,λz hz=>(by simp at hz),BZ _ _ _ _,AB _ _⟩
 case round =>
  obtain⟨j,o,r,rfl,hj,bF,aO,aN,aH,aF⟩:=hrel;obtain⟨ya,yc,rfl,aL⟩:=uo aH;have HO:=LE aH;have HB:=LE aF;have aI:=aF.size;have HC:=LE aL;clear aH aF aL
  have aK:∀(b:Bool),Hid (QN j r o=some (o,r))->Hid (R=if OA o=true then some o else none):=λb hh=>by
   show _=_;have:=aO.o;rw[hh.o]at this;rw[HR.o];unfold WI;rw[<-this]
  by_cases h0:r.size=0
  ·have he:r.toList.isEmpty=true:=by rw[TH];exact AO h0
   have HF:=aK true (by show _=_;cases j<;>simp[QN,h0]);clear aK
   cases aG:OA o with
   | true =>
    rw[aG,AK rfl]at HF;go_wp2_with (go_at_call 129;refine(YY _ o _ _ HC.o (by omega) aN.o).i ?_;rw[aG];rintro e w2 ⟨rfl,aB⟩);go_ret2;rw[HF.o];exact qx (LY HO.o aB) rfl (HB.o.j (aB.i aI))
   | false =>
    rw[aG,AE (by simp)]at HF;go_wp2_with (go_at_call 129;refine(YY _ o _ _ HC.o (by omega) aN.o).i ?_;rw[aG];rintro e w2 ⟨rfl,aB⟩);go_ret2;rw[HF.o]
    exact VM rfl (by first|exact HB.o.j (aB.i aI)|exact(HB.o.j (aB.i aI)).alloc (by have:=aB.size;omega) _)
  have he:r.toList.isEmpty=false:=by rw[TH];exact AI h0
  by_cases hl:(o.length:Int)<=20
  ·obtain⟨j',rfl⟩:∃j',j=j'+1:=⟨j-1,by omega⟩
   have aA:=aO.o;rw[QN,AE h0]at aA;have aJ:=LE (Dj r · bF (by omega));clear aK
   by_cases aC:1<b0 r
   focus
    have aM:ZU r=none:=by unfold ZU;exact AK aC
    rw[AK aC]at aA;have HF:Hid (R=none):=by show _=_;rw[HR.o];unfold WI;rw[<-aA]
    rw[aM]at aJ;clear aC aM
   rotate_left
   focus
    rw[AE aC]at aA;have aM:ZU r=QB r:=by unfold ZU;exact AE aC
    rw[aM]at aJ;clear aC aM
    cases hq:QB r
    focus
     rw[hq]at aA aJ;have HF:Hid (R=none):=by show _=_;rw[HR.o];unfold WI;rw[<-aA]
     clear hq
    rotate_left
    focus
     rename_i p;obtain⟨⟨ck,cv,cg⟩,r1⟩:=p;obtain⟨q1,q2,q3⟩:=my (by omega) hq;rw[hq]at aA aJ;have aZ:Hid (QN j' r1 (o++[(ck,cv,cg)])=QN 21 s []):=aA;clear hq aA aO;simp only at q2 q3
     go_wp2_with (first|(go_at_call 213;refine(aJ.o _).i ?_;rintro e w2 ⟨aR,aB⟩;simp only[wu]at aR;subst aR;have bI:=aB.size;have aQ:=LE (((LY HO.o aB).alloc (.cells #[.string ck,.string cv,.bool cg] 127)).alloc (.cells #[.string ck,.string cv,.bool cg] 127));have aW:=LE (((HB.o.j (aB.i aI)).alloc (by omega) (.cells #[.string ck,.string cv,.bool cg] 127)).alloc (by simp;omega) (.cells #[.string ck,.string cv,.bool cg] 127));clear aB)|(at_builtin;refine PU _ rfl _ _ 56 rfl w.heap.size underlying56 HI.o rfl (by omega) _ o.length _ rfl aQ.o ⟨w2.heap.size+1,0,none⟩ 1 1 [.string ck,.string cv,.bool cg] rfl rfl (At w2 _ _ _) (ms _ _ _) (by simp;omega) (w2.heap.size+1+1) (by simp) ?_;intro g cap w7 aE aD aP bE;have aY:=LE aE;have aX:=LE (ju aW.o aQ.o aD (by simp;omega));clear aE aD aP))
     refine⟨⟨j',o++[(ck,cv,cg)],r1,rfl,by simp;omega,by omega,aZ.o,λz hz=>?_,?_,aX.o⟩,by simp only;omega⟩
     ·rcases BP.1 hz with hz|hz
      ·exact aN.o z hz
      simp at hz;subst hz;exact⟨by simp only;omega,by simp only;omega⟩
     rw[qn,AF];exact aY.o
   rotate_left
   all_goals
    go_wp2_with (go_at_call 213;refine(aJ.o _).i ?_;rintro e w2 ⟨⟨a1,a2,a3,a4,rfl⟩,aB⟩);go_ret2;rw[HF.o]
    exact VM rfl (by first|exact HB.o.j (aB.i aI)|exact(HB.o.j (aB.i aI)).alloc (by have:=aB.size;omega) _)
  have bC:j=0:=by omega
  subst bC;have HF:=aK true rfl;clear aK;have aG:OA o=false:=ak (by omega);rw[aG,AE (by simp)]at HF;go_wp2_with (go_at_call 129;refine(YY _ o _ _ HC.o (by omega) aN.o).i ?_;rw[aG];rintro e w2 ⟨rfl,aB⟩);go_ret2;rw[HF.o];exact VM rfl (HB.o.j (aB.i aI))
theorem ZL{n b:Nat}{xs:List Value}(h:w.ownsRow B e size y n xs)(aA:y.ownBlock≠some b)(u:Value):(w.setCell ⟨b,i,none⟩ u).ownsRow B e size y n xs:=BO h aA u
theorem um(X:World)(b:Nat)(hb:X.heap.size=b)(cs:Array Value)(t:TypeId):∀j u,cs.toList[j]?=some u->(X.alloc (.cells cs t)).cell? ((⟨b,0,none⟩:Addr).add j)=some u:=by
 subst hb;exact World.news_of_block (AY X _)
theorem t7(s:ByteArray)(w:World)(hs:s.size<=1048576):Calls prog 200 #[.string s] w λe w'=>gz w w' e (SW s):=by
 have cA:∀o,Below w.heap.size w (w.alloc o):=λo=>LG _ _
 obtain⟨R,HR⟩:∃R,Hid (R=SW s):=⟨_,LE rfl⟩;rw[<-HR.o];obtain⟨i0,bQ,bT,aS,bU⟩:=nL zy;have HI:=LE (AG bQ (AG bT (AG aS bU)));clear bQ bT aS bU;go_enter func200,ntmps200;go_wp2_with fail;go_loopw [4,5] (λy x wr=>∃(j:Nat) (o:List Ch) (r:ByteArray),x=.string r/\j+o.length=21/\r.size<=1048576/\Hid (run j r o=run 21 s [])/\Hid (∀z∈o,z.1.size<=1048576/\z.2.1.size<=1048576)/\wr.ownsRow w.heap.size 127 3 y o.length (LZ o)/\Below w.heap.size w wr) (λ_ x _=>match x with | .string r=>r.size|_=>0)
 case atStart =>
  exact⟨21,[],s,rfl,rfl,hs,rfl,λz hz=>(by simp at hz),DM _ #[] 0 (AA _) (by simp) (by simp),cA _⟩
 case round =>
  obtain⟨j,o,r,rfl,hj,cF,aX,aT,aN,aM⟩:=hrel;obtain⟨ya,yc,rfl,aV⟩:=uo aN;have HO:=LE aN;have HB:=LE aM;have aG:=aM.size;have HC:=LE aV;clear aN aM aV
  have aH:(Value.slice ya o.length yc).ownBlock≠some wr.heap.size:=λh=>by have:=(HO.o.lt _ h).2;omega
  have aU:Hid (run j r o=some (o,r))->Hid (R=if s.size≠0/\LX o=s then some o else none):=λhh=>by
   show _=_;have:=aX.o;rw[hh.o]at this;rw[HR.o];unfold SW;rw[<-this]
  by_cases h0:0<(r.size:Int)
  focus
   by_cases hl:(o.length:Int)<=20
   ·obtain⟨j',rfl⟩:∃j',j=j'+1:=⟨j-1,by omega⟩
    have aB:=aX.o;rw[run,AE (by omega)]at aB;have hg:=VR r (by omega);obtain⟨b,hb⟩:∃b,b=b0 r:=⟨_,rfl⟩;have cE:b<=255:=by rw[hb];exact ec r
    rw[<-hb]at hg;have aJ:(r.extract 1 r.size).size<=1048576:=by simp only[AW];omega
    clear aU
    cases hp:pc (r.extract 1 r.size) with
    | none =>
     have HP:=LE (ai hp)
     have HF:Hid (R=none):=by
      show _=_;have e:QB r=none:=by unfold QB;rw[hp]
      rw[e]at aB;rw[HR.o];unfold SW;rw[<-aB]
     clear hp hb aB
     by_cases bJ:b=1
     ·subst bJ
      go_wp2_with (go_at_call 230;refine(YK _ _ aJ).i ?_;rw[HP.o];rintro e w2 ⟨rfl,aA⟩;have aE:=aA.size;simp only[AU,AV]at aE;have c0:w2.cell? ⟨wr.heap.size,0,none⟩=some (.string ⟨#[]⟩):=LH aA (by go_simp);have aP:w2.frozen? ⟨wr.heap.size,0,none⟩=false:=LM aA (by go_simp);have c1:w2.cell? ⟨wr.heap.size,1,none⟩=some (.string ⟨#[]⟩):=LH aA (by go_simp);have aQ:w2.frozen? ⟨wr.heap.size,1,none⟩=false:=LM aA (by go_simp);have c2:w2.cell? ⟨wr.heap.size,2,none⟩=some (.bool true):=LH aA (by go_simp);have aR:w2.frozen? ⟨wr.heap.size,2,none⟩=false:=LM aA (by go_simp);have aI:=LE (HB.o.j ((VD aA).i aG));have aK:=LE (LY (HO.o.alloc _) aA);clear aA);go_ret2;rw[HF.o];exact VM rfl (aI.o.alloc (by omega) _)
     have aA:((b:Int) == 1)=false:=by simp;omega
     go_wp2_with (go_at_call 230;refine(YK _ _ aJ).i ?_;rw[HP.o];rintro e w2 ⟨rfl,aA⟩;have aE:=aA.size;simp only[AU,AV]at aE;have c0:w2.cell? ⟨wr.heap.size,0,none⟩=some (.string ⟨#[]⟩):=LH aA (by go_simp);have aP:w2.frozen? ⟨wr.heap.size,0,none⟩=false:=LM aA (by go_simp);have c1:w2.cell? ⟨wr.heap.size,1,none⟩=some (.string ⟨#[]⟩):=LH aA (by go_simp);have aQ:w2.frozen? ⟨wr.heap.size,1,none⟩=false:=LM aA (by go_simp);have c2:w2.cell? ⟨wr.heap.size,2,none⟩=some (.bool false):=LH aA (by go_simp);have aR:w2.frozen? ⟨wr.heap.size,2,none⟩=false:=LM aA (by go_simp);have aI:=LE (HB.o.j ((VD aA).i aG));have aK:=LE (LY (HO.o.alloc _) aA);clear aA);go_ret2;rw[HF.o];exact VM rfl (aI.o.alloc (by omega) _)
    | some p =>
     obtain⟨k,m⟩:=p;have HP:=LE (ZP hp);have cC:m.size<=1048576:=by have:=sy hp;simp only[AW]at this;omega
     by_cases bJ:b=1
     ·have e:QB r=some ((k,empty,true),m):=by unfold QB;rw[hp];simp only;rw[AK (by omega)]
      obtain⟨q1,q2,q3⟩:=my (by omega) e;rw[e]at aB;have bI:Hid (run j' m (o++[(k,empty,true)])=run 21 s []):=aB;simp only at q2 q3;clear hp hb aB e;subst bJ
      go_wp2_with (first|(go_at_call 230;refine(YK _ _ aJ).i ?_;rw[HP.o];rintro e w2 ⟨rfl,aA⟩;have aE:=aA.size;simp only[AU,AV]at aE;have c0:w2.cell? ⟨wr.heap.size,0,none⟩=some (.string ⟨#[]⟩):=LH aA (by go_simp);have aP:w2.frozen? ⟨wr.heap.size,0,none⟩=false:=LM aA (by go_simp);have c1:w2.cell? ⟨wr.heap.size,1,none⟩=some (.string ⟨#[]⟩):=LH aA (by go_simp);have aQ:w2.frozen? ⟨wr.heap.size,1,none⟩=false:=LM aA (by go_simp);have c2:w2.cell? ⟨wr.heap.size,2,none⟩=some (.bool true):=LH aA (by go_simp);have aR:w2.frozen? ⟨wr.heap.size,2,none⟩=false:=LM aA (by go_simp);have aI:=LE (HB.o.j ((VD aA).i aG));have aK:=LE (LY (HO.o.alloc _) aA);clear aA)|(at_builtin;refine PU _ rfl _ _ 56 rfl w.heap.size underlying56 HI.o rfl (by omega) _ o.length _ rfl ((ZL aK.o aH (.string k)).alloc (.cells #[.string k,.string ⟨#[]⟩,.bool true] 127)) ⟨w2.heap.size,0,none⟩ 1 1 [.string k,.string ⟨#[]⟩,.bool true] rfl rfl (um _ _ (by simp) _ _) (ms _ _ _) (by simp;omega) (w2.heap.size+1) (by simp) ?_;intro ga cap w7 aF aC aL bP;have bF:=LE aF;have aZ:=LE (ju ((aI.o.setCell (p:=⟨wr.heap.size,0,none⟩) aG (.string k)).alloc (by simp;omega) _) ((ZL aK.o aH (.string k)).alloc _) aC (by simp;omega));clear aF aC aL))
      refine⟨⟨j',o++[(k,empty,true)],m,rfl,by simp;omega,by omega,bI.o,λz hz=>?_,?_,aZ.o⟩,by simp only;omega⟩
      ·rcases BP.1 hz with hz|hz
       ·exact aT.o z hz
       simp at hz;subst hz;exact⟨by simp only;omega,by simp only;first|omega|simp⟩
      rw[qn,AF];exact bF.o
     have aA:((b:Int) == 1)=false:=by simp;omega
     have aW:m.size<=1048576:=cC
     cases hq:pc m with
     | none =>
      have HQ:=LE (ai hq)
      have HF:Hid (R=none):=by
       show _=_;have e:QB r=none:=by unfold QB;rw[hp];simp only;rw[AE (by omega),hq]
       rw[e]at aB;rw[HR.o];unfold SW;rw[<-aB]
      clear hp hq hb aB
      go_wp2_with (first|(have _g:=aI;go_at_call 230;refine(YK _ _ aW).i ?_;rw[HQ.o];rintro e w3 ⟨rfl,aD⟩;have aO:=aD.size;simp only[AU,AV]at aO;have d0:w3.cell? ⟨wr.heap.size,0,none⟩=some (.string k):=LH aD (by go_simp);have bV:w3.frozen? ⟨wr.heap.size,0,none⟩=false:=LM aD (by go_simp);have d1:w3.cell? ⟨wr.heap.size,1,none⟩=some (.string ⟨#[]⟩):=LH aD (by go_simp);have bW:w3.frozen? ⟨wr.heap.size,1,none⟩=false:=LM aD (by go_simp);have d2:w3.cell? ⟨wr.heap.size,2,none⟩=some (.bool false):=LH aD (by go_simp);have b7:w3.frozen? ⟨wr.heap.size,2,none⟩=false:=LM aD (by go_simp);have aY:=LE ((aI.o.setCell (p:=⟨wr.heap.size,0,none⟩) aG (.string k)).j (aD.i (by simp<;>omega)));have bE:=LE (LY (ZL aK.o aH (.string k)) aD);clear aD c0 c1 c2 aP aQ aR)|(go_at_call 230;refine(YK _ _ aJ).i ?_;rw[HP.o];rintro e w2 ⟨rfl,aA⟩;have aE:=aA.size;simp only[AU,AV]at aE;have c0:w2.cell? ⟨wr.heap.size,0,none⟩=some (.string ⟨#[]⟩):=LH aA (by go_simp);have aP:w2.frozen? ⟨wr.heap.size,0,none⟩=false:=LM aA (by go_simp);have c1:w2.cell? ⟨wr.heap.size,1,none⟩=some (.string ⟨#[]⟩):=LH aA (by go_simp);have aQ:w2.frozen? ⟨wr.heap.size,1,none⟩=false:=LM aA (by go_simp);have c2:w2.cell? ⟨wr.heap.size,2,none⟩=some (.bool false):=LH aA (by go_simp);have aR:w2.frozen? ⟨wr.heap.size,2,none⟩=false:=LM aA (by go_simp);have aI:=LE (HB.o.j ((VD aA).i aG));have aK:=LE (LY (HO.o.alloc _) aA);clear aA))
      go_ret2;rw[HF.o];exact VM rfl (aY.o.alloc (by omega) _)
     | some q =>
      obtain⟨v,m'⟩:=q;have HQ:=LE (ZP hq);have e:QB r=some ((k,v,false),m'):=by unfold QB;rw[hp];simp only;rw[AE (by omega),hq]
      obtain⟨q1,q2,q3⟩:=my (by omega) e;rw[e]at aB;have bI:Hid (run j' m' (o++[(k,v,false)])=run 21 s []):=aB;simp only at q2 q3;clear hp hq hb aB e
      go_wp2_with (first|(have _g:=aI;go_at_call 230;refine(YK _ _ aW).i ?_;rw[HQ.o];rintro e w3 ⟨rfl,aD⟩;have aO:=aD.size;simp only[AU,AV]at aO;have d0:w3.cell? ⟨wr.heap.size,0,none⟩=some (.string k):=LH aD (by go_simp);have bV:w3.frozen? ⟨wr.heap.size,0,none⟩=false:=LM aD (by go_simp);have d1:w3.cell? ⟨wr.heap.size,1,none⟩=some (.string ⟨#[]⟩):=LH aD (by go_simp);have bW:w3.frozen? ⟨wr.heap.size,1,none⟩=false:=LM aD (by go_simp);have d2:w3.cell? ⟨wr.heap.size,2,none⟩=some (.bool false):=LH aD (by go_simp);have b7:w3.frozen? ⟨wr.heap.size,2,none⟩=false:=LM aD (by go_simp);have aY:=LE ((aI.o.setCell (p:=⟨wr.heap.size,0,none⟩) aG (.string k)).j (aD.i (by simp<;>omega)));have bE:=LE (LY (ZL aK.o aH (.string k)) aD);clear aD c0 c1 c2 aP aQ aR)|(go_at_call 230;refine(YK _ _ aJ).i ?_;rw[HP.o];rintro e w2 ⟨rfl,aA⟩;have aE:=aA.size;simp only[AU,AV]at aE;have c0:w2.cell? ⟨wr.heap.size,0,none⟩=some (.string ⟨#[]⟩):=LH aA (by go_simp);have aP:w2.frozen? ⟨wr.heap.size,0,none⟩=false:=LM aA (by go_simp);have c1:w2.cell? ⟨wr.heap.size,1,none⟩=some (.string ⟨#[]⟩):=LH aA (by go_simp);have aQ:w2.frozen? ⟨wr.heap.size,1,none⟩=false:=LM aA (by go_simp);have c2:w2.cell? ⟨wr.heap.size,2,none⟩=some (.bool false):=LH aA (by go_simp);have aR:w2.frozen? ⟨wr.heap.size,2,none⟩=false:=LM aA (by go_simp);have aI:=LE (HB.o.j ((VD aA).i aG));have aK:=LE (LY (HO.o.alloc _) aA);clear aA)|(at_builtin;refine PU _ rfl _ _ 56 rfl w.heap.size underlying56 HI.o rfl (by omega) _ o.length _ rfl ((ZL bE.o aH (.string v)).alloc (.cells #[.string k,.string v,.bool false] 127)) ⟨w3.heap.size,0,none⟩ 1 1 [.string k,.string v,.bool false] rfl rfl (um _ _ (by simp) _ _) (ms _ _ _) (by simp;omega) (w3.heap.size+1) (by simp) ?_;intro ga cap w7 aF aC aL bP;have bF:=LE aF;have aZ:=LE (ju ((aY.o.setCell (p:=⟨wr.heap.size,1,none⟩) aG (.string v)).alloc (by simp;omega) _) ((ZL bE.o aH (.string v)).alloc _) aC (by simp;omega));clear aF aC aL))
      refine⟨⟨j',o++[(k,v,false)],m',rfl,by simp;omega,by omega,bI.o,λz hz=>?_,?_,aZ.o⟩,by simp only;omega⟩
      ·rcases BP.1 hz with hz|hz
       ·exact aT.o z hz
       simp at hz;subst hz;exact⟨by simp only;omega,by simp only;first|omega|simp⟩
      rw[qn,AF];exact bF.o
   focus
    have cB:j=0:=by omega
    subst cB;have HF:=aU rfl;clear aU aX
    by_cases hz:s.size=0
    ·have aS:((s.size:Int) == 0)=true:=by rw[beq_iff_eq];omega
     rw[AE (λhh=>hh.1 hz)]at HF;go_wp2;go_ret2;rw[HF.o];exact VM rfl (HB.o.alloc aG _)
    focus
     have aS:((s.size:Int) == 0)=false:=by rw[EP];omega
     by_cases hF:LX o=s
     ·rw[AK ⟨hz,hF⟩]at HF
      have bC:=LE hF;clear hF;go_wp2_with (go_at_call 148;refine(YW _ o _ _ HC.o (by omega) aT.o).i ?_;rw[bC.o];rintro e w2 ⟨rfl,aA⟩);go_ret2;rw[HF.o];exact qx (LY HO.o aA) rfl (HB.o.j (aA.i aG))
     focus
     rotate_left
    rotate_left
   rotate_left
  rotate_left
  focus
   have HF:=aU (by show _=_;exact sR _ _ _ (by omega));clear aU aX
   by_cases hz:s.size=0
   ·have aS:((s.size:Int) == 0)=true:=by rw[beq_iff_eq];omega
    rw[AE (λhh=>hh.1 hz)]at HF;go_wp2;go_ret2;rw[HF.o];exact VM rfl (HB.o.alloc aG _)
   focus
    have aS:((s.size:Int) == 0)=false:=by rw[EP];omega
    by_cases hF:LX o=s
    ·rw[AK ⟨hz,hF⟩]at HF
     have bC:=LE hF;clear hF;go_wp2_with (go_at_call 148;refine(YW _ o _ _ HC.o (by omega) aT.o).i ?_;rw[bC.o];rintro e w2 ⟨rfl,aA⟩);go_ret2;rw[HF.o];exact qx (LY HO.o aA) rfl (HB.o.j (aA.i aG))
    focus
    rotate_left
   rotate_left
  rotate_left
  all_goals
   rw[AE (λhh=>hF hh.2)]at HF;obtain⟨G,HG⟩:∃G,Hid (G=LX o):=⟨_,LE rfl⟩;have hG:(!G.toList == s.toList)=true:=by rw[HG.o];simp only[KH,EP];intro hh;rw[DF,DF]at hh;exact hF (FA (JC hh))
   clear hF;go_wp2_with (go_at_call 148;refine(YW _ o _ _ HC.o (by omega) aT.o).i ?_;rw[<-HG.o];rintro e w2 ⟨rfl,aA⟩);go_ret2;rw[HF.o];exact VM rfl ((HB.o.j (aA.i aG)).alloc (by have:=aA.size;omega) _)
section
@[reducible] def cz(v0 v1:Value)(frm size n:Int):Value:=.agg #[.iface 260 (.agg #[v0,v1]),.int .i64 frm,.int .i64 size,.int .i64 n]
abbrev Pgs(S:Nat->ByteArray)(frm:Nat)(n:Int)(size:Nat):Type:={ x:Nat // x<size/\(MX (S (frm+x)) n).isSome=true }
def RF(S:Nat->ByteArray)(frm:Nat)(n:Int)(x:Nat):Int×Int×Int×ByteArray:=(MX (S (frm+x)) n).getD (0,0,0,empty)
theorem jb{S:Nat->ByteArray}(x:Pgs S frm n size){l:Int}(h:RF S frm n x.1=(k,l,m,p)):MX (S (frm+x.1)) n=some (k,l,m,p):=by
 unfold RF at h;obtain⟨y,hy⟩:=GO.1 x.2.2;rw[hy]at h⊢;simp at h;rw[h]
def Good{S:Nat->ByteArray}{frm:Nat}{n:Int}{size:Nat}(u:Nat)(pre:List (Pgs S frm n size)):Prop:=pre.map Subtype.val=List.range' u pre.length
theorem Good.nil{S:Nat->ByteArray}(u:Nat):Good u ([]:List (Pgs S frm n size)):=rfl
theorem Good.snoc{S:Nat->ByteArray}{u:Nat}{pre:List (Pgs S frm n size)}{x:Pgs S frm n size}(h:Good u (pre++[x])):Good u pre/\x.1=u+pre.length:=by
 unfold Good at h⊢;rw[BK,AF,EQ,List.range'_concat]at h;have:=List.append_inj h (by simp);exact⟨this.1,by simpa using this.2⟩
theorem Good.push{S:Nat->ByteArray}{u:Nat}{pre:List (Pgs S frm n size)}{x:Pgs S frm n size}(h:Good u pre)(hx:x.1=u+pre.length):Good u (pre++[x]):=by
 unfold Good at h⊢;rw[BK,AF,EQ,List.range'_concat,h];simp[hx]
def Chn{S:Nat->ByteArray}{frm:Nat}{n:Int}{size:Nat}(first:Int)(aA:Scd)(u:Nat)(pre:List (Pgs S frm n size))(wk wl:Int)(op:ByteArray)(out:Scd):Prop :=Good u pre->u+pre.length<=size/\NG S frm first n (size-(u+pre.length)) (u+pre.length) wk wl op out=aA
section
variable {S:Nat->ByteArray} {frm:Nat} {n:Int} {size:Nat} {first:Int} {RES:Scd} {u:Nat} {pre:List (Pgs S frm n size)} {x:Pgs S frm n size} {wk wl k l m:Int} {p op:ByteArray} {out:Scd}
theorem qi{x:Nat}(hm:0<=m/\m<=4294967296)(hf:-9223372036854775808<=first/\first<=9223372036854775807):IntKind.i64.wrap (m-(x:Int))=first<->m=IntKind.i64.wrap (first+(x:Int)):=by
 simp[IntKind.wrap,IntKind.bits,IntKind.signed];omega
theorem Chn.no(h:Chn first RES u pre wk wl op out)(hp:RF S frm n x.1=(k,l,m,p))(hf:-9223372036854775808<=first/\first<=9223372036854775807)(hn:¬(m=IntKind.i64.wrap (first+(x.1:Int))/\PE wk wl k l=true))(hg:Good u (pre++[x])):out=RES:=by
 obtain⟨aA,hx⟩:=hg.snoc;obtain⟨h1,h2⟩:=h aA;have hr:=jb x hp;have hm:=SR hr;rw[<-h2,<-hx];refine(kz hr ?_).symm;rw[qi (by omega) hf];exact hn
theorem Chn.part(h:Chn first RES u pre wk wl op out)(hp:RF S frm n x.1=(1,l,m,p))(hf:-9223372036854775808<=first/\first<=9223372036854775807)(aC:m=IntKind.i64.wrap (first+(x.1:Int)))(aB:PE wk wl 1 l=true):Chn first RES u (pre++[x]) 1 l (op++p) out:=by
 intro hg;obtain⟨aA,hx⟩:=hg.snoc;obtain⟨h1,h2⟩:=h aA;have hr:=jb x hp;have hm:=SR hr;have aD:=x.2.1;rw[AF,EQ];refine⟨by omega,?_⟩;rw[<-h2,show size-(u+pre.length)=(size-(u+(pre.length+1)))+1 by omega,<-hx,vf hr ((qi (by omega) hf).2 aC) aB,show u+(pre.length+1)=x.1+1 by omega]
theorem Chn.end(h:Chn first RES u pre wk wl op out)(hp:RF S frm n x.1=(k,l,m,p))(hf:-9223372036854775808<=first/\first<=9223372036854775807)(aC:m=IntKind.i64.wrap (first+(x.1:Int)))(aB:PE wk wl k l=true)(hk:k≠1)(hg:Good u (pre++[x])):Chn first RES (x.1+1) ([]:List (Pgs S frm n size)) k l empty (if k=2 then out.1++[op++p] else out.1,(x.1:Int)+1,l):=by
 intro _;obtain⟨aA,hx⟩:=hg.snoc;obtain⟨h1,h2⟩:=h aA;have hr:=jb x hp;have hm:=SR hr;have aD:=x.2.1;refine⟨by simp;omega,?_⟩;rw[<-h2,show size-(u+pre.length)=(size-(x.1+1))+1 by omega,<-hx,sb hr ((qi (by omega) hf).2 aC) aB hk];simp
theorem Chn.done(h:Chn first RES u pre wk wl op out)(hg:Good u pre)(he:size<=u+pre.length\/MX (S (frm+(u+pre.length))) n=none):out=RES:=by
 obtain⟨h1,h2⟩:=h hg;rw[<-h2];rcases he with he|he
 ·rw[show size-(u+pre.length)=0 by omega];rfl
 exact(zb he).symm
end
end
theorem sY(y b:Int)(aC:0<=y)(aD:y<=1099511627776)(aA:0<=b)(aB:b<=255):bits .or .u64 (IntKind.u64.wrap (y*256)) (IntKind.u64.wrap b)=y*256+b:=by
 rw[VP _ (by omega) (by omega),VP _ (by omega) (by omega)];obtain⟨Y,rfl⟩:∃Y:Nat,y=(Y:Int):=⟨y.toNat,by omega⟩;obtain⟨C,rfl⟩:∃C:Nat,b=(C:Int):=⟨b.toNat,by omega⟩;have e:((Y:Int)*256)=((256*Y:Nat):Int):=by omega
 rw[e,bits_or_u64_nat _ _ (by omega) (by omega)];have:=Nat.two_pow_add_eq_or_of_lt (i:=8) (b:=C) (by omega) Y;simp only[Nat.reducePow]at this;rw[<-this];omega
theorem pi(s:ByteArray)(ty:TypeId)(v:Value)(w:World)(hv:w.cell? ⟨1,0,none⟩=some (.iface ty v)):Calls prog 242 #[.string s] w λe w'=>e=.returned (.iface 299 (.pointer (some ⟨w.heap.size,0,none⟩)))/\w'=w.alloc (.cells #[.string s,.iface ty v] 316):=by
 go_enter func242,ntmps242;go_wp2;go_ret;exact⟨rfl,rfl⟩
theorem rJ(F o:Nat)(ys:List Int)(c:Nat)(w:World)(hr:∀y∈ys,0<=y/\y<=255)(hl:ys.length<=4)(hc:∀i,i<ys.length->w.cell? ⟨F,o+i,none⟩=some (.int .u8 (ys.getD i 0))):Calls prog 232 #[.slice (some ⟨F,o,none⟩) ys.length c] w λe w'=>e=.returned (.int .u64 (MR ys))/\w'=w:=by
 have HC:=LQ hc;clear hc;go_enter func232,ntmps232;go_wp2;go_loop [3,5,8] (λx _ i=>∃(k:Nat) (y:Int),k<=ys.length/\i=.int .i64 (k:Int)/\x=.int .u64 y/\Hid (y=MR (ys.take k))/\0<=y/\Hid (y<(256:Int) ^ k)) (λ_ _ i=>ys.length-(intOf i).toNat)
 case atStart=>exact⟨0,0,AH _,rfl,rfl,by show _=_;simp[MR],by omega,by show _<_;simp⟩
 case round =>
  obtain⟨k,y,hk,rfl,rfl,HY,aK,aD⟩:=hrel
  by_cases aA:k<ys.length
  ·have aI:=HC.o k aA
   obtain⟨b,hb⟩:∃b,ys.getD k 0=b:=⟨_,rfl⟩;rw[hb]at aI;obtain⟨aF,aG⟩:0<=b/\b<=255:=by rw[<-hb];exact hr _ (by simp[List.getD,aA])
   have aJ:(k:Int)<(ys.length:Int):=by omega
   have aB:(256:Int) ^ k<=16777216:=by
    have:k=0\/k=1\/k=2\/k=3:=by omega
    rcases this with h|h|h|h<;>rw[h]<;>decide
   have HN:Hid (y*256+b=MR (ys.take (k+1))):=by
    show _=_;rw[AQ aA,iw,<-HY.o,<-hb];simp[List.getD,aA]
   have aC:=sY y b aK (by have:=aD.o;omega) aF aG;have aE:Hid (bits .or .u64 (IntKind.u64.wrap (y*256)) b=y*256+b):=by show _=_;rw[VP b (by omega) (by omega)]at aC;exact aC
   have aH:0<=y*256+b:=by omega
   clear aC;have H3:Hid (y*256+b<(256:Int) ^ (k+1)):=by show _<_;rw[LB];have:=aD.o;omega
   clear hb aB;go_wp2;go_round
   case rel=>exact⟨k+1,y*256+b,by omega,by go_num,BT _ aE.o,HN.o,aH,H3.o⟩
   case measure=>simp[intOf];omega
  go_wp2
  go_ret;refine⟨oJ ?_,rfl⟩;rw[HY.o,AT (by omega)]
def XV(E:Addr)(o:Option (Int×Int×Int×ByteArray)):Value:=match o with
 | none=>.tuple #[NH 0 0 0 ⟨#[]⟩,.iface 299 (.pointer (some E))]
 | some (k,l,m,p)=>.tuple #[NH k l m p,.nilIface]
theorem YR(F:Nat)(xs:List Int)(hr:Hid (∀y∈xs,0<=y/\y<=255))(o k c:Nat)(hk:k<=4)(ho:o+k<=xs.length)(w:World)(hf:Fm w F xs)(V:Int)(hV:V=MR ((xs.drop o).take k)):Calls prog 232 #[.slice (some ⟨F,o,none⟩) k c] w λe w'=>e=.returned (.int .u64 V)/\w'=w:=by
 have hl:((xs.drop o).take k).length=k:=by simp;omega
 have h:=rJ F o ((xs.drop o).take k) c w (λy hy=>hr.o y (EW (DQ hy))) (by omega) (λi hi=>by
  rw[hf.cell (o+i) (by omega)];rw[hl]at hi
  simp[List.getD,EM hi,EV])
 rw[hl,<-hV]at h;exact h
theorem Dz(s:ByteArray)(n:Int)(w:World)(ty:TypeId)(v:Value)(hv:w.cell? ⟨1,0,none⟩=some (.iface ty v))(hg:1<w.heap.size)(hn:¬(1<=n/\n<=8)):Calls prog 239 #[.string s,.int .i64 n] w λe w'=>(∃E,e=.returned (XV E none))/\Below w.heap.size w w':=by
 have hd:decide (1<=n/\n<=8)=false:=by simpa using hn
 have aA:∀o o',Below w.heap.size w ((w.alloc o).alloc o'):=λo o'=>(LG _ _).alloc (by simp) _
 have aB:∀o,(w.alloc o).cell? ⟨1,0,none⟩=some (.iface ty v):=λo=>(EK _ _ _ (by exact hg)).j hv
 clear hn;go_enter func239,ntmps239
 go_wp2_with (first|(go_at_call 72;refine(QZ _ _).i ?_;rw[hd];rintro e w2 ⟨rfl,rfl⟩)|(go_at_call 242;refine(pi _ ty v _ (aB _)).i ?_;rintro e w2 ⟨rfl,rfl⟩))
 refine AJ (v:=.tuple #[NH 0 0 0 ⟨#[]⟩,.iface 299 (.pointer (some ⟨w.heap.size+1,0,none⟩))]) (by simp[results,results239,go_sem]) rfl ⟨⟨_,rfl⟩,?_⟩;exact aA _ _
theorem Da(s:ByteArray)(n:Int)(w:World)(ty:TypeId)(v:Value)(hv:w.cell? ⟨1,0,none⟩=some (.iface ty v))(hg:1<w.heap.size)(hn:1<=n/\n<=8)(hs:s.size≠64):Calls prog 239 #[.string s,.int .i64 n] w λe w'=>(∃E,e=.returned (XV E none))/\Below w.heap.size w w':=by
 have hd:decide (1<=n/\n<=8)=true:=by simpa using hn
 have aC:((s.size:Int) != 64)=true:=by simp;omega
 have aA:∀o o',Below w.heap.size w ((w.alloc o).alloc o'):=λo o'=>(LG _ _).alloc (by simp) _
 have aB:∀o,(w.alloc o).cell? ⟨1,0,none⟩=some (.iface ty v):=λo=>(EK _ _ _ (by exact hg)).j hv
 clear hn hs;go_enter func239,ntmps239
 go_wp2_with (first|(go_at_call 72;refine(QZ _ _).i ?_;rw[hd];rintro e w2 ⟨rfl,rfl⟩)|(go_at_call 242;refine(pi _ ty v _ (aB _)).i ?_;rintro e w2 ⟨rfl,rfl⟩))
 refine AJ (v:=.tuple #[NH 0 0 0 ⟨#[]⟩,.iface 299 (.pointer (some ⟨w.heap.size+1,0,none⟩))]) (by simp[results,results239,go_sem]) rfl ⟨⟨_,rfl⟩,?_⟩;exact aA _ _
structure RB(W w:World):Prop where
 size:W.heap.size+1<=w.heap.size
 bel:Below W.heap.size W w
 c0:w.cell? ⟨W.heap.size,0,none⟩=some (.int .i64 0)
 c1:w.cell? ⟨W.heap.size,1,none⟩=some (.int .i64 0)
 c2:w.cell? ⟨W.heap.size,2,none⟩=some (.int .i64 0)
 c3:w.cell? ⟨W.heap.size,3,none⟩=some (.string ⟨#[]⟩)
 f0:w.frozen? ⟨W.heap.size,0,none⟩=false
 f1:w.frozen? ⟨W.heap.size,1,none⟩=false
 f2:w.frozen? ⟨W.heap.size,2,none⟩=false
 f3:w.frozen? ⟨W.heap.size,3,none⟩=false
theorem RB.I(h:RB W w)(hb:Below w.heap.size w w'):RB W w':=by
 have hs:=h.size
 have hc:∀i,w'.cell? ⟨W.heap.size,i,none⟩=w.cell? ⟨W.heap.size,i,none⟩:=λi=>hb.cell (p:=⟨W.heap.size,i,none⟩) (by show W.heap.size<_;omega)
 have hf:∀i,w'.frozen? ⟨W.heap.size,i,none⟩=w.frozen? ⟨W.heap.size,i,none⟩:=λi=>hb.frozen (p:=⟨W.heap.size,i,none⟩) (by show W.heap.size<_;omega)
 exact⟨AL hs hb.size,h.bel.j (hb.i (by omega)),(hc _).j h.c0,(hc _).j h.c1,(hc _).j h.c2,(hc _).j h.c3,(hf _).j h.f0,(hf _).j h.f1,(hf _).j h.f2,(hf _).j h.f3⟩
theorem RB.drew(h:RB W w):RB W w.drew:=⟨h.size,h.bel.drew,h.c0,h.c1,h.c2,h.c3,h.f0,h.f1,h.f2,h.f3⟩
theorem RB.alloc(h:RB W w)(o:Obj):RB W (w.alloc o):=h.I (LG _ _)
theorem RB.new(W:World)(t:TypeId):RB W (W.alloc (.cells #[.int .i64 0,.int .i64 0,.int .i64 0,.string ⟨#[]⟩] t)):=by
 refine⟨by simp,LG _ _,?_,?_,?_,?_,?_,?_,?_,?_⟩<;>first|(simp;done)|(rw[DH];exact VN _ _ _ (AA _))
theorem ko(s:ByteArray)(ty:TypeId)(v:Value)(w:World)(hv:w.cell? ⟨1,0,none⟩=some (.iface ty v)):Calls prog 242 #[.string s] w λe w'=>(∃E,e=.returned (.iface 299 (.pointer (some E))))/\Below w.heap.size w w' :=(pi s ty v w hv).i λe w' h=>⟨⟨_,h.1⟩,by rw[h.2];exact LG _ _⟩
set_option maxRecDepth 4000 in
theorem vV(s:ByteArray)(n N:Nat)(w:World)(ty:TypeId)(v:Value)(hv:w.cell? ⟨1,0,none⟩=some (.iface ty v))(hg:1<w.heap.size)(hs:s.size=64)(h1:1<=n)(h2:n<=8)(hN:(N:Int)=MR (((LF s).drop (n+7)).take 1))(aO:56<N+n)(aP:N<=255):Calls prog 239 #[.string s,.int .i64 (n:Int)] w λe w'=>(∃E,e=.returned (XV E none))/\Below w.heap.size w w':=by
 have hd:decide (1<=(n:Int)/\(n:Int)<=8)=true:=by simp;omega
 have aU:(s.size:Int)=64:=by omega
 have aQ:∀o,Below w.heap.size w (w.alloc o):=λo=>LG _ _
 have aN:∀w',Below w.heap.size w w'->w'.cell? ⟨1,0,none⟩=some (.iface ty v):=λw' hb=>(hb.cell (p:=⟨1,0,none⟩) hg).j hv
 obtain⟨xs,HX⟩:∃xs,Hid (xs=LF s):=⟨_,LQ rfl⟩;have aB:xs.length=64:=by rw[HX.o,ML];exact hs
 have aV:(xs.map (Value.int .u8)).toArray.size=64:=by simp[aB]
 have aK:Hid (∀y∈xs,0<=y/\y<=255):=by rw[HX.o];exact an s
 have HS:=LQ hs;clear hs
 have aL:=λg wx=>ik (P:=prog) (t:=168) underlying168 (λ_=>by kernel_rfl) g 0 n (by omega) .i64 (n:Int) rfl wx
 obtain⟨q,hq⟩:∃q,64-n=q:=⟨_,rfl⟩;rw[hq]at aL;have aT:(8:Int)<=(q:Int):=by omega
 have aS:(7:Int)<=(q:Int):=by omega
 have HN:Hid ((N:Int)=MR ((xs.drop (n+7)).take 1)):=by rw[HX.o];exact LQ hN
 clear hN;have aR:(64-(n:Int)-8)<(N:Int):=by omega
 go_enter func239,ntmps239
 go_wp2_with (first|(go_at_call 72;refine(QZ _ _).i ?_;rw[hd];rintro e w2 ⟨rfl,rfl⟩)|(go_at_call 180;refine(mz _ _ (by omega) (by omega)).i ?_;rintro e w3 ⟨rfl,rfl⟩)|(go_at_call 119;refine(bk s _ HS.o).i ?_;rw[<-HX.o];rintro e w2 ⟨rfl,aD⟩;have aH:=LQ ((RB.new w _).I aD);clear aD)|(refine mj rfl 168 _ _ rfl xs rfl rfl _ _ (.int .u8 0) (by rw[aB];rfl) (by rw[aB];kernel_rfl) ?_;intro wx aG aF aM;have aI:=LQ aG;clear aG;have aC:=LQ (aH.o.I aF);clear aF aM)|(go_at_call 232;refine(YR w2.heap.size xs aK (n+7) 1 _ (by omega) (by omega) _ aI.o (N:Int) HN.o).i ?_;rintro e w3 ⟨rfl,rfl⟩)|(go_at_call 242;refine(ko _ ty v _ (aN _ aC.o.bel)).i ?_;rintro e w4 ⟨⟨E,rfl⟩,aE⟩;have aA:=aC.o.I aE;clear aE;have c0:=aA.c0;have c1:=aA.c1;have c2:=aA.c2;have c3:=aA.c3;have f0:=aA.f0;have f1:=aA.f1;have f2:=aA.f2;have f3:=aA.f3;have aJ:=LQ aA;clear aA))
 refine AJ (v:=.tuple #[NH 0 0 0 ⟨#[]⟩,.iface 299 (.pointer (some E))]) (by simp[results,results239,go_sem,c0,c1,c2,c3]) rfl ⟨⟨E,rfl⟩,?_⟩;exact(((aJ.o.bel.setCell (AA _) _).setCell (AA _) _).setCell (AA _) _).setCell (AA _) _
def QE:List (Int×List Int)->List (List Int)->List (List Int)
 | [],ps=>ps
 | x::r,ps=>QE r (ps.set x.1.toNat x.2)
theorem ZZ:∀(hs:List (Int×List Int)) (ps:List (List Int)),(QE hs ps).length=ps.length
 | [],_=>rfl
 | x::r,ps=>by rw[QE,ZZ r];simp
theorem xo:∀(hs:List (Int×List Int)) (x:Int×List Int) (ps:List (List Int)),QE (hs++[x]) ps=(QE hs ps).set x.1.toNat x.2
 | [],_,_=>rfl
 | y::r,x,ps=>by rw[ED,QE,xo r];rfl
theorem rk(hs:List (Int×List Int))(ps:List (List Int))(k:Nat)(h:k<hs.length):QE (hs.take (k+1)) ps=(QE (hs.take k) ps).set (hs.getD k (0,[])).1.toNat (hs.getD k (0,[])).2:=by
 rw[AQ h,xo];simp[List.getD,h]
theorem vW(k:Nat)(a:Option Addr)(n c:Nat)(w:World):Sem.run prog (method (k+1) 133 (.slice a n c) "loop.example/kilnstone/impl.read") w=.ok (268,.slice a n c) w:=by kernel_rfl
theorem vk(k:Nat)(v v':Value)(w:World):Sem.run prog (method (k+1) 260 (.agg #[v,v']) "loop.example/kilnstone/impl.read") w=.ok (270,.agg #[v,v']) w:=by kernel_rfl
set_option maxRecDepth 100000 in
theorem nI(a:Option Addr)(hs:List (Int×List Int))(c:Nat)(g n cg m:Nat)(ps:List (List Int))(w:World)(h:Hld w a hs)(aT:∀p∈hs,p.2.length=64)(aL:∀p∈hs,0<=p.1)(hl:hs.length<=300)(hp:PR w g ps)(bE:ps.length=n)(aZ:n<=200)(hm:m<n):Calls prog 270 #[.agg #[.slice a hs.length c,.iface 133 (.slice (some ⟨g,0,none⟩) n cg)],.int .i64 (m:Int)] w λe w'=>e=.returned (.tuple #[.agg (((QE hs ps).getD m []).map (Value.int .u8)).toArray,.bool true])/\Below w.heap.size w w':=by
 obtain⟨RES,aC⟩:∃RES,Hid (RES=(QE hs ps).getD m []):=⟨_,LE rfl⟩;rw[<-aC.o]
 have aU:∀o1 o2,Below w.heap.size w ((w.alloc o1).alloc o2):=λo1 o2=>(LG _ _).alloc (by simp) _
 go_enter func270,ntmps270;go_wp2_with fail;obtain⟨wy,aI⟩:∃wy,wy=((w.alloc (.cells #[.slice a hs.length c,.iface 133 (.slice (some ⟨g,0,none⟩) n cg)] 260)).alloc (.cells ft 168)):=⟨_,rfl⟩;have aG:=aU (.cells #[.slice a hs.length c,.iface 133 (.slice (some ⟨g,0,none⟩) n cg)] 260) (.cells ft 168);have aK:=(Cx.new w (.slice a hs.length c) (.iface 133 (.slice (some ⟨g,0,none⟩) n cg)) 260).I (MB _ (.cells ft 168));have aM:=NT (w.alloc (.cells #[.slice a hs.length c,.iface 133 (.slice (some ⟨g,0,none⟩) n cg)] 260)) ft 168 (w.heap.size+1) (by simp);rw[<-aI]at aG aK aM;go_loopw [6] (λi wr=>∃k:Nat,k<=hs.length/\i=.int .i64 ((k:Int)-1)/\Hid (RES=(QE (hs.take k) ps).getD m [])/\wr=wy) (λi _=>((intOf i)+1).toNat)
 case atStart=>exact⟨hs.length,AA _,rfl,by show _=_;rw[DC,aC.o],by rw[aI];kernel_rfl⟩
 case round =>
  obtain⟨k,hk,rfl,HK,rfl⟩:=hrel;have q0:=aK.c0;have q1:=aK.c1;have aO:=LE aM;have aN:=LE aG;clear aM aI;rcases k with _|j
  ·have aP:=hp.I aG
   have aY:=λk=>vW k (some ⟨g,0,none⟩) n cg wr
   have aB:RES.length=64:=by rw[HK.o];exact YL hp.len (by show m<ps.length;omega)
   have aF:(RES.map (Value.int .u8)).toArray.size=64:=by simp[aB]
   have aA:Hid ((prog.info? 168).map (·.size)=some (RES.map (Value.int .u8)).length):=by show _=_;rw[BJ,aB];kernel_rfl
   have aH:Hid (ps.getD m []=RES):=HK.o.symm;go_wp2_with fail;refine(D2 g n cg m ps _ aP bE aZ hm).i ?_;rw[aH.o];rintro e w2 ⟨rfl,aJ⟩;have aE:=(aO.o.I aJ).there (n:=64) (by kernel_rfl);have aQ:=LE (Below.then aN.o (AA _) aJ);clear aJ aP aY q0 q1;go_wp2_with (with_reducible refine UX 168 _ _ rfl ?_;refine BI rfl 168 _ _ rfl (w.heap.size+1) 0 (RES.map (Value.int .u8)).toArray rfl rfl (by rw[aF];exact aE) (by rw[aF];kernel_rfl) (FQ (UA RES)) ?_);refine AJ (v:=.tuple #[.agg (RES.map (Value.int .u8)).toArray,.bool true]) (qr (p:=4) (u:=5) results270 _ _ (w.heap.size+1) 0 rfl (RES.map (Value.int .u8)) _ (DS _ _ _ _ (by rw[BJ,aB];exact aE)) underlying168 rfl aA.o) rfl ⟨rfl,?_⟩;exact Go.below_setCells (by omega) _ _ _ aQ.o
  have hj:j<hs.length:=by omega
  obtain⟨b,o,m0,x,rfl,bF,aD,HX⟩:=(h.I aG).at hj;have aB:x.length=64:=aT (m0,x) (by rw[HX.o];simp[List.getD,hj]);have aV:=aD 0 _ rfl;rw[GX]at aV;have e1:((j+1:Nat):Int)-1=(j:Int):=by omega
  rw[e1];clear e1
  by_cases aX:m0=(m:Int)
  ·subst aX
   have aW:m<(QE (hs.take j) ps).length:=by rw[ZZ];omega
   have aH:Hid (x=RES):=by
    show _=_;rw[HK.o,rk hs ps j hj,<-HX.o,DG];simp[List.getD,aW]
   rw[aH.o]at aD aB;have aF:(RES.map (Value.int .u8)).toArray.size=64:=by simp[aB]
   have aA:Hid ((prog.info? 168).map (·.size)=some (RES.map (Value.int .u8)).length):=by show _=_;rw[BJ,aB];kernel_rfl
   have aS:Hid (wr.rangeAt b (o+j*65+1) (RES.map (Value.int .u8))):=λi v hv=>by
    have:=aD (i+1) v (by simpa using hv);rw[<-this];congr 2;omega
   have aE:=aO.o.there (n:=64) (by kernel_rfl);clear aD
   go_wp2_with (first|(with_reducible refine WL 168 _ rfl ?_;refine AN rfl 168 _ rfl b (o+j*65+1) rfl (RES.map (Value.int .u8)) _ aS.o underlying168 rfl aA.o ?_)|(with_reducible refine UX 168 _ _ rfl ?_;refine BI rfl 168 _ _ rfl (w.heap.size+1) 0 (RES.map (Value.int .u8)).toArray rfl rfl (by rw[aF];exact aE) (by rw[aF];kernel_rfl) (FQ (UA RES)) ?_))
   refine AJ (v:=.tuple #[.agg (RES.map (Value.int .u8)).toArray,.bool true]) (qr (p:=4) (u:=5) results270 _ _ (w.heap.size+1) 0 rfl (RES.map (Value.int .u8)) _ (DS _ _ _ _ (by rw[BJ,aB];exact aE)) underlying168 rfl aA.o) rfl ⟨rfl,?_⟩;exact Go.below_setCells (by omega) _ _ _ aN.o
  have aR:Hid (RES=(QE (hs.take j) ps).getD m []):=by
   show _=_;rw[HK.o,rk hs ps j hj,<-HX.o];have h0:0<=m0:=aL (m0,x) (by rw[HX.o];simp[List.getD,hj]);have bC:m0.toNat≠m:=by omega
   simp[List.getD,IM bC]
  clear aD;go_wp2;go_roundw
  case rel=>exact⟨j,by omega,by go_num,aR,trivial⟩
  case measure=>simp[intOf]
theorem jr:∀(hs:List (Int×List Int)) (ps:List (List Int)),(∀p∈hs,p.2.length=64)->(∀p∈ps,p.length=64)->∀p∈QE hs ps,p.length=64
 | [],ps,_,h=>h
 | x::r,ps,h1,h2=>jr r _ (λp hp=>h1 p (BQ _ hp)) (λp hp=>by
  rcases EI hp with h3|h3
  ·exact h2 p h3
  ·rw[h3];exact h1 x (DZ ..))
theorem kk:∀(ws:List (Int×ByteArray)) (ss:List ByteArray),NK (QE (LP ws) (ss.map LF))=NY ws ss
 | [],ss=>by
  show(ss.map LF).map strOfNums=ss;rw[IT];exact KS (λs=>SJ s) ss
 | x::r,ss=>by
  have:=kk r (ss.set x.1.toNat x.2);rw[JZ]at this;exact this
end
section
open Tryz
open Go.RowKit Go.ChangeShapes Go.WideShapes Go.Deep
section
variable {H:Type} {enc:TypeId×Value->H} {P:Program} {w:World} {base:Nat} {spare:Nat->Bool} {XbJ:Bool}
theorem xO{t e:TypeId}{aD:Nat}{v:Value}{x:DataW H×List MemPlace}(ht:P.underlying t=some (.slice e))(he:P.underlying e=some (.int .i64))(hc:P.cellsOf e=1)
  (h:DataW.trod enc P w base spare XbJ aD t [v]=some x):∃a zs c,v=.slice a zs.length c/\Ints w a zs/\zs.length<=maxLen:=by
 rcases open_ints ht he hc h with ⟨aC,_⟩|⟨a,aB,cap,zs,aC,_,hl,hm,hz,_,aA,_⟩
 ·simp at aC
  exact⟨none,[],0,by simpa using aC,.inl rfl,by simp⟩
 simp at aC
 have aF:aB<=zs.length:=by rw[hz];split<;>omega
 have e1:(zs.take aB).length=aB:=by simp;omega
 refine⟨some a,zs.take aB,cap,by rw[e1];exact aC,?_,by omega⟩
 by_cases h0:aB=0
 ·exact .inl (by subst h0;simp)
 obtain⟨b,o,rfl⟩:=ZX (aA 0 (by omega)) ⟨_,aA 0 (by omega)⟩
 have hb:=BE w _ (aA 0 (by omega));rw[UB]at hb;refine .inr ⟨b,o,rfl,hb,λi hi=>?_⟩;have:=aA i (by omega);rw[UB]at this;rw[this];have aE:i<aB:=by omega
 simp[List.getD,EM aE]
end
