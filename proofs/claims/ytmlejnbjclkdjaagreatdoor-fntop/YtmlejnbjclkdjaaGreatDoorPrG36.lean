import Derived.Test.YtmlejnbjclkdjaaGreatDoorPrAr
import Derived.Test.YtmlejnbjclkdjaaGreatDoorPrRpS
import Derived.Deep.Onto
import Derived.Test.YtmlejnbjclkdjaaGreatDoorPrCutI
import Derived.Deep.AppendSrc
import Derived.Test.YtmlejnbjclkdjaaGreatDoorPrRbWa
import Derived.Test.YtmlejnbjclkdjaaGreatDoorPrRbWb
import Derived.Test.YtmlejnbjclkdjaaGreatDoorPrRbWc
import Derived.Test.YtmlejnbjclkdjaaGreatDoorPrRbWd
import Derived.Test.YtmlejnbjclkdjaaGreatDoorPrRbWe
import Derived.Test.YtmlejnbjclkdjaaGreatDoorPrFbS
import Derived.Laws.IdiomCopy
import Derived.Great.BuildSlice
import Derived.Test.YtmlejnbjclkdjaaGreatDoorPrFate
import Derived.Laws.ResultCell
set_option maxHeartbeats 16000000
set_option maxRecDepth 8000
set_option linter.all false
namespace Go.Proofs.YtmlejnbjclkdjaaGreatDoor
open _root_.ByteArray(empty)
open Tryz
open Go.RowKit
variable {K:Act->Nb->Prop}{aH:Array Oper}{op p:Y}{Q:Exit->Act->Nb->Prop}{first m n wk wl:Int}{B f frm g i k size:Nat}{o:Oper}{a:M6}{P:Program}{E:Prop}{e:TypeId}{v y:Nc}{W w w' w1:Nb}
theorem fv(r:Y):∀y∈LI r,0<=y/\y<=255:=by
 intro y b;unfold LI at b;obtain⟨c,_,rfl⟩:=DS.1 b;have:=IA c;omega
theorem ja(b:Y)(i j:Nat):LI (b.extract i j)=((LI b).take j).drop i:=by
 unfold LI;rw[<-IL,<-KP,EY,JT];simp[List.extract,FV]
theorem YW:∀(k:Nat) (b:List Int),b.length=k->(∀y∈b,0<=y/\y<=255)->0<=NY b/\NY b<(256:Int) ^ k:=by
 intro k
 induction k with
 | zero=>intro b c _;have:b=[]:=AC c;subst this;simp[NY]
 | succ k q =>
  intro b c j;have d:b≠[]:=by intro h;subst h;simp at c
  have l:=JV d;have r:=q b.dropLast τ (λy h=>j y (List.dropLast_subset _ h));have s:=j _ (List.getLast_mem d);rw[<-l,nn,KZ];omega
theorem nM(y:Int):NY [y]=y:=by simp[NY]
theorem rL(s:Y)(n:Nat)(l:s.size=64)(r:n<=8){b:Y}(j:b=s.extract n 64):(rpN b:Int)=NY (((LI s).drop (n+7)).take 1)/\TO b=NY (((LI s).drop n).take 1)/\UN b=NY (((LI s).drop (n+1)).take 2)/\UO b=NY (((LI s).drop (n+3)).take 4)/\UE b=strOfNums (((LI s).drop (n+8)).take (rpN b)):=by
 have c:LI b=(LI s).drop n:=by rw[j,ja,AQ (by rw[NH];omega)]
 have q:b.data.toList.length=64-n:=by have:=NH s;have h:=CX List.length c;rw[CU,NH,NH,l]at h;exact h
 have d:∀i,i<64-n->NY (((LI s).drop (n+i)).take 1)=((b.data.toList.getD i 0).toNat:Int):=λi t=>by
  rw[<-FU,<-c];unfold LI;rw[<-KP,<-IL,GW ω];simp only[EW,ES,IK,KS,nM];rw[AZ,BQ ω];rfl
 refine⟨?_,?_,?_,?_,?_⟩
 ·rw[d 7 ω];rfl
 ·have:=d 0 ω;rw[FX]at this;rw[this];rfl
 ·unfold UN;rw[ja,c];simp[FV,FU]
 ·unfold UO;rw[ja,c];simp[FV,FU]
 unfold UE
 rw[<-TM (b.extract 8 (8+rpN b)),ja,c];simp[FV,FU]
abbrev RtT:=Int×Int×Int×Int
def RU(p:Y):Int:=NY ((LI p).take 1)
def RK(p:Y):Int:=NY (((LI p).drop 1).take 4)
def MV(s:Y)(a n:Int):Option RtT :=match MA s n with
 | none=>none
 | some (_,l,m,p)=>if p.size=5/\MZ m (RU p) (RK p) l n=s/\m % 2=a then some (m,RU p,RK p,l) else none
theorem SA{s:Y}{k l:Int}(h:MA s n=some (k,l,m,p)):s.size=64/\MM k l m p n=s/\1<=m/\m<=1000000000/\1<=l/\l<=60000/\p.size<=64:=by
 unfold MA at h
 split at h
 ·rename_i j
  obtain⟨q,r,c,t,b⟩:=j;simp only[BP,BV]at h;obtain⟨rfl,rfl,rfl,rfl⟩:=h;refine⟨c,b,?_⟩
  have d:NQ (TO (s.extract n.toNat 64)) (UN (s.extract n.toNat 64)) (UO (s.extract n.toNat 64)) (UE (s.extract n.toNat 64)) n=true:=by
   cases hc:NQ (TO (s.extract n.toNat 64)) (UN (s.extract n.toNat 64)) (UO (s.extract n.toNat 64)) (UE (s.extract n.toNat 64)) n with
   | true=>rfl
   | false =>
    exfalso;unfold MM at b;rw[hc,AG σ]at b;rw[<-b]at c;exact absurd c δ
  have u:=AV (by unfold NQ at d;exact d);omega
 cases h
theorem yg{s:Y}{a:Int}{x:RtT}(h:MV s a n=some x):1<=x.1:=by
 unfold MV at h
 split at h
 ·cases h
 rename_i k l m p b
 split at h
 ·simp only[BP]at h
  subst h;exact(SA b).2.2.1
 cases h
def QB(b:RtT)(o:Option RtT):RtT:=match o with
 | none=>b
 | some r=>if b.1<r.1 then r else b
def OC(b c:Y)(n:Int):RtT:=QB (QB (0,0,1,0) (MV b 0 n)) (MV c 1 n)
def OA:RtT:=(0,0,0,0)
def RN(b r:RtT):RtT:=if b.1<r.1 then r else b
theorem Dh(h c:Y)(n:Int):(if RN (RN OA ((MV h 0 n).getD OA)) ((MV c 1 n).getD OA)=OA then ((0,0,1,0):RtT) else RN (RN OA ((MV h 0 n).getD OA)) ((MV c 1 n).getD OA))=OC h c n:=by
 unfold OC
 cases h0:MV h 0 n with
 | none =>
  cases h1:MV c 1 n with
  | none=>simp[RN,OA,QB]
  | some y =>
   have:=yg h1;obtain⟨b,u,z,A⟩:=y;have j:(0:Int)<b:=by show 0<b;have:1<=b:=this;omega
   have d:¬b=0:=ω
   simp[RN,OA,QB,j,d]
 | some x =>
  have s:=yg h0;obtain⟨d,C,D,F⟩:=x;have l:(0:Int)<d:=by have:1<=d:=s;omega
  have j:¬d=0:=ω
  cases h1:MV c 1 n with
  | none =>
   have b:¬d<0:=ω
   simp[RN,OA,QB,l,j,b]
  | some y =>
   have t:=yg h1;obtain⟨b,u,z,A⟩:=y;have q:¬b=0:=by have:1<=b:=t;omega
   by_cases r:d<b
   ·simp[RN,OA,QB,l,j,r,q]
   simp[RN,OA,QB,l,j,r,q]
def PD(wk wl k l:Int):Bool:=decide (wl<=l) && (if k=3 then decide (wk≠1) else (decide (k=1) || decide (k=2)) && (decide (wk≠1) || decide (wl=l)))
abbrev Scd:=List Y×Int×Int
def ML(S:Nat->Y)(frm:Nat)(first n:Int):Nat->Nat->Int->Int->Y->Scd->Scd
 | 0,_,_,_,_,out=>out
 | f+1,i,wk,wl,op,out =>
  match MA (S (frm+i)) n with
  | none=>out
  | some (k,l,m,p)=>if IntKind.i64.wrap (m-(i:Int))=first/\PD wk wl k l=true then
    (if k=1 then ML S frm first n f (i+1) k l (op++p) out
     else ML S frm first n f (i+1) k l empty (if k=2 then out.1++[op++p] else out.1,(i:Int)+1,l))
   else out
theorem dy{S:Nat->Y}{b:Scd}(h:MA (S (frm+i)) n=none):ML S frm first n f i wk wl op b=b:=by
 cases f with
 | zero=>rfl
 | succ f=>rw[ML,h]
theorem ZT{S:Nat->Y}{k l:Int}{b:Scd}(h:MA (S (frm+i)) n=some (k,l,m,p))(c:¬(IntKind.i64.wrap (m-(i:Int))=first/\PD wk wl k l=true)):ML S frm first n f i wk wl op b=b:=by
 cases f with
 | zero=>rfl
 | succ f=>rw[ML,h];simp only;rw[AG c]
theorem XL{S:Nat->Y}{l:Int}{b:Scd}(h:MA (S (frm+i)) n=some (1,l,m,p))(d:IntKind.i64.wrap (m-(i:Int))=first)(c:PD wk wl 1 l=true):ML S frm first n (f+1) i wk wl op b=ML S frm first n f (i+1) 1 l (op++p) b:=by
 rw[ML,h];simp only;rw[AE ⟨d,c⟩,AE trivial]
theorem WC{S:Nat->Y}{k l:Int}{out:Scd}(h:MA (S (frm+i)) n=some (k,l,m,p))(d:IntKind.i64.wrap (m-(i:Int))=first)(b:PD wk wl k l=true)(c:k≠1):ML S frm first n (f+1) i wk wl op out=ML S frm first n f (i+1) k l empty (if k=2 then out.1++[op++p] else out.1,(i:Int)+1,l):=by
 rw[ML,h];simp only;rw[AE ⟨d,b⟩,AG c]
def WM(wk wl k l:Int):Bool:=if k=1\/k=2 then (decide (l=wl) || (!decide (wk=1) && decide (wl<l))) else if k=3 then decide (wl<=l) && !decide (wk=1) else false
theorem Jy(wk wl k l:Int):WM wk wl k l=PD wk wl k l:=by
 unfold WM PD;rw[IY]
 by_cases c:k=3
 ·subst c
  simp
 by_cases b:k=1\/k=2
 ·have d:(decide (k=1) || decide (k=2))=true:=by simpa using b
  rw[AE b,AG c,d]
  by_cases h:wk=1
  ·subst h;simp;omega
  simp[h];omega
 have d:(decide (k=1) || decide (k=2))=false:=by simpa using b
 rw[AG b,AG c,AG c,d];simp
theorem Fc(S:Nat->Y)(frm:Nat)(first n:Int)(f i:Nat)(wl:Int)(op:Y)(b:Scd):ML S frm first n f i 2 wl op b=ML S frm first n f i 0 wl op b:=by
 cases f with
 | zero=>rfl
 | succ f =>
  rw[ML,ML]
  have:∀k l,PD 2 wl k l=PD 0 wl k l:=λk l=>by unfold PD;simp
  simp only[this]
theorem yx(S:Nat->Y)(frm:Nat)(first n:Int):∀(f i:Nat) (wk wl:Int) (op:Y) (out:Scd) (B:Nat),op.size+64*f<=B->(∀e∈out.1,e.size<=B)->(∀e∈(ML S frm first n f i wk wl op out).1,e.size<=B)/\(ML S frm first n f i wk wl op out).1.length<=out.1.length+f
 | 0,i,wk,wl,op,out,B,_,h2=>⟨h2,by simp[ML]⟩
 | f+1,i,wk,wl,op,out,B,h1,h2=>by
  rw[ML]
  split
  ·exact⟨h2,ω⟩
  rename_i k l m p hp
  have hps:=(SA hp).2.2.2.2.2.2
  split
  ·split
   ·have:=yx S frm first n f (i+1) k l (op++p) out B (by rw[BN];omega) h2
    exact⟨this.1,ω⟩
   have:=yx S frm first n f (i+1) k l empty (if k=2 then out.1++[op++p] else out.1,(i:Int)+1,l) B (by show 0+_<=_;omega) (by
    intro e he;simp only at he
    split at he
    ·rw[BJ]at he
     rcases he with he|he
     ·exact h2 e he
     simp at he;subst he;rw[BN];omega
    ·exact h2 e he)
   refine⟨this.1,AK this.2 ?_⟩;simp only
   split
   ·simp;omega
   omega
  exact⟨h2,ω⟩
theorem ur(S:Nat->Y)(frm:Nat)(first n:Int):∀(f i:Nat) (wk wl:Int) (op:Y) (out:Scd),(0<=out.2.1/\out.2.1<=(i:Int))->0<=(ML S frm first n f i wk wl op out).2.1/\(ML S frm first n f i wk wl op out).2.1<=(i:Int)+f
 | 0,i,wk,wl,op,out,h=>by rw[ML];omega
 | f+1,i,wk,wl,op,out,h=>by
  rw[ML]
  split
  ·omega
  rename_i k l m p hp
  split
  ·split
   ·have:=ur S frm first n f (i+1) k l (op++p) out ω
    omega
   have:=ur S frm first n f (i+1) k l empty (if k=2 then out.1++[op++p] else out.1,(i:Int)+1,l) (by show 0<=(i:Int)+1/\(i:Int)+1<=_;omega)
   omega
  omega
theorem vr(S:Nat->Y)(frm:Nat)(first n:Int):∀(f i:Nat) (wk wl:Int) (op:Y) (out:Scd),(ML S frm first n f i wk wl op out).2.2=out.2.2\/(1<=(ML S frm first n f i wk wl op out).2.2/\(ML S frm first n f i wk wl op out).2.2<=60000)
 | 0,i,wk,wl,op,out=>.inl rfl
 | f+1,i,wk,wl,op,out=>by
  rw[ML]
  split
  ·exact .inl rfl
  rename_i k l m p hp
  have hl:=SA hp
  split
  ·split
   ·exact vr S frm first n f (i+1) k l (op++p) out
   rcases vr S frm first n f (i+1) k l empty (if k=2 then out.1++[op++p] else out.1,(i:Int)+1,l) with h|h
   ·right
    rw[h];show 1<=l/\l<=60000;omega
   exact .inr h
  exact .inl rfl
theorem ma(s:Y)(n:Int)(w:Nb)(J:s.size<=1048576):Calls prog 45 #[Mz s,.int .i64 n] w λe w'=>e=M3 (TP (MA s n))/\Below w.heap.size w w':=by
 have u:∀o,Below w.heap.size w (w.alloc o):=λo=>LO _ _
 by_cases t:1<=n/\n<=8
 focus
  obtain⟨m,rfl⟩:∃m:Nat,n=(m:Int):=⟨n.toNat,ω⟩;have r:decide (1<=(m:Int)/\(m:Int)<=8)=true:=τ
  by_cases l:s.size=64
  ·by_cases j:rpN (s.extract m 64)<=56-m
   ·exact Cb s m w l ω ω j
   have d:=MF (YM (s:=s) (n:=(m:Int)) (λc=>j (by have:=c.2.2.2.1;rw[BM]at this;omega)))
   have A:(s.size:Int)=64:=ω
   obtain⟨b,x⟩:∃b,s.extract m 64=b:=⟨_,rfl⟩;have z:b.size=64-m:=by rw[<-x];simp only[AO];omega
   obtain⟨q,I⟩:∃q:Nat,b.size=q:=⟨_,rfl⟩;have D:7<b.size:=ω
   have C:=ou b 7 D;rw[x]at j;obtain⟨N,h⟩:∃N,N=(b.data.toList.getD 7 0).toNat:=⟨_,rfl⟩;rw[<-h]at C;have G:(64-(m:Int)-8)<(N:Int):=by have:rpN b=N:=h.symm;omega
   have F:N<=255:=by rw[h];have:=IA (b.data.toList.getD 7 0);omega
   have H:(7:Int)<(q:Int):=ω
   have aH:m+q=64:=ω
   clear z h j;go_enter func45,ntmps45
   go_wp2_with (first|(go_at_call 21;refine(RO _ _).z ?_;rw[r];rintro e h ⟨rfl,rfl⟩)|(go_at_call 82;refine(fw _ _ ω ω).z ?_;rintro e h ⟨rfl,rfl⟩))
   refine AJ (v:=.tuple #[OE 0 0 0 ⟨#[]⟩,M0 false]) (by simp[results,results45,go_sem]) rfl ⟨by rw[d.l];rfl,?_⟩;exact u _
  focus
   have d:=MF (YM (s:=s) (n:=(m:Int)) (λc=>l c.2.2.1));have A:((s.size:Int) != 64)=true:=τ
   clear l
  rotate_left
 rotate_left
 focus
  have d:=MF (YM (s:=s) (n:=n) (λc=>t ⟨c.1,c.2.1⟩));have r:decide (1<=n/\n<=8)=false:=by simpa using t
  clear t
 rotate_left
 all_goals
  go_enter func45,ntmps45
  go_wp2_with (first|(go_at_call 21;refine(RO _ _).z ?_;rw[r];rintro e h ⟨rfl,rfl⟩))
  refine AJ (v:=.tuple #[OE 0 0 0 ⟨#[]⟩,M0 false]) (by simp[results,results45,go_sem]) rfl ⟨by rw[d.l];rfl,?_⟩;exact u _
def Plt(w:Nb)(a:M6)(c:List (List Int)):Prop :=c=[]\/∃b o,a=Mw b o/\b<w.heap.size/\∀i,i<c.length->w.rangeAt b (o+i*64) ((c.getD i []).map (Value.int .u8))
def Hld(w:Nb)(a:M6)(c:List (Int×List Int)):Prop :=c=[]\/∃b o,a=Mw b o/\b<w.heap.size/\∀i,i<c.length->w.rangeAt b (o+i*65) (.int .i64 (c.getD i (0,[])).1::(c.getD i (0,[])).2.map (Value.int .u8))
theorem sC{b o:Nat}{c:List Nc}(h:w.rangeAt b o c)(l:Below w.heap.size w w')(d:b<w.heap.size):w'.rangeAt b o c:=λj v hv=>(l.cell (p:=⟨b,o+j,none⟩) d).j (h j v hv)
theorem Plt.I{j:List (List Int)}(h:Plt w a j)(d:Below w.heap.size w w'):Plt w' a j:=by
 rcases h with h|⟨b,o,l,c,q⟩
 ·exact .inl h
 exact .inr ⟨b,o,l,AD c d.size,λi r=>sC (q i r) d c⟩
theorem Hld.I{j:List (Int×List Int)}(h:Hld w a j)(d:Below w.heap.size w w'):Hld w' a j:=by
 rcases h with h|⟨b,o,l,c,q⟩
 ·exact .inl h
 exact .inr ⟨b,o,l,AD c d.size,λi r=>sC (q i r) d c⟩
theorem Plt.at{c:List (List Int)}(h:Plt w a c)(d:k<c.length):∃b o x,a=Mw b o/\b<w.heap.size/\w.rangeAt b (o+k*64) (x.map (Value.int .u8))/\Hid (x=c.getD k []):=by
 rcases h with h|⟨b,o,j,l,q⟩
 ·subst h;simp at d
 exact⟨b,o,_,j,l,q k d,Z rfl⟩
theorem Hld.at{c:List (Int×List Int)}(h:Hld w a c)(d:k<c.length):∃b o n x,a=Mw b o/\b<w.heap.size/\w.rangeAt b (o+k*65) (.int .i64 n::x.map (Value.int .u8))/\Hid ((n,x)=c.getD k (0,[])):=by
 rcases h with h|⟨b,o,j,l,q⟩
 ·subst h;simp at d
 exact⟨b,o,_,_,j,l,q k d,Z rfl⟩
theorem ic(n:Int)(b:List Int):∀v∈Value.int .i64 n::b.map (Value.int .u8),v.oneCell'=true:=λv hv=>by
 rcases DY.1 hv with rfl|hv
 ·rfl
 exact WB b v hv
theorem Lw(w:Nb)(A:Array Nc)(t:TypeId):(w.alloc (.cells A t)).there w.heap.size 0 A.size:=λj b=>by
 rw[BG,EL _ _ _ _ rfl,DQ];exact⟨by simp[b],XR _ _ _ (AA _)⟩
theorem df{l:Array Oper}{j:List Oper}{op:Oper}{a:Act}(s:op.guard=none)(d:TypeId)(x y:Operand)(C:op.op=.store d x y)
  (b:List Nc)(u:∀v∈b,v.oneCell'=true)(F:a.eval x=Mv w.heap.size 0)(G:a.eval y=.agg b.toArray)(A:Array Nc)(t:TypeId)(z:A.size=b.length)
  (q:(P.info? d).map (·.size)=some b.length)
  (h:∀c,Row c w.heap.size b->Below w.heap.size w c->c.heap.size=w.heap.size+1->wpList P l Q j (a.put op.dst undef) c):wpList P l Q (op::j) a (w.alloc (.cells A t)):=by
 have c:=Lw w A t;rw[z]at c;have r:b.toArray.size=b.length:=σ
 refine BI s d x y C w.heap.size 0 _ F G (by rw[r];exact c) (by rw[r];exact q) (GH u) ?_;have D:=EG (w.alloc (.cells A t)) w.heap.size 0 b c;refine h _ ⟨by rw[VW];simp,λi v hv=>?_,λi q=>?_⟩ (Go.below_setCells (AA _) _ _ _ (LO _ _)) (by rw[VW];simp)
 ·have:=D i v hv
  simpa using this
 rw[FC,DQ];exact XR _ _ _ (AA _)
theorem Row.text{l:List Nc}(h:Row w g l)(c:List Int)(o n b:Nat)(x:c.length=n)(q:∀i,i<n->l[o+i]?=some (.int .u8 (c.getD i 0)))(j e d:TypeId)(u:P.underlying j=some (.slice e))(s:P.underlying e=some (.int .u8))(r:P.underlying d=some .string):(convert j d (.slice (Mw g o) n b)).run P w=.ok (Mz (strOfNums c)) w :=FO (P:=P) w j e u s g o n b c x (λi t=>h.cell _ _ (q i t)) d r
theorem Dsk.start3(w:Nb)(d h:Nc)(j l q e r:TypeId):Dsk w (((w.alloc (.cells #[d,h] j)).alloc (.cells #[.slice none 0 0,.slice none 0 0] l)).alloc (.cells #[.slice none 0 0,.slice none 0 0] q)) (w.heap.size+1) (w.heap.size+1+1) (w.heap.size+1+1+1) e r (.slice none 0 0) (.slice none 0 0) [] []:=by
 have s:Below w.heap.size w (((w.alloc (.cells #[d,h] j)).alloc (.cells #[.slice none 0 0,.slice none 0 0] l)).alloc (.cells #[.slice none 0 0,.slice none 0 0] q)):=((LO _ _).alloc σ _).alloc τ _;have b:=(MT (w.alloc (.cells #[d,h] j)) #[.slice none 0 0,.slice none 0 0] l).alloc (.cells #[.slice none 0 0,.slice none 0 0] q);have c:=MT ((w.alloc (.cells #[d,h] j)).alloc (.cells #[.slice none 0 0,.slice none 0 0] l)) #[.slice none 0 0,.slice none 0 0] q;simp only[BD]at b c;exact⟨ω,ω,ω,ω,ω,σ,s,b.y 0,b.y 1,b.A 0,b.A 1,c.y 0,c.y 1,c.A 0,c.A 1,DA _ _ _ _,DA _ _ _ _,.inl rfl⟩
theorem Dsk.far{R D c:Nat}{l:TypeId}{C:Nc}{A:List Y}{F:List (Int×Y)}(h:Dsk W w R D c e l v C A F)(s:w.grownBy w1 v.ownBlock)(b i j:Nat)(r:b<c)(t:b≠D)(u:Nc):(w1.setCell ⟨D,j,none⟩ u).cell? ⟨b,i,none⟩=w.cell? ⟨b,i,none⟩:=by
 have x:b<w.heap.size:=AD r h.sz
 have z:some b≠v.ownBlock:=λd=>by have:=(h.own.lt b d.symm).1;omega
 rw[CZ (w:=w1) (h:=show(⟨D,j,none⟩:Addr)≠⟨b,i,none⟩ fromλd=>t (by injection d with q;exact q.symm))];exact s.cell_far ⟨b,i,none⟩ x z
def OI(b:List (List Int)):List Y:=b.map strOfNums
def XbJ(b:List (Int×List Int)):List (Int×Y):=b.map λx=>(x.1,strOfNums x.2)
def YY:Array Nc:=#[.int .i64 0]++Array.replicate 64 (.int .u8 0)
theorem il(w:Nb):(zeroValue 175).run prog w=.ok (.agg YY) w:=κ
theorem Ih(b:List (List Int))(k:Nat)(h:k<b.length):OI (b.take (k+1))=OI (b.take k)++[strOfNums (b.getD k [])]:=by
 unfold OI;rw[AY h,DK];simp[List.getD,h]
theorem Ej(b:List (Int×List Int))(k:Nat)(h:k<b.length):XbJ (b.take (k+1))=XbJ (b.take k)++[((b.getD k (0,[])).1,strOfNums (b.getD k (0,[])).2)]:=by
 unfold XbJ;rw[AY h,DK];simp[List.getD,h]
def vx:Nc:=.agg (Array.replicate 64 (.int .u8 0))
theorem vS:(prog.info? 142).map (λi=>(i.zero,i.size,i.bytes))=some (some vx,64,64):=κ
theorem pH(n:Nat):(madeCells vx.cells (n*64)).toList=List.replicate (n*64) (.int .u8 0):=by
 unfold madeCells;rw[Array.toList_map,Array.toList_range,KU];refine⟨σ,λb h=>?_⟩;obtain⟨i,_,rfl⟩:=DS.1 h;have d:vx.cells=Array.replicate 64 (.int .u8 0):=rfl;have c:i % (Array.replicate 64 (Value.int .u8 0)).size<64:=by rw[Array.size_replicate];omega
 rw[d];rw[getElem!_pos _ _ (by rw[Array.size_replicate]at c⊢;exact c)];simp
theorem xZ{n:Nat}(h:Row w g (List.replicate (n*64) (.int .u8 0))):Plt w (Mw g 0) (List.replicate n (List.replicate 64 0)):=by
 refine .inr ⟨g,0,rfl,h.lt,λi b j v hv=>?_⟩;rw[DI]at b;have d:(List.replicate n (List.replicate 64 (0:Int))).getD i []=List.replicate 64 0:=by rw[AZ,EM,AE b];rfl
 rw[d,List.map_replicate,EM]at hv
 by_cases c:j<64
 ·rw[AE c]at hv
  cases hv
  rw[BG];exact h.cell _ _ (by rw[EM,AE ω])
 rw[AG c]at hv;cases hv
theorem uc(n:Nat)(h:0<n):Builtin.nextslicecap n 0=n:=by
 unfold Builtin.nextslicecap;simp;omega
theorem Gu{a:Act}
  (O:o.guard=none)(s x:Operand)(t:TypeId)(r:o.op=.call { callee:=.builtin .append,args:=#[s,x],argTypes:=#[t,t] })
  (e:TypeId)(i:TypeInfo)(z:Nc)(size l:Nat)(G:P.underlying t=some (.slice e))(A:P.info? e=some i)(T:i.zero=some z)(J:i.size=size)(N:i.bytes=l)
  (b:Nat)(F:a.eval s=.slice (Mw b 0) 0 0)(v:Nc)(I:a.eval x=v)(n:Nat)(c:List Nc)(q:Src P size t v n c w)(U:c.length=n*size)(V:n<=1048576)(M:n*l<=281474976710656)
  (h:∀g d j,(n=0\/(g=w.heap.size/\Row j g c))->Below w.heap.size w j->K (a.put o.dst (.slice (Mw g 0) n d)) j):if Region.wanted o (yielded aH a.tmps)=true then Oper.wp P o a w K Q else E:=by
 have S:Region.wanted o (yielded aH a.tmps)=true:=by simp[Region.wanted,O]
 rw[AE S];subst J N
 by_cases R:n=0
 ·subst R
  have j:c=[]:=AC ω;subst j;have d:=run_append_room_src (P:=P) w t t o.type e i G A b 0 0 0 v 0 [] q ω σ σ;unfold Oper.wp;simp[execOp,r,resolve,invoke,builtin,F,I,d,Result.andThen];exact h b 0 _ (.inl rfl) (AB _ _)
 have L:(Builtin.firstCells i.size 0 (.slice (Mw b 0) 0 0)).run P w.drew=.ok ([]:List Nc).toArray w.drew:=GI w.drew i.size 0 _ 0 0 [] σ σ
 have d:=run_append_grow_src (P:=P) w t t o.type e i z G A T (Mw b 0) 0 0 [] L v n c q ω ω (by rw[BG,uc n ω];exact M);unfold Oper.wp;simp[execOp,r,resolve,invoke,builtin,F,I,d,Result.andThen];refine h w.heap.size _ _ (.inr ⟨rfl,?_⟩) ((AB _ _).drew.alloc (AA _) _);have D:=MT w.drew ((([]:List Nc)++c).toArray++Builtin.zeroCells z.cells (grownCap w (0+n) 0 e-(0+n))) e;refine⟨σ,λj u H=>?_,λj C=>?_⟩
 ·have:=D.cell j u (by
   obtain⟨C,_⟩:=DJ.1 H
   simp[BC C,H])
  simpa using this
 have:=D.froz j τ
 simpa using this
theorem fh{d:List Y}(h:Strs w a d)(t e:TypeId)(q:P.underlying t=some (.slice e))(c:Nat):Src P 1 t (.slice a d.length c) d.length (d.map Value.string) w:=by
 rcases h with h|⟨b,o,rfl,A,z⟩
 ·subst h
  cases a with
  | none=>exact Src.ofNil w q c
  | some x=>exact Src.ofSlice w q x 0 c [] σ σ σ
 refine Src.ofSlice w q ⟨b,o,none⟩ d.length c _ σ (λj u r=>?_) (λu r=>by obtain⟨s,_,rfl⟩:=DS.1 r;rfl)
 obtain⟨l,e⟩:=DJ.1 r;simp only[BU]at l;have r:(⟨b,o,none⟩:Addr).add j=⟨b,o+j,none⟩:=by unfold Addr.add;split<;>simp_all
 rw[r,z j l,<-e];simp[List.getD,l]
theorem zO{d:List (Int×Y)}(h:Wrs w a d)(t e:TypeId)(s:P.underlying t=some (.slice e))(c:Nat):Src P 2 t (.slice a d.length c) d.length (NP d) w:=by
 rcases h with h|⟨b,o,rfl,F,z⟩
 ·subst h
  cases a with
  | none=>exact Src.ofNil w s c
  | some x=>exact Src.ofSlice w s x 0 c [] σ σ σ
 refine Src.ofSlice w s ⟨b,o,none⟩ d.length c _ (ca d) (λj u l=>?_) (λu l=>?_)
 ·obtain⟨C,e⟩:=DJ.1 l
  rw[ca]at C;have x:(⟨b,o,none⟩:Addr).add j=⟨b,o+j,none⟩:=by unfold Addr.add;split<;>simp_all
  obtain⟨q,D⟩:∃q,j=q*2\/j=q*2+1:=⟨j / 2,ω⟩;have r:q<d.length:=ω
  have A:=jy d q r;rcases D with rfl|rfl
  ·rw[x,(z q r).1,<-l,A.1]
  rw[x,<-KQ,(z q r).2,<-l,A.2]
 unfold NP at l
 obtain⟨x,_,q⟩:=IU.1 l;simp at q;rcases q with rfl|rfl<;>rfl
def ZG(w:Nb)(p:Addr):Nc:=(w.cell? p).getD (.int .i64 0)
theorem ZD{p:Addr}(h:(w.cell? p).isSome=true):w.cell? p=some (ZG w p):=by
 unfold ZG
 cases e:w.cell? p with
 | none=>rw[e]at h;exact absurd h σ
 | some v=>rfl
theorem WJ{p:Addr}(h:w.cell? p=some v):(w.cell? p).isSome=true:=by rw[h];rfl
def KeepC(d:Nb)(X:Nat)(b c:Nc)(w:Nb):Prop :=w.cell? ⟨X,0,none⟩=some b/\w.cell? ⟨X,1,none⟩=some c/\w.cell? ⟨X+1,0,none⟩=some (ZG w ⟨X+1,0,none⟩)/\w.cell? ⟨X+1,1,none⟩=some (ZG w ⟨X+1,1,none⟩)/\w.frozen? ⟨X+1,0,none⟩=false/\w.frozen? ⟨X+1,1,none⟩=false/\d.grownBy w (some (X+1))/\X+1<w.heap.size
theorem KeepC.I{r:Nb}{X:Nat}{l q:Nc}(h:KeepC r X l q w)(b:Below w.heap.size w w'):KeepC r X l q w':=by
 obtain⟨t,u,x,z,A,C,c,d⟩:=h;refine⟨(b.cell (p:=⟨X,0,none⟩) (by show X<_;omega)).j t,(b.cell (p:=⟨X,1,none⟩) (by show X<_;omega)).j u,?_,?_,?_,?_,⟨b.os.j c.os,b.tape.j c.tape,b.output.j c.output,AK c.size b.size,λi j s=>(b.block i (AD j c.size)).j (c.block i j s)⟩,AD d b.size⟩
 ·exact ZD (by rw[b.cell (p:=⟨X+1,0,none⟩) d];exact WJ x)
 ·exact ZD (by rw[b.cell (p:=⟨X+1,1,none⟩) d];exact WJ z)
 ·rw[b.frozen (p:=⟨X+1,0,none⟩) d];exact A
 rw[b.frozen (p:=⟨X+1,1,none⟩) d];exact C
theorem KeepC.set{r:Nb}{X:Nat}{l q:Nc}(h:KeepC r X l q w)(j:Nat)(v:Nc):KeepC r X l q (w.setCell ⟨X+1,j,none⟩ v):=by
 obtain⟨s,t,x,z,A,C,b,D⟩:=h
 have d:∀p,(w.cell? p).isSome=true->((w.setCell ⟨X+1,j,none⟩ v).cell? p).isSome=true:=λp c=>by
  by_cases e:(⟨X+1,j,none⟩:Addr)=p
  ·subst e
   obtain⟨u,F⟩:=FW.1 c;rw[FK (w:=w) (h:=F)];rfl
  rw[CZ (w:=w) (h:=e)];exact c
 refine⟨(DC _ _ _ _ (by show X+1≠X;omega)).j s,(DC _ _ _ _ (by show X+1≠X;omega)).j t,ZD (d _ (WJ x)),ZD (d _ (WJ z)),by rw[BS];exact A,by rw[BS];exact C,⟨(YG (X+1) [v] j w).1.j b.os,(YG (X+1) [v] j w).2.1.j b.tape,(YG (X+1) [v] j w).2.2.j b.output,by simpa using b.size,λi u c=>?_⟩,by simpa using D⟩;rw[<-b.block i u c];exact jg (X+1) [v] j w i (λe=>c (by rw[e]))
theorem qD(B R:Nat)(h s:Nb)(l:List Y)(q:List (Int×Y))(c d r u:Nat)(H I:Nc)(aH:B<=r)(O:R<r)(x:l.length=0\/c=r/\Row h c (l.map Value.string))(D:Below h.heap.size h s)(L:r<=h.heap.size)(J:h.heap.size<=u)(z:q.length=0\/d=u/\Row s d (NP q)):OwnD ((s.setCell ⟨R,0,none⟩ H).setCell ⟨R,1,none⟩ I) (Mw c 0) l (Mw d 0) q/\(∀k,blk (Mw c 0) l.length=some k->B<=k)/\(∀k,blk (Mw d 0) q.length=some k->B<=k):=by
 have A:∀k,blk (Mw c 0) l.length=some k->k=r/\k<h.heap.size:=λk b=>by
  unfold blk at b
  split at b
  ·exact absurd b σ
  rename_i t
  rcases x with e|⟨rfl,j⟩
  ·exact absurd e t
  simp at b
  exact⟨b.symm,by rw[<-b];exact j.lt⟩
 have C:∀k,blk (Mw d 0) q.length=some k->k=u:=λk b=>by
  unfold blk at b
  split at b
  ·exact absurd b σ
  rename_i t
  rcases z with e|⟨rfl,j⟩
  ·exact absurd e t
  simp at b
  exact b.symm
 refine⟨⟨?_,?_,?_⟩,λk b=>by have:=A k b;omega,λk b=>by have:=C k b;omega⟩
 ·rcases x with e|⟨rfl,j⟩
  ·exact .inl (by rw[AC e];rfl)
  exact .inr ⟨c,rfl,((j.I D).other ⟨R,0,none⟩ (by show R≠_;omega) _).other ⟨R,1,none⟩ (by show R≠_;omega) _⟩
 ·rcases z with e|⟨rfl,j⟩
  ·exact .inl (by rw[AC e];rfl)
  exact .inr ⟨d,rfl,(j.other ⟨R,0,none⟩ (by show R≠_;omega) _).other ⟨R,1,none⟩ (by show R≠_;omega) _⟩
 cases e1:blk (Mw c 0) l.length with
 | none=>exact .inl rfl
 | some F =>
  cases e2:blk (Mw d 0) q.length with
  | none=>exact .inr (.inl rfl)
  | some G =>
   have M:=A F e1;have N:=C G e2;exact .inr (.inr (λe=>by injection e with e;omega))
section
def xhE:List (Int×Y)->List Y->List Y
 | [],ss=>ss
 | x::r,ss=>xhE r (ss.set x.1.toNat x.2)
theorem VT:∀(ws:List (Int×Y)) (ss:List Y),(xhE ws ss).length=ss.length
 | [],_=>rfl
 | x::r,ss=>by rw[xhE,VT r];simp
structure SYs(W w:Nb)(R X g g' n n' c1 c1':Nat)(ws:List (Int×Y))(ts:List Y):Prop where
 gr:W.grownBy w (some g)
 rr:Row w R [.slice none 0 0,.slice none 0 0]
 rx:Row w X [.slice (Mw g 0) n c1,.slice (Mw g' 0) n' c1']
 rs:Row w g (ts.map Value.string)
 own:OwnS w (Mw g' 0) (NP ws)
section
variable {W w w':Nb} {R X g g' n n' c1 c1':Nat} {ws:List (Int×Y)} {ts:List Y}
theorem SYs.I(h:SYs W w R X g g' n n' c1 c1' ws ts)(b:Below w.heap.size w w'):SYs W w' R X g g' n n' c1 c1' ws ts :=⟨QG h.gr (UA _ b),h.rr.I b,h.rx.I b,h.rs.I b,h.own.I b⟩
theorem SYs.drew(h:SYs W w R X g g' n n' c1 c1' ws ts):SYs W w.drew R X g g' n n' c1 c1' ws ts:=h.I ((AB _ _).drew)
theorem SYs.set(h:SYs W w R X g g' n n' c1 c1' ws ts)(m:Nat)(r:m<ts.length)(s:Y)(j:R≠g)(l:X≠g)(q:NP ws≠[]->g'≠g):SYs W (w.setCell ⟨g,m,none⟩ (Mz s)) R X g g' n n' c1 c1' ws (ts.set m s):=by
 refine⟨QC h.gr _ _,h.rr.other _ (λe=>j e.symm) _,h.rx.other _ (λe=>l e.symm) _,?_,?_⟩
 ·rw[JY];exact h.rs.set m (by simpa using r) _
 rcases h.own with t|⟨b,e,u⟩
 ·exact .inl t
 injection e with e;injection e with e
 by_cases c:NP ws=[]
 ·exact .inl c
 exact .inr ⟨g',rfl,(e ▸ u).other _ (λd=>q c d.symm) _⟩
end
theorem pw{a b:Nb}{r:Option Nat}(h:a.grownBy b r)(p:Addr)(j:a.heap.size<=p.block)(v:Nc):a.grownBy (b.setCell p v) r :=⟨h.os,h.tape,h.output,by rw[BH];exact h.size,λi c d=>(BF _ _ _ _ (λe=>ω)).j (h.block i c d)⟩
set_option maxRecDepth 100000 in
theorem qx(g q:Nat)(l:List Y)(c:Nat)(j:List (Int×Y))(u:Nat)(w:Nb)(G:Row w g (l.map Value.string))(hp:OwnS w (Mw q 0) (NP j))(V:NP j≠[]->q≠g)(hl:l.length<=200)(bJ:j.length<=300)(X:∀x∈j,0<=x.1/\x.1<(l.length:Int)):Calls prog 132 #[LF (Mw g 0) l.length c (Mw q 0) j.length u] w λe w'=>∃x,e=M3 (LF (Mw g 0) l.length c (Mw x 0) 0 0)/\w.heap.size<=x/\x<w'.heap.size/\Row w' g ((xhE j l).map Value.string)/\w.grownBy w' (some g):=by
 obtain⟨t,N⟩:∃t,Hid (t=xhE j l):=⟨_,Z rfl⟩;rw[<-N.l];have bG:=G.lt;go_enter func132,ntmps132;go_wp2
 have h:SYs w ((w.alloc (.cells #[.slice (Mw g 0) l.length c,.slice (Mw q 0) j.length u] 26)).alloc (.cells #[.slice none 0 0,.slice none 0 0] 26)) (w.heap.size+1) w.heap.size g q l.length j.length c u j l :=⟨UA _ ((LO _ _).alloc σ _),LM _ _ _ _ σ,(MT _ _ _).alloc _,(G.alloc _).alloc _,(hp.I (LD _ _)).I (LD _ _)⟩
 have S:=Z h;have aV:=Z X;have R:=Z V;clear h G hp X V;go_loopw [3] (λi wr=>∃(k:Nat) (s:List Y),k<=j.length/\i=.int .i64 k/\s.length=l.length/\Hid (xhE (j.drop k) s=t)/\SYs w wr (w.heap.size+1) w.heap.size g q l.length j.length c u j s) (λi _=>j.length-(intOf i).toNat)
 case atStart=>exact⟨0,l,AM _,rfl,rfl,by show _=_;rw[FD,N.l],S.l⟩
 case round =>
  clear S;obtain⟨k,s,hk,rfl,H,L,h⟩:=hrel
  by_cases F:k<j.length
  ·obtain⟨b,o,J,d,he,C,D,M⟩:=h.own.wrs.at F
   obtain⟨rfl,rfl⟩:q=b/\o=0:=by cases he;exact⟨rfl,rfl⟩
   rw[BG]at C D;clear he;have A:=aV.l (J,d) (by rw[M.l];simp[List.getD,F]);obtain⟨m,rfl,hm⟩:∃m:Nat,J=(m:Int)/\m<l.length:=⟨J.toNat,by have:=A.1;simp at *;omega,by have:=A.1;have:=A.2;simp at *;omega⟩
   have O:NP j≠[]:=λe=>by have:=CX List.length e;rw[ca,AR]at this;omega
   have bE:=R.l O;have T:=ZD (WJ (h.rs.cell m (Mz (s.getD m empty)) (by simp[List.getD,H,hm])));have U:=h.rs.froz m (by simp[H,hm]);have aX:=h.rx.lt;have x0:=h.rx.y 0;have x1:=h.rx.y 1;have r:=Z (AH x0 (AH x1 (AH C (AH D (AH T U)))));have z:=Z h;have bH:(0:Int)<=(k:Int):=ω
   have bI:(k:Int)<(j.length:Int):=ω
   have bQ:(0:Int)<=(m:Int):=ω
   have bR:(m:Int)<(l.length:Int):=ω
   clear h A T U C D O;go_wp2_with fail;clear x0 x1
   go_region_held3 (λw'=>w'.cell? ⟨w.heap.size,0,none⟩=some (.slice (Mw g 0) l.length c)/\w'.cell? ⟨w.heap.size,1,none⟩=some (.slice (Mw q 0) j.length u)/\w'.cell? ⟨q,k*2,none⟩=some (.int .i64 (m:Int))/\w'.cell? ⟨q,k*2+1,none⟩=some (Mz d)/\w'.cell? ⟨g,m,none⟩=some (ZG w' ⟨g,m,none⟩)/\w'.frozen? ⟨g,m,none⟩=false)
    (first|assumption|exact r.l|exact⟨(DC _ _ _ _ (by show g≠w.heap.size;omega)).j r.l.1,(DC _ _ _ _ (by show g≠w.heap.size;omega)).j r.l.2.1,(DC _ _ _ _ (by show g≠q;omega)).j r.l.2.2.1,(DC _ _ _ _ (by show g≠q;omega)).j r.l.2.2.2.1,ZD (WJ (World.cell?_setCell_same' wr _ (Mz d) (WJ r.l.2.2.2.2.1))),(BS wr _ _ _).j r.l.2.2.2.2.2⟩)
    (fail)
   have aH:=Z (z.l.drew.set m ω d ω ω R.l)
   have aU:Hid (xhE (j.drop (k+1)) (s.set m d)=t):=by
    show _=_;rw[<-L.l,YI j k (0,empty) F,<-M.l,xhE,BM]
   rename_i I;clear I r;go_wp2;go_roundw
   case rel=>exact⟨k+1,_,ω,ν,by simp[H],aU,aH.l⟩
   case measure=>simp[intOf];omega
  have aL:Hid (s=t):=by
   have:=L.l;rw[ED ω]at this;exact this
  rw[aL.l]at h;have z:=Z h;have q0:=h.rx.y 0;have q1:=h.rx.y 1;have f1:=h.rx.A 1;have r0:=h.rr.y 0;have r1:=h.rr.y 1;obtain⟨aZ,bC⟩:=h.rr.z2;have aX:=h.rx.lt;have aW:=h.rr.lt;have n1:w.heap.size≠w.heap.size+1:=ω
  clear h;go_wp2;have aY:wr.heap.size≠w.heap.size+1:=ω
  refine AJ (v:=LF (Mw g 0) l.length c (Mw wr.heap.size 0) 0 0) (by simp[results,results132,go_sem,r0,r1,n1,aY,aW]) rfl ⟨_,rfl,ω,σ,?_,?_⟩
  ·exact(((z.l.rs.other _ (by show w.heap.size≠g;omega) _).other _ (by show w.heap.size+1≠g;omega) _).other _ (by show w.heap.size+1≠g;omega) _).alloc _
  exact QG (pw (pw (pw z.l.gr ⟨w.heap.size,1,none⟩ (by show w.heap.size<=w.heap.size;omega) _) ⟨w.heap.size+1,0,none⟩ (by show w.heap.size<=w.heap.size+1;omega) _) ⟨w.heap.size+1,1,none⟩ (by show w.heap.size<=w.heap.size+1;omega) _) (UA _ (LD _ _))
end
theorem Ed{a:Act}(B:Nat)
  (S:o.guard=none)(s x:Operand)(t:TypeId)(A:o.op=.call { callee:=.builtin .append,args:=#[s,x],argTypes:=#[t,t] })
  (e:TypeId)(i:TypeInfo)(z:Nc)(size q:Nat)(I:P.underlying t=some (.slice e))(D:P.info? e=some i)(X:i.zero=some z)(M:i.size=size)(R:i.bytes=q)
  (b:Nat)(H:a.eval s=.slice (Mw b 0) 0 0)(v:Nc)(L:a.eval x=v)(n:Nat)(c:List Nc)(r:Src P size t v n c w)(l:c.length=n*size)(hn:n<=1048576)(O:n*q<=281474976710656)(U:B<=w.heap.size)(T:z.cells.size=size)
  (h:∀g d j,((n=0/\d=0)\/(g=w.heap.size/\Row j g c/\j.ownsRow B e size (.slice (Mw g 0) n d) n c/\n≠0))->Below w.heap.size w j->K (a.put o.dst (.slice (Mw g 0) n d)) j):if Region.wanted o (yielded aH a.tmps)=true then Oper.wp P o a w K Q else E:=by
 have V:Region.wanted o (yielded aH a.tmps)=true:=by simp[Region.wanted,S]
 rw[AE V];subst M R
 by_cases C:n=0
 ·subst C
  have j:c=[]:=AC ω;subst j;have d:=run_append_room_src (P:=P) w t t o.type e i I D b 0 0 0 v 0 [] r ω σ σ;unfold Oper.wp;simp[execOp,A,resolve,invoke,builtin,H,L,d,Result.andThen];exact h b 0 _ (.inl ⟨rfl,rfl⟩) (AB _ _)
 have N:(Builtin.firstCells i.size 0 (.slice (Mw b 0) 0 0)).run P w.drew=.ok ([]:List Nc).toArray w.drew:=GI w.drew i.size 0 _ 0 0 [] σ σ
 have d:=run_append_grow_src (P:=P) w t t o.type e i z I D X (Mw b 0) 0 0 [] N v n c r ω ω (by rw[BG,uc n ω];exact O);unfold Oper.wp;simp[execOp,A,resolve,invoke,builtin,H,L,d,Result.andThen];refine h w.heap.size _ _ (.inr ⟨rfl,?_,?_,C⟩) ((AB _ _).drew.alloc (AA _) _)
 ·have G:=MT w.drew ((([]:List Nc)++c).toArray++Builtin.zeroCells z.cells (grownCap w (0+n) 0 e-(0+n))) e
  refine⟨σ,λj u J=>?_,λj F=>?_⟩
  ·have:=G.cell j u (by
    obtain⟨F,_⟩:=DJ.1 J
    simp[BC F,J])
   simpa using this
  have:=G.froz j τ
  simpa using this
 have j:=JG w n 0 e
 have u:=IG w n 0 e (by unfold maxLen;omega);refine⟨l,.inr ⟨w.heap.size,_,_,rfl,U,AU w.drew _,j,u,?_,?_⟩⟩
 ·simp[KF,l,T]
  rw[<-GJ]
  congr 1
  omega
 simp[l]
set_option maxRecDepth 4000 in
theorem qQ(a:M6)(d:List Y)(c:Nat)(j:M6)(b:List (Int×Y))(l:Nat)(w:Nb)(h:Strs w a d)(h':Wrs w j b)(hl:d.length<=200)(bG:b.length<=300):Calls prog 72 #[LF a d.length c j b.length l] w λe w'=>∃g x M t,e=M3 (LF (Mw g 0) d.length x (Mw M 0) b.length t)/\OwnD w' (Mw g 0) d (Mw M 0) b/\(∀k,blk (Mw g 0) d.length=some k->w.heap.size<=k)/\(∀k,blk (Mw M 0) b.length=some k->w.heap.size<=k)/\((b=[]/\t=0)\/w'.ownsRow (w.heap.size+1+1) 133 2 (.slice (Mw M 0) b.length t) b.length (NP b)/\b.length≠0)/\Below w.heap.size w w':=by
 obtain⟨i0,s,A,C,D⟩:=MK SN;have G:=Z (AH s (AH A (AH C D)));clear s A C D;obtain⟨i1,s,A,C,D⟩:=MK UK;have aH:=Z (AH s (AH A (AH C D)));clear s A C D
 have aZ:∀o1 o2,Below w.heap.size w ((w.alloc o1).alloc o2):=λo1 o2=>(LO _ _).alloc σ _
 go_enter func72,ntmps72;go_wp2_with fail;have aR:=(Cx.new w (.slice a d.length c) (.slice j b.length l) 26).I (LD _ (.cells #[.slice none 0 0,.slice none 0 0] 26));have rR:=LM (w.alloc (.cells #[.slice a d.length c,.slice j b.length l] 26)) #[.slice none 0 0,.slice none 0 0] 26 (w.heap.size+1) σ;have hB:=aZ (.cells #[.slice a d.length c,.slice j b.length l] 26) (.cells #[.slice none 0 0,.slice none 0 0] 26);have X:((w.alloc (.cells #[.slice a d.length c,.slice j b.length l] 26)).alloc (.cells #[.slice none 0 0,.slice none 0 0] 26)).heap.size=w.heap.size+1+1:=σ
 obtain⟨r,aT⟩:∃r,r=(w.alloc (.cells #[.slice a d.length c,.slice j b.length l] 26)).alloc (.cells #[.slice none 0 0,.slice none 0 0] 26):=⟨_,rfl⟩;rw[<-aT]at aR rR hB X⊢;clear aT;have HX:=Z aR;have H:=Z rR;have HB:=Z hB;have u:=Z X;clear aR rR hB X;have aV:KeepC r w.heap.size (.slice a d.length c) (.slice j b.length l) r:=⟨HX.l.c0,HX.l.c1,ZD (WJ (H.l.y 0)),ZD (WJ (H.l.y 1)),H.l.A 0,H.l.A 1,⟨rfl,rfl,rfl,AA _,λ_ _ _=>rfl⟩,by rw[u.l];omega⟩;have HK:=Z aV;clear aV
 have aU:∀wz,KeepC r w.heap.size (.slice a d.length c) (.slice j b.length l) wz->Below w.heap.size w wz:=λwz hz=>HB.l.j (NR hz.2.2.2.2.2.2.1 (by rw[u.l];omega) (λg hg=>by injection hg with hg;omega))
 have O:=Z aU;clear aU
 go_region_held3 (λw'=>w'.cell? ⟨w.heap.size,0,none⟩=some (.slice a d.length c)/\w'.cell? ⟨w.heap.size,1,none⟩=some (.slice j b.length l)/\w'.cell? ⟨w.heap.size+1,0,none⟩=some (ZG w' ⟨w.heap.size+1,0,none⟩)/\w'.cell? ⟨w.heap.size+1,1,none⟩=some (ZG w' ⟨w.heap.size+1,1,none⟩)/\w'.frozen? ⟨w.heap.size+1,0,none⟩=false/\w'.frozen? ⟨w.heap.size+1,1,none⟩=false/\r.grownBy w' (some (w.heap.size+1))/\w.heap.size+1<w'.heap.size)
  (first|assumption|exact HK.l.I ((AB _ _).drew)|exact KeepC.I (by assumption) (by assumption)|exact KeepC.I (by assumption) (LD _ _)|exact KeepC.set (KeepC.set (by assumption) 0 _) 1 _)
  (first|(refine Gu ρ _ _ 23 ρ 9 _ _ 1 16 underlying23 G.l.1 G.l.2.1 G.l.2.2.1 G.l.2.2.2 _ ρ _ ρ d.length _ (by exact fh (h.I (O.l _ (by assumption))) _ _ ρ _) σ ω ω ?_;intro z x aS S R)|(refine Ed (w.heap.size+1+1) ρ _ _ 24 ρ 133 _ _ 2 24 underlying24 aH.l.1 aH.l.2.1 aH.l.2.2.1 aH.l.2.2.2 _ ρ _ ρ b.length _ (by exact zO (h'.I (O.l _ (by assumption))) _ _ ρ _) (by exact ca b) ω ω (by refine Nat.succ_le_of_lt (KA (KA (KA (KA (KA (KA (KA (?_:KeepC r w.heap.size (.slice a d.length c) (.slice j b.length l) _))))))));assumption) ρ ?_;intro q L J U I;have T:b.length=0\/(q=_/\Row J q (NP b)):=(U.imp (λh=>h.1) (λh=>⟨h.1,h.2.1⟩));have aW:=U.imp id (λh=>h.2.2);clear U;have V:KeepC r w.heap.size (.slice a d.length c) (.slice j b.length l) J:=KeepC.I (by assumption) I))
 all_goals
  rename_i F;have aX:=F;clear F;have bC:=O.l _ aX
  have aD:=by
   first
   | exact qD w.heap.size (w.heap.size+1) aS J d b z q _ _ (Value.slice (some ⟨z,0,none⟩) d.length x) (Value.slice (some ⟨q,0,none⟩) b.length L) (by simp[u.l]<;>omega) (by simp[u.l]<;>omega) S I R.size (AA _) T
   | exact qD w.heap.size (w.heap.size+1) aS J d b z q _ _ (Value.slice (some ⟨z,0,none⟩) d.length x) (Value.slice (some ⟨q,0,none⟩) b.length L) (by simp[u.l]<;>omega) (by simp[u.l]<;>omega) S (Go.Proofs.YtmlejnbjclkdjaaGreatDoor.Below.then (LD aS _) (AA _) I) R.size σ T
  have N:=Z aD;have s:=WJ V.2.2.1;have bE:=WJ V.2.2.2.1;have aY:=Z aW;clear aD S R T I V aX aW;go_wp2;exact AJ (v:=LF (Mw z 0) d.length x (Mw q 0) b.length L) (by simp[results,results72,go_sem,s,bE]) rfl ⟨z,x,q,L,rfl,N.l.1,N.l.2.1,N.l.2.2,aY.l.imp (λh=>⟨AC h.1,h.2⟩) (λh=>⟨EA (EA h.1 (a:=⟨w.heap.size+1,0,none⟩) (by show w.heap.size+1<_;omega) _) (a:=⟨w.heap.size+1,1,none⟩) (by show w.heap.size+1<_;omega) _,by have:=h.2;simpa using this⟩),bC⟩
theorem lc(a:M6)(d:List Y)(c:Nat)(q:M6)(j:List (Int×Y))(s:Nat)(w:Nb)(h:Strs w a d)(u:Wrs w q j)(x:d.length<=200)(t:j.length<=300):Calls prog 72 #[LF a d.length c q j.length s] w λe w'=>∃g r l b,e=M3 (LF (Mw g 0) d.length r (Mw l 0) j.length b)/\OwnD w' (Mw g 0) d (Mw l 0) j/\(∀k,blk (Mw g 0) d.length=some k->w.heap.size<=k)/\(∀k,blk (Mw l 0) j.length=some k->w.heap.size<=k)/\Below w.heap.size w w' :=(qQ a d c q j s w h u x t).z (λe w' ⟨g,r,l,b,k1,k2,k3,k4,_,k6⟩=>⟨g,r,l,b,k1,k2,k3,k4,k6⟩)
theorem mU{r k m:Y}(h:pc r=some (k,m)):m.size<=r.size:=by
 have:=CX List.length (ua h).1;simp[NH]at this;omega
theorem Ho(r:Y)(w:Nb)(d:r.size<=1048576)(b:0<r.size):Calls prog 196 #[Mz r] w λe w'=>pJ (ek r) e/\Below w.heap.size w w':=by
 unfold ek
 by_cases h:1<b0 r
 ·rw[AE h];exact Er r w d b h
 rw[AG h]
 unfold RM
 cases hp:pc (r.extract 1 r.size) with
 | none =>
  rcases GM (b0 r) with c|c
  ·exact Dk r w d b c hp
  exact It r w d b ω hp
 | some p =>
  obtain⟨k,m⟩:=p;have j:m.size<=1048576:=by have:=mU hp;simp only[AO]at this;omega
  rcases GM (b0 r) with c|c
  ·simp only
   rw[AG ω]
   cases hq:pc m with
   | none=>exact Fk r w d b c k m hp j hq
   | some q =>
    obtain⟨v,l⟩:=q;exact Hb r w d b c k m hp j v l hq
  simp only
  rw[AE ω];exact Co r w d b ω k m hp
theorem rM:(prog.info? 171).map (λi=>(i.zero,i.size,i.bytes))=some (some (.agg #[Mz empty,Mz empty,M0 false]),3,40):=κ
theorem sD{z:Nc}{b:Nat}(h:(P.info? e).map (λi=>(i.zero,i.size,i.bytes))=some (some z,size,b)):∃i,P.info? e=some i/\i.zero=some z/\i.size=size/\i.bytes=b:=by
 obtain⟨i,d,c⟩:=EZ.1 h;simp only[BV]at c;exact⟨i,d,c⟩
theorem qr{n:Nat}{h:List Nc}(c:Below B W w)(own:w.ownsRow B e size v n h)(b:w.grownBy w1 v.ownBlock)(j:B<=w.heap.size):Below B W w1 :=c.j ⟨b.os,b.tape,b.output,b.size,λk l=>b.block k ω (λd=>by have:=(own.lt k d.symm).1;omega)⟩
theorem uk{r j:Y}{c:Ch}(l:0<r.size)(h:RM r=some (c,j)):j.size<r.size/\c.1.size<=255/\c.2.1.size<=255:=by
 obtain⟨q,s,t,k3,u⟩:=qP l h;refine⟨?_,q,s⟩;have b:=CX List.length k3;have d:=CX List.length u;rw[NH]at d;rw[AF,NH]at b;have x:2<=(NV c).length:=by unfold NV;split<;>simp<;>omega
 simp only[CY]at b d;omega
def mi(w w':Nb)(e:Ending)(b:Option (List Ch)):Prop:=∃a c,e=M3 (.tuple #[.slice a (b.getD []).length c,M0 b.isSome])/\OwnS w' a (NL (b.getD []))/\(∀g,blk a (b.getD []).length=some g->w.heap.size<=g)/\Below w.heap.size w w'
theorem XN{c:Nat}(hv:v=.tuple #[.slice a 0 c,M0 false])(b:Below w.heap.size w w'):mi w w' (M3 v) none:=⟨a,c,by rw[hv];rfl,.inl rfl,λg h=>(by cases h),b⟩
theorem yu{o:List Ch}(h:w'.ownsRow w.heap.size e 3 y o.length (NL o))(hv:v=.tuple #[y,M0 true])(q:Below w.heap.size w w'):mi w w' (M3 v) (some o):=by
 rcases NU h with ⟨d,j⟩|⟨g,c,d,j,_,r⟩
 ·have:o=[]:=AC j
  subst this;exact⟨none,0,by rw[hv,d];rfl,.inl rfl,λg h=>(by cases h),q⟩
 refine⟨_,c,by rw[hv,d];rfl,.inr ⟨g,rfl,r⟩,λs b=>?_,q⟩
 simp only[GZ]at b
 by_cases l:o.length=0
 ·rw[l]at b;cases b
 rw[NT g 0 _ l]at b;cases b;exact j
theorem n6{o:List Ch}(h:w.ownsRow B e 3 y o.length (NL o)):∃a c,y=.slice a o.length c/\Chs w a o:=by
 rcases NU h with ⟨c,d⟩|⟨g,b,c,d,_,j⟩
 ·have:o=[]:=AC d
  subst this;exact⟨none,0,c,.inl rfl⟩
 exact⟨_,b,c,j.chs⟩
theorem yf(o:List Ch)(c:Ch):NL (o++[c])=NL o++[Mz c.1,Mz c.2.1,M0 c.2.2]:=by rw[ww];rfl
theorem Fg(w:Nb)(A:Obj)(b:Array Nc)(t:TypeId):∀j u,b.toList[j]?=some u->((w.alloc A).alloc (.cells b t)).cell? ((⟨w.heap.size+1,0,none⟩:Addr).add j)=some u:=by
 have h:=AU (w.alloc A) (.cells b t);rw[BD]at h;exact World.news_of_block h
theorem tz(k v:Y)(g:Bool):∀u∈[Mz k,Mz v,M0 g],u.oneCell'=true:=by
 intro u b;simp only[DY,EJ,GV]at b;rcases b with rfl|rfl|rfl<;>rfl
theorem De(s:Y)(w:Nb)(hs:s.size<=1048576):Calls prog 152 #[Mz s] w λe w'=>mi w w' e (YO s):=by
 obtain⟨R,L⟩:∃R,Hid (R=YO s):=⟨_,Z rfl⟩;rw[<-L.l];obtain⟨i0,aS,aT,aU,aV⟩:=sD rM;have HI:=Z (AH aS (AH aT (AH aU aV)));clear aS aT aU aV;go_enter func152,ntmps152;go_wp2_with fail;go_loopw [0,4] (λx y wr=>∃(j:Nat) (o:List Ch) (r:Y),x=Mz r/\j+o.length=21/\r.size<=1048576/\Hid (SY j r o=SY 21 s [])/\Hid (∀z∈o,z.1.size<=1048576/\z.2.1.size<=1048576)/\wr.ownsRow w.heap.size 171 3 y o.length (NL o)/\Below w.heap.size w wr) (λx _ _=>match x with | .string r=>r.size|_=>0)
 case atStart =>
  exact⟨21,[],s,rfl,rfl,hs,rfl,λz l=>(by simp at l),DA _ _ _ _,AB _ _⟩
 case round =>
  obtain⟨j,o,r,rfl,hj,bG,U,M,aH,T⟩:=hrel;obtain⟨ya,yc,rfl,aL⟩:=n6 aH;have V:=Z aH;have q:=Z T;have u:=T.size;have S:=Z aL;clear aH T aL
  have I:∀(b:Bool),Hid (SY j r o=some (o,r))->Hid (R=if PA o=true then some o else none):=λb hh=>by
   show _=_;have:=U.l;rw[hh.l]at this;rw[L.l];unfold YO;rw[<-this]
  by_cases N:r.size=0
  ·have he:r.toList.isEmpty=true:=by rw[VP];exact AL N
   have d:=I true (by show _=_;cases j<;>simp[SY,N]);clear I
   cases t:PA o with
   | true =>
    rw[t,AE rfl]at d;go_wp2_with (go_at_call 113;refine(db _ o _ _ S.l ω M.l).z ?_;rw[t];rintro e F ⟨rfl,c⟩);go_ret2;rw[d.l];exact yu (NC V.l c) rfl (q.l.j (c.z u))
   | false =>
    rw[t,AG σ]at d;go_wp2_with (go_at_call 113;refine(db _ o _ _ S.l ω M.l).z ?_;rw[t];rintro e F ⟨rfl,c⟩);go_ret2;rw[d.l]
    exact XN rfl (by first|exact q.l.j (c.z u)|exact(q.l.j (c.z u)).alloc (by have:=c.size;omega) _)
  have he:r.toList.isEmpty=false:=by rw[VP];exact AI N
  by_cases hl:(o.length:Int)<=20
  ·obtain⟨O,rfl⟩:∃O,j=O+1:=⟨j-1,ω⟩
   have h:=U.l;rw[SY,AG N]at h;have H:=Z (Ho r · bG ω);clear I
   by_cases G:1<b0 r
   focus
    have J:ek r=none:=by unfold ek;exact AE G
    rw[AE G]at h;have d:Hid (R=none):=by show _=_;rw[L.l];unfold YO;rw[<-h]
    rw[J]at H;clear G J
   rotate_left
   focus
    rw[AG G]at h;have J:ek r=RM r:=by unfold ek;exact AG G
    rw[J]at H;clear G J
    cases hq:RM r
    focus
     rw[hq]at h H;have d:Hid (R=none):=by show _=_;rw[L.l];unfold YO;rw[<-h]
     clear hq
    rotate_left
    focus
     rename_i p;obtain⟨⟨C,D,A⟩,r1⟩:=p;obtain⟨q1,q2,q3⟩:=uk ω hq;rw[hq]at h H;have aZ:Hid (SY O r1 (o++[(C,D,A)])=SY 21 s []):=h;clear hq h U;simp only at q2 q3
     go_wp2_with (first|(go_at_call 196;refine(H.l _).z ?_;rintro e F ⟨aR,c⟩;simp only[pJ]at aR;subst aR;have bH:=c.size;have aQ:=Z (((NC V.l c).alloc (.cells #[Mz C,Mz D,M0 A] 171)).alloc (.cells #[Mz C,Mz D,M0 A] 171));have aW:=Z (((q.l.j (c.z u)).alloc ω (.cells #[Mz C,Mz D,M0 A] 171)).alloc τ (.cells #[Mz C,Mz D,M0 A] 171));clear c)|(at_builtin;refine QY _ rfl _ _ 42 rfl w.heap.size underlying42 HI.l rfl ω _ o.length _ rfl aQ.l ⟨F.heap.size+1,0,none⟩ 1 1 [Mz C,Mz D,M0 A] rfl rfl (Fg F _ _ _) (tz _ _ _) τ (F.heap.size+1+1) σ ?_;intro g cap w7 aE X aP bE;have aY:=Z aE;have aX:=Z (qr aW.l aQ.l X τ);clear aE X aP))
     refine⟨⟨O,o++[(C,D,A)],r1,rfl,τ,ω,aZ.l,λz l=>?_,?_,aX.l⟩,by simp only;omega⟩
     ·rcases BJ.1 l with l|l
      ·exact M.l z l
      simp at l;subst l;exact⟨by simp only;omega,by simp only;omega⟩
     rw[yf,AF];exact aY.l
   rotate_left
   all_goals
    go_wp2_with (go_at_call 196;refine(H.l _).z ?_;rintro e F ⟨⟨a1,a2,a3,a4,rfl⟩,c⟩);go_ret2;rw[d.l]
    exact XN rfl (by first|exact q.l.j (c.z u)|exact(q.l.j (c.z u)).alloc (by have:=c.size;omega) _)
  have bC:j=0:=ω
  subst bC;have d:=I true rfl;clear I;have t:PA o=false:=fo ω;rw[t,AG σ]at d;go_wp2_with (go_at_call 113;refine(db _ o _ _ S.l ω M.l).z ?_;rw[t];rintro e F ⟨rfl,c⟩);go_ret2;rw[d.l];exact XN rfl (q.l.j (c.z u))
theorem ed{n b:Nat}{c:List Nc}(h:w.ownsRow B e size y n c)(d:y.ownBlock≠some b)(u:Nc):(w.setCell ⟨b,i,none⟩ u).ownsRow B e size y n c:=BW h d u
theorem nY(X:Nb)(b:Nat)(d:X.heap.size=b)(c:Array Nc)(t:TypeId):∀j u,c.toList[j]?=some u->(X.alloc (.cells c t)).cell? ((⟨b,0,none⟩:Addr).add j)=some u:=by
 subst d;exact World.news_of_block (AU X _)
theorem zM(s:Y)(w:Nb)(hs:s.size<=1048576):Calls prog 215 #[Mz s] w λe w'=>mi w w' e (SX s):=by
 have bY:∀o,Below w.heap.size w (w.alloc o):=λo=>LO _ _
 obtain⟨R,HR⟩:∃R,Hid (R=SX s):=⟨_,Z rfl⟩;rw[<-HR.l];obtain⟨i0,c,d,b,h⟩:=sD rM;have HI:=Z (AH c (AH d (AH b h)));clear c d b h;go_enter func215,ntmps215;go_wp2_with fail;go_loopw [4,5] (λy x wr=>∃(j:Nat) (o:List Ch) (r:Y),x=Mz r/\j+o.length=21/\r.size<=1048576/\Hid (run j r o=run 21 s [])/\Hid (∀z∈o,z.1.size<=1048576/\z.2.1.size<=1048576)/\wr.ownsRow w.heap.size 171 3 y o.length (NL o)/\Below w.heap.size w wr) (λ_ x _=>match x with | .string r=>r.size|_=>0)
 case atStart =>
  exact⟨21,[],s,rfl,rfl,hs,rfl,λz d=>(by simp at d),DT _ #[] 0 (AA _) σ σ,bY _⟩
 case round =>
  obtain⟨j,o,r,rfl,hj,cB,aX,X,c,b⟩:=hrel;obtain⟨ya,yc,rfl,d⟩:=n6 c;have D:=Z c;have u:=Z b;have l:=b.size;have HC:=Z d;clear c b d
  have H:(Value.slice ya o.length yc).ownBlock≠some wr.heap.size:=λh=>by have:=(D.l.lt _ h).2;omega
  have aU:Hid (run j r o=some (o,r))->Hid (R=if s.size≠0/\LT o=s then some o else none):=λx=>by
   show _=_;have:=aX.l;rw[x.l]at this;rw[HR.l];unfold SX;rw[<-this]
  by_cases h0:0<(r.size:Int)
  focus
   by_cases hl:(o.length:Int)<=20
   ·obtain⟨T,rfl⟩:∃T,j=T+1:=⟨j-1,ω⟩
    have t:=aX.l;rw[run,AG ω]at t;have hg:=XX r ω;obtain⟨b,S⟩:∃b,b=b0 r:=⟨_,rfl⟩;have cA:b<=255:=by rw[S];exact jq r
    rw[<-S]at hg;have V:(r.extract 1 r.size).size<=1048576:=by simp only[AO];omega
    clear aU
    cases hp:pc (r.extract 1 r.size) with
    | none =>
     have G:=Z (fj hp)
     have h:Hid (R=none):=by
      show _=_;have e:RM r=none:=by unfold RM;rw[hp]
      rw[e]at t;rw[HR.l];unfold SX;rw[<-t]
     clear hp S t
     by_cases bI:b=1
     ·subst bI
      go_wp2_with (go_at_call 221;refine(bd _ _ V).z ?_;rw[G.l];rintro e C ⟨rfl,c⟩;have A:=c.size;simp only[BD,BH]at A;obtain⟨M,I,N,J,O,L⟩:=k3 c wr.heap.size (Mz ⟨#[]⟩) (Mz ⟨#[]⟩) (M0 true);have aH:=Z (u.l.j ((XC c).z l));have F:=Z (NC (D.l.alloc _) c);clear c);go_ret2;rw[h.l];exact XN rfl (aH.l.alloc ω _)
     have c:((b:Int) == 1)=false:=τ
     go_wp2_with (go_at_call 221;refine(bd _ _ V).z ?_;rw[G.l];rintro e C ⟨rfl,c⟩;have A:=c.size;simp only[BD,BH]at A;obtain⟨M,I,N,J,O,L⟩:=k3 c wr.heap.size (Mz ⟨#[]⟩) (Mz ⟨#[]⟩) (M0 false);have aH:=Z (u.l.j ((XC c).z l));have F:=Z (NC (D.l.alloc _) c);clear c);go_ret2;rw[h.l];exact XN rfl (aH.l.alloc ω _)
    | some p =>
     obtain⟨k,m⟩:=p;have G:=Z (eg hp);have b7:m.size<=1048576:=by have:=mU hp;simp only[AO]at this;omega
     by_cases bI:b=1
     ·have e:RM r=some ((k,empty,true),m):=by unfold RM;rw[hp];simp only;rw[AE ω]
      obtain⟨q1,q2,q3⟩:=uk ω e;rw[e]at t;have bH:Hid (run T m (o++[(k,empty,true)])=run 21 s []):=t;simp only at q2 q3;clear hp S t e;subst bI
      go_wp2_with (first|(go_at_call 221;refine(bd _ _ V).z ?_;rw[G.l];rintro e C ⟨rfl,c⟩;have A:=c.size;simp only[BD,BH]at A;obtain⟨M,I,N,J,O,L⟩:=k3 c wr.heap.size (Mz ⟨#[]⟩) (Mz ⟨#[]⟩) (M0 true);have aH:=Z (u.l.j ((XC c).z l));have F:=Z (NC (D.l.alloc _) c);clear c)|(at_builtin;refine QY _ rfl _ _ 42 rfl w.heap.size underlying42 HI.l rfl ω _ o.length _ rfl ((ed F.l H (Mz k)).alloc (.cells #[Mz k,Mz ⟨#[]⟩,M0 true] 171)) ⟨C.heap.size,0,none⟩ 1 1 [Mz k,Mz ⟨#[]⟩,M0 true] rfl rfl (nY _ _ σ _ _) (tz _ _ _) τ (C.heap.size+1) σ ?_;intro ga cap w7 U h aL bJ;have bG:=Z U;have aZ:=Z (qr ((aH.l.setCell (p:=⟨wr.heap.size,0,none⟩) l (Mz k)).alloc τ _) ((ed F.l H (Mz k)).alloc _) h τ);clear U h aL))
      refine⟨⟨T,o++[(k,empty,true)],m,rfl,τ,ω,bH.l,λz d=>?_,?_,aZ.l⟩,by simp only;omega⟩
      ·rcases BJ.1 d with d|d
       ·exact X.l z d
       simp at d;subst d;exact⟨by simp only;omega,by simp only;first|omega|simp⟩
      rw[yf,AF];exact bG.l
     have c:((b:Int) == 1)=false:=τ
     have aW:m.size<=1048576:=b7
     cases hq:pc m with
     | none =>
      have HQ:=Z (fj hq)
      have h:Hid (R=none):=by
       show _=_;have e:RM r=none:=by unfold RM;rw[hp];simp only;rw[AG ω,hq]
       rw[e]at t;rw[HR.l];unfold SX;rw[<-t]
      clear hp hq S t
      go_wp2_with (first|(have _g:=aH;go_at_call 221;refine(bd _ _ aW).z ?_;rw[HQ.l];rintro e w3 ⟨rfl,d⟩;have aO:=d.size;simp only[BD,BH]at aO;obtain⟨d0,bU,d1,bV,d2,bW⟩:=k3 d wr.heap.size (Mz k) (Mz ⟨#[]⟩) (M0 false);have aY:=Z ((aH.l.setCell (p:=⟨wr.heap.size,0,none⟩) l (Mz k)).j (d.z ξ));have bE:=Z (NC (ed F.l H (Mz k)) d);clear d M N O I J L)|(go_at_call 221;refine(bd _ _ V).z ?_;rw[G.l];rintro e C ⟨rfl,c⟩;have A:=c.size;simp only[BD,BH]at A;obtain⟨M,I,N,J,O,L⟩:=k3 c wr.heap.size (Mz ⟨#[]⟩) (Mz ⟨#[]⟩) (M0 false);have aH:=Z (u.l.j ((XC c).z l));have F:=Z (NC (D.l.alloc _) c);clear c))
      go_ret2;rw[h.l];exact XN rfl (aY.l.alloc ω _)
     | some q =>
      obtain⟨v,m'⟩:=q;have HQ:=Z (eg hq);have e:RM r=some ((k,v,false),m'):=by unfold RM;rw[hp];simp only;rw[AG ω,hq]
      obtain⟨q1,q2,q3⟩:=uk ω e;rw[e]at t;have bH:Hid (run T m' (o++[(k,v,false)])=run 21 s []):=t;simp only at q2 q3;clear hp hq S t e
      go_wp2_with (first|(have _g:=aH;go_at_call 221;refine(bd _ _ aW).z ?_;rw[HQ.l];rintro e w3 ⟨rfl,d⟩;have aO:=d.size;simp only[BD,BH]at aO;obtain⟨d0,bU,d1,bV,d2,bW⟩:=k3 d wr.heap.size (Mz k) (Mz ⟨#[]⟩) (M0 false);have aY:=Z ((aH.l.setCell (p:=⟨wr.heap.size,0,none⟩) l (Mz k)).j (d.z ξ));have bE:=Z (NC (ed F.l H (Mz k)) d);clear d M N O I J L)|(go_at_call 221;refine(bd _ _ V).z ?_;rw[G.l];rintro e C ⟨rfl,c⟩;have A:=c.size;simp only[BD,BH]at A;obtain⟨M,I,N,J,O,L⟩:=k3 c wr.heap.size (Mz ⟨#[]⟩) (Mz ⟨#[]⟩) (M0 false);have aH:=Z (u.l.j ((XC c).z l));have F:=Z (NC (D.l.alloc _) c);clear c)|(at_builtin;refine QY _ rfl _ _ 42 rfl w.heap.size underlying42 HI.l rfl ω _ o.length _ rfl ((ed bE.l H (Mz v)).alloc (.cells #[Mz k,Mz v,M0 false] 171)) ⟨w3.heap.size,0,none⟩ 1 1 [Mz k,Mz v,M0 false] rfl rfl (nY _ _ σ _ _) (tz _ _ _) τ (w3.heap.size+1) σ ?_;intro ga cap w7 U h aL bJ;have bG:=Z U;have aZ:=Z (qr ((aY.l.setCell (p:=⟨wr.heap.size,1,none⟩) l (Mz v)).alloc τ _) ((ed bE.l H (Mz v)).alloc _) h τ);clear U h aL))
      refine⟨⟨T,o++[(k,v,false)],m',rfl,τ,ω,bH.l,λz d=>?_,?_,aZ.l⟩,by simp only;omega⟩
      ·rcases BJ.1 d with d|d
       ·exact X.l z d
       simp at d;subst d;exact⟨by simp only;omega,by simp only;first|omega|simp⟩
      rw[yf,AF];exact bG.l
   focus
    have t:j=0:=ω
    subst t;have h:=aU rfl;clear aU aX
    by_cases d:s.size=0
    ·have b:((s.size:Int) == 0)=true:=by rw[beq_iff_eq];omega
     rw[AG (λx=>x.1 d)]at h;go_wp2;go_ret2;rw[h.l];exact XN rfl (u.l.alloc l _)
    focus
     have b:((s.size:Int) == 0)=false:=by rw[EO];omega
     by_cases hF:LT o=s
     ·rw[AE ⟨d,hF⟩]at h
      have q:=Z hF;clear hF;go_wp2_with (go_at_call 135;refine(cw _ o _ _ HC.l ω X.l).z ?_;rw[q.l];rintro e C ⟨rfl,c⟩);go_ret2;rw[h.l];exact yu (NC D.l c) rfl (u.l.j (c.z l))
     focus
     rotate_left
    rotate_left
   rotate_left
  rotate_left
  focus
   have h:=aU (by show _=_;exact mH _ _ _ ω);clear aU aX
   by_cases d:s.size=0
   ·have b:((s.size:Int) == 0)=true:=by rw[beq_iff_eq];omega
    rw[AG (λx=>x.1 d)]at h;go_wp2;go_ret2;rw[h.l];exact XN rfl (u.l.alloc l _)
   focus
    have b:((s.size:Int) == 0)=false:=by rw[EO];omega
    by_cases hF:LT o=s
    ·rw[AE ⟨d,hF⟩]at h
     have q:=Z hF;clear hF;go_wp2_with (go_at_call 135;refine(cw _ o _ _ HC.l ω X.l).z ?_;rw[q.l];rintro e C ⟨rfl,c⟩);go_ret2;rw[h.l];exact yu (NC D.l c) rfl (u.l.j (c.z l))
    focus
    rotate_left
   rotate_left
  rotate_left
  all_goals
   rw[AG (λx=>hF x.2)]at h;obtain⟨G,q⟩:∃G,Hid (G=LT o):=⟨_,Z rfl⟩;have z:(!G.toList == s.toList)=true:=by rw[q.l];simp only[JH,EO];intro x;rw[DF,DF]at x;exact hF (EP (JB x))
   clear hF;go_wp2_with (go_at_call 135;refine(cw _ o _ _ HC.l ω X.l).z ?_;rw[<-q.l];rintro e C ⟨rfl,c⟩);go_ret2;rw[h.l];exact XN rfl ((u.l.j (c.z l)).alloc (by have:=c.size;omega) _)
section
structure PR(w:Nb)(g:Nat)(ps:List (List Int)):Prop where
 lt:g<w.heap.size
 len:∀p∈ps,p.length=64
 cell:∀k,k<ps.length->∀j,j<64->w.cell? ⟨g,k*64+j,none⟩=some (.int .u8 ((ps.getD k []).getD j 0))
 froz:∀i,i<ps.length*64->w.frozen? ⟨g,i,none⟩=false
theorem PR.I{c:List (List Int)}(h:PR w g c)(b:Below w.heap.size w w'):PR w' g c :=⟨AD h.lt b.size,h.len,λk q j l=>(b.cell (p:=⟨g,_,none⟩) h.lt).j (h.cell k q j l),λi d=>(b.frozen (p:=⟨g,i,none⟩) h.lt).j (h.froz i d)⟩
theorem PR.J{d:List (List Int)}{r:Option Nat}(h:PR w g d)(b:w.grownBy w' r)(c:some g≠r):PR w' g d :=⟨AD h.lt b.size,h.len,λk s j q=>(DH (a:=⟨g,_,none⟩) (b.block g h.lt c)).j (h.cell k s j q),λi l=>(GT (a:=⟨g,i,none⟩) (b.block g h.lt c)).j (h.froz i l)⟩
theorem PR.other{b:List (List Int)}(h:PR w g b)(p:Addr)(q:p.block≠g)(v:Nc):PR (w.setCell p v) g b:=by
 refine⟨by simpa[World.setCell] using h.lt,h.len,λk l j d=>?_,λi c=>?_⟩
 ·rw[CZ (w:=w) (h:=λe=>q (by rw[e]))];exact h.cell k l j d
 rw[BS];exact h.froz i c
theorem bh{b:List (List Int)}(h:∀p∈b,p.length=64)(c:k<b.length):(b.getD k []).length=64:=h _ (by simp[List.getD,c])
theorem PR.there{b:List (List Int)}(h:PR w g b)(d:k<b.length):w.there g (k*64) 64:=λj c=>by
 rw[h.cell k d j c];exact⟨rfl,h.froz _ ω⟩
theorem PR.range{b:List (List Int)}(h:PR w g b)(d:k<b.length):w.rangeAt g (k*64) ((b.getD k []).map (Value.int .u8)):=λj v hv=>by
 obtain⟨c,e⟩:=DJ.1 hv;simp only[BU]at c;have l:=bh h.len d;rw[h.cell k d j ω];rw[<-e];simp only[List.getElem_map];rw[AZ (l:=b.getD k []),BQ c];rfl
theorem PR.plt{b:List (List Int)}(h:PR w g b):Plt w (Mw g 0) b :=.inr ⟨g,0,rfl,h.lt,λi c=>by rw[BG];exact h.range c⟩
theorem PR.set{b:List (List Int)}(h:PR w g b)(k:Nat)(r:k<b.length)(x:List Int)(t:x.length=64):PR (w.setCells g (k*64) (x.map (Value.int .u8))) g (b.set k x):=by
 have s:(x.map (Value.int .u8)).length=64:=by simp[t]
 refine⟨by rw[VW];exact h.lt,λp u=>?_,λi c j d=>?_,λi c=>?_⟩
 ·rcases FG u with l|l
  ·exact h.len p l
  rw[l];exact t
 ·rw[List.length_set]at c
  by_cases q:i=k
  ·subst q
   have l:(b.set i x).getD i []=x:=by rw[AZ,JJ r];rfl
   rw[l,JF g _ (i*64) w (λj d=>by rw[s]at d;exact(h.there r j d).1) j ω];simp[List.getD,show j<x.length by omega]
  have l:(b.set k x).getD i []=b.getD i []:=by rw[AZ,FR (λe=>q e.symm),AZ]
  rw[l,EC g _ (k*64) w ⟨g,i*64+j,none⟩ (λ_ _=>by rw[s];show i*64+j<k*64\/k*64+64<=i*64+j;omega)];exact h.cell i c j d
 rw[FC];exact h.froz i (by simpa using c)
theorem Ae{n:Nat}(h:Row w g (List.replicate (n*64) (.int .u8 0))):PR w g (List.replicate n (List.replicate 64 0)):=by
 refine⟨h.lt,λp l=>by rw[List.eq_of_mem_replicate l];simp,λk b j d=>?_,λi c=>h.froz i (by simpa using c)⟩;rw[DI]at b
 have c:((List.replicate n (List.replicate 64 (0:Int))).getD k []).getD j 0=0:=by
  rw[AZ (l:=List.replicate n _),EM,AE b,GZ,AZ,EM,AE d];rfl
 rw[c];exact h.cell _ _ (by rw[EM,AE ω])
def OY(b:List (Int×List Int)):List Nc:=b.flatMap λx=>.int .i64 x.1::x.2.map (Value.int .u8)
theorem tF(a b:List (Int×List Int)):OY (a++b)=OY a++OY b:=by simp[OY]
theorem tG:∀(b:List (Int×List Int)),(∀p∈b,p.2.length=64)->∀(i:Nat),i<b.length->∀j,(Value.int .i64 (b.getD i (0,[])).1::(b.getD i (0,[])).2.map (Value.int .u8))[j]?≠none->(OY b)[i*65+j]?=(Value.int .i64 (b.getD i (0,[])).1::(b.getD i (0,[])).2.map (Value.int .u8))[j]?
 | x::r,hl,0,_,j,hj=>by
  have e:OY (x::r)=(.int .i64 x.1::x.2.map (Value.int .u8))++OY r:=by simp[OY]
  have c:(x::r).getD 0 (0,[])=x:=rfl;rw[c]at hj⊢;rw[e,Nat.zero_mul,BG,BC];rcases GF j (Value.int .i64 x.1::x.2.map (Value.int .u8)).length with h|h
  ·exact h
  exact absurd (List.getElem?_eq_none h) hj
 | x::r,hl,i+1,h,j,hj=>by
  have e:OY (x::r)=(.int .i64 x.1::x.2.map (Value.int .u8))++OY r:=by simp[OY]
  have l:(Value.int .i64 x.1::x.2.map (Value.int .u8)).length=65:=by simp[hl x σ]
  have c:(x::r).getD (i+1) (0,[])=r.getD i (0,[]):=by simp[List.getD]
  rw[c]at hj⊢;rw[e,DG ω,l,show(i+1)*65+j-65=i*65+j by omega];exact tG r (λp d=>hl p (by simp[d])) i (by simpa using h) j hj
theorem sp(b:List (Int×List Int))(c:∀p∈b,p.2.length=64):(OY b).length=b.length*65:=by
 induction b with
 | nil=>rfl
 | cons x r h =>
  have e:OY (x::r)=(.int .i64 x.1::x.2.map (Value.int .u8))++OY r:=by simp[OY]
  rw[e,AF,h (λp d=>c p (by simp[d]))];simp[c x σ];omega
theorem Row.hld{b:List (Int×List Int)}(h:Row w g (OY b))(d:∀p∈b,p.2.length=64):Hld w (Mw g 0) b :=.inr ⟨g,0,rfl,h.lt,λi c j v hv=>by
  rw[BG]
  exact h.cell _ _ ((tG b d i c j (by rw[hv];simp)).j hv)⟩
structure Drs(W w:Nb)(n:Nat)(box:Nc)(e:TypeId)(v:Nc)(ps:List (List Int))(hs:List (Int×List Int)):Prop where
 sz:W.heap.size+1+1+1+1<=w.heap.size
 bel:Below W.heap.size W w
 b1:w.cell? ⟨W.heap.size,1,none⟩=some box
 r0:w.cell? ⟨W.heap.size+1,0,none⟩=some (.slice none 0 0)
 r1:w.cell? ⟨W.heap.size+1,1,none⟩=some (.slice none 0 0)
 fr0:w.frozen? ⟨W.heap.size+1,0,none⟩=false
 fr1:w.frozen? ⟨W.heap.size+1,1,none⟩=false
 d0:w.cell? ⟨W.heap.size+1+1+1,0,none⟩=some (.slice (Mw (W.heap.size+1+1) 0) n n)
 d1:w.cell? ⟨W.heap.size+1+1+1,1,none⟩=some v
 fd1:w.frozen? ⟨W.heap.size+1+1+1,1,none⟩=false
 pr:PR w (W.heap.size+1+1) ps
 len:∀p∈hs,p.2.length=64
 own:w.ownsRow (W.heap.size+1+1+1+1) e 65 v hs.length (OY hs)
section
variable {W w w':Nb} {n:Nat} {box v:Nc} {e:TypeId} {ps:List (List Int)} {hs:List (Int×List Int)}
theorem Drs.I(h:Drs W w n box e v ps hs)(c:Below w.heap.size w w'):Drs W w' n box e v ps hs :=have hs:=h.sz
 have d:∀b i,b<W.heap.size+1+1+1+1->w'.cell? ⟨b,i,none⟩=w.cell? ⟨b,i,none⟩:=λb i l=>c.cell (p:=⟨b,i,none⟩) (by show b<_;omega)
 have j:∀b i,b<W.heap.size+1+1+1+1->w'.frozen? ⟨b,i,none⟩=w.frozen? ⟨b,i,none⟩:=λb i l=>c.frozen (p:=⟨b,i,none⟩) (by show b<_;omega)
 ⟨AK hs c.size,h.bel.j (c.z ω),(d _ _ ω).j h.b1,(d _ _ ω).j h.r0,(d _ _ ω).j h.r1,(j _ _ ω).j h.fr0,(j _ _ ω).j h.fr1,
  (d _ _ ω).j h.d0,(d _ _ ω).j h.d1,(j _ _ ω).j h.fd1,h.pr.I c,h.len,NC h.own c⟩
theorem Drs.drew(h:Drs W w n box e v ps hs):Drs W w.drew n box e v ps hs:=h.I ((AB _ _).drew)
theorem Drs.alloc(h:Drs W w n box e v ps hs)(o:Obj):Drs W (w.alloc o) n box e v ps hs:=h.I (LO _ _)
theorem Drs.fill(h:Drs W w n box e v ps [])(hv:v=.slice none 0 0)(k:Nat)(j:k<ps.length)(x:List Int)(l:x.length=64):Drs W (w.setCells (W.heap.size+1+1) (k*64) (x.map (Value.int .u8))) n box e v (ps.set k x) []:=by
 have hs:=h.sz
 have c:∀b i,b≠W.heap.size+1+1->(w.setCells (W.heap.size+1+1) (k*64) (x.map (Value.int .u8))).cell? ⟨b,i,none⟩=w.cell? ⟨b,i,none⟩:=λb i d=>EC _ _ _ _ _ (λe=>absurd e d)
 exact⟨by rw[VW];exact hs,Go.below_setCells ω _ _ _ h.bel,(c _ _ ω).j h.b1,(c _ _ ω).j h.r0,(c _ _ ω).j h.r1,(FC _ _ _ _ _).j h.fr0,(FC _ _ _ _ _).j h.fr1,
  (c _ _ ω).j h.d0,(c _ _ ω).j h.d1,(FC _ _ _ _ _).j h.fd1,h.pr.set k j x l,h.len,by rw[hv];exact DA _ _ _ _⟩
theorem Drs.J(h:Drs W w n box e v ps hs)(b:w.grownBy w1 v.ownBlock):w1.cell? ⟨W.heap.size+1+1+1,1,none⟩=some v/\w1.frozen? ⟨W.heap.size+1+1+1,1,none⟩=false:=by
 have hs:=h.sz
 have c:some (W.heap.size+1+1+1)≠v.ownBlock:=λd=>by have:=(h.own.lt _ d.symm).1;omega
 exact⟨(b.cell_far ⟨W.heap.size+1+1+1,1,none⟩ (by show W.heap.size+1+1+1<_;omega) c).j h.d1,(b.frozen_far ⟨W.heap.size+1+1+1,1,none⟩ (by show W.heap.size+1+1+1<_;omega) c).j h.fd1⟩
theorem Drs.push(h:Drs W w n box e v ps hs){cap:Nat}{x:Int×List Int}(D:x.2.length=64)(z:w1.ownsRow (W.heap.size+1+1+1+1) e 65 (.slice (Mw g 0) (hs.length+1) cap) (hs.length+1) (OY hs++(.int .i64 x.1::x.2.map (Value.int .u8))))(c:w.grownBy w1 v.ownBlock):Drs W (w1.setCell ⟨W.heap.size+1+1+1,1,none⟩ (.slice (Mw g 0) (hs.length+1) cap)) n box e (.slice (Mw g 0) (hs.length+1) cap) ps (hs++[x]):=by
 have F:=h.sz
 have l:∀k,k<W.heap.size+1+1+1+1->some k≠v.ownBlock:=λk A s=>by have:=(h.own.lt k s.symm).1;omega
 have u:∀b,b<W.heap.size+1+1+1+1->b<w.heap.size:=λb d=>ω
 have q:∀b i,b<W.heap.size+1+1+1+1->w1.cell? ⟨b,i,none⟩=w.cell? ⟨b,i,none⟩:=λb i d=>c.cell_far ⟨b,i,none⟩ (u b d) (l b d)
 have r:∀b i,b<W.heap.size+1+1+1+1->w1.frozen? ⟨b,i,none⟩=w.frozen? ⟨b,i,none⟩:=λb i d=>c.frozen_far ⟨b,i,none⟩ (u b d) (l b d)
 have t:∀b i,b<W.heap.size+1+1+1+1->b≠W.heap.size+1+1+1->(w1.setCell ⟨W.heap.size+1+1+1,1,none⟩ (.slice (Mw g 0) (hs.length+1) cap)).cell? ⟨b,i,none⟩=w.cell? ⟨b,i,none⟩:=λb i d C=>by
  rw[CZ (w:=w1) (h:=show(⟨W.heap.size+1+1+1,1,none⟩:Addr)≠⟨b,i,none⟩ fromλs=>C (by injection s with j;exact j.symm))];exact q b i d
 have b:Below W.heap.size W w1:=h.bel.j ⟨c.os,c.tape,c.output,c.size,λk A=>c.block k ω (l k ω)⟩
 refine⟨by simp only[BH];have:=c.size;omega,b.setCell (by show W.heap.size<=W.heap.size+1+1+1;omega) _,(t _ _ ω ω).j h.b1,(t _ _ ω ω).j h.r0,(t _ _ ω ω).j h.r1,
  (BS _ _ _ _).j ((r _ _ ω).j h.fr0),(BS _ _ _ _).j ((r _ _ ω).j h.fr1),?_,FK w1 _ _ ((q _ _ ω).j h.d1),(BS _ _ _ _).j ((r _ _ ω).j h.fd1),?_,?_,?_⟩
 ·rw[CZ (w:=w1) (h:=show(⟨W.heap.size+1+1+1,1,none⟩:Addr)≠⟨W.heap.size+1+1+1,0,none⟩ by simp)];exact(q _ _ ω).j h.d0
 ·exact(h.pr.J c (l _ ω)).other _ (by show W.heap.size+1+1+1≠W.heap.size+1+1;omega) _
 ·intro p d
  rcases BJ.1 d with j|j
  ·exact h.len p j
  simp at j;rw[j];exact D
 have j:=EA z (a:=⟨W.heap.size+1+1+1,1,none⟩) (by show W.heap.size+1+1+1<_;omega) (.slice (Mw g 0) (hs.length+1) cap)
 have d:OY (hs++[x])=OY hs++(.int .i64 x.1::x.2.map (Value.int .u8)):=by rw[tF];simp[OY]
 rw[AF,d];exact j
theorem Drs.start(w b:Nb)(n:Nat)(d c:Nc)(j l q e:TypeId)(r:Below ((w.alloc (.cells #[d,c] j)).alloc (.cells #[.slice none 0 0,.slice none 0 0] l)).heap.size ((w.alloc (.cells #[d,c] j)).alloc (.cells #[.slice none 0 0,.slice none 0 0] l)) b)
  (hs:b.heap.size=w.heap.size+1+1+1)(u:Row b (w.heap.size+1+1) (List.replicate (n*64) (.int .u8 0))):Drs w (b.alloc (.cells #[.slice (Mw (w.heap.size+1+1) 0) n n,.slice none 0 0] q)) n c e (.slice none 0 0) (List.replicate n (List.replicate 64 0)) []:=by
 have x:=(((MT w #[d,c] j).alloc (.cells #[.slice none 0 0,.slice none 0 0] l)).I r).alloc (.cells #[.slice (Mw (w.heap.size+1+1) 0) n n,.slice none 0 0] q);have h:=((LM (w.alloc (.cells #[d,c] j)) #[.slice none 0 0,.slice none 0 0] l (w.heap.size+1) σ).I r).alloc (.cells #[.slice (Mw (w.heap.size+1+1) 0) n n,.slice none 0 0] q);have s:=LM b #[.slice (Mw (w.heap.size+1+1) 0) n n,.slice none 0 0] q (w.heap.size+1+1+1) hs.symm;have t:Below w.heap.size w b:=((LO _ _).alloc σ _).j (r.z τ);exact⟨by simp[hs],t.alloc t.size _,x.y 1,h.y 0,h.y 1,h.A 0,h.A 1,s.y 0,s.y 1,s.A 1,Ae (u.alloc _),σ,DA _ _ _ _⟩
end
end
theorem El{a:Act}
  (L:o.guard=none)(d x:Operand)(t A:TypeId)(D:o.op=Op.call { callee:=Callee.builtin Builtin.copy,args:=#[d,x],argTypes:=#[t,A] })
  (q:TypeId)(N:P.underlying t=some (.slice q))(S:(P.info? q).map (·.size)=some 1)
  (b c l u:Nat)(I:a.eval d=.slice (Mw b c) l u)(s:Addr)(r z:Nat)(R:a.eval x=.slice (some s) r z)(h:List Nc)(M:h.length=Nat.min r l)
  (C:∀j v,h[j]?=some v->w.cell? (s.add j)=some v)(H:∀j,j<h.length->(w.cell? ⟨b,c+j,none⟩).isSome=true)(J:∀j,j<h.length->w.frozen? ⟨b,c+j,none⟩=false)(F:∀v∈h,v.oneCell'=true)
  (G:K (a.put o.dst (goInt h.length)) (w.setCells b c h)):if Region.wanted o (yielded aH a.tmps)=true then Oper.wp P o a w K Q else E:=by
 have O:Region.wanted o (yielded aH a.tmps)=true:=by simp[Region.wanted,L]
 rw[AE O];have j:=run_copy_cells (P:=P) w t A o.type q b c l u s r z h N S M C H J F;unfold Oper.wp;simp[execOp,D,resolve,invoke,builtin,I,R,j,Result.andThen];exact G
def TV(k:Nat)(x y:List Int):List Int:=x.take k++y.drop k
theorem Dr(k:Nat)(x y:List Int)(b:k<=64)(c:x.length=64)(d:y.length=64):(TV k x y).length=64:=by simp[TV];omega
theorem PR.part{b:List (List Int)}(h:PR w g b)(i:Nat)(r:i<b.length)(k:Nat)(z:k<=64)(x:List Int)(C:x.length=64):PR (w.setCells g (i*64) ((x.take k).map (Value.int .u8))) g (b.set i (TV k x (b.getD i []))):=by
 have s:((x.take k).map (Value.int .u8)).length=k:=τ
 have D:=bh h.len r;refine⟨by rw[VW];exact h.lt,λp A=>?_,λq c j d=>?_,λq c=>?_⟩
 ·rcases FG A with l|l
  ·exact h.len p l
  rw[l];exact Dr k x _ z C D
 ·rw[List.length_set]at c
  by_cases t:q=i
  ·subst t
   have l:(b.set q (TV k x (b.getD q []))).getD q []=TV k x (b.getD q []):=by rw[AZ,JJ r];rfl
   rw[l]
   by_cases u:j<k
   ·rw[JF g _ (q*64) w (λj d=>by rw[s]at d;exact(h.there r j ω).1) j ω]
    unfold TV;rw[AZ,BC τ,GN u,BQ ω];simp
   rw[EC g _ (q*64) w ⟨g,q*64+j,none⟩ (λ_ _=>by rw[s];show q*64+j<q*64\/q*64+k<=q*64+j;omega),h.cell q c j d]
   unfold TV;rw[AZ (l:=x.take k++_),DG τ,FQ];rw[show k+(j-(x.take k).length)=j by simp;omega,AZ]
  have l:(b.set i (TV k x (b.getD i []))).getD q []=b.getD q []:=by rw[AZ,FR (λe=>t e.symm),AZ]
  rw[l,EC g _ (i*64) w ⟨g,q*64+j,none⟩ (λ_ _=>by rw[s];show q*64+j<i*64\/i*64+k<=q*64+j;omega)];exact h.cell q c j d
 rw[FC];exact h.froz q (by simpa using c)
set_option maxRecDepth 100000 in
theorem wK(X g n c:Nat)(v:Nc)(q:List (List Int))(m:Nat)(x:List Int)(k:Nat)(w:Nb)(s:w.cell? ⟨X,0,none⟩=some (.slice (Mw g 0) n c))(C:X≠g)(z:PR w g q)(hn:q.length=n)(hm:m<n)(S:n<=200)(T:n<=c)(L:x.length=64)(u:k<=64):Calls prog 171 #[Mv X 0,.agg (Value.int .i64 (m:Int)::x.map (Value.int .u8)).toArray,.int .i64 (k:Int)] w λe w'=>e=M3 (.tuple #[])/\PR w' g (q.set m (TV k x (q.getD m [])))/\w.grownBy w' (some g):=by
 have I:X<w.heap.size:=by have:=DM w _ s;simpa using this
 have N:=z.lt;go_enter func171,ntmps171;go_wp2_with fail;have l:=MT w (Value.int .i64 (m:Int)::x.map (Value.int .u8)).toArray 175;have h:=LD w (.cells (Value.int .i64 (m:Int)::x.map (Value.int .u8)).toArray 175);obtain⟨b,d⟩:∃b,b=w.alloc (.cells (Value.int .i64 (m:Int)::x.map (Value.int .u8)).toArray 175):=⟨_,rfl⟩;rw[<-d]at l h⊢;clear d;have aH:=Z (z.I h);have r:=Z (AH ((h.cell (p:=⟨X,0,none⟩) I).j s) (l.cell 0 (.int .i64 (m:Int)) rfl));have d:=Z h
 have F:Hid (∀j v,((x.take k).map (Value.int .u8))[j]?=some v->b.drew.cell? ((⟨w.heap.size,1,none⟩:Addr).add j)=some v):=λj v hv=>by
  obtain⟨t,e⟩:=DJ.1 hv;have A:j<k:=by simp at t;omega
  have D:(⟨w.heap.size,1,none⟩:Addr).add j=⟨w.heap.size,j+1,none⟩:=by unfold Addr.add;split<;>simp_all<;>omega
  rw[D];refine l.cell (j+1) v ?_;rw[<-hv];simp[GN A]
 have D:Hid (((x.take k).map (Value.int .u8)).length=Nat.min k k):=by show _=_;simp[KL];omega
 have M:((x.take k).map (Value.int .u8)).length=k:=τ
 have A:=Z (aH.l.there (k:=m) ω)
 have U:=λt=>qo (P:=prog) (t:=142) underlying142 (λ_=>κ) g (m*64) k ω u .i64 (k:Int) rfl t
 have V:=λt=>qo (P:=prog) (t:=142) underlying142 (λ_=>κ) w.heap.size 1 k ω u .i64 (k:Int) rfl t
 have O:(0:Int)<=(m:Int):=ω
 have R:(m:Int)<(n:Int):=ω
 have G:X≠g:=C;have H:w.heap.size≠g:=ω
 clear s z l h C
 go_region_held3 (λw'=>w'.cell? ⟨X,0,none⟩=some (.slice (Mw g 0) n c)/\w'.cell? ⟨w.heap.size,0,none⟩=some (.int .i64 (m:Int)))
  (first|assumption|exact r.l|exact⟨(EC _ _ _ _ _ (λe=>absurd e G)).j r.l.1,(EC _ _ _ _ _ (λe=>absurd e H)).j r.l.2⟩)
  (first|(refine El ρ _ _ _ _ ρ 5 underlying22 κ g (m*64) k 64 ρ ⟨w.heap.size,1,none⟩ k 64 ρ ((x.take k).map (Value.int .u8)) D.l F.l (λj t=>(A.l j ω).1) (λj t=>(A.l j ω).2) (WB _) ?_))
 have j:=(aH.l.I ((AB _ b).drew)).part m ω k u x L
 have l:w.grownBy (b.drew.setCells g (m*64) ((x.take k).map (Value.int .u8))) (some g):=by
  have h:=YG g ((x.take k).map (Value.int .u8)) (m*64) b.drew;refine⟨h.1.j d.l.os,h.2.1.j d.l.tape,h.2.2.j d.l.output,by rw[VW];exact d.l.size,λi J t=>?_⟩;rw[jg g _ _ _ i (λe=>t (by rw[e]))];exact d.l.block i J
 have h:=Z j;have t:=Z l;clear j l;go_wp2;go_end0;exact⟨rfl,h.l,t.l⟩
theorem uT(v:Nc)(b:List Nc)(z:Array Nc)(q:z.size=b.length+1):List.foldl (λ(r:Array Nc) (x:Nc×Nat)=>r.setIfInBounds (1+x.snd) x.fst) (z.setIfInBounds 0 v) b.zipIdx=(v::b).toArray:=by
 obtain⟨h,d⟩:=Great.foldl_set 1 b 0 (z.setIfInBounds 0 v)
 apply Array.ext_getElem?
 intro k;have e:=d k;rw[e,Array.size_setIfInBounds]
 by_cases l:1<=k/\k<1+b.length
 ·rw[AE ⟨ω,ω,ω⟩]
  obtain⟨j,rfl⟩:∃j,k=j+1:=⟨k-1,ω⟩;simp
 rw[AG ω]
 by_cases c:k=0
 ·subst c
  simp[show 0<z.size by omega]
 rw[DU τ,DU τ]
theorem qL(v:Nc)(b:List Nc)(n:Nat)(t:b.length+1=n)(z:Array Nc)(u:z.size=n)(l:z[0]?=some v):List.foldl (λ(r:Array Nc) (x:Nc×Nat)=>r.setIfInBounds x.snd x.fst) z (b.zipIdx 1)=(v::b).toArray:=by
 obtain⟨q,c⟩:=Great.foldl_set 0 b 1 z
 have h:(λ(r:Array Nc) (x:Nc×Nat)=>r.setIfInBounds (0+x.2) x.1)=λ(r:Array Nc) (x:Nc×Nat)=>r.setIfInBounds x.snd x.fst:=by funext r x;rw[BG]
 rw[h]at q c
 apply Array.ext_getElem?
 intro k;rw[c k]
 by_cases s:1<=k/\k<1+b.length
 ·rw[AE ⟨ω,ω,ω⟩]
  obtain⟨j,rfl⟩:∃j,k=j+1:=⟨k-1,ω⟩;simp
 rw[AG ω]
 by_cases d:k=0
 ·subst d;rw[l];simp
 rw[DU ω,DU τ]
theorem ib:YY.size=65:=κ
theorem nC:¬(YY=#[]):=λh=>by have:=CX Array.size h;rw[ib]at this;cases this
set_option maxRecDepth 100000 in
theorem Bi(a:M6)(l:List (List Int))(c:Nat)(M:M6)(j:List (Int×List Int))(c':Nat)(w:Nb)(h:Plt w a l)(h':Hld w M j)(hl:l.length<=200)(cH:j.length<=300)(bZ:∀p∈l,p.length=64)(bI:∀p∈j,p.2.length=64):Calls prog 62 #[LF a l.length c M j.length c'] w λe w'=>∃v A,e=M3 (.agg #[v,A])/\w'.ownsRow w.heap.size 9 1 v l.length ((OI l).map Value.string)/\w'.ownsRow w.heap.size 133 2 A j.length (NP (XbJ j))/\(v.ownBlock=none\/A.ownBlock=none\/v.ownBlock≠A.ownBlock)/\Below w.heap.size w w':=by
 obtain⟨i0,b,d,q,r⟩:=MK SN;have L:=Z (AH b (AH d (AH q r)));clear b d q r;obtain⟨i1,b,d,q,r⟩:=MK UK;have O:=Z (AH b (AH d (AH q r)));clear b d q r;go_enter func62,ntmps62;go_wp2;go_loopw [5,11] (λ_ i wr=>∃(k:Nat) (v:Nc),k<=l.length/\i=.int .i64 k/\Dsk w wr (w.heap.size+1) (w.heap.size+1+1) (w.heap.size+1+1+1) 9 133 v (.slice none 0 0) (OI (l.take k)) []/\wr.cell? ⟨w.heap.size,1,none⟩=some (.slice M j.length c')) (λ_ i _=>l.length-(intOf i).toNat)
 case atStart=>exact⟨0,_,AM _,rfl,Dsk.start3 _ _ _ _ _ _ _ _,γ⟩
 case round =>
  obtain⟨k,v,hk,rfl,d,s⟩:=hrel
  by_cases X:k<l.length
  ·obtain⟨b,o,x,rfl,cB,G,F⟩:=(h.I d.bel).at X
   have H:x.length=64:=by rw[F.l];exact bZ _ (by simp[List.getD,X])
   have q:(x.map (Value.int .u8)).length=64:=by simp[H]
   have aH:(OI (l.take k)).length=k:=by simp[OI];omega
   have D:=Z aH;have r:=Z d;have J:=Z s;clear d s aH;have S:Hid ((prog.info? 142).map (·.size)=some (x.map (Value.int .u8)).length):=by rw[q];show _=_;kernel_rfl
   have V:=Z q.symm;clear q
   go_wp2_with (first|(with_reducible refine OF 142 _ rfl ?_;refine AS rfl 142 _ rfl b (o+k*64) rfl (x.map (Value.int .u8)) _ G underlying142 rfl S.l ?_)|(with_reducible refine MW 142 _ _ rfl ?_;refine df rfl 142 _ _ rfl (x.map (Value.int .u8)) (WB x) rfl rfl _ _ (by rw[<-V.l];kernel_rfl) S.l ?_;intro q u t I))
   have z:=Z (r.l.I t);have q0:=(r.l.I t).d0;have q1:=(r.l.I t).fd0;have cC:w.heap.size+1+1<q.heap.size:=by have:=z.l.sz;omega
   have aN:w.heap.size+1+1+1<=q.heap.size:=z.l.sz;have b7:=u.drew.text (P:=prog) x 0 64 64 H (λi hi=>by simp[List.getD,show i<x.length by omega]) 22 5 9 underlying22 underlying5 underlying9;have bY:Hid (q.cell? ⟨w.heap.size,1,none⟩=some (.slice M j.length c')):=(t.cell (p:=⟨w.heap.size,1,none⟩) (by have:=r.l.sz;show w.heap.size<wr.heap.size;omega)).j J.l;have R:=Z (z.l.drew.own.alloc (.cells #[Mz (strOfNums x)] 9));have C:=Z (z.l.drew.alloc (.cells #[Mz (strOfNums x)] 9));clear u t I r J G
   go_region_law (first|(refine step_append_lies _ ρ _ _ _ ρ (w.heap.size+1+1+1) 9 i0 (Mz empty) 1 16 underlying23 L.l.1 L.l.2.1 L.l.2.2.1 L.l.2.2.2 rfl ω v (OI (l.take k)).length ((OI (l.take k)).map Value.string) ρ R.l ⟨q.heap.size,0,none⟩ 1 1 [Mz (strOfNums x)] ρ rfl (World.news_of_block (AU q.drew _)) (by intro u J;simp at J;subst J;rfl) ω (by rw[D.l];unfold maxLen;omega) (by rw[D.l];omega) ξ (q.heap.size+1) σ ?_;intro g I w3 t r G bT;obtain⟨q4,q5⟩:=C.l.J r;have U:=Z t;have N:=Z r;have T:=Z G;clear t r G))
   all_goals
    have r:=C.l.push U.l N.l T.l σ;have G:=(C.l.far N.l w.heap.size 1 0 ω ω (.slice (Mw g 0) ((OI (l.take k)).length+1) I)).j ((FA (w:=q.drew) _ w.heap.size 1 (by show w.heap.size<q.heap.size;omega)).j bY.l);rw[F.l,<-Ih l k X]at r;have t:=Z r;have HF:=Z G;clear r G;go_wp2;go_roundw
    case rel=>exact⟨k+1,_,ω,ν,t.l,HF.l⟩
    case measure=>simp[intOf];omega
  have cA:Hid (l.take k=l):=AQ ω
  rw[cA.l]at d;have b:w.heap.size<wr.heap.size:=by have:=d.sz;omega
  go_wp2;go_loopw [7,26] (λ_ i wr=>∃(k:Nat) (A:Nc),k<=j.length/\i=.int .i64 k/\Dsk w wr (w.heap.size+1) (w.heap.size+1+1) (w.heap.size+1+1+1) 9 133 v A (OI l) (XbJ (j.take k))) (λ_ i _=>j.length-(intOf i).toNat)
  case atStart=>exact⟨0,_,AM _,rfl,d⟩
  case round =>
   clear d s b;obtain⟨s,A,cF,rfl,d⟩:=hrel
   by_cases S:s<j.length
   ·obtain⟨b,o,n,x,rfl,cB,G,F⟩:=(h'.I d.bel).at S
    have H:x.length=64:=by
     have:=bI (n,x) (by rw[F.l];simp[List.getD,S]);exact this
    have q:(Value.int .i64 n::x.map (Value.int .u8)).length=65:=by simp[H]
    have aH:(XbJ (j.take s)).length=s:=by simp[XbJ];omega
    have D:=Z aH;have r:=Z d;clear d aH;have aL:Hid ((prog.info? 175).map (·.size)=some (Value.int .i64 n::x.map (Value.int .u8)).length):=by rw[q];show _=_;kernel_rfl
    have V:=Z q.symm;clear q;have cJ:=il
    go_wp2_with (first|(with_reducible refine OF 175 _ rfl ?_;refine AS rfl 175 _ rfl b (o+s*65) rfl (Value.int .i64 n::x.map (Value.int .u8)) _ G underlying175 rfl aL.l ?_)|(with_reducible refine MW 175 _ _ rfl ?_;refine df rfl 175 _ _ rfl (Value.int .i64 n::x.map (Value.int .u8)) (ic n x) rfl rfl _ _ (by rw[<-V.l];kernel_rfl) aL.l ?_;intro q u t I))
    have z:=Z (r.l.I t);have q0:=(r.l.I t).d1;have q1:=(r.l.I t).fd1;have cC:w.heap.size+1+1<q.heap.size:=by have:=z.l.sz;omega
    have cI:wr.heap.size<q.heap.size:=ω
    have aN:w.heap.size+1+1+1<=q.heap.size:=z.l.sz;have cE:q.cell? ⟨wr.heap.size,0,none⟩=some (.int .i64 n):=u.y 0;have b7:=u.drew.text (P:=prog) x 1 64 64 H (λi hi=>by rw[show 1+i=i+1 by omega];simp[List.getD,show i<x.length by omega]) 22 5 9 underlying22 underlying5 underlying9;have R:=Z (z.l.drew.own'.alloc (.cells #[.int .i64 n,Mz (strOfNums x)] 133));have C:=Z (z.l.drew.alloc (.cells #[.int .i64 n,Mz (strOfNums x)] 133));clear u t I r G
    go_region_law (first|(refine step_append_lies _ ρ _ _ _ ρ (w.heap.size+1+1+1) 133 i1 (.agg #[.int .i64 0,Mz empty]) 2 24 underlying24 O.l.1 O.l.2.1 O.l.2.2.1 O.l.2.2.2 rfl ω A (XbJ (j.take s)).length (NP (XbJ (j.take s))) ρ R.l ⟨q.heap.size,0,none⟩ 1 1 [.int .i64 n,Mz (strOfNums x)] ρ rfl (World.news_of_block (AU q.drew _)) (by intro u J;simp at J;rcases J with rfl|rfl<;>rfl) ω (by rw[D.l];unfold maxLen;omega) (by rw[D.l];omega) ξ (q.heap.size+1) σ ?_;intro g I w3 t r G bT;obtain⟨q4,q5⟩:=C.l.grown2 r;have U:=Z t;have N:=Z r;have T:=Z G;clear t r G))
    all_goals
     have r:=C.l.push2 (x:=(n,strOfNums x)) U.l N.l T.l σ;rw[show(n,strOfNums x)=((j.getD s (0,[])).1,strOfNums (j.getD s (0,[])).2) by rw[<-F.l],<-Ej j s S]at r;have t:=Z r;clear r;go_wp2;go_roundw
     case rel=>exact⟨s+1,_,ω,ν,t.l⟩
     case measure=>simp[intOf];omega
   have D:Hid (j.take s=j):=AQ ω
   rw[D.l]at d;have r:=Z d;have q0:=d.d0;have q1:=d.d1;have G:=d.r0;have H:=d.r1;have q4:=d.fr0;have q5:=d.fr1;have C:=d.own;have F:=d.own';obtain⟨b,z,x,rfl⟩:∃a n c,v=.slice a n c:=by rcases NU d.own with ⟨e,_⟩|⟨g,c,e,_⟩<;>exact⟨_,_,_,e⟩
   obtain⟨q,u,t,rfl⟩:∃a n c,A=.slice a n c:=by rcases NU d.own' with ⟨e,_⟩|⟨g,c,e,_⟩<;>exact⟨_,_,_,e⟩
   clear d C F;go_wp2;have aH:(OI l).length=l.length:=by simp[OI]
   have F:(XbJ j).length=j.length:=by simp[XbJ]
   have d:=EA (EA r.l.own (a:=⟨w.heap.size+1,0,none⟩) (by show w.heap.size+1<_;omega) (.slice b z x)) (a:=⟨w.heap.size+1,1,none⟩) (by show w.heap.size+1<_;omega) (.slice q u t);have C:=EA (EA r.l.own' (a:=⟨w.heap.size+1,0,none⟩) (by show w.heap.size+1<_;omega) (.slice b z x)) (a:=⟨w.heap.size+1,1,none⟩) (by show w.heap.size+1<_;omega) (.slice q u t);rw[aH]at d;rw[F]at C;refine AJ (v:=.agg #[.slice b z x,.slice q u t]) (by simp[results,results62,go_sem,G,H]) rfl ⟨_,_,rfl,d.z ω,C.z ω,r.l.apart,?_⟩;exact(r.l.bel.setCell (by show w.heap.size<=w.heap.size+1;omega) _).setCell (by show w.heap.size<=w.heap.size+1;omega) _
theorem mp(a:M6)(l:List (List Int))(n c:Nat)(u:M6)(j:List (Int×List Int))(t A:Nat)(V:l.length=n)(L:j.length=t)(w:Nb)(h:Plt w a l)(S:Hld w u j)(U:n<=200)(J:t<=300)(H:∀p∈l,p.length=64)(G:∀p∈j,p.2.length=64):Calls prog 62 #[LF a n c u t A] w λe w'=>∃b r d q,e=M3 (LF b n r d t q)/\OwnD w' b (OI l) d (XbJ j)/\(∀g,blk b n=some g->w.heap.size<=g)/\(∀g,blk d t=some g->w.heap.size<=g)/\Below w.heap.size w w':=by
 subst V L;refine(Bi a l c u j A w h S U J H G).z ?_;rintro e w' ⟨v,F,rfl,o1,o2,I,T⟩;have C:(OI l).length=l.length:=by simp[OI]
 have D:(XbJ j).length=j.length:=by simp[XbJ]
 have M:∃b r,v=.slice b l.length r/\OwnS w' b ((OI l).map Value.string)/\(∀g,blk b l.length=some g->w.heap.size<=g)/\(blk b l.length=none\/blk b l.length=v.ownBlock):=by
  rcases NU o1 with ⟨e,q⟩|⟨g,s,e,x,_,z⟩
  ·refine⟨none,0,by rw[q];exact e,.inl ?_,λg d=>?_,.inl ?_⟩
   ·rw[AC (C.j q)];rfl
   ·rw[q]at d;cases d
   rw[q];rfl
  refine⟨_,s,e,.inr ⟨g,rfl,z⟩,λO d=>?_,?_⟩
  ·unfold blk at d;split at d
   ·cases d
   cases d;exact x
  unfold blk;split
  ·exact .inl rfl
  right;rw[e];rfl
 have N:∃b r,F=.slice b j.length r/\OwnS w' b (NP (XbJ j))/\(∀g,blk b j.length=some g->w.heap.size<=g)/\(blk b j.length=none\/blk b j.length=F.ownBlock):=by
  rcases NU o2 with ⟨e,q⟩|⟨g,s,e,x,_,z⟩
  ·refine⟨none,0,by rw[q];exact e,.inl ?_,λg d=>?_,.inl ?_⟩
   ·rw[AC (D.j q)];rfl
   ·rw[q]at d;cases d
   rw[q];rfl
  refine⟨_,s,e,.inr ⟨g,rfl,z⟩,λO d=>?_,?_⟩
  ·unfold blk at d;split at d
   ·cases d
   cases d;exact x
  unfold blk;split
  ·exact .inl rfl
  right;rw[e];rfl
 obtain⟨b,r,x,O,R,d⟩:=M;obtain⟨q,s,z,X,k2,k3⟩:=N;refine⟨b,r,q,s,by rw[x,z],⟨O,X,?_⟩,R,k2,T⟩;rw[C,D];rcases d with d|d
 ·exact .inl d
 rcases k3 with k3|k3
 ·exact .inr (.inl k3)
 rw[d,k3];exact I
def rZ(b:List Int):List Nc:=b.map (Value.int .i64)
theorem Row.ints{b:List Int}(h:Row w g (rZ b)):Ints w (Mw g 0) b :=.inr ⟨g,0,rfl,h.lt,λi c=>by rw[BG];exact h.cell i _ (by simp[rZ,List.getD,c])⟩
section
@[reducible] def iz(b c:Nc)(frm size n:Int):Nc:=.agg #[.iface 257 (.agg #[b,c]),.int .i64 frm,.int .i64 size,.int .i64 n]
abbrev Pgs(S:Nat->Y)(frm:Nat)(n:Int)(size:Nat):Type:={ x:Nat // x<size/\(MA (S (frm+x)) n).isSome=true }
def TT(S:Nat->Y)(frm:Nat)(n:Int)(x:Nat):Int×Int×Int×Y:=(MA (S (frm+x)) n).getD (0,0,0,empty)
theorem om{S:Nat->Y}(x:Pgs S frm n size){k l:Int}(h:TT S frm n x.1=(k,l,m,p)):MA (S (frm+x.1)) n=some (k,l,m,p):=by
 unfold TT at h;obtain⟨y,b⟩:=FW.1 x.2.2;rw[b]at h⊢;simp at h;rw[h]
def Good{S:Nat->Y}{frm:Nat}{n:Int}{size:Nat}(u:Nat)(b:List (Pgs S frm n size)):Prop:=b.map Subtype.val=List.range' u b.length
theorem Good.nil{S:Nat->Y}(u:Nat):Good u ([]:List (Pgs S frm n size)):=rfl
theorem Good.snoc{S:Nat->Y}{u:Nat}{b:List (Pgs S frm n size)}{x:Pgs S frm n size}(h:Good u (b++[x])):Good u b/\x.1=u+b.length:=by
 unfold Good at h⊢;rw[DK,AF,EU,List.range'_concat]at h;have:=List.append_inj h σ;exact⟨this.1,by simpa using this.2⟩
theorem Good.push{S:Nat->Y}{u:Nat}{b:List (Pgs S frm n size)}{x:Pgs S frm n size}(h:Good u b)(c:x.1=u+b.length):Good u (b++[x]):=by
 unfold Good at h⊢;rw[DK,AF,EU,List.range'_concat,h];simp[c]
def Chn{S:Nat->Y}{frm:Nat}{n:Int}{size:Nat}(first:Int)(d:Scd)(u:Nat)(b:List (Pgs S frm n size))(wk wl:Int)(op:Y)(c:Scd):Prop :=Good u b->u+b.length<=size/\ML S frm first n (size-(u+b.length)) (u+b.length) wk wl op c=d
section
variable {S:Nat->Y} {frm:Nat} {n:Int} {size:Nat} {first:Int} {RES:Scd} {u:Nat} {pre:List (Pgs S frm n size)} {x:Pgs S frm n size} {wk wl k l m:Int} {p op:Y} {out:Scd}
theorem xt{x:Nat}(c:0<=m/\m<=4294967296)(b:-9223372036854775808<=first/\first<=9223372036854775807):IntKind.i64.wrap (m-(x:Int))=first<->m=IntKind.i64.wrap (first+(x:Int)):=by
 simp[IntKind.wrap,IntKind.bits,IntKind.signed];omega
theorem Chn.no(h:Chn first RES u pre wk wl op out)(s:TT S frm n x.1=(k,l,m,p))(j:-9223372036854775808<=first/\first<=9223372036854775807)(r:¬(m=IntKind.i64.wrap (first+(x.1:Int))/\PD wk wl k l=true))(q:Good u (pre++[x])):out=RES:=by
 obtain⟨c,t⟩:=q.snoc;obtain⟨z,d⟩:=h c;have b:=om x s;have A:=SA b;rw[<-d,<-t];refine(ZT b ?_).symm;rw[xt ω j];exact r
theorem Chn.part(h:Chn first RES u pre wk wl op out)(t:TT S frm n x.1=(1,l,m,p))(r:-9223372036854775808<=first/\first<=9223372036854775807)(j:m=IntKind.i64.wrap (first+(x.1:Int)))(d:PD wk wl 1 l=true):Chn first RES u (pre++[x]) 1 l (op++p) out:=by
 intro s;obtain⟨c,z⟩:=s.snoc;obtain⟨C,q⟩:=h c;have b:=om x t;have D:=SA b;have A:=x.2.1;rw[AF,EU];refine⟨ω,?_⟩;rw[<-q,show size-(u+pre.length)=(size-(u+(pre.length+1)))+1 by omega,<-z,XL b ((xt ω r).2 j) d,show u+(pre.length+1)=x.1+1 by omega]
theorem Chn.end(h:Chn first RES u pre wk wl op out)(z:TT S frm n x.1=(k,l,m,p))(r:-9223372036854775808<=first/\first<=9223372036854775807)(j:m=IntKind.i64.wrap (first+(x.1:Int)))(d:PD wk wl k l=true)(t:k≠1)(s:Good u (pre++[x])):Chn first RES (x.1+1) ([]:List (Pgs S frm n size)) k l empty (if k=2 then out.1++[op++p] else out.1,(x.1:Int)+1,l):=by
 intro _;obtain⟨c,A⟩:=s.snoc;obtain⟨D,q⟩:=h c;have b:=om x z;have F:=SA b;have C:=x.2.1;refine⟨τ,?_⟩;rw[<-q,show size-(u+pre.length)=(size-(x.1+1))+1 by omega,<-A,WC b ((xt ω r).2 j) d t];simp
theorem Chn.done(h:Chn first RES u pre wk wl op out)(d:Good u pre)(b:size<=u+pre.length\/MA (S (frm+(u+pre.length))) n=none):out=RES:=by
 obtain⟨j,c⟩:=h d;rw[<-c];rcases b with b|b
 ·rw[show size-(u+pre.length)=0 by omega];rfl
 exact(dy b).symm
end
end
theorem yH(y b:Int)(j:0<=y)(l:y<=1099511627776)(d:0<=b)(h:b<=255):bits .or .u64 (IntKind.u64.wrap (y*256)) (IntKind.u64.wrap b)=y*256+b:=by
 rw[XU _ ω ω,XU _ ω ω];obtain⟨c,rfl⟩:∃c:Nat,y=(c:Int):=⟨y.toNat,ω⟩;obtain⟨C,rfl⟩:∃C:Nat,b=(C:Int):=⟨b.toNat,ω⟩;have e:((c:Int)*256)=((256*c:Nat):Int):=ω
 rw[e,bits_or_u64_nat _ _ ω ω];have:=Nat.two_pow_add_eq_or_of_lt (i:=8) (b:=C) ω c;simp only[Nat.reducePow]at this;rw[<-this];omega
theorem vy(s:Y)(b:TypeId)(v:Nc)(w:Nb)(hv:w.cell? ⟨1,0,none⟩=some (.iface b v)):Calls prog 85 #[Mz s] w λe w'=>e=M3 (.iface 94 (Mv w.heap.size 0))/\w'=w.alloc (.cells #[Mz s,.iface b v] 196):=by
 go_enter func85,ntmps85;go_wp2;go_ret;exact⟨rfl,rfl⟩
theorem xG(F o:Nat)(d:List Int)(c:Nat)(w:Nb)(H:∀y∈d,0<=y/\y<=255)(L:d.length<=4)(s:∀i,i<d.length->w.cell? ⟨F,o+i,none⟩=some (.int .u8 (d.getD i 0))):Calls prog 87 #[.slice (Mw F o) d.length c] w λe w'=>e=M3 (.int .u64 (NY d))/\w'=w:=by
 have t:=MF s;clear s;go_enter func87,ntmps87;go_wp2;go_loop [3,5,8] (λx _ i=>∃(k:Nat) (y:Int),k<=d.length/\i=.int .i64 (k:Int)/\x=.int .u64 y/\Hid (y=NY (d.take k))/\0<=y/\Hid (y<(256:Int) ^ k)) (λ_ _ i=>d.length-(intOf i).toNat)
 case atStart=>exact⟨0,0,AM _,rfl,rfl,by show _=_;simp[NY],ω,by show _<_;simp⟩
 case round =>
  obtain⟨k,y,J,rfl,rfl,q,G,r⟩:=hrel
  by_cases j:k<d.length
  ·have D:=t.l k j
   obtain⟨b,l⟩:∃b,d.getD k 0=b:=⟨_,rfl⟩;rw[l]at D;obtain⟨A,C⟩:0<=b/\b<=255:=by rw[<-l];exact H _ (by simp[List.getD,j])
   have I:(k:Int)<(d.length:Int):=ω
   have x:(256:Int) ^ k<=16777216:=by
    have:k=0\/k=1\/k=2\/k=3:=ω
    rcases this with h|h|h|h<;>rw[h]<;>decide
   have u:Hid (y*256+b=NY (d.take (k+1))):=by
    show _=_;rw[AY j,nn,<-q.l,<-l];simp[List.getD,j]
   have h:=yH y b G (by have:=r.l;omega) A C;have z:Hid (bits .or .u64 (IntKind.u64.wrap (y*256)) b=y*256+b):=by show _=_;rw[XU b ω ω]at h;exact h
   have aH:0<=y*256+b:=ω
   clear h;have h:Hid (y*256+b<(256:Int) ^ (k+1)):=by show _<_;rw[KZ];have:=r.l;omega
   clear l x;go_wp2;go_round
   case rel=>exact⟨k+1,y*256+b,ω,ν,CX _ z.l,u.l,aH,h.l⟩
   case measure=>simp[intOf];omega
  go_wp2
  go_ret;refine⟨tU ?_,rfl⟩;rw[q.l,AQ ω]
def aa(E:Addr)(o:Option (Int×Int×Int×Y)):Nc:=match o with
 | none=>.tuple #[OE 0 0 0 ⟨#[]⟩,.iface 94 (.pointer (some E))]
 | some (k,l,m,p)=>.tuple #[OE k l m p,.nilIface]
theorem bw(F:Nat)(b:List Int)(r:Hid (∀y∈b,0<=y/\y<=255))(o k c:Nat)(t:k<=4)(u:o+k<=b.length)(w:Nb)(q:Fm w F b)(V:Int)(l:V=NY ((b.drop o).take k)):Calls prog 87 #[.slice (Mw F o) k c] w λe w'=>e=M3 (.int .u64 V)/\w'=w:=by
 have j:((b.drop o).take k).length=k:=τ
 have h:=xG F o ((b.drop o).take k) c w (λy s=>r.l y (FE (DE s))) ω (λi d=>by
  rw[q.cell (o+i) ω];rw[j]at d
  simp[List.getD,GN d,FQ])
 rw[j,<-l]at h;exact h
theorem If(s:Y)(n:Int)(w:Nb)(b:TypeId)(v:Nc)(hv:w.cell? ⟨1,0,none⟩=some (.iface b v))(l:1<w.heap.size)(c:¬(1<=n/\n<=8)):Calls prog 46 #[Mz s,.int .i64 n] w λe w'=>(∃E,e=M3 (aa E none))/\Below w.heap.size w w':=by
 have j:decide (1<=n/\n<=8)=false:=by simpa using c
 have h:∀o d,Below w.heap.size w ((w.alloc o).alloc d):=λo d=>(LO _ _).alloc σ _
 have d:∀o,(w.alloc o).cell? ⟨1,0,none⟩=some (.iface b v):=λo=>(FA _ _ _ (by exact l)).j hv
 clear c;go_enter func46,ntmps46
 go_wp2_with (first|(go_at_call 53;refine(SZ _ _).z ?_;rw[j];rintro e q ⟨rfl,rfl⟩)|(go_at_call 85;refine(vy _ b v _ (d _)).z ?_;rintro e q ⟨rfl,rfl⟩))
 refine AJ (v:=.tuple #[OE 0 0 0 ⟨#[]⟩,.iface 94 (Mv (w.heap.size+1) 0)]) (by simp[results,results46,go_sem]) rfl ⟨⟨_,rfl⟩,?_⟩;exact h _ _
theorem Hi(s:Y)(n:Int)(w:Nb)(b:TypeId)(v:Nc)(hv:w.cell? ⟨1,0,none⟩=some (.iface b v))(l:1<w.heap.size)(c:1<=n/\n<=8)(q:s.size≠64):Calls prog 46 #[Mz s,.int .i64 n] w λe w'=>(∃E,e=M3 (aa E none))/\Below w.heap.size w w':=by
 have j:decide (1<=n/\n<=8)=true:=by simpa using c
 have t:((s.size:Int) != 64)=true:=τ
 have h:∀o d,Below w.heap.size w ((w.alloc o).alloc d):=λo d=>(LO _ _).alloc σ _
 have d:∀o,(w.alloc o).cell? ⟨1,0,none⟩=some (.iface b v):=λo=>(FA _ _ _ (by exact l)).j hv
 clear c q;go_enter func46,ntmps46
 go_wp2_with (first|(go_at_call 53;refine(SZ _ _).z ?_;rw[j];rintro e r ⟨rfl,rfl⟩)|(go_at_call 85;refine(vy _ b v _ (d _)).z ?_;rintro e r ⟨rfl,rfl⟩))
 refine AJ (v:=.tuple #[OE 0 0 0 ⟨#[]⟩,.iface 94 (Mv (w.heap.size+1) 0)]) (by simp[results,results46,go_sem]) rfl ⟨⟨_,rfl⟩,?_⟩;exact h _ _
structure RB(W w:Nb):Prop where
 size:W.heap.size+1<=w.heap.size
 bel:Below W.heap.size W w
 c0:w.cell? ⟨W.heap.size,0,none⟩=some (.int .i64 0)
 c1:w.cell? ⟨W.heap.size,1,none⟩=some (.int .i64 0)
 c2:w.cell? ⟨W.heap.size,2,none⟩=some (.int .i64 0)
 c3:w.cell? ⟨W.heap.size,3,none⟩=some (Mz ⟨#[]⟩)
 f0:w.frozen? ⟨W.heap.size,0,none⟩=false
 f1:w.frozen? ⟨W.heap.size,1,none⟩=false
 f2:w.frozen? ⟨W.heap.size,2,none⟩=false
 f3:w.frozen? ⟨W.heap.size,3,none⟩=false
theorem RB.I(h:RB W w)(b:Below w.heap.size w w'):RB W w':=by
 have j:=h.size
 have c:∀i,w'.cell? ⟨W.heap.size,i,none⟩=w.cell? ⟨W.heap.size,i,none⟩:=λi=>b.cell (p:=⟨W.heap.size,i,none⟩) (by show W.heap.size<_;omega)
 have d:∀i,w'.frozen? ⟨W.heap.size,i,none⟩=w.frozen? ⟨W.heap.size,i,none⟩:=λi=>b.frozen (p:=⟨W.heap.size,i,none⟩) (by show W.heap.size<_;omega)
 exact⟨AK j b.size,h.bel.j (b.z ω),(c _).j h.c0,(c _).j h.c1,(c _).j h.c2,(c _).j h.c3,(d _).j h.f0,(d _).j h.f1,(d _).j h.f2,(d _).j h.f3⟩
theorem RB.drew(h:RB W w):RB W w.drew:=⟨h.size,h.bel.drew,h.c0,h.c1,h.c2,h.c3,h.f0,h.f1,h.f2,h.f3⟩
theorem RB.alloc(h:RB W w)(o:Obj):RB W (w.alloc o):=h.I (LO _ _)
theorem RB.new(W:Nb)(t:TypeId):RB W (W.alloc (.cells #[.int .i64 0,.int .i64 0,.int .i64 0,Mz ⟨#[]⟩] t)):=by
 refine⟨σ,LO _ _,?_,?_,?_,?_,?_,?_,?_,?_⟩<;>first|(simp;done)|(rw[DQ];exact XR _ _ _ (AA _))
theorem rz(s:Y)(b:TypeId)(v:Nc)(w:Nb)(hv:w.cell? ⟨1,0,none⟩=some (.iface b v)):Calls prog 85 #[Mz s] w λe w'=>(∃E,e=M3 (.iface 94 (.pointer (some E))))/\Below w.heap.size w w' :=(vy s b v w hv).z λe w' h=>⟨⟨_,h.1⟩,by rw[h.2];exact LO _ _⟩
set_option maxRecDepth 4000 in
theorem Av(s:Y)(n N:Nat)(w:Nb)(l:TypeId)(v:Nc)(hv:w.cell? ⟨1,0,none⟩=some (.iface l v))(X:1<w.heap.size)(j:s.size=64)(h1:1<=n)(h2:n<=8)(A:(N:Int)=NY (((LI s).drop (n+7)).take 1))(aO:56<N+n)(aP:N<=255):Calls prog 46 #[Mz s,.int .i64 (n:Int)] w λe w'=>(∃E,e=M3 (aa E none))/\Below w.heap.size w w':=by
 have V:decide (1<=(n:Int)/\(n:Int)<=8)=true:=τ
 have aU:(s.size:Int)=64:=ω
 have aQ:∀o,Below w.heap.size w (w.alloc o):=λo=>LO _ _
 have O:∀w',Below w.heap.size w w'->w'.cell? ⟨1,0,none⟩=some (.iface l v):=λw' b=>(b.cell (p:=⟨1,0,none⟩) X).j hv
 obtain⟨c,d⟩:∃c,Hid (c=LI s):=⟨_,MF rfl⟩;have h:c.length=64:=by rw[d.l,NH];exact j
 have aV:(c.map (Value.int .u8)).toArray.size=64:=by simp[h]
 have J:Hid (∀y∈c,0<=y/\y<=255):=by rw[d.l];exact fv s
 have G:=MF j;clear j
 have L:=λg D=>mz (P:=prog) (t:=142) underlying142 (λ_=>κ) g 0 n ω .i64 (n:Int) rfl D
 obtain⟨q,hq⟩:∃q,64-n=q:=⟨_,rfl⟩;rw[hq]at L;have aT:(8:Int)<=(q:Int):=ω
 have aS:(7:Int)<=(q:Int):=ω
 have F:Hid ((N:Int)=NY ((c.drop (n+7)).take 1)):=by rw[d.l];exact MF A
 clear A;have aR:(64-(n:Int)-8)<(N:Int):=ω
 go_enter func46,ntmps46
 go_wp2_with (first|(go_at_call 53;refine(SZ _ _).z ?_;rw[V];rintro e C ⟨rfl,rfl⟩)|(go_at_call 88;refine(um _ _ ω ω).z ?_;rintro e w3 ⟨rfl,rfl⟩)|(go_at_call 86;refine(TR s _ G.l).z ?_;rw[<-d.l];rintro e C ⟨rfl,t⟩;have aH:=MF ((RB.new w _).I t);clear t)|(refine tk rfl 142 _ _ rfl c rfl rfl _ _ (.int .u8 0) (by rw[h];rfl) (by rw[h];kernel_rfl) ?_;intro D z x M;have H:=MF z;clear z;have r:=MF (aH.l.I x);clear x M)|(go_at_call 87;refine(bw C.heap.size c J (n+7) 1 _ ω ω _ H.l (N:Int) F.l).z ?_;rintro e w3 ⟨rfl,rfl⟩)|(go_at_call 85;refine(rz _ l v _ (O _ r.l.bel)).z ?_;rintro e w4 ⟨⟨E,rfl⟩,u⟩;have b:=r.l.I u;clear u;have R:=b.c0;have S:=b.c1;have T:=b.c2;have U:=b.c3;have f0:=b.f0;have f1:=b.f1;have f2:=b.f2;have f3:=b.f3;have I:=MF b;clear b))
 refine AJ (v:=.tuple #[OE 0 0 0 ⟨#[]⟩,.iface 94 (.pointer (some E))]) (by simp[results,results46,go_sem,R,S,T,U]) rfl ⟨⟨E,rfl⟩,?_⟩;exact(((I.l.bel.setCell (AA _) _).setCell (AA _) _).setCell (AA _) _).setCell (AA _) _
theorem yj{q:Func}{p u:Tmp}{l:TypeId}(h:q.results=#[.cell p l,.tmp u])(c:Array Nc)(w:Nb)(b o:Nat)(z:c.getD p undef=Mv b o)
  (j:List Nc)(d:TypeDesc)(r:w.rangeAt b o j)(A:P.underlying l=some d)(s:d.isRow=true)(t:(P.info? l).map (·.size)=some j.length):(results q c).run P w=.ok (.tuple #[.agg j.toArray,c.getD u undef]) w:=by
 have x:=JA (P:=P) w b o l j d r A s t;rw[results_cell_tmp h];simp[z,asAddr,x,Result.andThen]
set_option maxRecDepth 100000 in
theorem Ig(g n c m:Nat)(b:List (List Int))(w:Nb)(q:PR w g b)(z:b.length=n)(aH:n<=200)(A:m<n):Calls prog 241 #[.slice (Mw g 0) n c,.int .i64 (m:Int)] w λe w'=>e=M3 (.tuple #[.agg ((b.getD m []).map (Value.int .u8)).toArray,M0 true])/\Below w.heap.size w w':=by
 have h:∀o,(w.alloc o).rangeAt g (m*64) ((b.getD m []).map (Value.int .u8)):=λo=>(q.I (LD w o)).range (k:=m) ω
 have d:=bh q.len (k:=m) ω;obtain⟨x,r⟩:∃x,Hid (x=b.getD m []):=⟨_,Z rfl⟩;rw[<-r.l]at h d⊢;have l:(x.map (Value.int .u8)).toArray.size=64:=by simp[d]
 have j:Hid ((prog.info? 142).map (·.size)=some (x.map (Value.int .u8)).length):=by show _=_;rw[BU,d];kernel_rfl
 have s:=Z h;have t:¬((m:Int)<0):=ω
 have u:¬(n<=m):=ω
 clear h;go_enter func241,ntmps241
 go_wp2_with (first|(with_reducible refine OF 142 _ rfl ?_;refine AS rfl 142 _ rfl g (m*64) rfl (x.map (Value.int .u8)) _ (by exact s.l _) underlying142 rfl j.l ?_)|(with_reducible refine MW 142 _ _ rfl ?_;refine BI rfl 142 _ _ rfl w.heap.size 0 (x.map (Value.int .u8)).toArray rfl rfl (by rw[l];exact(MT w _ _).there κ) (by rw[l];kernel_rfl) (GH (WB x)) ?_))
 refine AJ (v:=.tuple #[.agg (x.map (Value.int .u8)).toArray,M0 true]) (yj (p:=4) (u:=5) results241 _ _ w.heap.size 0 rfl (x.map (Value.int .u8)) _ (EG _ _ _ _ (by rw[BU,d];exact(MT w _ _).there κ)) underlying142 rfl j.l) rfl ⟨rfl,?_⟩;exact Go.below_setCells (AA _) _ _ _ (LD _ _)
set_option maxRecDepth 100000 in
theorem rdr(a b:M6)(n c h d:Nat)(w:Nb):Calls prog 144 #[.agg #[.slice a n c,.slice b h d]] w λe w'=>e=M3 (.iface 257 (.agg #[.slice b h d,.iface 113 (.slice a n c)]))/\Below w.heap.size w w':=by
 go_enter func144,ntmps144;go_wp2;go_ret;exact⟨rfl,LD _ _⟩
theorem Hu(n:Nat)(w:Nb)(V:8<=n)(I:n<=200):Calls prog 54 #[.int .i64 (n:Int)] w λe w'=>∃g c b d,e=M3 (LF (Mw g 0) n c b 0 d)/\w.heap.size<=g/\Row w' g ((List.replicate n MI).map Value.string)/\Below w.heap.size w w':=by
 have aH:(8:Int)<=(n:Int):=ω
 have G:(n:Int)<=200:=ω
 have J:decide (8<=(n:Int)/\(n:Int)<=200)=true:=AL ⟨aH,G⟩;go_enter func54,ntmps54
 go_wp2_with (first|(go_at_call 52;refine(QF _ _).z ?_;rw[J];rintro e w' ⟨rfl,rfl⟩)|(at_make;refine xm rfl _ _ 113 rfl 142 _ 64 64 underlying113 vS n rfl rfl ω ω ?_;intro C d l S;rw[pH]at d))
 have h:Below (w.alloc (.cells #[.slice none 0 0,.slice none 0 0] 26)).heap.size (w.alloc (.cells #[.slice none 0 0,.slice none 0 0] 26)) C:=by first|exact l|simpa using l
 simp only[BD]at d;have c:=(xZ d).I ((AB _ _).alloc (AA _) (.cells #[.slice (Mw (w.heap.size+1) 0) n n,.slice none 0 0] 116));refine(mp (Mw (w.heap.size+1) 0) (List.replicate n (List.replicate 64 0)) n n none [] 0 0 σ rfl _ c (.inl rfl) I ω (λp c=>by rw[List.eq_of_mem_replicate c];simp) (λp c=>by simp at c)).z ?_;rintro e j ⟨N,x,r,z,rfl,A,u,H,t⟩;have b:=h.j (((AB _ _).alloc (AA _) _).j (t.z σ) |>.z h.size);have R:w.heap.size+1<=C.heap.size:=by have:=h.size;simpa using this
 obtain⟨g,rfl,q⟩:=A.s.resolve_left (ig (by simp[OI];omega));have O:w.heap.size+1<=g:=by have:=u g (NT g 0 n ω);simp at this;omega
 have s:OI (List.replicate n (List.replicate 64 0))=List.replicate n MI:=by simp[OI,MI]
 rw[s]at q;have L:j.cell? ⟨w.heap.size,0,none⟩=some (.slice none 0 0):=(b.cell (p:=⟨w.heap.size,0,none⟩) σ).j γ;have M:j.cell? ⟨w.heap.size,1,none⟩=some (.slice none 0 0):=(b.cell (p:=⟨w.heap.size,1,none⟩) σ).j γ;have T:j.frozen? ⟨w.heap.size,0,none⟩=false:=(b.frozen (p:=⟨w.heap.size,0,none⟩) σ).j γ;have U:j.frozen? ⟨w.heap.size,1,none⟩=false:=(b.frozen (p:=⟨w.heap.size,1,none⟩) σ).j γ;have F:=Z q;have D:=Z (((AB w.heap.size w).alloc (AA _) (.cells #[.slice none 0 0,.slice none 0 0] 26)).j (b.z σ));clear b t A u H c d h l q s;go_wp2;refine AJ (v:=LF (Mw g 0) n x r 0 z) (by simp[results,results54,go_sem,L,M]) rfl ⟨g,x,r,z,rfl,ω,?_,?_⟩
 ·exact(F.l.other _ (by show w.heap.size≠g;omega) _).other _ (by show w.heap.size≠g;omega) _
 exact(D.l.setCell (AA _) _).setCell (AA _) _
theorem qi(v:Int)(b:0<=v)(c:v<256):NY (be 1 v)=v:=by
 simp[be,FT,sh,NY];omega
theorem Hx(v:Int)(b:0<=v)(c:v<65536):NY (be 2 v)=v:=by
 simp[be,FT,sh,NY];omega
theorem nV(v:Int)(b:0<=v)(c:v<4294967296):NY (be 4 v)=v:=by
 simp[be,FT,sh,NY];omega
theorem Lz(k l m:Int)(p:Y)(n:Nat)(s:Y)(V:s.size=64)(U:n<=8)(hp:p.size+n<=56)(H:0<=k)(I:k<256)(J:0<=l)(L:l<65536)(M:0<=m)(N:m<4294967296)
  (S:(LI s).drop n=QO k l m p n){b:Y}(T:b=s.extract n 64):rpN b=p.size/\TO b=k/\UN b=l/\UO b=m/\UE b=p:=by
 obtain⟨R,t,u,x,z⟩:=rL s n V U T
 have d:∀i,(LI s).drop (n+i)=(QO k l m p n).drop i:=λi=>by rw[<-S,FU]
 have C:(be 1 k).length=1:=PV _ _;have D:(be 2 l).length=2:=PV _ _;have F:(be 4 m).length=4:=PV _ _;have G:(be 1 (p.size:Int)).length=1:=PV _ _;have X:(LI p).length=p.size:=NH p
 have r:QO k l m p n=be 1 k++(be 2 l++(be 4 m++(be 1 (p.size:Int)++(LI p++List.replicate (56-n-p.size) 0)))):=by
  unfold QO WD;simp only[BT]
 have c:=d 0;rw[FX,FD]at c;have h:(QO k l m p n).drop 1=be 2 l++(be 4 m++(be 1 (p.size:Int)++(LI p++List.replicate (56-n-p.size) 0))):=by rw[r,FJ C]
 have j:(QO k l m p n).drop 3=be 4 m++(be 1 (p.size:Int)++(LI p++List.replicate (56-n-p.size) 0)):=by
  have:(QO k l m p n).drop 3=((QO k l m p n).drop 1).drop 2:=by rw[FU]
  rw[this,h,FJ D]
 have q:(QO k l m p n).drop 7=be 1 (p.size:Int)++(LI p++List.replicate (56-n-p.size) 0):=by
  have:(QO k l m p n).drop 7=((QO k l m p n).drop 3).drop 4:=by rw[FU]
  rw[this,j,FJ F]
 have O:(QO k l m p n).drop 8=LI p++List.replicate (56-n-p.size) 0:=by
  have:(QO k l m p n).drop 8=((QO k l m p n).drop 7).drop 1:=by rw[FU]
  rw[this,q,FJ G]
 rw[d 7,q,EQ G,qi _ ω ω]at R;have A:rpN b=p.size:=ω
 rw[c,r,EQ C,qi _ H I]at t;rw[d 1,h,EQ D,Hx _ J L]at u;rw[d 3,j,EQ F,nV _ M N]at x;rw[d 8,O,A,EQ X,TM]at z;exact⟨A,t,u,x,z⟩
theorem Ea(k l m:Int)(p:Y)(n:Nat):(LI (SL k l m p n)).drop n=QO k l m p n:=by
 unfold SL;rw[qm,FJ (by rw[NH,gp]),kh _ (m8 k l m p n)]
theorem te(k l m:Int)(p:Y)(n:Nat)(h:NQ k l m p (n:Int)=true):MA (SL k l m p n) (n:Int)=some (k,l,m,p):=by
 have s:=AV (by unfold NQ at h;exact h);obtain⟨q,r,u,x,z,A,C,D,F,_⟩:=s;have j:=ZN k l m p n ω;obtain⟨a,b,c,d,e⟩:=Lz k l m p n _ j ω ω ω ω ω ω ω ω (Ea k l m p n) rfl;unfold MA;rw[BM,a,b,c,d,e];have t:MM k l m p (n:Int)=SL k l m p n:=by unfold MM;rw[h,AE rfl,BM]
 rw[AE ⟨q,r,j,ω,t⟩]
theorem sP(s:Y)(a b:Nat)(h:a<=b):s.extract 0 a++s.extract a b=s.extract 0 b:=by
 apply EP
 rw[ByteArray.data_append,EY,EY,EY];rw[Array.extract_append_extract];simp[Nat.min_eq_left,Nat.max_eq_right h]
theorem La(s:Y)(b:Nat)(h:s.size<=b):s.extract 0 b=s:=by
 apply EP
 rw[EY];exact Array.extract_eq_self_of_le h
theorem yA(l m:Nat)(b:0<m):l<=OG l m*m:=by
 unfold OG
 split
 ·omega
 rename_i h
 have:=Nat.div_add_mod (l-1) m;have c:=Nat.mod_lt (l-1) b;rw[GJ,Nat.mul_comm];omega
theorem me(e:Y)(b f:Int)(n m N k:Nat)(l:n+m=56)(q:1<=n/\n<=8)(j:1<=b/\b<=60000)(d:1<=f+(k:Int)/\f+(k:Int)<=1000000000):MA (RY e b f n m N k) (n:Int)=some (if k+1=N then 2 else 1,b,f+(k:Int),e.extract (k*m) (k*m+m)):=by
 have r:(e.extract (k*m) (k*m+m)).size<=m:=by rw[AO];omega
 have c:NQ (if k+1=N then 2 else 1) b (f+(k:Int)) (e.extract (k*m) (k*m+m)) (n:Int)=true:=by
  unfold NQ;rw[AT]
  split
  ·refine⟨ω,ω,ω,ω,ω,ω,ω,ω,ω,λh=>ω⟩
  refine⟨ω,ω,ω,ω,ω,ω,ω,ω,ω,λh=>ω⟩
 unfold RY MM;rw[AE c,BM];exact te _ _ _ _ n c
theorem xd(first:Int)(b:-9223372036854775808<=first/\first<=9223372036854775807)(i k:Nat):IntKind.i64.wrap (first+(i:Int)+(k:Int)-((i+k:Nat):Int))=first:=by
 have:first+(i:Int)+(k:Int)-((i+k:Nat):Int)=first:=ω
 rw[this];simp[IntKind.wrap,IntKind.bits,IntKind.signed];omega
theorem mF(S:Nat->Y)(frm:Nat)(first:Int)(n m:Nat)(e:Y)(c:Int)(N i:Nat)(A:n+m=56)(C:1<=n/\n<=8)(z:1<=c/\c<=60000)(s:-9223372036854775808<=first/\first<=9223372036854775807)(F:1<=first+(i:Int)/\first+(i:Int)+(N:Int)<=1000000001)(u:N=OG e.size m)
  (x:∀k,k<N->S (frm+(i+k))=RY e c (first+(i:Int)) n m N k)(f:Nat)(d:Scd):∀(j k:Nat) (wk wl:Int),k+j=N->0<j->(k=0->wk≠1/\wl<=c)->(0<k->wk=1/\wl=c) ->
   ML S frm first (n:Int) (j+f) (i+k) wk wl (e.extract 0 (k*m)) d=ML S frm first (n:Int) f (i+N) 2 c empty (d.1++[e],((i+N:Nat):Int),c)
 | 0,_,_,_,_,h,_,_=>absurd h ω
 | j+1,k,wk,wl,hk,_,h0,h1=>by
  have q:=me e c (first+(i:Int)) n m N k A C z ω
  rw[<-x k ω]at q
  have D:=xd first s i k
  have l:∀b:Int,b=1\/b=2->PD wk wl b c=true:=λb t=>by
   unfold PD
   by_cases r:k=0
   ·obtain⟨a,b⟩:=h0 r
    rcases t with rfl|rfl<;>simp[a,b]
   obtain⟨a,b⟩:=h1 ω
   subst a b;rcases t with rfl|rfl<;>simp
  rw[show j+1+f=(j+f)+1 by omega]
  by_cases b:k+1=N
  ·have t:j=0:=ω
   subst t;rw[AE b]at q;rw[WC q D (l 2 (.inr rfl)) δ,AE rfl,sP _ _ _ ω]
   have r:e.size<=k*m+m:=by
    have:=yA e.size m ω;rw[<-u,<-b,GJ]at this;omega
   rw[La _ _ r,show i+k+1=i+N by omega,BG]
   congr 2
   rw[<-b]
   congr 1
  rw[AG b]at q
  rw[XL q D (l 1 (.inl rfl)),sP _ _ _ ω,show k*m+m=(k+1)*m by rw[GJ];omega,show i+k+1=i+(k+1) by omega]
  exact mF S frm first n m e c N i A C z s F u x f d j (k+1) 1 c ω ω (λh=>ω) (λ_=>⟨rfl,rfl⟩)
theorem Mr(S:Nat->Y)(frm:Nat)(first:Int)(n m:Nat)(e:Y)(b:Int)(N i:Nat)(u:n+m=56)(x:1<=n/\n<=8)(t:1<=b/\b<=60000)(j:-9223372036854775808<=first/\first<=9223372036854775807)(s:1<=first+(i:Int)/\first+(i:Int)+(N:Int)<=1000000001)(d:N=OG e.size m)
  (r:∀k,k<N->S (frm+(i+k))=RY e b (first+(i:Int)) n m N k)(f:Nat)(c:Scd)(wk wl:Int)(l:wk≠1)(q:wl<=b):ML S frm first (n:Int) (N+f) i wk wl empty c=ML S frm first (n:Int) f (i+N) 2 b empty (c.1++[e],((i+N:Nat):Int),b):=by
 have:=mF S frm first n m e b N i u x t j s d r f c N 0 wk wl ω (by rw[d];exact ub _ _) (λ_=>⟨l,q⟩) (λh=>ω)
 rw[FX]at this;rw[<-this]
 congr 1
 apply EP
 simp[EY]
theorem oU:∀(ws:List (Int×Y)) (x:Int×Y) (ss:List Y),xhE (ws++[x]) ss=(xhE ws ss).set x.1.toNat x.2
 | [],x,ss=>rfl
 | y::r,x,ss=>by
  show xhE (r++[x]) (ss.set y.1.toNat y.2)=_;rw[oU r x];rfl
theorem xh(e:Y)(l f:Int)(n m N k:Nat)(h:k<N):(QH e l f n m N N).getD k empty=RY e l f n m N k:=by simp[QH,List.getD,h]
theorem Kl(n:Int):MA (strOfNums (List.replicate 64 0)) n=none:=by
 apply YM
 rintro⟨h,j,c,l,b⟩
 have d:TO ((strOfNums (List.replicate 64 0)).extract n.toNat 64)=0:=by
  obtain⟨k,rfl⟩:∃k:Nat,n=(k:Int):=⟨n.toNat,ω⟩;have:k=1\/k=2\/k=3\/k=4\/k=5\/k=6\/k=7\/k=8:=ω
  rcases this with rfl|rfl|rfl|rfl|rfl|rfl|rfl|rfl<;>decide
 rw[d]at b;unfold MM at b;rw[AG (by unfold NQ;simp)]at b;have:=CX ByteArray.size b;rw[c]at this;exact absurd this δ
