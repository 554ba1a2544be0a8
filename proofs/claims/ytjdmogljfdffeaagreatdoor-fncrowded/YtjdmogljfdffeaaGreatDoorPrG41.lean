import Derived.Test.YtjdmogljfdffeaaGreatDoorPrAr
import Derived.Test.YtjdmogljfdffeaaGreatDoorPrRpS
import Derived.Deep.Onto
import Derived.Test.YtjdmogljfdffeaaGreatDoorPrCutI
import Derived.Deep.AppendSrc
import Derived.Laws.IdiomCopy
import Derived.Great.BuildSlice
import Derived.Test.YtjdmogljfdffeaaGreatDoorPrG30
import Derived.Laws.ResultCell
set_option maxHeartbeats 16000000
set_option maxRecDepth 8000
set_option linter.all false
namespace Go.Proofs.YtjdmogljfdffeaaGreatDoor
open _root_.ByteArray(empty)
open Tryz
open Go.RowKit
variable {K:Act->World->Prop}{aH:Array Oper}{op p:ByteArray}{Q:Exit->Act->World->Prop}{first m n wk wl:Int}{f frm g i k size:Nat}{o:Oper}{a:Option Addr}{P:Program}{E:Prop}{W w w' w1:World}
theorem gk(r:ByteArray):∀y∈KU r,0<=y/\y<=255:=by
 intro y b;unfold KU at b;obtain⟨c,_,rfl⟩:=DL.1 b;have:=GT c;omega
theorem jd(b:ByteArray)(i j:Nat):KU (b.extract i j)=((KU b).take j).drop i:=by
 unfold KU;rw[<-ID,<-KH,EL,JN];simp[List.extract,FP]
theorem ZG:∀(k:Nat) (b:List Int),b.length=k->(∀y∈b,0<=y/\y<=255)->0<=MT b/\MT b<(256:Int) ^ k:=by
 intro k
 induction k with
 | zero=>intro b c _;have:b=[]:=AB c;subst this;simp[MT]
 | succ k l =>
  intro b c e;have d:b≠[]:=by intro h;subst h;simp at c
  have j:=JQ d;have q:=l b.dropLast τ (λy h=>e y (List.dropLast_subset _ h));have r:=e _ (List.getLast_mem d);rw[<-j,pn,KP];omega
theorem nN(y:Int):MT [y]=y:=by simp[MT]
theorem rJ(s:ByteArray)(n:Nat)(j:s.size=64)(q:n<=8){b:ByteArray}(e:b=s.extract n 64):(rpN b:Int)=MT (((KU s).drop (n+7)).take 1)/\SW b=MT (((KU s).drop n).take 1)/\UF b=MT (((KU s).drop (n+1)).take 2)/\UG b=MT (((KU s).drop (n+3)).take 4)/\TO b=strOfNums (((KU s).drop (n+8)).take (rpN b)):=by
 have c:KU b=(KU s).drop n:=by rw[e,jd,AV (by rw[ME];omega)]
 have l:b.data.toList.length=64-n:=by have:=ME s;have h:=BY List.length c;rw[BV,ME,ME,j]at h;exact h
 have d:∀i,i<64-n->MT (((KU s).drop (n+i)).take 1)=((b.data.toList.getD i 0).toNat:Int):=λi r=>by
  rw[<-FO,<-c];unfold KU;rw[<-KH,<-ID,GN ω];simp only[JS,FQ,IC,KI,nN];rw[AZ,BQ ω];rfl
 refine⟨?_,?_,?_,?_,?_⟩
 ·rw[d 7 ω];rfl
 ·have:=d 0 ω;rw[FX]at this;rw[this];rfl
 ·unfold UF;rw[jd,c];simp[FP,FO]
 ·unfold UG;rw[jd,c];simp[FP,FO]
 unfold TO
 rw[<-TI (b.extract 8 (8+rpN b)),jd,c];simp[FP,FO]
abbrev RtT:=Int×Int×Int×Int
def QV(p:ByteArray):Int:=MT ((KU p).take 1)
def QQ(p:ByteArray):Int:=MT (((KU p).drop 1).take 4)
def MU(s:ByteArray)(a n:Int):Option RtT :=match MI s n with
 | none=>none
 | some (_,l,m,p)=>if p.size=5/\MB m (QV p) (QQ p) l n=s/\m % 2=a then some (m,QV p,QQ p,l) else none
theorem SI{s:ByteArray}{k l:Int}(h:MI s n=some (k,l,m,p)):s.size=64/\LS k l m p n=s/\1<=m/\m<=1000000000/\1<=l/\l<=60000/\p.size<=64:=by
 unfold MI at h
 split at h
 ·rename_i e
  obtain⟨j,q,c,r,b⟩:=e;simp only[FI,EG]at h;obtain⟨rfl,rfl,rfl,rfl⟩:=h;refine⟨c,b,?_⟩
  have d:MN (SW (s.extract n.toNat 64)) (UF (s.extract n.toNat 64)) (UG (s.extract n.toNat 64)) (TO (s.extract n.toNat 64)) n=true:=by
   cases hc:MN (SW (s.extract n.toNat 64)) (UF (s.extract n.toNat 64)) (UG (s.extract n.toNat 64)) (TO (s.extract n.toNat 64)) n with
   | true=>rfl
   | false =>
    exfalso;unfold LS at b;rw[hc,AG σ]at b;rw[<-b]at c;exact absurd c δ
  have t:=AU (by unfold MN at d;exact d);omega
 cases h
theorem yr{s:ByteArray}{a:Int}{x:RtT}(h:MU s a n=some x):1<=x.1:=by
 unfold MU at h
 split at h
 ·cases h
 rename_i k l m p b
 split at h
 ·simp only[FI]at h
  subst h;exact(SI b).2.2.1
 cases h
def QS(b:RtT)(o:Option RtT):RtT:=match o with
 | none=>b
 | some r=>if b.1<r.1 then r else b
def OF(b c:ByteArray)(n:Int):RtT:=QS (QS (0,0,1,0) (MU b 0 n)) (MU c 1 n)
def MW:RtT:=(0,0,0,0)
def QL(b r:RtT):RtT:=if b.1<r.1 then r else b
theorem B5(e c:ByteArray)(n:Int):(if QL (QL MW ((MU e 0 n).getD MW)) ((MU c 1 n).getD MW)=MW then ((0,0,1,0):RtT) else QL (QL MW ((MU e 0 n).getD MW)) ((MU c 1 n).getD MW))=OF e c n:=by
 unfold OF
 cases h0:MU e 0 n with
 | none =>
  cases h1:MU c 1 n with
  | none=>simp[QL,MW,QS]
  | some y =>
   have:=yr h1;obtain⟨b,t,u,v⟩:=y;have h:(0:Int)<b:=by show 0<b;have:1<=b:=this;omega
   have d:¬b=0:=ω
   simp[QL,MW,QS,h,d]
 | some x =>
  have r:=yr h0;obtain⟨d,z,A,B⟩:=x;have j:(0:Int)<d:=by have:1<=d:=r;omega
  have h:¬d=0:=ω
  cases h1:MU c 1 n with
  | none =>
   have b:¬d<0:=ω
   simp[QL,MW,QS,j,h,b]
  | some y =>
   have s:=yr h1;obtain⟨b,t,u,v⟩:=y;have l:¬b=0:=by have:1<=b:=s;omega
   by_cases q:d<b
   ·simp[QL,MW,QS,j,h,q,l]
   simp[QL,MW,QS,j,h,q,l]
def OV(wk wl k l:Int):Bool:=decide (wl<=l) && (if k=3 then decide (wk≠1) else (decide (k=1) || decide (k=2)) && (decide (wk≠1) || decide (wl=l)))
abbrev Scd:=List ByteArray×Int×Int
def MD(S:Nat->ByteArray)(frm:Nat)(first n:Int):Nat->Nat->Int->Int->ByteArray->Scd->Scd
 | 0,_,_,_,_,out=>out
 | f+1,i,wk,wl,op,out =>
  match MI (S (frm+i)) n with
  | none=>out
  | some (k,l,m,p)=>if IntKind.i64.wrap (m-(i:Int))=first/\OV wk wl k l=true then
    (if k=1 then MD S frm first n f (i+1) k l (op++p) out
     else MD S frm first n f (i+1) k l empty (if k=2 then out.1++[op++p] else out.1,(i:Int)+1,l))
   else out
theorem ms{S:Nat->ByteArray}{b:Scd}(h:MI (S (frm+i)) n=none):MD S frm first n f i wk wl op b=b:=by
 cases f with
 | zero=>rfl
 | succ f=>rw[MD,h]
theorem lj{S:Nat->ByteArray}{k l:Int}{b:Scd}(h:MI (S (frm+i)) n=some (k,l,m,p))(c:¬(IntKind.i64.wrap (m-(i:Int))=first/\OV wk wl k l=true)):MD S frm first n f i wk wl op b=b:=by
 cases f with
 | zero=>rfl
 | succ f=>rw[MD,h];simp only;rw[AG c]
theorem kt{S:Nat->ByteArray}{l:Int}{b:Scd}(h:MI (S (frm+i)) n=some (1,l,m,p))(d:IntKind.i64.wrap (m-(i:Int))=first)(c:OV wk wl 1 l=true):MD S frm first n (f+1) i wk wl op b=MD S frm first n f (i+1) 1 l (op++p) b:=by
 rw[MD,h];simp only;rw[AF ⟨d,c⟩,AF trivial]
theorem df{S:Nat->ByteArray}{k l:Int}{out:Scd}(h:MI (S (frm+i)) n=some (k,l,m,p))(d:IntKind.i64.wrap (m-(i:Int))=first)(b:OV wk wl k l=true)(c:k≠1):MD S frm first n (f+1) i wk wl op out=MD S frm first n f (i+1) k l empty (if k=2 then out.1++[op++p] else out.1,(i:Int)+1,l):=by
 rw[MD,h];simp only;rw[AF ⟨d,b⟩,AG c]
def WH(wk wl k l:Int):Bool:=if k=1\/k=2 then (decide (l=wl) || (!decide (wk=1) && decide (wl<l))) else if k=3 then decide (wl<=l) && !decide (wk=1) else false
theorem Ho(wk wl k l:Int):WH wk wl k l=OV wk wl k l:=by
 unfold WH OV;rw[IQ]
 by_cases c:k=3
 ·subst c
  simp
 by_cases b:k=1\/k=2
 ·have d:(decide (k=1) || decide (k=2))=true:=by simpa using b
  rw[AF b,AG c,d]
  by_cases e:wk=1
  ·subst e;simp;omega
  simp[e];omega
 have d:(decide (k=1) || decide (k=2))=false:=by simpa using b
 rw[AG b,AG c,AG c,d];simp
theorem Df(S:Nat->ByteArray)(frm:Nat)(first n:Int)(f i:Nat)(wl:Int)(op:ByteArray)(b:Scd):MD S frm first n f i 2 wl op b=MD S frm first n f i 0 wl op b:=by
 cases f with
 | zero=>rfl
 | succ f =>
  rw[MD,MD]
  have:∀k l,OV 2 wl k l=OV 0 wl k l:=λk l=>by unfold OV;simp
  simp only[this]
theorem ze(S:Nat->ByteArray)(frm:Nat)(first n:Int):∀(f i:Nat) (wk wl:Int) (op:ByteArray) (out:Scd) (B:Nat),op.size+64*f<=B->(∀e∈out.1,e.size<=B)->(∀e∈(MD S frm first n f i wk wl op out).1,e.size<=B)/\(MD S frm first n f i wk wl op out).1.length<=out.1.length+f
 | 0,i,wk,wl,op,out,B,_,h2=>⟨h2,by simp[MD]⟩
 | f+1,i,wk,wl,op,out,B,h1,h2=>by
  rw[MD]
  split
  ·exact⟨h2,ω⟩
  rename_i k l m p hp
  have hps:=(SI hp).2.2.2.2.2.2
  split
  ·split
   ·have:=ze S frm first n f (i+1) k l (op++p) out B (by rw[BK];omega) h2
    exact⟨this.1,ω⟩
   have:=ze S frm first n f (i+1) k l empty (if k=2 then out.1++[op++p] else out.1,(i:Int)+1,l) B (by show 0+_<=_;omega) (by
    intro e he;simp only at he
    split at he
    ·rw[BS]at he
     rcases he with he|he
     ·exact h2 e he
     simp at he;subst he;rw[BK];omega
    ·exact h2 e he)
   refine⟨this.1,AL this.2 ?_⟩;simp only
   split
   ·simp;omega
   omega
  exact⟨h2,ω⟩
theorem uz(S:Nat->ByteArray)(frm:Nat)(first n:Int):∀(f i:Nat) (wk wl:Int) (op:ByteArray) (out:Scd),(0<=out.2.1/\out.2.1<=(i:Int))->0<=(MD S frm first n f i wk wl op out).2.1/\(MD S frm first n f i wk wl op out).2.1<=(i:Int)+f
 | 0,i,wk,wl,op,out,h=>by rw[MD];omega
 | f+1,i,wk,wl,op,out,h=>by
  rw[MD]
  split
  ·omega
  rename_i k l m p hp
  split
  ·split
   ·have:=uz S frm first n f (i+1) k l (op++p) out ω
    omega
   have:=uz S frm first n f (i+1) k l empty (if k=2 then out.1++[op++p] else out.1,(i:Int)+1,l) (by show 0<=(i:Int)+1/\(i:Int)+1<=_;omega)
   omega
  omega
theorem wu(S:Nat->ByteArray)(frm:Nat)(first n:Int):∀(f i:Nat) (wk wl:Int) (op:ByteArray) (out:Scd),(MD S frm first n f i wk wl op out).2.2=out.2.2\/(1<=(MD S frm first n f i wk wl op out).2.2/\(MD S frm first n f i wk wl op out).2.2<=60000)
 | 0,i,wk,wl,op,out=>.inl rfl
 | f+1,i,wk,wl,op,out=>by
  rw[MD]
  split
  ·exact .inl rfl
  rename_i k l m p hp
  have hl:=SI hp
  split
  ·split
   ·exact wu S frm first n f (i+1) k l (op++p) out
   rcases wu S frm first n f (i+1) k l empty (if k=2 then out.1++[op++p] else out.1,(i:Int)+1,l) with h|h
   ·right
    rw[h];show 1<=l/\l<=60000;omega
   exact .inr h
  exact .inl rfl
def Plt(w:World)(a:Option Addr)(c:List (List Int)):Prop :=c=[]\/∃b o,a=some ⟨b,o,none⟩/\b<w.heap.size/\∀i,i<c.length->w.rangeAt b (o+i*64) ((c.getD i []).map (Value.int .u8))
def Hld(w:World)(a:Option Addr)(c:List (Int×List Int)):Prop :=c=[]\/∃b o,a=some ⟨b,o,none⟩/\b<w.heap.size/\∀i,i<c.length->w.rangeAt b (o+i*65) (.int .i64 (c.getD i (0,[])).1::(c.getD i (0,[])).2.map (Value.int .u8))
theorem sB{b o:Nat}{c:List Value}(h:w.rangeAt b o c)(e:Below w.heap.size w w')(d:b<w.heap.size):w'.rangeAt b o c:=λj v hv=>(e.cell (p:=⟨b,o+j,none⟩) d).j (h j v hv)
theorem Plt.z{e:List (List Int)}(h:Plt w a e)(d:Below w.heap.size w w'):Plt w' a e:=by
 rcases h with h|⟨b,o,j,c,l⟩
 ·exact .inl h
 exact .inr ⟨b,o,j,AD c d.size,λi q=>sB (l i q) d c⟩
theorem Hld.z{e:List (Int×List Int)}(h:Hld w a e)(d:Below w.heap.size w w'):Hld w' a e:=by
 rcases h with h|⟨b,o,j,c,l⟩
 ·exact .inl h
 exact .inr ⟨b,o,j,AD c d.size,λi q=>sB (l i q) d c⟩
theorem Plt.at{c:List (List Int)}(h:Plt w a c)(d:k<c.length):∃b o x,a=some ⟨b,o,none⟩/\b<w.heap.size/\w.rangeAt b (o+k*64) (x.map (Value.int .u8))/\Hid (x=c.getD k []):=by
 rcases h with h|⟨b,o,e,j,l⟩
 ·subst h;simp at d
 exact⟨b,o,_,e,j,l k d,Z rfl⟩
theorem Hld.at{c:List (Int×List Int)}(h:Hld w a c)(d:k<c.length):∃b o n x,a=some ⟨b,o,none⟩/\b<w.heap.size/\w.rangeAt b (o+k*65) (.int .i64 n::x.map (Value.int .u8))/\Hid ((n,x)=c.getD k (0,[])):=by
 rcases h with h|⟨b,o,e,j,l⟩
 ·subst h;simp at d
 exact⟨b,o,_,_,e,j,l k d,Z rfl⟩
theorem iq(n:Int)(b:List Int):∀v∈Value.int .i64 n::b.map (Value.int .u8),v.oneCell'=true:=λv hv=>by
 rcases DX.1 hv with rfl|hv
 ·rfl
 exact VR b v hv
theorem Ja(w:World)(A:Array Value)(t:TypeId):(w.alloc (.cells A t)).there w.heap.size 0 A.size:=λj b=>by
 rw[BH,EC _ _ _ _ rfl,DK];exact⟨by simp[b],XT _ _ _ (Y _)⟩
theorem dp{j:Array Oper}{e:List Oper}{op:Oper}{a:Act}(r:op.guard=none)(d:TypeId)(x y:Operand)(z:op.op=.store d x y)
  (b:List Value)(s:∀v∈b,v.oneCell'=true)(C:a.eval x=.pointer (some ⟨w.heap.size,0,none⟩))(D:a.eval y=.agg b.toArray)(A:Array Value)(t:TypeId)(u:A.size=b.length)
  (l:(P.info? d).map (·.size)=some b.length)
  (h:∀c,Row c w.heap.size b->Below w.heap.size w c->c.heap.size=w.heap.size+1->wpList P j Q e (a.put op.dst undef) c):wpList P j Q (op::e) a (w.alloc (.cells A t)):=by
 have c:=Ja w A t;rw[u]at c;have q:b.toArray.size=b.length:=σ
 refine BI r d x y z w.heap.size 0 _ C D (by rw[q];exact c) (by rw[q];exact l) (GA s) ?_;have B:=DY (w.alloc (.cells A t)) w.heap.size 0 b c;refine h _ ⟨by rw[VJ];simp,λi v hv=>?_,λi l=>?_⟩ (Go.below_setCells (Y _) _ _ _ (KW _ _)) (by rw[VJ];simp)
 ·have:=B i v hv
  simpa using this
 rw[EO,DK];exact XT _ _ _ (Y _)
theorem Row.text{l:List Value}(h:Row w g l)(c:List Int)(o n b:Nat)(v:c.length=n)(q:∀i,i<n->l[o+i]?=some (.int .u8 (c.getD i 0)))(j e d:TypeId)(u:P.underlying j=some (.slice e))(s:P.underlying e=some (.int .u8))(r:P.underlying d=some .string):(convert j d (.slice (some ⟨g,o,none⟩) n b)).run P w=.ok (.string (strOfNums c)) w :=ES (P:=P) w j e u s g o n b c v (λi t=>h.cell _ _ (q i t)) d r
theorem Dsk.start3(w:World)(d h:Value)(j l q e r:TypeId):Dsk w (((w.alloc (.cells #[d,h] j)).alloc (.cells #[.slice none 0 0,.slice none 0 0] l)).alloc (.cells #[.slice none 0 0,.slice none 0 0] q)) (w.heap.size+1) (w.heap.size+1+1) (w.heap.size+1+1+1) e r (.slice none 0 0) (.slice none 0 0) [] []:=by
 have s:Below w.heap.size w (((w.alloc (.cells #[d,h] j)).alloc (.cells #[.slice none 0 0,.slice none 0 0] l)).alloc (.cells #[.slice none 0 0,.slice none 0 0] q)):=((KW _ _).alloc σ _).alloc τ _;have b:=(LU (w.alloc (.cells #[d,h] j)) #[.slice none 0 0,.slice none 0 0] l).alloc (.cells #[.slice none 0 0,.slice none 0 0] q);have c:=LU ((w.alloc (.cells #[d,h] j)).alloc (.cells #[.slice none 0 0,.slice none 0 0] l)) #[.slice none 0 0,.slice none 0 0] q;simp only[BB]at b c;exact⟨ω,ω,ω,ω,ω,σ,s,b.y 0,b.y 1,b.E 0,b.E 1,c.y 0,c.y 1,c.E 0,c.E 1,CE _ _ _ _,CE _ _ _ _,.inl rfl⟩
theorem Dsk.far{R D c:Nat}{e l:TypeId}{v A:Value}{z:List ByteArray}{B:List (Int×ByteArray)}(h:Dsk W w R D c e l v A z B)(s:w.grownBy w1 v.ownBlock)(b i j:Nat)(r:b<c)(t:b≠D)(u:Value):(w1.setCell ⟨D,j,none⟩ u).cell? ⟨b,i,none⟩=w.cell? ⟨b,i,none⟩:=by
 have x:b<w.heap.size:=AD r h.sz
 have y:some b≠v.ownBlock:=λd=>by have:=(h.own.lt b d.symm).1;omega
 rw[BZ (w:=w1) (h:=show(⟨D,j,none⟩:Addr)≠⟨b,i,none⟩ fromλd=>t (by injection d with q;exact q.symm))];exact s.cell_far ⟨b,i,none⟩ x y
def ND(b:List (List Int)):List ByteArray:=b.map strOfNums
def XbJ(b:List (Int×List Int)):List (Int×ByteArray):=b.map λx=>(x.1,strOfNums x.2)
def ZJ:Array Value:=#[.int .i64 0]++Array.replicate 64 (.int .u8 0)
theorem ix(w:World):(zeroValue 145).run prog w=.ok (.agg ZJ) w:=κ
theorem Ge(b:List (List Int))(k:Nat)(h:k<b.length):ND (b.take (k+1))=ND (b.take k)++[strOfNums (b.getD k [])]:=by
 unfold ND;rw[AX h,CY];simp[List.getD,h]
theorem Ct(b:List (Int×List Int))(k:Nat)(h:k<b.length):XbJ (b.take (k+1))=XbJ (b.take k)++[((b.getD k (0,[])).1,strOfNums (b.getD k (0,[])).2)]:=by
 unfold XbJ;rw[AX h,CY];simp[List.getD,h]
def xc:Value:=.agg (Array.replicate 64 (.int .u8 0))
theorem uU:(prog.info? 142).map (λi=>(i.zero,i.size,i.bytes))=some (some xc,64,64):=κ
theorem pL(n:Nat):(madeCells xc.cells (n*64)).toList=List.replicate (n*64) (.int .u8 0):=by
 unfold madeCells;rw[Array.toList_map,Array.toList_range,KK];refine⟨σ,λb e=>?_⟩;obtain⟨i,_,rfl⟩:=DL.1 e;have d:xc.cells=Array.replicate 64 (.int .u8 0):=rfl;have c:i % (Array.replicate 64 (Value.int .u8 0)).size<64:=by rw[Array.size_replicate];omega
 rw[d];rw[getElem!_pos _ _ (by rw[Array.size_replicate]at c⊢;exact c)];simp
theorem xB{n:Nat}(h:Row w g (List.replicate (n*64) (.int .u8 0))):Plt w (some ⟨g,0,none⟩) (List.replicate n (List.replicate 64 0)):=by
 refine .inr ⟨g,0,rfl,h.lt,λi b j v hv=>?_⟩;rw[CU]at b;have d:(List.replicate n (List.replicate 64 (0:Int))).getD i []=List.replicate 64 0:=by rw[AZ,ED,AF b];rfl
 rw[d,List.map_replicate,ED]at hv
 by_cases c:j<64
 ·rw[AF c]at hv
  cases hv
  rw[BH];exact h.cell _ _ (by rw[ED,AF ω])
 rw[AG c]at hv;cases hv
theorem ul(n:Nat)(h:0<n):Builtin.nextslicecap n 0=n:=by
 unfold Builtin.nextslicecap;simp;omega
theorem En{a:Act}
  (N:o.guard=none)(s x:Operand)(t:TypeId)(r:o.op=.call { callee:=.builtin .append,args:=#[s,x],argTypes:=#[t,t] })
  (e:TypeId)(i:TypeInfo)(z:Value)(size l:Nat)(D:P.underlying t=some (.slice e))(y:P.info? e=some i)(S:i.zero=some z)(H:i.size=size)(M:i.bytes=l)
  (b:Nat)(C:a.eval s=.slice (some ⟨b,0,none⟩) 0 0)(v:Value)(G:a.eval x=v)(n:Nat)(c:List Value)(q:Src P size t v n c w)(T:c.length=n*size)(U:n<=1048576)(L:n*l<=281474976710656)
  (h:∀g d j,(n=0\/(g=w.heap.size/\Row j g c))->Below w.heap.size w j->K (a.put o.dst (.slice (some ⟨g,0,none⟩) n d)) j):if Region.wanted o (yielded aH a.tmps)=true then Oper.wp P o a w K Q else E:=by
 have R:Region.wanted o (yielded aH a.tmps)=true:=by simp[Region.wanted,N]
 rw[AF R];subst H M
 by_cases O:n=0
 ·subst O
  have j:c=[]:=AB ω;subst j;have d:=run_append_room_src (P:=P) w t t o.type e i D y b 0 0 0 v 0 [] q ω σ σ;unfold Oper.wp;simp[execOp,r,resolve,invoke,builtin,C,G,d,Result.andThen];exact h b 0 _ (.inl rfl) (AC _ _)
 have I:(Builtin.firstCells i.size 0 (.slice (some ⟨b,0,none⟩) 0 0)).run P w.drew=.ok ([]:List Value).toArray w.drew:=GC w.drew i.size 0 _ 0 0 [] σ σ
 have d:=run_append_grow_src (P:=P) w t t o.type e i z D y S (some ⟨b,0,none⟩) 0 0 [] I v n c q ω ω (by rw[BH,ul n ω];exact L);unfold Oper.wp;simp[execOp,r,resolve,invoke,builtin,C,G,d,Result.andThen];refine h w.heap.size _ _ (.inr ⟨rfl,?_⟩) ((AC _ _).drew.alloc (Y _) _);have B:=LU w.drew ((([]:List Value)++c).toArray++Builtin.zeroCells z.cells (grownCap w (0+n) 0 e-(0+n))) e;refine⟨σ,λj u F=>?_,λj A=>?_⟩
 ·have:=B.cell j u (by
   obtain⟨A,_⟩:=CW.1 F
   simp[BA A,F])
  simpa using this
 have:=B.froz j τ
 simpa using this
theorem YS{d:List ByteArray}(h:Strs w a d)(t e:TypeId)(q:P.underlying t=some (.slice e))(c:Nat):Src P 1 t (.slice a d.length c) d.length (d.map Value.string) w:=by
 rcases h with h|⟨b,o,rfl,y,v⟩
 ·subst h
  cases a with
  | none=>exact Src.ofNil w q c
  | some x=>exact Src.ofSlice w q x 0 c [] σ σ σ
 refine Src.ofSlice w q ⟨b,o,none⟩ d.length c _ σ (λj u r=>?_) (λu r=>by obtain⟨s,_,rfl⟩:=DL.1 r;rfl)
 obtain⟨l,e⟩:=CW.1 r;simp only[BP]at l;have r:(⟨b,o,none⟩:Addr).add j=⟨b,o+j,none⟩:=by unfold Addr.add;split<;>simp_all
 rw[r,v j l,<-e];simp[List.getD,l]
theorem kg{d:List (Int×ByteArray)}(h:Wrs w a d)(t e:TypeId)(s:P.underlying t=some (.slice e))(c:Nat):Src P 2 t (.slice a d.length c) d.length (MH d) w:=by
 rcases h with h|⟨b,o,rfl,B,y⟩
 ·subst h
  cases a with
  | none=>exact Src.ofNil w s c
  | some x=>exact Src.ofSlice w s x 0 c [] σ σ σ
 refine Src.ofSlice w s ⟨b,o,none⟩ d.length c _ (cw d) (λj u l=>?_) (λu l=>?_)
 ·obtain⟨z,e⟩:=CW.1 l
  rw[cw]at z;have v:(⟨b,o,none⟩:Addr).add j=⟨b,o+j,none⟩:=by unfold Addr.add;split<;>simp_all
  obtain⟨q,A⟩:∃q,j=q*2\/j=q*2+1:=⟨j / 2,ω⟩;have r:q<d.length:=ω
  have x:=kh d q r;rcases A with rfl|rfl
  ·rw[v,(y q r).1,<-l,x.1]
  rw[v,<-KO,(y q r).2,<-l,x.2]
 unfold MH at l
 obtain⟨x,_,q⟩:=IL.1 l;simp at q;rcases q with rfl|rfl<;>rfl
def ZS(w:World)(p:Addr):Value:=(w.cell? p).getD (.int .i64 0)
theorem ZO{p:Addr}(h:(w.cell? p).isSome=true):w.cell? p=some (ZS w p):=by
 unfold ZS
 cases e:w.cell? p with
 | none=>rw[e]at h;exact absurd h σ
 | some v=>rfl
theorem WE{p:Addr}{v:Value}(h:w.cell? p=some v):(w.cell? p).isSome=true:=by rw[h];rfl
def KeepC(d:World)(X:Nat)(b c:Value)(w:World):Prop :=w.cell? ⟨X,0,none⟩=some b/\w.cell? ⟨X,1,none⟩=some c/\w.cell? ⟨X+1,0,none⟩=some (ZS w ⟨X+1,0,none⟩)/\w.cell? ⟨X+1,1,none⟩=some (ZS w ⟨X+1,1,none⟩)/\w.frozen? ⟨X+1,0,none⟩=false/\w.frozen? ⟨X+1,1,none⟩=false/\d.grownBy w (some (X+1))/\X+1<w.heap.size
theorem KeepC.z{q:World}{X:Nat}{j l:Value}(h:KeepC q X j l w)(b:Below w.heap.size w w'):KeepC q X j l w':=by
 obtain⟨s,t,u,v,x,y,c,d⟩:=h;refine⟨(b.cell (p:=⟨X,0,none⟩) (by show X<_;omega)).j s,(b.cell (p:=⟨X,1,none⟩) (by show X<_;omega)).j t,?_,?_,?_,?_,⟨b.os.j c.os,b.tape.j c.tape,b.output.j c.output,AL c.size b.size,λi e r=>(b.block i (AD e c.size)).j (c.block i e r)⟩,AD d b.size⟩
 ·exact ZO (by rw[b.cell (p:=⟨X+1,0,none⟩) d];exact WE u)
 ·exact ZO (by rw[b.cell (p:=⟨X+1,1,none⟩) d];exact WE v)
 ·rw[b.frozen (p:=⟨X+1,0,none⟩) d];exact x
 rw[b.frozen (p:=⟨X+1,1,none⟩) d];exact y
theorem KeepC.set{r:World}{X:Nat}{l q:Value}(h:KeepC r X l q w)(j:Nat)(v:Value):KeepC r X l q (w.setCell ⟨X+1,j,none⟩ v):=by
 obtain⟨s,t,x,y,z,A,b,B⟩:=h
 have d:∀p,(w.cell? p).isSome=true->((w.setCell ⟨X+1,j,none⟩ v).cell? p).isSome=true:=λp c=>by
  by_cases e:(⟨X+1,j,none⟩:Addr)=p
  ·subst e
   obtain⟨u,C⟩:=GS.1 c;rw[FD (w:=w) (h:=C)];rfl
  rw[BZ (w:=w) (h:=e)];exact c
 refine⟨(AP _ _ _ _ (by show X+1≠X;omega)).j s,(AP _ _ _ _ (by show X+1≠X;omega)).j t,ZO (d _ (WE x)),ZO (d _ (WE y)),by rw[BL];exact z,by rw[BL];exact A,⟨(YN (X+1) [v] j w).1.j b.os,(YN (X+1) [v] j w).2.1.j b.tape,(YN (X+1) [v] j w).2.2.j b.output,by simpa using b.size,λi u c=>?_⟩,by simpa using B⟩;rw[<-b.block i u c];exact jl (X+1) [v] j w i (λe=>c (by rw[e]))
theorem qC(B R:Nat)(h s:World)(l:List ByteArray)(q:List (Int×ByteArray))(c d r u:Nat)(F G:Value)(aH:B<=r)(N:R<r)(v:l.length=0\/c=r/\Row h c (l.map Value.string))(A:Below h.heap.size h s)(I:r<=h.heap.size)(H:h.heap.size<=u)(x:q.length=0\/d=u/\Row s d (MH q)):OwnD ((s.setCell ⟨R,0,none⟩ F).setCell ⟨R,1,none⟩ G) (some ⟨c,0,none⟩) l (some ⟨d,0,none⟩) q/\(∀k,blk (some ⟨c,0,none⟩) l.length=some k->B<=k)/\(∀k,blk (some ⟨d,0,none⟩) q.length=some k->B<=k):=by
 have y:∀k,blk (some ⟨c,0,none⟩) l.length=some k->k=r/\k<h.heap.size:=λk b=>by
  unfold blk at b
  split at b
  ·exact absurd b σ
  rename_i t
  rcases v with e|⟨rfl,j⟩
  ·exact absurd e t
  simp at b
  exact⟨b.symm,by rw[<-b];exact j.lt⟩
 have z:∀k,blk (some ⟨d,0,none⟩) q.length=some k->k=u:=λk b=>by
  unfold blk at b
  split at b
  ·exact absurd b σ
  rename_i t
  rcases x with e|⟨rfl,j⟩
  ·exact absurd e t
  simp at b
  exact b.symm
 refine⟨⟨?_,?_,?_⟩,λk b=>by have:=y k b;omega,λk b=>by have:=z k b;omega⟩
 ·rcases v with e|⟨rfl,j⟩
  ·exact .inl (by rw[AB e];rfl)
  exact .inr ⟨c,rfl,((j.z A).other ⟨R,0,none⟩ (by show R≠_;omega) _).other ⟨R,1,none⟩ (by show R≠_;omega) _⟩
 ·rcases x with e|⟨rfl,j⟩
  ·exact .inl (by rw[AB e];rfl)
  exact .inr ⟨d,rfl,(j.other ⟨R,0,none⟩ (by show R≠_;omega) _).other ⟨R,1,none⟩ (by show R≠_;omega) _⟩
 cases e1:blk (some ⟨c,0,none⟩) l.length with
 | none=>exact .inl rfl
 | some C =>
  cases e2:blk (some ⟨d,0,none⟩) q.length with
  | none=>exact .inr (.inl rfl)
  | some D =>
   have L:=y C e1;have M:=z D e2;exact .inr (.inr (λe=>by injection e with e;omega))
section
def xhE:List (Int×ByteArray)->List ByteArray->List ByteArray
 | [],ss=>ss
 | x::r,ss=>xhE r (ss.set x.1.toNat x.2)
theorem WY:∀(ws:List (Int×ByteArray)) (ss:List ByteArray),(xhE ws ss).length=ss.length
 | [],_=>rfl
 | x::r,ss=>by rw[xhE,WY r];simp
structure SYs(W w:World)(R X g g' n n' c1 c1':Nat)(ws:List (Int×ByteArray))(ts:List ByteArray):Prop where
 gr:W.grownBy w (some g)
 rr:Row w R [.slice none 0 0,.slice none 0 0]
 rx:Row w X [.slice (some ⟨g,0,none⟩) n c1,.slice (some ⟨g',0,none⟩) n' c1']
 rs:Row w g (ts.map Value.string)
 own:OwnS w (some ⟨g',0,none⟩) (MH ws)
section
variable {W w w':World} {R X g g' n n' c1 c1':Nat} {ws:List (Int×ByteArray)} {ts:List ByteArray}
theorem SYs.z(h:SYs W w R X g g' n n' c1 c1' ws ts)(b:Below w.heap.size w w'):SYs W w' R X g g' n n' c1 c1' ws ts :=⟨OS h.gr (RW _ b),h.rr.z b,h.rx.z b,h.rs.z b,h.own.z b⟩
theorem SYs.drew(h:SYs W w R X g g' n n' c1 c1' ws ts):SYs W w.drew R X g g' n n' c1 c1' ws ts:=h.z ((AC _ _).drew)
theorem SYs.set(h:SYs W w R X g g' n n' c1 c1' ws ts)(m:Nat)(r:m<ts.length)(s:ByteArray)(j:R≠g)(l:X≠g)(q:MH ws≠[]->g'≠g):SYs W (w.setCell ⟨g,m,none⟩ (.string s)) R X g g' n n' c1 c1' ws (ts.set m s):=by
 refine⟨OG h.gr _ _,h.rr.other _ (λe=>j e.symm) _,h.rx.other _ (λe=>l e.symm) _,?_,?_⟩
 ·rw[JT];exact h.rs.set m (by simpa using r) _
 rcases h.own with t|⟨b,e,u⟩
 ·exact .inl t
 injection e with e;injection e with e
 by_cases c:MH ws=[]
 ·exact .inl c
 exact .inr ⟨g',rfl,(e ▸ u).other _ (λd=>q c d.symm) _⟩
end
theorem qr{a b:World}{r:Option Nat}(h:a.grownBy b r)(p:Addr)(j:a.heap.size<=p.block)(v:Value):a.grownBy (b.setCell p v) r :=⟨h.os,h.tape,h.output,by rw[BJ];exact h.size,λi c d=>(BD _ _ _ _ (λe=>ω)).j (h.block i c d)⟩
set_option maxRecDepth 100000 in
theorem rn(g q:Nat)(l:List ByteArray)(c:Nat)(j:List (Int×ByteArray))(u:Nat)(w:World)(C:Row w g (l.map Value.string))(hp:OwnS w (some ⟨q,0,none⟩) (MH j))(T:MH j≠[]->q≠g)(hl:l.length<=200)(bQ:j.length<=300)(U:∀x∈j,0<=x.1/\x.1<(l.length:Int)):Calls prog 160 #[LE (some ⟨g,0,none⟩) l.length c (some ⟨q,0,none⟩) j.length u] w λe w'=>∃x,e=.returned (LE (some ⟨g,0,none⟩) l.length c (some ⟨x,0,none⟩) 0 0)/\w.heap.size<=x/\x<w'.heap.size/\Row w' g ((xhE j l).map Value.string)/\w.grownBy w' (some g):=by
 obtain⟨t,L⟩:∃t,Hid (t=xhE j l):=⟨_,Z rfl⟩;rw[<-L.l];have bH:=C.lt;go_enter func160,ntmps160;go_wp2
 have h:SYs w ((w.alloc (.cells #[.slice (some ⟨g,0,none⟩) l.length c,.slice (some ⟨q,0,none⟩) j.length u] 26)).alloc (.cells #[.slice none 0 0,.slice none 0 0] 26)) (w.heap.size+1) w.heap.size g q l.length j.length c u j l :=⟨RW _ ((KW _ _).alloc σ _),OI _ _ _ _ σ,(LU _ _ _).alloc _,(C.alloc _).alloc _,(hp.z (MF _ _)).z (MF _ _)⟩
 have O:=Z h;have aV:=Z U;have N:=Z T;clear h C hp U T;go_loopw [3] (λi wr=>∃(k:Nat) (s:List ByteArray),k<=j.length/\i=.int .i64 k/\s.length=l.length/\Hid (xhE (j.drop k) s=t)/\SYs w wr (w.heap.size+1) w.heap.size g q l.length j.length c u j s) (λi _=>j.length-(intOf i).toNat)
 case atStart=>exact⟨0,l,AO _,rfl,rfl,by show _=_;rw[FJ,L.l],O.l⟩
 case round =>
  clear O;obtain⟨k,s,hk,rfl,D,H,h⟩:=hrel
  by_cases B:k<j.length
  ·obtain⟨b,o,G,d,X,z,A,I⟩:=h.own.wrs.at B
   obtain⟨rfl,rfl⟩:q=b/\o=0:=by cases X;exact⟨rfl,rfl⟩
   rw[BH]at z A;clear X;have y:=aV.l (G,d) (by rw[I.l];simp[List.getD,B]);obtain⟨m,rfl,hm⟩:∃m:Nat,G=(m:Int)/\m<l.length:=⟨G.toNat,by have:=y.1;simp at *;omega,by have:=y.1;have:=y.2;simp at *;omega⟩
   have M:MH j≠[]:=λe=>by have:=BY List.length e;rw[cw,AR]at this;omega
   have bG:=N.l M;have R:=ZO (WE (h.rs.cell m (.string (s.getD m empty)) (by simp[List.getD,D,hm])));have S:=h.rs.froz m (by simp[D,hm]);have aX:=h.rx.lt;have x0:=h.rx.y 0;have x1:=h.rx.y 1;have r:=Z (AH x0 (AH x1 (AH z (AH A (AH R S)))));have v:=Z h;have bI:(0:Int)<=(k:Int):=ω
   have bJ:(k:Int)<(j.length:Int):=ω
   have bT:(0:Int)<=(m:Int):=ω
   have bU:(m:Int)<(l.length:Int):=ω
   clear h y R S z A M;go_wp2_with fail;clear x0 x1
   go_region_held3 (λw'=>w'.cell? ⟨w.heap.size,0,none⟩=some (.slice (some ⟨g,0,none⟩) l.length c)/\w'.cell? ⟨w.heap.size,1,none⟩=some (.slice (some ⟨q,0,none⟩) j.length u)/\w'.cell? ⟨q,k*2,none⟩=some (.int .i64 (m:Int))/\w'.cell? ⟨q,k*2+1,none⟩=some (.string d)/\w'.cell? ⟨g,m,none⟩=some (ZS w' ⟨g,m,none⟩)/\w'.frozen? ⟨g,m,none⟩=false)
    (first|assumption|exact r.l|exact⟨(AP _ _ _ _ (by show g≠w.heap.size;omega)).j r.l.1,(AP _ _ _ _ (by show g≠w.heap.size;omega)).j r.l.2.1,(AP _ _ _ _ (by show g≠q;omega)).j r.l.2.2.1,(AP _ _ _ _ (by show g≠q;omega)).j r.l.2.2.2.1,ZO (WE (World.cell?_setCell_same' wr _ (.string d) (WE r.l.2.2.2.2.1))),(BL wr _ _ _).j r.l.2.2.2.2.2⟩)
    (fail)
   have aH:=Z (v.l.drew.set m ω d ω ω N.l)
   have aU:Hid (xhE (j.drop (k+1)) (s.set m d)=t):=by
    show _=_;rw[<-H.l,de j k (0,empty) B,<-I.l,xhE,BM]
   rename_i F;clear F r;go_wp2;go_roundw
   case rel=>exact⟨k+1,_,ω,ν,by simp[D],aU,aH.l⟩
   case measure=>simp[intOf];omega
  have aL:Hid (s=t):=by
   have:=H.l;rw[EI ω]at this;exact this
  rw[aL.l]at h;have v:=Z h;have q0:=h.rx.y 0;have q1:=h.rx.y 1;have f1:=h.rx.E 1;have r0:=h.rr.y 0;have r1:=h.rr.y 1;obtain⟨aZ,bE⟩:=h.rr.z2;have aX:=h.rx.lt;have aW:=h.rr.lt;have n1:w.heap.size≠w.heap.size+1:=ω
  clear h;go_wp2;have aY:wr.heap.size≠w.heap.size+1:=ω
  refine AI (v:=LE (some ⟨g,0,none⟩) l.length c (some ⟨wr.heap.size,0,none⟩) 0 0) (by simp[results,results160,go_sem,r0,r1,n1,aY,aW]) rfl ⟨_,rfl,ω,σ,?_,?_⟩
  ·exact(((v.l.rs.other _ (by show w.heap.size≠g;omega) _).other _ (by show w.heap.size+1≠g;omega) _).other _ (by show w.heap.size+1≠g;omega) _).alloc _
  exact OS (qr (qr (qr v.l.gr ⟨w.heap.size,1,none⟩ (by show w.heap.size<=w.heap.size;omega) _) ⟨w.heap.size+1,0,none⟩ (by show w.heap.size<=w.heap.size+1;omega) _) ⟨w.heap.size+1,1,none⟩ (by show w.heap.size<=w.heap.size+1;omega) _) (RW _ (MF _ _))
end
theorem Cs{a:Act}(B:Nat)
  (S:o.guard=none)(s x:Operand)(t:TypeId)(y:o.op=.call { callee:=.builtin .append,args:=#[s,x],argTypes:=#[t,t] })
  (e:TypeId)(i:TypeInfo)(z:Value)(size q:Nat)(H:P.underlying t=some (.slice e))(C:P.info? e=some i)(hz:i.zero=some z)(M:i.size=size)(R:i.bytes=q)
  (b:Nat)(G:a.eval s=.slice (some ⟨b,0,none⟩) 0 0)(v:Value)(L:a.eval x=v)(n:Nat)(c:List Value)(r:Src P size t v n c w)(l:c.length=n*size)(hn:n<=1048576)(O:n*q<=281474976710656)(U:B<=w.heap.size)(T:z.cells.size=size)
  (h:∀g d j,((n=0/\d=0)\/(g=w.heap.size/\Row j g c/\j.ownsRow B e size (.slice (some ⟨g,0,none⟩) n d) n c/\n≠0))->Below w.heap.size w j->K (a.put o.dst (.slice (some ⟨g,0,none⟩) n d)) j):if Region.wanted o (yielded aH a.tmps)=true then Oper.wp P o a w K Q else E:=by
 have X:Region.wanted o (yielded aH a.tmps)=true:=by simp[Region.wanted,S]
 rw[AF X];subst M R
 by_cases A:n=0
 ·subst A
  have j:c=[]:=AB ω;subst j;have d:=run_append_room_src (P:=P) w t t o.type e i H C b 0 0 0 v 0 [] r ω σ σ;unfold Oper.wp;simp[execOp,y,resolve,invoke,builtin,G,L,d,Result.andThen];exact h b 0 _ (.inl ⟨rfl,rfl⟩) (AC _ _)
 have N:(Builtin.firstCells i.size 0 (.slice (some ⟨b,0,none⟩) 0 0)).run P w.drew=.ok ([]:List Value).toArray w.drew:=GC w.drew i.size 0 _ 0 0 [] σ σ
 have d:=run_append_grow_src (P:=P) w t t o.type e i z H C hz (some ⟨b,0,none⟩) 0 0 [] N v n c r ω ω (by rw[BH,ul n ω];exact O);unfold Oper.wp;simp[execOp,y,resolve,invoke,builtin,G,L,d,Result.andThen];refine h w.heap.size _ _ (.inr ⟨rfl,?_,?_,A⟩) ((AC _ _).drew.alloc (Y _) _)
 ·have F:=LU w.drew ((([]:List Value)++c).toArray++Builtin.zeroCells z.cells (grownCap w (0+n) 0 e-(0+n))) e
  refine⟨σ,λj u I=>?_,λj D=>?_⟩
  ·have:=F.cell j u (by
    obtain⟨D,_⟩:=CW.1 I
    simp[BA D,I])
   simpa using this
  have:=F.froz j τ
  simpa using this
 have j:=JA w n 0 e
 have u:=GY w n 0 e (by unfold maxLen;omega);refine⟨l,.inr ⟨w.heap.size,_,_,rfl,U,AW w.drew _,j,u,?_,?_⟩⟩
 ·simp[JY,l,T]
  rw[<-GD]
  congr 1
  omega
 simp[l]
set_option maxRecDepth 4000 in
theorem qP(a:Option Addr)(d:List ByteArray)(c:Nat)(j:Option Addr)(b:List (Int×ByteArray))(l:Nat)(w:World)(h:Strs w a d)(h':Wrs w j b)(hl:d.length<=200)(bH:b.length<=300):Calls prog 117 #[LE a d.length c j b.length l] w λe w'=>∃g v I t,e=.returned (LE (some ⟨g,0,none⟩) d.length v (some ⟨I,0,none⟩) b.length t)/\OwnD w' (some ⟨g,0,none⟩) d (some ⟨I,0,none⟩) b/\(∀k,blk (some ⟨g,0,none⟩) d.length=some k->w.heap.size<=k)/\(∀k,blk (some ⟨I,0,none⟩) b.length=some k->w.heap.size<=k)/\((b=[]/\t=0)\/w'.ownsRow (w.heap.size+1+1) 134 2 (.slice (some ⟨I,0,none⟩) b.length t) b.length (MH b)/\b.length≠0)/\Below w.heap.size w w':=by
 obtain⟨i0,s,y,z,A⟩:=XI mn;have C:=Z (AH s (AH y (AH z A)));clear s y z A;obtain⟨i1,s,y,z,A⟩:=XI pe;have aH:=Z (AH s (AH y (AH z A)));clear s y z A
 have aZ:∀o1 o2,Below w.heap.size w ((w.alloc o1).alloc o2):=λo1 o2=>(KW _ _).alloc σ _
 go_enter func117,ntmps117;go_wp2_with fail;have X:=(Cx.new w (.slice a d.length c) (.slice j b.length l) 26).z (MF _ (.cells #[.slice none 0 0,.slice none 0 0] 26));have rR:=OI (w.alloc (.cells #[.slice a d.length c,.slice j b.length l] 26)) #[.slice none 0 0,.slice none 0 0] 26 (w.heap.size+1) σ;have hB:=aZ (.cells #[.slice a d.length c,.slice j b.length l] 26) (.cells #[.slice none 0 0,.slice none 0 0] 26);have U:((w.alloc (.cells #[.slice a d.length c,.slice j b.length l] 26)).alloc (.cells #[.slice none 0 0,.slice none 0 0] 26)).heap.size=w.heap.size+1+1:=σ
 obtain⟨r,aT⟩:∃r,r=(w.alloc (.cells #[.slice a d.length c,.slice j b.length l] 26)).alloc (.cells #[.slice none 0 0,.slice none 0 0] 26):=⟨_,rfl⟩;rw[<-aT]at X rR hB U⊢;clear aT;have HX:=Z X;have D:=Z rR;have HB:=Z hB;have u:=Z U;clear X rR hB U;have aV:KeepC r w.heap.size (.slice a d.length c) (.slice j b.length l) r:=⟨HX.l.c0,HX.l.c1,ZO (WE (D.l.y 0)),ZO (WE (D.l.y 1)),D.l.E 0,D.l.E 1,⟨rfl,rfl,rfl,Y _,λ_ _ _=>rfl⟩,by rw[u.l];omega⟩;have HK:=Z aV;clear aV
 have aU:∀wz,KeepC r w.heap.size (.slice a d.length c) (.slice j b.length l) wz->Below w.heap.size w wz:=λwz hz=>HB.l.j (MR hz.2.2.2.2.2.2.1 (by rw[u.l];omega) (λg hg=>by injection hg with hg;omega))
 have M:=Z aU;clear aU
 go_region_held3 (λw'=>w'.cell? ⟨w.heap.size,0,none⟩=some (.slice a d.length c)/\w'.cell? ⟨w.heap.size,1,none⟩=some (.slice j b.length l)/\w'.cell? ⟨w.heap.size+1,0,none⟩=some (ZS w' ⟨w.heap.size+1,0,none⟩)/\w'.cell? ⟨w.heap.size+1,1,none⟩=some (ZS w' ⟨w.heap.size+1,1,none⟩)/\w'.frozen? ⟨w.heap.size+1,0,none⟩=false/\w'.frozen? ⟨w.heap.size+1,1,none⟩=false/\r.grownBy w' (some (w.heap.size+1))/\w.heap.size+1<w'.heap.size)
  (first|assumption|exact HK.l.z ((AC _ _).drew)|exact KeepC.z (by assumption) (by assumption)|exact KeepC.z (by assumption) (MF _ _)|exact KeepC.set (KeepC.set (by assumption) 0 _) 1 _)
  (first|(refine En ρ _ _ 23 ρ 9 _ _ 1 16 underlying23 C.l.1 C.l.2.1 C.l.2.2.1 C.l.2.2.2 _ ρ _ ρ d.length _ (by exact YS (h.z (M.l _ (by assumption))) _ _ ρ _) σ ω ω ?_;intro x v aS O N)|(refine Cs (w.heap.size+1+1) ρ _ _ 24 ρ 134 _ _ 2 24 underlying24 aH.l.1 aH.l.2.1 aH.l.2.2.1 aH.l.2.2.2 _ ρ _ ρ b.length _ (by exact kg (h'.z (M.l _ (by assumption))) _ _ ρ _) (by exact cw b) ω ω (by refine Nat.succ_le_of_lt (JV (JV (JV (JV (JV (JV (JV (?_:KeepC r w.heap.size (.slice a d.length c) (.slice j b.length l) _))))))));assumption) ρ ?_;intro q H G S F;have R:b.length=0\/(q=_/\Row G q (MH b)):=(S.imp (λh=>h.1) (λh=>⟨h.1,h.2.1⟩));have aW:=S.imp id (λh=>h.2.2);clear S;have T:KeepC r w.heap.size (.slice a d.length c) (.slice j b.length l) G:=KeepC.z (by assumption) F))
 all_goals
  rename_i B;have aX:=B;clear B;have bE:=M.l _ aX
  have aD:=by
   first
   | exact qC w.heap.size (w.heap.size+1) aS G d b x q _ _ (Value.slice (some ⟨x,0,none⟩) d.length v) (Value.slice (some ⟨q,0,none⟩) b.length H) (by simp[u.l]<;>omega) (by simp[u.l]<;>omega) O F N.size (Y _) R
   | exact qC w.heap.size (w.heap.size+1) aS G d b x q _ _ (Value.slice (some ⟨x,0,none⟩) d.length v) (Value.slice (some ⟨q,0,none⟩) b.length H) (by simp[u.l]<;>omega) (by simp[u.l]<;>omega) O (Go.Proofs.YtjdmogljfdffeaaGreatDoor.Below.then (MF aS _) (Y _) F) N.size σ R
  have L:=Z aD;have s:=WE T.2.2.1;have bG:=WE T.2.2.2.1;have aY:=Z aW;clear aD O N R F T aX aW;go_wp2;exact AI (v:=LE (some ⟨x,0,none⟩) d.length v (some ⟨q,0,none⟩) b.length H) (by simp[results,results117,go_sem,s,bG]) rfl ⟨x,v,q,H,rfl,L.l.1,L.l.2.1,L.l.2.2,aY.l.imp (λh=>⟨AB h.1,h.2⟩) (λh=>⟨DT (DT h.1 (a:=⟨w.heap.size+1,0,none⟩) (by show w.heap.size+1<_;omega) _) (a:=⟨w.heap.size+1,1,none⟩) (by show w.heap.size+1<_;omega) _,by have:=h.2;simpa using this⟩),bE⟩
theorem ub(a:Option Addr)(d:List ByteArray)(c:Nat)(q:Option Addr)(j:List (Int×ByteArray))(s:Nat)(w:World)(h:Strs w a d)(u:Wrs w q j)(v:d.length<=200)(t:j.length<=300):Calls prog 117 #[LE a d.length c q j.length s] w λe w'=>∃g r l b,e=.returned (LE (some ⟨g,0,none⟩) d.length r (some ⟨l,0,none⟩) j.length b)/\OwnD w' (some ⟨g,0,none⟩) d (some ⟨l,0,none⟩) j/\(∀k,blk (some ⟨g,0,none⟩) d.length=some k->w.heap.size<=k)/\(∀k,blk (some ⟨l,0,none⟩) j.length=some k->w.heap.size<=k)/\Below w.heap.size w w' :=(qP a d c q j s w h u v t).A (λe w' ⟨g,r,l,b,k1,k2,k3,k4,_,k6⟩=>⟨g,r,l,b,k1,k2,k3,k4,k6⟩)
section
structure PR(w:World)(g:Nat)(ps:List (List Int)):Prop where
 lt:g<w.heap.size
 len:∀p∈ps,p.length=64
 cell:∀k,k<ps.length->∀j,j<64->w.cell? ⟨g,k*64+j,none⟩=some (.int .u8 ((ps.getD k []).getD j 0))
 froz:∀i,i<ps.length*64->w.frozen? ⟨g,i,none⟩=false
theorem PR.z{c:List (List Int)}(h:PR w g c)(b:Below w.heap.size w w'):PR w' g c :=⟨AD h.lt b.size,h.len,λk l j e=>(b.cell (p:=⟨g,_,none⟩) h.lt).j (h.cell k l j e),λi d=>(b.frozen (p:=⟨g,i,none⟩) h.lt).j (h.froz i d)⟩
theorem PR.I{d:List (List Int)}{r:Option Nat}(h:PR w g d)(b:w.grownBy w' r)(c:some g≠r):PR w' g d :=⟨AD h.lt b.size,h.len,λk q j l=>(CT (a:=⟨g,_,none⟩) (b.block g h.lt c)).j (h.cell k q j l),λi e=>(GL (a:=⟨g,i,none⟩) (b.block g h.lt c)).j (h.froz i e)⟩
theorem PR.other{b:List (List Int)}(h:PR w g b)(p:Addr)(q:p.block≠g)(v:Value):PR (w.setCell p v) g b:=by
 refine⟨by simpa[World.setCell] using h.lt,h.len,λk l j d=>?_,λi c=>?_⟩
 ·rw[BZ (w:=w) (h:=λe=>q (by rw[e]))];exact h.cell k l j d
 rw[BL];exact h.froz i c
theorem cj{b:List (List Int)}(h:∀p∈b,p.length=64)(c:k<b.length):(b.getD k []).length=64:=h _ (by simp[List.getD,c])
theorem PR.there{b:List (List Int)}(h:PR w g b)(d:k<b.length):w.there g (k*64) 64:=λj c=>by
 rw[h.cell k d j c];exact⟨rfl,h.froz _ ω⟩
theorem PR.range{b:List (List Int)}(h:PR w g b)(d:k<b.length):w.rangeAt g (k*64) ((b.getD k []).map (Value.int .u8)):=λj v hv=>by
 obtain⟨c,e⟩:=CW.1 hv;simp only[BP]at c;have l:=cj h.len d;rw[h.cell k d j ω];rw[<-e];simp only[List.getElem_map];rw[AZ (l:=b.getD k []),BQ c];rfl
theorem PR.plt{b:List (List Int)}(h:PR w g b):Plt w (some ⟨g,0,none⟩) b :=.inr ⟨g,0,rfl,h.lt,λi c=>by rw[BH];exact h.range c⟩
theorem PR.set{b:List (List Int)}(h:PR w g b)(k:Nat)(r:k<b.length)(x:List Int)(t:x.length=64):PR (w.setCells g (k*64) (x.map (Value.int .u8))) g (b.set k x):=by
 have s:(x.map (Value.int .u8)).length=64:=by simp[t]
 refine⟨by rw[VJ];exact h.lt,λp u=>?_,λi c j d=>?_,λi c=>?_⟩
 ·rcases EV u with e|e
  ·exact h.len p e
  rw[e];exact t
 ·rw[List.length_set]at c
  by_cases q:i=k
  ·subst q
   have l:(b.set i x).getD i []=x:=by rw[AZ,JC r];rfl
   rw[l,IZ g _ (i*64) w (λj d=>by rw[s]at d;exact(h.there r j d).1) j ω];simp[List.getD,show j<x.length by omega]
  have l:(b.set k x).getD i []=b.getD i []:=by rw[AZ,GP (λe=>q e.symm),AZ]
  rw[l,DU g _ (k*64) w ⟨g,i*64+j,none⟩ (λ_ _=>by rw[s];show i*64+j<k*64\/k*64+64<=i*64+j;omega)];exact h.cell i c j d
 rw[EO];exact h.froz i (by simpa using c)
theorem yW{n:Nat}(h:Row w g (List.replicate (n*64) (.int .u8 0))):PR w g (List.replicate n (List.replicate 64 0)):=by
 refine⟨h.lt,λp e=>by rw[List.eq_of_mem_replicate e];simp,λk b j d=>?_,λi c=>h.froz i (by simpa using c)⟩;rw[CU]at b
 have c:((List.replicate n (List.replicate 64 (0:Int))).getD k []).getD j 0=0:=by
  rw[AZ (l:=List.replicate n _),ED,AF b,GF,AZ,ED,AF d];rfl
 rw[c];exact h.cell _ _ (by rw[ED,AF ω])
def NQ(b:List (Int×List Int)):List Value:=b.flatMap λx=>.int .i64 x.1::x.2.map (Value.int .u8)
theorem sX(a b:List (Int×List Int)):NQ (a++b)=NQ a++NQ b:=by simp[NQ]
theorem sY:∀(b:List (Int×List Int)),(∀p∈b,p.2.length=64)->∀(i:Nat),i<b.length->∀j,(Value.int .i64 (b.getD i (0,[])).1::(b.getD i (0,[])).2.map (Value.int .u8))[j]?≠none->(NQ b)[i*65+j]?=(Value.int .i64 (b.getD i (0,[])).1::(b.getD i (0,[])).2.map (Value.int .u8))[j]?
 | x::r,hl,0,_,j,hj=>by
  have e:NQ (x::r)=(.int .i64 x.1::x.2.map (Value.int .u8))++NQ r:=by simp[NQ]
  have c:(x::r).getD 0 (0,[])=x:=rfl;rw[c]at hj⊢;rw[e,Nat.zero_mul,BH,BA];rcases FY j (Value.int .i64 x.1::x.2.map (Value.int .u8)).length with h|h
  ·exact h
  exact absurd (List.getElem?_eq_none h) hj
 | x::r,hl,i+1,h,j,hj=>by
  have e:NQ (x::r)=(.int .i64 x.1::x.2.map (Value.int .u8))++NQ r:=by simp[NQ]
  have l:(Value.int .i64 x.1::x.2.map (Value.int .u8)).length=65:=by simp[hl x σ]
  have c:(x::r).getD (i+1) (0,[])=r.getD i (0,[]):=by simp[List.getD]
  rw[c]at hj⊢;rw[e,CX ω,l,show(i+1)*65+j-65=i*65+j by omega];exact sY r (λp d=>hl p (by simp[d])) i (by simpa using h) j hj
theorem td(b:List (Int×List Int))(c:∀p∈b,p.2.length=64):(NQ b).length=b.length*65:=by
 induction b with
 | nil=>rfl
 | cons x r h =>
  have e:NQ (x::r)=(.int .i64 x.1::x.2.map (Value.int .u8))++NQ r:=by simp[NQ]
  rw[e,AE,h (λp d=>c p (by simp[d]))];simp[c x σ];omega
theorem Row.hld{b:List (Int×List Int)}(h:Row w g (NQ b))(d:∀p∈b,p.2.length=64):Hld w (some ⟨g,0,none⟩) b :=.inr ⟨g,0,rfl,h.lt,λi c j v hv=>by
  rw[BH]
  exact h.cell _ _ ((sY b d i c j (by rw[hv];simp)).j hv)⟩
structure Drs(W w:World)(n:Nat)(box:Value)(e:TypeId)(v:Value)(ps:List (List Int))(hs:List (Int×List Int)):Prop where
 sz:W.heap.size+1+1+1+1<=w.heap.size
 bel:Below W.heap.size W w
 b1:w.cell? ⟨W.heap.size,1,none⟩=some box
 r0:w.cell? ⟨W.heap.size+1,0,none⟩=some (.slice none 0 0)
 r1:w.cell? ⟨W.heap.size+1,1,none⟩=some (.slice none 0 0)
 fr0:w.frozen? ⟨W.heap.size+1,0,none⟩=false
 fr1:w.frozen? ⟨W.heap.size+1,1,none⟩=false
 d0:w.cell? ⟨W.heap.size+1+1+1,0,none⟩=some (.slice (some ⟨W.heap.size+1+1,0,none⟩) n n)
 d1:w.cell? ⟨W.heap.size+1+1+1,1,none⟩=some v
 fd1:w.frozen? ⟨W.heap.size+1+1+1,1,none⟩=false
 pr:PR w (W.heap.size+1+1) ps
 len:∀p∈hs,p.2.length=64
 own:w.ownsRow (W.heap.size+1+1+1+1) e 65 v hs.length (NQ hs)
section
variable {W w w':World} {n:Nat} {box v:Value} {e:TypeId} {ps:List (List Int)} {hs:List (Int×List Int)}
theorem Drs.z(h:Drs W w n box e v ps hs)(c:Below w.heap.size w w'):Drs W w' n box e v ps hs :=have hs:=h.sz
 have d:∀b i,b<W.heap.size+1+1+1+1->w'.cell? ⟨b,i,none⟩=w.cell? ⟨b,i,none⟩:=λb i l=>c.cell (p:=⟨b,i,none⟩) (by show b<_;omega)
 have j:∀b i,b<W.heap.size+1+1+1+1->w'.frozen? ⟨b,i,none⟩=w.frozen? ⟨b,i,none⟩:=λb i l=>c.frozen (p:=⟨b,i,none⟩) (by show b<_;omega)
 ⟨AL hs c.size,h.bel.j (c.A ω),(d _ _ ω).j h.b1,(d _ _ ω).j h.r0,(d _ _ ω).j h.r1,(j _ _ ω).j h.fr0,(j _ _ ω).j h.fr1,
  (d _ _ ω).j h.d0,(d _ _ ω).j h.d1,(j _ _ ω).j h.fd1,h.pr.z c,h.len,LR h.own c⟩
theorem Drs.drew(h:Drs W w n box e v ps hs):Drs W w.drew n box e v ps hs:=h.z ((AC _ _).drew)
theorem Drs.alloc(h:Drs W w n box e v ps hs)(o:Obj):Drs W (w.alloc o) n box e v ps hs:=h.z (KW _ _)
theorem Drs.fill(h:Drs W w n box e v ps [])(hv:v=.slice none 0 0)(k:Nat)(j:k<ps.length)(x:List Int)(l:x.length=64):Drs W (w.setCells (W.heap.size+1+1) (k*64) (x.map (Value.int .u8))) n box e v (ps.set k x) []:=by
 have hs:=h.sz
 have c:∀b i,b≠W.heap.size+1+1->(w.setCells (W.heap.size+1+1) (k*64) (x.map (Value.int .u8))).cell? ⟨b,i,none⟩=w.cell? ⟨b,i,none⟩:=λb i d=>DU _ _ _ _ _ (λe=>absurd e d)
 exact⟨by rw[VJ];exact hs,Go.below_setCells ω _ _ _ h.bel,(c _ _ ω).j h.b1,(c _ _ ω).j h.r0,(c _ _ ω).j h.r1,(EO _ _ _ _ _).j h.fr0,(EO _ _ _ _ _).j h.fr1,
  (c _ _ ω).j h.d0,(c _ _ ω).j h.d1,(EO _ _ _ _ _).j h.fd1,h.pr.set k j x l,h.len,by rw[hv];exact CE _ _ _ _⟩
theorem Drs.I(h:Drs W w n box e v ps hs)(b:w.grownBy w1 v.ownBlock):w1.cell? ⟨W.heap.size+1+1+1,1,none⟩=some v/\w1.frozen? ⟨W.heap.size+1+1+1,1,none⟩=false:=by
 have hs:=h.sz
 have c:some (W.heap.size+1+1+1)≠v.ownBlock:=λd=>by have:=(h.own.lt _ d.symm).1;omega
 exact⟨(b.cell_far ⟨W.heap.size+1+1+1,1,none⟩ (by show W.heap.size+1+1+1<_;omega) c).j h.d1,(b.frozen_far ⟨W.heap.size+1+1+1,1,none⟩ (by show W.heap.size+1+1+1<_;omega) c).j h.fd1⟩
theorem Drs.push(h:Drs W w n box e v ps hs){cap:Nat}{x:Int×List Int}(B:x.2.length=64)(y:w1.ownsRow (W.heap.size+1+1+1+1) e 65 (.slice (some ⟨g,0,none⟩) (hs.length+1) cap) (hs.length+1) (NQ hs++(.int .i64 x.1::x.2.map (Value.int .u8))))(c:w.grownBy w1 v.ownBlock):Drs W (w1.setCell ⟨W.heap.size+1+1+1,1,none⟩ (.slice (some ⟨g,0,none⟩) (hs.length+1) cap)) n box e (.slice (some ⟨g,0,none⟩) (hs.length+1) cap) ps (hs++[x]):=by
 have C:=h.sz
 have l:∀k,k<W.heap.size+1+1+1+1->some k≠v.ownBlock:=λk z s=>by have:=(h.own.lt k s.symm).1;omega
 have u:∀b,b<W.heap.size+1+1+1+1->b<w.heap.size:=λb d=>ω
 have q:∀b i,b<W.heap.size+1+1+1+1->w1.cell? ⟨b,i,none⟩=w.cell? ⟨b,i,none⟩:=λb i d=>c.cell_far ⟨b,i,none⟩ (u b d) (l b d)
 have r:∀b i,b<W.heap.size+1+1+1+1->w1.frozen? ⟨b,i,none⟩=w.frozen? ⟨b,i,none⟩:=λb i d=>c.frozen_far ⟨b,i,none⟩ (u b d) (l b d)
 have t:∀b i,b<W.heap.size+1+1+1+1->b≠W.heap.size+1+1+1->(w1.setCell ⟨W.heap.size+1+1+1,1,none⟩ (.slice (some ⟨g,0,none⟩) (hs.length+1) cap)).cell? ⟨b,i,none⟩=w.cell? ⟨b,i,none⟩:=λb i d A=>by
  rw[BZ (w:=w1) (h:=show(⟨W.heap.size+1+1+1,1,none⟩:Addr)≠⟨b,i,none⟩ fromλs=>A (by injection s with j;exact j.symm))];exact q b i d
 have b:Below W.heap.size W w1:=h.bel.j ⟨c.os,c.tape,c.output,c.size,λk z=>c.block k ω (l k ω)⟩
 refine⟨by simp only[BJ];have:=c.size;omega,b.setCell (by show W.heap.size<=W.heap.size+1+1+1;omega) _,(t _ _ ω ω).j h.b1,(t _ _ ω ω).j h.r0,(t _ _ ω ω).j h.r1,
  (BL _ _ _ _).j ((r _ _ ω).j h.fr0),(BL _ _ _ _).j ((r _ _ ω).j h.fr1),?_,FD w1 _ _ ((q _ _ ω).j h.d1),(BL _ _ _ _).j ((r _ _ ω).j h.fd1),?_,?_,?_⟩
 ·rw[BZ (w:=w1) (h:=show(⟨W.heap.size+1+1+1,1,none⟩:Addr)≠⟨W.heap.size+1+1+1,0,none⟩ by simp)];exact(q _ _ ω).j h.d0
 ·exact(h.pr.I c (l _ ω)).other _ (by show W.heap.size+1+1+1≠W.heap.size+1+1;omega) _
 ·intro p d
  rcases BS.1 d with j|j
  ·exact h.len p j
  simp at j;rw[j];exact B
 have j:=DT y (a:=⟨W.heap.size+1+1+1,1,none⟩) (by show W.heap.size+1+1+1<_;omega) (.slice (some ⟨g,0,none⟩) (hs.length+1) cap)
 have d:NQ (hs++[x])=NQ hs++(.int .i64 x.1::x.2.map (Value.int .u8)):=by rw[sX];simp[NQ]
 rw[AE,d];exact j
theorem Drs.start(w b:World)(n:Nat)(d c:Value)(j l q e:TypeId)(r:Below ((w.alloc (.cells #[d,c] j)).alloc (.cells #[.slice none 0 0,.slice none 0 0] l)).heap.size ((w.alloc (.cells #[d,c] j)).alloc (.cells #[.slice none 0 0,.slice none 0 0] l)) b)
  (hs:b.heap.size=w.heap.size+1+1+1)(u:Row b (w.heap.size+1+1) (List.replicate (n*64) (.int .u8 0))):Drs w (b.alloc (.cells #[.slice (some ⟨w.heap.size+1+1,0,none⟩) n n,.slice none 0 0] q)) n c e (.slice none 0 0) (List.replicate n (List.replicate 64 0)) []:=by
 have x:=(((LU w #[d,c] j).alloc (.cells #[.slice none 0 0,.slice none 0 0] l)).z r).alloc (.cells #[.slice (some ⟨w.heap.size+1+1,0,none⟩) n n,.slice none 0 0] q);have h:=((OI (w.alloc (.cells #[d,c] j)) #[.slice none 0 0,.slice none 0 0] l (w.heap.size+1) σ).z r).alloc (.cells #[.slice (some ⟨w.heap.size+1+1,0,none⟩) n n,.slice none 0 0] q);have s:=OI b #[.slice (some ⟨w.heap.size+1+1,0,none⟩) n n,.slice none 0 0] q (w.heap.size+1+1+1) hs.symm;have t:Below w.heap.size w b:=((KW _ _).alloc σ _).j (r.A τ);exact⟨by simp[hs],t.alloc t.size _,x.y 1,h.y 0,h.y 1,h.E 0,h.E 1,s.y 0,s.y 1,s.E 1,yW (u.alloc _),σ,CE _ _ _ _⟩
end
end
theorem Cv{a:Act}
  (G:o.guard=none)(d x:Operand)(r y:TypeId)(A:o.op=Op.call { callee:=Callee.builtin Builtin.copy,args:=#[d,x],argTypes:=#[r,y] })
  (l:TypeId)(I:P.underlying r=some (.slice l))(N:(P.info? l).map (·.size)=some 1)
  (b c h t:Nat)(D:a.eval d=.slice (some ⟨b,c,none⟩) h t)(s:Addr)(q u:Nat)(M:a.eval x=.slice (some s) q u)(e:List Value)(H:e.length=Nat.min q h)
  (z:∀j v,e[j]?=some v->w.cell? (s.add j)=some v)(C:∀j,j<e.length->(w.cell? ⟨b,c+j,none⟩).isSome=true)(F:∀j,j<e.length->w.frozen? ⟨b,c+j,none⟩=false)(B:∀v∈e,v.oneCell'=true)
  (v:K (a.put o.dst (goInt e.length)) (w.setCells b c e)):if Region.wanted o (yielded aH a.tmps)=true then Oper.wp P o a w K Q else E:=by
 have L:Region.wanted o (yielded aH a.tmps)=true:=by simp[Region.wanted,G]
 rw[AF L];have j:=run_copy_cells (P:=P) w r y o.type l b c h t s q u e I N H z C F B;unfold Oper.wp;simp[execOp,A,resolve,invoke,builtin,D,M,j,Result.andThen];exact v
def TG(k:Nat)(x y:List Int):List Int:=x.take k++y.drop k
theorem Cj(k:Nat)(x y:List Int)(b:k<=64)(c:x.length=64)(d:y.length=64):(TG k x y).length=64:=by simp[TG];omega
theorem PR.part{b:List (List Int)}(h:PR w g b)(i:Nat)(r:i<b.length)(k:Nat)(u:k<=64)(x:List Int)(y:x.length=64):PR (w.setCells g (i*64) ((x.take k).map (Value.int .u8))) g (b.set i (TG k x (b.getD i []))):=by
 have s:((x.take k).map (Value.int .u8)).length=k:=τ
 have z:=cj h.len r;refine⟨by rw[VJ];exact h.lt,λp v=>?_,λq c j d=>?_,λq c=>?_⟩
 ·rcases EV v with e|e
  ·exact h.len p e
  rw[e];exact Cj k x _ u y z
 ·rw[List.length_set]at c
  by_cases t:q=i
  ·subst t
   have l:(b.set q (TG k x (b.getD q []))).getD q []=TG k x (b.getD q []):=by rw[AZ,JC r];rfl
   rw[l]
   by_cases e:j<k
   ·rw[IZ g _ (q*64) w (λj d=>by rw[s]at d;exact(h.there r j ω).1) j ω]
    unfold TG;rw[AZ,BA τ,GG e,BQ ω];simp
   rw[DU g _ (q*64) w ⟨g,q*64+j,none⟩ (λ_ _=>by rw[s];show q*64+j<q*64\/q*64+k<=q*64+j;omega),h.cell q c j d]
   unfold TG;rw[AZ (l:=x.take k++_),CX τ,FK];rw[show k+(j-(x.take k).length)=j by simp;omega,AZ]
  have l:(b.set i (TG k x (b.getD i []))).getD q []=b.getD q []:=by rw[AZ,GP (λe=>t e.symm),AZ]
  rw[l,DU g _ (i*64) w ⟨g,q*64+j,none⟩ (λ_ _=>by rw[s];show q*64+j<i*64\/i*64+k<=q*64+j;omega)];exact h.cell q c j d
 rw[EO];exact h.froz q (by simpa using c)
set_option maxRecDepth 100000 in
theorem vL(X g n c:Nat)(v:Value)(q:List (List Int))(m:Nat)(x:List Int)(k:Nat)(w:World)(s:w.cell? ⟨X,0,none⟩=some (.slice (some ⟨g,0,none⟩) n c))(A:X≠g)(y:PR w g q)(hn:q.length=n)(hm:m<n)(R:n<=200)(S:n<=c)(I:x.length=64)(u:k<=64):Calls prog 140 #[.pointer (some ⟨X,0,none⟩),.agg (Value.int .i64 (m:Int)::x.map (Value.int .u8)).toArray,.int .i64 (k:Int)] w λe w'=>e=.returned (.tuple #[])/\PR w' g (q.set m (TG k x (q.getD m [])))/\w.grownBy w' (some g):=by
 have G:X<w.heap.size:=by have:=DI w _ s;simpa using this
 have M:=y.lt;go_enter func140,ntmps140;go_wp2_with fail;have l:=LU w (Value.int .i64 (m:Int)::x.map (Value.int .u8)).toArray 145;have h:=MF w (.cells (Value.int .i64 (m:Int)::x.map (Value.int .u8)).toArray 145);obtain⟨b,d⟩:∃b,b=w.alloc (.cells (Value.int .i64 (m:Int)::x.map (Value.int .u8)).toArray 145):=⟨_,rfl⟩;rw[<-d]at l h⊢;clear d;have aH:=Z (y.z h);have r:=Z (AH ((h.cell (p:=⟨X,0,none⟩) G).j s) (l.cell 0 (.int .i64 (m:Int)) rfl));have d:=Z h
 have C:Hid (∀j v,((x.take k).map (Value.int .u8))[j]?=some v->b.drew.cell? ((⟨w.heap.size,1,none⟩:Addr).add j)=some v):=λj v hv=>by
  obtain⟨t,e⟩:=CW.1 hv;have z:j<k:=by simp at t;omega
  have B:(⟨w.heap.size,1,none⟩:Addr).add j=⟨w.heap.size,j+1,none⟩:=by unfold Addr.add;split<;>simp_all<;>omega
  rw[B];refine l.cell (j+1) v ?_;rw[<-hv];simp[GG z]
 have B:Hid (((x.take k).map (Value.int .u8)).length=Nat.min k k):=by show _=_;simp[KD];omega
 have L:((x.take k).map (Value.int .u8)).length=k:=τ
 have z:=Z (aH.l.there (k:=m) ω)
 have T:=λt=>rj (P:=prog) (t:=142) underlying142 (λ_=>κ) g (m*64) k ω u .i64 (k:Int) rfl t
 have U:=λt=>rj (P:=prog) (t:=142) underlying142 (λ_=>κ) w.heap.size 1 k ω u .i64 (k:Int) rfl t
 have N:(0:Int)<=(m:Int):=ω
 have O:(m:Int)<(n:Int):=ω
 have D:X≠g:=A;have F:w.heap.size≠g:=ω
 clear s y l h A
 go_region_held3 (λw'=>w'.cell? ⟨X,0,none⟩=some (.slice (some ⟨g,0,none⟩) n c)/\w'.cell? ⟨w.heap.size,0,none⟩=some (.int .i64 (m:Int)))
  (first|assumption|exact r.l|exact⟨(DU _ _ _ _ _ (λe=>absurd e D)).j r.l.1,(DU _ _ _ _ _ (λe=>absurd e F)).j r.l.2⟩)
  (first|(refine Cv ρ _ _ _ _ ρ 5 underlying22 κ g (m*64) k 64 ρ ⟨w.heap.size,1,none⟩ k 64 ρ ((x.take k).map (Value.int .u8)) B.l C.l (λj t=>(z.l j ω).1) (λj t=>(z.l j ω).2) (VR _) ?_))
 have j:=(aH.l.z ((AC _ b).drew)).part m ω k u x I
 have l:w.grownBy (b.drew.setCells g (m*64) ((x.take k).map (Value.int .u8))) (some g):=by
  have h:=YN g ((x.take k).map (Value.int .u8)) (m*64) b.drew;refine⟨h.1.j d.l.os,h.2.1.j d.l.tape,h.2.2.j d.l.output,by rw[VJ];exact d.l.size,λi H t=>?_⟩;rw[jl g _ _ _ i (λe=>t (by rw[e]))];exact d.l.block i H
 have h:=Z j;have t:=Z l;clear j l;go_wp2;go_end0;exact⟨rfl,h.l,t.l⟩
theorem tZ(v:Value)(b:List Value)(z:Array Value)(q:z.size=b.length+1):List.foldl (λ(r:Array Value) (x:Value×Nat)=>r.setIfInBounds (1+x.snd) x.fst) (z.setIfInBounds 0 v) b.zipIdx=(v::b).toArray:=by
 obtain⟨h,d⟩:=Great.foldl_set 1 b 0 (z.setIfInBounds 0 v)
 apply Array.ext_getElem?
 intro k;have e:=d k;rw[e,Array.size_setIfInBounds]
 by_cases l:1<=k/\k<1+b.length
 ·rw[AF ⟨ω,ω,ω⟩]
  obtain⟨j,rfl⟩:∃j,k=j+1:=⟨k-1,ω⟩;simp
 rw[AG ω]
 by_cases c:k=0
 ·subst c
  simp[show 0<z.size by omega]
 rw[DP τ,DP τ]
theorem qK(v:Value)(b:List Value)(n:Nat)(s:b.length+1=n)(z:Array Value)(t:z.size=n)(h:z[0]?=some v):List.foldl (λ(r:Array Value) (x:Value×Nat)=>r.setIfInBounds x.snd x.fst) z (b.zipIdx 1)=(v::b).toArray:=by
 obtain⟨l,c⟩:=Great.foldl_set 0 b 1 z
 have e:(λ(r:Array Value) (x:Value×Nat)=>r.setIfInBounds (0+x.2) x.1)=λ(r:Array Value) (x:Value×Nat)=>r.setIfInBounds x.snd x.fst:=by funext r x;rw[BH]
 rw[e]at l c
 apply Array.ext_getElem?
 intro k;rw[c k]
 by_cases q:1<=k/\k<1+b.length
 ·rw[AF ⟨ω,ω,ω⟩]
  obtain⟨j,rfl⟩:∃j,k=j+1:=⟨k-1,ω⟩;simp
 rw[AG ω]
 by_cases d:k=0
 ·subst d;rw[h];simp
 rw[DP ω,DP τ]
theorem io:ZJ.size=65:=κ
theorem nE:¬(ZJ=#[]):=λh=>by have:=BY Array.size h;rw[io]at this;cases this
set_option maxRecDepth 100000 in
theorem Ad(a:Option Addr)(l:List (List Int))(c:Nat)(L:Option Addr)(j:List (Int×List Int))(c':Nat)(w:World)(h:Plt w a l)(h':Hld w L j)(hl:l.length<=200)(cO:j.length<=300)(cC:∀p∈l,p.length=64)(bJ:∀p∈j,p.2.length=64):Calls prog 52 #[LE a l.length c L j.length c'] w λe w'=>∃v z,e=.returned (.agg #[v,z])/\w'.ownsRow w.heap.size 9 1 v l.length ((ND l).map Value.string)/\w'.ownsRow w.heap.size 134 2 z j.length (MH (XbJ j))/\(v.ownBlock=none\/z.ownBlock=none\/v.ownBlock≠z.ownBlock)/\Below w.heap.size w w':=by
 obtain⟨i0,b,d,q,r⟩:=XI mn;have I:=Z (AH b (AH d (AH q r)));clear b d q r;obtain⟨i1,b,d,q,r⟩:=XI pe;have N:=Z (AH b (AH d (AH q r)));clear b d q r;go_enter func52,ntmps52;go_wp2;go_loopw [5,11] (λ_ i wr=>∃(k:Nat) (v:Value),k<=l.length/\i=.int .i64 k/\Dsk w wr (w.heap.size+1) (w.heap.size+1+1) (w.heap.size+1+1+1) 9 134 v (.slice none 0 0) (ND (l.take k)) []/\wr.cell? ⟨w.heap.size,1,none⟩=some (.slice L j.length c')) (λ_ i _=>l.length-(intOf i).toNat)
 case atStart=>exact⟨0,_,AO _,rfl,Dsk.start3 _ _ _ _ _ _ _ _,γ⟩
 case round =>
  obtain⟨k,v,hk,rfl,d,s⟩:=hrel
  by_cases X:k<l.length
  ·obtain⟨b,o,x,rfl,cH,D,C⟩:=(h.z d.bel).at X
   have F:x.length=64:=by rw[C.l];exact cC _ (by simp[List.getD,X])
   have q:(x.map (Value.int .u8)).length=64:=by simp[F]
   have aH:(ND (l.take k)).length=k:=by simp[ND];omega
   have B:=Z aH;have r:=Z d;have H:=Z s;clear d s aH;have R:Hid ((prog.info? 142).map (·.size)=some (x.map (Value.int .u8)).length):=by rw[q];show _=_;kernel_rfl
   have U:=Z q.symm;clear q
   go_wp2_with (first|(with_reducible refine YY 142 _ rfl ?_;refine AS rfl 142 _ rfl b (o+k*64) rfl (x.map (Value.int .u8)) _ D underlying142 rfl R.l ?_)|(with_reducible refine XC 142 _ _ rfl ?_;refine dp rfl 142 _ _ rfl (x.map (Value.int .u8)) (VR x) rfl rfl _ _ (by rw[<-U.l];kernel_rfl) R.l ?_;intro q u t G))
   have y:=Z (r.l.z t);have q0:=(r.l.z t).d0;have q1:=(r.l.z t).fd0;have cI:w.heap.size+1+1<q.heap.size:=by have:=y.l.sz;omega
   have aN:w.heap.size+1+1+1<=q.heap.size:=y.l.sz;have cE:=u.drew.text (P:=prog) x 0 64 64 F (λi hi=>by simp[List.getD,show i<x.length by omega]) 22 5 9 underlying22 underlying5 underlying9;have cA:Hid (q.cell? ⟨w.heap.size,1,none⟩=some (.slice L j.length c')):=(t.cell (p:=⟨w.heap.size,1,none⟩) (by have:=r.l.sz;show w.heap.size<wr.heap.size;omega)).j H.l;have O:=Z (y.l.drew.own.alloc (.cells #[.string (strOfNums x)] 9));have A:=Z (y.l.drew.alloc (.cells #[.string (strOfNums x)] 9));clear u t G r H D
   go_region_law (first|(refine step_append_lies _ ρ _ _ _ ρ (w.heap.size+1+1+1) 9 i0 (.string empty) 1 16 underlying23 I.l.1 I.l.2.1 I.l.2.2.1 I.l.2.2.2 rfl ω v (ND (l.take k)).length ((ND (l.take k)).map Value.string) ρ O.l ⟨q.heap.size,0,none⟩ 1 1 [.string (strOfNums x)] ρ rfl (World.news_of_block (AW q.drew _)) (by intro u H;simp at H;subst H;rfl) ω (by rw[B.l];unfold maxLen;omega) (by rw[B.l];omega) ξ (q.heap.size+1) σ ?_;intro g G w3 t r D bV;obtain⟨q4,q5⟩:=A.l.I r;have T:=Z t;have M:=Z r;have S:=Z D;clear t r D))
   all_goals
    have r:=A.l.push T.l M.l S.l σ;have D:=(A.l.far M.l w.heap.size 1 0 ω ω (.slice (some ⟨g,0,none⟩) ((ND (l.take k)).length+1) G)).j ((EN (w:=q.drew) _ w.heap.size 1 (by show w.heap.size<q.heap.size;omega)).j cA.l);rw[C.l,<-Ge l k X]at r;have t:=Z r;have HF:=Z D;clear r D;go_wp2;go_roundw
    case rel=>exact⟨k+1,_,ω,ν,t.l,HF.l⟩
    case measure=>simp[intOf];omega
  have cF:Hid (l.take k=l):=AV ω
  rw[cF.l]at d;have b:w.heap.size<wr.heap.size:=by have:=d.sz;omega
  go_wp2;go_loopw [7,26] (λ_ i wr=>∃(k:Nat) (z:Value),k<=j.length/\i=.int .i64 k/\Dsk w wr (w.heap.size+1) (w.heap.size+1+1) (w.heap.size+1+1+1) 9 134 v z (ND l) (XbJ (j.take k))) (λ_ i _=>j.length-(intOf i).toNat)
  case atStart=>exact⟨0,_,AO _,rfl,d⟩
  case round =>
   clear d s b;obtain⟨s,z,cL,rfl,d⟩:=hrel
   by_cases R:s<j.length
   ·obtain⟨b,o,n,x,rfl,cH,D,C⟩:=(h'.z d.bel).at R
    have F:x.length=64:=by
     have:=bJ (n,x) (by rw[C.l];simp[List.getD,R]);exact this
    have q:(Value.int .i64 n::x.map (Value.int .u8)).length=65:=by simp[F]
    have aH:(XbJ (j.take s)).length=s:=by simp[XbJ];omega
    have B:=Z aH;have r:=Z d;clear d aH;have aL:Hid ((prog.info? 145).map (·.size)=some (Value.int .i64 n::x.map (Value.int .u8)).length):=by rw[q];show _=_;kernel_rfl
    have U:=Z q.symm;clear q;have cQ:=ix
    go_wp2_with (first|(with_reducible refine YY 145 _ rfl ?_;refine AS rfl 145 _ rfl b (o+s*65) rfl (Value.int .i64 n::x.map (Value.int .u8)) _ D underlying145 rfl aL.l ?_)|(with_reducible refine XC 145 _ _ rfl ?_;refine dp rfl 145 _ _ rfl (Value.int .i64 n::x.map (Value.int .u8)) (iq n x) rfl rfl _ _ (by rw[<-U.l];kernel_rfl) aL.l ?_;intro q u t G))
    have y:=Z (r.l.z t);have q0:=(r.l.z t).d1;have q1:=(r.l.z t).fd1;have cI:w.heap.size+1+1<q.heap.size:=by have:=y.l.sz;omega
    have cP:wr.heap.size<q.heap.size:=ω
    have aN:w.heap.size+1+1+1<=q.heap.size:=y.l.sz;have cJ:q.cell? ⟨wr.heap.size,0,none⟩=some (.int .i64 n):=u.y 0;have cE:=u.drew.text (P:=prog) x 1 64 64 F (λi hi=>by rw[show 1+i=i+1 by omega];simp[List.getD,show i<x.length by omega]) 22 5 9 underlying22 underlying5 underlying9;have O:=Z (y.l.drew.own'.alloc (.cells #[.int .i64 n,.string (strOfNums x)] 134));have A:=Z (y.l.drew.alloc (.cells #[.int .i64 n,.string (strOfNums x)] 134));clear u t G r D
    go_region_law (first|(refine step_append_lies _ ρ _ _ _ ρ (w.heap.size+1+1+1) 134 i1 (.agg #[.int .i64 0,.string empty]) 2 24 underlying24 N.l.1 N.l.2.1 N.l.2.2.1 N.l.2.2.2 rfl ω z (XbJ (j.take s)).length (MH (XbJ (j.take s))) ρ O.l ⟨q.heap.size,0,none⟩ 1 1 [.int .i64 n,.string (strOfNums x)] ρ rfl (World.news_of_block (AW q.drew _)) (by intro u H;simp at H;rcases H with rfl|rfl<;>rfl) ω (by rw[B.l];unfold maxLen;omega) (by rw[B.l];omega) ξ (q.heap.size+1) σ ?_;intro g G w3 t r D bV;obtain⟨q4,q5⟩:=A.l.grown2 r;have T:=Z t;have M:=Z r;have S:=Z D;clear t r D))
    all_goals
     have r:=A.l.push2 (x:=(n,strOfNums x)) T.l M.l S.l σ;rw[show(n,strOfNums x)=((j.getD s (0,[])).1,strOfNums (j.getD s (0,[])).2) by rw[<-C.l],<-Ct j s R]at r;have t:=Z r;clear r;go_wp2;go_roundw
     case rel=>exact⟨s+1,_,ω,ν,t.l⟩
     case measure=>simp[intOf];omega
   have B:Hid (j.take s=j):=AV ω
   rw[B.l]at d;have r:=Z d;have q0:=d.d0;have q1:=d.d1;have D:=d.r0;have F:=d.r1;have q4:=d.fr0;have q5:=d.fr1;have A:=d.own;have C:=d.own';obtain⟨b,y,x,rfl⟩:∃a n c,v=.slice a n c:=by rcases MO d.own with ⟨e,_⟩|⟨g,c,e,_⟩<;>exact⟨_,_,_,e⟩
   obtain⟨q,u,t,rfl⟩:∃a n c,z=.slice a n c:=by rcases MO d.own' with ⟨e,_⟩|⟨g,c,e,_⟩<;>exact⟨_,_,_,e⟩
   clear d A C;go_wp2;have aH:(ND l).length=l.length:=by simp[ND]
   have C:(XbJ j).length=j.length:=by simp[XbJ]
   have d:=DT (DT r.l.own (a:=⟨w.heap.size+1,0,none⟩) (by show w.heap.size+1<_;omega) (.slice b y x)) (a:=⟨w.heap.size+1,1,none⟩) (by show w.heap.size+1<_;omega) (.slice q u t);have A:=DT (DT r.l.own' (a:=⟨w.heap.size+1,0,none⟩) (by show w.heap.size+1<_;omega) (.slice b y x)) (a:=⟨w.heap.size+1,1,none⟩) (by show w.heap.size+1<_;omega) (.slice q u t);rw[aH]at d;rw[C]at A;refine AI (v:=.agg #[.slice b y x,.slice q u t]) (by simp[results,results52,go_sem,D,F]) rfl ⟨_,_,rfl,d.A ω,A.A ω,r.l.apart,?_⟩;exact(r.l.bel.setCell (by show w.heap.size<=w.heap.size+1;omega) _).setCell (by show w.heap.size<=w.heap.size+1;omega) _
theorem nh(a:Option Addr)(l:List (List Int))(n c:Nat)(u:Option Addr)(j:List (Int×List Int))(t z:Nat)(U:l.length=n)(I:j.length=t)(w:World)(h:Plt w a l)(R:Hld w u j)(T:n<=200)(H:t<=300)(F:∀p∈l,p.length=64)(D:∀p∈j,p.2.length=64):Calls prog 52 #[LE a n c u t z] w λe w'=>∃b r d q,e=.returned (LE b n r d t q)/\OwnD w' b (ND l) d (XbJ j)/\(∀g,blk b n=some g->w.heap.size<=g)/\(∀g,blk d t=some g->w.heap.size<=g)/\Below w.heap.size w w':=by
 subst U I;refine(Ad a l c u j z w h R T H F D).A ?_;rintro e w' ⟨v,C,rfl,o1,o2,G,S⟩;have A:(ND l).length=l.length:=by simp[ND]
 have B:(XbJ j).length=j.length:=by simp[XbJ]
 have L:∃b r,v=.slice b l.length r/\OwnS w' b ((ND l).map Value.string)/\(∀g,blk b l.length=some g->w.heap.size<=g)/\(blk b l.length=none\/blk b l.length=v.ownBlock):=by
  rcases MO o1 with ⟨e,q⟩|⟨g,s,e,x,_,y⟩
  ·refine⟨none,0,by rw[q];exact e,.inl ?_,λg d=>?_,.inl ?_⟩
   ·rw[AB (A.j q)];rfl
   ·rw[q]at d;cases d
   rw[q];rfl
  refine⟨_,s,e,.inr ⟨g,rfl,y⟩,λN d=>?_,?_⟩
  ·unfold blk at d;split at d
   ·cases d
   cases d;exact x
  unfold blk;split
  ·exact .inl rfl
  right;rw[e];rfl
 have M:∃b r,C=.slice b j.length r/\OwnS w' b (MH (XbJ j))/\(∀g,blk b j.length=some g->w.heap.size<=g)/\(blk b j.length=none\/blk b j.length=C.ownBlock):=by
  rcases MO o2 with ⟨e,q⟩|⟨g,s,e,x,_,y⟩
  ·refine⟨none,0,by rw[q];exact e,.inl ?_,λg d=>?_,.inl ?_⟩
   ·rw[AB (B.j q)];rfl
   ·rw[q]at d;cases d
   rw[q];rfl
  refine⟨_,s,e,.inr ⟨g,rfl,y⟩,λN d=>?_,?_⟩
  ·unfold blk at d;split at d
   ·cases d
   cases d;exact x
  unfold blk;split
  ·exact .inl rfl
  right;rw[e];rfl
 obtain⟨b,r,x,N,O,d⟩:=L;obtain⟨q,s,y,X,k2,k3⟩:=M;refine⟨b,r,q,s,by rw[x,y],⟨N,X,?_⟩,O,k2,S⟩;rw[A,B];rcases d with d|d
 ·exact .inl d
 rcases k3 with k3|k3
 ·exact .inr (.inl k3)
 rw[d,k3];exact G
section
@[reducible] def jc(b c:Value)(frm size n:Int):Value:=.agg #[.iface 219 (.agg #[b,c]),.int .i64 frm,.int .i64 size,.int .i64 n]
abbrev Pgs(S:Nat->ByteArray)(frm:Nat)(n:Int)(size:Nat):Type:={ x:Nat // x<size/\(MI (S (frm+x)) n).isSome=true }
def TF(S:Nat->ByteArray)(frm:Nat)(n:Int)(x:Nat):Int×Int×Int×ByteArray:=(MI (S (frm+x)) n).getD (0,0,0,empty)
theorem qe{S:Nat->ByteArray}(x:Pgs S frm n size){k l:Int}(h:TF S frm n x.1=(k,l,m,p)):MI (S (frm+x.1)) n=some (k,l,m,p):=by
 unfold TF at h;obtain⟨y,b⟩:=GS.1 x.2.2;rw[b]at h⊢;simp at h;rw[h]
def Good{S:Nat->ByteArray}{frm:Nat}{n:Int}{size:Nat}(u:Nat)(b:List (Pgs S frm n size)):Prop:=b.map Subtype.val=List.range' u b.length
theorem Good.nil{S:Nat->ByteArray}(u:Nat):Good u ([]:List (Pgs S frm n size)):=rfl
theorem Good.snoc{S:Nat->ByteArray}{u:Nat}{b:List (Pgs S frm n size)}{x:Pgs S frm n size}(h:Good u (b++[x])):Good u b/\x.1=u+b.length:=by
 unfold Good at h⊢;rw[CY,AE,EQ,List.range'_concat]at h;have:=List.append_inj h σ;exact⟨this.1,by simpa using this.2⟩
theorem Good.push{S:Nat->ByteArray}{u:Nat}{b:List (Pgs S frm n size)}{x:Pgs S frm n size}(h:Good u b)(c:x.1=u+b.length):Good u (b++[x]):=by
 unfold Good at h⊢;rw[CY,AE,EQ,List.range'_concat,h];simp[c]
def Chn{S:Nat->ByteArray}{frm:Nat}{n:Int}{size:Nat}(first:Int)(d:Scd)(u:Nat)(b:List (Pgs S frm n size))(wk wl:Int)(op:ByteArray)(c:Scd):Prop :=Good u b->u+b.length<=size/\MD S frm first n (size-(u+b.length)) (u+b.length) wk wl op c=d
section
variable {S:Nat->ByteArray} {frm:Nat} {n:Int} {size:Nat} {first:Int} {RES:Scd} {u:Nat} {pre:List (Pgs S frm n size)} {x:Pgs S frm n size} {wk wl k l m:Int} {p op:ByteArray} {out:Scd}
theorem yj{x:Nat}(c:0<=m/\m<=4294967296)(b:-9223372036854775808<=first/\first<=9223372036854775807):IntKind.i64.wrap (m-(x:Int))=first<->m=IntKind.i64.wrap (first+(x:Int)):=by
 simp[IntKind.wrap,IntKind.bits,IntKind.signed];omega
theorem Chn.no(h:Chn first RES u pre wk wl op out)(r:TF S frm n x.1=(k,l,m,p))(e:-9223372036854775808<=first/\first<=9223372036854775807)(q:¬(m=IntKind.i64.wrap (first+(x.1:Int))/\OV wk wl k l=true))(j:Good u (pre++[x])):out=RES:=by
 obtain⟨c,s⟩:=j.snoc;obtain⟨t,d⟩:=h c;have b:=qe x r;have v:=SI b;rw[<-d,<-s];refine(lj b ?_).symm;rw[yj ω e];exact q
theorem Chn.part(h:Chn first RES u pre wk wl op out)(s:TF S frm n x.1=(1,l,m,p))(q:-9223372036854775808<=first/\first<=9223372036854775807)(e:m=IntKind.i64.wrap (first+(x.1:Int)))(d:OV wk wl 1 l=true):Chn first RES u (pre++[x]) 1 l (op++p) out:=by
 intro r;obtain⟨c,t⟩:=r.snoc;obtain⟨y,j⟩:=h c;have b:=qe x s;have z:=SI b;have v:=x.2.1;rw[AE,EQ];refine⟨ω,?_⟩;rw[<-j,show size-(u+pre.length)=(size-(u+(pre.length+1)))+1 by omega,<-t,kt b ((yj ω q).2 e) d,show u+(pre.length+1)=x.1+1 by omega]
theorem Chn.end(h:Chn first RES u pre wk wl op out)(t:TF S frm n x.1=(k,l,m,p))(q:-9223372036854775808<=first/\first<=9223372036854775807)(e:m=IntKind.i64.wrap (first+(x.1:Int)))(d:OV wk wl k l=true)(s:k≠1)(r:Good u (pre++[x])):Chn first RES (x.1+1) ([]:List (Pgs S frm n size)) k l empty (if k=2 then out.1++[op++p] else out.1,(x.1:Int)+1,l):=by
 intro _;obtain⟨c,v⟩:=r.snoc;obtain⟨z,j⟩:=h c;have b:=qe x t;have A:=SI b;have y:=x.2.1;refine⟨τ,?_⟩;rw[<-j,show size-(u+pre.length)=(size-(x.1+1))+1 by omega,<-v,df b ((yj ω q).2 e) d s];simp
theorem Chn.done(h:Chn first RES u pre wk wl op out)(d:Good u pre)(b:size<=u+pre.length\/MI (S (frm+(u+pre.length))) n=none):out=RES:=by
 obtain⟨e,c⟩:=h d;rw[<-c];rcases b with b|b
 ·rw[show size-(u+pre.length)=0 by omega];rfl
 exact(ms b).symm
end
end
theorem xH(y b:Int)(j:0<=y)(l:y<=1099511627776)(d:0<=b)(h:b<=255):bits .or .u64 (IntKind.u64.wrap (y*256)) (IntKind.u64.wrap b)=y*256+b:=by
 rw[XW _ ω ω,XW _ ω ω];obtain⟨c,rfl⟩:∃c:Nat,y=(c:Int):=⟨y.toNat,ω⟩;obtain⟨C,rfl⟩:∃C:Nat,b=(C:Int):=⟨b.toNat,ω⟩;have e:((c:Int)*256)=((256*c:Nat):Int):=ω
 rw[e,bits_or_u64_nat _ _ ω ω];have:=Nat.two_pow_add_eq_or_of_lt (i:=8) (b:=C) ω c;simp only[Nat.reducePow]at this;rw[<-this];omega
theorem xd(s:ByteArray)(b:TypeId)(v:Value)(w:World)(hv:w.cell? ⟨1,0,none⟩=some (.iface b v)):Calls prog 195 #[.string s] w λe w'=>e=.returned (.iface 245 (.pointer (some ⟨w.heap.size,0,none⟩)))/\w'=w.alloc (.cells #[.string s,.iface b v] 261):=by
 go_enter func195,ntmps195;go_wp2;go_ret;exact⟨rfl,rfl⟩
theorem wJ(F o:Nat)(d:List Int)(c:Nat)(w:World)(C:∀y∈d,0<=y/\y<=255)(H:d.length<=4)(r:∀i,i<d.length->w.cell? ⟨F,o+i,none⟩=some (.int .u8 (d.getD i 0))):Calls prog 186 #[.slice (some ⟨F,o,none⟩) d.length c] w λe w'=>e=.returned (.int .u64 (MT d))/\w'=w:=by
 have s:=LN r;clear r;go_enter func186,ntmps186;go_wp2;go_loop [3,5,8] (λx _ i=>∃(k:Nat) (y:Int),k<=d.length/\i=.int .i64 (k:Int)/\x=.int .u64 y/\Hid (y=MT (d.take k))/\0<=y/\Hid (y<(256:Int) ^ k)) (λ_ _ i=>d.length-(intOf i).toNat)
 case atStart=>exact⟨0,0,AO _,rfl,rfl,by show _=_;simp[MT],ω,by show _<_;simp⟩
 case round =>
  obtain⟨k,y,G,rfl,rfl,l,B,q⟩:=hrel
  by_cases e:k<d.length
  ·have A:=s.l k e
   obtain⟨b,j⟩:∃b,d.getD k 0=b:=⟨_,rfl⟩;rw[j]at A;obtain⟨x,z⟩:0<=b/\b<=255:=by rw[<-j];exact C _ (by simp[List.getD,e])
   have D:(k:Int)<(d.length:Int):=ω
   have u:(256:Int) ^ k<=16777216:=by
    have:k=0\/k=1\/k=2\/k=3:=ω
    rcases this with h|h|h|h<;>rw[h]<;>decide
   have t:Hid (y*256+b=MT (d.take (k+1))):=by
    show _=_;rw[AX e,pn,<-l.l,<-j];simp[List.getD,e]
   have h:=xH y b B (by have:=q.l;omega) x z;have v:Hid (bits .or .u64 (IntKind.u64.wrap (y*256)) b=y*256+b):=by show _=_;rw[XW b ω ω]at h;exact h
   have aH:0<=y*256+b:=ω
   clear h;have h:Hid (y*256+b<(256:Int) ^ (k+1)):=by show _<_;rw[KP];have:=q.l;omega
   clear j u;go_wp2;go_round
   case rel=>exact⟨k+1,y*256+b,ω,ν,BY _ v.l,t.l,aH,h.l⟩
   case measure=>simp[intOf];omega
  go_wp2
  go_ret;refine⟨tH ?_,rfl⟩;rw[l.l,AV ω]
def aw(E:Addr)(o:Option (Int×Int×Int×ByteArray)):Value:=match o with
 | none=>.tuple #[NK 0 0 0 ⟨#[]⟩,.iface 245 (.pointer (some E))]
 | some (k,l,m,p)=>.tuple #[NK k l m p,.nilIface]
theorem cr(F:Nat)(d:List Int)(r:Hid (∀y∈d,0<=y/\y<=255))(o k c:Nat)(t:k<=4)(u:o+k<=d.length)(w:World)(q:Fm w F d)(b:Int)(l:b=MT ((d.drop o).take k)):Calls prog 186 #[.slice (some ⟨F,o,none⟩) k c] w λe w'=>e=.returned (.int .u64 b)/\w'=w:=by
 have j:((d.drop o).take k).length=k:=τ
 have h:=wJ F o ((d.drop o).take k) c w (λy s=>r.l y (EU (DM s))) ω (λi e=>by
  rw[q.cell (o+i) ω];rw[j]at e
  simp[List.getD,GG e,FK])
 rw[j,<-l]at h;exact h
theorem Gc(s:ByteArray)(n:Int)(w:World)(b:TypeId)(v:Value)(hv:w.cell? ⟨1,0,none⟩=some (.iface b v))(l:1<w.heap.size)(c:¬(1<=n/\n<=8)):Calls prog 192 #[.string s,.int .i64 n] w λe w'=>(∃E,e=.returned (aw E none))/\Below w.heap.size w w':=by
 have j:decide (1<=n/\n<=8)=false:=by simpa using c
 have h:∀o d,Below w.heap.size w ((w.alloc o).alloc d):=λo d=>(KW _ _).alloc σ _
 have d:∀o,(w.alloc o).cell? ⟨1,0,none⟩=some (.iface b v):=λo=>(EN _ _ _ (by exact l)).j hv
 clear c;go_enter func192,ntmps192
 go_wp2_with (first|(go_at_call 45;refine(RX _ _).A ?_;rw[j];rintro e q ⟨rfl,rfl⟩)|(go_at_call 195;refine(xd _ b v _ (d _)).A ?_;rintro e q ⟨rfl,rfl⟩))
 refine AI (v:=.tuple #[NK 0 0 0 ⟨#[]⟩,.iface 245 (.pointer (some ⟨w.heap.size+1,0,none⟩))]) (by simp[results,results192,go_sem]) rfl ⟨⟨_,rfl⟩,?_⟩;exact h _ _
theorem Fd(s:ByteArray)(n:Int)(w:World)(b:TypeId)(v:Value)(hv:w.cell? ⟨1,0,none⟩=some (.iface b v))(l:1<w.heap.size)(c:1<=n/\n<=8)(q:s.size≠64):Calls prog 192 #[.string s,.int .i64 n] w λe w'=>(∃E,e=.returned (aw E none))/\Below w.heap.size w w':=by
 have j:decide (1<=n/\n<=8)=true:=by simpa using c
 have t:((s.size:Int) != 64)=true:=τ
 have h:∀o d,Below w.heap.size w ((w.alloc o).alloc d):=λo d=>(KW _ _).alloc σ _
 have d:∀o,(w.alloc o).cell? ⟨1,0,none⟩=some (.iface b v):=λo=>(EN _ _ _ (by exact l)).j hv
 clear c q;go_enter func192,ntmps192
 go_wp2_with (first|(go_at_call 45;refine(RX _ _).A ?_;rw[j];rintro e r ⟨rfl,rfl⟩)|(go_at_call 195;refine(xd _ b v _ (d _)).A ?_;rintro e r ⟨rfl,rfl⟩))
 refine AI (v:=.tuple #[NK 0 0 0 ⟨#[]⟩,.iface 245 (.pointer (some ⟨w.heap.size+1,0,none⟩))]) (by simp[results,results192,go_sem]) rfl ⟨⟨_,rfl⟩,?_⟩;exact h _ _
structure RB(W w:World):Prop where
 size:W.heap.size+1<=w.heap.size
 bel:Below W.heap.size W w
 c0:w.cell? ⟨W.heap.size,0,none⟩=some (.int .i64 0)
 c1:w.cell? ⟨W.heap.size,1,none⟩=some (.int .i64 0)
 c2:w.cell? ⟨W.heap.size,2,none⟩=some (.int .i64 0)
 c3:w.cell? ⟨W.heap.size,3,none⟩=some (.string ⟨#[]⟩)
 f0:w.frozen? ⟨W.heap.size,0,none⟩=false
 f1:w.frozen? ⟨W.heap.size,1,none⟩=false
 f2:w.frozen? ⟨W.heap.size,2,none⟩=false
 f3:w.frozen? ⟨W.heap.size,3,none⟩=false
theorem RB.z(h:RB W w)(b:Below w.heap.size w w'):RB W w':=by
 have e:=h.size
 have c:∀i,w'.cell? ⟨W.heap.size,i,none⟩=w.cell? ⟨W.heap.size,i,none⟩:=λi=>b.cell (p:=⟨W.heap.size,i,none⟩) (by show W.heap.size<_;omega)
 have d:∀i,w'.frozen? ⟨W.heap.size,i,none⟩=w.frozen? ⟨W.heap.size,i,none⟩:=λi=>b.frozen (p:=⟨W.heap.size,i,none⟩) (by show W.heap.size<_;omega)
 exact⟨AL e b.size,h.bel.j (b.A ω),(c _).j h.c0,(c _).j h.c1,(c _).j h.c2,(c _).j h.c3,(d _).j h.f0,(d _).j h.f1,(d _).j h.f2,(d _).j h.f3⟩
theorem RB.drew(h:RB W w):RB W w.drew:=⟨h.size,h.bel.drew,h.c0,h.c1,h.c2,h.c3,h.f0,h.f1,h.f2,h.f3⟩
theorem RB.alloc(h:RB W w)(o:Obj):RB W (w.alloc o):=h.z (KW _ _)
theorem RB.new(W:World)(t:TypeId):RB W (W.alloc (.cells #[.int .i64 0,.int .i64 0,.int .i64 0,.string ⟨#[]⟩] t)):=by
 refine⟨σ,KW _ _,?_,?_,?_,?_,?_,?_,?_,?_⟩<;>first|(simp;done)|(rw[DK];exact XT _ _ _ (Y _))
theorem sk(s:ByteArray)(b:TypeId)(v:Value)(w:World)(hv:w.cell? ⟨1,0,none⟩=some (.iface b v)):Calls prog 195 #[.string s] w λe w'=>(∃E,e=.returned (.iface 245 (.pointer (some E))))/\Below w.heap.size w w' :=(xd s b v w hv).A λe w' h=>⟨⟨_,h.1⟩,by rw[h.2];exact KW _ _⟩
set_option maxRecDepth 4000 in
theorem zO(s:ByteArray)(n N:Nat)(w:World)(l:TypeId)(v:Value)(hv:w.cell? ⟨1,0,none⟩=some (.iface l v))(X:1<w.heap.size)(j:s.size=64)(h1:1<=n)(h2:n<=8)(z:(N:Int)=MT (((KU s).drop (n+7)).take 1))(aO:56<N+n)(aP:N<=255):Calls prog 192 #[.string s,.int .i64 (n:Int)] w λe w'=>(∃E,e=.returned (aw E none))/\Below w.heap.size w w':=by
 have U:decide (1<=(n:Int)/\(n:Int)<=8)=true:=τ
 have aU:(s.size:Int)=64:=ω
 have aQ:∀o,Below w.heap.size w (w.alloc o):=λo=>KW _ _
 have M:∀w',Below w.heap.size w w'->w'.cell? ⟨1,0,none⟩=some (.iface l v):=λw' b=>(b.cell (p:=⟨1,0,none⟩) X).j hv
 obtain⟨c,d⟩:∃c,Hid (c=KU s):=⟨_,LN rfl⟩;have h:c.length=64:=by rw[d.l,ME];exact j
 have aV:(c.map (Value.int .u8)).toArray.size=64:=by simp[h]
 have H:Hid (∀y∈c,0<=y/\y<=255):=by rw[d.l];exact gk s
 have D:=LN j;clear j
 have I:=λg B=>og (P:=prog) (t:=142) underlying142 (λ_=>κ) g 0 n ω .i64 (n:Int) rfl B
 obtain⟨q,hq⟩:∃q,64-n=q:=⟨_,rfl⟩;rw[hq]at I;have aT:(8:Int)<=(q:Int):=ω
 have aS:(7:Int)<=(q:Int):=ω
 have C:Hid ((N:Int)=MT ((c.drop (n+7)).take 1)):=by rw[d.l];exact LN z
 clear z;have aR:(64-(n:Int)-8)<(N:Int):=ω
 go_enter func192,ntmps192
 go_wp2_with (first|(go_at_call 45;refine(RX _ _).A ?_;rw[U];rintro e A ⟨rfl,rfl⟩)|(go_at_call 78;refine(uw _ _ ω ω).A ?_;rintro e w3 ⟨rfl,rfl⟩)|(go_at_call 92;refine(ig s _ D.l).A ?_;rw[<-d.l];rintro e A ⟨rfl,t⟩;have aH:=LN ((RB.new w _).z t);clear t)|(refine tr rfl 142 _ _ rfl c rfl rfl _ _ (.int .u8 0) (by rw[h];rfl) (by rw[h];kernel_rfl) ?_;intro B y x L;have F:=LN y;clear y;have r:=LN (aH.l.z x);clear x L)|(go_at_call 186;refine(cr A.heap.size c H (n+7) 1 _ ω ω _ F.l (N:Int) C.l).A ?_;rintro e w3 ⟨rfl,rfl⟩)|(go_at_call 195;refine(sk _ l v _ (M _ r.l.bel)).A ?_;rintro e w4 ⟨⟨E,rfl⟩,u⟩;have b:=r.l.z u;clear u;have O:=b.c0;have R:=b.c1;have S:=b.c2;have T:=b.c3;have f0:=b.f0;have f1:=b.f1;have f2:=b.f2;have f3:=b.f3;have G:=LN b;clear b))
 refine AI (v:=.tuple #[NK 0 0 0 ⟨#[]⟩,.iface 245 (.pointer (some E))]) (by simp[results,results192,go_sem,O,R,S,T]) rfl ⟨⟨E,rfl⟩,?_⟩;exact(((G.l.bel.setCell (Y _) _).setCell (Y _) _).setCell (Y _) _).setCell (Y _) _
theorem yu{l:Func}{p u:Tmp}{j:TypeId}(h:l.results=#[.cell p j,.tmp u])(c:Array Value)(w:World)(b o:Nat)(v:c.getD p undef=.pointer (some ⟨b,o,none⟩))
  (e:List Value)(d:TypeDesc)(q:w.rangeAt b o e)(x:P.underlying j=some d)(r:d.isRow=true)(s:(P.info? j).map (·.size)=some e.length):(results l c).run P w=.ok (.tuple #[.agg e.toArray,c.getD u undef]) w:=by
 have t:=IT (P:=P) w b o j e d q x r s;rw[results_cell_tmp h];simp[v,asAddr,t,Result.andThen]
set_option maxRecDepth 100000 in
theorem Gd(g n c m:Nat)(b:List (List Int))(w:World)(l:PR w g b)(u:b.length=n)(aH:n<=200)(v:m<n):Calls prog 221 #[.slice (some ⟨g,0,none⟩) n c,.int .i64 (m:Int)] w λe w'=>e=.returned (.tuple #[.agg ((b.getD m []).map (Value.int .u8)).toArray,.bool true])/\Below w.heap.size w w':=by
 have e:∀o,(w.alloc o).rangeAt g (m*64) ((b.getD m []).map (Value.int .u8)):=λo=>(l.z (MF w o)).range (k:=m) ω
 have d:=cj l.len (k:=m) ω;obtain⟨x,q⟩:∃x,Hid (x=b.getD m []):=⟨_,Z rfl⟩;rw[<-q.l]at e d⊢;have j:(x.map (Value.int .u8)).toArray.size=64:=by simp[d]
 have h:Hid ((prog.info? 142).map (·.size)=some (x.map (Value.int .u8)).length):=by show _=_;rw[BP,d];kernel_rfl
 have r:=Z e;have s:¬((m:Int)<0):=ω
 have t:¬(n<=m):=ω
 clear e;go_enter func221,ntmps221
 go_wp2_with (first|(with_reducible refine YY 142 _ rfl ?_;refine AS rfl 142 _ rfl g (m*64) rfl (x.map (Value.int .u8)) _ (by exact r.l _) underlying142 rfl h.l ?_)|(with_reducible refine XC 142 _ _ rfl ?_;refine BI rfl 142 _ _ rfl w.heap.size 0 (x.map (Value.int .u8)).toArray rfl rfl (by rw[j];exact(LU w _ _).there κ) (by rw[j];kernel_rfl) (GA (VR x)) ?_))
 refine AI (v:=.tuple #[.agg (x.map (Value.int .u8)).toArray,.bool true]) (yu (p:=4) (u:=5) results221 _ _ w.heap.size 0 rfl (x.map (Value.int .u8)) _ (DY _ _ _ _ (by rw[BP,d];exact(LU w _ _).there κ)) underlying142 rfl h.l) rfl ⟨rfl,?_⟩;exact Go.below_setCells (Y _) _ _ _ (MF _ _)
set_option maxRecDepth 100000 in
theorem rdr(a b:Option Addr)(n c h d:Nat)(w:World):Calls prog 127 #[.agg #[.slice a n c,.slice b h d]] w λe w'=>e=.returned (.iface 219 (.agg #[.slice b h d,.iface 100 (.slice a n c)]))/\Below w.heap.size w w':=by
 go_enter func127,ntmps127;go_wp2;go_ret;exact⟨rfl,MF _ _⟩
theorem ra(v:Int)(b:0<=v)(c:v<256):MT (be 1 v)=v:=by
 simp[be,FA,sh,MT];omega
theorem Fu(v:Int)(b:0<=v)(c:v<65536):MT (be 2 v)=v:=by
 simp[be,FA,sh,MT];omega
theorem nW(v:Int)(b:0<=v)(c:v<4294967296):MT (be 4 v)=v:=by
 simp[be,FA,sh,MT];omega
theorem Jc(k l m:Int)(p:ByteArray)(n:Nat)(s:ByteArray)(S:s.size=64)(R:n<=8)(U:p.size+n<=56)(C:0<=k)(D:k<256)(F:0<=l)(G:l<65536)(H:0<=m)(I:m<4294967296)
  (N:(KU s).drop n=PK k l m p n){b:ByteArray}(O:b=s.extract n 64):rpN b=p.size/\SW b=k/\UF b=l/\UG b=m/\TO b=p:=by
 obtain⟨M,r,t,u,v⟩:=rJ s n S R O
 have d:∀i,(KU s).drop (n+i)=(PK k l m p n).drop i:=λi=>by rw[<-N,FO]
 have y:(be 1 k).length=1:=OL _ _;have z:(be 2 l).length=2:=OL _ _;have A:(be 4 m).length=4:=OL _ _;have B:(be 1 (p.size:Int)).length=1:=OL _ _;have T:(KU p).length=p.size:=ME p
 have q:PK k l m p n=be 1 k++(be 2 l++(be 4 m++(be 1 (p.size:Int)++(KU p++List.replicate (56-n-p.size) 0)))):=by
  unfold PK VT;simp only[BN]
 have c:=d 0;rw[FX,FJ]at c;have e:(PK k l m p n).drop 1=be 2 l++(be 4 m++(be 1 (p.size:Int)++(KU p++List.replicate (56-n-p.size) 0))):=by rw[q,EY y]
 have h:(PK k l m p n).drop 3=be 4 m++(be 1 (p.size:Int)++(KU p++List.replicate (56-n-p.size) 0)):=by
  have:(PK k l m p n).drop 3=((PK k l m p n).drop 1).drop 2:=by rw[FO]
  rw[this,e,EY z]
 have j:(PK k l m p n).drop 7=be 1 (p.size:Int)++(KU p++List.replicate (56-n-p.size) 0):=by
  have:(PK k l m p n).drop 7=((PK k l m p n).drop 3).drop 4:=by rw[FO]
  rw[this,h,EY A]
 have L:(PK k l m p n).drop 8=KU p++List.replicate (56-n-p.size) 0:=by
  have:(PK k l m p n).drop 8=((PK k l m p n).drop 7).drop 1:=by rw[FO]
  rw[this,j,EY B]
 rw[d 7,j,EK B,ra _ ω ω]at M;have x:rpN b=p.size:=ω
 rw[c,q,EK y,ra _ C D]at r;rw[d 1,e,EK z,Fu _ F G]at t;rw[d 3,h,EK A,nW _ H I]at u;rw[d 8,L,x,EK T,TI]at v;exact⟨x,r,t,u,v⟩
theorem Cp(k l m:Int)(p:ByteArray)(n:Nat):(KU (RJ k l m p n)).drop n=PK k l m p n:=by
 unfold RJ;rw[rh,EY (by rw[ME,ia]),kp _ (nB k l m p n)]
theorem ti(k l m:Int)(p:ByteArray)(n:Nat)(h:MN k l m p (n:Int)=true):MI (RJ k l m p n) (n:Int)=some (k,l,m,p):=by
 have s:=AU (by unfold MN at h;exact h);obtain⟨q,r,u,v,x,y,z,A,B,_⟩:=s;have j:=aa k l m p n ω;obtain⟨a,b,c,d,e⟩:=Jc k l m p n _ j ω ω ω ω ω ω ω ω (Cp k l m p n) rfl;unfold MI;rw[BM,a,b,c,d,e];have t:LS k l m p (n:Int)=RJ k l m p n:=by unfold LS;rw[h,AF rfl,BM]
 rw[AF ⟨q,r,j,ω,t⟩]
theorem sM(s:ByteArray)(a b:Nat)(h:a<=b):s.extract 0 a++s.extract a b=s.extract 0 b:=by
 apply EP
 rw[ByteArray.data_append,EL,EL,EL];rw[Array.extract_append_extract];simp[Nat.min_eq_left,Nat.max_eq_right h]
theorem Iq(s:ByteArray)(b:Nat)(h:s.size<=b):s.extract 0 b=s:=by
 apply EP
 rw[EL];exact Array.extract_eq_self_of_le h
theorem xC(l m:Nat)(b:0<m):l<=NA l m*m:=by
 unfold NA
 split
 ·omega
 rename_i h
 have:=Nat.div_add_mod (l-1) m;have c:=Nat.mod_lt (l-1) b;rw[GD,Nat.mul_comm];omega
theorem ur(e:ByteArray)(b f:Int)(n m N k:Nat)(l:n+m=56)(q:1<=n/\n<=8)(j:1<=b/\b<=60000)(d:1<=f+(k:Int)/\f+(k:Int)<=1000000000):MI (TM e b f n m N k) (n:Int)=some (if k+1=N then 2 else 1,b,f+(k:Int),e.extract (k*m) (k*m+m)):=by
 have r:(e.extract (k*m) (k*m+m)).size<=m:=by rw[AK];omega
 have c:MN (if k+1=N then 2 else 1) b (f+(k:Int)) (e.extract (k*m) (k*m+m)) (n:Int)=true:=by
  unfold MN;rw[BC]
  split
  ·refine⟨ω,ω,ω,ω,ω,ω,ω,ω,ω,λh=>ω⟩
  refine⟨ω,ω,ω,ω,ω,ω,ω,ω,ω,λh=>ω⟩
 unfold TM LS;rw[AF c,BM];exact ti _ _ _ _ n c
theorem xw(first:Int)(b:-9223372036854775808<=first/\first<=9223372036854775807)(i k:Nat):IntKind.i64.wrap (first+(i:Int)+(k:Int)-((i+k:Nat):Int))=first:=by
 have:first+(i:Int)+(k:Int)-((i+k:Nat):Int)=first:=ω
 rw[this];simp[IntKind.wrap,IntKind.bits,IntKind.signed];omega
theorem mJ(S:Nat->ByteArray)(frm:Nat)(first:Int)(n m:Nat)(e:ByteArray)(c:Int)(N i:Nat)(y:n+m=56)(z:1<=n/\n<=8)(x:1<=c/\c<=60000)(s:-9223372036854775808<=first/\first<=9223372036854775807)(B:1<=first+(i:Int)/\first+(i:Int)+(N:Int)<=1000000001)(u:N=NA e.size m)
  (v:∀k,k<N->S (frm+(i+k))=TM e c (first+(i:Int)) n m N k)(f:Nat)(d:Scd):∀(j k:Nat) (wk wl:Int),k+j=N->0<j->(k=0->wk≠1/\wl<=c)->(0<k->wk=1/\wl=c) ->
   MD S frm first (n:Int) (j+f) (i+k) wk wl (e.extract 0 (k*m)) d=MD S frm first (n:Int) f (i+N) 2 c empty (d.1++[e],((i+N:Nat):Int),c)
 | 0,_,_,_,_,h,_,_=>absurd h ω
 | j+1,k,wk,wl,hk,_,h0,h1=>by
  have q:=ur e c (first+(i:Int)) n m N k y z x ω
  rw[<-v k ω]at q
  have A:=xw first s i k
  have l:∀b:Int,b=1\/b=2->OV wk wl b c=true:=λb t=>by
   unfold OV
   by_cases r:k=0
   ·obtain⟨a,b⟩:=h0 r
    rcases t with rfl|rfl<;>simp[a,b]
   obtain⟨a,b⟩:=h1 ω
   subst a b;rcases t with rfl|rfl<;>simp
  rw[show j+1+f=(j+f)+1 by omega]
  by_cases b:k+1=N
  ·have t:j=0:=ω
   subst t;rw[AF b]at q;rw[df q A (l 2 (.inr rfl)) δ,AF rfl,sM _ _ _ ω]
   have r:e.size<=k*m+m:=by
    have:=xC e.size m ω;rw[<-u,<-b,GD]at this;omega
   rw[Iq _ _ r,show i+k+1=i+N by omega,BH]
   congr 2
   rw[<-b]
   congr 1
  rw[AG b]at q
  rw[kt q A (l 1 (.inl rfl)),sM _ _ _ ω,show k*m+m=(k+1)*m by rw[GD];omega,show i+k+1=i+(k+1) by omega]
  exact mJ S frm first n m e c N i y z x s B u v f d j (k+1) 1 c ω ω (λh=>ω) (λ_=>⟨rfl,rfl⟩)
theorem Jr(S:Nat->ByteArray)(frm:Nat)(first:Int)(n m:Nat)(e:ByteArray)(b:Int)(N i:Nat)(u:n+m=56)(v:1<=n/\n<=8)(t:1<=b/\b<=60000)(j:-9223372036854775808<=first/\first<=9223372036854775807)(s:1<=first+(i:Int)/\first+(i:Int)+(N:Int)<=1000000001)(d:N=NA e.size m)
  (r:∀k,k<N->S (frm+(i+k))=TM e b (first+(i:Int)) n m N k)(f:Nat)(c:Scd)(wk wl:Int)(l:wk≠1)(q:wl<=b):MD S frm first (n:Int) (N+f) i wk wl empty c=MD S frm first (n:Int) f (i+N) 2 b empty (c.1++[e],((i+N:Nat):Int),b):=by
 have:=mJ S frm first n m e b N i u v t j s d r f c N 0 wk wl ω (by rw[d];exact uj _ _) (λ_=>⟨l,q⟩) (λh=>ω)
 rw[FX]at this;rw[<-this]
 congr 1
 apply EP
 simp[EL]
theorem oY:∀(ws:List (Int×ByteArray)) (x:Int×ByteArray) (ss:List ByteArray),xhE (ws++[x]) ss=(xhE ws ss).set x.1.toNat x.2
 | [],x,ss=>rfl
 | y::r,x,ss=>by
  show xhE (r++[x]) (ss.set y.1.toNat y.2)=_;rw[oY r x];rfl
theorem yd(e:ByteArray)(l f:Int)(n m N k:Nat)(h:k<N):(PG e l f n m N N).getD k empty=TM e l f n m N k:=by simp[PG,List.getD,h]
theorem Ic(n:Int):MI (strOfNums (List.replicate 64 0)) n=none:=by
 apply YV
 rintro⟨e,h,c,j,b⟩
 have d:SW ((strOfNums (List.replicate 64 0)).extract n.toNat 64)=0:=by
  obtain⟨k,rfl⟩:∃k:Nat,n=(k:Int):=⟨n.toNat,ω⟩;have:k=1\/k=2\/k=3\/k=4\/k=5\/k=6\/k=7\/k=8:=ω
  rcases this with rfl|rfl|rfl|rfl|rfl|rfl|rfl|rfl<;>decide
 rw[d]at b;unfold LS at b;rw[AG (by unfold MN;simp)]at b;have:=BY ByteArray.size b;rw[c]at this;exact absurd this δ
theorem Fs(n:Nat)(w:World)(T:8<=n)(F:n<=200):Calls prog 46 #[.int .i64 (n:Int)] w λe w'=>∃g c b d,e=.returned (LE (some ⟨g,0,none⟩) n c b 0 d)/\w.heap.size<=g/\Row w' g ((List.replicate n LM).map Value.string)/\Below w.heap.size w w':=by
 have aH:(8:Int)<=(n:Int):=ω
 have C:(n:Int)<=200:=ω
 have G:decide (8<=(n:Int)/\(n:Int)<=200)=true:=AM ⟨aH,C⟩;go_enter func46,ntmps46
 go_wp2_with (first|(go_at_call 44;refine(jj _ _).A ?_;rw[G];rintro e w' ⟨rfl,rfl⟩)|(at_make;refine yi rfl _ _ 100 rfl 142 _ 64 64 underlying100 uU n rfl rfl ω ω ?_;intro z d l O;rw[pL]at d))
 have h:Below (w.alloc (.cells #[.slice none 0 0,.slice none 0 0] 26)).heap.size (w.alloc (.cells #[.slice none 0 0,.slice none 0 0] 26)) z:=by first|exact l|simpa using l
 simp only[BB]at d;have c:=(xB d).z ((AC _ _).alloc (Y _) (.cells #[.slice (some ⟨w.heap.size+1,0,none⟩) n n,.slice none 0 0] 103));refine(nh (some ⟨w.heap.size+1,0,none⟩) (List.replicate n (List.replicate 64 0)) n n none [] 0 0 σ rfl _ c (.inl rfl) F ω (λp c=>by rw[List.eq_of_mem_replicate c];simp) (λp c=>by simp at c)).A ?_;rintro e j ⟨L,v,r,x,rfl,y,u,D,t⟩;have b:=h.j (((AC _ _).alloc (Y _) _).j (t.A σ) |>.A h.size);have N:w.heap.size+1<=z.heap.size:=by have:=h.size;simpa using this
 obtain⟨g,rfl,q⟩:=y.s.resolve_left (it (by simp[ND];omega));have M:w.heap.size+1<=g:=by have:=u g (MS g 0 n ω);simp at this;omega
 have s:ND (List.replicate n (List.replicate 64 0))=List.replicate n LM:=by simp[ND,LM]
 rw[s]at q;have H:j.cell? ⟨w.heap.size,0,none⟩=some (.slice none 0 0):=(b.cell (p:=⟨w.heap.size,0,none⟩) σ).j γ;have I:j.cell? ⟨w.heap.size,1,none⟩=some (.slice none 0 0):=(b.cell (p:=⟨w.heap.size,1,none⟩) σ).j γ;have R:j.frozen? ⟨w.heap.size,0,none⟩=false:=(b.frozen (p:=⟨w.heap.size,0,none⟩) σ).j γ;have S:j.frozen? ⟨w.heap.size,1,none⟩=false:=(b.frozen (p:=⟨w.heap.size,1,none⟩) σ).j γ;have B:=Z q;have A:=Z (((AC w.heap.size w).alloc (Y _) (.cells #[.slice none 0 0,.slice none 0 0] 26)).j (b.A σ));clear b t y u D c d h l q s;go_wp2;refine AI (v:=LE (some ⟨g,0,none⟩) n v r 0 x) (by simp[results,results46,go_sem,H,I]) rfl ⟨g,v,r,x,rfl,ω,?_,?_⟩
 ·exact(B.l.other _ (by show w.heap.size≠g;omega) _).other _ (by show w.heap.size≠g;omega) _
 exact(A.l.setCell (Y _) _).setCell (Y _) _
