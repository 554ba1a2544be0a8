import Derived.Test.YthcfgbpailnahaaGreatDoorPrAr
import Derived.Test.YthcfgbpailnahaaGreatDoorPrG28
import Derived.Test.YthcfgbpailnahaaGreatDoorPrG27
import Derived.Test.YthcfgbpailnahaaGreatDoorPrG43
import Derived.Deep.Onto
import Derived.Laws.IdiomCopy
import Derived.Great.BuildSlice
import Derived.Laws.ResultCell
set_option maxHeartbeats 16000000
set_option maxRecDepth 8000
set_option linter.all false
namespace Go.Proofs.YthcfgbpailnahaaGreatDoor
open _root_.ByteArray(empty)
open Tryz
open Go.RowKit
variable {K:Act->World->Prop}{aB aH:Array Oper}{Q:Exit->Act->World->Prop}{fn:Func}{aA:List Oper}{cs:List Value}{X c e g k n:Nat}{o op:Oper}{a b:Option Addr}{r:Option Nat}{P:Program}{E:Prop}{w w' w1:World}
abbrev NM:=Bool×Int×ByteArray
def Ops(w:World)(a:Option Addr)(rs:List (Bool×Int×ByteArray)):Prop :=rs=[]\/∃b o,a=some ⟨b,o,none⟩/\b<w.heap.size/\∀i,i<rs.length->w.cell? ⟨b,o+i*3,none⟩=some (.bool (rs.getD i (false,0,empty)).1)/\w.cell? ⟨b,o+i*3+1,none⟩=some (.int .i64 (rs.getD i (false,0,empty)).2.1)/\w.cell? ⟨b,o+i*3+2,none⟩=some (.string (rs.getD i (false,0,empty)).2.2)
def Ops.I{rs:List (Bool×Int×ByteArray)}(h:Ops w a rs)(hb:Below w.heap.size w w'):Ops w' a rs:=by
 rcases h with h|⟨b,o,h1,h2,h3⟩
 ·exact .inl h
 exact .inr ⟨b,o,h1,AD h2 hb.size,λi hi=>⟨(hb.cell (p:=⟨b,o+i*3,none⟩) h2).j (h3 i hi).1,(hb.cell (p:=⟨b,o+i*3+1,none⟩) h2).j (h3 i hi).2.1,(hb.cell (p:=⟨b,o+i*3+2,none⟩) h2).j (h3 i hi).2.2⟩⟩
def Ops.at{rs:List (Bool×Int×ByteArray)}(h:Ops w a rs)(hk:k<rs.length):∃b o g0 n1 s2,a=some ⟨b,o,none⟩/\w.cell? ⟨b,o+k*3,none⟩=some (.bool g0)/\w.cell? ⟨b,o+k*3+1,none⟩=some (.int .i64 n1)/\w.cell? ⟨b,o+k*3+2,none⟩=some (.string s2)/\Hid ((g0,n1,s2)=rs.getD k (false,0,empty)):=by
 rcases h with h|⟨b,o,h1,h2,h3⟩
 ·subst h;simp at hk
 exact⟨b,o,_,_,_,h1,(h3 k hk).1,(h3 k hk).2.1,(h3 k hk).2.2,LE rfl⟩
def MW(rs:List (Bool×Int×ByteArray)):List Value:=rs.flatMap λx=>[.bool x.1,.int .i64 x.2.1,.string x.2.2]
def cu(a b:List (Bool×Int×ByteArray)):MW (a++b)=MW a++MW b:=by simp[MW]
def sj(rs:List (Bool×Int×ByteArray)):(MW rs).length=rs.length*3:=by
 induction rs with
 | nil=>rfl
 | cons x r ih=>simp[MW]at ih⊢;omega
def ix:∀(rs:List (Bool×Int×ByteArray)) (i:Nat),i<rs.length->(MW rs)[i*3]?=some (.bool (rs.getD i (false,0,empty)).1)/\(MW rs)[i*3+1]?=some (.int .i64 (rs.getD i (false,0,empty)).2.1)/\(MW rs)[i*3+2]?=some (.string (rs.getD i (false,0,empty)).2.2)
 | x::r,0,_=>by simp[MW]
 | x::r,i+1,h=>by
  have ih:=ix r i (by simpa using h);have e:MW (x::r)=.bool x.1::.int .i64 x.2.1::.string x.2.2::MW r:=by simp[MW]
  rw[e,show(i+1)*3=i*3+3 by omega];simpa using ih
def Row.ops{rs:List (Bool×Int×ByteArray)}(h:Row w g (MW rs)):Ops w (some ⟨g,0,none⟩) rs :=.inr ⟨g,0,rfl,h.lt,λi hi=>by
  rw[BF]
  exact⟨h.cell _ _ (ix rs i hi).1,h.cell _ _ (ix rs i hi).2.1,h.cell _ _ (ix rs i hi).2.2⟩⟩
structure Dd where
 (C W S L T H F R U O:Int)
 rs:List Pr
 ops:List NM
def MQ(d:Dd)(a:Option Addr)(c:Nat)(b:Option Addr)(e:Nat):Value:=.agg #[.int .i64 d.C,.int .i64 d.W,.int .i64 d.S,.int .i64 d.L,.int .i64 d.T,.int .i64 d.H,.int .i64 d.F,.int .i64 d.R,.int .i64 d.U,.int .i64 d.O,.slice a d.rs.length c,.slice b d.ops.length e]
def XM(a:Option Addr)(n:Nat)(b:Option Addr)(m:Nat):Prop:=blk a n=none\/blk b m=none\/blk a n≠blk b m
structure OwnDn(w:World)(rs:List Pr)(ops:List NM)(a b:Option Addr):Prop where
 s:OwnS w a (LI rs)
 p:OwnS w b (MW ops)
 ne:XM a rs.length b ops.length
def OwnDn.I{rs:List Pr}{aA:List NM}(h:OwnDn w rs aA a b)(hb:Below w.heap.size w w'):OwnDn w' rs aA a b:=⟨h.s.I hb,h.p.I hb,h.ne⟩
def OwnS.prs{rs:List Pr}(h:OwnS w a (LI rs)):Prs w a rs:=by
 rcases h with h|⟨g,rfl,h⟩
 ·exact .inl (by have:=BT List.length h;rw[RC,AR]at this;exact AC (by omega))
 exact h.prs
def OwnS.ops{rs:List NM}(h:OwnS w a (MW rs)):Ops w a rs:=by
 rcases h with h|⟨g,rfl,h⟩
 ·exact .inl (by have:=BT List.length h;rw[sj,AR]at this;exact AC (by omega))
 exact h.ops
def YE{rs:List Pr}(h:rs.length≠0):LI rs≠[]:=λe=>h (by have:=BT List.length e;rw[RC,AR]at this;omega)
def nP{rs:List NM}(h:rs.length≠0):MW rs≠[]:=λe=>h (by have:=BT List.length e;rw[sj,AR]at this;omega)
def QG{rs:List Pr}(h:LI rs≠[]):rs.length≠0:=λe=>h (by rw[AC e];rfl)
def dt{rs:List NM}(h:MW rs≠[]):rs.length≠0:=λe=>h (by rw[AC e];rfl)
def RO(w w':World)(x:Ending)(d:Dd):Prop:=∃a c b e,x=.returned (MQ d a c b e)/\d.rs.length<=c/\OwnDn w' d.rs d.ops a b/\(∀g,blk a d.rs.length=some g->w.heap.size<=g)/\(∀g,blk b d.ops.length=some g->w.heap.size<=g)/\Below w.heap.size w w'
def LT(C:Int):Dd:=⟨C,0,0,0,0,0,0,0,0,0,[],[]⟩
def OwnS.set'(h:OwnS w a cs)(p:Addr)(hp:∀g,a=some ⟨g,0,none⟩->cs≠[]->p.block≠g)(v:Value):OwnS (w.setCell p v) a cs:=by
 by_cases h0:cs=[]
 ·exact .inl h0
 obtain⟨g,rfl,hr⟩:=h.resolve_left h0
 exact .inr ⟨g,rfl,hr.other p (hp g rfl h0) v⟩
def OwnS.alloc'(h:OwnS w a cs)(o:Obj):OwnS (w.alloc o) a cs:=h.I (LG _ _)
def ZF{A:Array Value}{t:TypeId}(hg:w.heap.size=g):Row (w.alloc (.cells A t)) g A.toList:=by subst hg;exact ME w A t
def Cb{x:Ending}{C:Int}(hx:x=.returned (MQ (LT C) a c b e))(hb:Below w.heap.size w w'):RO w w' x (LT C) :=⟨a,c,b,e,hx,AH _,⟨.inl rfl,.inl rfl,.inl rfl⟩,λg h=>(by cases h),λg h=>(by cases h),hb⟩
def OwnS.drew'(h:OwnS w a cs):OwnS w.drew a cs:=h.I (AB _ _).drew
def Dsk.start(w:World)(t1 t2 e e':TypeId):Dsk w ((w.alloc (.cells #[.slice none 0 0,.slice none 0 0] t1)).alloc (.cells #[.slice none 0 0,.slice none 0 0] t2)) w.heap.size (w.heap.size+1) (w.heap.size+1+1) e e' (.slice none 0 0) (.slice none 0 0) [] []:=by
 have hb:Below w.heap.size w ((w.alloc (.cells #[.slice none 0 0,.slice none 0 0] t1)).alloc (.cells #[.slice none 0 0,.slice none 0 0] t2)):=(LG _ _).alloc (by simp) _;have r1:=(ME w #[.slice none 0 0,.slice none 0 0] t1).alloc (.cells #[.slice none 0 0,.slice none 0 0] t2);have r2:=ME (w.alloc (.cells #[.slice none 0 0,.slice none 0 0] t1)) #[.slice none 0 0,.slice none 0 0] t2;simp only[AU]at r2;exact⟨AA _,by omega,by omega,by omega,by omega,by simp,hb,r1.x 0,r1.x 1,r1.q 0,r1.q 1,r2.x 0,r2.x 1,r2.q 0,r2.q 1,BZ _ _ _ _,BZ _ _ _ _,.inl rfl⟩
def XW{e:TypeId}{z:Value}{size aA:Nat}(h:(P.info? e).map (λi=>(i.zero,i.size,i.bytes))=some (some z,size,aA)):∃i,P.info? e=some i/\i.zero=some z/\i.size=size/\i.bytes=aA:=by
 obtain⟨i,hi,hh⟩:=EF.1 h;simp only[EA]at hh;exact⟨i,hi,hh⟩
def WL{a:Act}(ty:TypeId)(x:Operand)(aC:op.op=.load ty x)(h:wpList P aB Q (op::aA) a w):wpList P aB Q (op::aA) a w:=h
def UX{a:Act}(ty:TypeId)(x y:Operand)(aC:op.op=.store ty x y)(h:wpList P aB Q (op::aA) a w):wpList P aB Q (op::aA) a w:=h
def Plt(w:World)(a:Option Addr)(ps:List (List Int)):Prop :=ps=[]\/∃b o,a=some ⟨b,o,none⟩/\b<w.heap.size/\∀i,i<ps.length->w.rangeAt b (o+i*64) ((ps.getD i []).map (Value.int .u8))
def Hld(w:World)(a:Option Addr)(hs:List (Int×List Int)):Prop :=hs=[]\/∃b o,a=some ⟨b,o,none⟩/\b<w.heap.size/\∀i,i<hs.length->w.rangeAt b (o+i*65) (.int .i64 (hs.getD i (0,[])).1::(hs.getD i (0,[])).2.map (Value.int .u8))
def nK{b o:Nat}(h:w.rangeAt b o cs)(hb:Below w.heap.size w w')(aA:b<w.heap.size):w'.rangeAt b o cs:=λj v hv=>(hb.cell (p:=⟨b,o+j,none⟩) aA).j (h j v hv)
def Plt.I{ps:List (List Int)}(h:Plt w a ps)(hb:Below w.heap.size w w'):Plt w' a ps:=by
 rcases h with h|⟨b,o,h1,h2,h3⟩
 ·exact .inl h
 exact .inr ⟨b,o,h1,AD h2 hb.size,λi hi=>nK (h3 i hi) hb h2⟩
def Hld.I{hs:List (Int×List Int)}(h:Hld w a hs)(hb:Below w.heap.size w w'):Hld w' a hs:=by
 rcases h with h|⟨b,o,h1,h2,h3⟩
 ·exact .inl h
 exact .inr ⟨b,o,h1,AD h2 hb.size,λi hi=>nK (h3 i hi) hb h2⟩
def Plt.at{ps:List (List Int)}(h:Plt w a ps)(hk:k<ps.length):∃b o x,a=some ⟨b,o,none⟩/\b<w.heap.size/\w.rangeAt b (o+k*64) (x.map (Value.int .u8))/\Hid (x=ps.getD k []):=by
 rcases h with h|⟨b,o,h1,h2,h3⟩
 ·subst h;simp at hk
 exact⟨b,o,_,h1,h2,h3 k hk,LE rfl⟩
def Hld.at{hs:List (Int×List Int)}(h:Hld w a hs)(hk:k<hs.length):∃b o n x,a=some ⟨b,o,none⟩/\b<w.heap.size/\w.rangeAt b (o+k*65) (.int .i64 n::x.map (Value.int .u8))/\Hid ((n,x)=hs.getD k (0,[])):=by
 rcases h with h|⟨b,o,h1,h2,h3⟩
 ·subst h;simp at hk
 exact⟨b,o,_,_,h1,h2,h3 k hk,LE rfl⟩
def bw(n:Int)(xs:List Int):∀v∈Value.int .i64 n::xs.map (Value.int .u8),v.oneCell'=true:=λv hv=>by
 rcases DK.1 hv with rfl|hv
 ·rfl
 exact UA xs v hv
def Hv(w:World)(A:Array Value)(t:TypeId):(w.alloc (.cells A t)).there w.heap.size 0 A.size:=λj hj=>by
 rw[BF,DT _ _ _ _ rfl,DH];exact⟨by simp[hj],VN _ _ _ (AA _)⟩
def ZA{aC:Array Oper}{a:Act}(aD:op.guard=none)(ty:TypeId)(x y:Operand)(ho:op.op=.store ty x y)
  (cs:List Value)(h1:∀v∈cs,v.oneCell'=true)(hx:a.eval x=.pointer (some ⟨w.heap.size,0,none⟩))(hy:a.eval y=.agg cs.toArray)(A:Array Value)(t:TypeId)(hA:A.size=cs.length)
  (hi:(P.info? ty).map (·.size)=some cs.length)
  (h:∀wx,Row wx w.heap.size cs->Below w.heap.size w wx->wx.heap.size=w.heap.size+1->wpList P aC Q aA (a.put op.dst undef) wx):wpList P aC Q (op::aA) a (w.alloc (.cells A t)):=by
 have aB:=Hv w A t;rw[hA]at aB;have hz:cs.toArray.size=cs.length:=by simp
 refine BI aD ty x y ho w.heap.size 0 _ hx hy (by rw[hz];exact aB) (by rw[hz];exact hi) (FQ h1) ?_;have hr:=DS (w.alloc (.cells A t)) w.heap.size 0 cs aB;refine h _ ⟨by rw[TL];simp,λi v hv=>?_,λi hi=>?_⟩ (Go.below_setCells (AA _) _ _ _ (LG _ _)) (by rw[TL];simp)
 ·have:=hr i v hv
  simpa using this
 rw[EG,DH];exact VN _ _ _ (AA _)
def Row.text(h:Row w g cs)(xs:List Int)(o n cap:Nat)(hx:xs.length=n)(hc:∀i,i<n->cs[o+i]?=some (.int .u8 (xs.getD i 0)))(aB e aA:TypeId)(hs:P.underlying aB=some (.slice e))(he:P.underlying e=some (.int .u8))(hd:P.underlying aA=some .string):(convert aB aA (.slice (some ⟨g,o,none⟩) n cap)).run P w=.ok (.string (strOfNums xs)) w :=Za (P:=P) w aB e hs he g o n cap xs hx (λi hi=>h.cell _ _ (hc i hi)) aA hd
def Dsk.start3(w:World)(c0 c1:Value)(t0 t1 t2 e e':TypeId):Dsk w (((w.alloc (.cells #[c0,c1] t0)).alloc (.cells #[.slice none 0 0,.slice none 0 0] t1)).alloc (.cells #[.slice none 0 0,.slice none 0 0] t2)) (w.heap.size+1) (w.heap.size+1+1) (w.heap.size+1+1+1) e e' (.slice none 0 0) (.slice none 0 0) [] []:=by
 have hb:Below w.heap.size w (((w.alloc (.cells #[c0,c1] t0)).alloc (.cells #[.slice none 0 0,.slice none 0 0] t1)).alloc (.cells #[.slice none 0 0,.slice none 0 0] t2)):=((LG _ _).alloc (by simp) _).alloc (by simp;omega) _;have r1:=(ME (w.alloc (.cells #[c0,c1] t0)) #[.slice none 0 0,.slice none 0 0] t1).alloc (.cells #[.slice none 0 0,.slice none 0 0] t2);have r2:=ME ((w.alloc (.cells #[c0,c1] t0)).alloc (.cells #[.slice none 0 0,.slice none 0 0] t1)) #[.slice none 0 0,.slice none 0 0] t2;simp only[AU]at r1 r2;exact⟨by omega,by omega,by omega,by omega,by omega,by simp,hb,r1.x 0,r1.x 1,r1.q 0,r1.q 1,r2.x 0,r2.x 1,r2.q 0,r2.q 1,BZ _ _ _ _,BZ _ _ _ _,.inl rfl⟩
def Dsk.far{W:World}{R D base:Nat}{e e':TypeId}{v v':Value}{ss:List ByteArray}{ws:List (Int×ByteArray)}(h:Dsk W w R D base e e' v v' ss ws)(hg:w.grownBy w1 v.ownBlock)(b i j:Nat)(hb:b<base)(hn:b≠D)(u:Value):(w1.setCell ⟨D,j,none⟩ u).cell? ⟨b,i,none⟩=w.cell? ⟨b,i,none⟩:=by
 have lb:b<w.heap.size:=AD hb h.sz
 have nb:some b≠v.ownBlock:=λhe=>by have:=(h.own.lt b he.symm).1;omega
 rw[BW (w:=w1) (h:=show(⟨D,j,none⟩:Addr)≠⟨b,i,none⟩ fromλhe=>hn (by injection he with h1;exact h1.symm))];exact hg.cell_far ⟨b,i,none⟩ lb nb
def NK(ps:List (List Int)):List ByteArray:=ps.map strOfNums
def XbJ(hs:List (Int×List Int)):List (Int×ByteArray):=hs.map λx=>(x.1,strOfNums x.2)
def WY:Array Value:=#[.int .i64 0]++Array.replicate 64 (.int .u8 0)
def cn(w:World):(zeroValue 171).run prog w=.ok (.agg WY) w:=by kernel_rfl
def D3(ps:List (List Int))(k:Nat)(h:k<ps.length):NK (ps.take (k+1))=NK (ps.take k)++[strOfNums (ps.getD k [])]:=by
 unfold NK;rw[AQ h,BK];simp[List.getD,h]
def zP(hs:List (Int×List Int))(k:Nat)(h:k<hs.length):XbJ (hs.take (k+1))=XbJ (hs.take k)++[((hs.getD k (0,[])).1,strOfNums (hs.getD k (0,[])).2)]:=by
 unfold XbJ;rw[AQ h,BK];simp[List.getD,h]
def ph:Value:=.agg (Array.replicate 64 (.int .u8 0))
def G6:(prog.info? 168).map (λi=>(i.zero,i.size,i.bytes))=some (some ph,64,64):=by kernel_rfl
def yN(n:Nat):(madeCells ph.cells (n*64)).toList=List.replicate (n*64) (.int .u8 0):=by
 unfold madeCells;rw[FZ,FT,JM];refine⟨by simp,λb hb=>?_⟩;obtain⟨i,_,rfl⟩:=CE.1 hb;have e1:ph.cells=Array.replicate 64 (.int .u8 0):=rfl;have e2:i % (Array.replicate 64 (Value.int .u8 0)).size<64:=by rw[Array.size_replicate];omega
 rw[e1];rw[getElem!_pos _ _ (by rw[Array.size_replicate]at e2⊢;exact e2)];simp
def NT(w:World)(A:Array Value)(t:TypeId)(g:Nat)(hg:g=w.heap.size):Row (w.alloc (.cells A t)) g A.toList:=by subst hg;exact ME w A t
def Gh{a:Act}(d x:Operand)(ts:Array TypeId)(aC:op.op=.call { callee:=.builtin .copy,args:=#[d,x],argTypes:=ts })(h:wpList P aB Q (op::aA) a w):wpList P aB Q (op::aA) a w:=h
def uD{aE:Array Oper}{aC:List Oper}{a:Act}(aF:o.guard=none)(d x:Operand)(dT sT:TypeId)
  (aG:o.op=.call { callee:=.builtin .copy,args:=#[d,x],argTypes:=#[dT,sT] })(aB:TypeId)(hu:P.underlying dT=some (.slice aB))(hz:∀w,(Go.sizeOf aB).run P w=.ok 1 w)
  (g n cap:Nat)(hd:a.eval d=.slice (some ⟨g,0,none⟩) n cap)(t:ByteArray)(hx:a.eval x=.string t)(hn:t.size=n)(cs:List Value)(aA:Row w g cs)(aH:cs.length=n)
  (h:∀wx,Row wx g ((LF t).map (Value.int .u8))->w.grownBy wx (some g)->wx.heap.size=w.heap.size->wpList P aE Q aC (a.put o.dst (goInt t.size)) wx):wpList P aE Q (o::aC) a w:=by
 have hc:∀j,j<t.size->(w.cell? ⟨g,0+j,none⟩).isSome=true:=λj hj=>by
  rw[BF,aA.cell j _ (AM (by omega))];rfl
 have hf:∀j,j<t.size->w.frozen? ⟨g,0+j,none⟩=false:=λj hj=>by rw[BF];exact aA.froz j (by omega)
 have aD:=run_copy_string (P:=P) w dT sT o.type aB g 0 n cap t hu hz (by omega) hc hf;have hW:=nJ w g 0 t hc
 refine IV aF λK hK=>?_
 unfold Oper.wp;simp[execOp,aG,resolve,invoke,builtin,hd,hx,aD,Result.andThen];refine hK _ _ (h _ ⟨by rw[hW.size];exact aA.lt,λi v hv=>?_,λi hi=>?_⟩ ⟨hW.os,hW.tape,hW.output,Nat.le_of_eq hW.size.symm,λk _ hk=>hW.others k (λe=>hk (by rw[e]))⟩ hW.size)
 ·obtain⟨hj,e⟩:=CA.1 hv
  simp at hj;have:=hW.inside i (by simpa[ML] using hj);rw[BF]at this;rw[this];simp at e;subst e;simp[List.getD,AM hj]
 rw[hW.frozen];exact aA.froz i (by simp[ML]at hi;omega)
def Row.range(h:Row w g cs):w.rangeAt g 0 cs:=λj v hv=>by rw[BF];exact h.cell j v hv
def Row.there(h:Row w g cs)(hn:n=cs.length):w.there g 0 n:=λj hj=>by
 rw[BF,h.cell j _ (AM (by omega))];exact⟨rfl,h.froz j (by omega)⟩
def ft:Array Value:=Array.replicate 64 (.int .u8 0)
set_option maxRecDepth 4000 in
def bk(t:ByteArray)(w:World)(ht:t.size=64):Calls prog 119 #[.string t] w λe w'=>e=.returned (.agg ((LF t).map (Value.int .u8)).toArray)/\Below w.heap.size w w':=by
 have aC:(LF t).length=64:=by rw[ML,ht]
 have aA:Hid ((prog.info? 168).map (·.size)=some ((LF t).map (Value.int .u8)).length):=by show _=_;rw[BJ,aC];kernel_rfl
 have aE:((LF t).map (Value.int .u8)).toArray.size=64:=by simp[aC]
 have HT:=LE ht;clear ht;go_enter func119,ntmps119
 go_wp2_with (first|(with_reducible refine Gh _ _ _ rfl ?_;refine uD rfl _ _ _ _ rfl 5 underlying172 (λ_=>by kernel_rfl) (w.heap.size+1) 64 64 rfl t rfl HT.o _ (by exact NT _ _ _ _ (by simp)) (by kernel_rfl) ?_;intro wx aD aB aF;have hR:=(((ME w _ _).alloc _).z aB (by simp));have HB:=LE (((LG _ _).alloc (by simp) _).j (NE aB (by simp;omega) (λg hg=>by cases hg;omega)));clear aB aF)|(with_reducible refine WL 168 _ rfl ?_;refine AN rfl 168 _ rfl (w.heap.size+1) 0 rfl ((LF t).map (Value.int .u8)) _ aD.range underlying168 rfl aA.o ?_)|(with_reducible refine UX 168 _ _ rfl ?_;refine BI rfl 168 _ _ rfl w.heap.size 0 ((LF t).map (Value.int .u8)).toArray rfl rfl (by rw[aE];exact hR.there (by kernel_rfl)) (by rw[aE];kernel_rfl) (FQ (UA (LF t))) ?_))
 refine AJ (v:=.agg ((LF t).map (Value.int .u8)).toArray) (qK (p:=2) results119 _ _ w.heap.size 0 rfl ((LF t).map (Value.int .u8)) _ (DS _ _ _ _ (by rw[BJ,aC];exact hR.there (by kernel_rfl))) underlying168 rfl aA.o) rfl ⟨rfl,?_⟩;exact Go.below_setCells (AA _) _ _ _ HB.o
def mu(n:Nat)(h:0<n):Builtin.nextslicecap n 0=n:=by
 unfold Builtin.nextslicecap;simp;omega
def Cj{a:Act}
  (aK:o.guard=none)(s x:Operand)(t:TypeId)(aG:o.op=.call { callee:=.builtin .append,args:=#[s,x],argTypes:=#[t,t] })
  (e:TypeId)(i:TypeInfo)(z:Value)(size aA:Nat)(ht:P.underlying t=some (.slice e))(hi:P.info? e=some i)(hz:i.zero=some z)(aC:i.size=size)(aJ:i.bytes=aA)
  (b:Nat)(hs:a.eval s=.slice (some ⟨b,0,none⟩) 0 0)(v:Value)(hx:a.eval x=v)(n:Nat)(news:List Value)(aD:Src P size t v n news w)(hl:news.length=n*size)(hn:n<=1048576)(aI:n*aA<=281474976710656)
  (h:∀g cap wx,(n=0\/(g=w.heap.size/\Row wx g news))->Below w.heap.size w wx->K (a.put o.dst (.slice (some ⟨g,0,none⟩) n cap)) wx):if Region.wanted o (yielded aH a.tmps)=true then Oper.wp P o a w K Q else E:=by
 have hw:Region.wanted o (yielded aH a.tmps)=true:=by simp[Region.wanted,aK]
 rw[AK hw];subst aC aJ
 by_cases h0:n=0
 ·subst h0
  have aE:news=[]:=AC (by omega);subst aE;have aB:=run_append_room_src (P:=P) w t t o.type e i ht hi b 0 0 0 v 0 [] aD (by omega) (by simp) (by simp);unfold Oper.wp;simp[execOp,aG,resolve,invoke,builtin,hs,hx,aB,Result.andThen];exact h b 0 _ (.inl rfl) (AB _ _)
 have aF:(Builtin.firstCells i.size 0 (.slice (some ⟨b,0,none⟩) 0 0)).run P w.drew=.ok ([]:List Value).toArray w.drew:=FR w.drew i.size 0 _ 0 0 [] (by simp) (by simp)
 have aB:=run_append_grow_src (P:=P) w t t o.type e i z ht hi hz (some ⟨b,0,none⟩) 0 0 [] aF v n news aD (by omega) (by omega) (by rw[BF,mu n (by omega)];exact aI);unfold Oper.wp;simp[execOp,aG,resolve,invoke,builtin,hs,hx,aB,Result.andThen];refine h w.heap.size _ _ (.inr ⟨rfl,?_⟩) ((AB _ _).drew.alloc (AA _) _);have hr:=ME w.drew ((([]:List Value)++news).toArray++Builtin.zeroCells z.cells (grownCap w (0+n) 0 e-(0+n))) e;refine⟨by simp,λj u hu=>?_,λj hj=>?_⟩
 ·have:=hr.cell j u (by
   obtain⟨hj,_⟩:=CA.1 hu
   simp[AX hj,hu])
  simpa using this
 have:=hr.froz j (by simp;omega)
 simpa using this
def af{ss:List ByteArray}(h:Strs w a ss)(t e:TypeId)(ht:P.underlying t=some (.slice e))(c:Nat):Src P 1 t (.slice a ss.length c) ss.length (ss.map Value.string) w:=by
 rcases h with h|⟨b,o,rfl,hb,hc⟩
 ·subst h
  cases a with
  | none=>exact Src.ofNil w ht c
  | some x=>exact Src.ofSlice w ht x 0 c [] (by simp) (by simp) (by simp)
 refine Src.ofSlice w ht ⟨b,o,none⟩ ss.length c _ (by simp) (λj u hu=>?_) (λu hu=>by obtain⟨s,_,rfl⟩:=CE.1 hu;rfl)
 obtain⟨hj,e⟩:=CA.1 hu;simp only[BJ]at hj;have ha:(⟨b,o,none⟩:Addr).add j=⟨b,o+j,none⟩:=by unfold Addr.add;split<;>simp_all
 rw[ha,hc j hj,<-e];simp[List.getD,hj]
def uE{ws:List (Int×ByteArray)}(h:Wrs w a ws)(t e:TypeId)(ht:P.underlying t=some (.slice e))(c:Nat):Src P 2 t (.slice a ws.length c) ws.length (LU ws) w:=by
 rcases h with h|⟨b,o,rfl,hb,hc⟩
 ·subst h
  cases a with
  | none=>exact Src.ofNil w ht c
  | some x=>exact Src.ofSlice w ht x 0 c [] (by simp) (by simp) (by simp)
 refine Src.ofSlice w ht ⟨b,o,none⟩ ws.length c _ (SZ ws) (λj u hu=>?_) (λu hu=>?_)
 ·obtain⟨hj,e⟩:=CA.1 hu
  rw[SZ]at hj;have ha:(⟨b,o,none⟩:Addr).add j=⟨b,o+j,none⟩:=by unfold Addr.add;split<;>simp_all
  obtain⟨q,hq⟩:∃q,j=q*2\/j=q*2+1:=⟨j / 2,by omega⟩;have aA:q<ws.length:=by omega
  have hw:=al ws q aA;rcases hq with rfl|rfl
  ·rw[ha,(hc q aA).1,<-hu,hw.1]
  rw[ha,<-IE,(hc q aA).2,<-hu,hw.2]
 unfold LU at hu
 obtain⟨x,_,hx⟩:=EE.1 hu;simp at hx;rcases hx with rfl|rfl<;>rfl
def XG(w:World)(p:Addr):Value:=(w.cell? p).getD (.int .i64 0)
def XD{p:Addr}(h:(w.cell? p).isSome=true):w.cell? p=some (XG w p):=by
 unfold XG
 cases e:w.cell? p with
 | none=>rw[e]at h;exact absurd h (by simp)
 | some v=>rfl
def UJ{p:Addr}{v:Value}(h:w.cell? p=some v):(w.cell? p).isSome=true:=by rw[h];rfl
def KeepC(wy:World)(X:Nat)(v0 v1:Value)(w:World):Prop :=w.cell? ⟨X,0,none⟩=some v0/\w.cell? ⟨X,1,none⟩=some v1/\w.cell? ⟨X+1,0,none⟩=some (XG w ⟨X+1,0,none⟩)/\w.cell? ⟨X+1,1,none⟩=some (XG w ⟨X+1,1,none⟩)/\w.frozen? ⟨X+1,0,none⟩=false/\w.frozen? ⟨X+1,1,none⟩=false/\wy.grownBy w (some (X+1))/\X+1<w.heap.size
def KeepC.I{wy:World}{v0 v1:Value}(h:KeepC wy X v0 v1 w)(hb:Below w.heap.size w w'):KeepC wy X v0 v1 w':=by
 obtain⟨h1,h2,h3,h4,h5,h6,h7,h8⟩:=h;refine⟨(hb.cell (p:=⟨X,0,none⟩) (by show X<_;omega)).j h1,(hb.cell (p:=⟨X,1,none⟩) (by show X<_;omega)).j h2,?_,?_,?_,?_,⟨hb.os.j h7.os,hb.tape.j h7.tape,hb.output.j h7.output,AL h7.size hb.size,λi hi aA=>(hb.block i (AD hi h7.size)).j (h7.block i hi aA)⟩,AD h8 hb.size⟩
 ·exact XD (by rw[hb.cell (p:=⟨X+1,0,none⟩) h8];exact UJ h3)
 ·exact XD (by rw[hb.cell (p:=⟨X+1,1,none⟩) h8];exact UJ h4)
 ·rw[hb.frozen (p:=⟨X+1,0,none⟩) h8];exact h5
 rw[hb.frozen (p:=⟨X+1,1,none⟩) h8];exact h6
def KeepC.set{wy:World}{v0 v1:Value}(h:KeepC wy X v0 v1 w)(j:Nat)(v:Value):KeepC wy X v0 v1 (w.setCell ⟨X+1,j,none⟩ v):=by
 obtain⟨h1,h2,h3,h4,h5,h6,h7,h8⟩:=h
 have hs:∀p,(w.cell? p).isSome=true->((w.setCell ⟨X+1,j,none⟩ v).cell? p).isSome=true:=λp hp=>by
  by_cases e:(⟨X+1,j,none⟩:Addr)=p
  ·subst e
   obtain⟨u,hu⟩:=GO.1 hp;rw[FG (w:=w) (h:=hu)];rfl
  rw[BW (w:=w) (h:=e)];exact hp
 refine⟨(DE _ _ _ _ (by show X+1≠X;omega)).j h1,(DE _ _ _ _ (by show X+1≠X;omega)).j h2,XD (hs _ (UJ h3)),XD (hs _ (UJ h4)),by rw[BL];exact h5,by rw[BL];exact h6,⟨(WC (X+1) [v] j w).1.j h7.os,(WC (X+1) [v] j w).2.1.j h7.tape,(WC (X+1) [v] j w).2.2.j h7.output,by simpa using h7.size,λi hi aA=>?_⟩,by simpa using h8⟩;rw[<-h7.block i hi aA];exact dm (X+1) [v] j w i (λe=>aA (by rw[e]))
def yh(B R:Nat)(aA aB:World)(ss:List ByteArray)(ws:List (Int×ByteArray))(g1 g2 n1 n2:Nat)(v0 v1:Value)(aH:B<=n1)(hR:R<n1)(aC:ss.length=0\/g1=n1/\Row aA g1 (ss.map Value.string))(aG:Below aA.heap.size aA aB)(aJ:n1<=aA.heap.size)(aI:aA.heap.size<=n2)(aD:ws.length=0\/g2=n2/\Row aB g2 (LU ws)):OwnD ((aB.setCell ⟨R,0,none⟩ v0).setCell ⟨R,1,none⟩ v1) (some ⟨g1,0,none⟩) ss (some ⟨g2,0,none⟩) ws/\(∀k,blk (some ⟨g1,0,none⟩) ss.length=some k->B<=k)/\(∀k,blk (some ⟨g2,0,none⟩) ws.length=some k->B<=k):=by
 have aE:∀k,blk (some ⟨g1,0,none⟩) ss.length=some k->k=n1/\k<aA.heap.size:=λk hk=>by
  unfold blk at hk
  split at hk
  ·exact absurd hk (by simp)
  rename_i h0
  rcases aC with e|⟨rfl,hr⟩
  ·exact absurd e h0
  simp at hk
  exact⟨hk.symm,by rw[<-hk];exact hr.lt⟩
 have aF:∀k,blk (some ⟨g2,0,none⟩) ws.length=some k->k=n2:=λk hk=>by
  unfold blk at hk
  split at hk
  ·exact absurd hk (by simp)
  rename_i h0
  rcases aD with e|⟨rfl,hr⟩
  ·exact absurd e h0
  simp at hk
  exact hk.symm
 refine⟨⟨?_,?_,?_⟩,λk hk=>by have:=aE k hk;omega,λk hk=>by have:=aF k hk;omega⟩
 ·rcases aC with e|⟨rfl,hr⟩
  ·exact .inl (by rw[AC e];rfl)
  exact .inr ⟨g1,rfl,((hr.I aG).other ⟨R,0,none⟩ (by show R≠_;omega) _).other ⟨R,1,none⟩ (by show R≠_;omega) _⟩
 ·rcases aD with e|⟨rfl,hr⟩
  ·exact .inl (by rw[AC e];rfl)
  exact .inr ⟨g2,rfl,(hr.other ⟨R,0,none⟩ (by show R≠_;omega) _).other ⟨R,1,none⟩ (by show R≠_;omega) _⟩
 cases e1:blk (some ⟨g1,0,none⟩) ss.length with
 | none=>exact .inl rfl
 | some k1 =>
  cases e2:blk (some ⟨g2,0,none⟩) ws.length with
  | none=>exact .inr (.inl rfl)
  | some k2 =>
   have h1:=aE k1 e1;have h2:=aF k2 e2;exact .inr (.inr (λe=>by injection e with e;omega))
section
def NY:List (Int×ByteArray)->List ByteArray->List ByteArray
 | [],ss=>ss
 | x::r,ss=>NY r (ss.set x.1.toNat x.2)
def ZT:∀(ws:List (Int×ByteArray)) (ss:List ByteArray),(NY ws ss).length=ss.length
 | [],_=>rfl
 | x::r,ss=>by rw[NY,ZT r];simp
structure SYs(W w:World)(R X g g' n n' c1 c1':Nat)(ws:List (Int×ByteArray))(ts:List ByteArray):Prop where
 gr:W.grownBy w (some g)
 rr:Row w R [.slice none 0 0,.slice none 0 0]
 rx:Row w X [.slice (some ⟨g,0,none⟩) n c1,.slice (some ⟨g',0,none⟩) n' c1']
 rs:Row w g (ts.map Value.string)
 own:OwnS w (some ⟨g',0,none⟩) (LU ws)
section
variable {W w w':World} {R X g g' n n' c1 c1':Nat} {ws:List (Int×ByteArray)} {ts:List ByteArray}
def SYs.I(h:SYs W w R X g g' n n' c1 c1' ws ts)(hb:Below w.heap.size w w'):SYs W w' R X g g' n n' c1 c1' ws ts :=⟨PY h.gr (TN _ hb),h.rr.I hb,h.rx.I hb,h.rs.I hb,h.own.I hb⟩
def SYs.drew(h:SYs W w R X g g' n n' c1 c1' ws ts):SYs W w.drew R X g g' n n' c1 c1' ws ts:=h.I ((AB _ _).drew)
def SYs.set(h:SYs W w R X g g' n n' c1 c1' ws ts)(m:Nat)(hm:m<ts.length)(s:ByteArray)(h2:R≠g)(h3:X≠g)(h4:LU ws≠[]->g'≠g):SYs W (w.setCell ⟨g,m,none⟩ (.string s)) R X g g' n n' c1 c1' ws (ts.set m s):=by
 refine⟨MC h.gr _ _,h.rr.other _ (λe=>h2 e.symm) _,h.rx.other _ (λe=>h3 e.symm) _,?_,?_⟩
 ·rw[JZ];exact h.rs.set m (by simpa using hm) _
 rcases h.own with ho|⟨b,e,hr⟩
 ·exact .inl ho
 injection e with e;injection e with e
 by_cases hc:LU ws=[]
 ·exact .inl hc
 exact .inr ⟨g',rfl,(e ▸ hr).other _ (λe2=>h4 hc e2.symm) _⟩
end
def jk{a b:World}(h:a.grownBy b r)(p:Addr)(hp:a.heap.size<=p.block)(v:Value):a.grownBy (b.setCell p v) r :=⟨h.os,h.tape,h.output,by rw[AV];exact h.size,λi hi hr=>(BD _ _ _ _ (λe=>by omega)).j (h.block i hi hr)⟩
set_option maxRecDepth 100000 in
def jz(g g':Nat)(ss:List ByteArray)(c:Nat)(ws:List (Int×ByteArray))(c':Nat)(w:World)(aM:Row w g (ss.map Value.string))(hp:OwnS w (some ⟨g',0,none⟩) (LU ws))(aS:LU ws≠[]->g'≠g)(hl:ss.length<=200)(bP:ws.length<=300)(aT:∀x∈ws,0<=x.1/\x.1<(ss.length:Int)):Calls prog 111 #[LN (some ⟨g,0,none⟩) ss.length c (some ⟨g',0,none⟩) ws.length c'] w λe w'=>∃x,e=.returned (LN (some ⟨g,0,none⟩) ss.length c (some ⟨x,0,none⟩) 0 0)/\w.heap.size<=x/\x<w'.heap.size/\Row w' g ((NY ws ss).map Value.string)/\w.grownBy w' (some g):=by
 obtain⟨aD,aC⟩:∃aD,Hid (aD=NY ws ss):=⟨_,LE rfl⟩;rw[<-aC.o];have bF:=aM.lt;go_enter func111,ntmps111;go_wp2
 have aA:SYs w ((w.alloc (.cells #[.slice (some ⟨g,0,none⟩) ss.length c,.slice (some ⟨g',0,none⟩) ws.length c'] 44)).alloc (.cells #[.slice none 0 0,.slice none 0 0] 44)) (w.heap.size+1) w.heap.size g g' ss.length ws.length c c' ws ss :=⟨TN _ ((LG _ _).alloc (by simp) _),NT _ _ _ _ (by simp),(ME _ _ _).alloc _,(aM.alloc _).alloc _,(hp.I (MB _ _)).I (MB _ _)⟩
 have aP:=LE aA;have aV:=LE aT;have aO:=LE aS;clear aA aM hp aT aS;go_loopw [3] (λi wr=>∃(k:Nat) (ts:List ByteArray),k<=ws.length/\i=.int .i64 k/\ts.length=ss.length/\Hid (NY (ws.drop k) ts=aD)/\SYs w wr (w.heap.size+1) w.heap.size g g' ss.length ws.length c c' ws ts) (λi _=>ws.length-(intOf i).toNat)
 case atStart=>exact⟨0,ss,AH _,rfl,rfl,by show _=_;rw[DY,aC.o],aP.o⟩
 case round =>
  clear aP;obtain⟨k,ts,hk,rfl,aN,HK,aA⟩:=hrel
  by_cases aK:k<ws.length
  ·obtain⟨b,o,m0,d,he,aI,aJ,HX⟩:=aA.own.wrs.at aK
   obtain⟨rfl,rfl⟩:g'=b/\o=0:=by cases he;exact⟨rfl,rfl⟩
   rw[BF]at aI aJ;clear he;have aG:=aV.o (m0,d) (by rw[HX.o];simp[List.getD,aK]);obtain⟨m,rfl,hm⟩:∃m:Nat,m0=(m:Int)/\m<ss.length:=⟨m0.toNat,by have:=aG.1;simp at *;omega,by have:=aG.1;have:=aG.2;simp at *;omega⟩
   have aE:LU ws≠[]:=λe=>by have:=BT List.length e;rw[SZ,AR]at this;omega
   have bE:=aO.o aE;have aQ:=XD (UJ (aA.rs.cell m (.string (ts.getD m empty)) (by simp[List.getD,aN,hm])));have aR:=aA.rs.froz m (by simp[aN,hm]);have aX:=aA.rx.lt;have x0:=aA.rx.x 0;have x1:=aA.rx.x 1;have aB:=LE (AG x0 (AG x1 (AG aI (AG aJ (AG aQ aR)))));have aF:=LE aA;have bI:(0:Int)<=(k:Int):=by omega
   have bJ:(k:Int)<(ws.length:Int):=by omega
   have bQ:(0:Int)<=(m:Int):=by omega
   have bT:(m:Int)<(ss.length:Int):=by omega
   clear aA aG aQ aR aI aJ aE;go_wp2_with fail;clear x0 x1
   go_region_held3 (λw'=>w'.cell? ⟨w.heap.size,0,none⟩=some (.slice (some ⟨g,0,none⟩) ss.length c)/\w'.cell? ⟨w.heap.size,1,none⟩=some (.slice (some ⟨g',0,none⟩) ws.length c')/\w'.cell? ⟨g',k*2,none⟩=some (.int .i64 (m:Int))/\w'.cell? ⟨g',k*2+1,none⟩=some (.string d)/\w'.cell? ⟨g,m,none⟩=some (XG w' ⟨g,m,none⟩)/\w'.frozen? ⟨g,m,none⟩=false)
    (first|assumption|exact aB.o|exact⟨(DE _ _ _ _ (by show g≠w.heap.size;omega)).j aB.o.1,(DE _ _ _ _ (by show g≠w.heap.size;omega)).j aB.o.2.1,(DE _ _ _ _ (by show g≠g';omega)).j aB.o.2.2.1,(DE _ _ _ _ (by show g≠g';omega)).j aB.o.2.2.2.1,XD (UJ (World.cell?_setCell_same' wr _ (.string d) (UJ aB.o.2.2.2.2.1))),(BL wr _ _ _).j aB.o.2.2.2.2.2⟩)
    (fail)
   have aH:=LE (aF.o.drew.set m (by omega) d (by omega) (by omega) aO.o)
   have aU:Hid (NY (ws.drop (k+1)) (ts.set m d)=aD):=by
    show _=_;rw[<-HK.o,RT ws k (0,empty) aK,<-HX.o,NY,DG]
   rename_i hHe;clear hHe aB;go_wp2;go_roundw
   case rel=>exact⟨k+1,_,by omega,by go_num,by simp[aN],aU,aH.o⟩
   case measure=>simp[intOf];omega
  have aL:Hid (ts=aD):=by
   have:=HK.o;rw[CX (by omega)]at this;exact this
  rw[aL.o]at aA;have aF:=LE aA;have q0:=aA.rx.x 0;have q1:=aA.rx.x 1;have f1:=aA.rx.q 1;have r0:=aA.rr.x 0;have r1:=aA.rr.x 1;obtain⟨aZ,bC⟩:=aA.rr.z2;have aX:=aA.rx.lt;have aW:=aA.rr.lt;have n1:w.heap.size≠w.heap.size+1:=by omega
  clear aA;go_wp2;have aY:wr.heap.size≠w.heap.size+1:=by omega
  refine AJ (v:=LN (some ⟨g,0,none⟩) ss.length c (some ⟨wr.heap.size,0,none⟩) 0 0) (by simp[results,results111,go_sem,r0,r1,n1,aY,aW]) rfl ⟨_,rfl,by omega,by simp,?_,?_⟩
  ·exact(((aF.o.rs.other _ (by show w.heap.size≠g;omega) _).other _ (by show w.heap.size+1≠g;omega) _).other _ (by show w.heap.size+1≠g;omega) _).alloc _
  exact PY (jk (jk (jk aF.o.gr ⟨w.heap.size,1,none⟩ (by show w.heap.size<=w.heap.size;omega) _) ⟨w.heap.size+1,0,none⟩ (by show w.heap.size<=w.heap.size+1;omega) _) ⟨w.heap.size+1,1,none⟩ (by show w.heap.size<=w.heap.size+1;omega) _) (TN _ (MB _ _))
end
def zN{a:Act}(B:Nat)
  (aK:o.guard=none)(s x:Operand)(t:TypeId)(aG:o.op=.call { callee:=.builtin .append,args:=#[s,x],argTypes:=#[t,t] })
  (e:TypeId)(i:TypeInfo)(z:Value)(size aA:Nat)(ht:P.underlying t=some (.slice e))(hi:P.info? e=some i)(hz:i.zero=some z)(aC:i.size=size)(aJ:i.bytes=aA)
  (b:Nat)(hs:a.eval s=.slice (some ⟨b,0,none⟩) 0 0)(v:Value)(hx:a.eval x=v)(n:Nat)(news:List Value)(aD:Src P size t v n news w)(hl:news.length=n*size)(hn:n<=1048576)(aI:n*aA<=281474976710656)(hB:B<=w.heap.size)(aN:z.cells.size=size)
  (h:∀g cap wx,((n=0/\cap=0)\/(g=w.heap.size/\Row wx g news/\wx.ownsRow B e size (.slice (some ⟨g,0,none⟩) n cap) n news/\n≠0))->Below w.heap.size w wx->K (a.put o.dst (.slice (some ⟨g,0,none⟩) n cap)) wx):if Region.wanted o (yielded aH a.tmps)=true then Oper.wp P o a w K Q else E:=by
 have hw:Region.wanted o (yielded aH a.tmps)=true:=by simp[Region.wanted,aK]
 rw[AK hw];subst aC aJ
 by_cases h0:n=0
 ·subst h0
  have aE:news=[]:=AC (by omega);subst aE;have aB:=run_append_room_src (P:=P) w t t o.type e i ht hi b 0 0 0 v 0 [] aD (by omega) (by simp) (by simp);unfold Oper.wp;simp[execOp,aG,resolve,invoke,builtin,hs,hx,aB,Result.andThen];exact h b 0 _ (.inl ⟨rfl,rfl⟩) (AB _ _)
 have aF:(Builtin.firstCells i.size 0 (.slice (some ⟨b,0,none⟩) 0 0)).run P w.drew=.ok ([]:List Value).toArray w.drew:=FR w.drew i.size 0 _ 0 0 [] (by simp) (by simp)
 have aB:=run_append_grow_src (P:=P) w t t o.type e i z ht hi hz (some ⟨b,0,none⟩) 0 0 [] aF v n news aD (by omega) (by omega) (by rw[BF,mu n (by omega)];exact aI);unfold Oper.wp;simp[execOp,aG,resolve,invoke,builtin,hs,hx,aB,Result.andThen];refine h w.heap.size _ _ (.inr ⟨rfl,?_,?_,h0⟩) ((AB _ _).drew.alloc (AA _) _)
 ·have hr:=ME w.drew ((([]:List Value)++news).toArray++Builtin.zeroCells z.cells (grownCap w (0+n) 0 e-(0+n))) e
  refine⟨by simp,λj u hu=>?_,λj hj=>?_⟩
  ·have:=hr.cell j u (by
    obtain⟨hj,_⟩:=CA.1 hu
    simp[AX hj,hu])
   simpa using this
  have:=hr.froz j (by simp;omega)
  simpa using this
 have aL:=JI w n 0 e
 have aM:=GZ w n 0 e (by unfold maxLen;omega);refine⟨hl,.inr ⟨w.heap.size,_,_,rfl,hB,AY w.drew _,aL,aM,?_,?_⟩⟩
 ·simp[KF,hl,aN]
  rw[<-Zb]
  congr 1
  omega
 simp[hl]
set_option maxRecDepth 4000 in
def ze(a:Option Addr)(ss:List ByteArray)(c:Nat)(a':Option Addr)(ws:List (Int×ByteArray))(c':Nat)(w:World)(h:Strs w a ss)(h':Wrs w a' ws)(hl:ss.length<=200)(bF:ws.length<=300):Calls prog 63 #[LN a ss.length c a' ws.length c'] w λe w'=>∃g c1 g' c1',e=.returned (LN (some ⟨g,0,none⟩) ss.length c1 (some ⟨g',0,none⟩) ws.length c1')/\OwnD w' (some ⟨g,0,none⟩) ss (some ⟨g',0,none⟩) ws/\(∀k,blk (some ⟨g,0,none⟩) ss.length=some k->w.heap.size<=k)/\(∀k,blk (some ⟨g',0,none⟩) ws.length=some k->w.heap.size<=k)/\((ws=[]/\c1'=0)\/w'.ownsRow (w.heap.size+1+1) 158 2 (.slice (some ⟨g',0,none⟩) ws.length c1') ws.length (LU ws)/\ws.length≠0)/\Below w.heap.size w w':=by
 obtain⟨i0,aB,aE,aF,aG⟩:=XW mp;have HI:=LE (AG aB (AG aE (AG aF aG)));clear aB aE aF aG;obtain⟨i1,aB,aE,aF,aG⟩:=XW ir;have aH:=LE (AG aB (AG aE (AG aF aG)));clear aB aE aF aG
 have aZ:∀o1 o2,Below w.heap.size w ((w.alloc o1).alloc o2):=λo1 o2=>(LG _ _).alloc (by simp) _
 go_enter func63,ntmps63;go_wp2_with fail;have aR:=(Cx.new w (.slice a ss.length c) (.slice a' ws.length c') 44).I (MB _ (.cells #[.slice none 0 0,.slice none 0 0] 44));have rR:=NT (w.alloc (.cells #[.slice a ss.length c,.slice a' ws.length c'] 44)) #[.slice none 0 0,.slice none 0 0] 44 (w.heap.size+1) (by simp);have hB:=aZ (.cells #[.slice a ss.length c,.slice a' ws.length c'] 44) (.cells #[.slice none 0 0,.slice none 0 0] 44);have aQ:((w.alloc (.cells #[.slice a ss.length c,.slice a' ws.length c'] 44)).alloc (.cells #[.slice none 0 0,.slice none 0 0] 44)).heap.size=w.heap.size+1+1:=by simp
 obtain⟨wy,aT⟩:∃wy,wy=(w.alloc (.cells #[.slice a ss.length c,.slice a' ws.length c'] 44)).alloc (.cells #[.slice none 0 0,.slice none 0 0] 44):=⟨_,rfl⟩;rw[<-aT]at aR rR hB aQ⊢;clear aT;have HX:=LE aR;have HR:=LE rR;have HB:=LE hB;have aC:=LE aQ;clear aR rR hB aQ;have aV:KeepC wy w.heap.size (.slice a ss.length c) (.slice a' ws.length c') wy:=⟨HX.o.c0,HX.o.c1,XD (UJ (HR.o.x 0)),XD (UJ (HR.o.x 1)),HR.o.q 0,HR.o.q 1,⟨rfl,rfl,rfl,AA _,λ_ _ _=>rfl⟩,by rw[aC.o];omega⟩;have HK:=LE aV;clear aV
 have aU:∀wz,KeepC wy w.heap.size (.slice a ss.length c) (.slice a' ws.length c') wz->Below w.heap.size w wz:=λwz hz=>HB.o.j (NE hz.2.2.2.2.2.2.1 (by rw[aC.o];omega) (λg hg=>by injection hg with hg;omega))
 have aK:=LE aU;clear aU
 go_region_held3 (λw'=>w'.cell? ⟨w.heap.size,0,none⟩=some (.slice a ss.length c)/\w'.cell? ⟨w.heap.size,1,none⟩=some (.slice a' ws.length c')/\w'.cell? ⟨w.heap.size+1,0,none⟩=some (XG w' ⟨w.heap.size+1,0,none⟩)/\w'.cell? ⟨w.heap.size+1,1,none⟩=some (XG w' ⟨w.heap.size+1,1,none⟩)/\w'.frozen? ⟨w.heap.size+1,0,none⟩=false/\w'.frozen? ⟨w.heap.size+1,1,none⟩=false/\wy.grownBy w' (some (w.heap.size+1))/\w.heap.size+1<w'.heap.size)
  (first|assumption|exact HK.o.I ((AB _ _).drew)|exact KeepC.I (by assumption) (by assumption)|exact KeepC.I (by assumption) (MB _ _)|exact KeepC.set (KeepC.set (by assumption) 0 _) 1 _)
  (first|(refine Cj (by rfl) _ _ 22 (by rfl) 9 _ _ 1 16 underlying22 HI.o.1 HI.o.2.1 HI.o.2.2.1 HI.o.2.2.2 _ (by rfl) _ (by rfl) ss.length _ (by exact af (h.I (aK.o _ (by assumption))) _ _ (by rfl) _) (by simp) (by omega) (by omega) ?_;intro g1 c1 aS aM aL)|(refine zN (w.heap.size+1+1) (by rfl) _ _ 42 (by rfl) 158 _ _ 2 24 underlying42 aH.o.1 aH.o.2.1 aH.o.2.2.1 aH.o.2.2.2 _ (by rfl) _ (by rfl) ws.length _ (by exact uE (h'.I (aK.o _ (by assumption))) _ _ (by rfl) _) (by exact SZ ws) (by omega) (by omega) (by refine Nat.succ_le_of_lt (KC (KC (KC (KC (KC (KC (KC (?_:KeepC wy w.heap.size (.slice a ss.length c) (.slice a' ws.length c') _))))))));assumption) (by rfl) ?_;intro g2 c2 aJ aO aI;have aN:ws.length=0\/(g2=_/\Row aJ g2 (LU ws)):=(aO.imp (λh=>h.1) (λh=>⟨h.1,h.2.1⟩));have aW:=aO.imp id (λh=>h.2.2);clear aO;have aP:KeepC wy w.heap.size (.slice a ss.length c) (.slice a' ws.length c') aJ:=KeepC.I (by assumption) aI))
 all_goals
  rename_i hHe;have aX:=hHe;clear hHe;have bC:=aK.o _ aX
  have aD:=by
   first
   | exact yh w.heap.size (w.heap.size+1) aS aJ ss ws g1 g2 _ _ (Value.slice (some ⟨g1,0,none⟩) ss.length c1) (Value.slice (some ⟨g2,0,none⟩) ws.length c2) (by simp[aC.o]<;>omega) (by simp[aC.o]<;>omega) aM aI aL.size (AA _) aN
   | exact yh w.heap.size (w.heap.size+1) aS aJ ss ws g1 g2 _ _ (Value.slice (some ⟨g1,0,none⟩) ss.length c1) (Value.slice (some ⟨g2,0,none⟩) ws.length c2) (by simp[aC.o]<;>omega) (by simp[aC.o]<;>omega) aM (Go.Proofs.YthcfgbpailnahaaGreatDoor.Below.then (MB aS _) (AA _) aI) aL.size (by simp) aN
  have aA:=LE aD;have aB:=UJ aP.2.2.1;have bE:=UJ aP.2.2.2.1;have aY:=LE aW;clear aD aM aL aN aI aP aX aW;go_wp2;exact AJ (v:=LN (some ⟨g1,0,none⟩) ss.length c1 (some ⟨g2,0,none⟩) ws.length c2) (by simp[results,results63,go_sem,aB,bE]) rfl ⟨g1,c1,g2,c2,rfl,aA.o.1,aA.o.2.1,aA.o.2.2,aY.o.imp (λh=>⟨AC h.1,h.2⟩) (λh=>⟨DJ (DJ h.1 (a:=⟨w.heap.size+1,0,none⟩) (by show w.heap.size+1<_;omega) _) (a:=⟨w.heap.size+1,1,none⟩) (by show w.heap.size+1<_;omega) _,by have:=h.2;simpa using this⟩),bC⟩
def gk(a:Option Addr)(ss:List ByteArray)(c:Nat)(a':Option Addr)(ws:List (Int×ByteArray))(c':Nat)(w:World)(h:Strs w a ss)(h':Wrs w a' ws)(hl:ss.length<=200)(aA:ws.length<=300):Calls prog 63 #[LN a ss.length c a' ws.length c'] w λe w'=>∃g c1 g' c1',e=.returned (LN (some ⟨g,0,none⟩) ss.length c1 (some ⟨g',0,none⟩) ws.length c1')/\OwnD w' (some ⟨g,0,none⟩) ss (some ⟨g',0,none⟩) ws/\(∀k,blk (some ⟨g,0,none⟩) ss.length=some k->w.heap.size<=k)/\(∀k,blk (some ⟨g',0,none⟩) ws.length=some k->w.heap.size<=k)/\Below w.heap.size w w' :=(ze a ss c a' ws c' w h h' hl aA).i (λe w' ⟨g,c1,g',c1',k1,k2,k3,k4,_,k6⟩=>⟨g,c1,g',c1',k1,k2,k3,k4,k6⟩)
section
structure DepF(w:World)(F:Nat->Prop)(P:World->Prop):Prop where
 l:P w
 keep:∀w',Below 0 w w'->(∀b,F b->b<w.heap.size->w'.heap[b]?=w.heap[b]?)->P w'
section
variable {w w':World} {F G:Nat->Prop} {P Q:World->Prop}
def DepF.step(h:DepF w F P)(h0:Below 0 w w')(hk:∀b,F b->b<w.heap.size->w'.heap[b]?=w.heap[b]?):DepF w' F P :=⟨h.keep w' h0 hk,λw2 h1 h2=>h.keep w2 (h0.j (h1.i (AH _))) (λb hb hl=>(h2 b hb (AD hl h0.size)).j (hk b hb hl))⟩
def DepF.I(h:DepF w F P)(hb:Below w.heap.size w w'):DepF w' F P:=h.step (hb.i (AH _)) (λb _ hl=>hb.block b hl)
def DepF.z(h:DepF w F P)(hg:w.grownBy w' r)(hr:∀g,r=some g->¬F g):DepF w' F P :=h.step (NE hg (AH _) (λ_ _=>AH _)) (λb hb hl=>hg.block b hl (λe=>hr b e.symm hb))
def DepF.i(h:DepF w F P)(hF:∀b,b<w.heap.size->F b->G b):DepF w G P:=⟨h.l,λw' h1 h2=>h.keep w' h1 (λb hb hl=>h2 b (hF b hl hb) hl)⟩
def DepF.map(h:DepF w F P)(f:∀W,P W->Q W):DepF w F Q:=⟨f _ h.l,λw' h1 h2=>f _ (h.keep w' h1 h2)⟩
def DepF.and(h:DepF w F P)(k:DepF w F Q):DepF w F (λW=>P W/\Q W):=⟨⟨h.l,k.l⟩,λw' h1 h2=>⟨h.keep w' h1 h2,k.keep w' h1 h2⟩⟩
def ei(h:P w)(hs:∀w',Below w.heap.size w w'->P w'):DepF w (λb=>b<w.heap.size) P :=⟨h,λw' h1 h2=>hs w' ⟨h1.os,h1.tape,h1.output,h1.size,λb hb=>h2 b hb hb⟩⟩
def WW{lo hi:Nat}(h:Dep w lo hi P)(hF:∀b,lo<=b->b<hi->F b):DepF w F P :=⟨h.l,λw' h1 h2=>h.keep w' (λb h3 h4=>h2 b (hF b h3 h4) (AD h4 h.top)) (AL h.top h1.size)⟩
def SX(h:∀W,P W):DepF w F P:=⟨h _,λw' _ _=>h _⟩
end
def PJ(w:World)(b o:Nat)(vs:List Value):w.grownBy (w.setCells b o vs) (some b) :=⟨(WC b vs o w).1,(WC b vs o w).2.1,(WC b vs o w).2.2,Nat.le_of_eq (TL b vs o w).symm,λi hi hr=>dm b vs o w i (λe=>hr (BT some e))⟩
def Row.sets(h:Row w g cs)(vs:List Value)(hl:vs.length=cs.length):Row (w.setCells g 0 vs) g vs:=by
 have ht:w.there g 0 vs.length:=h.there hl;have hr:=DS w g 0 vs ht;have aA:=World.there_setCells ht g 0 vs;refine⟨by rw[TL];exact h.lt,λi v hv=>?_,λi hi=>?_⟩
 ·have:=hr i v hv;rwa [BF]at this
 have:=(aA i hi).2;rwa [BF]at this
def fx{aC:Array Oper}{a:Act}(aD:op.guard=none)(s:TypeId)(x:Operand)(f:Nat)(ho:op.op=.fieldAddr s x f)(v:Value)(aB:(Instr.fieldAt s (a.eval x) f).run P w=.ok v w)(h:wpList P aC Q aA (a.put op.dst v) w):wpList P aC Q (op::aA) a w:=by
 refine IV aD λK hK=>?_
 unfold Oper.wp execOp;simp only[ho,aB,GY,JK,IJ];exact hK _ _ h
section
variable {w:World} {g:Nat} {pre cs post:List Value}
def Row.rangeMid(h:Row w g (pre++cs++post)):w.rangeAt g pre.length cs:=λj v hv=>by
 have hj:j<cs.length:=(CA.1 hv).1;exact h.cell (pre.length+j) v (by rw[BG,CJ (by omega),AX (by omega),<-hv];congr 1;omega)
def Row.thereMid(h:Row w g (pre++cs++post))(hn:n=cs.length):w.there g pre.length n:=λj hj=>by
 subst hn;exact⟨by rw[h.rangeMid j cs[j] (AM hj)];rfl,h.froz (pre.length+j) (by simp;omega)⟩
def Row.setsMid(h:Row w g (pre++cs++post))(vs:List Value)(hl:vs.length=cs.length):Row (w.setCells g pre.length vs) g (pre++vs++post):=by
 have ht:w.there g pre.length vs.length:=h.thereMid hl;refine⟨by rw[TL];exact h.lt,λi v hv=>?_,λi hi=>by rw[EG];exact h.froz i (by simp at hi⊢;omega)⟩
 by_cases h1:i<pre.length
 ·rw[DL g vs _ w ⟨g,i,none⟩ (λ_ _=>.inl h1)]
  refine h.cell i v ?_;rw[BG,AX h1]at hv⊢;exact hv
 by_cases h2:i<pre.length+vs.length
 ·have:=DS w g pre.length vs ht (i-pre.length) v (by rw[BG,CJ (by omega),AX (by omega)]at hv;exact hv)
  rwa [show pre.length+(i-pre.length)=i by omega]at this
 rw[DL g vs _ w ⟨g,i,none⟩ (λ_ _=>.inr (by show pre.length+vs.length<=i;omega))]
 refine h.cell i v ?_;rw[BG,CJ (by omega),CJ (by omega)]at hv⊢;rw[<-hl];exact hv
end
def QI{v:World}{FF:Nat->Prop}(h:Row v g cs)(hg:FF g):DepF v FF (λW=>Row W g cs) :=⟨h,λw' h1 h2=>QW h (h2 g hg h.lt) (AD h.lt h1.size)⟩
def RY{R:Ending->World->Prop}{a:Act}(k:Nat)(ty:TypeId)(hf:fn.results=#[.cell k ty])(b:Nat)(hk:a.tmps.getD k undef=.pointer (some ⟨b,0,none⟩))(cs:List Value)(d:TypeDesc)(hc:Row w b cs)(hu:P.underlying ty=some d)(aA:d.isRow=true)(hi:(P.info? ty).map (·.size)=some cs.length)(hd:a.defers=[])(hR:R (.returned (.agg cs.toArray)) w):bodyPost P fn R .ret a w:=by
 refine AJ (v:=.agg cs.toArray) ?_ hd hR;have aB:a.tmps[k]?.getD undef=.pointer (some ⟨b,0,none⟩):=by simpa using hk
 simp[results,hf,aB,asAddr,JB w b 0 ty cs d hc.range hu aA hi]
def fw{R:Ending->World->Prop}{a:Act}(k t:Nat)(ty:TypeId)(hf:fn.results=#[.cell k ty,.tmp t])(b:Nat)(hk:a.tmps.getD k undef=.pointer (some ⟨b,0,none⟩))(u:Value)(ht:a.tmps.getD t undef=u)(cs:List Value)(d:TypeDesc)(hc:Row w b cs)(hu:P.underlying ty=some d)(aA:d.isRow=true)(hi:(P.info? ty).map (·.size)=some cs.length)(hd:a.defers=[])(hR:R (.returned (.tuple #[.agg cs.toArray,u])) w):bodyPost P fn R .ret a w:=by
 refine AJ (v:=.tuple #[.agg cs.toArray,u]) ?_ hd hR;have aB:a.tmps[k]?.getD undef=.pointer (some ⟨b,0,none⟩):=by simpa using hk
 have aC:a.tmps[t]?.getD undef=u:=by simpa using ht
 simp[results,hf,aB,aC,asAddr,JB w b 0 ty cs d hc.range hu aA hi]
def OP{a:Act}(ty:TypeId)(x:Operand)(ho:op.op=.load ty x)(b o:Nat)(hx:a.eval x=.pointer (some ⟨b,o,none⟩))(cs:List Value)(d:TypeDesc)(hc:w.rangeAt b o cs)(hu:P.underlying ty=some d)(hd:d.isRow=true)(hi:(P.info? ty).map (·.size)=some cs.length):(execOp a.eval op).run P w=.ok (.value (.agg cs.toArray)) w:=by
 unfold execOp;simp only[ho,hx,Instr.loadAt,Instr.sureAddr,GY,JK,IJ,JB w b o ty cs d hc hu hd hi]
def xy{a:Act}(aC:op.guard=none)(v:Value)(w':World)(hr:(execOp a.eval op).run P w=.ok (.value v) w')(h:wpList P aB Q aA (a.put op.dst v) w'):wpList P aB Q (op::aA) a w:=by
 refine IV aC λK hK=>?_
 unfold Oper.wp;simp only[hr];exact hK _ _ h
def TD{a:Act}(aC:op.guard=none)(v:Value)(hr:(execOp a.eval op).run P w=.ok (.value v) w)(h:wpList P aB Q aA (a.put op.dst v) w):wpList P aB Q (op::aA) a w:=by
 refine IV aC λK hK=>?_
 unfold Oper.wp;simp only[hr];exact hK _ _ h
def UK{a:Act}(aC:o.guard=none)(ty:TypeId)(x y:Operand)(ho:o.op=.store ty x y)(b k:Nat)(aA:Array Value)(hx:a.eval x=.pointer (some ⟨b,k,none⟩))(hy:a.eval y=.agg aA)(ht:w.there b k aA.size)(hi:(P.info? ty).map (·.size)=some aA.size)(h1:aA.all (·.oneCell')=true)
  (h:K (a.put o.dst undef) (w.setCells b k aA.toList)):if Region.wanted o (yielded aB a.tmps)=true then Oper.wp P o a w K Q else E:=by
 have hw:Region.wanted o (yielded aB a.tmps)=true:=by simp[Region.wanted,aC]
 rw[AK hw];exact wp_store_mid ty x y ho b k aA hx hy ht hi h1 h
def sq{aA:Array Oper}{a:Act}(aB:o.guard=none)(ty:TypeId)(x:Operand)(ho:o.op=.load ty x)(b k:Nat)(hx:a.eval x=.pointer (some ⟨b,k,none⟩))(cs:List Value)(d:TypeDesc)(hc:w.rangeAt b k cs)(hu:P.underlying ty=some d)(hd:d.isRow=true)(hi:(P.info? ty).map (·.size)=some cs.length)
  (h:K (a.put o.dst (.agg cs.toArray)) w):if Region.wanted o (yielded aA a.tmps)=true then Oper.wp P o a w K Q else E:=by
 have hw:Region.wanted o (yielded aA a.tmps)=true:=by simp[Region.wanted,aB]
 rw[AK hw];exact wp_load_mid ty x ho b k hx cs d hc hu hd hi h
end
section
def RK:(prog.info? 118).map (·.size)=some 12:=by kernel_rfl
def OH:(prog.info? 50).map (·.size)=some 10:=by kernel_rfl
@[reducible] def SL(d:Dd)(a:Option Addr)(c:Nat)(b:Option Addr)(e:Nat):List Value:=[.int .i64 d.C,.int .i64 d.W,.int .i64 d.S,.int .i64 d.L,.int .i64 d.T,.int .i64 d.H,.int .i64 d.F,.int .i64 d.R,.int .i64 d.U,.int .i64 d.O,.slice a d.rs.length c,.slice b d.ops.length e]
structure StB(w v:World)(cs:List Value)(M:World->Prop):Prop where
 e:Below w.heap.size w v
 r1:Row v w.heap.size cs
 r2:Row v (w.heap.size+1) [.int .i64 0,.int .i64 0,.int .i64 0,.int .i64 0,.int .i64 0,.int .i64 0,.int .i64 0,.int .i64 0,.int .i64 0,.int .i64 0,.slice none 0 0,.slice none 0 0]
 m:DepF v (λb=>b≠w.heap.size/\b≠w.heap.size+1) M
section
variable {w v v':World} {cs cs':List Value} {M N:World->Prop}
def StB.I(h:StB w v cs M)(hb:Below v.heap.size v v'):StB w v' cs M:=⟨h.e.j (hb.i h.e.size),h.r1.I hb,h.r2.I hb,h.m.I hb⟩
def StB.low{B:Nat}(h:StB w v cs (λ_=>True))(hb:Below B v v')(h1:w.heap.size+1<B):StB w v' cs (λ_=>True) :=⟨h.e.j (hb.i (by omega)),QW h.r1 (hb.block _ (by omega)) (AD h.r1.lt hb.size),QW h.r2 (hb.block _ (by omega)) (AD h.r2.lt hb.size),SX (λ_=>trivial)⟩
def StB.put(h:StB w v cs M)(hg:v.grownBy v' (some w.heap.size))(hr:Row v' w.heap.size cs'):StB w v' cs' M :=⟨h.e.j (NE hg h.e.size (λx e=>by have e:=DA e;omega)),hr,h.r2.z hg (λe=>by injection e with e;omega),h.m.z hg (λg e k=>by cases e;exact k.1 rfl)⟩
def StB.set(h:StB w v cs M)(i:Nat)(hi:i<cs.length)(u:Value):StB w (v.setCell ⟨w.heap.size,i,none⟩ u) (cs.set i u) M:=h.put (MC (BH _ _) _ _) (h.r1.set i hi u)
def StB.aside(h:StB w v cs (λ_=>True))(hg:v.grownBy v' (some X))(hX:w.heap.size+1<X):StB w v' cs (λ_=>True) :=⟨h.e.j (NE hg h.e.size (λx e=>by have e:=DA e;omega)),h.r1.z hg (λe=>by injection e with e;omega),h.r2.z hg (λe=>by injection e with e;omega),SX (λ_=>trivial)⟩
def kn(w:World)(o:Obj):Below w.heap.size w (w.alloc o):=LG _ _
def StB.add(h:StB w v cs M)(k:DepF v (λb=>b≠w.heap.size/\b≠w.heap.size+1) N):StB w v cs (λW=>M W/\N W):=⟨h.e,h.r1,h.r2,h.m.and k⟩
def StB.fin(h:StB w v cs M)(D:Dd)(a:Option Addr)(c:Nat)(b:Option Addr)(e:Nat)(aA:D.rs.length<=c)(ho:OwnDn v D.rs D.ops a b)(g1:∀g,blk a D.rs.length=some g->w.heap.size+2<=g)(g2:∀g,blk b D.ops.length=some g->w.heap.size+2<=g):Row (v.setCells (w.heap.size+1) 0 (SL D a c b e)) (w.heap.size+1) (SL D a c b e)/\RO w (v.setCells (w.heap.size+1) 0 (SL D a c b e)) (.returned (MQ D a c b e)) D:=by
 have G:=PJ v (w.heap.size+1) 0 (SL D a c b e);have d1:=(PG (lo:=w.heap.size+2) ho.s QG g1).z G (λg e=>by cases e;omega);have d2:=(PG (lo:=w.heap.size+2) ho.p dt g2).z G (λg e=>by cases e;omega);exact⟨h.r2.sets _ rfl,a,c,b,e,rfl,aA,⟨d1.l,d2.l,ho.ne⟩,λg k=>by have:=g1 g k;omega,λg k=>by have:=g2 g k;omega,h.e.j (NE G h.e.size (λx e=>by have e:=DA e;omega))⟩
def StB.no(h:StB w v cs M)(C:Int):Row (v.setCells (w.heap.size+1) 0 [.int .i64 C,.int .i64 0,.int .i64 0,.int .i64 0,.int .i64 0,.int .i64 0,.int .i64 0,.int .i64 0,.int .i64 0,.int .i64 0,.slice none 0 0,.slice none 0 0]) (w.heap.size+1) (SL (LT C) none 0 none 0)/\RO w (v.setCells (w.heap.size+1) 0 [.int .i64 C,.int .i64 0,.int .i64 0,.int .i64 0,.int .i64 0,.int .i64 0,.int .i64 0,.int .i64 0,.int .i64 0,.int .i64 0,.slice none 0 0,.slice none 0 0]) (.returned (MQ (LT C) none 0 none 0)) (LT C) :=h.fin (LT C) none 0 none 0 (AA _) ⟨.inl rfl,.inl rfl,.inl rfl⟩ (λg k=>by cases k) (λg k=>by cases k)
def StB.noR(h:StB w v cs M)(C:Int){id:Nat}{o1 o2:Oper}{a:Act}(x y:Operand)(g1:o1.guard=none)(hv:(execOp a.eval o1).run prog v=.ok (.value (.agg #[.int .i64 C,.int .i64 0,.int .i64 0,.int .i64 0,.int .i64 0,.int .i64 0,.int .i64 0,.int .i64 0,.int .i64 0,.int .i64 0,.slice none 0 0,.slice none 0 0])) v)(g2:o2.guard=none)(ho:o2.op=.store 118 x y)(hx:(a.put o1.dst (.agg #[.int .i64 C,.int .i64 0,.int .i64 0,.int .i64 0,.int .i64 0,.int .i64 0,.int .i64 0,.int .i64 0,.int .i64 0,.int .i64 0,.slice none 0 0,.slice none 0 0])).eval x=.pointer (some ⟨w.heap.size+1,0,none⟩))(hy:(a.put o1.dst (.agg #[.int .i64 C,.int .i64 0,.int .i64 0,.int .i64 0,.int .i64 0,.int .i64 0,.int .i64 0,.int .i64 0,.int .i64 0,.int .i64 0,.slice none 0 0,.slice none 0 0])).eval y=.agg #[.int .i64 C,.int .i64 0,.int .i64 0,.int .i64 0,.int .i64 0,.int .i64 0,.int .i64 0,.int .i64 0,.int .i64 0,.int .i64 0,.slice none 0 0,.slice none 0 0])
  (k:∀u,Row u (w.heap.size+1) (SL (LT C) none 0 none 0)->Hid (RO w u (.returned (MQ (LT C) none 0 none 0)) (LT C))->wpList prog [o1,o2].toArray Q [] ((a.put o1.dst (.agg #[.int .i64 C,.int .i64 0,.int .i64 0,.int .i64 0,.int .i64 0,.int .i64 0,.int .i64 0,.int .i64 0,.int .i64 0,.int .i64 0,.slice none 0 0,.slice none 0 0])).put o2.dst undef) u):(Code.region id [o1,o2].toArray false).wp prog Q a v:=by
 obtain⟨R8,HP⟩:=h.no C;exact BA (TD g1 _ hv (BI g2 _ x y ho (w.heap.size+1) 0 _ hx hy (h.r2.there rfl) RK (by kernel_rfl) (k _ R8 (LE HP))))
end
def XI{m N:Nat}(h1:∀g,blk a n=some g->g<N)(h2:∀g,blk b m=some g->N<=g):XM a n b m:=by
 cases h:blk a n with
 | none=>exact .inl h
 | some g=>exact .inr (.inr λe=>by rw[h]at e;have:=h1 g h;have:=h2 g e.symm;omega)
def wV{m N:Nat}(h1:∀g,blk a n=some g->N<=g)(h2:∀g,blk b m=some g->g<N):XM a n b m:=by
 cases h:blk a n with
 | none=>exact .inl h
 | some g=>exact .inr (.inr λe=>by rw[h]at e;have:=h1 g h;have:=h2 g e.symm;omega)
def XJ{rs:List Pr}(h:OwnS w a (LI rs))(k:blk a rs.length=some g):g<w.heap.size:=by
 rcases h with h|⟨g',rfl,hr⟩
 ·have e:rs.length=0:=by have:=BT List.length h;rw[RC,AR]at this;omega
  rw[e]at k
  cases a<;>simp[blk]at k
 by_cases h0:rs.length=0
 ·rw[h0]at k;simp[blk]at k
 rw[MI _ _ _ (by omega)]at k
 cases k
 exact hr.lt
def RN{aA:Act}{y:World}{D:Dd}(k:Nat)(hf:fn.results=#[.cell k 118])(X:Nat)(hk:aA.tmps.getD k undef=.pointer (some ⟨X,0,none⟩))(hr:Row y X (SL D a c b e))(hd:aA.defers=[])(hP:RO w y (.returned (MQ D a c b e)) D):bodyPost prog fn (λr w'=>RO w w' r D) .ret aA y :=RY k 118 hf X hk (SL D a c b e) _ hr underlying118 rfl RK hd hP
def ZM(w w':World)(x:Ending)(d:Dd):Prop:=RO w w' x d/\∀a c b e,x=.returned (MQ d a c b e)->d.ops.length<=e
def yE{D:Dd}(hP:RO w w' (.returned (MQ D a c b e)) D)(he:D.ops.length<=e):ZM w w' (.returned (MQ D a c b e)) D :=⟨hP,λa' c' b' e' k=>by simp[MQ]at k;have:=k.2.2;omega⟩
def TG{aA:Act}{y:World}{D:Dd}(k:Nat)(hf:fn.results=#[.cell k 118])(X:Nat)(hk:aA.tmps.getD k undef=.pointer (some ⟨X,0,none⟩))(hr:Row y X (SL D a c b e))(hd:aA.defers=[])(hP:RO w y (.returned (MQ D a c b e)) D)(he:D.ops.length<=e:=by exact AA _):bodyPost prog fn (λr w'=>ZM w w' r D) .ret aA y :=RY k 118 hf X hk (SL D a c b e) _ hr underlying118 rfl RK hd (yE hP he)
end
section
structure PR(w:World)(g:Nat)(ps:List (List Int)):Prop where
 lt:g<w.heap.size
 len:∀p∈ps,p.length=64
 cell:∀k,k<ps.length->∀j,j<64->w.cell? ⟨g,k*64+j,none⟩=some (.int .u8 ((ps.getD k []).getD j 0))
 froz:∀i,i<ps.length*64->w.frozen? ⟨g,i,none⟩=false
def PR.I{ps:List (List Int)}(h:PR w g ps)(hb:Below w.heap.size w w'):PR w' g ps :=⟨AD h.lt hb.size,h.len,λk hk j hj=>(hb.cell (p:=⟨g,_,none⟩) h.lt).j (h.cell k hk j hj),λi hi=>(hb.frozen (p:=⟨g,i,none⟩) h.lt).j (h.froz i hi)⟩
def PR.z{ps:List (List Int)}(h:PR w g ps)(hg:w.grownBy w' r)(hn:some g≠r):PR w' g ps :=⟨AD h.lt hg.size,h.len,λk hk j hj=>(CW (a:=⟨g,_,none⟩) (hg.block g h.lt hn)).j (h.cell k hk j hj),λi hi=>(FY (a:=⟨g,i,none⟩) (hg.block g h.lt hn)).j (h.froz i hi)⟩
def PR.other{ps:List (List Int)}(h:PR w g ps)(p:Addr)(hp:p.block≠g)(v:Value):PR (w.setCell p v) g ps:=by
 refine⟨by simpa[World.setCell] using h.lt,h.len,λk hk j hj=>?_,λi hi=>?_⟩
 ·rw[BW (w:=w) (h:=λe=>hp (by rw[e]))];exact h.cell k hk j hj
 rw[BL];exact h.froz i hi
def YL{ps:List (List Int)}(h:∀p∈ps,p.length=64)(hk:k<ps.length):(ps.getD k []).length=64:=h _ (by simp[List.getD,hk])
def PR.there{ps:List (List Int)}(h:PR w g ps)(hk:k<ps.length):w.there g (k*64) 64:=λj hj=>by
 rw[h.cell k hk j hj];exact⟨rfl,h.froz _ (by omega)⟩
def PR.range{ps:List (List Int)}(h:PR w g ps)(hk:k<ps.length):w.rangeAt g (k*64) ((ps.getD k []).map (Value.int .u8)):=λj v hv=>by
 obtain⟨hj,e⟩:=CA.1 hv;simp only[BJ]at hj;have h64:=YL h.len hk;rw[h.cell k hk j (by omega)];rw[<-e];simp only[KU];rw[BB (l:=ps.getD k []),AM hj];rfl
def PR.plt{ps:List (List Int)}(h:PR w g ps):Plt w (some ⟨g,0,none⟩) ps :=.inr ⟨g,0,rfl,h.lt,λi hi=>by rw[BF];exact h.range hi⟩
def PR.set{ps:List (List Int)}(h:PR w g ps)(k:Nat)(hk:k<ps.length)(x:List Int)(hx:x.length=64):PR (w.setCells g (k*64) (x.map (Value.int .u8))) g (ps.set k x):=by
 have hl:(x.map (Value.int .u8)).length=64:=by simp[hx]
 refine⟨by rw[TL];exact h.lt,λp hp=>?_,λi hi j hj=>?_,λi hi=>?_⟩
 ·rcases EI hp with h1|h1
  ·exact h.len p h1
  rw[h1];exact hx
 ·rw[DP]at hi
  by_cases he:i=k
  ·subst he
   have e1:(ps.set i x).getD i []=x:=by rw[BB,JJ hk];rfl
   rw[e1,JG g _ (i*64) w (λj hj=>by rw[hl]at hj;exact(h.there hk j hj).1) j (by omega)];simp[List.getD,show j<x.length by omega]
  have e1:(ps.set k x).getD i []=ps.getD i []:=by rw[BB,IM (λe=>he e.symm),BB]
  rw[e1,DL g _ (k*64) w ⟨g,i*64+j,none⟩ (λ_ _=>by rw[hl];show i*64+j<k*64\/k*64+64<=i*64+j;omega)];exact h.cell i hi j hj
 rw[EG];exact h.froz i (by simpa using hi)
def vB(h:Row w g (List.replicate (n*64) (.int .u8 0))):PR w g (List.replicate n (List.replicate 64 0)):=by
 refine⟨h.lt,λp hp=>by rw[List.eq_of_mem_replicate hp];simp,λk hk j hj=>?_,λi hi=>h.froz i (by simpa using hi)⟩;rw[IF]at hk
 have e1:((List.replicate n (List.replicate 64 (0:Int))).getD k []).getD j 0=0:=by
  rw[BB (l:=List.replicate n _),FV,AK hk,GA,BB,FV,AK hj];rfl
 rw[e1];exact h.cell _ _ (by rw[FV,AK (by omega)])
def NB(hs:List (Int×List Int)):List Value:=hs.flatMap λx=>.int .i64 x.1::x.2.map (Value.int .u8)
def oA(a b:List (Int×List Int)):NB (a++b)=NB a++NB b:=by simp[NB]
def oB:∀(hs:List (Int×List Int)),(∀p∈hs,p.2.length=64)->∀(i:Nat),i<hs.length->∀j,(Value.int .i64 (hs.getD i (0,[])).1::(hs.getD i (0,[])).2.map (Value.int .u8))[j]?≠none->(NB hs)[i*65+j]?=(Value.int .i64 (hs.getD i (0,[])).1::(hs.getD i (0,[])).2.map (Value.int .u8))[j]?
 | x::r,hl,0,_,j,hj=>by
  have e:NB (x::r)=(.int .i64 x.1::x.2.map (Value.int .u8))++NB r:=by simp[NB]
  have e2:(x::r).getD 0 (0,[])=x:=rfl;rw[e2]at hj⊢;rw[e,Nat.zero_mul,BF,AX];rcases GN j (Value.int .i64 x.1::x.2.map (Value.int .u8)).length with h|h
  ·exact h
  exact absurd (List.getElem?_eq_none h) hj
 | x::r,hl,i+1,h,j,hj=>by
  have e:NB (x::r)=(.int .i64 x.1::x.2.map (Value.int .u8))++NB r:=by simp[NB]
  have hx:(Value.int .i64 x.1::x.2.map (Value.int .u8)).length=65:=by simp[hl x (by simp)]
  have e2:(x::r).getD (i+1) (0,[])=r.getD i (0,[]):=by simp[List.getD]
  rw[e2]at hj⊢;rw[e,CJ (by omega),hx,show(i+1)*65+j-65=i*65+j by omega];exact oB r (λp hp=>hl p (by simp[hp])) i (by simpa using h) j hj
def lk(hs:List (Int×List Int))(hl:∀p∈hs,p.2.length=64):(NB hs).length=hs.length*65:=by
 induction hs with
 | nil=>rfl
 | cons x r ih =>
  have e:NB (x::r)=(.int .i64 x.1::x.2.map (Value.int .u8))++NB r:=by simp[NB]
  rw[e,AF,ih (λp hp=>hl p (by simp[hp]))];simp[hl x (by simp)];omega
def Row.hld{hs:List (Int×List Int)}(h:Row w g (NB hs))(hl:∀p∈hs,p.2.length=64):Hld w (some ⟨g,0,none⟩) hs :=.inr ⟨g,0,rfl,h.lt,λi hi j v hv=>by
  rw[BF]
  exact h.cell _ _ ((oB hs hl i hi j (by rw[hv];simp)).j hv)⟩
structure Drs(W w:World)(n:Nat)(box:Value)(e:TypeId)(v:Value)(ps:List (List Int))(hs:List (Int×List Int)):Prop where
 sz:W.heap.size+1+1+1+1<=w.heap.size
 bel:Below W.heap.size W w
 b1:w.cell? ⟨W.heap.size,1,none⟩=some box
 r0:w.cell? ⟨W.heap.size+1,0,none⟩=some (.slice none 0 0)
 r1:w.cell? ⟨W.heap.size+1,1,none⟩=some (.slice none 0 0)
 fr0:w.frozen? ⟨W.heap.size+1,0,none⟩=false
 fr1:w.frozen? ⟨W.heap.size+1,1,none⟩=false
 d0:w.cell? ⟨W.heap.size+1+1+1,0,none⟩=some (.slice (some ⟨W.heap.size+1+1,0,none⟩) n n)
 d1:w.cell? ⟨W.heap.size+1+1+1,1,none⟩=some v
 fd1:w.frozen? ⟨W.heap.size+1+1+1,1,none⟩=false
 pr:PR w (W.heap.size+1+1) ps
 len:∀p∈hs,p.2.length=64
 own:w.ownsRow (W.heap.size+1+1+1+1) e 65 v hs.length (NB hs)
section
variable {W w w':World} {n:Nat} {box v:Value} {e:TypeId} {ps:List (List Int)} {hs:List (Int×List Int)}
def Drs.I(h:Drs W w n box e v ps hs)(hb:Below w.heap.size w w'):Drs W w' n box e v ps hs :=have hs:=h.sz
 have bc:∀b i,b<W.heap.size+1+1+1+1->w'.cell? ⟨b,i,none⟩=w.cell? ⟨b,i,none⟩:=λb i hi=>hb.cell (p:=⟨b,i,none⟩) (by show b<_;omega)
 have bf:∀b i,b<W.heap.size+1+1+1+1->w'.frozen? ⟨b,i,none⟩=w.frozen? ⟨b,i,none⟩:=λb i hi=>hb.frozen (p:=⟨b,i,none⟩) (by show b<_;omega)
 ⟨AL hs hb.size,h.bel.j (hb.i (by omega)),(bc _ _ (by omega)).j h.b1,(bc _ _ (by omega)).j h.r0,(bc _ _ (by omega)).j h.r1,(bf _ _ (by omega)).j h.fr0,(bf _ _ (by omega)).j h.fr1,
  (bc _ _ (by omega)).j h.d0,(bc _ _ (by omega)).j h.d1,(bf _ _ (by omega)).j h.fd1,h.pr.I hb,h.len,LY h.own hb⟩
def Drs.drew(h:Drs W w n box e v ps hs):Drs W w.drew n box e v ps hs:=h.I ((AB _ _).drew)
def Drs.alloc(h:Drs W w n box e v ps hs)(o:Obj):Drs W (w.alloc o) n box e v ps hs:=h.I (LG _ _)
def Drs.fill(h:Drs W w n box e v ps [])(hv:v=.slice none 0 0)(k:Nat)(hk:k<ps.length)(x:List Int)(hx:x.length=64):Drs W (w.setCells (W.heap.size+1+1) (k*64) (x.map (Value.int .u8))) n box e v (ps.set k x) []:=by
 have hs:=h.sz
 have co:∀b i,b≠W.heap.size+1+1->(w.setCells (W.heap.size+1+1) (k*64) (x.map (Value.int .u8))).cell? ⟨b,i,none⟩=w.cell? ⟨b,i,none⟩:=λb i hb=>DL _ _ _ _ _ (λe=>absurd e hb)
 exact⟨by rw[TL];exact hs,Go.below_setCells (by omega) _ _ _ h.bel,(co _ _ (by omega)).j h.b1,(co _ _ (by omega)).j h.r0,(co _ _ (by omega)).j h.r1,(EG _ _ _ _ _).j h.fr0,(EG _ _ _ _ _).j h.fr1,
  (co _ _ (by omega)).j h.d0,(co _ _ (by omega)).j h.d1,(EG _ _ _ _ _).j h.fd1,h.pr.set k hk x hx,h.len,by rw[hv];exact BZ _ _ _ _⟩
def Drs.z(h:Drs W w n box e v ps hs)(hg:w.grownBy w1 v.ownBlock):w1.cell? ⟨W.heap.size+1+1+1,1,none⟩=some v/\w1.frozen? ⟨W.heap.size+1+1+1,1,none⟩=false:=by
 have hs:=h.sz
 have nb:some (W.heap.size+1+1+1)≠v.ownBlock:=λhe=>by have:=(h.own.lt _ he.symm).1;omega
 exact⟨(hg.cell_far ⟨W.heap.size+1+1+1,1,none⟩ (by show W.heap.size+1+1+1<_;omega) nb).j h.d1,(hg.frozen_far ⟨W.heap.size+1+1+1,1,none⟩ (by show W.heap.size+1+1+1<_;omega) nb).j h.fd1⟩
def Drs.push(h:Drs W w n box e v ps hs){cap:Nat}{x:Int×List Int}(hx:x.2.length=64)(aB:w1.ownsRow (W.heap.size+1+1+1+1) e 65 (.slice (some ⟨g,0,none⟩) (hs.length+1) cap) (hs.length+1) (NB hs++(.int .i64 x.1::x.2.map (Value.int .u8))))(hg:w.grownBy w1 v.ownBlock):Drs W (w1.setCell ⟨W.heap.size+1+1+1,1,none⟩ (.slice (some ⟨g,0,none⟩) (hs.length+1) cap)) n box e (.slice (some ⟨g,0,none⟩) (hs.length+1) cap) ps (hs++[x]):=by
 have aC:=h.sz
 have nb:∀k,k<W.heap.size+1+1+1+1->some k≠v.ownBlock:=λk hk he=>by have:=(h.own.lt k he.symm).1;omega
 have lt:∀b,b<W.heap.size+1+1+1+1->b<w.heap.size:=λb hb=>by omega
 have cc:∀b i,b<W.heap.size+1+1+1+1->w1.cell? ⟨b,i,none⟩=w.cell? ⟨b,i,none⟩:=λb i hb=>hg.cell_far ⟨b,i,none⟩ (lt b hb) (nb b hb)
 have ff:∀b i,b<W.heap.size+1+1+1+1->w1.frozen? ⟨b,i,none⟩=w.frozen? ⟨b,i,none⟩:=λb i hb=>hg.frozen_far ⟨b,i,none⟩ (lt b hb) (nb b hb)
 have so:∀b i,b<W.heap.size+1+1+1+1->b≠W.heap.size+1+1+1->(w1.setCell ⟨W.heap.size+1+1+1,1,none⟩ (.slice (some ⟨g,0,none⟩) (hs.length+1) cap)).cell? ⟨b,i,none⟩=w.cell? ⟨b,i,none⟩:=λb i hb hn=>by
  rw[BW (w:=w1) (h:=show(⟨W.heap.size+1+1+1,1,none⟩:Addr)≠⟨b,i,none⟩ fromλhe=>hn (by injection he with h1;exact h1.symm))];exact cc b i hb
 have aA:Below W.heap.size W w1:=h.bel.j ⟨hg.os,hg.tape,hg.output,hg.size,λk hk=>hg.block k (by omega) (nb k (by omega))⟩
 refine⟨by simp only[AV];have:=hg.size;omega,aA.setCell (by show W.heap.size<=W.heap.size+1+1+1;omega) _,(so _ _ (by omega) (by omega)).j h.b1,(so _ _ (by omega) (by omega)).j h.r0,(so _ _ (by omega) (by omega)).j h.r1,
  (BL _ _ _ _).j ((ff _ _ (by omega)).j h.fr0),(BL _ _ _ _).j ((ff _ _ (by omega)).j h.fr1),?_,FG w1 _ _ ((cc _ _ (by omega)).j h.d1),(BL _ _ _ _).j ((ff _ _ (by omega)).j h.fd1),?_,?_,?_⟩
 ·rw[BW (w:=w1) (h:=show(⟨W.heap.size+1+1+1,1,none⟩:Addr)≠⟨W.heap.size+1+1+1,0,none⟩ by simp)];exact(cc _ _ (by omega)).j h.d0
 ·exact(h.pr.z hg (nb _ (by omega))).other _ (by show W.heap.size+1+1+1≠W.heap.size+1+1;omega) _
 ·intro p hp
  rcases BP.1 hp with h1|h1
  ·exact h.len p h1
  simp at h1;rw[h1];exact hx
 have k1:=DJ aB (a:=⟨W.heap.size+1+1+1,1,none⟩) (by show W.heap.size+1+1+1<_;omega) (.slice (some ⟨g,0,none⟩) (hs.length+1) cap)
 have e1:NB (hs++[x])=NB hs++(.int .i64 x.1::x.2.map (Value.int .u8)):=by rw[oA];simp[NB]
 rw[AF,e1];exact k1
def Drs.start(w wx:World)(n:Nat)(c0 c1:Value)(t0 t1 t2 e:TypeId)(hb:Below ((w.alloc (.cells #[c0,c1] t0)).alloc (.cells #[.slice none 0 0,.slice none 0 0] t1)).heap.size ((w.alloc (.cells #[c0,c1] t0)).alloc (.cells #[.slice none 0 0,.slice none 0 0] t1)) wx)
  (hs:wx.heap.size=w.heap.size+1+1+1)(hr:Row wx (w.heap.size+1+1) (List.replicate (n*64) (.int .u8 0))):Drs w (wx.alloc (.cells #[.slice (some ⟨w.heap.size+1+1,0,none⟩) n n,.slice none 0 0] t2)) n c1 e (.slice none 0 0) (List.replicate n (List.replicate 64 0)) []:=by
 have rb:=(((ME w #[c0,c1] t0).alloc (.cells #[.slice none 0 0,.slice none 0 0] t1)).I hb).alloc (.cells #[.slice (some ⟨w.heap.size+1+1,0,none⟩) n n,.slice none 0 0] t2);have rr:=((NT (w.alloc (.cells #[c0,c1] t0)) #[.slice none 0 0,.slice none 0 0] t1 (w.heap.size+1) (by simp)).I hb).alloc (.cells #[.slice (some ⟨w.heap.size+1+1,0,none⟩) n n,.slice none 0 0] t2);have rd:=NT wx #[.slice (some ⟨w.heap.size+1+1,0,none⟩) n n,.slice none 0 0] t2 (w.heap.size+1+1+1) hs.symm;have hB:Below w.heap.size w wx:=((LG _ _).alloc (by simp) _).j (hb.i (by simp;omega));exact⟨by simp[hs],hB.alloc hB.size _,rb.x 1,rr.x 0,rr.x 1,rr.q 0,rr.q 1,rd.x 0,rd.x 1,rd.q 1,vB (hr.alloc _),by simp,BZ _ _ _ _⟩
end
end
def zV{a:Act}
  (hg:o.guard=none)(d x:Operand)(dT sT:TypeId)(aI:o.op=Op.call { callee:=Callee.builtin Builtin.copy,args:=#[d,x],argTypes:=#[dT,sT] })
  (aB:TypeId)(hu:P.underlying dT=some (.slice aB))(hz:(P.info? aB).map (·.size)=some 1)
  (b off aA aD:Nat)(hd:a.eval d=.slice (some ⟨b,off,none⟩) aA aD)(s:Addr)(aC aE:Nat)(hx:a.eval x=.slice (some s) aC aE)(cs:List Value)(hn:cs.length=Nat.min aC aA)
  (aG:∀j v,cs[j]?=some v->w.cell? (s.add j)=some v)(hc:∀j,j<cs.length->(w.cell? ⟨b,off+j,none⟩).isSome=true)(hf:∀j,j<cs.length->w.frozen? ⟨b,off+j,none⟩=false)(h1:∀v∈cs,v.oneCell'=true)
  (hK:K (a.put o.dst (goInt cs.length)) (w.setCells b off cs)):if Region.wanted o (yielded aH a.tmps)=true then Oper.wp P o a w K Q else E:=by
 have hw:Region.wanted o (yielded aH a.tmps)=true:=by simp[Region.wanted,hg]
 rw[AK hw];have aF:=run_copy_cells (P:=P) w dT sT o.type aB b off aA aD s aC aE cs hu hz hn aG hc hf h1;unfold Oper.wp;simp[execOp,aI,resolve,invoke,builtin,hd,hx,aF,Result.andThen];exact hK
def RH(k:Nat)(x y:List Int):List Int:=x.take k++y.drop k
def y7(k:Nat)(x y:List Int)(hk:k<=64)(hx:x.length=64)(hy:y.length=64):(RH k x y).length=64:=by simp[RH];omega
def PR.part{ps:List (List Int)}(h:PR w g ps)(i:Nat)(hi:i<ps.length)(k:Nat)(hk:k<=64)(x:List Int)(hx:x.length=64):PR (w.setCells g (i*64) ((x.take k).map (Value.int .u8))) g (ps.set i (RH k x (ps.getD i []))):=by
 have hl:((x.take k).map (Value.int .u8)).length=k:=by simp;omega
 have hy:=YL h.len hi;refine⟨by rw[TL];exact h.lt,λp hp=>?_,λq hq j hj=>?_,λq hq=>?_⟩
 ·rcases EI hp with h1|h1
  ·exact h.len p h1
  rw[h1];exact y7 k x _ hk hx hy
 ·rw[DP]at hq
  by_cases he:q=i
  ·subst he
   have e1:(ps.set q (RH k x (ps.getD q []))).getD q []=RH k x (ps.getD q []):=by rw[BB,JJ hi];rfl
   rw[e1]
   by_cases aA:j<k
   ·rw[JG g _ (q*64) w (λj hj=>by rw[hl]at hj;exact(h.there hi j (by omega)).1) j (by omega)]
    unfold RH;rw[BB,AX (by simp;omega),EM aA,AM (by omega)];simp
   rw[DL g _ (q*64) w ⟨g,q*64+j,none⟩ (λ_ _=>by rw[hl];show q*64+j<q*64\/q*64+k<=q*64+j;omega),h.cell q hq j hj]
   unfold RH;rw[BB (l:=x.take k++_),CJ (by simp;omega),EV];rw[show k+(j-(x.take k).length)=j by simp;omega,BB]
  have e1:(ps.set i (RH k x (ps.getD i []))).getD q []=ps.getD q []:=by rw[BB,IM (λe=>he e.symm),BB]
  rw[e1,DL g _ (i*64) w ⟨g,q*64+j,none⟩ (λ_ _=>by rw[hl];show q*64+j<i*64\/i*64+k<=q*64+j;omega)];exact h.cell q hq j hj
 rw[EG];exact h.froz q (by simpa using hq)
set_option maxRecDepth 100000 in
def qO(X g n c:Nat)(v:Value)(ps:List (List Int))(m:Nat)(x:List Int)(k:Nat)(w:World)(hX:w.cell? ⟨X,0,none⟩=some (.slice (some ⟨g,0,none⟩) n c))(aJ:X≠g)(hp:PR w g ps)(hn:ps.length=n)(hm:m<n)(aV:n<=200)(aW:n<=c)(hx:x.length=64)(hk:k<=64):Calls prog 185 #[.pointer (some ⟨X,0,none⟩),.agg (Value.int .i64 (m:Int)::x.map (Value.int .u8)).toArray,.int .i64 (k:Int)] w λe w'=>e=.returned (.tuple #[])/\PR w' g (ps.set m (RH k x (ps.getD m [])))/\w.grownBy w' (some g):=by
 have aP:X<w.heap.size:=by have:=BE w _ hX;simpa using this
 have aS:=hp.lt;go_enter func185,ntmps185;go_wp2_with fail;have aA:=ME w (Value.int .i64 (m:Int)::x.map (Value.int .u8)).toArray 171;have aC:=MB w (.cells (Value.int .i64 (m:Int)::x.map (Value.int .u8)).toArray 171);obtain⟨wy,aI⟩:∃wy,wy=w.alloc (.cells (Value.int .i64 (m:Int)::x.map (Value.int .u8)).toArray 171):=⟨_,rfl⟩;rw[<-aI]at aA aC⊢;clear aI;have aH:=LE (hp.I aC);have HQ:=LE (AG ((aC.cell (p:=⟨X,0,none⟩) aP).j hX) (aA.cell 0 (.int .i64 (m:Int)) rfl));have aB:=LE aC
 have aF:Hid (∀j v,((x.take k).map (Value.int .u8))[j]?=some v->wy.drew.cell? ((⟨w.heap.size,1,none⟩:Addr).add j)=some v):=λj v hv=>by
  obtain⟨hj,e⟩:=CA.1 hv;have aO:j<k:=by simp at hj;omega
  have ha:(⟨w.heap.size,1,none⟩:Addr).add j=⟨w.heap.size,j+1,none⟩:=by unfold Addr.add;split<;>simp_all<;>omega
  rw[ha];refine aA.cell (j+1) v ?_;rw[<-hv];simp[EM aO]
 have HL:Hid (((x.take k).map (Value.int .u8)).length=Nat.min k k):=by show _=_;simp[KM];omega
 have aR:((x.take k).map (Value.int .u8)).length=k:=by simp;omega
 have HT:=LE (aH.o.there (k:=m) (by omega))
 have aX:=λwx=>jt (P:=prog) (t:=168) underlying168 (λ_=>by kernel_rfl) g (m*64) k (by omega) hk .i64 (k:Int) rfl wx
 have aY:=λwx=>jt (P:=prog) (t:=168) underlying168 (λ_=>by kernel_rfl) w.heap.size 1 k (by omega) hk .i64 (k:Int) rfl wx
 have aT:(0:Int)<=(m:Int):=by omega
 have aU:(m:Int)<(n:Int):=by omega
 have aM:X≠g:=aJ;have aN:w.heap.size≠g:=by omega
 clear hX hp aA aC aJ
 go_region_held3 (λw'=>w'.cell? ⟨X,0,none⟩=some (.slice (some ⟨g,0,none⟩) n c)/\w'.cell? ⟨w.heap.size,0,none⟩=some (.int .i64 (m:Int)))
  (first|assumption|exact HQ.o|exact⟨(DL _ _ _ _ _ (λe=>absurd e aM)).j HQ.o.1,(DL _ _ _ _ _ (λe=>absurd e aN)).j HQ.o.2⟩)
  (first|(refine zV (by rfl) _ _ _ _ (by rfl) 5 underlying172 (by kernel_rfl) g (m*64) k 64 (by rfl) ⟨w.heap.size,1,none⟩ k 64 (by rfl) ((x.take k).map (Value.int .u8)) HL.o aF.o (λj hj=>(HT.o j (by omega)).1) (λj hj=>(HT.o j (by omega)).2) (UA _) ?_))
 have aD:=(aH.o.I ((AB _ wy).drew)).part m (by omega) k hk x hx
 have aK:w.grownBy (wy.drew.setCells g (m*64) ((x.take k).map (Value.int .u8))) (some g):=by
  have aG:=WC g ((x.take k).map (Value.int .u8)) (m*64) wy.drew;refine⟨aG.1.j aB.o.os,aG.2.1.j aB.o.tape,aG.2.2.j aB.o.output,by rw[TL];exact aB.o.size,λi hi aQ=>?_⟩;rw[dm g _ _ _ i (λe=>aQ (by rw[e]))];exact aB.o.block i hi
 have aE:=LE aD;have aL:=LE aK;clear aD aK;go_wp2;go_end0;exact⟨rfl,aE.o,aL.o⟩
def pG(v:Value)(cs:List Value)(z:Array Value)(hz:z.size=cs.length+1):List.foldl (λ(r:Array Value) (x:Value×Nat)=>r.setIfInBounds (1+x.snd) x.fst) (z.setIfInBounds 0 v) cs.zipIdx=(v::cs).toArray:=by
 obtain⟨h3,h4⟩:=Great.foldl_set 1 cs 0 (z.setIfInBounds 0 v)
 apply Array.ext_getElem?
 intro k;have e:=h4 k;rw[e,Array.size_setIfInBounds]
 by_cases hk:1<=k/\k<1+cs.length
 ·rw[AK ⟨by omega,by omega,by omega⟩]
  obtain⟨j,rfl⟩:∃j,k=j+1:=⟨k-1,by omega⟩;simp
 rw[AE (by omega)]
 by_cases h0:k=0
 ·subst h0
  simp[show 0<z.size by omega]
 rw[DW (by simp;omega),DW (by simp;omega)]
def yr(v:Value)(cs:List Value)(n:Nat)(hn:cs.length+1=n)(z:Array Value)(hz:z.size=n)(h0:z[0]?=some v):List.foldl (λ(r:Array Value) (x:Value×Nat)=>r.setIfInBounds x.snd x.fst) z (cs.zipIdx 1)=(v::cs).toArray:=by
 obtain⟨h3,h4⟩:=Great.foldl_set 0 cs 1 z
 have e0:(λ(r:Array Value) (x:Value×Nat)=>r.setIfInBounds (0+x.2) x.1)=λ(r:Array Value) (x:Value×Nat)=>r.setIfInBounds x.snd x.fst:=by funext r x;rw[BF]
 rw[e0]at h3 h4
 apply Array.ext_getElem?
 intro k;rw[h4 k]
 by_cases hk:1<=k/\k<1+cs.length
 ·rw[AK ⟨by omega,by omega,by omega⟩]
  obtain⟨j,rfl⟩:∃j,k=j+1:=⟨k-1,by omega⟩;simp
 rw[AE (by omega)]
 by_cases aA:k=0
 ·subst aA;rw[h0];simp
 rw[DW (by omega),DW (by simp;omega)]
def br:WY.size=65:=by kernel_rfl
def tq:¬(WY=#[]):=λh=>by have:=BT Array.size h;rw[br]at this;cases this
set_option maxRecDepth 100000 in
def wG(a:Option Addr)(ps:List (List Int))(c:Nat)(a':Option Addr)(hs:List (Int×List Int))(c':Nat)(w:World)(h:Plt w a ps)(h':Hld w a' hs)(hl:ps.length<=200)(cL:hs.length<=300)(cB:∀p∈ps,p.length=64)(bJ:∀p∈hs,p.2.length=64):Calls prog 78 #[LN a ps.length c a' hs.length c'] w λe w'=>∃v v',e=.returned (.agg #[v,v'])/\w'.ownsRow w.heap.size 9 1 v ps.length ((NK ps).map Value.string)/\w'.ownsRow w.heap.size 158 2 v' hs.length (LU (XbJ hs))/\(v.ownBlock=none\/v'.ownBlock=none\/v.ownBlock≠v'.ownBlock)/\Below w.heap.size w w':=by
 obtain⟨i0,aP,aS,aT,aU⟩:=XW mp;have HI:=LE (AG aP (AG aS (AG aT aU)));clear aP aS aT aU;obtain⟨i1,aP,aS,aT,aU⟩:=XW ir;have aY:=LE (AG aP (AG aS (AG aT aU)));clear aP aS aT aU;go_enter func78,ntmps78;go_wp2;go_loopw [5,11] (λ_ i wr=>∃(k:Nat) (v:Value),k<=ps.length/\i=.int .i64 k/\Dsk w wr (w.heap.size+1) (w.heap.size+1+1) (w.heap.size+1+1+1) 9 158 v (.slice none 0 0) (NK (ps.take k)) []/\wr.cell? ⟨w.heap.size,1,none⟩=some (.slice a' hs.length c')) (λ_ i _=>ps.length-(intOf i).toNat)
 case atStart=>exact⟨0,_,AH _,rfl,Dsk.start3 _ _ _ _ _ _ _ _,by go_simp⟩
 case round =>
  obtain⟨k,v,hk,rfl,hd,hq⟩:=hrel
  by_cases bQ:k<ps.length
  ·obtain⟨b,o,x,rfl,cF,aQ,HS⟩:=(h.I hd.bel).at bQ
   have aR:x.length=64:=by rw[HS.o];exact cB _ (by simp[List.getD,bQ])
   have aI:(x.map (Value.int .u8)).length=64:=by simp[aR]
   have aH:(NK (ps.take k)).length=k:=by simp[NK];omega
   have HL:=LE aH;have HD:=LE hd;have HQ:=LE hq;clear hd hq aH;have aK:Hid ((prog.info? 168).map (·.size)=some (x.map (Value.int .u8)).length):=by rw[aI];show _=_;kernel_rfl
   have bE:=LE aI.symm;clear aI
   go_wp2_with (first|(with_reducible refine WL 168 _ rfl ?_;refine AN rfl 168 _ rfl b (o+k*64) rfl (x.map (Value.int .u8)) _ aQ underlying168 rfl aK.o ?_)|(with_reducible refine UX 168 _ _ rfl ?_;refine ZA rfl 168 _ _ rfl (x.map (Value.int .u8)) (UA x) rfl rfl _ _ (by rw[<-bE.o];kernel_rfl) aK.o ?_;intro wx aC aE bW))
   have aF:=LE (HD.o.I aE);have q0:=(HD.o.I aE).d0;have q1:=(HD.o.I aE).fd0;have cH:w.heap.size+1+1<wx.heap.size:=by have:=aF.o.sz;omega
   have aN:w.heap.size+1+1+1<=wx.heap.size:=aF.o.sz;have cC:=aC.drew.text (P:=prog) x 0 64 64 aR (λi hi=>by simp[List.getD,show i<x.length by omega]) 172 5 9 underlying172 underlying5 underlying9;have cA:Hid (wx.cell? ⟨w.heap.size,1,none⟩=some (.slice a' hs.length c')):=(aE.cell (p:=⟨w.heap.size,1,none⟩) (by have:=HD.o.sz;show w.heap.size<wr.heap.size;omega)).j HQ.o;have HO:=LE (aF.o.drew.own.alloc (.cells #[.string (strOfNums x)] 9));have aJ:=LE (aF.o.drew.alloc (.cells #[.string (strOfNums x)] 9));clear aC aE bW HD HQ aQ
   go_region_law (first|(refine step_append_lies _ (by rfl) _ _ _ (by rfl) (w.heap.size+1+1+1) 9 i0 (.string empty) 1 16 underlying22 HI.o.1 HI.o.2.1 HI.o.2.2.1 HI.o.2.2.2 rfl (by omega) v (NK (ps.take k)).length ((NK (ps.take k)).map Value.string) (by rfl) HO.o ⟨wx.heap.size,0,none⟩ 1 1 [.string (strOfNums x)] (by rfl) rfl (World.news_of_block (AY wx.drew _)) (by intro u hu;simp at hu;subst hu;rfl) (by omega) (by rw[HL.o];unfold maxLen;omega) (by rw[HL.o];omega) (by simp<;>omega) (wx.heap.size+1) (by simp) ?_;intro g cap w3 aD aA aM bU;obtain⟨q4,q5⟩:=aJ.o.z aA;have bC:=LE aD;have aX:=LE aA;have aZ:=LE aM;clear aD aA aM))
   all_goals
    have aB:=aJ.o.push bC.o aX.o aZ.o (by simp);have aO:=(aJ.o.far aX.o w.heap.size 1 0 (by omega) (by omega) (.slice (some ⟨g,0,none⟩) ((NK (ps.take k)).length+1) cap)).j ((EK (w:=wx.drew) _ w.heap.size 1 (by show w.heap.size<wx.heap.size;omega)).j cA.o);rw[HS.o,<-D3 ps k bQ]at aB;have HP:=LE aB;have HF:=LE aO;clear aB aO;go_wp2;go_roundw
    case rel=>exact⟨k+1,_,by omega,by go_num,HP.o,HF.o⟩
    case measure=>simp[intOf];omega
  have cE:Hid (ps.take k=ps):=AT (by omega)
  rw[cE.o]at hd;have bT:w.heap.size<wr.heap.size:=by have:=hd.sz;omega
  go_wp2;go_loopw [7,26] (λ_ i wr=>∃(k:Nat) (v':Value),k<=hs.length/\i=.int .i64 k/\Dsk w wr (w.heap.size+1) (w.heap.size+1+1) (w.heap.size+1+1+1) 9 158 v v' (NK ps) (XbJ (hs.take k))) (λ_ i _=>hs.length-(intOf i).toNat)
  case atStart=>exact⟨0,_,AH _,rfl,hd⟩
  case round =>
   clear hd hq bT;obtain⟨k2,v',cJ,rfl,hd⟩:=hrel
   by_cases aG:k2<hs.length
   ·obtain⟨b,o,n,x,rfl,cF,aQ,HS⟩:=(h'.I hd.bel).at aG
    have aR:x.length=64:=by
     have:=bJ (n,x) (by rw[HS.o];simp[List.getD,aG]);exact this
    have aI:(Value.int .i64 n::x.map (Value.int .u8)).length=65:=by simp[aR]
    have aH:(XbJ (hs.take k2)).length=k2:=by simp[XbJ];omega
    have HL:=LE aH;have HD:=LE hd;clear hd aH;have aL:Hid ((prog.info? 171).map (·.size)=some (Value.int .i64 n::x.map (Value.int .u8)).length):=by rw[aI];show _=_;kernel_rfl
    have bE:=LE aI.symm;clear aI;have cN:=cn
    go_wp2_with (first|(with_reducible refine WL 171 _ rfl ?_;refine AN rfl 171 _ rfl b (o+k2*65) rfl (Value.int .i64 n::x.map (Value.int .u8)) _ aQ underlying171 rfl aL.o ?_)|(with_reducible refine UX 171 _ _ rfl ?_;refine ZA rfl 171 _ _ rfl (Value.int .i64 n::x.map (Value.int .u8)) (bw n x) rfl rfl _ _ (by rw[<-bE.o];kernel_rfl) aL.o ?_;intro wx aC aE bW))
    have aF:=LE (HD.o.I aE);have q0:=(HD.o.I aE).d1;have q1:=(HD.o.I aE).fd1;have cH:w.heap.size+1+1<wx.heap.size:=by have:=aF.o.sz;omega
    have cM:wr.heap.size<wx.heap.size:=by omega
    have aN:w.heap.size+1+1+1<=wx.heap.size:=aF.o.sz;have cI:wx.cell? ⟨wr.heap.size,0,none⟩=some (.int .i64 n):=aC.x 0;have cC:=aC.drew.text (P:=prog) x 1 64 64 aR (λi hi=>by rw[show 1+i=i+1 by omega];simp[List.getD,show i<x.length by omega]) 172 5 9 underlying172 underlying5 underlying9;have HO:=LE (aF.o.drew.own'.alloc (.cells #[.int .i64 n,.string (strOfNums x)] 158));have aJ:=LE (aF.o.drew.alloc (.cells #[.int .i64 n,.string (strOfNums x)] 158));clear aC aE bW HD aQ
    go_region_law (first|(refine step_append_lies _ (by rfl) _ _ _ (by rfl) (w.heap.size+1+1+1) 158 i1 (.agg #[.int .i64 0,.string empty]) 2 24 underlying42 aY.o.1 aY.o.2.1 aY.o.2.2.1 aY.o.2.2.2 rfl (by omega) v' (XbJ (hs.take k2)).length (LU (XbJ (hs.take k2))) (by rfl) HO.o ⟨wx.heap.size,0,none⟩ 1 1 [.int .i64 n,.string (strOfNums x)] (by rfl) rfl (World.news_of_block (AY wx.drew _)) (by intro u hu;simp at hu;rcases hu with rfl|rfl<;>rfl) (by omega) (by rw[HL.o];unfold maxLen;omega) (by rw[HL.o];omega) (by simp<;>omega) (wx.heap.size+1) (by simp) ?_;intro g cap w3 aD aA aM bU;obtain⟨q4,q5⟩:=aJ.o.grown2 aA;have bC:=LE aD;have aX:=LE aA;have aZ:=LE aM;clear aD aA aM))
    all_goals
     have aB:=aJ.o.push2 (x:=(n,strOfNums x)) bC.o aX.o aZ.o (by simp);rw[show(n,strOfNums x)=((hs.getD k2 (0,[])).1,strOfNums (hs.getD k2 (0,[])).2) by rw[<-HS.o],<-zP hs k2 aG]at aB;have HP:=LE aB;clear aB;go_wp2;go_roundw
     case rel=>exact⟨k2+1,_,by omega,by go_num,HP.o⟩
     case measure=>simp[intOf];omega
   have bP:Hid (hs.take k2=hs):=AT (by omega)
   rw[bP.o]at hd;have HD:=LE hd;have q0:=hd.d0;have q1:=hd.d1;have q2:=hd.r0;have q3:=hd.r1;have q4:=hd.fr0;have q5:=hd.fr1;have o1:=hd.own;have o2:=hd.own';obtain⟨av,nv,cv,rfl⟩:∃a n c,v=.slice a n c:=by rcases MM hd.own with ⟨e,_⟩|⟨g,c,e,_⟩<;>exact⟨_,_,_,e⟩
   obtain⟨bF,b7,bI,rfl⟩:∃a n c,v'=.slice a n c:=by rcases MM hd.own' with ⟨e,_⟩|⟨g,c,e,_⟩<;>exact⟨_,_,_,e⟩
   clear hd o1 o2;go_wp2;have aH:(NK ps).length=ps.length:=by simp[NK]
   have bV:(XbJ hs).length=hs.length:=by simp[XbJ]
   have aV:=DJ (DJ HD.o.own (a:=⟨w.heap.size+1,0,none⟩) (by show w.heap.size+1<_;omega) (.slice av nv cv)) (a:=⟨w.heap.size+1,1,none⟩) (by show w.heap.size+1<_;omega) (.slice bF b7 bI);have aW:=DJ (DJ HD.o.own' (a:=⟨w.heap.size+1,0,none⟩) (by show w.heap.size+1<_;omega) (.slice av nv cv)) (a:=⟨w.heap.size+1,1,none⟩) (by show w.heap.size+1<_;omega) (.slice bF b7 bI);rw[aH]at aV;rw[bV]at aW;refine AJ (v:=.agg #[.slice av nv cv,.slice bF b7 bI]) (by simp[results,results78,go_sem,q2,q3]) rfl ⟨_,_,rfl,aV.i (by omega),aW.i (by omega),HD.o.apart,?_⟩;exact(HD.o.bel.setCell (by show w.heap.size<=w.heap.size+1;omega) _).setCell (by show w.heap.size<=w.heap.size+1;omega) _
def ny(a:Option Addr)(ps:List (List Int))(n c:Nat)(a':Option Addr)(hs:List (Int×List Int))(n' c':Nat)(hn:ps.length=n)(aF:hs.length=n')(w:World)(h:Plt w a ps)(h':Hld w a' hs)(hl:n<=200)(aE:n'<=300)(aC:∀p∈ps,p.length=64)(aB:∀p∈hs,p.2.length=64):Calls prog 78 #[LN a n c a' n' c'] w λe w'=>∃a1 c1 aA c1',e=.returned (LN a1 n c1 aA n' c1')/\OwnD w' a1 (NK ps) aA (XbJ hs)/\(∀g,blk a1 n=some g->w.heap.size<=g)/\(∀g,blk aA n'=some g->w.heap.size<=g)/\Below w.heap.size w w':=by
 subst hn aF;refine(wG a ps c a' hs c' w h h' hl aE aC aB).i ?_;rintro e w' ⟨v,v',rfl,o1,o2,aD,hb⟩;have l1:(NK ps).length=ps.length:=by simp[NK]
 have l2:(XbJ hs).length=hs.length:=by simp[XbJ]
 have f1:∃a1 c1,v=.slice a1 ps.length c1/\OwnS w' a1 ((NK ps).map Value.string)/\(∀g,blk a1 ps.length=some g->w.heap.size<=g)/\(blk a1 ps.length=none\/blk a1 ps.length=v.ownBlock):=by
  rcases MM o1 with ⟨e,h0⟩|⟨g,cap,e,h1,_,hr⟩
  ·refine⟨none,0,by rw[h0];exact e,.inl ?_,λg hg=>?_,.inl ?_⟩
   ·rw[AC (l1.j h0)];rfl
   ·rw[h0]at hg;cases hg
   rw[h0];rfl
  refine⟨_,cap,e,.inr ⟨g,rfl,hr⟩,λg' hg=>?_,?_⟩
  ·unfold blk at hg;split at hg
   ·cases hg
   cases hg;exact h1
  unfold blk;split
  ·exact .inl rfl
  right;rw[e];rfl
 have f2:∃a1 c1,v'=.slice a1 hs.length c1/\OwnS w' a1 (LU (XbJ hs))/\(∀g,blk a1 hs.length=some g->w.heap.size<=g)/\(blk a1 hs.length=none\/blk a1 hs.length=v'.ownBlock):=by
  rcases MM o2 with ⟨e,h0⟩|⟨g,cap,e,h1,_,hr⟩
  ·refine⟨none,0,by rw[h0];exact e,.inl ?_,λg hg=>?_,.inl ?_⟩
   ·rw[AC (l2.j h0)];rfl
   ·rw[h0]at hg;cases hg
   rw[h0];rfl
  refine⟨_,cap,e,.inr ⟨g,rfl,hr⟩,λg' hg=>?_,?_⟩
  ·unfold blk at hg;split at hg
   ·cases hg
   cases hg;exact h1
  unfold blk;split
  ·exact .inl rfl
  right;rw[e];rfl
 obtain⟨a1,c1,e1,g1,g2,g3⟩:=f1;obtain⟨a2,c2,e2,k1,k2,k3⟩:=f2;refine⟨a1,c1,a2,c2,by rw[e1,e2],⟨g1,k1,?_⟩,g2,k2,hb⟩;rw[l1,l2];rcases g3 with g3|g3
 ·exact .inl g3
 rcases k3 with k3|k3
 ·exact .inr (.inl k3)
 rw[g3,k3];exact aD
def qr{p u:Tmp}{ty:TypeId}(h:fn.results=#[.cell p ty,.tmp u])(tmps:Array Value)(w:World)(b o:Nat)(hp:tmps.getD p undef=.pointer (some ⟨b,o,none⟩))
  (cs:List Value)(d:TypeDesc)(hc:w.rangeAt b o cs)(hu:P.underlying ty=some d)(hd:d.isRow=true)(hi:(P.info? ty).map (·.size)=some cs.length):(results fn tmps).run P w=.ok (.tuple #[.agg cs.toArray,tmps.getD u undef]) w:=by
 have hl:=JB (P:=P) w b o ty cs d hc hu hd hi;rw[results_cell_tmp h];simp[hp,asAddr,hl,Result.andThen]
set_option maxRecDepth 100000 in
def D2(g n c m:Nat)(ps:List (List Int))(w:World)(hp:PR w g ps)(hl:ps.length=n)(aH:n<=200)(hm:m<n):Calls prog 268 #[.slice (some ⟨g,0,none⟩) n c,.int .i64 (m:Int)] w λe w'=>e=.returned (.tuple #[.agg ((ps.getD m []).map (Value.int .u8)).toArray,.bool true])/\Below w.heap.size w w':=by
 have aC:∀o,(w.alloc o).rangeAt g (m*64) ((ps.getD m []).map (Value.int .u8)):=λo=>(hp.I (MB w o)).range (k:=m) (by omega)
 have aB:=YL hp.len (k:=m) (by omega);obtain⟨x,HX⟩:∃x,Hid (x=ps.getD m []):=⟨_,LE rfl⟩;rw[<-HX.o]at aC aB⊢;have aD:(x.map (Value.int .u8)).toArray.size=64:=by simp[aB]
 have aA:Hid ((prog.info? 168).map (·.size)=some (x.map (Value.int .u8)).length):=by show _=_;rw[BJ,aB];kernel_rfl
 have aE:=LE aC;have aF:¬((m:Int)<0):=by omega
 have aG:¬(n<=m):=by omega
 clear aC;go_enter func268,ntmps268
 go_wp2_with (first|(with_reducible refine WL 168 _ rfl ?_;refine AN rfl 168 _ rfl g (m*64) rfl (x.map (Value.int .u8)) _ (by exact aE.o _) underlying168 rfl aA.o ?_)|(with_reducible refine UX 168 _ _ rfl ?_;refine BI rfl 168 _ _ rfl w.heap.size 0 (x.map (Value.int .u8)).toArray rfl rfl (by rw[aD];exact(ME w _ _).there (by kernel_rfl)) (by rw[aD];kernel_rfl) (FQ (UA x)) ?_))
 refine AJ (v:=.tuple #[.agg (x.map (Value.int .u8)).toArray,.bool true]) (qr (p:=4) (u:=5) results268 _ _ w.heap.size 0 rfl (x.map (Value.int .u8)) _ (DS _ _ _ _ (by rw[BJ,aB];exact(ME w _ _).there (by kernel_rfl))) underlying168 rfl aA.o) rfl ⟨rfl,?_⟩;exact Go.below_setCells (AA _) _ _ _ (MB _ _)
set_option maxRecDepth 100000 in
def nV(a a':Option Addr)(n c n' c':Nat)(w:World):Calls prog 163 #[.agg #[.slice a n c,.slice a' n' c']] w λe w'=>e=.returned (.iface 260 (.agg #[.slice a' n' c',.iface 133 (.slice a n c)]))/\Below w.heap.size w w':=by
 go_enter func163,ntmps163;go_wp2;go_ret;exact⟨rfl,MB _ _⟩
