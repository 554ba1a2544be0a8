import Derived.Test.YtjdmogljfdffeaaGreatDoorPrAm
import Derived.Test.YtjdmogljfdffeaaGreatDoorPrAn
import Derived.Test.YtjdmogljfdffeaaGreatDoorPrAp
import Derived.Laws.BytesArg
import Derived.WalkKit
import Derived.OrdersHeld
import Derived.Deep.RegionHeld
import Derived.Below
import Derived.Laws.MakeOwn
import Derived.WalkSmall
import Derived.Deep.Draws
import Derived.Deep.AppendLies
import Derived.WalkSpells
import Derived.WalkLawsBesides
import Derived.Outline
import Derived.BigQuiet
import Derived.Deep.QuietTactic
import Derived.Deep.RegionHeld3
import Derived.Test.YtjdmogljfdffeaaGreatDoorProg
import Derived.OneCell
set_option maxHeartbeats 16000000
set_option maxRecDepth 8000
set_option linter.all false
namespace Go.Proofs.YtjdmogljfdffeaaGreatDoor
open _root_.ByteArray(empty)
section
open Tryz
open Go.RowKit
variable {a:Act}{aA:Array Bool}{aB:Array Oper}{Q:Exit->Act->World->Prop}{ws:List (Int×ByteArray)}{ss:List ByteArray}{cs:List Value}{N aC g:Nat}{oi:Oper}{P:Program}{md:Region.Mode}{w w':World}{S:World->Prop}
def sh:Nat->Int->Int
 | 0,v=>v
 | j+1,v=>sh j v / 256
theorem uJ(j:Nat)(v:Int)(b:0<=v)(c:v<=18446744073709551615):0<=sh j v/\sh j v<=18446744073709551615:=by
 induction j with
 | zero=>exact⟨b,c⟩
 | succ j d=>unfold sh;omega
theorem xK(j:Nat)(v:Int)(b:0<=v)(c:v<=9223372036854775807):0<=sh j v/\sh j v<=9223372036854775807:=by
 induction j with
 | zero=>exact⟨b,c⟩
 | succ j d=>unfold sh;omega
def be(n:Nat)(v:Int):List Int:=(List.range n).map λi=>sh (n-1-i) v % 256
theorem OL(n:Nat)(v:Int):(be n v).length=n:=by simp[be]
theorem vx(n:Nat)(v:Int):be (n+1) v=(sh n v % 256)::be n v:=by
 unfold be;rw[List.range_succ_eq_map];simp only[IC,GW,JP];refine⟨σ,?_⟩
 apply IP
 intro i b;simp at b;simp only[Function.comp];rw[show n+1-1-(i+1)=n-1-i by omega]
theorem pH(n:Nat)(v:Int)(i:Nat)(h:i<n):(be n v).getD i 0=sh (n-1-i) v % 256:=by
 simp[be,List.getD,h]
theorem TT(a b:List Int):strOfNums (a++b)=strOfNums a++strOfNums b:=by
 apply EP
 simp[strOfNums]
def lm(x:Int)(c:UInt8):Int:=IntKind.u64.wrap (bits BinOp.xor IntKind.u64 x (IntKind.u64.wrap (c.toNat:Int))*1099511628211)
def PV(l:List UInt8):Int:=l.foldl lm 14695981039346656037
theorem C9(x:Int):0<=IntKind.u64.wrap x/\IntKind.u64.wrap x<=18446744073709551615:=by
 simp[IntKind.wrap,IntKind.bits,IntKind.signed];omega
theorem XW(x:Int)(b:0<=x)(c:x<=18446744073709551615):IntKind.u64.wrap x=x:=by
 simp[IntKind.wrap,IntKind.bits,IntKind.signed];omega
theorem xy(l:List UInt8)(c:UInt8):PV (l++[c])=lm (PV l) c:=by simp[PV]
theorem oR(l:List UInt8):0<=PV l/\PV l<=18446744073709551615:=by
 rcases EF l with rfl|⟨b,c,rfl⟩
 ·unfold PV;simp
 rw[List.concat_eq_append,xy];exact C9 _
theorem wi(s:ByteArray)(k:Nat)(h:k<s.size):s.data.toList.take (k+1)=s.data.toList.take k++[s[k]]:=by
 rw[AX (by simpa using h)];rfl
def UH(s:ByteArray)(n:Nat):ByteArray:=strOfNums (be n (PV s.data.toList))
theorem ia(s:ByteArray)(n:Nat):(UH s n).size=n:=by unfold UH;rw[BU,OL]
theorem og{t e:TypeId}{L:Nat}(d:P.underlying t=some (.array L e))(m:∀w,(sizeOf e).run P w=.ok 1 w)(b c l:Nat)(n:l<L)(k:IntKind)(f:Int)(aA:f=(l:Int))(w:World):(Instr.sliceAt t (.pointer (some ⟨b,c,none⟩)) (some (.int k f)) none none).run P w=.ok (.slice (some ⟨b,c+l,none⟩) (L-l) (L-l)) w:=by
 have h:P.arrayLen t=L:=by simp[Program.arrayLen,d]
 have i:P.elem t=e:=by simp[Program.elem,d]
 rw[run_sliceAt_array_l (P:=P) w t ⟨b,c,none⟩ (by rw[h,i];exact d) k f ω ω,h,i,m,aA];have j:L≠l:=ω
 simp[slicedAt,j,Addr.add]
theorem rj{t e:TypeId}{L:Nat}(d:P.underlying t=some (.array L e))(l:∀w,(sizeOf e).run P w=.ok 1 w)(b c h:Nat)(n:0<L)(o:h<=L)(k:IntKind)(f:Int)(aA:f=(h:Int))(w:World):(Instr.sliceAt t (.pointer (some ⟨b,c,none⟩)) none (some (.int k f)) none).run P w=.ok (.slice (some ⟨b,c,none⟩) h L) w:=by
 have i:P.arrayLen t=L:=by simp[Program.arrayLen,d]
 have j:P.elem t=e:=by simp[Program.elem,d]
 rw[run_sliceAt_array_h (P:=P) w t ⟨b,c,none⟩ (by rw[i,j];exact d) k f ω ω,i,j,l,aA];have m:L≠0:=ω
 simp[slicedAt,Addr.add]
theorem VF(p:ByteArray):p.toList.isEmpty=decide (p.size=0):=by
 rw[DF];have e:p.size=p.data.toList.length:=rfl;rw[e]
 cases p.data.toList<;>simp
def KU(p:ByteArray):List Int:=p.data.toList.map λc=>(c.toNat:Int)
theorem ME(p:ByteArray):(KU p).length=p.size:=by simp[KU]
theorem TI(p:ByteArray):strOfNums (KU p)=p:=by
 apply EP
 simp[strOfNums,KU,Function.comp_def]
def VT(k l m:Int)(p:ByteArray):List Int:=be 1 k++be 2 l++be 4 m++be 1 (p.size:Int)++KU p
theorem rl(k l m:Int)(p:ByteArray):(VT k l m p).length=8+p.size:=by
 simp[VT,OL,ME];omega
def PK(k l m:Int)(p:ByteArray)(n:Nat):List Int:=VT k l m p++List.replicate (56-n-p.size) 0
theorem rC(k l m:Int)(p:ByteArray)(n:Nat)(h:p.size+n<=56):(PK k l m p n).length=64-n:=by
 simp[PK,rl];omega
def RJ(k l m:Int)(p:ByteArray)(n:Nat):ByteArray:=UH (strOfNums (PK k l m p n)) n++strOfNums (PK k l m p n)
theorem aa(k l m:Int)(p:ByteArray)(n:Nat)(h:p.size+n<=56):(RJ k l m p n).size=64:=by
 unfold RJ;rw[BK,ia,BU,rC k l m p n h];omega
structure Wrote(w w':World)(b off:Nat)(xs:List Int):Prop where
 os:w'.os=w.os
 tape:w'.tape=w.tape
 output:w'.output=w.output
 size:w'.heap.size=w.heap.size
 others:∀k,k≠b->w'.heap[k]?=w.heap[k]?
 inside:∀i,i<xs.length->w'.cell? ⟨b,off+i,none⟩=some (.int .u8 (xs.getD i 0))
 outside:∀o,(o<off\/off+xs.length<=o)->w'.cell? ⟨b,o,none⟩=w.cell? ⟨b,o,none⟩
 frozen:∀a,w'.frozen? a=w.frozen? a
theorem Wrote.refl(w:World)(b c:Nat):Wrote w w b c []:=⟨rfl,rfl,rfl,rfl,λ_ _=>rfl,λi h=>by simp at h,λ_ _=>rfl,λ_=>rfl⟩
theorem Wrote.z{b c:Nat}{d:List Int}(h:Wrote w w' b c d){B:Nat}(e:B<=b):Below B w w' :=⟨h.os,h.tape,h.output,by rw[h.size];exact Y _,λk f=>h.others k ω⟩
theorem Wrote.step{b off:Nat}{xs:List Int}(h:Wrote w w' b (off+1) xs)(n:Int){u:Value}(d:w.cell? ⟨b,off,none⟩=some u):Wrote w (w'.setCell ⟨b,off,none⟩ (.int .u8 n)) b off (n::xs):=by
 have aA:w'.cell? ⟨b,off,none⟩=some u:=(h.outside off (.inl ω)).j d;refine⟨h.os,h.tape,h.output,?_,λk c=>?_,λi e=>?_,λo f=>?_,λa=>?_⟩
 ·rw[<-h.size];simp[World.setCell]
 ·rw[BD _ _ _ _ c];exact h.others k c
 ·cases i with
  | zero=>simpa using FD w' ⟨b,off,none⟩ (.int .u8 n) aA
  | succ i =>
   rw[BZ (w:=w') (h:=show(⟨b,off,none⟩:Addr)≠⟨b,off+(i+1),none⟩ by simp)];have:=h.inside i (by simpa using e);rw[show off+(i+1)=off+1+i by omega,this];simp
 ·simp only[CA]at f
  rw[BZ (w:=w') (h:=show(⟨b,off,none⟩:Addr)≠⟨b,o,none⟩ by simp<;>omega)];exact h.outside o ω
 rw[BL];exact h.frozen a
@[reducible] def sJ(a b c d e f g h i:Int)(y:Value):List Value:=[.int .i64 a,.int .i64 b,.int .i64 c,.int .i64 d,.int .i64 e,.int .i64 f,.int .i64 g,.int .i64 h,.int .i64 i,y]
@[reducible] def sK(a b c d e f g h i:Int)(y:Value):Array Value:=#[.int .i64 a,.int .i64 b,.int .i64 c,.int .i64 d,.int .i64 e,.int .i64 f,.int .i64 g,.int .i64 h,.int .i64 i,y]
@[reducible] def dJ(z a b c d e f g h i:Int)(y x:Value):List Value:=[.int .i64 z,.int .i64 a,.int .i64 b,.int .i64 c,.int .i64 d,.int .i64 e,.int .i64 f,.int .i64 g,.int .i64 h,.int .i64 i,y,x]
@[reducible] def dK(z a b c d e f g h i:Int)(y x:Value):Array Value:=#[.int .i64 z,.int .i64 a,.int .i64 b,.int .i64 c,.int .i64 d,.int .i64 e,.int .i64 f,.int .i64 g,.int .i64 h,.int .i64 i,y,x]
theorem J:(∀(a:Act) (t:Nat) (v:Value),a.put (some t) v={ a with tmps:=a.tmps.setIfInBounds t v })/\(∀(a:Act) (v:Value),a.put none v=a)/\(∀(l:List Value) (i:Nat) (v:Value),l.toArray.setIfInBounds i v=(l.set i v).toArray)/\(∀(x y:Value) (l:List Value),(x::l).set 0 y=y::l)/\(∀(x y:Value) (l:List Value) (n:Nat),(x::l).set (n+1) y=x::l.set n y)/\(∀(l:List Oper) (i:Nat) (h:i<l.toArray.size),l.toArray[i]=l[i]'(by simpa using h))/\(∀(x:Oper) (l:List Oper) (h:0<(x::l).length),(x::l)[0]'h=x)/\(∀(x:Oper) (l:List Oper) (i:Nat) (h:i+1<(x::l).length),(x::l)[i+1]'h=l[i]'(by simpa using h)) :=⟨λ_ _ _=>rfl,λ_ _=>rfl,λ_ _ _=>σ,λ_ _ _=>rfl,λ_ _ _ _=>rfl,λ_ _ _=>σ,λ_ _ _=>rfl,λ_ _ _ _=>rfl⟩
theorem TK(i:Nat)(v:Value)(f:aB[i]?=some oi)(l:YieldsIf P aB S oi v a)(d:S w)
  (h:wpAnyH P md aB Q S aC (aA.setIfInBounds i true) (a.put oi.dst v) w)(k:Region.noSelect aB=true:=by kernel_rfl)(e:Region.free md aB aA i=true:=by kernel_rfl)(j:(Region.ready md aB aA).contains i=true:=by kernel_rfl)
  (b:∀c a w,Q (.panic c) (a.put oi.dst v) w->Q (.panic c) a w:=by exactλ_ _ _ h=>h):wpAnyH P md aB Q S (aC+1) aA a w:=wpAnyH_take f k e j b l d h
theorem V(i:Nat)(v:Value)(f:aB[i]?=some oi)(d:S w)
  (h:wpAnyH P md aB Q S aC (aA.setIfInBounds i true) (a.put oi.dst v) w)(l:YieldsIf P aB S oi v a:=by exact BW ⟨ρ,λw hw=>by(repeat (obtain⟨_,hw⟩:=hw));go_simp⟩)(k:Region.noSelect aB=true:=by kernel_rfl)(e:Region.free md aB aA i=true:=by kernel_rfl)(j:(Region.ready md aB aA).contains i=true:=by kernel_rfl)
  (b:∀c a w,Q (.panic c) (a.put oi.dst v) w->Q (.panic c) a w:=by exactλ_ _ _ h=>h):wpAnyH P md aB Q S (aC+1) aA a w:=wpAnyH_take f k e j b l d h
theorem TZ(i:Nat)(v:Value)(f:aB[i]?=some oi)(d:S w)
  (h:wpAnyH P md aB Q S aC (aA.setIfInBounds i true) (a.put oi.dst v) w)(l:YieldsIf P aB S oi v a:=by exact BW ⟨ρ,λw hw=>by(repeat (obtain⟨_,hw⟩:=hw));go_simp;all_goals omega⟩)(k:Region.noSelect aB=true:=by kernel_rfl)(e:Region.free md aB aA i=true:=by kernel_rfl)(j:(Region.ready md aB aA).contains i=true:=by kernel_rfl)
  (b:∀c a w,Q (.panic c) (a.put oi.dst v) w->Q (.panic c) a w:=by exactλ_ _ _ h=>h):wpAnyH P md aB Q S (aC+1) aA a w:=wpAnyH_take f k e j b l d h
theorem RD{aC:Array Oper}{aB:Nat}(i:Nat){o:Oper}(c:aC[i]?=some o)
  (h:∀b:Act->World->Prop,Shut (∀a w,S w->(S w->wpAnyH P md aC Q S aB (aA.setIfInBounds i true) a w)->b a w)->if Region.wanted o (yielded aC a.tmps)=true then Oper.wp P o a w b Q else b (a.put o.dst undef) w)
  (b:Region.ready md aC aA=[i]:=by kernel_rfl):wpAnyH P md aC Q S (aB+1) aA a w:=DH b σ (AY c h DE)
theorem DN{aC:Array Oper}{aB:Nat}(h:Q .normal a w)(b:Region.ready md aC aA=[]:=by kernel_rfl):wpAnyH P md aC Q S aB aA a w:=wpAnyH_done b h _
theorem Z{p:Prop}(h:p):Hid p:=h
theorem zt{k:IntKind}{a b:Int}(h:a=b):Ending.returned (.int k a)=.returned (.int k b):=by rw[h]
def Strs(w:World)(a:Option Addr)(ss:List ByteArray):Prop :=ss=[]\/∃b o,a=some ⟨b,o,none⟩/\b<w.heap.size/\∀i,i<ss.length->w.cell? ⟨b,o+i,none⟩=some (.string (ss.getD i empty))
def Wrs(w:World)(a:Option Addr)(ws:List (Int×ByteArray)):Prop :=ws=[]\/∃b o,a=some ⟨b,o,none⟩/\b<w.heap.size/\∀i,i<ws.length->w.cell? ⟨b,o+i*2,none⟩=some (.int .i64 (ws.getD i (0,empty)).1)/\w.cell? ⟨b,o+i*2+1,none⟩=some (.string (ws.getD i (0,empty)).2)
theorem Strs.z{a:Option Addr}(h:Strs w a ss)(d:Below w.heap.size w w'):Strs w' a ss:=by
 rcases h with h|⟨b,o,e,c,f⟩
 ·exact .inl h
 exact .inr ⟨b,o,e,AD c d.size,λi j=>(d.cell (p:=⟨b,o+i,none⟩) c).j (f i j)⟩
theorem Wrs.z{a:Option Addr}(h:Wrs w a ws)(d:Below w.heap.size w w'):Wrs w' a ws:=by
 rcases h with h|⟨b,o,j,c,e⟩
 ·exact .inl h
 exact .inr ⟨b,o,j,AD c d.size,λi f=>⟨(d.cell (p:=⟨b,o+i*2,none⟩) c).j (e i f).1,(d.cell (p:=⟨b,o+i*2+1,none⟩) c).j (e i f).2⟩⟩
theorem Strs.at{a:Option Addr}(h:Strs w a ss){k:Nat}(c:k<ss.length):∃b o s,a=some ⟨b,o,none⟩/\w.cell? ⟨b,o+k,none⟩=some (.string s)/\Hid (s=ss.getD k empty):=by
 rcases h with h|⟨b,o,d,f,e⟩
 ·subst h;simp at c
 exact⟨b,o,_,d,e k c,Z rfl⟩
theorem Wrs.at{a:Option Addr}(h:Wrs w a ws){k:Nat}(c:k<ws.length):∃b o n s,a=some ⟨b,o,none⟩/\w.cell? ⟨b,o+k*2,none⟩=some (.int .i64 n)/\w.cell? ⟨b,o+k*2+1,none⟩=some (.string s)/\Hid ((n,s)=ws.getD k (0,empty)):=by
 rcases h with h|⟨b,o,e,f,d⟩
 ·subst h;simp at c
 exact⟨b,o,_,_,e,(d k c).1,(d k c).2,Z rfl⟩
theorem de{α:Type}(l:List α)(k:Nat)(d:α)(h:k<l.length):l.drop k=l.getD k d::l.drop (k+1):=by
 rw[GN h];simp[List.getD,h]
theorem NX{p:Addr}{x:Option Value}(h:Below N w w')(b:w.cell? p=x)(c:p.block<N:=by simp<;>omega):w'.cell? p=x:=(h.cell c).j b
theorem SC{p:Addr}{x:Bool}(h:Below N w w')(b:w.frozen? p=x)(c:p.block<N:=by simp<;>omega):w'.frozen? p=x:=(h.frozen c).j b
theorem k3(h:Below N w w')(g:Nat)(a b c:Value)(j:w.cell? ⟨g,0,none⟩=some a:=by go_simp)(e:w.frozen? ⟨g,0,none⟩=false:=by go_simp)(k:w.cell? ⟨g,1,none⟩=some b:=by go_simp)(f:w.frozen? ⟨g,1,none⟩=false:=by go_simp)(l:w.cell? ⟨g,2,none⟩=some c:=by go_simp)(i:w.frozen? ⟨g,2,none⟩=false:=by go_simp)(d:g<N:=by simp<;>omega):w'.cell? ⟨g,0,none⟩=some a/\w'.frozen? ⟨g,0,none⟩=false/\w'.cell? ⟨g,1,none⟩=some b/\w'.frozen? ⟨g,1,none⟩=false/\w'.cell? ⟨g,2,none⟩=some c/\w'.frozen? ⟨g,2,none⟩=false:=⟨NX h j d,SC h e d,NX h k d,SC h f d,NX h l d,SC h i d⟩
theorem KW(w:World)(o:Obj):Below w.heap.size w (w.alloc o):=(AC _ _).alloc (Y _) _
theorem NC{v:Ending}{K:Ending->World->Prop}(h:K v w):∀e w',e=v/\w'=w->K e w':=λ_ _ k=>by rw[k.1,k.2];exact h
structure Row(w:World)(g:Nat)(cs:List Value):Prop where
 lt:g<w.heap.size
 cell:∀i v,cs[i]?=some v->w.cell? ⟨g,i,none⟩=some v
 froz:∀i,i<cs.length->w.frozen? ⟨g,i,none⟩=false
theorem Row.y{w:World}{g:Nat}{cs:List Value}(h:Row w g cs)(i:Nat){v:Value}(hv:cs[i]?=some v:=by rfl):w.cell? ⟨g,i,none⟩=some v:=h.cell i v hv
theorem Row.E{w:World}{g:Nat}{cs:List Value}(h:Row w g cs)(i:Nat)(b:i<cs.length:=by simp):w.frozen? ⟨g,i,none⟩=false:=h.froz i b
theorem Row.z(h:Row w g cs)(b:Below w.heap.size w w'):Row w' g cs :=⟨AD h.lt b.size,λi v hv=>(b.cell (p:=⟨g,i,none⟩) h.lt).j (h.cell i v hv),λi c=>(b.frozen (p:=⟨g,i,none⟩) h.lt).j (h.froz i c)⟩
theorem Row.set(h:Row w g cs)(k:Nat)(d:k<cs.length)(v:Value):Row (w.setCell ⟨g,k,none⟩ v) g (cs.set k v):=by
 refine⟨by simpa[World.setCell] using h.lt,λi u b=>?_,λi f=>?_⟩
 ·by_cases c:i=k
  ·subst c
   rw[JC d]at b
   cases b
   exact FD w _ _ (h.cell i _ (BQ d))
  rw[GP (λe=>c e.symm)]at b
  rw[BZ (w:=w) (h:=show(⟨g,k,none⟩:Addr)≠⟨g,i,none⟩ by simp<;>omega)];exact h.cell i u b
 rw[BL];exact h.froz i (by simpa using f)
theorem Row.other(h:Row w g cs)(p:Addr)(c:p.block≠g)(v:Value):Row (w.setCell p v) g cs:=by
 refine⟨by simpa[World.setCell] using h.lt,λi u d=>?_,λi b=>?_⟩
 ·rw[BZ (w:=w) (h:=λe=>c (by rw[e]))];exact h.cell i u d
 rw[BL];exact h.froz i b
theorem Row.drew(h:Row w g cs):Row w.drew g cs:=⟨h.lt,h.cell,h.froz⟩
theorem Row.drewN(h:Row w g cs)(q:Nat):Row (w.drewN q) g cs:=h.z (below_drewN (AC _ _) q)
theorem Row.alloc(h:Row w g cs)(o:Obj):Row (w.alloc o) g cs:=h.z (KW _ _)
theorem yD(w:World)(b o:Nat)(h:w.heap.size<=b):w.frozen? ⟨b,o,none⟩=false:=by
 have e:w.heap[b]?=none:=by simp[h]
 simp[World.frozen?,e]
theorem LU(w:World)(A:Array Value)(t:TypeId):Row (w.alloc (.cells A t)) w.heap.size A.toList :=⟨σ,λi v hv=>by rw[EC _ _ _ _ rfl];simpa using hv,λi b=>by rw[DK];exact yD _ _ _ (Y _)⟩
theorem Row.strs(h:Row w g (ss.map Value.string)):Strs w (some ⟨g,0,none⟩) ss :=.inr ⟨g,0,rfl,h.lt,λi b=>by
  rw[BH]
  exact h.cell i _ (by simp[List.getD,b])⟩
def MH(ws:List (Int×ByteArray)):List Value:=ws.flatMap λx=>[.int .i64 x.1,.string x.2]
theorem xW(a b:List (Int×ByteArray)):MH (a++b)=MH a++MH b:=by simp[MH]
theorem cw(ws:List (Int×ByteArray)):(MH ws).length=ws.length*2:=by
 induction ws with
 | nil=>rfl
 | cons x r b=>simp[MH]at b⊢;omega
theorem kh:∀(ws:List (Int×ByteArray)) (i:Nat),i<ws.length->(MH ws)[i*2]?=some (.int .i64 (ws.getD i (0,empty)).1)/\(MH ws)[i*2+1]?=some (.string (ws.getD i (0,empty)).2)
 | x::r,0,_=>by simp[MH]
 | x::r,i+1,h=>by
  have b:=kh r i (by simpa using h);have e:MH (x::r)=.int .i64 x.1::.string x.2::MH r:=by simp[MH]
  rw[e,show(i+1)*2=i*2+2 by omega];simpa using b
theorem Row.wrs(h:Row w g (MH ws)):Wrs w (some ⟨g,0,none⟩) ws :=.inr ⟨g,0,rfl,h.lt,λi b=>by
  rw[BH]
  exact⟨h.cell _ _ (kh ws i b).1,h.cell _ _ (kh ws i b).2⟩⟩
theorem yi{f:Array Oper}{aC:List Oper}{o:Oper}
  (v:o.guard=none)(l c:Operand)(t:TypeId)(m:o.op=Op.makeSlice t l c)(e:TypeId)(z:Value)(b aA:Nat)(A:P.underlying t=some (.slice e))(aB:(P.info? e).map (λi=>(i.zero,i.size,i.bytes))=some (some z,b,aA))
  (n:Nat)(y:a.eval l=.int .i64 (n:Int))(u:a.eval c=.int .i64 (n:Int))(B:aA*n<=281474976710656)(C:n<=281474976710656)
  (h:∀d,Row d w.heap.size (madeCells z.cells (n*b)).toList->Below w.heap.size w d->d.heap.size=w.heap.size+1->wpList P f Q aC (a.put o.dst (.slice (some ⟨w.heap.size,0,none⟩) n n)) d):wpList P f Q (o::aC) a w:=by
 refine IN v λK s=>?_
 obtain⟨i,x,d⟩:=EM.1 aB;simp only[EG]at d;obtain⟨p,q,r⟩:=d;subst q r
 have k:(i.bytes:Int)*(n:Int)<=281474976710656:=by
  have:((i.bytes*n:Nat):Int)<=281474976710656:=ω
  rwa [Int.natCast_mul]at this
 have j:=run_make (P:=P) w t e i z A x p .i64 .i64 n n ω (Int.le_refl _) k ω;simp only[BM]at j;unfold Oper.wp;simp[execOp,m,y,u,j,Result.andThen];exact s _ _ (h _ (LU _ _ _) (KW _ _) σ)
end
section
open Tryz
open Go
theorem QN{P:Program}(w:World){B:Array Oper}{A:List Oper}{o:Oper}{a:Act}{Q:Exit->Act->World->Prop}(F:o.guard=none)(s x:Operand)(t:TypeId)
  (O:o.op=.call { callee:=.builtin .append,args:=#[s,x],argTypes:=#[t,t] })
  (f:Nat){e:TypeId}{i:TypeInfo}{z:Value}{b q:Nat}(S:P.underlying t=some (.slice e))(l:P.info? e=some i/\i.zero=some z/\i.size=b/\i.bytes=q)(I:z.cells.size=b)(G:0<b)
  (v:Value)(n:Nat)(y:List Value)(R:a.eval s=v)(E:w.ownsRow f e b v n y)
  (r:Addr)(m c:Nat)(d:List Value)(T:a.eval x=.slice (some r) m c)(M:d.length=m*b)(D:∀j u,d[j]?=some u->w.cell? (r.add j)=some u)(K:∀u∈d,u.oneCell'=true)
  (C:f<=w.heap.size)(H:Nat)(L:w.heap.size=H)
  (h:∀g k p,p.ownsRow f e b (.slice (some ⟨g,0,none⟩) (n+m) k) (n+m) (y++d)->w.grownBy p v.ownBlock->(v.ownBlock=some g\/g=H)->g<p.heap.size->wpList P B Q A (a.put o.dst (.slice (some ⟨g,0,none⟩) (n+m) k)) p)(N:0<m:=by omega)(u:n+m<=maxLen:=by unfold maxLen;omega)(j:(n+m)*q<=140737488355328:=by omega):wpList P B Q (o::A) a w :=wpList_append_lies w F s x t O f e i z b q S l.1 l.2.1 l.2.2.1 l.2.2.2 I G v n y R E r m c d T M D K N u j C H L h
theorem QM{P:Program}(w:World){I:Array Oper}{o:Oper}{a:Act}{K:Act->World->Prop}{Q:Exit->Act->World->Prop}{E:Prop}(D:o.guard=none)(s x:Operand)(t:TypeId)
  (R:o.op=.call { callee:=.builtin .append,args:=#[s,x],argTypes:=#[t,t] })
  (f:Nat){e:TypeId}{i:TypeInfo}{z:Value}{b q:Nat}(T:P.underlying t=some (.slice e))(l:P.info? e=some i/\i.zero=some z/\i.size=b/\i.bytes=q)(G:z.cells.size=b)(F:0<b)
  (v:Value)(n:Nat)(y:List Value)(S:a.eval s=v)(C:w.ownsRow f e b v n y)
  (r:Addr)(m c:Nat)(d:List Value)(U:a.eval x=.slice (some r) m c)(N:d.length=m*b)(B:∀j u,d[j]?=some u->w.cell? (r.add j)=some u)(L:∀u∈d,u.oneCell'=true)
  (A:f<=w.heap.size)(H:Nat)(M:w.heap.size=H)
  (h:∀g k p,p.ownsRow f e b (.slice (some ⟨g,0,none⟩) (n+m) k) (n+m) (y++d)->w.grownBy p v.ownBlock->(v.ownBlock=some g\/g=H)->g<p.heap.size->K (a.put o.dst (.slice (some ⟨g,0,none⟩) (n+m) k)) p)(O:0<m:=by omega)(u:n+m<=maxLen:=by unfold maxLen;omega)(j:(n+m)*q<=140737488355328:=by omega):if Region.wanted o (yielded I a.tmps)=true then Oper.wp P o a w K Q else E :=step_append_lies w D s x t R f e i z b q T l.1 l.2.1 l.2.2.1 l.2.2.2 G F v n y S C r m c d U N B L O u j A H M h
end
section
open Tryz
open Go.RowKit
variable {rs:List (ByteArray×ByteArray)}{ws:List (Int×ByteArray)}{ss:List ByteArray}{cs r vs xs:List Value}{B base cap g hi k lo m n n0 size:Nat}{a:Option Addr}{e:TypeId}{a0 a1 a2 a3 a4 a5 a6 a7 a8 a9 aA aB aC aD aE aF v v0 v1 v2 v3 v4 v5 v6 v7 v8 v9 x:Value}{b w w' w1 w7 wr:World}{F:World->Prop}
theorem Row.k3(h:Row w g (v0::v1::v2::r)):w.cell? ⟨g,0,none⟩=some v0/\w.cell? ⟨g,1,none⟩=some v1/\w.cell? ⟨g,2,none⟩=some v2:=⟨h.y 0,h.y 1,h.y 2⟩
theorem Row.k4(h:Row w g (v0::v1::v2::v3::r)):w.cell? ⟨g,0,none⟩=some v0/\w.cell? ⟨g,1,none⟩=some v1/\w.cell? ⟨g,2,none⟩=some v2/\w.cell? ⟨g,3,none⟩=some v3:=⟨h.y 0,h.y 1,h.y 2,h.y 3⟩
theorem Row.k10(h:Row w g (v0::v1::v2::v3::v4::v5::v6::v7::v8::v9::r)):w.cell? ⟨g,0,none⟩=some v0/\w.cell? ⟨g,1,none⟩=some v1/\w.cell? ⟨g,2,none⟩=some v2/\w.cell? ⟨g,3,none⟩=some v3/\w.cell? ⟨g,4,none⟩=some v4/\w.cell? ⟨g,5,none⟩=some v5/\w.cell? ⟨g,6,none⟩=some v6/\w.cell? ⟨g,7,none⟩=some v7/\w.cell? ⟨g,8,none⟩=some v8/\w.cell? ⟨g,9,none⟩=some v9:=⟨h.y 0,h.y 1,h.y 2,h.y 3,h.y 4,h.y 5,h.y 6,h.y 7,h.y 8,h.y 9⟩
theorem Row.k12(h:Row w g (v0::v1::v2::v3::v4::v5::v6::v7::v8::v9::aA::aB::r)):w.cell? ⟨g,0,none⟩=some v0/\w.cell? ⟨g,1,none⟩=some v1/\w.cell? ⟨g,2,none⟩=some v2/\w.cell? ⟨g,3,none⟩=some v3/\w.cell? ⟨g,4,none⟩=some v4/\w.cell? ⟨g,5,none⟩=some v5/\w.cell? ⟨g,6,none⟩=some v6/\w.cell? ⟨g,7,none⟩=some v7/\w.cell? ⟨g,8,none⟩=some v8/\w.cell? ⟨g,9,none⟩=some v9/\w.cell? ⟨g,10,none⟩=some aA/\w.cell? ⟨g,11,none⟩=some aB:=⟨h.y 0,h.y 1,h.y 2,h.y 3,h.y 4,h.y 5,h.y 6,h.y 7,h.y 8,h.y 9,h.y 10,h.y 11⟩
theorem Row.k16(h:Row w g (v0::v1::v2::v3::v4::v5::v6::v7::v8::v9::aA::aB::aC::aD::aE::aF::r)):w.cell? ⟨g,0,none⟩=some v0/\w.cell? ⟨g,1,none⟩=some v1/\w.cell? ⟨g,2,none⟩=some v2/\w.cell? ⟨g,3,none⟩=some v3/\w.cell? ⟨g,4,none⟩=some v4/\w.cell? ⟨g,5,none⟩=some v5/\w.cell? ⟨g,6,none⟩=some v6/\w.cell? ⟨g,7,none⟩=some v7/\w.cell? ⟨g,8,none⟩=some v8/\w.cell? ⟨g,9,none⟩=some v9/\w.cell? ⟨g,10,none⟩=some aA/\w.cell? ⟨g,11,none⟩=some aB/\w.cell? ⟨g,12,none⟩=some aC/\w.cell? ⟨g,13,none⟩=some aD/\w.cell? ⟨g,14,none⟩=some aE/\w.cell? ⟨g,15,none⟩=some aF:=⟨h.y 0,h.y 1,h.y 2,h.y 3,h.y 4,h.y 5,h.y 6,h.y 7,h.y 8,h.y 9,h.y 10,h.y 11,h.y 12,h.y 13,h.y 14,h.y 15⟩
theorem Row.z2(h:Row w g (v0::v1::r)):w.frozen? ⟨g,0,none⟩=false/\w.frozen? ⟨g,1,none⟩=false:=⟨h.E 0,h.E 1⟩
theorem Row.z3(h:Row w g (v0::v1::v2::r)):w.frozen? ⟨g,0,none⟩=false/\w.frozen? ⟨g,1,none⟩=false/\w.frozen? ⟨g,2,none⟩=false:=⟨h.E 0,h.E 1,h.E 2⟩
theorem Row.z4(h:Row w g (v0::v1::v2::v3::r)):w.frozen? ⟨g,0,none⟩=false/\w.frozen? ⟨g,1,none⟩=false/\w.frozen? ⟨g,2,none⟩=false/\w.frozen? ⟨g,3,none⟩=false:=⟨h.E 0,h.E 1,h.E 2,h.E 3⟩
theorem Row.z12(h:Row w g (v0::v1::v2::v3::v4::v5::v6::v7::v8::v9::aA::aB::r)):w.frozen? ⟨g,0,none⟩=false/\w.frozen? ⟨g,1,none⟩=false/\w.frozen? ⟨g,2,none⟩=false/\w.frozen? ⟨g,3,none⟩=false/\w.frozen? ⟨g,4,none⟩=false/\w.frozen? ⟨g,5,none⟩=false/\w.frozen? ⟨g,6,none⟩=false/\w.frozen? ⟨g,7,none⟩=false/\w.frozen? ⟨g,8,none⟩=false/\w.frozen? ⟨g,9,none⟩=false/\w.frozen? ⟨g,10,none⟩=false/\w.frozen? ⟨g,11,none⟩=false:=⟨h.E 0,h.E 1,h.E 2,h.E 3,h.E 4,h.E 5,h.E 6,h.E 7,h.E 8,h.E 9,h.E 10,h.E 11⟩
theorem Row.z16(h:Row w g (v0::v1::v2::v3::v4::v5::v6::v7::v8::v9::aA::aB::aC::aD::aE::aF::r)):w.frozen? ⟨g,0,none⟩=false/\w.frozen? ⟨g,1,none⟩=false/\w.frozen? ⟨g,2,none⟩=false/\w.frozen? ⟨g,3,none⟩=false/\w.frozen? ⟨g,4,none⟩=false/\w.frozen? ⟨g,5,none⟩=false/\w.frozen? ⟨g,6,none⟩=false/\w.frozen? ⟨g,7,none⟩=false/\w.frozen? ⟨g,8,none⟩=false/\w.frozen? ⟨g,9,none⟩=false/\w.frozen? ⟨g,10,none⟩=false/\w.frozen? ⟨g,11,none⟩=false/\w.frozen? ⟨g,12,none⟩=false/\w.frozen? ⟨g,13,none⟩=false/\w.frozen? ⟨g,14,none⟩=false/\w.frozen? ⟨g,15,none⟩=false:=⟨h.E 0,h.E 1,h.E 2,h.E 3,h.E 4,h.E 5,h.E 6,h.E 7,h.E 8,h.E 9,h.E 10,h.E 11,h.E 12,h.E 13,h.E 14,h.E 15⟩
def Prs(w:World)(a:Option Addr)(rs:List (ByteArray×ByteArray)):Prop :=rs=[]\/∃b o,a=some ⟨b,o,none⟩/\b<w.heap.size/\∀i,i<rs.length->w.cell? ⟨b,o+i*2,none⟩=some (.string (rs.getD i (empty,empty)).1)/\w.cell? ⟨b,o+i*2+1,none⟩=some (.string (rs.getD i (empty,empty)).2)
theorem Prs.z(h:Prs w a rs)(d:Below w.heap.size w w'):Prs w' a rs:=by
 rcases h with h|⟨b,o,j,c,f⟩
 ·exact .inl h
 exact .inr ⟨b,o,j,AD c d.size,λi hi=>⟨(d.cell (p:=⟨b,o+i*2,none⟩) c).j (f i hi).1,(d.cell (p:=⟨b,o+i*2+1,none⟩) c).j (f i hi).2⟩⟩
theorem Prs.at(h:Prs w a rs)(c:k<rs.length):∃b o d f,a=some ⟨b,o,none⟩/\w.cell? ⟨b,o+k*2,none⟩=some (.string d)/\w.cell? ⟨b,o+k*2+1,none⟩=some (.string f)/\Hid ((d,f)=rs.getD k (empty,empty)):=by
 rcases h with h|⟨b,o,f,i,d⟩
 ·subst h;simp at c
 exact⟨b,o,_,_,f,(d k c).1,(d k c).2,Z rfl⟩
def LH(rs:List (ByteArray×ByteArray)):List Value:=rs.flatMap λx=>[.string x.1,.string x.2]
theorem VB(a b:List (ByteArray×ByteArray)):LH (a++b)=LH a++LH b:=by simp[LH]
theorem XL(rs:List (ByteArray×ByteArray)):(LH rs).length=rs.length*2:=by
 induction rs with
 | nil=>rfl
 | cons x r c=>simp[LH]at c⊢;omega
theorem ja:∀(rs:List (ByteArray×ByteArray)) (i:Nat),i<rs.length->(LH rs)[i*2]?=some (.string (rs.getD i (empty,empty)).1)/\(LH rs)[i*2+1]?=some (.string (rs.getD i (empty,empty)).2)
 | x::r,0,_=>by simp[LH]
 | x::r,i+1,h=>by
  have c:=ja r i (by simpa using h);have e:LH (x::r)=.string x.1::.string x.2::LH r:=by simp[LH]
  rw[e,show(i+1)*2=i*2+2 by omega];simpa using c
theorem Row.prs(h:Row w g (LH rs)):Prs w (some ⟨g,0,none⟩) rs :=.inr ⟨g,0,rfl,h.lt,λi hi=>by
  rw[BH]
  exact⟨h.cell _ _ (ja rs i hi).1,h.cell _ _ (ja rs i hi).2⟩⟩
@[reducible] def LQ(a:Option Addr)(n c:Nat):Value:=.agg #[.slice a n c]
theorem qt{a b:ByteArray}(h:a=b):Ending.returned (.string a)=.returned (.string b):=by rw[h]
theorem ri(w:World)(n:Int):(convert 22 9 (.slice (some ⟨w.heap.size,0,none⟩) 1 1)).run prog (w.alloc (.cells #[.int .u8 n] 5))=.ok (.string (strOfNums [n])) (w.alloc (.cells #[.int .u8 n] 5)) :=ES (P:=prog) _ 22 5 underlying22 underlying5 w.heap.size 0 1 1 [n] rfl (λi hi=>by
  have:i=0:=ω
  subst this;simp) 9 underlying9
theorem OS{a c:World}{r:Option Nat}(h:a.grownBy b r)(k:b.grownBy c r):a.grownBy c r :=⟨k.os.j h.os,k.tape.j h.tape,k.output.j h.output,AL h.size k.size,λi hi d=>(k.block i (AD hi h.size) d).j (h.block i hi d)⟩
theorem RW{a:World}(r:Option Nat)(h:Below a.heap.size a b):a.grownBy b r:=⟨h.os,h.tape,h.output,h.size,λi hi _=>h.block i hi⟩
theorem OG{a:World}(h:a.grownBy b (some g))(i:Nat)(v:Value):a.grownBy (b.setCell ⟨g,i,none⟩ v) (some g) :=OS h ⟨rfl,rfl,rfl,by simp[World.setCell],λj _ c=>BD _ _ _ _ (λe=>c (by rw[e]))⟩
theorem MR{a:World}{r:Option Nat}(h:a.grownBy b r)(d:B<=a.heap.size)(c:∀g,r=some g->B<=g):Below B a b :=⟨h.os,h.tape,h.output,h.size,λk f=>h.block k ω (λe=>by have:=c k e.symm;omega)⟩
theorem Row.I{r:Option Nat}(h:Row w g cs)(c:w.grownBy w' r)(d:some g≠r):Row w' g cs :=⟨AD h.lt c.size,λi v hv=>(CT (a:=⟨g,i,none⟩) (c.block g h.lt d)).j (h.cell i v hv),λi hi=>(GL (a:=⟨g,i,none⟩) (c.block g h.lt d)).j (h.froz i hi)⟩
def OwnS(w:World)(a:Option Addr)(cs:List Value):Prop:=cs=[]\/∃g,a=some ⟨g,0,none⟩/\Row w g cs
def blk(a:Option Addr)(n:Nat):Option Nat:=if n=0 then none else a.map (·.block)
theorem MS(b o:Nat)(n:Nat)(h:n≠0):blk (some ⟨b,o,none⟩) n=some b:=by simp[blk,h]
structure OwnD(w:World)(a:Option Addr)(ss:List ByteArray)(a':Option Addr)(ws:List (Int×ByteArray)):Prop where
 s:OwnS w a (ss.map Value.string)
 p:OwnS w a' (MH ws)
 ne:blk a ss.length=none\/blk a' ws.length=none\/blk a ss.length≠blk a' ws.length
theorem OwnS.z(h:OwnS w a cs)(f:Below w.heap.size w w'):OwnS w' a cs:=by
 rcases h with h|⟨g,c,d⟩
 ·exact .inl h
 exact .inr ⟨g,c,d.z f⟩
theorem OwnS.I{r:Option Nat}(h:OwnS w a cs)(i:w.grownBy w' r)(j:∀g,a=some ⟨g,0,none⟩->cs≠[]->some g≠r):OwnS w' a cs:=by
 by_cases c:cs=[]
 ·exact .inl c
 obtain⟨g,d,f⟩:=h.resolve_left c
 exact .inr ⟨g,d,f.I i (j g d c)⟩
theorem OwnS.lt(h:OwnS w a cs)(n:Nat)(j:n≠0->cs≠[]):∀g,blk a n=some g->g<w.heap.size:=λg d=>by
 by_cases c:n=0
 ·subst c;cases d
 obtain⟨f,rfl,i⟩:=h.resolve_left (j c)
 rw[MS f 0 n c]at d
 cases d
 exact i.lt
theorem OwnD.z{c:Option Addr}(h:OwnD w a ss c ws)(d:Below w.heap.size w w'):OwnD w' a ss c ws:=⟨h.s.z d,h.p.z d,h.ne⟩
theorem OwnS.strs(h:OwnS w a (ss.map Value.string)):Strs w a ss:=by
 rcases h with h|⟨g,rfl,c⟩
 ·exact .inl (by simpa using h)
 exact c.strs
theorem OwnS.wrs(h:OwnS w a (MH ws)):Wrs w a ws:=by
 rcases h with h|⟨g,rfl,c⟩
 ·exact .inl (by have:=BY List.length h;rw[cw,AR]at this;exact AB ω)
 exact c.wrs
theorem it(h:ss.length≠0):ss.map Value.string≠[]:=λe=>h (by have:=BY List.length e;simpa using this)
theorem VU(h:ss.map Value.string≠[]):ss.length≠0:=λe=>h (by rw[AB e];rfl)
theorem ip(h:MH ws≠[]):ws.length≠0:=λe=>h (by rw[AB e];rfl)
structure Dep(w:World)(lo hi:Nat)(F:World->Prop):Prop where
 q:F w
 top:hi<=w.heap.size
 keep:∀w':World,(∀b,lo<=b->b<hi->w'.heap[b]?=w.heap[b]?)->hi<=w'.heap.size->F w'
theorem Dep.z(h:Dep w lo hi F)(c:Below w.heap.size w w'):Dep w' lo hi F :=⟨h.keep w' (λb _ d=>c.block b (AD d h.top)) (AL h.top c.size),AL h.top c.size,λl d i=>h.keep l (λb j f=>(d b j f).j (c.block b (AD f h.top))) i⟩
theorem Dep.I{r:Option Nat}(h:Dep w lo hi F)(d:w.grownBy w' r)(l:∀g,r=some g->g<lo\/hi<=g):Dep w' lo hi F:=by
 have aA:∀b,lo<=b->b<hi->w'.heap[b]?=w.heap[b]?:=λb f c=>d.block b (AD c h.top) (λe=>by have:=l b e.symm;omega)
 exact⟨h.keep w' aA (AL h.top d.size),AL h.top d.size,λo c j=>h.keep o (λb f i=>(c b f i).j (aA b f i)) j⟩
theorem Dep.and{G:World->Prop}(h:Dep w lo hi F)(k:Dep w lo hi G):Dep w lo hi (λw=>F w/\G w):=⟨⟨h.q,k.q⟩,h.top,λw' c d=>⟨h.keep w' c d,k.keep w' c d⟩⟩
theorem Dep.wide{aB aA:Nat}(h:Dep w lo hi F)(i:aB<=lo)(j:hi<=aA)(d:aA<=w.heap.size):Dep w aB aA F:=⟨h.q,d,λw' f l=>h.keep w' (λb a c=>f b ω ω) ω⟩
theorem VQ(h:Row w g cs)(e:w'.heap[g]?=w.heap[g]?)(c:g<w'.heap.size):Row w' g cs :=⟨c,λi v hv=>by rw[<-h.cell i v hv];simp[World.cell?,e],λi hi=>by rw[<-h.froz i hi];simp[World.frozen?,e]⟩
theorem ou(h:Row w g cs)(c:lo<=g)(d:g<hi)(f:hi<=w.heap.size):Dep w lo hi (λw=>Row w g cs):=⟨h,f,λw' i j=>VQ h (i g c d) ω⟩
theorem PD(h:OwnS w a cs)(i:cs≠[]->n≠0)(f:∀g,blk a n=some g->lo<=g):Dep w lo w.heap.size (λw=>OwnS w a cs) :=⟨h,Y _,λw' j l=>by
  by_cases c:cs=[]
  ·exact .inl c
  obtain⟨g,rfl,d⟩:=h.resolve_left c
  exact .inr ⟨g,rfl,VQ d (j g (f g (MS _ _ _ (i c))) d.lt) (AD d.lt l)⟩⟩
theorem Dep.cut(h:Dep w lo w.heap.size (λw=>OwnS w a cs))(d:∀g,a=some ⟨g,0,none⟩->cs≠[]->g<hi)(f:hi<=w.heap.size)(i:∀g,a=some ⟨g,0,none⟩->cs≠[]->lo<=g):Dep w lo hi (λw=>OwnS w a cs) :=⟨h.q,f,λw' l o=>by
  by_cases c:cs=[]
  ·exact .inl c
  obtain⟨g,rfl,j⟩:=h.q.resolve_left c
  exact .inr ⟨g,rfl,VQ j (l g (i g rfl c) (d g rfl c)) (AD (d g rfl c) o)⟩⟩
theorem ee(h:blk (some ⟨g,0,none⟩) n=some k):k=g:=by
 unfold blk at h
 split at h
 ·cases h
 simp at h;exact h.symm
theorem Dep.low{N:Nat}(h:Dep w lo hi F)(c:Below N w w')(o:hi<=N):Dep w' lo hi F :=⟨h.keep w' (λb _ d=>c.block b ω) (AL h.top c.size),AL h.top c.size,λl d f=>h.keep l (λb i j=>(d b i j).j (c.block b ω)) f⟩
theorem Jm(w:World)(A:Array Value)(t:TypeId):Dep (w.alloc (.cells A t)) w.heap.size (w.heap.size+1) (λW=>Row W w.heap.size A.toList):=ou (LU w A t) (Y _) ω σ
theorem LF{v:World}{A:Array Value}{t:TypeId}(e:w.alloc (.cells A t)=v):Below w.heap.size w v/\v.heap.size=w.heap.size+1/\Dep v w.heap.size (w.heap.size+1) (λW=>Row W w.heap.size A.toList):=by
 subst e;exact⟨KW _ _,σ,ou (LU w A t) (Y _) ω σ⟩
theorem az(h:Row w g cs):Dep w g (g+1) (λW=>Row W g cs):=ou h (Y _) ω (by have:=h.lt;omega)
theorem c10(h:Row w g [a0,a1,a2,a3,a4,a5,a6,a7,a8,a9]):w.cell? ⟨g,0,none⟩=some a0/\w.cell? ⟨g,1,none⟩=some a1/\w.cell? ⟨g,2,none⟩=some a2/\w.cell? ⟨g,3,none⟩=some a3/\w.cell? ⟨g,4,none⟩=some a4/\w.cell? ⟨g,5,none⟩=some a5/\w.cell? ⟨g,6,none⟩=some a6/\w.cell? ⟨g,7,none⟩=some a7/\w.cell? ⟨g,8,none⟩=some a8/\w.cell? ⟨g,9,none⟩=some a9/\g<w.heap.size :=⟨h.y 0,h.y 1,h.y 2,h.y 3,h.y 4,h.y 5,h.y 6,h.y 7,h.y 8,h.y 9,h.lt⟩
theorem c12(h:Row w g [a0,a1,a2,a3,a4,a5,a6,a7,a8,a9,aA,aB]):w.cell? ⟨g,0,none⟩=some a0/\w.cell? ⟨g,1,none⟩=some a1/\w.cell? ⟨g,2,none⟩=some a2/\w.cell? ⟨g,3,none⟩=some a3/\w.cell? ⟨g,4,none⟩=some a4/\w.cell? ⟨g,5,none⟩=some a5/\w.cell? ⟨g,6,none⟩=some a6/\w.cell? ⟨g,7,none⟩=some a7/\w.cell? ⟨g,8,none⟩=some a8/\w.cell? ⟨g,9,none⟩=some a9/\w.cell? ⟨g,10,none⟩=some aA/\w.cell? ⟨g,11,none⟩=some aB/\g<w.heap.size :=⟨h.y 0,h.y 1,h.y 2,h.y 3,h.y 4,h.y 5,h.y 6,h.y 7,h.y 8,h.y 9,h.y 10,h.y 11,h.lt⟩
theorem c16(h:Row w g [a0,a1,a2,a3,a4,a5,a6,a7,a8,a9,aA,aB,aC,aD,aE,aF]):w.cell? ⟨g,0,none⟩=some a0/\w.cell? ⟨g,1,none⟩=some a1/\w.cell? ⟨g,2,none⟩=some a2/\w.cell? ⟨g,3,none⟩=some a3/\w.cell? ⟨g,4,none⟩=some a4/\w.cell? ⟨g,5,none⟩=some a5/\w.cell? ⟨g,6,none⟩=some a6/\w.cell? ⟨g,7,none⟩=some a7/\w.cell? ⟨g,8,none⟩=some a8/\w.cell? ⟨g,9,none⟩=some a9/\w.cell? ⟨g,10,none⟩=some aA/\w.cell? ⟨g,11,none⟩=some aB/\w.cell? ⟨g,12,none⟩=some aC/\w.cell? ⟨g,13,none⟩=some aD/\w.cell? ⟨g,14,none⟩=some aE/\w.cell? ⟨g,15,none⟩=some aF/\g<w.heap.size :=⟨h.y 0,h.y 1,h.y 2,h.y 3,h.y 4,h.y 5,h.y 6,h.y 7,h.y 8,h.y 9,h.y 10,h.y 11,h.y 12,h.y 13,h.y 14,h.y 15,h.lt⟩
def Pst(w:World)(a:Option Addr)(P:List (List (ByteArray×ByteArray))):Prop :=P=[]\/∃b o,a=some ⟨b,o,none⟩/\b<w.heap.size/\∀i,i<P.length->∃p c,w.cell? ⟨b,o+i,none⟩=some (.slice p (P.getD i []).length c)/\Prs w p (P.getD i [])
theorem Pst.z{P:List (List (ByteArray×ByteArray))}(h:Pst w a P)(d:Below w.heap.size w w'):Pst w' a P:=by
 rcases h with h|⟨b,o,j,f,l⟩
 ·exact .inl h
 refine .inr ⟨b,o,j,AD f d.size,λi hi=>?_⟩
 obtain⟨p,c,q,s⟩:=l i hi;exact⟨p,c,(d.cell (p:=⟨b,o+i,none⟩) f).j q,s.z d⟩
theorem Pst.at{P:List (List (ByteArray×ByteArray))}(h:Pst w a P)(d:k<P.length):∃b o p c,a=some ⟨b,o,none⟩/\b<w.heap.size/\w.cell? ⟨b,o+k,none⟩=some (.slice p (P.getD k []).length c)/\Hid (Prs w p (P.getD k [])):=by
 rcases h with h|⟨b,o,f,i,j⟩
 ·subst h;simp at d
 obtain⟨p,c,l,q⟩:=j k d
 exact⟨b,o,p,c,f,i,l,Z q⟩
def Chs(w:World)(a:Option Addr)(rs:List (ByteArray×ByteArray×Bool)):Prop :=rs=[]\/∃b o,a=some ⟨b,o,none⟩/\b<w.heap.size/\∀i,i<rs.length->w.cell? ⟨b,o+i*3,none⟩=some (.string (rs.getD i (empty,empty,false)).1)/\w.cell? ⟨b,o+i*3+1,none⟩=some (.string (rs.getD i (empty,empty,false)).2.1)/\w.cell? ⟨b,o+i*3+2,none⟩=some (.bool (rs.getD i (empty,empty,false)).2.2)
theorem Chs.z{rs:List (ByteArray×ByteArray×Bool)}(h:Chs w a rs)(d:Below w.heap.size w w'):Chs w' a rs:=by
 rcases h with h|⟨b,o,j,c,f⟩
 ·exact .inl h
 exact .inr ⟨b,o,j,AD c d.size,λi hi=>⟨(d.cell (p:=⟨b,o+i*3,none⟩) c).j (f i hi).1,(d.cell (p:=⟨b,o+i*3+1,none⟩) c).j (f i hi).2.1,(d.cell (p:=⟨b,o+i*3+2,none⟩) c).j (f i hi).2.2⟩⟩
theorem Chs.at{rs:List (ByteArray×ByteArray×Bool)}(h:Chs w a rs)(c:k<rs.length):∃b o f i d,a=some ⟨b,o,none⟩/\w.cell? ⟨b,o+k*3,none⟩=some (.string f)/\w.cell? ⟨b,o+k*3+1,none⟩=some (.string i)/\w.cell? ⟨b,o+k*3+2,none⟩=some (.bool d)/\Hid ((f,i,d)=rs.getD k (empty,empty,false)):=by
 rcases h with h|⟨b,o,f,i,d⟩
 ·subst h;simp at c
 exact⟨b,o,_,_,_,f,(d k c).1,(d k c).2.1,(d k c).2.2,Z rfl⟩
def MJ(rs:List (ByteArray×ByteArray×Bool)):List Value:=rs.flatMap λx=>[.string x.1,.string x.2.1,.bool x.2.2]
theorem xq(a b:List (ByteArray×ByteArray×Bool)):MJ (a++b)=MJ a++MJ b:=by simp[MJ]
theorem jw:∀(rs:List (ByteArray×ByteArray×Bool)) (i:Nat),i<rs.length->(MJ rs)[i*3]?=some (.string (rs.getD i (empty,empty,false)).1)/\(MJ rs)[i*3+1]?=some (.string (rs.getD i (empty,empty,false)).2.1)/\(MJ rs)[i*3+2]?=some (.bool (rs.getD i (empty,empty,false)).2.2)
 | x::r,0,_=>by simp[MJ]
 | x::r,i+1,h=>by
  have c:=jw r i (by simpa using h);have e:MJ (x::r)=.string x.1::.string x.2.1::.bool x.2.2::MJ r:=by simp[MJ]
  rw[e,show(i+1)*3=i*3+3 by omega];simpa using c
theorem Row.chs{rs:List (ByteArray×ByteArray×Bool)}(h:Row w g (MJ rs)):Chs w (some ⟨g,0,none⟩) rs :=.inr ⟨g,0,rfl,h.lt,λi hi=>by
  rw[BH]
  exact⟨h.cell _ _ (jw rs i hi).1,h.cell _ _ (jw rs i hi).2.1,h.cell _ _ (jw rs i hi).2.2⟩⟩
theorem OJ{a b:Bool}(h:a=b):Ending.returned (.bool a)=.returned (.bool b):=by rw[h]
def OU(k:ByteArray):Bool:=decide (1<=k.size/\k.size<=20)
def NY(k:ByteArray):Bool:=decide (k.size<=100)
def NZ(x:ByteArray×ByteArray×Bool):Bool:=OU x.1 && NY x.2.1 && !(x.2.2 && decide (x.2.1.size≠0))
def NL(rs:List (ByteArray×ByteArray×Bool)):Bool:=decide (1<=rs.length/\rs.length<=20) && rs.all NZ
theorem gi{rs:List (ByteArray×ByteArray×Bool)}(h:¬(1<=rs.length/\rs.length<=20)):NL rs=false:=by simp[NL,h]
theorem dt{rs:List (ByteArray×ByteArray×Bool)}{x:ByteArray×ByteArray×Bool}(c:x∈rs)(h:NZ x=false):NL rs=false:=by
 have:rs.all NZ=false:=FW.2 ⟨x,c,by simp[h]⟩;simp[NL,this]
theorem yv{rs:List (ByteArray×ByteArray×Bool)}(h:1<=rs.length/\rs.length<=20)(c:∀x∈rs,NZ x=true):NL rs=true:=by
 simp only[NL,BE,BC,DO];exact⟨h,c⟩
theorem WO{rs:List (ByteArray×ByteArray×Bool)}(h:NL rs=true):(1<=rs.length/\rs.length<=20)/\∀x∈rs,NZ x=true:=by
 simp only[NL,BE,BC,DO]at h;exact h
theorem dq(s:ByteArray)(w:World)(f:s.size<=1048576):Calls prog 62 #[.string s] w λe w'=>e=.returned (.bool (OU s))/\w'=w:=by
 unfold OU
 by_cases d:1<=s.size
 ·by_cases c:s.size<=20
  ·go_enter func62,ntmps62
   go_wp2;go_ret;exact⟨OJ (by simp[d,c]<;>omega),rfl⟩
  go_enter func62,ntmps62
  go_wp2;go_ret;exact⟨OJ (by simp[c]<;>omega),rfl⟩
 go_enter func62,ntmps62
 go_wp2;go_ret;exact⟨OJ ξ,rfl⟩
theorem mV{k v:ByteArray}{g:Bool}(h:OU k=false):NZ (k,v,g)=false:=by simp[NZ,h]
theorem pY{k v:ByteArray}{g:Bool}(h:NY v=false):NZ (k,v,g)=false:=by simp[NZ,h]
theorem vN{k v:ByteArray}(h:v.toList.isEmpty=false):NZ (k,v,true)=false:=by
 rw[VF]at h;have:v.size≠0:=by simpa using h
 simp[NZ,this]
theorem pJ{k v:ByteArray}(h:OU k=true)(c:NY v=true):NZ (k,v,false)=true:=by simp[NZ,h,c]
theorem qT{k v:ByteArray}(h:OU k=true)(d:NY v=true)(c:v.toList.isEmpty=true):NZ (k,v,true)=true:=by
 rw[VF]at c;have:v.size=0:=by simpa using c
 simp[NZ,h,d,this]
theorem nk{α:Type}{rs:List α}{x d:α}{f:α->Bool}(aA:k<rs.length)(i:∀y∈rs.take k,f y=true)(h:x=rs.getD k d)(j:f x=true):∀y∈rs.take (k+1),f y=true:=by
 intro y c;rw[AX aA]at c;rcases BS.1 c with c|c
 ·exact i y c
 simp at c
 simp[List.getD,aA]at h;rw[c,<-h];exact j
theorem oq(a:Option Addr)(rs:List (ByteArray×ByteArray×Bool))(c:Nat)(w:World)(h:Chs w a rs)(G:rs.length<=1048576)(u:∀x∈rs,x.1.size<=1048576/\x.2.1.size<=1048576):Calls prog 20 #[.slice a rs.length c] w λe w'=>e=.returned (.bool (NL rs))/\Below w.heap.size w w':=by
 obtain⟨R,d⟩:∃R,Hid (R=NL rs):=⟨_,Z rfl⟩;rw[<-d.l]
 by_cases H:1<=(rs.length:Int)
 ·by_cases I:(rs.length:Int)<=20
  ·go_enter func20,ntmps20
   go_wp2;go_loopw [3] (λi wr=>∃k:Nat,k<=rs.length/\i=.int .i64 k/\Hid (∀x∈rs.take k,NZ x=true)/\Below w.heap.size w wr) (λi _=>rs.length-(intOf i).toNat)
   case atStart=>exact⟨0,AO _,rfl,by show ∀s∈rs.take 0,_;simp,AC _ _⟩
   case round =>
    obtain⟨k,E,rfl,i,aA⟩:=hrel
    by_cases aC:k<rs.length
    ·obtain⟨b,o,t,f,q,rfl,y,z,A,p⟩:=(h.z aA).at aC
     have j:Hid ((t,f,q)∈rs):=by show _∈_;rw[p.l];simp[List.getD,aC]
     obtain⟨aB,D⟩:=u _ j.l;have aE:(k:Int)<(rs.length:Int):=ω
     have C:(0:Int)<=(k:Int):=ω
     cases hk1:OU t with
     | false =>
      go_wp2_with (go_at_call 62;refine(dq _ _ aB).A ?_;rw[hk1];rintro e l ⟨rfl,rfl⟩);go_ret;exact⟨OJ (by rw[d.l];exact(dt j.l (mV hk1)).symm),aA⟩
     | true =>
      cases hv1:NY f with
      | false =>
       have aF:(100:Int)<(f.size:Int):=by simp[NY]at hv1;omega
       go_wp2_with (go_at_call 62;refine(dq _ _ aB).A ?_;rw[hk1];rintro e l ⟨rfl,rfl⟩);go_ret;exact⟨OJ (by rw[d.l];exact(dt j.l (pY hv1)).symm),aA⟩
      | true =>
       have aF:(f.size:Int)<=100:=by simp[NY]at hv1;omega
       cases q with
       | false =>
        go_wp2_with (go_at_call 62;refine(dq _ _ aB).A ?_;rw[hk1];rintro e l ⟨rfl,rfl⟩);go_roundw
        case rel=>exact⟨k+1,ω,ν,nk aC i.l p.l (pJ hk1 hv1),aA⟩
        case measure=>simp[intOf];omega
       | true =>
        cases he:f.toList.isEmpty with
        | false =>
         go_wp2_with (go_at_call 62;refine(dq _ _ aB).A ?_;rw[hk1];rintro e l ⟨rfl,rfl⟩);go_ret;exact⟨OJ (by rw[d.l];exact(dt j.l (vN he)).symm),aA⟩
        | true =>
         go_wp2_with (go_at_call 62;refine(dq _ _ aB).A ?_;rw[hk1];rintro e l ⟨rfl,rfl⟩);go_roundw
         case rel=>exact⟨k+1,ω,ν,nk aC i.l p.l (qT hk1 hv1 he),aA⟩
         case measure=>simp[intOf];omega
    have aD:Hid (∀s∈rs,NZ s=true):=by have:=i.l;rwa [AV ω]at this
    clear i;go_wp2;go_ret;exact⟨OJ (by rw[d.l];exact(yv ω aD.l).symm),aA⟩
  go_enter func20,ntmps20
  go_wp2;go_ret;exact⟨OJ (by rw[d.l];exact(gi ω).symm),AC _ _⟩
 go_enter func20,ntmps20
 go_wp2;go_ret;exact⟨OJ (by rw[d.l];exact(gi ω).symm),AC _ _⟩
theorem VI(s:ByteArray)(w:World)(f:s.size<=1048576):Calls prog 72 #[.string s] w λe w'=>e=.returned (.bool (OU s))/\w'=w:=by
 unfold OU
 by_cases d:1<=s.size
 ·by_cases c:s.size<=20
  ·go_enter func72,ntmps72
   go_wp2;go_ret;exact⟨OJ (by simp[d,c]<;>omega),rfl⟩
  go_enter func72,ntmps72
  go_wp2;go_ret;exact⟨OJ (by simp[c]<;>omega),rfl⟩
 go_enter func72,ntmps72
 go_wp2;go_ret;exact⟨OJ ξ,rfl⟩
theorem YK(s:ByteArray)(w:World)(c:s.size<=1048576):Calls prog 73 #[.string s] w λe w'=>e=.returned (.bool (NY s))/\w'=w:=by
 unfold NY;go_enter func73,ntmps73;go_wp2;go_ret;exact⟨OJ ξ,rfl⟩
theorem dk(a:Option Addr)(rs:List (ByteArray×ByteArray×Bool))(c:Nat)(w:World)(h:Chs w a rs)(E:rs.length<=1048576)(u:∀x∈rs,x.1.size<=1048576/\x.2.1.size<=1048576):Calls prog 29 #[.slice a rs.length c] w λe w'=>e=.returned (.bool (NL rs))/\Below w.heap.size w w':=by
 obtain⟨R,f⟩:∃R,Hid (R=NL rs):=⟨_,Z rfl⟩;rw[<-f.l]
 by_cases G:1<=(rs.length:Int)
 ·by_cases H:(rs.length:Int)<=20
  ·go_enter func29,ntmps29
   go_wp2;go_loopw [4,15] (λ_ i wr=>∃k:Nat,k<=rs.length/\i=.int .i64 k/\Hid (∀x∈rs.take k,NZ x=true)/\Below w.heap.size w wr) (λ_ i _=>rs.length-(intOf i).toNat)
   case atStart=>exact⟨0,AO _,rfl,by show ∀s∈rs.take 0,_;simp,AC _ _⟩
   case round =>
    obtain⟨k,D,rfl,i,aA⟩:=hrel
    by_cases aC:k<rs.length
    ·obtain⟨b,o,t,p,q,rfl,y,z,A,l⟩:=(h.z aA).at aC
     have j:Hid ((t,p,q)∈rs):=by show _∈_;rw[l.l];simp[List.getD,aC]
     obtain⟨aB,aD⟩:=u _ j.l;have aF:(k:Int)<(rs.length:Int):=ω
     have C:(0:Int)<=(k:Int):=ω
     cases hk1:OU t with
     | false =>
      go_wp2_with (first|(go_at_call 72;refine(VI _ _ aB).A ?_;rw[hk1];rintro e d ⟨rfl,rfl⟩))
      go_ret;exact⟨OJ (by rw[f.l];exact(dt j.l (mV hk1)).symm),aA.alloc aA.size _⟩
     | true =>
      cases hv1:NY p with
      | false =>
       skip
       go_wp2_with (first|(go_at_call 72;refine(VI _ _ aB).A ?_;rw[hk1];rintro e d ⟨rfl,rfl⟩)|(go_at_call 73;refine(YK _ _ aD).A ?_;rw[hv1];rintro e d ⟨rfl,rfl⟩))
       go_ret;exact⟨OJ (by rw[f.l];exact(dt j.l (pY hv1)).symm),aA.alloc aA.size _⟩
      | true =>
       skip
       cases q with
       | false =>
        go_wp2_with (first|(go_at_call 72;refine(VI _ _ aB).A ?_;rw[hk1];rintro e d ⟨rfl,rfl⟩)|(go_at_call 73;refine(YK _ _ aD).A ?_;rw[hv1];rintro e d ⟨rfl,rfl⟩))
        go_roundw
        case rel=>exact⟨k+1,ω,ν,nk aC i.l l.l (pJ hk1 hv1),aA.alloc aA.size _⟩
        case measure=>simp[intOf];omega
       | true =>
        cases he:p.toList.isEmpty with
        | false =>
         go_wp2_with (first|(go_at_call 72;refine(VI _ _ aB).A ?_;rw[hk1];rintro e d ⟨rfl,rfl⟩)|(go_at_call 73;refine(YK _ _ aD).A ?_;rw[hv1];rintro e d ⟨rfl,rfl⟩))
         go_ret;exact⟨OJ (by rw[f.l];exact(dt j.l (vN he)).symm),aA.alloc aA.size _⟩
        | true =>
         go_wp2_with (first|(go_at_call 72;refine(VI _ _ aB).A ?_;rw[hk1];rintro e d ⟨rfl,rfl⟩)|(go_at_call 73;refine(YK _ _ aD).A ?_;rw[hv1];rintro e d ⟨rfl,rfl⟩))
         go_roundw
         case rel=>exact⟨k+1,ω,ν,nk aC i.l l.l (qT hk1 hv1 he),aA.alloc aA.size _⟩
         case measure=>simp[intOf];omega
    have aE:Hid (∀s∈rs,NZ s=true):=by have:=i.l;rwa [AV ω]at this
    clear i;go_wp2;go_ret;exact⟨OJ (by rw[f.l];exact(yv ω aE.l).symm),aA⟩
  go_enter func29,ntmps29
  go_wp2;go_ret;exact⟨OJ (by rw[f.l];exact(gi ω).symm),AC _ _⟩
 go_enter func29,ntmps29
 go_wp2;go_ret;exact⟨OJ (by rw[f.l];exact(gi ω).symm),AC _ _⟩
section
theorem bk(s:ByteArray)(b:Bool)(w:World)(c:s.size<=1048576)(h:OU s=b):Calls prog 62 #[.string s] w λe w'=>e=.returned (.bool b)/\w'=w:=by
 rw[<-h];exact dq s w c
def SD(a b:ByteArray):Bool:=Op.bytesLess a.toList b.toList
def PW(rs:List (ByteArray×ByteArray))(i:Nat):Bool:=OU (rs.getD i (empty,empty)).1 && NY (rs.getD i (empty,empty)).2 && (decide (i=0) || SD (rs.getD (i-1) (empty,empty)).1 (rs.getD i (empty,empty)).1)
def LV(rs:List (ByteArray×ByteArray)):Bool:=decide (rs.length<=100) && (List.range rs.length).all (PW rs)
theorem uT(h:¬(rs.length<=100)):LV rs=false:=by simp[LV,h]
theorem XF(c:k<rs.length)(h:PW rs k=false):LV rs=false:=by
 have:(List.range rs.length).all (PW rs)=false:=FW.2 ⟨k,EZ.2 c,by simp[h]⟩;simp[LV,this]
theorem vk(h:rs.length<=100)(c:∀k,k<rs.length->PW rs k=true):LV rs=true:=by
 simp only[LV,BE,BC,DO];exact⟨h,λk d=>c k (EZ.1 d)⟩
theorem ZT(h:LV rs=true):rs.length<=100/\∀k,k<rs.length->PW rs k=true:=by
 simp only[LV,BE,BC,DO]at h;exact⟨h.1,λk c=>h.2 k (EZ.2 c)⟩
section
variable {rs:List (ByteArray×ByteArray)} {k j:Nat} {s0 s1 t0 t1:ByteArray}
theorem kj(c:(s0,s1)=rs.getD k (empty,empty))(h:OU s0=false):PW rs k=false:=by unfold PW;rw[<-c];simp[h]
theorem py(c:(s0,s1)=rs.getD k (empty,empty))(h:NY s1=false):PW rs k=false:=by unfold PW;rw[<-c];simp[h]
theorem uK(c:(s0,s1)=rs.getD k (empty,empty))(d:(t0,t1)=rs.getD j (empty,empty))(f:k=j+1)(h:Op.bytesLess t0.toList s0.toList=false):PW rs k=false:=by
 unfold PW SD;rw[<-c];subst f;rw[JW,<-d];simp[h]
theorem rH(d:(s0,s1)=rs.getD k (empty,empty))(f:k=0)(h:OU s0=true)(c:NY s1=true):PW rs k=true:=by subst f;unfold PW;rw[<-d];simp[h,c]
theorem rI(f:(s0,s1)=rs.getD k (empty,empty))(i:(t0,t1)=rs.getD j (empty,empty))(l:k=j+1)(h:OU s0=true)(c:NY s1=true)(d:Op.bytesLess t0.toList s0.toList=true):PW rs k=true:=by
 unfold PW SD;rw[<-f];subst l;rw[JW,<-i];simp[h,c,d]
theorem ju(d:∀i,i<k->PW rs i=true)(h:PW rs k=true):∀i,i<k+1->PW rs i=true:=by
 intro i hi;rcases FY i k with c|c
 ·exact d i c
 have:i=k:=ω
 subst this;exact h
end
theorem pi(a:Option Addr)(rs:List (ByteArray×ByteArray))(c:Nat)(w:World)(h:Prs w a rs)(hl:rs.length<=1048576)(I:∀x∈rs,x.1.size<=1048576/\x.2.size<=1048576):Calls prog 41 #[.agg #[.slice a rs.length c]] w λe w'=>e=.returned (.bool (LV rs))/\Below w.heap.size w w':=by
 have aB:∀o,Below w.heap.size w (w.alloc o):=λo=>KW _ _
 obtain⟨R,f⟩:∃R,Hid (R=LV rs):=⟨_,Z rfl⟩;rw[<-f.l]
 by_cases hp:(rs.length:Int)<=100
 ·go_enter func41,ntmps41
  go_wp2;go_loopw [3] (λi wr=>∃k:Nat,k<=rs.length/\i=.int .i64 k/\Hid (∀i,i<k->PW rs i=true)/\Below (w.heap.size+1) (w.alloc (.cells #[.slice a rs.length c] 31)) wr) (λi _=>rs.length-(intOf i).toNat)
  case atStart=>exact⟨0,AO _,rfl,λi hi=>ω,AC _ _⟩
  case round =>
   obtain⟨k,hk,rfl,q,aA⟩:=hrel;have s:Below w.heap.size w wr:=(aB _).j (aA.A ω);have K:wr.cell? ⟨w.heap.size,0,none⟩=some (.slice a rs.length c):=(aA.cell (p:=⟨w.heap.size,0,none⟩) (by show w.heap.size<_;omega)).j γ;have U:w.heap.size+1<=wr.heap.size:=by have:=aA.size;simpa using this
   by_cases aC:k<rs.length
   ·obtain⟨b,o,p,d,rfl,N,O,l⟩:=(h.z s).at aC
    have H:Hid ((p,d)∈rs):=by show _∈_;rw[l.l];simp[List.getD,aC]
    obtain⟨aD,X⟩:=I _ H.l;have M:(k:Int)<(rs.length:Int):=ω
    rcases FL k with t|t
    ·have z:decide ((0:Int)<(k:Int))=false:=τ
     have y:decide (0<k)=false:=τ
     have D:(0:Int)<=(k:Int):=ω
     have j:=Z t;clear t
     cases hk1:OU p with
     | false =>
      go_wp2_with fail;go_quiet ((go_at_call 62;exact Calls.quiet_of_same (bk _ _ _ aD hk1)));go_wp2;go_ret;exact⟨OJ (by rw[f.l];exact(XF aC (kj l.l hk1)).symm),(aB _).j ((below_drewN aA _).A ω)⟩
     | true =>
      cases hv1:NY d with
      | false =>
       have u:decide (100<(d.size:Int))=true:=by simp[NY]at hv1;simp;omega
       go_wp2_with fail;go_quiet ((go_at_call 62;exact Calls.quiet_of_same (bk _ _ _ aD hk1)));go_wp2;go_ret;exact⟨OJ (by rw[f.l];exact(XF aC (py l.l hv1)).symm),(aB _).j ((below_drewN aA _).A ω)⟩
      | true =>
       have u:decide (100<(d.size:Int))=false:=by simp[NY]at hv1;simp;omega
       go_wp2_with fail;go_quiet ((go_at_call 62;exact Calls.quiet_of_same (bk _ _ _ aD hk1)));go_wp2;go_roundw
       case rel=>exact⟨_,ω,ν,ju q.l (rH l.l j.l hk1 hv1),below_drewN aA _⟩
       case measure=>simp[intOf];omega
    obtain⟨j,u⟩:∃j,k=j+1:=⟨k-1,ω⟩
    have T:(k:Int)-1=(j:Int):=ω
    have Q:(0:Int)<=(j:Int):=ω
    have D:(0:Int)<=(k:Int):=ω
    have L:(0:Int)<(k:Int):=ω
    have W:IntKind.i64.wrap (j:Int)=(j:Int):=by simp[IntKind.wrap,IntKind.bits,IntKind.signed];omega
    have S:(j:Int)<(rs.length:Int):=ω
    obtain⟨b',o',y,t1,G,C,P,A⟩:=(h.z s).at (show j<rs.length by omega)
    cases G
    have z:=Z u;clear u
    have aF:∀u,Below wr.heap.size wr (wr.alloc u):=λu=>KW _ _
    have u:b<wr.heap.size:=by have:=DI wr _ C;simpa using this
    have qa:=((aF (.cells #[.string p,.string d] 136)).cell (p:=⟨w.heap.size,0,none⟩) (by show w.heap.size<_;omega)).j K;have qb:=((aF (.cells #[.string p,.string d] 136)).cell (p:=⟨b,o+j*2,none⟩) u).j C;clear aF u
    cases hk1:OU p with
    | false =>
     go_wp2_with fail;go_quiet ((go_at_call 62;exact Calls.quiet_of_same (bk _ _ _ aD hk1)));go_wp2;go_ret;exact⟨OJ (by rw[f.l];exact(XF aC (kj l.l hk1)).symm),(aB _).j ((below_drewN aA _).A ω)⟩
    | true =>
     cases hv1:NY d with
     | false =>
      have u:decide (100<(d.size:Int))=true:=by simp[NY]at hv1;simp;omega
      go_wp2_with fail;go_quiet ((go_at_call 62;exact Calls.quiet_of_same (bk _ _ _ aD hk1)));go_wp2;go_ret;exact⟨OJ (by rw[f.l];exact(XF aC (py l.l hv1)).symm),(aB _).j ((below_drewN aA _).A ω)⟩
     | true =>
      have u:decide (100<(d.size:Int))=false:=by simp[NY]at hv1;simp;omega
      cases hlt3:Op.bytesLess y.toList p.toList with
      | false =>
       have E:(!Op.bytesLess y.toList p.toList)=true:=by simp[hlt3]
       go_wp2_with fail;go_quiet ((go_at_call 62;exact Calls.quiet_of_same (bk _ _ _ aD hk1)));go_wp2;go_ret;exact⟨OJ (by rw[f.l];exact(XF aC (uK l.l A.l z.l hlt3)).symm),(aB _).j ((below_drewN aA _).A ω)⟩
      | true =>
       have E:(!Op.bytesLess y.toList p.toList)=false:=by simp[hlt3]
       go_wp2_with fail;go_quiet ((go_at_call 62;exact Calls.quiet_of_same (bk _ _ _ aD hk1)));go_wp2;go_roundw
       case rel=>exact⟨_,ω,ν,ju q.l (rI l.l A.l z.l hk1 hv1 hlt3),below_drewN aA _⟩
       case measure=>simp[intOf];omega
   have aE:Hid (∀i,i<rs.length->PW rs i=true):=λi hi=>q.l i ω
   clear q;go_wp2;go_ret;exact⟨OJ (by rw[f.l];exact(vk ω aE.l).symm),s⟩
 go_enter func41,ntmps41
 go_wp2;go_ret;exact⟨OJ (by rw[f.l];exact(uT ω).symm),aB _⟩
theorem nn(a:Option Addr)(rs:List (ByteArray×ByteArray))(c:Nat)(w:World)(h:Prs w a rs)(hl:rs.length<=1048576)(K:∀x∈rs,x.1.size<=1048576/\x.2.size<=1048576):Calls prog 71 #[.agg #[.slice a rs.length c]] w λe w'=>e=.returned (.bool (LV rs))/\Below w.heap.size w w':=by
 have aB:∀o,Below w.heap.size w (w.alloc o):=λo=>KW _ _
 obtain⟨R,l⟩:∃R,Hid (R=LV rs):=⟨_,Z rfl⟩;rw[<-l.l]
 by_cases hp:(rs.length:Int)<=100
 ·go_enter func71,ntmps71
  go_wp2;go_loopw [3,4,12] (λ_ _ i wr=>∃k:Nat,k<=rs.length/\i=.int .i64 k/\Hid (∀i,i<k->PW rs i=true)/\Below (w.heap.size+1) (w.alloc (.cells #[.slice a rs.length c] 31)) wr) (λ_ _ i _=>rs.length-(intOf i).toNat)
  case atStart=>exact⟨0,AO _,rfl,λi hi=>ω,AC _ _⟩
  case round =>
   obtain⟨k,hk,rfl,s,aA⟩:=hrel;have t:Below w.heap.size w wr:=(aB _).j (aA.A ω);have L:wr.cell? ⟨w.heap.size,0,none⟩=some (.slice a rs.length c):=(aA.cell (p:=⟨w.heap.size,0,none⟩) (by show w.heap.size<_;omega)).j γ;have aD:w.heap.size+1<=wr.heap.size:=by have:=aA.size;simpa using this
   by_cases aC:k<rs.length
   ·obtain⟨b,o,q,f,rfl,O,P,p⟩:=(h.z t).at aC
    have I:Hid ((q,f)∈rs):=by show _∈_;rw[p.l];simp[List.getD,aC]
    obtain⟨aE,aF⟩:=K _ I.l;have N:(k:Int)<(rs.length:Int):=ω
    rcases FL k with u|u
    ·have A:decide ((0:Int)<(k:Int))=false:=τ
     have z:decide (0<k)=false:=τ
     have E:(0:Int)<=(k:Int):=ω
     have j:=Z u;clear u
     cases hk1:OU q with
     | false =>
      go_wp2_with (first|(go_at_call 72;refine(VI _ _ aE).A ?_;rw[hk1];rintro e d ⟨rfl,rfl⟩))
      go_ret;exact⟨OJ (by rw[l.l];exact(XF aC (kj p.l hk1)).symm),(aB _).j ((aA.alloc aD _).A ω)⟩
     | true =>
      cases hv1:NY f with
      | false =>
       have y:decide (100<(f.size:Int))=true:=by simp[NY]at hv1;simp;omega
       go_wp2_with (first|(go_at_call 72;refine(VI _ _ aE).A ?_;rw[hk1];rintro e d ⟨rfl,rfl⟩)|(go_at_call 73;refine(YK _ _ aF).A ?_;rw[hv1];rintro e d ⟨rfl,rfl⟩))
       go_ret;exact⟨OJ (by rw[l.l];exact(XF aC (py p.l hv1)).symm),(aB _).j ((aA.alloc aD _).A ω)⟩
      | true =>
       have y:decide (100<(f.size:Int))=false:=by simp[NY]at hv1;simp;omega
       go_wp2_with (first|(go_at_call 72;refine(VI _ _ aE).A ?_;rw[hk1];rintro e d ⟨rfl,rfl⟩)|(go_at_call 73;refine(YK _ _ aF).A ?_;rw[hv1];rintro e d ⟨rfl,rfl⟩))
       go_quiet (fail);go_wp2;go_roundw
       case rel=>exact⟨_,ω,ν,ju s.l (rH p.l j.l hk1 hv1),below_drewN (aA.alloc aD _) _⟩
       case measure=>simp[intOf];omega
    obtain⟨j,d⟩:∃j,k=j+1:=⟨k-1,ω⟩
    have U:(k:Int)-1=(j:Int):=ω
    have S:(0:Int)<=(j:Int):=ω
    have E:(0:Int)<=(k:Int):=ω
    have M:(0:Int)<(k:Int):=ω
    have W:IntKind.i64.wrap (j:Int)=(j:Int):=by simp[IntKind.wrap,IntKind.bits,IntKind.signed];omega
    have T:(j:Int)<(rs.length:Int):=ω
    obtain⟨X,o',z,t1,H,D,Q,C⟩:=(h.z t).at (show j<rs.length by omega)
    cases H
    have A:=Z d;clear d
    have d:∀y,Below wr.heap.size wr (wr.alloc y):=λy=>KW _ _
    have y:b<wr.heap.size:=by have:=DI wr _ D;simpa using this
    have qa:=((d (.cells #[.string q,.string f] 136)).cell (p:=⟨w.heap.size,0,none⟩) (by show w.heap.size<_;omega)).j L;have qb:=((d (.cells #[.string q,.string f] 136)).cell (p:=⟨b,o+j*2,none⟩) y).j D;clear d y
    cases hk1:OU q with
    | false =>
     go_wp2_with (first|(go_at_call 72;refine(VI _ _ aE).A ?_;rw[hk1];rintro e d ⟨rfl,rfl⟩))
     go_ret;exact⟨OJ (by rw[l.l];exact(XF aC (kj p.l hk1)).symm),(aB _).j ((aA.alloc aD _).A ω)⟩
    | true =>
     cases hv1:NY f with
     | false =>
      have y:decide (100<(f.size:Int))=true:=by simp[NY]at hv1;simp;omega
      go_wp2_with (first|(go_at_call 72;refine(VI _ _ aE).A ?_;rw[hk1];rintro e d ⟨rfl,rfl⟩)|(go_at_call 73;refine(YK _ _ aF).A ?_;rw[hv1];rintro e d ⟨rfl,rfl⟩))
      go_ret;exact⟨OJ (by rw[l.l];exact(XF aC (py p.l hv1)).symm),(aB _).j ((aA.alloc aD _).A ω)⟩
     | true =>
      have y:decide (100<(f.size:Int))=false:=by simp[NY]at hv1;simp;omega
      cases hlt3:Op.bytesLess z.toList q.toList with
      | false =>
       have G:(!Op.bytesLess z.toList q.toList)=true:=by simp[hlt3]
       go_wp2_with (first|(go_at_call 72;refine(VI _ _ aE).A ?_;rw[hk1];rintro e d ⟨rfl,rfl⟩)|(go_at_call 73;refine(YK _ _ aF).A ?_;rw[hv1];rintro e d ⟨rfl,rfl⟩))
       go_quiet (fail);go_wp2;go_ret;exact⟨OJ (by rw[l.l];exact(XF aC (uK p.l C.l A.l hlt3)).symm),(aB _).j ((below_drewN (aA.alloc aD _) _).A ω)⟩
      | true =>
       have G:(!Op.bytesLess z.toList q.toList)=false:=by simp[hlt3]
       go_wp2_with (first|(go_at_call 72;refine(VI _ _ aE).A ?_;rw[hk1];rintro e d ⟨rfl,rfl⟩)|(go_at_call 73;refine(YK _ _ aF).A ?_;rw[hv1];rintro e d ⟨rfl,rfl⟩))
       go_quiet (fail);go_wp2;go_roundw
       case rel=>exact⟨_,ω,ν,ju s.l (rI p.l C.l A.l hk1 hv1 hlt3),below_drewN (aA.alloc aD _) _⟩
       case measure=>simp[intOf];omega
   have d:Hid (∀i,i<rs.length->PW rs i=true):=λi hi=>s.l i ω
   clear s;go_wp2;go_ret;exact⟨OJ (by rw[l.l];exact(vk ω d.l).symm),t⟩
 go_enter func71,ntmps71
 go_wp2;go_ret;exact⟨OJ (by rw[l.l];exact(uT ω).symm),aB _⟩
end
section
theorem LR(h:w.ownsRow base e size v n xs)(o:Below w.heap.size w w'):w'.ownsRow base e size v n xs:=by
 refine⟨h.1,?_⟩;rcases h.2 with f|⟨g,cap,c,i,j,d,l⟩
 ·exact .inl f
 refine .inr ⟨g,cap,c,i,j,?_,l⟩
 have aA:g<w.heap.size:=by
  rcases FY g w.heap.size with h|h
  ·exact h
  rw[DP h]at d;cases d
 rw[o.block g aA];exact d
theorem SA(h:w.ownsRow base e size (.slice (some ⟨g,0,none⟩) n cap) n xs):Row w g xs:=by
 have l:=(h.lt g rfl).2;refine⟨l,λi v hv=>?_,λi hi=>?_⟩
 ·have:=h.cells (g:=g) rfl i v hv
  have c:(⟨g,0,none⟩:Addr).add i=⟨g,i,none⟩:=by unfold Addr.add;split<;>simp_all
  rwa [c]at this
 rcases h.2 with ⟨j,_⟩|⟨o,aA,f,c,_,d,_⟩
 ·cases j
 simp at c
 rw[<-c.1]at d;simp[World.frozen?,d]
theorem qf{t:TypeId}{s:Nat}{c:Nat}(h:w.ownsRow base t s (.slice a n c) m xs):m<=c:=by
 rcases h.2 with ⟨d,i⟩|⟨g,cap,f,d,_,_,i,_⟩
 ·omega
 injection d with _ _ e;omega
theorem MO(h:w.ownsRow base e size v n xs):(v=.slice none 0 0/\n=0)\/∃g cap,v=.slice (some ⟨g,0,none⟩) n cap/\base<=g/\g<w.heap.size/\Row w g xs:=by
 rcases h.2 with d|⟨g,cap,c,f,i,j,l⟩
 ·exact .inl d
 subst f
 exact .inr ⟨g,cap,rfl,i,(h.lt g rfl).2,SA h⟩
structure Dsk(W w:World)(R D base:Nat)(e e':TypeId)(v v':Value)(ss:List ByteArray)(ws:List (Int×ByteArray)):Prop where
 hR:W.heap.size<=R
 hR':R<base
 hD:W.heap.size<=D
 hD':D<base
 ne:R≠D
 sz:base<=w.heap.size
 bel:Below W.heap.size W w
 r0:w.cell? ⟨R,0,none⟩=some (.slice none 0 0)
 r1:w.cell? ⟨R,1,none⟩=some (.slice none 0 0)
 fr0:w.frozen? ⟨R,0,none⟩=false
 fr1:w.frozen? ⟨R,1,none⟩=false
 d0:w.cell? ⟨D,0,none⟩=some v
 d1:w.cell? ⟨D,1,none⟩=some v'
 fd0:w.frozen? ⟨D,0,none⟩=false
 fd1:w.frozen? ⟨D,1,none⟩=false
 own:w.ownsRow base e 1 v ss.length (ss.map Value.string)
 own':w.ownsRow base e' 2 v' ws.length (MH ws)
 apart:v.ownBlock=none\/v'.ownBlock=none\/v.ownBlock≠v'.ownBlock
section
variable {W w w':World} {R D base:Nat} {e e':TypeId} {v v':Value} {ss:List ByteArray} {ws:List (Int×ByteArray)}
theorem Dsk.z(h:Dsk W w R D base e e' v v' ss ws)(c:Below w.heap.size w w'):Dsk W w' R D base e e' v v' ss ws :=have f:R<w.heap.size:=AD h.hR' h.sz;have d:D<w.heap.size:=AD h.hD' h.sz;have i:W.heap.size<=w.heap.size:=h.bel.size
 ⟨h.hR,h.hR',h.hD,h.hD',h.ne,AL h.sz c.size,h.bel.j (c.A i),(c.cell (p:=⟨R,0,none⟩) f).j h.r0,(c.cell (p:=⟨R,1,none⟩) f).j h.r1,(c.frozen (p:=⟨R,0,none⟩) f).j h.fr0,(c.frozen (p:=⟨R,1,none⟩) f).j h.fr1,
  (c.cell (p:=⟨D,0,none⟩) d).j h.d0,(c.cell (p:=⟨D,1,none⟩) d).j h.d1,(c.frozen (p:=⟨D,0,none⟩) d).j h.fd0,(c.frozen (p:=⟨D,1,none⟩) d).j h.fd1,LR h.own c,LR h.own' c,h.apart⟩
theorem Dsk.drew(h:Dsk W w R D base e e' v v' ss ws):Dsk W w.drew R D base e e' v v' ss ws:=h.z ((AC _ _).drew)
theorem Dsk.alloc(h:Dsk W w R D base e e' v v' ss ws)(o:Obj):Dsk W (w.alloc o) R D base e e' v v' ss ws:=h.z (KW _ _)
theorem Dsk.push(h:Dsk W w R D base e e' v v' ss ws){H:Nat}{s:ByteArray}(aA:w1.ownsRow base e 1 (.slice (some ⟨g,0,none⟩) (ss.length+1) cap) (ss.length+1) (ss.map Value.string++[.string s]))(d:w.grownBy w1 v.ownBlock)(aC:v.ownBlock=some g\/g=H)(C:w.heap.size=H):Dsk W (w1.setCell ⟨D,0,none⟩ (.slice (some ⟨g,0,none⟩) (ss.length+1) cap)) R D base e e' (.slice (some ⟨g,0,none⟩) (ss.length+1) cap) v' (ss++[s]) ws:=by
 have y:R<w.heap.size:=AD h.hR' h.sz;have u:D<w.heap.size:=AD h.hD' h.sz;have E:W.heap.size<=w.heap.size:=h.bel.size
 have j:∀k,k<base->some k≠v.ownBlock:=λk c f=>by have:=(h.own.lt k f.symm).1;omega
 have o:∀i,w1.cell? ⟨R,i,none⟩=w.cell? ⟨R,i,none⟩:=λi=>d.cell_far ⟨R,i,none⟩ y (j R h.hR')
 have l:∀i,w1.cell? ⟨D,i,none⟩=w.cell? ⟨D,i,none⟩:=λi=>d.cell_far ⟨D,i,none⟩ u (j D h.hD')
 have q:∀i,w1.frozen? ⟨R,i,none⟩=w.frozen? ⟨R,i,none⟩:=λi=>d.frozen_far ⟨R,i,none⟩ y (j R h.hR')
 have p:∀i,w1.frozen? ⟨D,i,none⟩=w.frozen? ⟨D,i,none⟩:=λi=>d.frozen_far ⟨D,i,none⟩ u (j D h.hD')
 have A:base<=g:=(aA.lt g rfl).1;have aB:Below W.heap.size W w1:=h.bel.j ⟨d.os,d.tape,d.output,d.size,λk c=>d.block k ω (j k (by have:=h.hR;have:=h.hR';omega))⟩
 have z:v'.ownBlock=none\/(Value.slice (some ⟨g,0,none⟩) (ss.length+1) cap).ownBlock≠v'.ownBlock:=by
  cases hv':v'.ownBlock with
  | none=>exact .inl rfl
  | some t =>
   refine .inr λf=>?_
   have aD:g=t:=by simpa[Value.ownBlock] using f
   have aE:=(h.own'.lt t hv').2;rcases aC with i|i
   ·rcases h.apart with c|c|c
    ·rw[i]at c;cases c
    ·rw[hv']at c;cases c
    rw[i,hv',aD]at c;exact c rfl
   omega
 refine⟨h.hR,h.hR',h.hD,h.hD',h.ne,?_,aB.setCell h.hD _,?_,?_,?_,?_,?_,?_,?_,?_,?_,?_,?_⟩
 ·have:=d.size;have:=h.sz;simp only[BJ];omega
 ·rw[BZ (w:=w1) (h:=show(⟨D,0,none⟩:Addr)≠⟨R,0,none⟩ fromλf=>h.ne (by injection f with i;exact i.symm)),o];exact h.r0
 ·rw[BZ (w:=w1) (h:=show(⟨D,0,none⟩:Addr)≠⟨R,1,none⟩ fromλf=>h.ne (by injection f with i;exact i.symm)),o];exact h.r1
 ·rw[BL,q];exact h.fr0
 ·rw[BL,q];exact h.fr1
 ·exact FD w1 _ _ ((l 0).j h.d0)
 ·rw[BZ (w:=w1) (h:=show(⟨D,0,none⟩:Addr)≠⟨D,1,none⟩ by simp),l];exact h.d1
 ·rw[BL,p];exact h.fd0
 ·rw[BL,p];exact h.fd1
 ·have:=DT aA (a:=⟨D,0,none⟩) h.hD' (.slice (some ⟨g,0,none⟩) (ss.length+1) cap)
  simpa using this
 ·have i:w1.ownsRow base e' 2 v' ws.length (MH ws):=h.own'.kept d (by
   rcases h.apart with c|c|c
   ·cases hv':v'.ownBlock with
    | none=>exact .inl rfl
    | some _=>rw[c];exact .inr σ
   ·exact .inl c
   ·exact .inr (λf=>c f.symm))
  exact DT i (a:=⟨D,0,none⟩) h.hD' _
 exact .inr z
theorem Dsk.push2(h:Dsk W w R D base e e' v v' ss ws){H:Nat}{x:Int×ByteArray}(aA:w1.ownsRow base e' 2 (.slice (some ⟨g,0,none⟩) (ws.length+1) cap) (ws.length+1) (MH ws++[.int .i64 x.1,.string x.2]))(f:w.grownBy w1 v'.ownBlock)(aC:v'.ownBlock=some g\/g=H)(A:w.heap.size=H):Dsk W (w1.setCell ⟨D,1,none⟩ (.slice (some ⟨g,0,none⟩) (ws.length+1) cap)) R D base e e' v (.slice (some ⟨g,0,none⟩) (ws.length+1) cap) ss (ws++[x]):=by
 have u:R<w.heap.size:=AD h.hR' h.sz;have t:D<w.heap.size:=AD h.hD' h.sz;have C:W.heap.size<=w.heap.size:=h.bel.size
 have l:∀k,k<base->some k≠v'.ownBlock:=λk c j=>by have:=(h.own'.lt k j.symm).1;omega
 have p:∀i,w1.cell? ⟨R,i,none⟩=w.cell? ⟨R,i,none⟩:=λi=>f.cell_far ⟨R,i,none⟩ u (l R h.hR')
 have o:∀i,w1.cell? ⟨D,i,none⟩=w.cell? ⟨D,i,none⟩:=λi=>f.cell_far ⟨D,i,none⟩ t (l D h.hD')
 have s:∀i,w1.frozen? ⟨R,i,none⟩=w.frozen? ⟨R,i,none⟩:=λi=>f.frozen_far ⟨R,i,none⟩ u (l R h.hR')
 have q:∀i,w1.frozen? ⟨D,i,none⟩=w.frozen? ⟨D,i,none⟩:=λi=>f.frozen_far ⟨D,i,none⟩ t (l D h.hD')
 have z:base<=g:=(aA.lt g rfl).1;have aB:Below W.heap.size W w1:=h.bel.j ⟨f.os,f.tape,f.output,f.size,λk c=>f.block k ω (l k (by have:=h.hR;have:=h.hR';omega))⟩
 have y:v.ownBlock=none\/v.ownBlock≠(Value.slice (some ⟨g,0,none⟩) (ws.length+1) cap).ownBlock:=by
  cases hv:v.ownBlock with
  | none=>exact .inl rfl
  | some i =>
   refine .inr λj=>?_
   have aD:i=g:=by simpa[Value.ownBlock] using j
   have aE:=(h.own.lt i hv).2;rcases aC with d|d
   ·rcases h.apart with c|c|c
    ·rw[hv]at c;cases c
    ·rw[d]at c;cases c
    rw[d,hv,aD]at c;exact c rfl
   omega
 refine⟨h.hR,h.hR',h.hD,h.hD',h.ne,?_,aB.setCell h.hD _,?_,?_,?_,?_,?_,?_,?_,?_,?_,?_,?_⟩
 ·have:=f.size;have:=h.sz;simp only[BJ];omega
 ·rw[BZ (w:=w1) (h:=show(⟨D,1,none⟩:Addr)≠⟨R,0,none⟩ fromλj=>h.ne (by injection j with d;exact d.symm)),p];exact h.r0
 ·rw[BZ (w:=w1) (h:=show(⟨D,1,none⟩:Addr)≠⟨R,1,none⟩ fromλj=>h.ne (by injection j with d;exact d.symm)),p];exact h.r1
 ·rw[BL,s];exact h.fr0
 ·rw[BL,s];exact h.fr1
 ·rw[BZ (w:=w1) (h:=show(⟨D,1,none⟩:Addr)≠⟨D,0,none⟩ by simp),o];exact h.d0
 ·exact FD w1 _ _ ((o 1).j h.d1)
 ·rw[BL,q];exact h.fd0
 ·rw[BL,q];exact h.fd1
 ·have d:w1.ownsRow base e 1 v ss.length (ss.map Value.string):=h.own.kept f (by
   rcases h.apart with c|c|c
   ·exact .inl c
   ·cases hv:v.ownBlock with
    | none=>exact .inl rfl
    | some _=>rw[c];exact .inr σ
   ·exact .inr c)
  exact DT d (a:=⟨D,1,none⟩) h.hD' _
 ·have:=DT aA (a:=⟨D,1,none⟩) h.hD' (.slice (some ⟨g,0,none⟩) (ws.length+1) cap)
  rw[AE,xW];exact this
 rcases y with d|d
 ·exact .inl d
 exact .inr (.inr d)
theorem Dsk.I(h:Dsk W w R D base e e' v v' ss ws)(c:w.grownBy w1 v.ownBlock):w1.cell? ⟨D,0,none⟩=some v/\w1.frozen? ⟨D,0,none⟩=false:=by
 have d:D<w.heap.size:=AD h.hD' h.sz
 have f:some D≠v.ownBlock:=λi=>by have:=(h.own.lt D i.symm).1;have:=h.hD';omega
 exact⟨(c.cell_far ⟨D,0,none⟩ d f).j h.d0,(c.frozen_far ⟨D,0,none⟩ d f).j h.fd0⟩
theorem Dsk.grown2(h:Dsk W w R D base e e' v v' ss ws)(c:w.grownBy w1 v'.ownBlock):w1.cell? ⟨D,1,none⟩=some v'/\w1.frozen? ⟨D,1,none⟩=false:=by
 have d:D<w.heap.size:=AD h.hD' h.sz
 have f:some D≠v'.ownBlock:=λi=>by have:=(h.own'.lt D i.symm).1;have:=h.hD';omega
 exact⟨(c.cell_far ⟨D,1,none⟩ d f).j h.d1,(c.frozen_far ⟨D,1,none⟩ d f).j h.fd1⟩
end
end
def MQ(x:ByteArray×ByteArray×Bool):List Int:=if x.2.2 then [1]++([(x.1.size:Int)]++KU x.1) else [0]++([(x.1.size:Int)]++KU x.1)++([(x.2.1.size:Int)]++KU x.2.1)
def QY(rs:List (ByteArray×ByteArray×Bool)):ByteArray:=strOfNums (rs.flatMap MQ)
theorem Hd:QY []=empty:=rfl
theorem Aa(k v:ByteArray):strOfNums [0]++(strOfNums [(k.size:Int)]++k)++(strOfNums [(v.size:Int)]++v)=strOfNums (MQ (k,v,false)):=by
 show _=strOfNums ([0]++([(k.size:Int)]++KU k)++([(v.size:Int)]++KU v));rw[TT,TT,TT,TT,TI,TI]
theorem Cr(k v:ByteArray):strOfNums [1]++(strOfNums [(k.size:Int)]++k)=strOfNums (MQ (k,v,true)):=by
 show _=strOfNums ([1]++([(k.size:Int)]++KU k));rw[TT,TT,TI]
theorem Cg(rs:List (ByteArray×ByteArray×Bool))(k:Nat)(x:ByteArray×ByteArray×Bool)(d:ByteArray×ByteArray×Bool)(h:k<rs.length)(c:x=rs.getD k d):QY (rs.take (k+1))=QY (rs.take k)++strOfNums (MQ x):=by
 unfold QY;rw[AX h,List.flatMap_append,TT];simp[List.getD,h]at c;rw[c];simp
theorem mD(x:ByteArray×ByteArray×Bool)(h:NZ x=true):(strOfNums (MQ x)).size<=123:=by
 rw[BU];unfold NZ OU NY at h;simp only[BE,BC]at h;unfold MQ
 split
 ·simp[ME];omega
 simp[ME];omega
theorem sd(rs:List (ByteArray×ByteArray×Bool))(h:∀x∈rs,NZ x=true):(QY rs).size<=123*rs.length:=by
 induction rs with
 | nil=>simp[Hd]
 | cons x r d =>
  have f:=d (λy c=>h y (DS _ c));have c:=mD x (h x (EH));have e:QY (x::r)=strOfNums (MQ x)++QY r:=by unfold QY;rw[GI,TT]
  rw[e,BK,CA];omega
def KZ(rs:List (ByteArray×ByteArray×Bool)):ByteArray:=if NL rs=true then QY rs else empty
abbrev Ch:=ByteArray×ByteArray×Bool
def b0(r:ByteArray):Nat:=(r.data.toList.getD 0 0).toNat
theorem jy(r:ByteArray):b0 r<=255:=by unfold b0;have:=GT (r.data.toList.getD 0 0);omega
theorem ir(r:ByteArray)(a b:Nat):KU (r.extract a b)=((KU r).drop a).take (b-a):=by
 unfold KU;rw[EL,JN,List.extract_eq_take_drop,ID,KH]
theorem gx(r:ByteArray)(h:0<r.size):KU r=(b0 r:Int)::(KU r).drop 1:=by
 have c:0<r.data.toList.length:=h;unfold KU b0
 match r.data.toList,c with
 | x::l,_=>simp
theorem ph{r s:ByteArray}(h:KU r=KU s):r=s:=by rw[<-TI r,h,TI]
theorem xI:KU empty=[]:=rfl
theorem ie(r:ByteArray):∀y∈KU r,0<=y/\y<=255:=by
 intro y d;unfold KU at d;obtain⟨c,_,rfl⟩:=DL.1 d;have:=GT c;omega
theorem ZL:∀(xs:List Int),(∀y∈xs,0<=y/\y<=255)->KU (strOfNums xs)=xs
 | [],_=>rfl
 | x::l,h=>by
  have ih:=ZL l (λy hy=>h y (DS _ hy));have hx:=h x (EH);simp only[KU,strOfNums]at ih⊢;simp only[IC,GW,List.toList_toArray]at ih⊢;simp[List.map_eq_map_iff]at ih⊢
  constructor
  ·omega
  exact ih
def pc(r:ByteArray):Option (ByteArray×ByteArray):=if 1<=r.size/\1+b0 r<=r.size then some (r.extract 1 (1+b0 r),r.extract (1+b0 r) r.size) else none
theorem ui{r k m:ByteArray}(h:pc r=some (k,m)):KU r=[(k.size:Int)]++KU k++KU m/\k.size<=255:=by
 unfold pc at h
 split at h
 ·rename_i l
  simp only[FI,EG]at h;obtain⟨rfl,rfl⟩:=h;have c:(r.extract 1 (1+b0 r)).size=b0 r:=by simp only[AK];omega
  refine⟨?_,by rw[c];exact jy r⟩;rw[c,ir,ir];have j:=gx r ω;have d:r.size-(1+b0 r)=(KU r).length-(1+b0 r):=by rw[ME]
  rw[d,<-BV,DA];have f:1+b0 r-1=b0 r:=ω
  rw[f];have i:(KU r).drop (1+b0 r)=((KU r).drop 1).drop (b0 r):=by rw[FO]
  rw[i,BN,FN];exact j
 cases h
def QI(r:ByteArray):Option (Ch×ByteArray) :=match pc (r.extract 1 r.size) with
 | none=>none
 | some (k,m)=>if b0 r=1 then some ((k,empty,true),m) else
  match pc m with
  | none=>none
  | some (v,m')=>some ((k,v,false),m')
theorem tS(r:ByteArray):KU (r.extract 1 r.size)=(KU r).drop 1:=by
 rw[ir];have c:r.size-1=((KU r).drop 1).length:=by rw[BV,ME]
 rw[c,DA]
theorem qO{r l:ByteArray}{c:Ch}(u:0<r.size)(h:QI r=some (c,l)):c.1.size<=255/\c.2.1.size<=255/\∃t,MQ c++KU l=(if b0 r=1 then 1 else 0)::t/\KU r=(b0 r:Int)::t:=by
 unfold QI at h
 split at h
 ·cases h
 rename_i k m q
 obtain⟨d,i⟩:=ui q;rw[tS]at d;have j:=gx r u
 split at h
 ·rename_i f
  simp only[FI,EG]at h;obtain⟨rfl,rfl⟩:=h;refine⟨i,σ,_,?_,j⟩;rw[d,AF f];simp[MQ]
 rename_i f
 split at h
 ·cases h
 rename_i v y s
 obtain⟨o,p⟩:=ui s;simp only[FI,EG]at h;obtain⟨rfl,rfl⟩:=h;refine⟨i,p,_,?_,j⟩;rw[d,o,AG f];simp[MQ]
def run:Nat->ByteArray->List Ch->Option (List Ch×ByteArray)
 | 0,r,o=>some (o,r)
 | n+1,r,o=>if r.size=0 then some (o,r) else
  match QI r with
  | none=>none
  | some (c,r')=>run n r' (o++[c])
def RV:Nat->ByteArray->List Ch->Option (List Ch×ByteArray)
 | 0,r,o=>some (o,r)
 | n+1,r,o=>if r.size=0 then some (o,r) else if 1<b0 r then none else
  match QI r with
  | none=>none
  | some (c,r')=>RV n r' (o++[c])
theorem mL(n:Nat)(o:List Ch)(r:ByteArray)(h:r.size=0):run n r o=some (o,r):=by cases n<;>simp[run,h]
theorem oL:∀(n:Nat) (r:ByteArray) (o i:List Ch) (d:ByteArray),run n r o=some (i,d) ->
  ∃l,i=o++l/\(∀x∈l,x.1.size<=255/\x.2.1.size<=255)/\(d.size=0\/l.length=n) /\
   ((RV n r o=some (i,d)/\l.flatMap MQ++KU d=KU r)\/(RV n r o=none/\∀z,l.flatMap MQ++z≠KU r))
 | 0,r,o,i,d,h=>by
  simp only[run,FI,EG]at h;obtain⟨rfl,rfl⟩:=h;exact⟨[],σ,σ,.inr rfl,.inl ⟨rfl,σ⟩⟩
 | n+1,r,o,i,d,h=>by
  by_cases f:r.size=0
  ·rw[run,AF f]at h
   simp only[FI,EG]at h;obtain⟨rfl,rfl⟩:=h;exact⟨[],σ,σ,.inl f,.inl ⟨by rw[RV,AF f],σ⟩⟩
  rw[run,AG f]at h
  cases hs:QI r with
  | none=>rw[hs]at h;cases h
  | some p =>
   obtain⟨c,C⟩:=p;rw[hs]at h;obtain⟨N,O,t,k3,G⟩:=qO ω hs;obtain⟨l,H,I,j,q⟩:=oL n C (o++[c]) i d h;refine⟨c::l,by rw[H];simp,λx A=>?_,?_,?_⟩
   ·rcases DX.1 A with rfl|A
    ·exact⟨N,O⟩
    exact I x A
   ·rcases j with j|j
    ·exact .inl j
    exact .inr (by simp[j])
   by_cases D:1<b0 r
   ·refine .inr ⟨by rw[RV,AG f,AF D],λz aA=>?_⟩
    have s:¬b0 r=1:=ω
    rw[AG s]at k3
    have L:∃u,MQ c=0::u:=by
     have:c.2.2=false:=by
      unfold QI at hs
      split at hs
      ·cases hs
      rw[AG s]at hs
      split at hs
      ·cases hs
      simp only[FI,EG]at hs
      rw[<-hs.1]
     exact⟨_,by unfold MQ;rw[this];rfl⟩
    obtain⟨u,M⟩:=L;rw[GI,M,G]at aA;simp at aA;omega
   have E:KU r=MQ c++KU C:=by
    rw[k3,G]
    split
    ·rename_i K;rw[K];rfl
    have:b0 r=0:=ω
    rw[this];rfl
   have aB:RV (n+1) r o=RV n C (o++[c]):=by rw[RV,AG f,AG D,hs]
   rcases q with ⟨q,y⟩|⟨q,y⟩
   ·refine .inl ⟨aB.j q,?_⟩
    rw[GI,BN,y,E]
   refine .inr ⟨aB.j q,λz aA=>y z ?_⟩
   rw[GI,BN,E]at aA;exact List.append_cancel_left aA
theorem mC:∀(n:Nat) (r:ByteArray) (o:List Ch),run n r o=none->RV n r o=none
 | 0,r,o,h=>by simp[run]at h
 | n+1,r,o,h=>by
  by_cases hz:r.size=0
  ·rw[run,AF hz]at h;cases h
  rw[run,AG hz]at h
  rw[RV,AG hz]
  split
  ·rfl
  cases hs:QI r with
  | none=>rfl
  | some p =>
   obtain⟨c,r1⟩:=p;rw[hs]at h;exact mC n r1 _ h
theorem qQ(x:Ch)(d:x.1.size<=255)(f:x.2.1.size<=255):∀y∈MQ x,0<=y/\y<=255:=by
 intro y c;unfold MQ at c
 split at c
 ·simp only[BS,DX,EE,GR]at c
  rcases c with rfl|rfl|c
  ·omega
  ·omega
  exact ie _ y c
 simp only[BS,DX,EE,GR]at c
 rcases c with (rfl|rfl|c)|rfl|c
 ·omega
 ·omega
 ·exact ie _ y c
 ·omega
 exact ie _ y c
def RU(s:ByteArray):Option (List Ch):=match run 21 s [] with|none=>none|some (o,_)=>if s.size≠0/\KZ o=s then some o else none
def YX(s:ByteArray):Option (List Ch):=match RV 21 s [] with|none=>none|some (o,_)=>if NL o=true then some o else none
theorem pP(s:ByteArray):YX s=RU s:=by
 unfold YX RU
 cases hr:run 21 s [] with
 | none=>rw[mC _ _ _ hr]
 | some p =>
  obtain⟨o,r⟩:=p;obtain⟨l,j,q,i,f⟩:=oL 21 s [] o r hr;rw[DQ]at j;subst j
  have aB:∀y∈o.flatMap MQ,0<=y/\y<=255:=by
   intro y c;obtain⟨x,d,c⟩:=IL.1 c;exact qQ x (q x d).1 (q x d).2 y c
  have aC:QY o=s->o.flatMap MQ=KU s:=λh=>by rw[<-h];exact(ZL _ aB).symm
  rcases f with ⟨f,c⟩|⟨f,c⟩
  ·rw[f]
   simp only
   by_cases aA:NL o=true
   ·have aF:r.size=0:=by
     rcases i with i|i
     ·exact i
     have:=(WO aA).1;omega
    have aD:KU r=[]:=AB (by rw[ME];exact aF);rw[aD,EA]at c
    have t:KZ o=s:=by
     unfold KZ;rw[AF aA]
     apply ph
     rw[<-c];exact ZL _ aB
    have d:s.size≠0:=by
     intro h;have aE:KU s=[]:=AB (by rw[ME];exact h);rw[aE]at c
     match o,(WO aA).1 with
     | x::o',_ =>
      simp only[GI,List.append_eq_nil_iff]at c;have:=c.1;unfold MQ at this
      split at this<;>simp at this
    rw[AF aA,AF ⟨d,t⟩]
   have t:KZ o=empty:=by unfold KZ;rw[AG aA]
   rw[AG aA,AG];rintro⟨h,d⟩;rw[t]at d;rw[<-d]at h;exact h rfl
  rw[f]
  simp only;rw[AG];rintro⟨h,d⟩;unfold KZ at d
  split at d
  ·have:=aC d
   exact c [] (by rw[EA];exact this)
  rw[<-d]at h
  exact h rfl
abbrev Pr:=ByteArray×ByteArray
abbrev OC:Value:=.slice none 0 0
def US(p:Pr):Ch:=(p.1,p.2,false)
def NU(rs:List Pr)(k:Nat):List Ch:=((rs.drop (k*20)).take 20).map US
def SJ(rs:List Pr)(i:Nat):List (List Ch):=(List.range ((i+19) / 20)).map (NU (rs.take i))
def LI(rs:List Pr):List (List Ch):=if LV rs=true then SJ rs rs.length else []
theorem Gu(rs:List Pr)(i:Nat):(SJ rs i).length=(i+19) / 20:=by simp[SJ]
theorem uE(rs:List Pr)(i k:Nat)(hi:i<rs.length)(c:k*20+20<=i):NU (rs.take (i+1)) k=NU (rs.take i) k:=by
 unfold NU
 congr 1
 rw[FP,FP,GM,GM]
 congr 1
 omega
theorem uP(rs:List Pr)(i k:Nat)(hi:i<rs.length)(c:k*20<=i)(f:i<k*20+20)(d:Pr):NU (rs.take (i+1)) k=NU (rs.take i) k++[US (rs.getD i d)]:=by
 unfold NU;rw[FP,FP,GM,GM,Nat.min_eq_right ω,Nat.min_eq_right ω];rw[show i+1-k*20=(i-k*20)+1 by omega,List.take_add_one,CY]
 congr 1
 rw[FK,show k*20+(i-k*20)=i by omega];simp[List.getD,hi]
theorem yY(rs:List Pr)(i:Nat)(hi:i<rs.length)(h:i % 20=0)(d:Pr):SJ rs (i+1)=SJ rs i++[[US (rs.getD i d)]]:=by
 unfold SJ;rw[show(i+1+19) / 20=(i+19) / 20+1 by omega,FA,CY]
 have c:NU (rs.take i) (i / 20)=[]:=by
  unfold NU;rw[List.drop_eq_nil_of_le (by rw[BF];omega)];rfl
 congr 1
 ·exact IP λk f=>uE rs i k hi (by simp at f;omega)
 have f:(i+19) / 20=i / 20:=ω
 rw[f,List.map_singleton,uP rs i (i / 20) hi ω ω d,c];rfl
theorem Dy(rs:List Pr)(i:Nat)(hi:i<rs.length)(h:i % 20≠0)(d:Pr):∃aA cs,SJ rs i=aA++[cs]/\SJ rs (i+1)=aA++[cs++[US (rs.getD i d)]]/\cs.length<=20:=by
 refine⟨(List.range (i / 20)).map (NU (rs.take i)),NU (rs.take i) (i / 20),?_,?_,?_⟩
 ·unfold SJ
  rw[show(i+19) / 20=i / 20+1 by omega,FA,CY];rfl
 ·unfold SJ
  rw[show(i+1+19) / 20=i / 20+1 by omega,FA,CY,List.map_singleton,uP rs i (i / 20) hi ω ω d]
  congr 1
  exact IP λk c=>uE rs i k hi (by simp at c;omega)
 unfold NU;simp;omega
theorem nC(rs:List Pr)(k:Nat):(NU rs k).length=min 20 (rs.length-k*20):=by unfold NU;simp
theorem uH(rs:List Pr):SJ rs rs.length=(List.range ((rs.length+19) / 20)).map (NU rs):=by unfold SJ;rw[DA]
theorem Es{rs:List Pr}{b:List Ch}(h:b∈SJ rs rs.length):b.length<=20/\∀x∈b,(x.1,x.2.1)∈rs:=by
 rw[uH]at h;obtain⟨k,f,rfl⟩:=DL.1 h;refine⟨by rw[nC];omega,λx c=>?_⟩;unfold NU at c;obtain⟨p,d,rfl⟩:=DL.1 c;exact EU (DM d)
def Bat(w:World)(base:Nat)(v:Value)(aA:List (List Ch)):Prop :=∃vs:List Value,w.ownsRow base 40 1 v aA.length vs/\(∀i,i<aA.length->w.ownsRow base 45 3 (vs.getD i OC) (aA.getD i []).length (MJ (aA.getD i []))) /\
  ∀i j k,i<j->j<aA.length->(vs.getD i OC).ownBlock=some k->(vs.getD j OC).ownBlock≠some k
theorem Bat.nil(w:World)(base:Nat):Bat w base OC []:=⟨[],CE _ _ _ _,λi h=>absurd h σ,λi j k _ h=>absurd h σ⟩
theorem Bat.z{aA:List (List Ch)}(h:Bat w base v aA)(c:Below w.heap.size w w'):Bat w' base v aA:=by
 obtain⟨vs,d,f,j⟩:=h;exact⟨vs,LR d c,λi hi=>LR (f i hi) c,j⟩
theorem ZX{f h:Nat}{c d:TypeId}{t u:Nat}{q s:Nat}{y z:List Value}(j:w.ownsRow f c t v1 q y)(l:w.ownsRow h d u v2 s z)(o:c≠d):v1.ownBlock=none\/v1.ownBlock≠v2.ownBlock:=by
 rcases j.2 with ⟨rfl,_⟩|⟨g,cap,i,rfl,_,p,_⟩
 ·exact .inl rfl
 right
 rcases l.2 with ⟨rfl,_⟩|⟨A,aB,aC,rfl,_,aA,_⟩
 ·simp[Value.ownBlock]
 simp only[Value.ownBlock,ne_eq,FI]
 intro e;subst e;rw[p]at aA
 cases aA
 exact o rfl
theorem Bat.kept{aA:List (List Ch)}{row:Option Nat}(h:Bat w base v aA)(l:w.grownBy w' row)(o:∀k,row=some k->base > k\/w.heap.size<=k):Bat w' base v aA:=by
 obtain⟨vs,d,f,j⟩:=h
 have aB:∀ {e:TypeId} {s:Nat} {u:Value} {n:Nat} {xs:List Value},w.ownsRow base e s u n xs->w'.ownsRow base e s u n xs:=λc=>by
  refine c.kept l ?_
  cases hu:(Value.ownBlock _) with
  | none=>exact .inl rfl
  | some k =>
   refine .inr λe=>?_
   have:=c.lt k hu;rcases o k e.symm with h|h<;>omega
 exact⟨vs,aB d,λi hi=>aB (f i hi),j⟩
theorem Bat.push{s:Value}{aA:List (List Ch)}{cs:List Ch}(f:w.ownsRow base 40 1 v aA.length vs)(l:∀i,i<aA.length->w.ownsRow base 45 3 (vs.getD i OC) (aA.getD i []).length (MJ (aA.getD i [])))
  (u:∀i j k,i<j->j<aA.length->(vs.getD i OC).ownBlock=some k->(vs.getD j OC).ownBlock≠some k)(p:w.ownsRow base 45 3 x cs.length (MJ cs))(t:∀i k,i<aA.length->(vs.getD i OC).ownBlock=some k->x.ownBlock≠some k)
  (z:w1.ownsRow base 40 1 s (aA.length+1) (vs++[x]))(o:w.grownBy w1 v.ownBlock):Bat w1 base s (aA++[cs]):=by
 have aD:vs.length=aA.length:=by have:=f.1;omega
 have q:(45:TypeId)≠40:=δ
 refine⟨vs++[x],by simpa using z,λi hi=>?_,λi j k aC y h=>?_⟩
 ·by_cases aB:i<aA.length
  ·have d:(vs++[x]).getD i OC=vs.getD i OC:=by simp[List.getD,BA (show i<vs.length by omega)]
   have c:(aA++[cs]).getD i []=aA.getD i []:=by simp[List.getD,BA aB]
   rw[d,c];exact(l i aB).kept o (ZX (l i aB) f q)
  have aE:i=aA.length:=by simp at hi;omega
  subst aE;have d:(vs++[x]).getD aA.length OC=x:=by rw[<-aD];simp[List.getD]
  have c:(aA++[cs]).getD aA.length []=cs:=by simp[List.getD]
  rw[d,c];exact p.kept o (ZX p f q)
 simp only[AE,CA,AR]at y
 have d:(vs++[x]).getD i OC=vs.getD i OC:=by simp[List.getD,BA (show i<vs.length by omega)]
 rw[d]at h
 by_cases aB:j<aA.length
 ·have c:(vs++[x]).getD j OC=vs.getD j OC:=by simp[List.getD,BA (show j<vs.length by omega)]
  rw[c];exact u i j k aC aB h
 have aF:j=aA.length:=ω
 subst aF;have c:(vs++[x]).getD aA.length OC=x:=by rw[<-aD];simp[List.getD]
 rw[c];exact t i k aC h
def Bts(w:World)(a:Option Addr)(aA:List (List Ch)):Prop :=aA=[]\/∃g,a=some ⟨g,0,none⟩/\g<w.heap.size/\∀i,i<aA.length->∃p c,w.cell? ⟨g,i,none⟩=some (.slice p (aA.getD i []).length c)/\Chs w p (aA.getD i [])
theorem Bts.z{aA:List (List Ch)}(h:Bts w a aA)(d:Below w.heap.size w w'):Bts w' a aA:=by
 rcases h with h|⟨g,j,f,l⟩
 ·exact .inl h
 refine .inr ⟨g,j,AD f d.size,λi hi=>?_⟩
 obtain⟨p,c,o,q⟩:=l i hi;exact⟨p,c,(d.cell (p:=⟨g,i,none⟩) f).j o,q.z d⟩
theorem qZ{y:Value}{o:List Ch}(h:w.ownsRow B e 3 y o.length (MJ o)):∃a c,y=.slice a o.length c/\Chs w a o:=by
 rcases MO h with ⟨c,d⟩|⟨g,cap,c,d,_,f⟩
 ·have:o=[]:=AB d
  subst this;exact⟨none,0,c,.inl rfl⟩
 exact⟨_,cap,c,f.chs⟩
theorem Bat.bts{aA:List (List Ch)}(h:Bat w base v aA):∃a c,v=.slice a aA.length c/\Bts w a aA:=by
 obtain⟨vs,j,t,u⟩:=h;rcases MO j with ⟨d,f⟩|⟨g,cap,d,f,l,o⟩
 ·have:aA=[]:=AB f
  subst this;exact⟨none,0,d,.inl rfl⟩
 refine⟨_,cap,d,.inr ⟨g,rfl,l,λi hi=>?_⟩⟩
 obtain⟨p,c,q,s⟩:=qZ (t i hi);have aB:vs.length=aA.length:=by have:=j.1;omega
 refine⟨p,c,o.cell i _ ?_,s⟩;exact(by simp[List.getD,BQ (show i<vs.length by omega)]:vs[i]?=some (vs.getD i OC)).j (BY some q)
theorem Bts.at{aA:List (List Ch)}(h:Bts w a aA)(d:k<aA.length):∃g p c,a=some ⟨g,0,none⟩/\g<w.heap.size/\w.cell? ⟨g,k,none⟩=some (.slice p (aA.getD k []).length c)/\Chs w p (aA.getD k []):=by
 rcases h with h|⟨g,f,i,j⟩
 ·subst h;simp at d
 obtain⟨p,c,l,o⟩:=j k d
 exact⟨g,p,c,f,i,l,o⟩
theorem uQ:(prog.info? 45).map (λi=>(i.zero,i.size,i.bytes))=some (some (.agg #[.string empty,.string empty,.bool false]),3,40):=κ
theorem sP:(prog.info? 40).map (λi=>(i.zero,i.size,i.bytes))=some (some (.slice none 0 0),1,24):=κ
theorem kk{P:Program}{z:Value}{aA:Nat}(h:(P.info? e).map (λi=>(i.zero,i.size,i.bytes))=some (some z,size,aA)):∃i,P.info? e=some i/\i.zero=some z/\i.size=size/\i.bytes=aA:=by
 obtain⟨i,hi,c⟩:=EM.1 h;simp only[EG]at c;exact⟨i,hi,c⟩
theorem TL{W:World}(d:Below B W w)(own:w.ownsRow B e size v n xs)(c:w.grownBy w1 v.ownBlock)(h:B<=w.heap.size):Below B W w1 :=d.j ⟨c.os,c.tape,c.output,c.size,λk i=>c.block k ω (λf=>by have:=(own.lt k f.symm).1;omega)⟩
theorem zf{b d:Nat}{s:Nat}(h:w.ownsRow b e s v n xs)(o:d<=b):w.ownsRow d e s v n xs:=by
 refine⟨h.1,?_⟩;rcases h.2 with f|⟨g,cap,c,i,j,l⟩
 ·exact .inl f
 exact .inr ⟨g,cap,c,i,AL o j,l⟩
theorem Bat.A{b c:Nat}{aA:List (List Ch)}(h:Bat w b v aA)(d:c<=b):Bat w c v aA:=by
 obtain⟨vs,f,j,l⟩:=h;exact⟨vs,zf f d,λi hi=>zf (j i hi) d,l⟩
structure Rest(w:World)(base:Nat)(bss:List (List Ch))(vs:List Value)(x:Value):Prop where
 len:vs.length=bss.length
 own:∀i,i<bss.length->w.ownsRow base 45 3 (vs.getD i OC) (bss.getD i []).length (MJ (bss.getD i []))
 apart:∀i j k,i<j->j<bss.length->(vs.getD i OC).ownBlock=some k->(vs.getD j OC).ownBlock≠some k
 last:∀i k,i<bss.length->(vs.getD i OC).ownBlock=some k->x.ownBlock≠some k
theorem Bat.last{aA:List (List Ch)}{cs:List Ch}(h:Bat w base v (aA++[cs])):∃g cap vs p c,v=.slice (some ⟨g,0,none⟩) (aA.length+1) cap/\w.ownsRow base 40 1 v (aA.length+1) (vs++[.slice p cs.length c])/\w.ownsRow base 45 3 (.slice p cs.length c) cs.length (MJ cs)/\Rest w base aA vs (.slice p cs.length c):=by
 obtain⟨vs,l,t,u⟩:=h;have aB:vs.length=aA.length+1:=by have:=l.1;simp at this;omega
 obtain⟨d,x,rfl⟩:∃d x,vs=d++[x]:=⟨vs.dropLast,vs.getLast (by intro e;subst e;simp at aB),(JQ _).symm⟩;have aC:d.length=aA.length:=by simp at aB;exact aB
 have q:=t aA.length σ;have s:(d++[x]).getD aA.length OC=x:=by rw[<-aC];simp[List.getD]
 have y:(aA++[cs]).getD aA.length []=cs:=by simp[List.getD]
 rw[s,y]at q
 have f:∀i,i<aA.length->(d++[x]).getD i OC=d.getD i OC:=λi hi=>by simp[List.getD,BA (show i<d.length by omega)]
 have z:∀i,i<aA.length->(aA++[cs]).getD i []=aA.getD i []:=λi hi=>by simp[List.getD,BA hi]
 obtain⟨p,c,rfl,_⟩:=qZ q;simp only[AE,CA,AR]at l
 obtain⟨g,cap,hv⟩:∃g cap,v=.slice (some ⟨g,0,none⟩) (aA.length+1) cap:=by
  rcases MO l with ⟨_,j⟩|⟨g,cap,j,_⟩
  ·omega
  exact⟨g,cap,j⟩
 refine⟨g,cap,d,p,c,hv,l,q,aC,λi hi=>?_,λi j k aD A o=>?_,λi k hi o=>?_⟩
 ·have:=t i τ
  rwa [f i hi,z i hi]at this
 ·have:=u i j k aD τ
  rw[f i ω,f j A]at this;exact this o
 have:=u i aA.length k hi σ
 rw[f i hi,s]at this;exact this o
theorem Rest.relast{aA:List (List Ch)}{cs:List Ch}{d:Value}{D:List Ch}(f:Rest w base aA vs x)(W:base<=w.heap.size)
  (A:w.ownsRow base 40 1 (.slice (some ⟨g,0,none⟩) (aA.length+1) cap) (aA.length+1) (vs++[x]))(T:w.ownsRow base 45 3 x n0 (MJ D))
  (z:w.grownBy w1 x.ownBlock)(G:w1.ownsRow base 45 3 d cs.length (MJ cs))(S:x.ownBlock=d.ownBlock\/d.ownBlock=some w.heap.size):Bat (w1.setCell ⟨g,aA.length,none⟩ d) base (.slice (some ⟨g,0,none⟩) (aA.length+1) cap) (aA++[cs]):=by
 have C:(45:TypeId)≠40:=δ
 have aD:=f.len
 have aE:w1.ownsRow base 40 1 (.slice (some ⟨g,0,none⟩) (aA.length+1) cap) (aA.length+1) (vs++[x]):=A.kept z (by
  rcases ZX A T (IM C) with h|h
  ·exact .inl h
  ·exact .inr h)
 have E:w1.grownBy (w1.setCell ⟨g,aA.length,none⟩ d) (some g):=⟨rfl,rfl,rfl,by simp[World.setCell],λk _ l=>BD _ _ _ k (λe=>l (by rw[e]))⟩
 have q:∀ {u:Value} {n:Nat} {xs:List Value},w1.ownsRow base 45 3 u n xs->(w1.setCell ⟨g,aA.length,none⟩ d).ownsRow base 45 3 u n xs:=λh=>h.kept E (ZX h aE C)
 have H:∀i,i<aA.length->w1.ownsRow base 45 3 (vs.getD i OC) (aA.getD i []).length (MJ (aA.getD i [])):=λi hi=>(f.own i hi).kept z (by
  cases l:(vs.getD i OC).ownBlock with
  | none=>exact .inl rfl
  | some k=>exact .inr λe=>f.last i k hi l e.symm)
 have p:∀i,i<aA.length->(vs++[d]).getD i OC=vs.getD i OC:=λi hi=>by simp[List.getD,BA (show i<vs.length by omega)]
 have K:∀i,i<aA.length->(aA++[cs]).getD i []=aA.getD i []:=λi hi=>by simp[List.getD,BA hi]
 have s:(vs++[d]).getD aA.length OC=d:=by rw[<-aD];simp[List.getD]
 have I:(aA++[cs]).getD aA.length []=cs:=by simp[List.getD]
 refine⟨vs++[d],?_,λi hi=>?_,λi j k aC R o=>?_⟩
 ·refine⟨by simp[aD],.inr ?_⟩
  rcases aE.2 with ⟨L,_⟩|⟨U,aF,c,M,N,t,O,P,Q,y⟩
  ·cases L
  cases M
  refine⟨g,cap,c.set! aA.length d,σ,N,?_,by simpa using O,P,by simpa using Q,?_⟩
  ·have aB:=(AT.1 t).1
   have l:=(AT.1 t).2;show(w1.heap.modify g _)[g]?=_;rw[Array.getElem?_eq_getElem (by rw[Array.size_modify];exact aB),Array.getElem_modify_self,l];rfl
  have hz:c.toList.length=c.size:=σ
  have X:aA.length<c.toList.length:=ω
  simp only[KE,AE,CA,AR]at y⊢;have:(c.set! aA.length d).toList=c.toList.set aA.length d:=σ
  rw[this,BH,List.take_set,y,JF _ _ ω,aD];simp
 ·by_cases aB:i<aA.length
  ·rw[p i aB,K i aB];exact q (H i aB)
  have:i=aA.length:=by simp at hi;omega
  subst this;rw[s,I];exact q G
 simp only[AE,CA,AR]at R
 rw[p i ω]at o
 by_cases aB:j<aA.length
 ·rw[p j aB];exact f.apart i j k aC aB o
 have:j=aA.length:=ω
 subst this;rw[s];rcases S with h|h
 ·rw[<-h];exact f.last i k aC o
 rw[h]
 intro e;have:=(f.own i aC).lt k o;simp at e;omega
theorem gj(k v:ByteArray)(g:Bool):∀u∈[Value.string k,.string v,.bool g],u.oneCell'=true:=by
 intro u c;simp only[DX,EE,GR]at c;rcases c with rfl|rfl|rfl<;>rfl
theorem xa(f:w.ownsRow base e 1 (.slice (some ⟨g,0,none⟩) (m+1) cap) (m+1) (vs++[x]))(d:vs.length=m):w.cell? ⟨g,m,none⟩=some x/\w.frozen? ⟨g,m,none⟩=false:=by
 have c:=SA f;exact⟨c.cell m x (by rw[<-d];simp),c.froz m τ⟩
theorem ZN{o:Obj}(c:w.ownsRow base 40 1 (.slice (some ⟨g,0,none⟩) (m+1) cap) (m+1) (vs++[x])/\vs.length=m)(f:w.ownsRow base 45 3 x n0 xs)(d:(w.alloc o).grownBy w1 x.ownBlock):w1.cell? ⟨g,m,none⟩=some x/\w1.frozen? ⟨g,m,none⟩=false:=by
 have h:(40:TypeId)≠45:=δ
 exact xa ((c.1.alloc o).kept d (ZX c.1 f h)) c.2
theorem Rest.alloc{aA:List (List Ch)}(h:Rest w base aA vs x)(o:Obj):Rest (w.alloc o) base aA vs x:=⟨h.len,λi hi=>(h.own i hi).alloc o,h.apart,h.last⟩
theorem mM(w:World)(A:Obj)(cs:Array Value)(t:TypeId):∀j u,cs.toList[j]?=some u->((w.alloc A).alloc (.cells cs t)).cell? ((⟨w.heap.size+1,0,none⟩:Addr).add j)=some u:=by
 have h:=AW (w.alloc A) (.cells cs t);rw[BB]at h;exact World.news_of_block h
theorem I9{o:Obj}(d:wr.ownsRow base 40 1 v n vs)(f:base<=wr.heap.size)(h:((wr.alloc (.cells #[] 45)).alloc o).grownBy w7 v.ownBlock):w7.ownsRow base 45 3 (.slice (some ⟨wr.heap.size,0,none⟩) 0 0) 0 []:=by
 have c:(wr.alloc (.cells #[] 45)).ownsRow base 45 3 (.slice (some ⟨wr.heap.size,0,none⟩) 0 0) 0 []:=by
  have:=CJ wr (base:=base) (e:=45) (size:=3) #[] 0 f σ σ;simpa using this
 exact(c.alloc o).kept h (ZX (c.alloc o) ((d.alloc _).alloc _) δ)
theorem Hs{d:World}{i:Nat}{h:Option Addr}(aC:Below base d wr)(aD:base<=wr.heap.size)(c:wr.ownsRow base 40 1 (.slice h m i) m vs)(aB:w7.ownsRow base 40 1 (.slice (some ⟨g,0,none⟩) (m+1) cap) (m+1) (vs++[.slice (some ⟨wr.heap.size,0,none⟩) 0 0]))
  (aA:((wr.alloc (.cells #[] 45)).alloc (.cells #[.slice (some ⟨wr.heap.size,0,none⟩) 0 0] 40)).grownBy w7 (Value.slice h m i).ownBlock):Below base d w7/\(w7.ownsRow base 40 1 (.slice (some ⟨g,0,none⟩) (m+1) cap) (m+1) (vs++[.slice (some ⟨wr.heap.size,0,none⟩) 0 0])/\vs.length=m)/\w7.ownsRow base 45 3 (.slice (some ⟨wr.heap.size,0,none⟩) 0 0) 0 []/\w7.cell? ⟨g,m,none⟩=some (.slice (some ⟨wr.heap.size,0,none⟩) 0 0):=by
 have f:vs.length=m:=by have:=c.1;omega
 exact⟨TL ((aC.alloc aD _).alloc τ _) ((c.alloc _).alloc _) aA τ,⟨aB,f⟩,I9 c aD aA,(xa aB f).1⟩
theorem sE(o:List Ch)(c:Ch):MJ (o++[c])=MJ o++[.string c.1,.string c.2.1,.bool c.2.2]:=by rw[xq];rfl
theorem da{o:Obj}{r:Option Nat}(h:(w.drew.alloc o).grownBy w' r):(w.alloc o).grownBy w' r:=⟨h.os,h.tape,h.output,h.size,h.block⟩
theorem nf{l W f:World}{d aA c:Nat}{p:Option Addr}{aB:List (List Ch)}{cs:List Ch}{i j:ByteArray}{o:Obj}(y:base<=W.heap.size)(C:Rest W base aB vs (.slice p n0 c))(z:m=aB.length)(A:n0=cs.length)
  (s:W.ownsRow base 40 1 (.slice (some ⟨g,0,none⟩) (m+1) cap) (m+1) (vs++[.slice p n0 c]))(t:W.ownsRow base 45 3 (.slice p n0 c) n0 (MJ cs))(q:(W.alloc o).grownBy f (Value.slice p n0 c).ownBlock)
  (aF:f.ownsRow base 45 3 (.slice (some ⟨d,0,none⟩) (n0+1) aA) (n0+1) (MJ cs++[.string i,.string j,.bool false]))(aD:(Value.slice p n0 c).ownBlock=some d\/d=W.heap.size+1)(aC:Below base l W):Bat (f.setCell ⟨g,m,none⟩ (.slice (some ⟨d,0,none⟩) (n0+1) aA)) base (.slice (some ⟨g,0,none⟩) (m+1) cap) (aB++[cs++[(i,j,false)]])/\Below base l (f.setCell ⟨g,m,none⟩ (.slice (some ⟨d,0,none⟩) (n0+1) aA)):=by
 subst z A
 have u:f.ownsRow base 45 3 (.slice (some ⟨d,0,none⟩) (cs.length+1) aA) (cs++[(i,j,false)]).length (MJ (cs++[(i,j,false)])):=by
  rw[sE,AE];exact aF
 refine⟨(C.alloc o).relast τ (s.alloc o) (t.alloc o) q u ?_,?_⟩
 ·rcases aD with h|h
  ·exact .inl h
  right;rw[h];simp[Value.ownBlock]
 have aE:=(s.lt g rfl).1
 exact(TL (aC.alloc y o) (t.alloc o) q τ).setCell (p:=⟨g,aB.length,none⟩) aE _
theorem Id{h:Nat}{f:Option Addr}{aA:List (List Ch)}{o:Obj}(d:wr.ownsRow base 40 1 (.slice f m h) m vs)(c:∀i,i<aA.length->wr.ownsRow base 45 3 (vs.getD i OC) (aA.getD i []).length (MJ (aA.getD i [])))
  (l:∀i j k,i<j->j<aA.length->(vs.getD i OC).ownBlock=some k->(vs.getD j OC).ownBlock≠some k)(q:base<=wr.heap.size)(s:m=aA.length)(p:((wr.alloc (.cells #[] 45)).alloc o).grownBy w7 (Value.slice f m h).ownBlock):Rest w7 base aA vs (.slice (some ⟨wr.heap.size,0,none⟩) 0 0):=by
 refine⟨by have:=d.1;omega,λi hi=>(((c i hi).alloc _).alloc _).kept p (ZX (c i hi) d δ),l,λi k hi j=>?_⟩;have:=(c i hi).lt k j;simp only[Value.ownBlock,ne_eq,FI];omega
theorem wt(rs:List Pr)(i:Nat)(hi:i<=100):(SJ rs i).length<=5:=by rw[Gu];omega
theorem qM(a:Option Addr)(rs:List Pr)(c:Nat)(w:World)(h:Prs w a rs)(hl:rs.length<=1048576)(hs:∀x∈rs,x.1.size<=1048576/\x.2.size<=1048576):Calls prog 65 #[.agg #[.slice a rs.length c]] w λe w'=>∃v,e=.returned v/\Bat w' (w.heap.size+1) v (LI rs)/\Below w.heap.size w w':=by
 obtain⟨i0,d,o,p,q⟩:=kk uQ;have HI:=Z (AH d (AH o (AH p q)));obtain⟨i1,f,i,j,l⟩:=kk sP;have HJ:=Z (AH f (AH i (AH j l)));clear d o p q f i j l;unfold LI;have d:Below w.heap.size w ((w.alloc (.cells #[.slice a rs.length c] 31)).alloc (.cells #[] 40)):=(KW _ _).alloc σ _;have hv:=pi a rs c ((w.alloc (.cells #[.slice a rs.length c] 31)).alloc (.cells #[] 40)) (h.z d) hl hs
 have f:Bat ((w.alloc (.cells #[.slice a rs.length c] 31)).alloc (.cells #[] 40)) (w.heap.size+1) (.slice (some ⟨w.heap.size+1,0,none⟩) 0 0) []:=by
  refine⟨[],?_,λi h=>absurd h σ,λi j k _ h=>absurd h σ⟩;have:=CJ (w.alloc (.cells #[.slice a rs.length c] 31)) (base:=w.heap.size+1) (e:=40) (size:=1) #[] 0 σ σ σ;simpa using this
 have HV:=Z hv;have cO:=Z d;have HE:=Z f;clear hv d f
 cases hok:LV rs
 focus
  rw[hok]at HV;simp only[EW,IJ]
 rotate_left
 focus
  rw[hok]at HV;simp only[GZ];have eF:rs.length<=100:=(ZT hok).1
 rotate_left
 all_goals
  go_enter func65,ntmps65;go_wp2_with (go_at_call 41;refine HV.l.A ?_;rintro e w2 ⟨rfl,X⟩)
 ·go_ret
  exact⟨_,rfl,HE.l.z X,cO.l.j (X.A cO.l.size)⟩
 have eB:=X.size
 simp only[BB]at eB;go_loopw [3,4] (λy i wr=>∃k:Nat,k<=rs.length/\i=.int .i64 k/\Bat wr (w.heap.size+1) y (SJ rs k)/\Below (w.heap.size+1) (w.alloc (.cells #[.slice a rs.length c] 31)) wr) (λ_ i _=>rs.length-(intOf i).toNat)
 case atStart =>
  exact⟨0,AO _,rfl,HE.l.z X,((AC _ _).alloc σ _).j (X.A σ)⟩
 case round =>
  obtain⟨k,hk,rfl,aW,O⟩:=hrel;have q0:wr.cell? ⟨w.heap.size,0,none⟩=some (.slice a rs.length c):=(O.cell (p:=⟨w.heap.size,0,none⟩) (by show w.heap.size<_;omega)).j γ;have bT:w.heap.size+1<=wr.heap.size:=by have:=O.size;simpa using this
  by_cases bW:k<rs.length
  ·obtain⟨b,o,j,l,rfl,bU,bV,HS⟩:=(h.z ((KW _ _).j (O.A ω))).at bW
   have y:b<w.heap.size:=by
    rcases h with h|⟨i,p,d,f,_⟩
    ·subst h;simp at bW
    cases d;exact f
   have dU:(k:Int)<(rs.length:Int):=ω
   have M:=Z O;have P:=Z aW;clear O aW
   by_cases hr:k % 20=0
   focus
    have dZ:(k:Int) % 20=0:=ω
    have bZ:=Z (yY rs k bW hr (empty,empty));have Q:=wt rs k ω;obtain⟨G,d⟩:∃G,G=SJ rs k:=⟨_,rfl⟩;rw[<-d]at P Q bZ;clear d;obtain⟨vs,d,f,p⟩:=P.l
    obtain⟨ya,yc,rfl⟩:∃ya yc,u3=Value.slice ya G.length yc:=by
     rcases MO d with ⟨i,s⟩|⟨g,cap,i,_⟩
     ·exact⟨none,0,by rw[i,s]⟩
     exact⟨_,cap,i⟩
    obtain⟨m,z⟩:∃m,m=G.length:=⟨_,rfl⟩;rw[<-z]at d Q⊢;have N:=Z z;have H1:=Z d;have H2:=Z f;have H3:=Z p;clear P d f p z;go_wp2_with (at_builtin;refine QN _ rfl _ _ 114 rfl (w.heap.size+1) underlying114 HJ.l rfl ω _ m _ rfl ((H1.l.alloc _).alloc _) ⟨wr.heap.size+1,0,none⟩ 1 1 [.slice (some ⟨wr.heap.size,0,none⟩) 0 0] rfl rfl (mM wr _ _ _) (by intro u hu;simp at hu;subst hu;rfl) τ (wr.heap.size+1+1) σ ?_;intro g cap w7 q p A cE;obtain⟨d,s,z,q7⟩:=Hs M.l bT H1.l q p;have U:=Z d;have i:=Z s;have f:=Z z;have t:w.heap.size+1<=w7.heap.size:=AL σ d.size;have cI:=(d.cell (p:=⟨w.heap.size,0,none⟩) (JI _)).j ((M.l.cell (p:=⟨w.heap.size,0,none⟩) (JI _)).symm.j q0);have cJ:=(d.cell (p:=⟨b,o+k*2,none⟩) (FH y)).j ((M.l.cell (p:=⟨b,o+k*2,none⟩) (FH y)).symm.j bU);have cL:=(d.cell (p:=⟨b,o+k*2+1,none⟩) (FH y)).j ((M.l.cell (p:=⟨b,o+k*2+1,none⟩) (FH y)).symm.j bV);have eC:b<w7.heap.size:=AD (FH y) t;have dN:=Z p;clear q p A d s z bU bV q0)
    have dV:(m:Int)<(m:Int)+1:=ω
    have cF:(0:Int)<=(m:Int):=ω
    have W:=Z (f.l.alloc (.cells #[.string j,.string l,.bool false] 45));have R:Hid (Rest w7 (w.heap.size+1) G vs (.slice (some ⟨wr.heap.size,0,none⟩) 0 0)):=Z (Id H1.l H2.l H3.l bT N.l dN.l)
    have z:∀w',Below (w.heap.size+1) w7 w'->w'.cell? ⟨w.heap.size,0,none⟩=some (.slice (some ⟨b,o,none⟩) rs.length c)/\w'.cell? ⟨b,o+k*2,none⟩=some (.string j)/\w'.cell? ⟨b,o+k*2+1,none⟩=some (.string l):=λw' H=>⟨(H.cell (p:=⟨w.heap.size,0,none⟩) (JI _)).j cI,(H.cell (p:=⟨b,o+k*2,none⟩) (FH y)).j cJ,(H.cell (p:=⟨b,o+k*2+1,none⟩) (FH y)).j cL⟩
    have q:=Z z;clear z;refine AN (S:=λw'=>w'.cell? ⟨w.heap.size,0,none⟩=some (.slice (some ⟨b,o,none⟩) rs.length c)/\w'.cell? ⟨b,o+k*2,none⟩=some (.string j)/\w'.cell? ⟨b,o+k*2+1,none⟩=some (.string l)) κ (q.l _ (AC _ _).drew) (λaA=>?_);refine V 0 (.slice (some ⟨g,0,none⟩) (m+1) cap) rfl aA (V 1 (.int .i64 (m:Int)) rfl aA (V 2 (.slice (some ⟨g,0,none⟩) (m+1) cap) rfl aA (V 3 (.int .i64 (m:Int)) rfl aA (V 4 (.pointer (some ⟨g,m,none⟩)) rfl aA (V 6 (.pointer (some ⟨w.heap.size,0,none⟩)) rfl aA (V 7 (.slice (some ⟨b,o,none⟩) rs.length c) rfl aA (V 8 (.int .i64 (k:Int)) rfl aA (V 9 (.pointer (some ⟨b,o+k*2,none⟩)) rfl aA (V 10 (.pointer (some ⟨b,o+k*2,none⟩)) rfl aA (V 11 (.string j) rfl aA (V 12 (.pointer (some ⟨w.heap.size,0,none⟩)) rfl aA ?_)))))))))));simp only[J];refine V 13 (.slice (some ⟨b,o,none⟩) rs.length c) rfl aA (V 14 (.int .i64 (k:Int)) rfl aA (V 15 (.pointer (some ⟨b,o+k*2,none⟩)) rfl aA (V 16 (.pointer (some ⟨b,o+k*2+1,none⟩)) rfl aA (V 17 (.string l) rfl aA (V 18 (.agg #[.string j,.string l,.bool false]) rfl aA ?_)))))
    simp only[J];refine DH (rs:=[5,19]) κ σ ?_;have C:=q.l (w7.drew.alloc (.cells #[.string j,.string l,.bool false] 45)) ((AC _ _).drew.alloc t _);refine AY rfl (λK d=>?_) (AY rfl (λK d=>?_) DE)
    focus
     go_simp;refine d.l _ _ aA (λ_=>?_);clear d K;refine RD 19 rfl (λK d=>?_);go_simp;refine d.l _ _ C (λ_=>?_);clear d K;refine RD 20 rfl (λK d=>?_);refine QM _ ρ _ _ _ ρ (w.heap.size+1) underlying40 HI.l rfl ω (.slice (some ⟨wr.heap.size,0,none⟩) 0 0) 0 _ ρ W.l ⟨w7.heap.size,0,none⟩ 1 1 [.string j,.string l,.bool false] ρ rfl (World.news_of_block (AW w7 _)) (gj _ _ _) ξ (w7.heap.size+1) σ ?_;intro I A L aC aB aE aX;have E:=Z aC;have aD:=Z (da aB);have D:=Z aE;have aF:=nf t R.l N.l (cs:=[]) rfl i.l.1 f.l aD.l E.l D.l U.l;have S:=Z aF;have q9:=(ZN i.l f.l aD.l).1;have r9:=(ZN i.l f.l aD.l).2;have s:Below (w.heap.size+1) w7 L:=TL ((AC _ _).alloc t _) (f.l.alloc _) aD.l τ;have T:=q.l _ s;have aR:=q.l _ (s.setCell (p:=⟨g,m,none⟩) (i.l.1.lt g rfl).1 (.slice (some ⟨I,0,none⟩) (0+1) A))
    rotate_left
    focus
     go_simp;refine d.l _ _ C (λ_=>?_);clear d K;refine RD 5 rfl (λK d=>?_);go_simp;refine d.l _ _ C (λ_=>?_);clear d K;refine RD 20 rfl (λK d=>?_);refine QM _ ρ _ _ _ ρ (w.heap.size+1) underlying40 HI.l rfl ω (.slice (some ⟨wr.heap.size,0,none⟩) 0 0) 0 _ ρ W.l ⟨w7.heap.size,0,none⟩ 1 1 [.string j,.string l,.bool false] ρ rfl (World.news_of_block (AW w7 _)) (gj _ _ _) ξ (w7.heap.size+1) σ ?_;intro I A L aC aB aE aX;have E:=Z aC;have aD:=Z (da aB);have D:=Z aE;have aF:=nf t R.l N.l (cs:=[]) rfl i.l.1 f.l aD.l E.l D.l U.l;have S:=Z aF;have q9:=(ZN i.l f.l aD.l).1;have r9:=(ZN i.l f.l aD.l).2;have s:Below (w.heap.size+1) w7 L:=TL ((AC _ _).alloc t _) (f.l.alloc _) aD.l τ;have T:=q.l _ s;have aR:=q.l _ (s.setCell (p:=⟨g,m,none⟩) (i.l.1.lt g rfl).1 (.slice (some ⟨I,0,none⟩) (0+1) A))
    rotate_left
   rotate_left 2
   focus
    have dZ:decide ((k:Int) % 20=0)=false:=τ
    obtain⟨G,cs,cS,cV,dQ⟩:=Dy rs k bW hr (empty,empty);have bZ:=Z cV;have Q:=wt rs k ω;rw[cS]at P Q;obtain⟨g,cap,vs,p,c9,rfl,hO,hX,hR⟩:=P.l.last;obtain⟨m,z⟩:∃m,m=G.length:=⟨_,rfl⟩;obtain⟨n0,bY⟩:∃n0,n0=cs.length:=⟨_,rfl⟩;have eG:m<=5:=by simp at Q;omega
    have cH:vs.length=m:=by rw[hR.len,z]
    rw[<-z,<-bY]at hO;rw[<-bY]at hX hR dQ;rw[<-z];have N:=Z z;have HN:=Z bY;have i:=Z (AH hO cH);have f:=Z hX;have R:=Z hR;have cE:g<wr.heap.size:=(hO.lt g rfl).2;have q7:=(xa hO cH).1;clear cS cV Q hO hX hR z bY P cH;have dV:(m:Int)<(m:Int)+1:=ω
    have cF:(0:Int)<=(m:Int):=ω
    have W:=Z (f.l.alloc (.cells #[.string j,.string l,.bool false] 45));have eC:b<wr.heap.size:=AD (FH y) bT;have cI:=q0;have cJ:=bU;have cL:=bV;have t:=bT;have U:=M;clear q0 bU bV bT M;go_wp2_with fail
    have z:∀w',Below (w.heap.size+1) wr w'->w'.cell? ⟨w.heap.size,0,none⟩=some (.slice (some ⟨b,o,none⟩) rs.length c)/\w'.cell? ⟨b,o+k*2,none⟩=some (.string j)/\w'.cell? ⟨b,o+k*2+1,none⟩=some (.string l):=λw' H=>⟨(H.cell (p:=⟨w.heap.size,0,none⟩) (JI _)).j cI,(H.cell (p:=⟨b,o+k*2,none⟩) (FH y)).j cJ,(H.cell (p:=⟨b,o+k*2+1,none⟩) (FH y)).j cL⟩
    have q:=Z z;clear z;refine AN (S:=λw'=>w'.cell? ⟨w.heap.size,0,none⟩=some (.slice (some ⟨b,o,none⟩) rs.length c)/\w'.cell? ⟨b,o+k*2,none⟩=some (.string j)/\w'.cell? ⟨b,o+k*2+1,none⟩=some (.string l)) κ (q.l _ (AC _ _).drew) (λaA=>?_);refine V 0 (.slice (some ⟨g,0,none⟩) (m+1) cap) rfl aA (V 1 (.int .i64 (m:Int)) rfl aA (V 2 (.slice (some ⟨g,0,none⟩) (m+1) cap) rfl aA (V 3 (.int .i64 (m:Int)) rfl aA (V 4 (.pointer (some ⟨g,m,none⟩)) rfl aA (V 6 (.pointer (some ⟨w.heap.size,0,none⟩)) rfl aA (V 7 (.slice (some ⟨b,o,none⟩) rs.length c) rfl aA (V 8 (.int .i64 (k:Int)) rfl aA (V 9 (.pointer (some ⟨b,o+k*2,none⟩)) rfl aA (V 10 (.pointer (some ⟨b,o+k*2,none⟩)) rfl aA (V 11 (.string j) rfl aA (V 12 (.pointer (some ⟨w.heap.size,0,none⟩)) rfl aA ?_)))))))))));simp only[J];refine V 13 (.slice (some ⟨b,o,none⟩) rs.length c) rfl aA (V 14 (.int .i64 (k:Int)) rfl aA (V 15 (.pointer (some ⟨b,o+k*2,none⟩)) rfl aA (V 16 (.pointer (some ⟨b,o+k*2+1,none⟩)) rfl aA (V 17 (.string l) rfl aA (V 18 (.agg #[.string j,.string l,.bool false]) rfl aA ?_)))))
    simp only[J];refine DH (rs:=[5,19]) κ σ ?_;have C:=q.l (wr.drew.alloc (.cells #[.string j,.string l,.bool false] 45)) ((AC _ _).drew.alloc t _);refine AY rfl (λK d=>?_) (AY rfl (λK d=>?_) DE)
    focus
     go_simp;refine d.l _ _ aA (λ_=>?_);clear d K;refine RD 19 rfl (λK d=>?_);go_simp;refine d.l _ _ C (λ_=>?_);clear d K;refine RD 20 rfl (λK d=>?_);refine QM _ ρ _ _ _ ρ (w.heap.size+1) underlying40 HI.l rfl ω (.slice p n0 c9) n0 _ ρ W.l ⟨wr.heap.size,0,none⟩ 1 1 [.string j,.string l,.bool false] ρ rfl (World.news_of_block (AW wr _)) (gj _ _ _) ξ (wr.heap.size+1) σ ?_;intro I A L aC aB aE aX;have E:=Z aC;have aD:=Z (da aB);have D:=Z aE;have aF:=nf t R.l N.l HN.l i.l.1 f.l aD.l E.l D.l U.l;have S:=Z aF;have q9:=(ZN i.l f.l aD.l).1;have r9:=(ZN i.l f.l aD.l).2;have s:Below (w.heap.size+1) wr L:=TL ((AC _ _).alloc t _) (f.l.alloc _) aD.l τ;have T:=q.l _ s;have aR:=q.l _ (s.setCell (p:=⟨g,m,none⟩) (i.l.1.lt g rfl).1 (.slice (some ⟨I,0,none⟩) (n0+1) A))
    rotate_left
    focus
     go_simp;refine d.l _ _ C (λ_=>?_);clear d K;refine RD 5 rfl (λK d=>?_);go_simp;refine d.l _ _ C (λ_=>?_);clear d K;refine RD 20 rfl (λK d=>?_);refine QM _ ρ _ _ _ ρ (w.heap.size+1) underlying40 HI.l rfl ω (.slice p n0 c9) n0 _ ρ W.l ⟨wr.heap.size,0,none⟩ 1 1 [.string j,.string l,.bool false] ρ rfl (World.news_of_block (AW wr _)) (gj _ _ _) ξ (wr.heap.size+1) σ ?_;intro I A L aC aB aE aX;have E:=Z aC;have aD:=Z (da aB);have D:=Z aE;have aF:=nf t R.l N.l HN.l i.l.1 f.l aD.l E.l D.l U.l;have S:=Z aF;have q9:=(ZN i.l f.l aD.l).1;have r9:=(ZN i.l f.l aD.l).2;have s:Below (w.heap.size+1) wr L:=TL ((AC _ _).alloc t _) (f.l.alloc _) aD.l τ;have T:=q.l _ s;have aR:=q.l _ (s.setCell (p:=⟨g,m,none⟩) (i.l.1.lt g rfl).1 (.slice (some ⟨I,0,none⟩) (n0+1) A))
    rotate_left
   rotate_left 2
   all_goals
    clear aC aB aE aF s;refine d.l _ _ T (λ_=>?_);clear d K;simp only[J];refine V 21 (.pointer (some ⟨g,m,none⟩)) rfl T ?_;simp only[J];refine RD 22 rfl (λK d=>?_);go_simp;refine d.l _ _ aR (λ_=>?_);clear d K;refine DN ?_;go_wp2;refine⟨⟨k+1,ω,ν,?_,S.l.2⟩,by simp[intOf];omega⟩;rw[bZ.l];have s:(j,l,false)=US (rs.getD k (empty,empty)):=by rw[<-HS.l];rfl
    rw[<-s];exact S.l.1
  have d:k=rs.length:=ω
  subst d;go_wp2;go_ret;exact⟨_,rfl,aW,(KW _ _).j (O.A ω)⟩
