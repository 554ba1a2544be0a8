import Derived.Test.YtmlejnbjclkdjaaGreatDoorPrAm
import Derived.Test.YtmlejnbjclkdjaaGreatDoorPrAn
import Derived.Test.YtmlejnbjclkdjaaGreatDoorPrAp
import Derived.Laws.BytesArg
import Derived.WalkKit
import Derived.OrdersHeld
import Derived.Deep.RegionHeld
import Derived.Below
import Derived.Laws.MakeOwn
import Derived.WalkSmall
import Derived.Deep.Draws
import Derived.Deep.AppendLies
import Derived.WalkSpells
import Derived.WalkLawsBesides
import Derived.Outline
import Derived.BigQuiet
import Derived.Deep.QuietTactic
import Derived.Deep.RegionHeld3
import Derived.Test.YtmlejnbjclkdjaaGreatDoorProg
import Derived.OneCell
set_option maxHeartbeats 16000000
set_option maxRecDepth 8000
set_option linter.all false
namespace Go.Proofs.YtmlejnbjclkdjaaGreatDoor
open _root_.ByteArray(empty)
section
open Tryz
open Go.RowKit
variable {a:Act}{aA:Array Bool}{aB:Array Oper}{Q:Exit->Act->Nb->Prop}{ws:List (Int×Y)}{ss:List Y}{cs:List Nc}{N aC g:Nat}{oi:Oper}{P:Program}{md:Region.Mode}{w w':Nb}{S:Nb->Prop}
def sh:Nat->Int->Int
 | 0,v=>v
 | j+1,v=>sh j v / 256
theorem vD(j:Nat)(v:Int)(b:0<=v)(c:v<=18446744073709551615):0<=sh j v/\sh j v<=18446744073709551615:=by
 induction j with
 | zero=>exact⟨b,c⟩
 | succ j d=>unfold sh;omega
theorem yL(j:Nat)(v:Int)(b:0<=v)(c:v<=9223372036854775807):0<=sh j v/\sh j v<=9223372036854775807:=by
 induction j with
 | zero=>exact⟨b,c⟩
 | succ j d=>unfold sh;omega
def be(n:Nat)(v:Int):List Int:=(List.range n).map λi=>sh (n-1-i) v % 256
theorem PV(n:Nat)(v:Int):(be n v).length=n:=by simp[be]
theorem vk(n:Nat)(v:Int):be (n+1) v=(sh n v % 256)::be n v:=by
 unfold be;rw[List.range_succ_eq_map];simp only[IK,IE,JU];refine⟨σ,?_⟩
 apply IX
 intro i b;simp at b;simp only[Function.comp];rw[show n+1-1-(i+1)=n-1-i by omega]
theorem pD(n:Nat)(v:Int)(i:Nat)(h:i<n):(be n v).getD i 0=sh (n-1-i) v % 256:=by
 simp[be,List.getD,h]
theorem UJ(a b:List Int):strOfNums (a++b)=strOfNums a++strOfNums b:=by
 apply EP
 simp[strOfNums]
def kq(x:Int)(c:UInt8):Int:=IntKind.u64.wrap (bits BinOp.xor IntKind.u64 x (IntKind.u64.wrap (c.toNat:Int))*1099511628211)
def QS(l:List UInt8):Int:=l.foldl kq 14695981039346656037
theorem Eu(x:Int):0<=IntKind.u64.wrap x/\IntKind.u64.wrap x<=18446744073709551615:=by
 simp[IntKind.wrap,IntKind.bits,IntKind.signed];omega
theorem XU(x:Int)(b:0<=x)(c:x<=18446744073709551615):IntKind.u64.wrap x=x:=by
 simp[IntKind.wrap,IntKind.bits,IntKind.signed];omega
theorem xe(l:List UInt8)(c:UInt8):QS (l++[c])=kq (QS l) c:=by simp[QS]
theorem oO(l:List UInt8):0<=QS l/\QS l<=18446744073709551615:=by
 rcases ET l with rfl|⟨b,c,rfl⟩
 ·unfold QS;simp
 rw[List.concat_eq_append,xe];exact Eu _
theorem vn(s:Y)(k:Nat)(h:k<s.size):s.data.toList.take (k+1)=s.data.toList.take k++[s[k]]:=by
 rw[AY (by simpa using h)];rfl
def UQ(s:Y)(n:Nat):Y:=strOfNums (be n (QS s.data.toList))
theorem gp(s:Y)(n:Nat):(UQ s n).size=n:=by unfold UQ;rw[CJ,PV]
theorem mz{t e:TypeId}{L:Nat}(d:P.underlying t=some (.array L e))(m:∀w,(sizeOf e).run P w=.ok 1 w)(b c l:Nat)(n:l<L)(k:IntKind)(f:Int)(aA:f=(l:Int))(w:Nb):(Instr.sliceAt t (Mv b c) (some (.int k f)) none none).run P w=.ok (.slice (Mw b (c+l)) (L-l) (L-l)) w:=by
 have h:P.arrayLen t=L:=by simp[Program.arrayLen,d]
 have i:P.elem t=e:=by simp[Program.elem,d]
 rw[run_sliceAt_array_l (P:=P) w t ⟨b,c,none⟩ (by rw[h,i];exact d) k f ω ω,h,i,m,aA];have j:L≠l:=ω
 simp[slicedAt,j,Addr.add]
theorem qo{t e:TypeId}{L:Nat}(d:P.underlying t=some (.array L e))(l:∀w,(sizeOf e).run P w=.ok 1 w)(b c h:Nat)(n:0<L)(o:h<=L)(k:IntKind)(f:Int)(aA:f=(h:Int))(w:Nb):(Instr.sliceAt t (Mv b c) none (some (.int k f)) none).run P w=.ok (.slice (Mw b c) h L) w:=by
 have i:P.arrayLen t=L:=by simp[Program.arrayLen,d]
 have j:P.elem t=e:=by simp[Program.elem,d]
 rw[run_sliceAt_array_h (P:=P) w t ⟨b,c,none⟩ (by rw[i,j];exact d) k f ω ω,i,j,l,aA];have m:L≠0:=ω
 simp[slicedAt,Addr.add]
theorem VP(p:Y):p.toList.isEmpty=decide (p.size=0):=by
 rw[DF];have e:p.size=p.data.toList.length:=rfl;rw[e]
 cases p.data.toList<;>simp
def LI(p:Y):List Int:=p.data.toList.map λc=>(c.toNat:Int)
theorem NH(p:Y):(LI p).length=p.size:=by simp[LI]
theorem TM(p:Y):strOfNums (LI p)=p:=by
 apply EP
 simp[strOfNums,LI,Function.comp_def]
def WD(k l m:Int)(p:Y):List Int:=be 1 k++be 2 l++be 4 m++be 1 (p.size:Int)++LI p
theorem qu(k l m:Int)(p:Y):(WD k l m p).length=8+p.size:=by
 simp[WD,PV,NH];omega
def QO(k l m:Int)(p:Y)(n:Nat):List Int:=WD k l m p++List.replicate (56-n-p.size) 0
theorem rH(k l m:Int)(p:Y)(n:Nat)(h:p.size+n<=56):(QO k l m p n).length=64-n:=by
 simp[QO,qu];omega
def SL(k l m:Int)(p:Y)(n:Nat):Y:=UQ (strOfNums (QO k l m p n)) n++strOfNums (QO k l m p n)
theorem ZN(k l m:Int)(p:Y)(n:Nat)(h:p.size+n<=56):(SL k l m p n).size=64:=by
 unfold SL;rw[BN,gp,CJ,rH k l m p n h];omega
structure Wrote(w w':Nb)(b off:Nat)(xs:List Int):Prop where
 os:w'.os=w.os
 tape:w'.tape=w.tape
 output:w'.output=w.output
 size:w'.heap.size=w.heap.size
 others:∀k,k≠b->w'.heap[k]?=w.heap[k]?
 inside:∀i,i<xs.length->w'.cell? ⟨b,off+i,none⟩=some (.int .u8 (xs.getD i 0))
 outside:∀o,(o<off\/off+xs.length<=o)->w'.cell? ⟨b,o,none⟩=w.cell? ⟨b,o,none⟩
 frozen:∀a,w'.frozen? a=w.frozen? a
theorem Wrote.refl(w:Nb)(b c:Nat):Wrote w w b c []:=⟨rfl,rfl,rfl,rfl,λ_ _=>rfl,λi h=>by simp at h,λ_ _=>rfl,λ_=>rfl⟩
theorem Wrote.I{b c:Nat}{d:List Int}(h:Wrote w w' b c d){B:Nat}(e:B<=b):Below B w w' :=⟨h.os,h.tape,h.output,by rw[h.size];exact AA _,λk f=>h.others k ω⟩
theorem Wrote.step{b off:Nat}{xs:List Int}(h:Wrote w w' b (off+1) xs)(n:Int){u:Nc}(d:w.cell? ⟨b,off,none⟩=some u):Wrote w (w'.setCell ⟨b,off,none⟩ (.int .u8 n)) b off (n::xs):=by
 have aA:w'.cell? ⟨b,off,none⟩=some u:=(h.outside off (.inl ω)).j d;refine⟨h.os,h.tape,h.output,?_,λk c=>?_,λi e=>?_,λo f=>?_,λa=>?_⟩
 ·rw[<-h.size];simp[World.setCell]
 ·rw[BF _ _ _ _ c];exact h.others k c
 ·cases i with
  | zero=>simpa using FK w' ⟨b,off,none⟩ (.int .u8 n) aA
  | succ i =>
   rw[CZ (w:=w') (h:=show(⟨b,off,none⟩:Addr)≠⟨b,off+(i+1),none⟩ by simp)];have:=h.inside i (by simpa using e);rw[show off+(i+1)=off+1+i by omega,this];simp
 ·simp only[CY]at f
  rw[CZ (w:=w') (h:=show(⟨b,off,none⟩:Addr)≠⟨b,o,none⟩ by simp<;>omega)];exact h.outside o ω
 rw[BS];exact h.frozen a
@[reducible] def sJ(a b c d e f g h i:Int)(y:Nc):List Nc:=[.int .i64 a,.int .i64 b,.int .i64 c,.int .i64 d,.int .i64 e,.int .i64 f,.int .i64 g,.int .i64 h,.int .i64 i,y]
@[reducible] def sK(a b c d e f g h i:Int)(y:Nc):Array Nc:=#[.int .i64 a,.int .i64 b,.int .i64 c,.int .i64 d,.int .i64 e,.int .i64 f,.int .i64 g,.int .i64 h,.int .i64 i,y]
@[reducible] def dJ(z a b c d e f g h i:Int)(y x:Nc):List Nc:=[.int .i64 z,.int .i64 a,.int .i64 b,.int .i64 c,.int .i64 d,.int .i64 e,.int .i64 f,.int .i64 g,.int .i64 h,.int .i64 i,y,x]
@[reducible] def dK(z a b c d e f g h i:Int)(y x:Nc):Array Nc:=#[.int .i64 z,.int .i64 a,.int .i64 b,.int .i64 c,.int .i64 d,.int .i64 e,.int .i64 f,.int .i64 g,.int .i64 h,.int .i64 i,y,x]
theorem PS:(∀(a:Act) (t:Nat) (v:Nc),a.put (some t) v={ a with tmps:=a.tmps.setIfInBounds t v })/\(∀(a:Act) (v:Nc),a.put none v=a)/\(∀(l:List Nc) (i:Nat) (v:Nc),l.toArray.setIfInBounds i v=(l.set i v).toArray)/\(∀(x y:Nc) (l:List Nc),(x::l).set 0 y=y::l)/\(∀(x y:Nc) (l:List Nc) (n:Nat),(x::l).set (n+1) y=x::l.set n y)/\(∀(l:List Oper) (i:Nat) (h:i<l.toArray.size),l.toArray[i]=l[i]'(by simpa using h))/\(∀(x:Oper) (l:List Oper) (h:0<(x::l).length),(x::l)[0]'h=x)/\(∀(x:Oper) (l:List Oper) (i:Nat) (h:i+1<(x::l).length),(x::l)[i+1]'h=l[i]'(by simpa using h)) :=⟨λ_ _ _=>rfl,λ_ _=>rfl,λ_ _ _=>σ,λ_ _ _=>rfl,λ_ _ _ _=>rfl,λ_ _ _=>σ,λ_ _ _=>rfl,λ_ _ _ _=>rfl⟩
theorem TK(i:Nat)(v:Nc)(f:aB[i]?=some oi)(l:YieldsIf P aB S oi v a)(d:S w)
  (h:wpAnyH P md aB Q S aC (aA.setIfInBounds i true) (a.put oi.dst v) w)(k:Region.noSelect aB=true:=by kernel_rfl)(e:Region.free md aB aA i=true:=by kernel_rfl)(j:(Region.ready md aB aA).contains i=true:=by kernel_rfl)
  (b:∀c a w,Q (.panic c) (a.put oi.dst v) w->Q (.panic c) a w:=by exactλ_ _ _ h=>h):wpAnyH P md aB Q S (aC+1) aA a w:=wpAnyH_take f k e j b l d h
theorem TY(i:Nat)(v:Nc)(f:aB[i]?=some oi)(d:S w)
  (h:wpAnyH P md aB Q S aC (aA.setIfInBounds i true) (a.put oi.dst v) w)(l:YieldsIf P aB S oi v a:=by exact BO ⟨ρ,λw hw=>by(repeat (obtain⟨_,hw⟩:=hw));go_simp⟩)(k:Region.noSelect aB=true:=by kernel_rfl)(e:Region.free md aB aA i=true:=by kernel_rfl)(j:(Region.ready md aB aA).contains i=true:=by kernel_rfl)
  (b:∀c a w,Q (.panic c) (a.put oi.dst v) w->Q (.panic c) a w:=by exactλ_ _ _ h=>h):wpAnyH P md aB Q S (aC+1) aA a w:=wpAnyH_take f k e j b l d h
theorem TZ(i:Nat)(v:Nc)(f:aB[i]?=some oi)(d:S w)
  (h:wpAnyH P md aB Q S aC (aA.setIfInBounds i true) (a.put oi.dst v) w)(l:YieldsIf P aB S oi v a:=by exact BO ⟨ρ,λw hw=>by(repeat (obtain⟨_,hw⟩:=hw));go_simp;all_goals omega⟩)(k:Region.noSelect aB=true:=by kernel_rfl)(e:Region.free md aB aA i=true:=by kernel_rfl)(j:(Region.ready md aB aA).contains i=true:=by kernel_rfl)
  (b:∀c a w,Q (.panic c) (a.put oi.dst v) w->Q (.panic c) a w:=by exactλ_ _ _ h=>h):wpAnyH P md aB Q S (aC+1) aA a w:=wpAnyH_take f k e j b l d h
theorem RD{aC:Array Oper}{aB:Nat}(i:Nat){o:Oper}(c:aC[i]?=some o)
  (h:∀b:Act->Nb->Prop,Shut (∀a w,S w->(S w->wpAnyH P md aC Q S aB (aA.setIfInBounds i true) a w)->b a w)->if Region.wanted o (yielded aC a.tmps)=true then Oper.wp P o a w b Q else b (a.put o.dst undef) w)
  (b:Region.ready md aC aA=[i]:=by kernel_rfl):wpAnyH P md aC Q S (aB+1) aA a w:=EF b σ (BK c h DX)
theorem DN{aC:Array Oper}{aB:Nat}(h:Q .normal a w)(b:Region.ready md aC aA=[]:=by kernel_rfl):wpAnyH P md aC Q S aB aA a w:=wpAnyH_done b h _
theorem Z{p:Prop}(h:p):Hid p:=h
theorem zp{k:IntKind}{a b:Int}(h:a=b):M3 (.int k a)=M3 (.int k b):=by rw[h]
def Strs(w:Nb)(a:M6)(ss:List Y):Prop :=ss=[]\/∃b o,a=Mw b o/\b<w.heap.size/\∀i,i<ss.length->w.cell? ⟨b,o+i,none⟩=some (Mz (ss.getD i empty))
def Wrs(w:Nb)(a:M6)(ws:List (Int×Y)):Prop :=ws=[]\/∃b o,a=Mw b o/\b<w.heap.size/\∀i,i<ws.length->w.cell? ⟨b,o+i*2,none⟩=some (.int .i64 (ws.getD i (0,empty)).1)/\w.cell? ⟨b,o+i*2+1,none⟩=some (Mz (ws.getD i (0,empty)).2)
theorem Strs.I{a:M6}(h:Strs w a ss)(d:Below w.heap.size w w'):Strs w' a ss:=by
 rcases h with h|⟨b,o,e,c,f⟩
 ·exact .inl h
 exact .inr ⟨b,o,e,AD c d.size,λi j=>(d.cell (p:=⟨b,o+i,none⟩) c).j (f i j)⟩
theorem Wrs.I{a:M6}(h:Wrs w a ws)(d:Below w.heap.size w w'):Wrs w' a ws:=by
 rcases h with h|⟨b,o,j,c,e⟩
 ·exact .inl h
 exact .inr ⟨b,o,j,AD c d.size,λi f=>⟨(d.cell (p:=⟨b,o+i*2,none⟩) c).j (e i f).1,(d.cell (p:=⟨b,o+i*2+1,none⟩) c).j (e i f).2⟩⟩
theorem Strs.at{a:M6}(h:Strs w a ss){k:Nat}(c:k<ss.length):∃b o s,a=Mw b o/\w.cell? ⟨b,o+k,none⟩=some (Mz s)/\Hid (s=ss.getD k empty):=by
 rcases h with h|⟨b,o,d,f,e⟩
 ·subst h;simp at c
 exact⟨b,o,_,d,e k c,Z rfl⟩
theorem Wrs.at{a:M6}(h:Wrs w a ws){k:Nat}(c:k<ws.length):∃b o n s,a=Mw b o/\w.cell? ⟨b,o+k*2,none⟩=some (.int .i64 n)/\w.cell? ⟨b,o+k*2+1,none⟩=some (Mz s)/\Hid ((n,s)=ws.getD k (0,empty)):=by
 rcases h with h|⟨b,o,e,f,d⟩
 ·subst h;simp at c
 exact⟨b,o,_,_,e,(d k c).1,(d k c).2,Z rfl⟩
theorem YI{α:Type}(l:List α)(k:Nat)(d:α)(h:k<l.length):l.drop k=l.getD k d::l.drop (k+1):=by
 rw[GW h];simp[List.getD,h]
theorem OK{p:Addr}{x:Option Nc}(h:Below N w w')(b:w.cell? p=x)(c:p.block<N:=by simp<;>omega):w'.cell? p=x:=(h.cell c).j b
theorem TF{p:Addr}{x:Bool}(h:Below N w w')(b:w.frozen? p=x)(c:p.block<N:=by simp<;>omega):w'.frozen? p=x:=(h.frozen c).j b
theorem k3(h:Below N w w')(g:Nat)(a b c:Nc)(j:w.cell? ⟨g,0,none⟩=some a:=by go_simp)(e:w.frozen? ⟨g,0,none⟩=false:=by go_simp)(k:w.cell? ⟨g,1,none⟩=some b:=by go_simp)(f:w.frozen? ⟨g,1,none⟩=false:=by go_simp)(l:w.cell? ⟨g,2,none⟩=some c:=by go_simp)(i:w.frozen? ⟨g,2,none⟩=false:=by go_simp)(d:g<N:=by simp<;>omega):w'.cell? ⟨g,0,none⟩=some a/\w'.frozen? ⟨g,0,none⟩=false/\w'.cell? ⟨g,1,none⟩=some b/\w'.frozen? ⟨g,1,none⟩=false/\w'.cell? ⟨g,2,none⟩=some c/\w'.frozen? ⟨g,2,none⟩=false:=⟨OK h j d,TF h e d,OK h k d,TF h f d,OK h l d,TF h i d⟩
theorem LO(w:Nb)(o:Obj):Below w.heap.size w (w.alloc o):=(AB _ _).alloc (AA _) _
theorem OJ{v:Ending}{K:Ending->Nb->Prop}(h:K v w):∀e w',e=v/\w'=w->K e w':=λ_ _ k=>by rw[k.1,k.2];exact h
structure Row(w:Nb)(g:Nat)(cs:List Nc):Prop where
 lt:g<w.heap.size
 cell:∀i v,cs[i]?=some v->w.cell? ⟨g,i,none⟩=some v
 froz:∀i,i<cs.length->w.frozen? ⟨g,i,none⟩=false
theorem Row.y{w:Nb}{g:Nat}{cs:List Nc}(h:Row w g cs)(i:Nat){v:Nc}(hv:cs[i]?=some v:=by rfl):w.cell? ⟨g,i,none⟩=some v:=h.cell i v hv
theorem Row.A{w:Nb}{g:Nat}{cs:List Nc}(h:Row w g cs)(i:Nat)(b:i<cs.length:=by simp):w.frozen? ⟨g,i,none⟩=false:=h.froz i b
theorem Row.I(h:Row w g cs)(b:Below w.heap.size w w'):Row w' g cs :=⟨AD h.lt b.size,λi v hv=>(b.cell (p:=⟨g,i,none⟩) h.lt).j (h.cell i v hv),λi c=>(b.frozen (p:=⟨g,i,none⟩) h.lt).j (h.froz i c)⟩
theorem Row.set(h:Row w g cs)(k:Nat)(d:k<cs.length)(v:Nc):Row (w.setCell ⟨g,k,none⟩ v) g (cs.set k v):=by
 refine⟨by simpa[World.setCell] using h.lt,λi u b=>?_,λi f=>?_⟩
 ·by_cases c:i=k
  ·subst c
   rw[JJ d]at b
   cases b
   exact FK w _ _ (h.cell i _ (BQ d))
  rw[FR (λe=>c e.symm)]at b
  rw[CZ (w:=w) (h:=show(⟨g,k,none⟩:Addr)≠⟨g,i,none⟩ by simp<;>omega)];exact h.cell i u b
 rw[BS];exact h.froz i (by simpa using f)
theorem Row.other(h:Row w g cs)(p:Addr)(c:p.block≠g)(v:Nc):Row (w.setCell p v) g cs:=by
 refine⟨by simpa[World.setCell] using h.lt,λi u d=>?_,λi b=>?_⟩
 ·rw[CZ (w:=w) (h:=λe=>c (by rw[e]))];exact h.cell i u d
 rw[BS];exact h.froz i b
theorem Row.drew(h:Row w g cs):Row w.drew g cs:=⟨h.lt,h.cell,h.froz⟩
theorem Row.drewN(h:Row w g cs)(q:Nat):Row (w.drewN q) g cs:=h.I (below_drewN (AB _ _) q)
theorem Row.alloc(h:Row w g cs)(o:Obj):Row (w.alloc o) g cs:=h.I (LO _ _)
theorem zH(w:Nb)(b o:Nat)(h:w.heap.size<=b):w.frozen? ⟨b,o,none⟩=false:=by
 have e:w.heap[b]?=none:=by simp[h]
 simp[World.frozen?,e]
theorem MT(w:Nb)(A:Array Nc)(t:TypeId):Row (w.alloc (.cells A t)) w.heap.size A.toList :=⟨σ,λi v hv=>by rw[EL _ _ _ _ rfl];simpa using hv,λi b=>by rw[DQ];exact zH _ _ _ (AA _)⟩
theorem Row.strs(h:Row w g (ss.map Value.string)):Strs w (Mw g 0) ss :=.inr ⟨g,0,rfl,h.lt,λi b=>by
  rw[BG]
  exact h.cell i _ (by simp[List.getD,b])⟩
def NP(ws:List (Int×Y)):List Nc:=ws.flatMap λx=>[.int .i64 x.1,Mz x.2]
theorem yY(a b:List (Int×Y)):NP (a++b)=NP a++NP b:=by simp[NP]
theorem ca(ws:List (Int×Y)):(NP ws).length=ws.length*2:=by
 induction ws with
 | nil=>rfl
 | cons x r b=>simp[NP]at b⊢;omega
theorem jy:∀(ws:List (Int×Y)) (i:Nat),i<ws.length->(NP ws)[i*2]?=some (.int .i64 (ws.getD i (0,empty)).1)/\(NP ws)[i*2+1]?=some (Mz (ws.getD i (0,empty)).2)
 | x::r,0,_=>by simp[NP]
 | x::r,i+1,h=>by
  have b:=jy r i (by simpa using h);have e:NP (x::r)=.int .i64 x.1::Mz x.2::NP r:=by simp[NP]
  rw[e,show(i+1)*2=i*2+2 by omega];simpa using b
theorem Row.wrs(h:Row w g (NP ws)):Wrs w (Mw g 0) ws :=.inr ⟨g,0,rfl,h.lt,λi b=>by
  rw[BG]
  exact⟨h.cell _ _ (jy ws i b).1,h.cell _ _ (jy ws i b).2⟩⟩
theorem xm{f:Array Oper}{aC:List Oper}{o:Oper}
  (v:o.guard=none)(l c:Operand)(t:TypeId)(m:o.op=Op.makeSlice t l c)(e:TypeId)(z:Nc)(b aA:Nat)(A:P.underlying t=some (.slice e))(aB:(P.info? e).map (λi=>(i.zero,i.size,i.bytes))=some (some z,b,aA))
  (n:Nat)(y:a.eval l=.int .i64 (n:Int))(u:a.eval c=.int .i64 (n:Int))(B:aA*n<=281474976710656)(C:n<=281474976710656)
  (h:∀d,Row d w.heap.size (madeCells z.cells (n*b)).toList->Below w.heap.size w d->d.heap.size=w.heap.size+1->wpList P f Q aC (a.put o.dst (.slice (Mw w.heap.size 0) n n)) d):wpList P f Q (o::aC) a w:=by
 refine IW v λK s=>?_
 obtain⟨i,x,d⟩:=EZ.1 aB;simp only[BV]at d;obtain⟨p,q,r⟩:=d;subst q r
 have k:(i.bytes:Int)*(n:Int)<=281474976710656:=by
  have:((i.bytes*n:Nat):Int)<=281474976710656:=ω
  rwa [Int.natCast_mul]at this
 have j:=run_make (P:=P) w t e i z A x p .i64 .i64 n n ω (Int.le_refl _) k ω;simp only[BM]at j;unfold Oper.wp;simp[execOp,m,y,u,j,Result.andThen];exact s _ _ (h _ (MT _ _ _) (LO _ _) σ)
end
section
open Tryz
open Go
theorem QY{P:Program}(w:Nb){B:Array Oper}{A:List Oper}{o:Oper}{a:Act}{Q:Exit->Act->Nb->Prop}(F:o.guard=none)(s x:Operand)(t:TypeId)
  (N:o.op=.call { callee:=.builtin .append,args:=#[s,x],argTypes:=#[t,t] })
  (f:Nat){e:TypeId}{i:TypeInfo}{z:Nc}{b q:Nat}(R:P.underlying t=some (.slice e))(l:P.info? e=some i/\i.zero=some z/\i.size=b/\i.bytes=q)(I:z.cells.size=b)(G:0<b)
  (v:Nc)(n:Nat)(y:List Nc)(O:a.eval s=v)(E:w.ownsRow f e b v n y)
  (r:Addr)(m c:Nat)(d:List Nc)(S:a.eval x=.slice (some r) m c)(L:d.length=m*b)(D:∀j u,d[j]?=some u->w.cell? (r.add j)=some u)(J:∀u∈d,u.oneCell'=true)
  (C:f<=w.heap.size)(H:Nat)(K:w.heap.size=H)
  (h:∀g k p,p.ownsRow f e b (.slice (Mw g 0) (n+m) k) (n+m) (y++d)->w.grownBy p v.ownBlock->(v.ownBlock=some g\/g=H)->g<p.heap.size->wpList P B Q A (a.put o.dst (.slice (Mw g 0) (n+m) k)) p)(M:0<m:=by omega)(u:n+m<=maxLen:=by unfold maxLen;omega)(j:(n+m)*q<=140737488355328:=by omega):wpList P B Q (o::A) a w :=wpList_append_lies w F s x t N f e i z b q R l.1 l.2.1 l.2.2.1 l.2.2.2 I G v n y O E r m c d S L D J M u j C H K h
theorem SI{P:Program}(w:Nb){I:Array Oper}{o:Oper}{a:Act}{K:Act->Nb->Prop}{Q:Exit->Act->Nb->Prop}{E:Prop}(D:o.guard=none)(s x:Operand)(t:TypeId)
  (O:o.op=.call { callee:=.builtin .append,args:=#[s,x],argTypes:=#[t,t] })
  (f:Nat){e:TypeId}{i:TypeInfo}{z:Nc}{b q:Nat}(S:P.underlying t=some (.slice e))(l:P.info? e=some i/\i.zero=some z/\i.size=b/\i.bytes=q)(G:z.cells.size=b)(F:0<b)
  (v:Nc)(n:Nat)(y:List Nc)(R:a.eval s=v)(C:w.ownsRow f e b v n y)
  (r:Addr)(m c:Nat)(d:List Nc)(T:a.eval x=.slice (some r) m c)(M:d.length=m*b)(B:∀j u,d[j]?=some u->w.cell? (r.add j)=some u)(J:∀u∈d,u.oneCell'=true)
  (A:f<=w.heap.size)(H:Nat)(L:w.heap.size=H)
  (h:∀g k p,p.ownsRow f e b (.slice (Mw g 0) (n+m) k) (n+m) (y++d)->w.grownBy p v.ownBlock->(v.ownBlock=some g\/g=H)->g<p.heap.size->K (a.put o.dst (.slice (Mw g 0) (n+m) k)) p)(N:0<m:=by omega)(u:n+m<=maxLen:=by unfold maxLen;omega)(j:(n+m)*q<=140737488355328:=by omega):if Region.wanted o (yielded I a.tmps)=true then Oper.wp P o a w K Q else E :=step_append_lies w D s x t O f e i z b q S l.1 l.2.1 l.2.2.1 l.2.2.2 G F v n y R C r m c d T M B J N u j A H L h
end
section
open Tryz
open Go.RowKit
variable {k:Y}{rs:List (Y×Y)}{r vs xs:List Nc}{base cap g m n n0 size:Nat}{a:M6}{e:TypeId}{aA aB v v0 v1 v2 v3 v4 v5 v6 v7 v8 v9 x:Nc}{w w' w1 w7 wr:Nb}
theorem Row.k3(h:Row w g (v0::v1::v2::r)):w.cell? ⟨g,0,none⟩=some v0/\w.cell? ⟨g,1,none⟩=some v1/\w.cell? ⟨g,2,none⟩=some v2:=⟨h.y 0,h.y 1,h.y 2⟩
theorem Row.k4(h:Row w g (v0::v1::v2::v3::r)):w.cell? ⟨g,0,none⟩=some v0/\w.cell? ⟨g,1,none⟩=some v1/\w.cell? ⟨g,2,none⟩=some v2/\w.cell? ⟨g,3,none⟩=some v3:=⟨h.y 0,h.y 1,h.y 2,h.y 3⟩
theorem Row.k10(h:Row w g (v0::v1::v2::v3::v4::v5::v6::v7::v8::v9::r)):w.cell? ⟨g,0,none⟩=some v0/\w.cell? ⟨g,1,none⟩=some v1/\w.cell? ⟨g,2,none⟩=some v2/\w.cell? ⟨g,3,none⟩=some v3/\w.cell? ⟨g,4,none⟩=some v4/\w.cell? ⟨g,5,none⟩=some v5/\w.cell? ⟨g,6,none⟩=some v6/\w.cell? ⟨g,7,none⟩=some v7/\w.cell? ⟨g,8,none⟩=some v8/\w.cell? ⟨g,9,none⟩=some v9:=⟨h.y 0,h.y 1,h.y 2,h.y 3,h.y 4,h.y 5,h.y 6,h.y 7,h.y 8,h.y 9⟩
theorem Row.k12(h:Row w g (v0::v1::v2::v3::v4::v5::v6::v7::v8::v9::aA::aB::r)):w.cell? ⟨g,0,none⟩=some v0/\w.cell? ⟨g,1,none⟩=some v1/\w.cell? ⟨g,2,none⟩=some v2/\w.cell? ⟨g,3,none⟩=some v3/\w.cell? ⟨g,4,none⟩=some v4/\w.cell? ⟨g,5,none⟩=some v5/\w.cell? ⟨g,6,none⟩=some v6/\w.cell? ⟨g,7,none⟩=some v7/\w.cell? ⟨g,8,none⟩=some v8/\w.cell? ⟨g,9,none⟩=some v9/\w.cell? ⟨g,10,none⟩=some aA/\w.cell? ⟨g,11,none⟩=some aB:=⟨h.y 0,h.y 1,h.y 2,h.y 3,h.y 4,h.y 5,h.y 6,h.y 7,h.y 8,h.y 9,h.y 10,h.y 11⟩
theorem Row.k16{b c d f:Nc}(h:Row w g (v0::v1::v2::v3::v4::v5::v6::v7::v8::v9::aA::aB::b::c::d::f::r)):w.cell? ⟨g,0,none⟩=some v0/\w.cell? ⟨g,1,none⟩=some v1/\w.cell? ⟨g,2,none⟩=some v2/\w.cell? ⟨g,3,none⟩=some v3/\w.cell? ⟨g,4,none⟩=some v4/\w.cell? ⟨g,5,none⟩=some v5/\w.cell? ⟨g,6,none⟩=some v6/\w.cell? ⟨g,7,none⟩=some v7/\w.cell? ⟨g,8,none⟩=some v8/\w.cell? ⟨g,9,none⟩=some v9/\w.cell? ⟨g,10,none⟩=some aA/\w.cell? ⟨g,11,none⟩=some aB/\w.cell? ⟨g,12,none⟩=some b/\w.cell? ⟨g,13,none⟩=some c/\w.cell? ⟨g,14,none⟩=some d/\w.cell? ⟨g,15,none⟩=some f:=⟨h.y 0,h.y 1,h.y 2,h.y 3,h.y 4,h.y 5,h.y 6,h.y 7,h.y 8,h.y 9,h.y 10,h.y 11,h.y 12,h.y 13,h.y 14,h.y 15⟩
theorem Row.z2(h:Row w g (v0::v1::r)):w.frozen? ⟨g,0,none⟩=false/\w.frozen? ⟨g,1,none⟩=false:=⟨h.A 0,h.A 1⟩
theorem Row.z3(h:Row w g (v0::v1::v2::r)):w.frozen? ⟨g,0,none⟩=false/\w.frozen? ⟨g,1,none⟩=false/\w.frozen? ⟨g,2,none⟩=false:=⟨h.A 0,h.A 1,h.A 2⟩
theorem Row.z4(h:Row w g (v0::v1::v2::v3::r)):w.frozen? ⟨g,0,none⟩=false/\w.frozen? ⟨g,1,none⟩=false/\w.frozen? ⟨g,2,none⟩=false/\w.frozen? ⟨g,3,none⟩=false:=⟨h.A 0,h.A 1,h.A 2,h.A 3⟩
theorem Row.z12(h:Row w g (v0::v1::v2::v3::v4::v5::v6::v7::v8::v9::aA::aB::r)):w.frozen? ⟨g,0,none⟩=false/\w.frozen? ⟨g,1,none⟩=false/\w.frozen? ⟨g,2,none⟩=false/\w.frozen? ⟨g,3,none⟩=false/\w.frozen? ⟨g,4,none⟩=false/\w.frozen? ⟨g,5,none⟩=false/\w.frozen? ⟨g,6,none⟩=false/\w.frozen? ⟨g,7,none⟩=false/\w.frozen? ⟨g,8,none⟩=false/\w.frozen? ⟨g,9,none⟩=false/\w.frozen? ⟨g,10,none⟩=false/\w.frozen? ⟨g,11,none⟩=false:=⟨h.A 0,h.A 1,h.A 2,h.A 3,h.A 4,h.A 5,h.A 6,h.A 7,h.A 8,h.A 9,h.A 10,h.A 11⟩
theorem Row.z16{b c d f:Nc}(h:Row w g (v0::v1::v2::v3::v4::v5::v6::v7::v8::v9::aA::aB::b::c::d::f::r)):w.frozen? ⟨g,0,none⟩=false/\w.frozen? ⟨g,1,none⟩=false/\w.frozen? ⟨g,2,none⟩=false/\w.frozen? ⟨g,3,none⟩=false/\w.frozen? ⟨g,4,none⟩=false/\w.frozen? ⟨g,5,none⟩=false/\w.frozen? ⟨g,6,none⟩=false/\w.frozen? ⟨g,7,none⟩=false/\w.frozen? ⟨g,8,none⟩=false/\w.frozen? ⟨g,9,none⟩=false/\w.frozen? ⟨g,10,none⟩=false/\w.frozen? ⟨g,11,none⟩=false/\w.frozen? ⟨g,12,none⟩=false/\w.frozen? ⟨g,13,none⟩=false/\w.frozen? ⟨g,14,none⟩=false/\w.frozen? ⟨g,15,none⟩=false:=⟨h.A 0,h.A 1,h.A 2,h.A 3,h.A 4,h.A 5,h.A 6,h.A 7,h.A 8,h.A 9,h.A 10,h.A 11,h.A 12,h.A 13,h.A 14,h.A 15⟩
def Prs(w:Nb)(a:M6)(rs:List (Y×Y)):Prop :=rs=[]\/∃b o,a=Mw b o/\b<w.heap.size/\∀i,i<rs.length->w.cell? ⟨b,o+i*2,none⟩=some (Mz (rs.getD i (empty,empty)).1)/\w.cell? ⟨b,o+i*2+1,none⟩=some (Mz (rs.getD i (empty,empty)).2)
theorem Prs.I(h:Prs w a rs)(d:Below w.heap.size w w'):Prs w' a rs:=by
 rcases h with h|⟨b,o,l,c,f⟩
 ·exact .inl h
 exact .inr ⟨b,o,l,AD c d.size,λi j=>⟨(d.cell (p:=⟨b,o+i*2,none⟩) c).j (f i j).1,(d.cell (p:=⟨b,o+i*2+1,none⟩) c).j (f i j).2⟩⟩
theorem Prs.at(h:Prs w a rs){k:Nat}(c:k<rs.length):∃b o d f,a=Mw b o/\w.cell? ⟨b,o+k*2,none⟩=some (Mz d)/\w.cell? ⟨b,o+k*2+1,none⟩=some (Mz f)/\Hid ((d,f)=rs.getD k (empty,empty)):=by
 rcases h with h|⟨b,o,f,i,d⟩
 ·subst h;simp at c
 exact⟨b,o,_,_,f,(d k c).1,(d k c).2,Z rfl⟩
def MC(rs:List (Y×Y)):List Nc:=rs.flatMap λx=>[Mz x.1,Mz x.2]
theorem VK(a b:List (Y×Y)):MC (a++b)=MC a++MC b:=by simp[MC]
theorem XG(rs:List (Y×Y)):(MC rs).length=rs.length*2:=by
 induction rs with
 | nil=>rfl
 | cons x r b=>simp[MC]at b⊢;omega
theorem it:∀(rs:List (Y×Y)) (i:Nat),i<rs.length->(MC rs)[i*2]?=some (Mz (rs.getD i (empty,empty)).1)/\(MC rs)[i*2+1]?=some (Mz (rs.getD i (empty,empty)).2)
 | x::r,0,_=>by simp[MC]
 | x::r,i+1,h=>by
  have b:=it r i (by simpa using h);have e:MC (x::r)=Mz x.1::Mz x.2::MC r:=by simp[MC]
  rw[e,show(i+1)*2=i*2+2 by omega];simpa using b
theorem Row.prs(h:Row w g (MC rs)):Prs w (Mw g 0) rs :=.inr ⟨g,0,rfl,h.lt,λi b=>by
  rw[BG]
  exact⟨h.cell _ _ (it rs i b).1,h.cell _ _ (it rs i b).2⟩⟩
def Chs(w:Nb)(a:M6)(rs:List (Y×Y×Bool)):Prop :=rs=[]\/∃b o,a=Mw b o/\b<w.heap.size/\∀i,i<rs.length->w.cell? ⟨b,o+i*3,none⟩=some (Mz (rs.getD i (empty,empty,false)).1)/\w.cell? ⟨b,o+i*3+1,none⟩=some (Mz (rs.getD i (empty,empty,false)).2.1)/\w.cell? ⟨b,o+i*3+2,none⟩=some (M0 (rs.getD i (empty,empty,false)).2.2)
theorem Chs.I{rs:List (Y×Y×Bool)}(h:Chs w a rs)(d:Below w.heap.size w w'):Chs w' a rs:=by
 rcases h with h|⟨b,o,l,c,f⟩
 ·exact .inl h
 exact .inr ⟨b,o,l,AD c d.size,λi j=>⟨(d.cell (p:=⟨b,o+i*3,none⟩) c).j (f i j).1,(d.cell (p:=⟨b,o+i*3+1,none⟩) c).j (f i j).2.1,(d.cell (p:=⟨b,o+i*3+2,none⟩) c).j (f i j).2.2⟩⟩
theorem Chs.at{rs:List (Y×Y×Bool)}(h:Chs w a rs){k:Nat}(c:k<rs.length):∃b o f i d,a=Mw b o/\w.cell? ⟨b,o+k*3,none⟩=some (Mz f)/\w.cell? ⟨b,o+k*3+1,none⟩=some (Mz i)/\w.cell? ⟨b,o+k*3+2,none⟩=some (M0 d)/\Hid ((f,i,d)=rs.getD k (empty,empty,false)):=by
 rcases h with h|⟨b,o,f,i,d⟩
 ·subst h;simp at c
 exact⟨b,o,_,_,_,f,(d k c).1,(d k c).2.1,(d k c).2.2,Z rfl⟩
def NL(rs:List (Y×Y×Bool)):List Nc:=rs.flatMap λx=>[Mz x.1,Mz x.2.1,M0 x.2.2]
theorem ww(a b:List (Y×Y×Bool)):NL (a++b)=NL a++NL b:=by simp[NL]
theorem jp:∀(rs:List (Y×Y×Bool)) (i:Nat),i<rs.length->(NL rs)[i*3]?=some (Mz (rs.getD i (empty,empty,false)).1)/\(NL rs)[i*3+1]?=some (Mz (rs.getD i (empty,empty,false)).2.1)/\(NL rs)[i*3+2]?=some (M0 (rs.getD i (empty,empty,false)).2.2)
 | x::r,0,_=>by simp[NL]
 | x::r,i+1,h=>by
  have b:=jp r i (by simpa using h);have e:NL (x::r)=Mz x.1::Mz x.2.1::M0 x.2.2::NL r:=by simp[NL]
  rw[e,show(i+1)*3=i*3+3 by omega];simpa using b
theorem Row.chs{rs:List (Y×Y×Bool)}(h:Row w g (NL rs)):Chs w (Mw g 0) rs :=.inr ⟨g,0,rfl,h.lt,λi b=>by
  rw[BG]
  exact⟨h.cell _ _ (jp rs i b).1,h.cell _ _ (jp rs i b).2.1,h.cell _ _ (jp rs i b).2.2⟩⟩
theorem PT{a b:Bool}(h:a=b):M3 (M0 a)=M3 (M0 b):=by rw[h]
def QD(k:Y):Bool:=decide (1<=k.size/\k.size<=20)
def PE(k:Y):Bool:=decide (k.size<=100)
def PJ(x:Y×Y×Bool):Bool:=QD x.1 && PE x.2.1 && !(x.2.2 && decide (x.2.1.size≠0))
def PA(rs:List (Y×Y×Bool)):Bool:=decide (1<=rs.length/\rs.length<=20) && rs.all PJ
theorem fo{rs:List (Y×Y×Bool)}(h:¬(1<=rs.length/\rs.length<=20)):PA rs=false:=by simp[PA,h]
theorem dj{rs:List (Y×Y×Bool)}{x:Y×Y×Bool}(b:x∈rs)(h:PJ x=false):PA rs=false:=by
 have:rs.all PJ=false:=GE.2 ⟨x,b,by simp[h]⟩;simp[PA,this]
theorem ym{rs:List (Y×Y×Bool)}(h:1<=rs.length/\rs.length<=20)(b:∀x∈rs,PJ x=true):PA rs=true:=by
 simp only[PA,AX,AT,EH];exact⟨h,b⟩
theorem WR{rs:List (Y×Y×Bool)}(h:PA rs=true):(1<=rs.length/\rs.length<=20)/\∀x∈rs,PJ x=true:=by
 simp only[PA,AX,AT,EH]at h;exact h
theorem dg(s:Y)(w:Nb)(d:s.size<=1048576):Calls prog 80 #[Mz s] w λe w'=>e=M3 (M0 (QD s))/\w'=w:=by
 unfold QD
 by_cases c:1<=s.size
 ·by_cases b:s.size<=20
  ·go_enter func80,ntmps80
   go_wp2;go_ret;exact⟨PT (by simp[c,b]<;>omega),rfl⟩
  go_enter func80,ntmps80
  go_wp2;go_ret;exact⟨PT (by simp[b]<;>omega),rfl⟩
 go_enter func80,ntmps80
 go_wp2;go_ret;exact⟨PT ξ,rfl⟩
theorem mV{v:Y}{g:Bool}(h:QD k=false):PJ (k,v,g)=false:=by simp[PJ,h]
theorem pV{v:Y}{g:Bool}(h:PE v=false):PJ (k,v,g)=false:=by simp[PJ,h]
theorem wN{v:Y}(h:v.toList.isEmpty=false):PJ (k,v,true)=false:=by
 rw[VP]at h;have:v.size≠0:=by simpa using h
 simp[PJ,this]
theorem pG{v:Y}(h:QD k=true)(b:PE v=true):PJ (k,v,false)=true:=by simp[PJ,h,b]
theorem qU{v:Y}(h:QD k=true)(c:PE v=true)(b:v.toList.isEmpty=true):PJ (k,v,true)=true:=by
 rw[VP]at b;have:v.size=0:=by simpa using b
 simp[PJ,h,c,this]
theorem ms{α:Type}{rs:List α}{k:Nat}{x d:α}{f:α->Bool}(aA:k<rs.length)(h:∀y∈rs.take k,f y=true)(c:x=rs.getD k d)(i:f x=true):∀y∈rs.take (k+1),f y=true:=by
 intro y b;rw[AY aA]at b;rcases BJ.1 b with b|b
 ·exact h y b
 simp at b
 simp[List.getD,aA]at c;rw[b,<-c];exact i
theorem nh(a:M6)(rs:List (Y×Y×Bool))(c:Nat)(w:Nb)(h:Chs w a rs)(H:rs.length<=1048576)(z:∀x∈rs,x.1.size<=1048576/\x.2.1.size<=1048576):Calls prog 187 #[.slice a rs.length c] w λe w'=>e=M3 (M0 (PA rs))/\Below w.heap.size w w':=by
 obtain⟨R,d⟩:∃R,Hid (R=PA rs):=⟨_,Z rfl⟩;rw[<-d.l]
 by_cases I:1<=(rs.length:Int)
 ·by_cases J:(rs.length:Int)<=20
  ·go_enter func187,ntmps187
   go_wp2;go_loopw [3] (λi wr=>∃k:Nat,k<=rs.length/\i=.int .i64 k/\Hid (∀x∈rs.take k,PJ x=true)/\Below w.heap.size w wr) (λi _=>rs.length-(intOf i).toNat)
   case atStart=>exact⟨0,AM _,rfl,by show ∀s∈rs.take 0,_;simp,AB _ _⟩
   case round =>
    obtain⟨k,G,rfl,i,aA⟩:=hrel
    by_cases j:k<rs.length
    ·obtain⟨b,o,u,f,t,rfl,B,C,D,q⟩:=(h.I aA).at j
     have l:Hid ((u,f,t)∈rs):=by show _∈_;rw[q.l];simp[List.getD,j]
     obtain⟨aB,F⟩:=z _ l.l;have A:(k:Int)<(rs.length:Int):=ω
     have E:(0:Int)<=(k:Int):=ω
     cases hk1:QD u with
     | false =>
      go_wp2_with (go_at_call 80;refine(dg _ _ aB).z ?_;rw[hk1];rintro e p ⟨rfl,rfl⟩);go_ret;exact⟨PT (by rw[d.l];exact(dj l.l (mV hk1)).symm),aA⟩
     | true =>
      cases hv1:PE f with
      | false =>
       have y:(100:Int)<(f.size:Int):=by simp[PE]at hv1;omega
       go_wp2_with (go_at_call 80;refine(dg _ _ aB).z ?_;rw[hk1];rintro e p ⟨rfl,rfl⟩);go_ret;exact⟨PT (by rw[d.l];exact(dj l.l (pV hv1)).symm),aA⟩
      | true =>
       have y:(f.size:Int)<=100:=by simp[PE]at hv1;omega
       cases t with
       | false =>
        go_wp2_with (go_at_call 80;refine(dg _ _ aB).z ?_;rw[hk1];rintro e p ⟨rfl,rfl⟩);go_roundw
        case rel=>exact⟨k+1,ω,ν,ms j i.l q.l (pG hk1 hv1),aA⟩
        case measure=>simp[intOf];omega
       | true =>
        cases he:f.toList.isEmpty with
        | false =>
         go_wp2_with (go_at_call 80;refine(dg _ _ aB).z ?_;rw[hk1];rintro e p ⟨rfl,rfl⟩);go_ret;exact⟨PT (by rw[d.l];exact(dj l.l (wN he)).symm),aA⟩
        | true =>
         go_wp2_with (go_at_call 80;refine(dg _ _ aB).z ?_;rw[hk1];rintro e p ⟨rfl,rfl⟩);go_roundw
         case rel=>exact⟨k+1,ω,ν,ms j i.l q.l (qU hk1 hv1 he),aA⟩
         case measure=>simp[intOf];omega
    have b:Hid (∀s∈rs,PJ s=true):=by have:=i.l;rwa [AQ ω]at this
    clear i;go_wp2;go_ret;exact⟨PT (by rw[d.l];exact(ym ω b.l).symm),aA⟩
  go_enter func187,ntmps187
  go_wp2;go_ret;exact⟨PT (by rw[d.l];exact(fo ω).symm),AB _ _⟩
 go_enter func187,ntmps187
 go_wp2;go_ret;exact⟨PT (by rw[d.l];exact(fo ω).symm),AB _ _⟩
theorem VU(s:Y)(w:Nb)(d:s.size<=1048576):Calls prog 163 #[Mz s] w λe w'=>e=M3 (M0 (QD s))/\w'=w:=by
 unfold QD
 by_cases c:1<=s.size
 ·by_cases b:s.size<=20
  ·go_enter func163,ntmps163
   go_wp2;go_ret;exact⟨PT (by simp[c,b]<;>omega),rfl⟩
  go_enter func163,ntmps163
  go_wp2;go_ret;exact⟨PT (by simp[b]<;>omega),rfl⟩
 go_enter func163,ntmps163
 go_wp2;go_ret;exact⟨PT ξ,rfl⟩
theorem YD(s:Y)(w:Nb)(b:s.size<=1048576):Calls prog 164 #[Mz s] w λe w'=>e=M3 (M0 (PE s))/\w'=w:=by
 unfold PE;go_enter func164,ntmps164;go_wp2;go_ret;exact⟨PT ξ,rfl⟩
theorem db(a:M6)(rs:List (Y×Y×Bool))(c:Nat)(w:Nb)(h:Chs w a rs)(G:rs.length<=1048576)(z:∀x∈rs,x.1.size<=1048576/\x.2.1.size<=1048576):Calls prog 113 #[.slice a rs.length c] w λe w'=>e=M3 (M0 (PA rs))/\Below w.heap.size w w':=by
 obtain⟨R,f⟩:∃R,Hid (R=PA rs):=⟨_,Z rfl⟩;rw[<-f.l]
 by_cases H:1<=(rs.length:Int)
 ·by_cases I:(rs.length:Int)<=20
  ·go_enter func113,ntmps113
   go_wp2;go_loopw [4,15] (λ_ i wr=>∃k:Nat,k<=rs.length/\i=.int .i64 k/\Hid (∀x∈rs.take k,PJ x=true)/\Below w.heap.size w wr) (λ_ i _=>rs.length-(intOf i).toNat)
   case atStart=>exact⟨0,AM _,rfl,by show ∀s∈rs.take 0,_;simp,AB _ _⟩
   case round =>
    obtain⟨k,F,rfl,i,aA⟩:=hrel
    by_cases j:k<rs.length
    ·obtain⟨b,o,y,t,u,rfl,B,C,D,q⟩:=(h.I aA).at j
     have p:Hid ((y,t,u)∈rs):=by show _∈_;rw[q.l];simp[List.getD,j]
     obtain⟨aB,l⟩:=z _ p.l;have A:(k:Int)<(rs.length:Int):=ω
     have E:(0:Int)<=(k:Int):=ω
     cases hk1:QD y with
     | false =>
      go_wp2_with (first|(go_at_call 163;refine(VU _ _ aB).z ?_;rw[hk1];rintro e d ⟨rfl,rfl⟩))
      go_ret;exact⟨PT (by rw[f.l];exact(dj p.l (mV hk1)).symm),aA.alloc aA.size _⟩
     | true =>
      cases hv1:PE t with
      | false =>
       skip
       go_wp2_with (first|(go_at_call 163;refine(VU _ _ aB).z ?_;rw[hk1];rintro e d ⟨rfl,rfl⟩)|(go_at_call 164;refine(YD _ _ l).z ?_;rw[hv1];rintro e d ⟨rfl,rfl⟩))
       go_ret;exact⟨PT (by rw[f.l];exact(dj p.l (pV hv1)).symm),aA.alloc aA.size _⟩
      | true =>
       skip
       cases u with
       | false =>
        go_wp2_with (first|(go_at_call 163;refine(VU _ _ aB).z ?_;rw[hk1];rintro e d ⟨rfl,rfl⟩)|(go_at_call 164;refine(YD _ _ l).z ?_;rw[hv1];rintro e d ⟨rfl,rfl⟩))
        go_roundw
        case rel=>exact⟨k+1,ω,ν,ms j i.l q.l (pG hk1 hv1),aA.alloc aA.size _⟩
        case measure=>simp[intOf];omega
       | true =>
        cases he:t.toList.isEmpty with
        | false =>
         go_wp2_with (first|(go_at_call 163;refine(VU _ _ aB).z ?_;rw[hk1];rintro e d ⟨rfl,rfl⟩)|(go_at_call 164;refine(YD _ _ l).z ?_;rw[hv1];rintro e d ⟨rfl,rfl⟩))
         go_ret;exact⟨PT (by rw[f.l];exact(dj p.l (wN he)).symm),aA.alloc aA.size _⟩
        | true =>
         go_wp2_with (first|(go_at_call 163;refine(VU _ _ aB).z ?_;rw[hk1];rintro e d ⟨rfl,rfl⟩)|(go_at_call 164;refine(YD _ _ l).z ?_;rw[hv1];rintro e d ⟨rfl,rfl⟩))
         go_roundw
         case rel=>exact⟨k+1,ω,ν,ms j i.l q.l (qU hk1 hv1 he),aA.alloc aA.size _⟩
         case measure=>simp[intOf];omega
    have b:Hid (∀s∈rs,PJ s=true):=by have:=i.l;rwa [AQ ω]at this
    clear i;go_wp2;go_ret;exact⟨PT (by rw[f.l];exact(ym ω b.l).symm),aA⟩
  go_enter func113,ntmps113
  go_wp2;go_ret;exact⟨PT (by rw[f.l];exact(fo ω).symm),AB _ _⟩
 go_enter func113,ntmps113
 go_wp2;go_ret;exact⟨PT (by rw[f.l];exact(fo ω).symm),AB _ _⟩
section
theorem ah(s:Y)(b:Bool)(w:Nb)(c:s.size<=1048576)(h:QD s=b):Calls prog 80 #[Mz s] w λe w'=>e=M3 (M0 b)/\w'=w:=by
 rw[<-h];exact dg s w c
def TG(a b:Y):Bool:=Op.bytesLess a.toList b.toList
def QT(rs:List (Y×Y))(i:Nat):Bool:=QD (rs.getD i (empty,empty)).1 && PE (rs.getD i (empty,empty)).2 && (decide (i=0) || TG (rs.getD (i-1) (empty,empty)).1 (rs.getD i (empty,empty)).1)
def MU(rs:List (Y×Y)):Bool:=decide (rs.length<=100) && (List.range rs.length).all (QT rs)
theorem vR(h:¬(rs.length<=100)):MU rs=false:=by simp[MU,h]
theorem XA{k:Nat}(b:k<rs.length)(h:QT rs k=false):MU rs=false:=by
 have:(List.range rs.length).all (QT rs)=false:=GE.2 ⟨k,GP.2 b,by simp[h]⟩;simp[MU,this]
theorem uy(h:rs.length<=100)(b:∀k,k<rs.length->QT rs k=true):MU rs=true:=by
 simp only[MU,AX,AT,EH];exact⟨h,λk c=>b k (GP.1 c)⟩
theorem ZH(h:MU rs=true):rs.length<=100/\∀k,k<rs.length->QT rs k=true:=by
 simp only[MU,AX,AT,EH]at h;exact⟨h.1,λk b=>h.2 k (GP.2 b)⟩
section
variable {rs:List (Y×Y)} {k j:Nat} {s0 s1 t0 t1:Y}
theorem ka(b:(s0,s1)=rs.getD k (empty,empty))(h:QD s0=false):QT rs k=false:=by unfold QT;rw[<-b];simp[h]
theorem ny(b:(s0,s1)=rs.getD k (empty,empty))(h:PE s1=false):QT rs k=false:=by unfold QT;rw[<-b];simp[h]
theorem vG(b:(s0,s1)=rs.getD k (empty,empty))(c:(t0,t1)=rs.getD j (empty,empty))(d:k=j+1)(h:Op.bytesLess t0.toList s0.toList=false):QT rs k=false:=by
 unfold QT TG;rw[<-b];subst d;rw[KC,<-c];simp[h]
theorem rI(c:(s0,s1)=rs.getD k (empty,empty))(d:k=0)(h:QD s0=true)(b:PE s1=true):QT rs k=true:=by subst d;unfold QT;rw[<-c];simp[h,b]
theorem rJ(d:(s0,s1)=rs.getD k (empty,empty))(f:(t0,t1)=rs.getD j (empty,empty))(i:k=j+1)(h:QD s0=true)(b:PE s1=true)(c:Op.bytesLess t0.toList s0.toList=true):QT rs k=true:=by
 unfold QT TG;rw[<-d];subst i;rw[KC,<-f];simp[h,b,c]
theorem jm(c:∀i,i<k->QT rs i=true)(h:QT rs k=true):∀i,i<k+1->QT rs i=true:=by
 intro i d;rcases GF i k with b|b
 ·exact c i b
 have:i=k:=ω
 subst this;exact h
end
theorem nk(a:M6)(rs:List (Y×Y))(c:Nat)(w:Nb)(h:Prs w a rs)(hl:rs.length<=1048576)(J:∀x∈rs,x.1.size<=1048576/\x.2.size<=1048576):Calls prog 43 #[.agg #[.slice a rs.length c]] w λe w'=>e=M3 (M0 (MU rs))/\Below w.heap.size w w':=by
 have aB:∀o,Below w.heap.size w (w.alloc o):=λo=>LO _ _
 obtain⟨R,f⟩:∃R,Hid (R=MU rs):=⟨_,Z rfl⟩;rw[<-f.l]
 by_cases hp:(rs.length:Int)<=100
 ·go_enter func43,ntmps43
  go_wp2;go_loopw [3] (λi wr=>∃k:Nat,k<=rs.length/\i=.int .i64 k/\Hid (∀i,i<k->QT rs i=true)/\Below (w.heap.size+1) (w.alloc (.cells #[.slice a rs.length c] 31)) wr) (λi _=>rs.length-(intOf i).toNat)
  case atStart=>exact⟨0,AM _,rfl,λi H=>ω,AB _ _⟩
  case round =>
   obtain⟨k,hk,rfl,t,aA⟩:=hrel;have y:Below w.heap.size w wr:=(aB _).j (aA.z ω);have K:wr.cell? ⟨w.heap.size,0,none⟩=some (.slice a rs.length c):=(aA.cell (p:=⟨w.heap.size,0,none⟩) (by show w.heap.size<_;omega)).j γ;have U:w.heap.size+1<=wr.heap.size:=by have:=aA.size;simpa using this
   by_cases q:k<rs.length
   ·obtain⟨b,o,p,d,rfl,N,O,l⟩:=(h.I y).at q
    have I:Hid ((p,d)∈rs):=by show _∈_;rw[l.l];simp[List.getD,q]
    obtain⟨s,W⟩:=J _ I.l;have M:(k:Int)<(rs.length:Int):=ω
    rcases GM k with z|z
    ·have B:decide ((0:Int)<(k:Int))=false:=τ
     have A:decide (0<k)=false:=τ
     have F:(0:Int)<=(k:Int):=ω
     have j:=Z z;clear z
     cases hk1:QD p with
     | false =>
      go_wp2_with fail;go_quiet ((go_at_call 80;exact Calls.quiet_of_same (ah _ _ _ s hk1)));go_wp2;go_ret;exact⟨PT (by rw[f.l];exact(XA q (ka l.l hk1)).symm),(aB _).j ((below_drewN aA _).z ω)⟩
     | true =>
      cases hv1:PE d with
      | false =>
       have u:decide (100<(d.size:Int))=true:=by simp[PE]at hv1;simp;omega
       go_wp2_with fail;go_quiet ((go_at_call 80;exact Calls.quiet_of_same (ah _ _ _ s hk1)));go_wp2;go_ret;exact⟨PT (by rw[f.l];exact(XA q (ny l.l hv1)).symm),(aB _).j ((below_drewN aA _).z ω)⟩
      | true =>
       have u:decide (100<(d.size:Int))=false:=by simp[PE]at hv1;simp;omega
       go_wp2_with fail;go_quiet ((go_at_call 80;exact Calls.quiet_of_same (ah _ _ _ s hk1)));go_wp2;go_roundw
       case rel=>exact⟨_,ω,ν,jm t.l (rI l.l j.l hk1 hv1),below_drewN aA _⟩
       case measure=>simp[intOf];omega
    obtain⟨j,u⟩:∃j,k=j+1:=⟨k-1,ω⟩
    have T:(k:Int)-1=(j:Int):=ω
    have Q:(0:Int)<=(j:Int):=ω
    have F:(0:Int)<=(k:Int):=ω
    have L:(0:Int)<(k:Int):=ω
    have V:IntKind.i64.wrap (j:Int)=(j:Int):=by simp[IntKind.wrap,IntKind.bits,IntKind.signed];omega
    have S:(j:Int)<(rs.length:Int):=ω
    obtain⟨X,o',A,t1,G,D,P,C⟩:=(h.I y).at (show j<rs.length by omega)
    cases G
    have B:=Z u;clear u
    have u:∀E,Below wr.heap.size wr (wr.alloc E):=λE=>LO _ _
    have E:b<wr.heap.size:=by have:=DM wr _ D;simpa using this
    have qa:=((u (.cells #[Mz p,Mz d] 103)).cell (p:=⟨w.heap.size,0,none⟩) (by show w.heap.size<_;omega)).j K;have qb:=((u (.cells #[Mz p,Mz d] 103)).cell (p:=⟨b,o+j*2,none⟩) E).j D;clear u E
    cases hk1:QD p with
    | false =>
     go_wp2_with fail;go_quiet ((go_at_call 80;exact Calls.quiet_of_same (ah _ _ _ s hk1)));go_wp2;go_ret;exact⟨PT (by rw[f.l];exact(XA q (ka l.l hk1)).symm),(aB _).j ((below_drewN aA _).z ω)⟩
    | true =>
     cases hv1:PE d with
     | false =>
      have u:decide (100<(d.size:Int))=true:=by simp[PE]at hv1;simp;omega
      go_wp2_with fail;go_quiet ((go_at_call 80;exact Calls.quiet_of_same (ah _ _ _ s hk1)));go_wp2;go_ret;exact⟨PT (by rw[f.l];exact(XA q (ny l.l hv1)).symm),(aB _).j ((below_drewN aA _).z ω)⟩
     | true =>
      have u:decide (100<(d.size:Int))=false:=by simp[PE]at hv1;simp;omega
      cases hlt3:Op.bytesLess A.toList p.toList with
      | false =>
       have E:(!Op.bytesLess A.toList p.toList)=true:=by simp[hlt3]
       go_wp2_with fail;go_quiet ((go_at_call 80;exact Calls.quiet_of_same (ah _ _ _ s hk1)));go_wp2;go_ret;exact⟨PT (by rw[f.l];exact(XA q (vG l.l C.l B.l hlt3)).symm),(aB _).j ((below_drewN aA _).z ω)⟩
      | true =>
       have E:(!Op.bytesLess A.toList p.toList)=false:=by simp[hlt3]
       go_wp2_with fail;go_quiet ((go_at_call 80;exact Calls.quiet_of_same (ah _ _ _ s hk1)));go_wp2;go_roundw
       case rel=>exact⟨_,ω,ν,jm t.l (rJ l.l C.l B.l hk1 hv1 hlt3),below_drewN aA _⟩
       case measure=>simp[intOf];omega
   have b:Hid (∀i,i<rs.length->QT rs i=true):=λi H=>t.l i ω
   clear t;go_wp2;go_ret;exact⟨PT (by rw[f.l];exact(uy ω b.l).symm),y⟩
 go_enter func43,ntmps43
 go_wp2;go_ret;exact⟨PT (by rw[f.l];exact(vR ω).symm),aB _⟩
theorem mu(a:M6)(rs:List (Y×Y))(c:Nat)(w:Nb)(h:Prs w a rs)(hl:rs.length<=1048576)(M:∀x∈rs,x.1.size<=1048576/\x.2.size<=1048576):Calls prog 112 #[.agg #[.slice a rs.length c]] w λe w'=>e=M3 (M0 (MU rs))/\Below w.heap.size w w':=by
 have aB:∀o,Below w.heap.size w (w.alloc o):=λo=>LO _ _
 obtain⟨R,l⟩:∃R,Hid (R=MU rs):=⟨_,Z rfl⟩;rw[<-l.l]
 by_cases hp:(rs.length:Int)<=100
 ·go_enter func112,ntmps112
  go_wp2;go_loopw [3,4,12] (λ_ _ i wr=>∃k:Nat,k<=rs.length/\i=.int .i64 k/\Hid (∀i,i<k->QT rs i=true)/\Below (w.heap.size+1) (w.alloc (.cells #[.slice a rs.length c] 31)) wr) (λ_ _ i _=>rs.length-(intOf i).toNat)
  case atStart=>exact⟨0,AM _,rfl,λi K=>ω,AB _ _⟩
  case round =>
   obtain⟨k,hk,rfl,z,aA⟩:=hrel;have A:Below w.heap.size w wr:=(aB _).j (aA.z ω);have N:wr.cell? ⟨w.heap.size,0,none⟩=some (.slice a rs.length c):=(aA.cell (p:=⟨w.heap.size,0,none⟩) (by show w.heap.size<_;omega)).j γ;have t:w.heap.size+1<=wr.heap.size:=by have:=aA.size;simpa using this
   by_cases s:k<rs.length
   ·obtain⟨b,o,q,f,rfl,Q,S,p⟩:=(h.I A).at s
    have L:Hid ((q,f)∈rs):=by show _∈_;rw[p.l];simp[List.getD,s]
    obtain⟨u,y⟩:=M _ L.l;have P:(k:Int)<(rs.length:Int):=ω
    rcases GM k with B|B
    ·have E:decide ((0:Int)<(k:Int))=false:=τ
     have D:decide (0<k)=false:=τ
     have H:(0:Int)<=(k:Int):=ω
     have j:=Z B;clear B
     cases hk1:QD q with
     | false =>
      go_wp2_with (first|(go_at_call 163;refine(VU _ _ u).z ?_;rw[hk1];rintro e d ⟨rfl,rfl⟩))
      go_ret;exact⟨PT (by rw[l.l];exact(XA s (ka p.l hk1)).symm),(aB _).j ((aA.alloc t _).z ω)⟩
     | true =>
      cases hv1:PE f with
      | false =>
       have C:decide (100<(f.size:Int))=true:=by simp[PE]at hv1;simp;omega
       go_wp2_with (first|(go_at_call 163;refine(VU _ _ u).z ?_;rw[hk1];rintro e d ⟨rfl,rfl⟩)|(go_at_call 164;refine(YD _ _ y).z ?_;rw[hv1];rintro e d ⟨rfl,rfl⟩))
       go_ret;exact⟨PT (by rw[l.l];exact(XA s (ny p.l hv1)).symm),(aB _).j ((aA.alloc t _).z ω)⟩
      | true =>
       have C:decide (100<(f.size:Int))=false:=by simp[PE]at hv1;simp;omega
       go_wp2_with (first|(go_at_call 163;refine(VU _ _ u).z ?_;rw[hk1];rintro e d ⟨rfl,rfl⟩)|(go_at_call 164;refine(YD _ _ y).z ?_;rw[hv1];rintro e d ⟨rfl,rfl⟩))
       go_quiet (fail);go_wp2;go_roundw
       case rel=>exact⟨_,ω,ν,jm z.l (rI p.l j.l hk1 hv1),below_drewN (aA.alloc t _) _⟩
       case measure=>simp[intOf];omega
    obtain⟨j,d⟩:∃j,k=j+1:=⟨k-1,ω⟩
    have W:(k:Int)-1=(j:Int):=ω
    have U:(0:Int)<=(j:Int):=ω
    have H:(0:Int)<=(k:Int):=ω
    have O:(0:Int)<(k:Int):=ω
    have X:IntKind.i64.wrap (j:Int)=(j:Int):=by simp[IntKind.wrap,IntKind.bits,IntKind.signed];omega
    have V:(j:Int)<(rs.length:Int):=ω
    obtain⟨b',o',D,t1,J,G,T,F⟩:=(h.I A).at (show j<rs.length by omega)
    cases J
    have E:=Z d;clear d
    have d:∀C,Below wr.heap.size wr (wr.alloc C):=λC=>LO _ _
    have C:b<wr.heap.size:=by have:=DM wr _ G;simpa using this
    have qa:=((d (.cells #[Mz q,Mz f] 103)).cell (p:=⟨w.heap.size,0,none⟩) (by show w.heap.size<_;omega)).j N;have qb:=((d (.cells #[Mz q,Mz f] 103)).cell (p:=⟨b,o+j*2,none⟩) C).j G;clear d C
    cases hk1:QD q with
    | false =>
     go_wp2_with (first|(go_at_call 163;refine(VU _ _ u).z ?_;rw[hk1];rintro e d ⟨rfl,rfl⟩))
     go_ret;exact⟨PT (by rw[l.l];exact(XA s (ka p.l hk1)).symm),(aB _).j ((aA.alloc t _).z ω)⟩
    | true =>
     cases hv1:PE f with
     | false =>
      have C:decide (100<(f.size:Int))=true:=by simp[PE]at hv1;simp;omega
      go_wp2_with (first|(go_at_call 163;refine(VU _ _ u).z ?_;rw[hk1];rintro e d ⟨rfl,rfl⟩)|(go_at_call 164;refine(YD _ _ y).z ?_;rw[hv1];rintro e d ⟨rfl,rfl⟩))
      go_ret;exact⟨PT (by rw[l.l];exact(XA s (ny p.l hv1)).symm),(aB _).j ((aA.alloc t _).z ω)⟩
     | true =>
      have C:decide (100<(f.size:Int))=false:=by simp[PE]at hv1;simp;omega
      cases hlt3:Op.bytesLess D.toList q.toList with
      | false =>
       have I:(!Op.bytesLess D.toList q.toList)=true:=by simp[hlt3]
       go_wp2_with (first|(go_at_call 163;refine(VU _ _ u).z ?_;rw[hk1];rintro e d ⟨rfl,rfl⟩)|(go_at_call 164;refine(YD _ _ y).z ?_;rw[hv1];rintro e d ⟨rfl,rfl⟩))
       go_quiet (fail);go_wp2;go_ret;exact⟨PT (by rw[l.l];exact(XA s (vG p.l F.l E.l hlt3)).symm),(aB _).j ((below_drewN (aA.alloc t _) _).z ω)⟩
      | true =>
       have I:(!Op.bytesLess D.toList q.toList)=false:=by simp[hlt3]
       go_wp2_with (first|(go_at_call 163;refine(VU _ _ u).z ?_;rw[hk1];rintro e d ⟨rfl,rfl⟩)|(go_at_call 164;refine(YD _ _ y).z ?_;rw[hv1];rintro e d ⟨rfl,rfl⟩))
       go_quiet (fail);go_wp2;go_roundw
       case rel=>exact⟨_,ω,ν,jm z.l (rJ p.l F.l E.l hk1 hv1 hlt3),below_drewN (aA.alloc t _) _⟩
       case measure=>simp[intOf];omega
   have b:Hid (∀i,i<rs.length->QT rs i=true):=λi K=>z.l i ω
   clear z;go_wp2;go_ret;exact⟨PT (by rw[l.l];exact(uy ω b.l).symm),A⟩
 go_enter func112,ntmps112
 go_wp2;go_ret;exact⟨PT (by rw[l.l];exact(vR ω).symm),aB _⟩
end
section
theorem NC(h:w.ownsRow base e size v n xs)(l:Below w.heap.size w w'):w'.ownsRow base e size v n xs:=by
 refine⟨h.1,?_⟩;rcases h.2 with d|⟨g,cap,b,f,i,c,j⟩
 ·exact .inl d
 refine .inr ⟨g,cap,b,f,i,?_,j⟩
 have aA:g<w.heap.size:=by
  rcases GF g w.heap.size with h|h
  ·exact h
  rw[DU h]at c;cases c
 rw[l.block g aA];exact c
theorem TE(h:w.ownsRow base e size (.slice (Mw g 0) n cap) n xs):Row w g xs:=by
 have j:=(h.lt g rfl).2;refine⟨j,λi v hv=>?_,λi o=>?_⟩
 ·have:=h.cells (g:=g) rfl i v hv
  have b:(⟨g,0,none⟩:Addr).add i=⟨g,i,none⟩:=by unfold Addr.add;split<;>simp_all
  rwa [b]at this
 rcases h.2 with ⟨f,_⟩|⟨l,aA,d,b,_,c,_⟩
 ·cases f
 simp at b
 rw[<-b.1]at c;simp[World.frozen?,c]
theorem oq{t:TypeId}{s:Nat}{c:Nat}(h:w.ownsRow base t s (.slice a n c) m xs):m<=c:=by
 rcases h.2 with ⟨b,f⟩|⟨g,cap,d,b,_,_,f,_⟩
 ·omega
 injection b with _ _ e;omega
theorem NU(h:w.ownsRow base e size v n xs):(v=.slice none 0 0/\n=0)\/∃g cap,v=.slice (Mw g 0) n cap/\base<=g/\g<w.heap.size/\Row w g xs:=by
 rcases h.2 with c|⟨g,cap,b,d,f,i,j⟩
 ·exact .inl c
 subst d
 exact .inr ⟨g,cap,rfl,f,(h.lt g rfl).2,TE h⟩
structure Dsk(W w:Nb)(R D base:Nat)(e e':TypeId)(v v':Nc)(ss:List Y)(ws:List (Int×Y)):Prop where
 hR:W.heap.size<=R
 hR':R<base
 hD:W.heap.size<=D
 hD':D<base
 ne:R≠D
 sz:base<=w.heap.size
 bel:Below W.heap.size W w
 r0:w.cell? ⟨R,0,none⟩=some (.slice none 0 0)
 r1:w.cell? ⟨R,1,none⟩=some (.slice none 0 0)
 fr0:w.frozen? ⟨R,0,none⟩=false
 fr1:w.frozen? ⟨R,1,none⟩=false
 d0:w.cell? ⟨D,0,none⟩=some v
 d1:w.cell? ⟨D,1,none⟩=some v'
 fd0:w.frozen? ⟨D,0,none⟩=false
 fd1:w.frozen? ⟨D,1,none⟩=false
 own:w.ownsRow base e 1 v ss.length (ss.map Value.string)
 own':w.ownsRow base e' 2 v' ws.length (NP ws)
 apart:v.ownBlock=none\/v'.ownBlock=none\/v.ownBlock≠v'.ownBlock
section
variable {W w w':Nb} {R D base:Nat} {e e':TypeId} {v v':Nc} {ss:List Y} {ws:List (Int×Y)}
theorem Dsk.I(h:Dsk W w R D base e e' v v' ss ws)(b:Below w.heap.size w w'):Dsk W w' R D base e e' v v' ss ws :=have d:R<w.heap.size:=AD h.hR' h.sz;have c:D<w.heap.size:=AD h.hD' h.sz;have f:W.heap.size<=w.heap.size:=h.bel.size
 ⟨h.hR,h.hR',h.hD,h.hD',h.ne,AK h.sz b.size,h.bel.j (b.z f),(b.cell (p:=⟨R,0,none⟩) d).j h.r0,(b.cell (p:=⟨R,1,none⟩) d).j h.r1,(b.frozen (p:=⟨R,0,none⟩) d).j h.fr0,(b.frozen (p:=⟨R,1,none⟩) d).j h.fr1,
  (b.cell (p:=⟨D,0,none⟩) c).j h.d0,(b.cell (p:=⟨D,1,none⟩) c).j h.d1,(b.frozen (p:=⟨D,0,none⟩) c).j h.fd0,(b.frozen (p:=⟨D,1,none⟩) c).j h.fd1,NC h.own b,NC h.own' b,h.apart⟩
theorem Dsk.drew(h:Dsk W w R D base e e' v v' ss ws):Dsk W w.drew R D base e e' v v' ss ws:=h.I ((AB _ _).drew)
theorem Dsk.alloc(h:Dsk W w R D base e e' v v' ss ws)(o:Obj):Dsk W (w.alloc o) R D base e e' v v' ss ws:=h.I (LO _ _)
theorem Dsk.push(h:Dsk W w R D base e e' v v' ss ws){H:Nat}{s:Y}(aA:w1.ownsRow base e 1 (.slice (Mw g 0) (ss.length+1) cap) (ss.length+1) (ss.map Value.string++[Mz s]))(c:w.grownBy w1 v.ownBlock)(y:v.ownBlock=some g\/g=H)(E:w.heap.size=H):Dsk W (w1.setCell ⟨D,0,none⟩ (.slice (Mw g 0) (ss.length+1) cap)) R D base e e' (.slice (Mw g 0) (ss.length+1) cap) v' (ss++[s]) ws:=by
 have u:R<w.heap.size:=AD h.hR' h.sz;have t:D<w.heap.size:=AD h.hD' h.sz;have F:W.heap.size<=w.heap.size:=h.bel.size
 have j:∀k,k<base->some k≠v.ownBlock:=λk b d=>by have:=(h.own.lt k d.symm).1;omega
 have o:∀i,w1.cell? ⟨R,i,none⟩=w.cell? ⟨R,i,none⟩:=λi=>c.cell_far ⟨R,i,none⟩ u (j R h.hR')
 have l:∀i,w1.cell? ⟨D,i,none⟩=w.cell? ⟨D,i,none⟩:=λi=>c.cell_far ⟨D,i,none⟩ t (j D h.hD')
 have q:∀i,w1.frozen? ⟨R,i,none⟩=w.frozen? ⟨R,i,none⟩:=λi=>c.frozen_far ⟨R,i,none⟩ u (j R h.hR')
 have p:∀i,w1.frozen? ⟨D,i,none⟩=w.frozen? ⟨D,i,none⟩:=λi=>c.frozen_far ⟨D,i,none⟩ t (j D h.hD')
 have C:base<=g:=(aA.lt g rfl).1;have aB:Below W.heap.size W w1:=h.bel.j ⟨c.os,c.tape,c.output,c.size,λk b=>c.block k ω (j k (by have:=h.hR;have:=h.hR';omega))⟩
 have A:v'.ownBlock=none\/(Value.slice (Mw g 0) (ss.length+1) cap).ownBlock≠v'.ownBlock:=by
  cases hv':v'.ownBlock with
  | none=>exact .inl rfl
  | some i =>
   refine .inr λd=>?_
   have z:g=i:=by simpa[Value.ownBlock] using d
   have B:=(h.own'.lt i hv').2;rcases y with f|f
   ·rcases h.apart with b|b|b
    ·rw[f]at b;cases b
    ·rw[hv']at b;cases b
    rw[f,hv',z]at b;exact b rfl
   omega
 refine⟨h.hR,h.hR',h.hD,h.hD',h.ne,?_,aB.setCell h.hD _,?_,?_,?_,?_,?_,?_,?_,?_,?_,?_,?_⟩
 ·have:=c.size;have:=h.sz;simp only[BH];omega
 ·rw[CZ (w:=w1) (h:=show(⟨D,0,none⟩:Addr)≠⟨R,0,none⟩ fromλd=>h.ne (by injection d with f;exact f.symm)),o];exact h.r0
 ·rw[CZ (w:=w1) (h:=show(⟨D,0,none⟩:Addr)≠⟨R,1,none⟩ fromλd=>h.ne (by injection d with f;exact f.symm)),o];exact h.r1
 ·rw[BS,q];exact h.fr0
 ·rw[BS,q];exact h.fr1
 ·exact FK w1 _ _ ((l 0).j h.d0)
 ·rw[CZ (w:=w1) (h:=show(⟨D,0,none⟩:Addr)≠⟨D,1,none⟩ by simp),l];exact h.d1
 ·rw[BS,p];exact h.fd0
 ·rw[BS,p];exact h.fd1
 ·have:=EA aA (a:=⟨D,0,none⟩) h.hD' (.slice (Mw g 0) (ss.length+1) cap)
  simpa using this
 ·have f:w1.ownsRow base e' 2 v' ws.length (NP ws):=h.own'.kept c (by
   rcases h.apart with b|b|b
   ·cases hv':v'.ownBlock with
    | none=>exact .inl rfl
    | some _=>rw[b];exact .inr σ
   ·exact .inl b
   ·exact .inr (λd=>b d.symm))
  exact EA f (a:=⟨D,0,none⟩) h.hD' _
 exact .inr A
theorem Dsk.push2(h:Dsk W w R D base e e' v v' ss ws){H:Nat}{x:Int×Y}(aA:w1.ownsRow base e' 2 (.slice (Mw g 0) (ws.length+1) cap) (ws.length+1) (NP ws++[.int .i64 x.1,Mz x.2]))(d:w.grownBy w1 v'.ownBlock)(u:v'.ownBlock=some g\/g=H)(C:w.heap.size=H):Dsk W (w1.setCell ⟨D,1,none⟩ (.slice (Mw g 0) (ws.length+1) cap)) R D base e e' v (.slice (Mw g 0) (ws.length+1) cap) ss (ws++[x]):=by
 have t:R<w.heap.size:=AD h.hR' h.sz;have s:D<w.heap.size:=AD h.hD' h.sz;have E:W.heap.size<=w.heap.size:=h.bel.size
 have j:∀k,k<base->some k≠v'.ownBlock:=λk b f=>by have:=(h.own'.lt k f.symm).1;omega
 have o:∀i,w1.cell? ⟨R,i,none⟩=w.cell? ⟨R,i,none⟩:=λi=>d.cell_far ⟨R,i,none⟩ t (j R h.hR')
 have l:∀i,w1.cell? ⟨D,i,none⟩=w.cell? ⟨D,i,none⟩:=λi=>d.cell_far ⟨D,i,none⟩ s (j D h.hD')
 have q:∀i,w1.frozen? ⟨R,i,none⟩=w.frozen? ⟨R,i,none⟩:=λi=>d.frozen_far ⟨R,i,none⟩ t (j R h.hR')
 have p:∀i,w1.frozen? ⟨D,i,none⟩=w.frozen? ⟨D,i,none⟩:=λi=>d.frozen_far ⟨D,i,none⟩ s (j D h.hD')
 have B:base<=g:=(aA.lt g rfl).1;have aB:Below W.heap.size W w1:=h.bel.j ⟨d.os,d.tape,d.output,d.size,λk b=>d.block k ω (j k (by have:=h.hR;have:=h.hR';omega))⟩
 have z:v.ownBlock=none\/v.ownBlock≠(Value.slice (Mw g 0) (ws.length+1) cap).ownBlock:=by
  cases hv:v.ownBlock with
  | none=>exact .inl rfl
  | some i =>
   refine .inr λf=>?_
   have y:i=g:=by simpa[Value.ownBlock] using f
   have A:=(h.own.lt i hv).2;rcases u with c|c
   ·rcases h.apart with b|b|b
    ·rw[hv]at b;cases b
    ·rw[c]at b;cases b
    rw[c,hv,y]at b;exact b rfl
   omega
 refine⟨h.hR,h.hR',h.hD,h.hD',h.ne,?_,aB.setCell h.hD _,?_,?_,?_,?_,?_,?_,?_,?_,?_,?_,?_⟩
 ·have:=d.size;have:=h.sz;simp only[BH];omega
 ·rw[CZ (w:=w1) (h:=show(⟨D,1,none⟩:Addr)≠⟨R,0,none⟩ fromλf=>h.ne (by injection f with c;exact c.symm)),o];exact h.r0
 ·rw[CZ (w:=w1) (h:=show(⟨D,1,none⟩:Addr)≠⟨R,1,none⟩ fromλf=>h.ne (by injection f with c;exact c.symm)),o];exact h.r1
 ·rw[BS,q];exact h.fr0
 ·rw[BS,q];exact h.fr1
 ·rw[CZ (w:=w1) (h:=show(⟨D,1,none⟩:Addr)≠⟨D,0,none⟩ by simp),l];exact h.d0
 ·exact FK w1 _ _ ((l 1).j h.d1)
 ·rw[BS,p];exact h.fd0
 ·rw[BS,p];exact h.fd1
 ·have c:w1.ownsRow base e 1 v ss.length (ss.map Value.string):=h.own.kept d (by
   rcases h.apart with b|b|b
   ·exact .inl b
   ·cases hv:v.ownBlock with
    | none=>exact .inl rfl
    | some _=>rw[b];exact .inr σ
   ·exact .inr b)
  exact EA c (a:=⟨D,1,none⟩) h.hD' _
 ·have:=EA aA (a:=⟨D,1,none⟩) h.hD' (.slice (Mw g 0) (ws.length+1) cap)
  rw[AF,yY];exact this
 rcases z with c|c
 ·exact .inl c
 exact .inr (.inr c)
theorem Dsk.J(h:Dsk W w R D base e e' v v' ss ws)(b:w.grownBy w1 v.ownBlock):w1.cell? ⟨D,0,none⟩=some v/\w1.frozen? ⟨D,0,none⟩=false:=by
 have c:D<w.heap.size:=AD h.hD' h.sz
 have d:some D≠v.ownBlock:=λf=>by have:=(h.own.lt D f.symm).1;have:=h.hD';omega
 exact⟨(b.cell_far ⟨D,0,none⟩ c d).j h.d0,(b.frozen_far ⟨D,0,none⟩ c d).j h.fd0⟩
theorem Dsk.grown2(h:Dsk W w R D base e e' v v' ss ws)(b:w.grownBy w1 v'.ownBlock):w1.cell? ⟨D,1,none⟩=some v'/\w1.frozen? ⟨D,1,none⟩=false:=by
 have c:D<w.heap.size:=AD h.hD' h.sz
 have d:some D≠v'.ownBlock:=λf=>by have:=(h.own'.lt D f.symm).1;have:=h.hD';omega
 exact⟨(b.cell_far ⟨D,1,none⟩ c d).j h.d1,(b.frozen_far ⟨D,1,none⟩ c d).j h.fd1⟩
end
end
def NV(x:Y×Y×Bool):List Int:=if x.2.2 then [1]++([(x.1.size:Int)]++LI x.1) else [0]++([(x.1.size:Int)]++LI x.1)++([(x.2.1.size:Int)]++LI x.2.1)
def SC(rs:List (Y×Y×Bool)):Y:=strOfNums (rs.flatMap NV)
theorem Ji:SC []=empty:=rfl
theorem Bf(k v:Y):strOfNums [0]++(strOfNums [(k.size:Int)]++k)++(strOfNums [(v.size:Int)]++v)=strOfNums (NV (k,v,false)):=by
 show _=strOfNums ([0]++([(k.size:Int)]++LI k)++([(v.size:Int)]++LI v));rw[UJ,UJ,UJ,UJ,TM,TM]
theorem Ec(k v:Y):strOfNums [1]++(strOfNums [(k.size:Int)]++k)=strOfNums (NV (k,v,true)):=by
 show _=strOfNums ([1]++([(k.size:Int)]++LI k));rw[UJ,UJ,TM]
theorem Do(rs:List (Y×Y×Bool))(k:Nat)(x:Y×Y×Bool)(d:Y×Y×Bool)(h:k<rs.length)(b:x=rs.getD k d):SC (rs.take (k+1))=SC (rs.take k)++strOfNums (NV x):=by
 unfold SC;rw[AY h,List.flatMap_append,UJ];simp[List.getD,h]at b;rw[b];simp
theorem lT(x:Y×Y×Bool)(h:PJ x=true):(strOfNums (NV x)).size<=123:=by
 rw[CJ];unfold PJ QD PE at h;simp only[AX,AT]at h;unfold NV
 split
 ·simp[NH];omega
 simp[NH];omega
theorem rn(rs:List (Y×Y×Bool))(h:∀x∈rs,PJ x=true):(SC rs).size<=123*rs.length:=by
 induction rs with
 | nil=>simp[Ji]
 | cons x r c =>
  have d:=c (λy b=>h y (DO _ b));have b:=lT x (h x (EE));have e:SC (x::r)=strOfNums (NV x)++SC r:=by unfold SC;rw[GQ,UJ]
  rw[e,BN,CY];omega
def LT(rs:List (Y×Y×Bool)):Y:=if PA rs=true then SC rs else empty
abbrev Ch:=Y×Y×Bool
def b0(r:Y):Nat:=(r.data.toList.getD 0 0).toNat
theorem jq(r:Y):b0 r<=255:=by unfold b0;have:=IA (r.data.toList.getD 0 0);omega
theorem ie(r:Y)(a b:Nat):LI (r.extract a b)=((LI r).drop a).take (b-a):=by
 unfold LI;rw[EY,JT,List.extract_eq_take_drop,IL,KP]
theorem gi(r:Y)(h:0<r.size):LI r=(b0 r:Int)::(LI r).drop 1:=by
 have b:0<r.data.toList.length:=h;unfold LI b0
 match r.data.toList,b with
 | x::l,_=>simp
theorem nj{r s:Y}(h:LI r=LI s):r=s:=by rw[<-TM r,h,TM]
theorem yI:LI empty=[]:=rfl
theorem gq(r:Y):∀y∈LI r,0<=y/\y<=255:=by
 intro y b;unfold LI at b;obtain⟨c,_,rfl⟩:=DS.1 b;have:=IA c;omega
theorem ZA:∀(xs:List Int),(∀y∈xs,0<=y/\y<=255)->LI (strOfNums xs)=xs
 | [],_=>rfl
 | x::l,h=>by
  have ih:=ZA l (λy hy=>h y (DO _ hy));have hx:=h x (EE);simp only[LI,strOfNums]at ih⊢;simp only[IK,IE,List.toList_toArray]at ih⊢;simp[List.map_eq_map_iff]at ih⊢
  constructor
  ·omega
  exact ih
def pc(r:Y):Option (Y×Y):=if 1<=r.size/\1+b0 r<=r.size then some (r.extract 1 (1+b0 r),r.extract (1+b0 r) r.size) else none
theorem ua{r m:Y}(h:pc r=some (k,m)):LI r=[(k.size:Int)]++LI k++LI m/\k.size<=255:=by
 unfold pc at h
 split at h
 ·rename_i j
  simp only[BP,BV]at h;obtain⟨rfl,rfl⟩:=h;have b:(r.extract 1 (1+b0 r)).size=b0 r:=by simp only[AO];omega
  refine⟨?_,by rw[b];exact jq r⟩;rw[b,ie,ie];have i:=gi r ω;have c:r.size-(1+b0 r)=(LI r).length-(1+b0 r):=by rw[NH]
  rw[c,<-CU,CW];have d:1+b0 r-1=b0 r:=ω
  rw[d];have f:(LI r).drop (1+b0 r)=((LI r).drop 1).drop (b0 r):=by rw[FU]
  rw[f,BT,FN];exact i
 cases h
def RM(r:Y):Option (Ch×Y) :=match pc (r.extract 1 r.size) with
 | none=>none
 | some (k,m)=>if b0 r=1 then some ((k,empty,true),m) else
  match pc m with
  | none=>none
  | some (v,m')=>some ((k,v,false),m')
theorem uK(r:Y):LI (r.extract 1 r.size)=(LI r).drop 1:=by
 rw[ie];have b:r.size-1=((LI r).drop 1).length:=by rw[CU,NH]
 rw[b,CW]
theorem qP{r j:Y}{c:Ch}(s:0<r.size)(h:RM r=some (c,j)):c.1.size<=255/\c.2.1.size<=255/\∃t,NV c++LI j=(if b0 r=1 then 1 else 0)::t/\LI r=(b0 r:Int)::t:=by
 unfold RM at h
 split at h
 ·cases h
 rename_i k m p
 obtain⟨b,f⟩:=ua p;rw[uK]at b;have i:=gi r s
 split at h
 ·rename_i d
  simp only[BP,BV]at h;obtain⟨rfl,rfl⟩:=h;refine⟨f,σ,_,?_,i⟩;rw[b,AE d];simp[NV]
 rename_i d
 split at h
 ·cases h
 rename_i v u q
 obtain⟨l,o⟩:=ua q;simp only[BP,BV]at h;obtain⟨rfl,rfl⟩:=h;refine⟨f,o,_,?_,i⟩;rw[b,l,AG d];simp[NV]
def run:Nat->Y->List Ch->Option (List Ch×Y)
 | 0,r,o=>some (o,r)
 | n+1,r,o=>if r.size=0 then some (o,r) else
  match RM r with
  | none=>none
  | some (c,r')=>run n r' (o++[c])
def SY:Nat->Y->List Ch->Option (List Ch×Y)
 | 0,r,o=>some (o,r)
 | n+1,r,o=>if r.size=0 then some (o,r) else if 1<b0 r then none else
  match RM r with
  | none=>none
  | some (c,r')=>SY n r' (o++[c])
theorem mH(n:Nat)(o:List Ch)(r:Y)(h:r.size=0):run n r o=some (o,r):=by cases n<;>simp[run,h]
theorem oJ:∀(n:Nat) (r:Y) (o f:List Ch) (b:Y),run n r o=some (f,b) ->
  ∃l,f=o++l/\(∀x∈l,x.1.size<=255/\x.2.1.size<=255)/\(b.size=0\/l.length=n) /\
   ((SY n r o=some (f,b)/\l.flatMap NV++LI b=LI r)\/(SY n r o=none/\∀z,l.flatMap NV++z≠LI r))
 | 0,r,o,f,b,h=>by
  simp only[run,BP,BV]at h;obtain⟨rfl,rfl⟩:=h;exact⟨[],σ,σ,.inr rfl,.inl ⟨rfl,σ⟩⟩
 | n+1,r,o,f,b,h=>by
  by_cases d:r.size=0
  ·rw[run,AE d]at h
   simp only[BP,BV]at h;obtain⟨rfl,rfl⟩:=h;exact⟨[],σ,σ,.inl d,.inl ⟨by rw[SY,AE d],σ⟩⟩
  rw[run,AG d]at h
  cases hs:RM r with
  | none=>rw[hs]at h;cases h
  | some p =>
   obtain⟨c,A⟩:=p;rw[hs]at h;obtain⟨J,K,t,k3,D⟩:=qP ω hs;obtain⟨l,E,F,i,j⟩:=oJ n A (o++[c]) f b h;refine⟨c::l,by rw[E];simp,λx y=>?_,?_,?_⟩
   ·rcases DY.1 y with rfl|y
    ·exact⟨J,K⟩
    exact F x y
   ·rcases i with i|i
    ·exact .inl i
    exact .inr (by simp[i])
   by_cases B:1<b0 r
   ·refine .inr ⟨by rw[SY,AG d,AE B],λz aA=>?_⟩
    have q:¬b0 r=1:=ω
    rw[AG q]at k3
    have H:∃u,NV c=0::u:=by
     have:c.2.2=false:=by
      unfold RM at hs
      split at hs
      ·cases hs
      rw[AG q]at hs
      split at hs
      ·cases hs
      simp only[BP,BV]at hs
      rw[<-hs.1]
     exact⟨_,by unfold NV;rw[this];rfl⟩
    obtain⟨u,I⟩:=H;rw[GQ,I,D]at aA;simp at aA;omega
   have C:LI r=NV c++LI A:=by
    rw[k3,D]
    split
    ·rename_i G;rw[G];rfl
    have:b0 r=0:=ω
    rw[this];rfl
   have aB:SY (n+1) r o=SY n A (o++[c]):=by rw[SY,AG d,AG B,hs]
   rcases j with ⟨j,s⟩|⟨j,s⟩
   ·refine .inl ⟨aB.j j,?_⟩
    rw[GQ,BT,s,C]
   refine .inr ⟨aB.j j,λz aA=>s z ?_⟩
   rw[GQ,BT,C]at aA;exact List.append_cancel_left aA
theorem ce:∀(n:Nat) (r:Y) (o:List Ch),run n r o=none->SY n r o=none
 | 0,r,o,h=>by simp[run]at h
 | n+1,r,o,h=>by
  by_cases hz:r.size=0
  ·rw[run,AE hz]at h;cases h
  rw[run,AG hz]at h
  rw[SY,AG hz]
  split
  ·rfl
  cases hs:RM r with
  | none=>rfl
  | some p =>
   obtain⟨c,r1⟩:=p;rw[hs]at h;exact ce n r1 _ h
theorem qR(x:Ch)(c:x.1.size<=255)(d:x.2.1.size<=255):∀y∈NV x,0<=y/\y<=255:=by
 intro y b;unfold NV at b
 split at b
 ·simp only[BJ,DY,EJ,GV]at b
  rcases b with rfl|rfl|b
  ·omega
  ·omega
  exact gq _ y b
 simp only[BJ,DY,EJ,GV]at b
 rcases b with (rfl|rfl|b)|rfl|b
 ·omega
 ·omega
 ·exact gq _ y b
 ·omega
 exact gq _ y b
def SX(s:Y):Option (List Ch):=match run 21 s [] with|none=>none|some (o,_)=>if s.size≠0/\LT o=s then some o else none
def YO(s:Y):Option (List Ch):=match SY 21 s [] with|none=>none|some (o,_)=>if PA o=true then some o else none
theorem pL(s:Y):YO s=SX s:=by
 unfold YO SX
 cases hr:run 21 s [] with
 | none=>rw[ce _ _ _ hr]
 | some p =>
  obtain⟨o,r⟩:=p;obtain⟨l,j,q,i,d⟩:=oJ 21 s [] o r hr;rw[DW]at j;subst j
  have aB:∀y∈o.flatMap NV,0<=y/\y<=255:=by
   intro y b;obtain⟨x,c,b⟩:=IU.1 b;exact qR x (q x c).1 (q x c).2 y b
  have t:SC o=s->o.flatMap NV=LI s:=λh=>by rw[<-h];exact(ZA _ aB).symm
  rcases d with ⟨d,b⟩|⟨d,b⟩
  ·rw[d]
   simp only
   by_cases aA:PA o=true
   ·have h:r.size=0:=by
     rcases i with i|i
     ·exact i
     have:=(WR aA).1;omega
    have c:LI r=[]:=AC (by rw[NH];exact h);rw[c,DZ]at b
    have A:LT o=s:=by
     unfold LT;rw[AE aA]
     apply nj
     rw[<-b];exact ZA _ aB
    have u:s.size≠0:=by
     intro z;have f:LI s=[]:=AC (by rw[NH];exact z);rw[f]at b
     match o,(WR aA).1 with
     | x::o',_ =>
      simp only[GQ,List.append_eq_nil_iff]at b;have:=b.1;unfold NV at this
      split at this<;>simp at this
    rw[AE aA,AE ⟨u,A⟩]
   have h:LT o=empty:=by unfold LT;rw[AG aA]
   rw[AG aA,AG];rintro⟨f,c⟩;rw[h]at c;rw[<-c]at f;exact f rfl
  rw[d]
  simp only;rw[AG];rintro⟨f,c⟩;unfold LT at c
  split at c
  ·have:=t c
   exact b [] (by rw[DZ];exact this)
  rw[<-c]at f
  exact f rfl
abbrev Pr:=Y×Y
abbrev PK:Nc:=.slice none 0 0
def VF(p:Pr):Ch:=(p.1,p.2,false)
def PC(rs:List Pr)(k:Nat):List Ch:=((rs.drop (k*20)).take 20).map VF
def TL(rs:List Pr)(i:Nat):List (List Ch):=(List.range ((i+19) / 20)).map (PC (rs.take i))
def MD(rs:List Pr):List (List Ch):=if MU rs=true then TL rs rs.length else []
theorem I1(rs:List Pr)(i:Nat):(TL rs i).length=(i+19) / 20:=by simp[TL]
theorem uW(rs:List Pr)(i k:Nat)(b:i<rs.length)(c:k*20+20<=i):PC (rs.take (i+1)) k=PC (rs.take i) k:=by
 unfold PC
 congr 1
 rw[FV,FV,GU,GU]
 congr 1
 omega
theorem vM(rs:List Pr)(i k:Nat)(b:i<rs.length)(c:k*20<=i)(f:i<k*20+20)(d:Pr):PC (rs.take (i+1)) k=PC (rs.take i) k++[VF (rs.getD i d)]:=by
 unfold PC;rw[FV,FV,GU,GU,Nat.min_eq_right ω,Nat.min_eq_right ω];rw[show i+1-k*20=(i-k*20)+1 by omega,List.take_add_one,DK]
 congr 1
 rw[FQ,show k*20+(i-k*20)=i by omega];simp[List.getD,b]
theorem Ag(rs:List Pr)(i:Nat)(b:i<rs.length)(h:i % 20=0)(d:Pr):TL rs (i+1)=TL rs i++[[VF (rs.getD i d)]]:=by
 unfold TL;rw[show(i+1+19) / 20=(i+19) / 20+1 by omega,FT,DK]
 have c:PC (rs.take i) (i / 20)=[]:=by
  unfold PC;rw[List.drop_eq_nil_of_le (by rw[AP];omega)];rfl
 congr 1
 ·exact IX λk f=>uW rs i k b (by simp at f;omega)
 have f:(i+19) / 20=i / 20:=ω
 rw[f,List.map_singleton,vM rs i (i / 20) b ω ω d,c];rfl
theorem Fz(rs:List Pr)(i:Nat)(c:i<rs.length)(h:i % 20≠0)(d:Pr):∃aA b,TL rs i=aA++[b]/\TL rs (i+1)=aA++[b++[VF (rs.getD i d)]]/\b.length<=20:=by
 refine⟨(List.range (i / 20)).map (PC (rs.take i)),PC (rs.take i) (i / 20),?_,?_,?_⟩
 ·unfold TL
  rw[show(i+19) / 20=i / 20+1 by omega,FT,DK];rfl
 ·unfold TL
  rw[show(i+1+19) / 20=i / 20+1 by omega,FT,DK,List.map_singleton,vM rs i (i / 20) c ω ω d]
  congr 1
  exact IX λk b=>uW rs i k c (by simp at b;omega)
 unfold PC;simp;omega
theorem m9(rs:List Pr)(k:Nat):(PC rs k).length=min 20 (rs.length-k*20):=by unfold PC;simp
theorem vB(rs:List Pr):TL rs rs.length=(List.range ((rs.length+19) / 20)).map (PC rs):=by unfold TL;rw[CW]
theorem Gz{rs:List Pr}{b:List Ch}(h:b∈TL rs rs.length):b.length<=20/\∀x∈b,(x.1,x.2.1)∈rs:=by
 rw[vB]at h;obtain⟨k,f,rfl⟩:=DS.1 h;refine⟨by rw[m9];omega,λx c=>?_⟩;unfold PC at c;obtain⟨p,d,rfl⟩:=DS.1 c;exact FE (DE d)
def Bat(w:Nb)(base:Nat)(v:Nc)(aA:List (List Ch)):Prop :=∃vs:List Nc,w.ownsRow base 42 1 v aA.length vs/\(∀i,i<aA.length->w.ownsRow base 171 3 (vs.getD i PK) (aA.getD i []).length (NL (aA.getD i []))) /\
  ∀i j k,i<j->j<aA.length->(vs.getD i PK).ownBlock=some k->(vs.getD j PK).ownBlock≠some k
theorem Bat.nil(w:Nb)(base:Nat):Bat w base PK []:=⟨[],DA _ _ _ _,λi h=>absurd h σ,λi j k _ h=>absurd h σ⟩
theorem Bat.I{aA:List (List Ch)}(h:Bat w base v aA)(b:Below w.heap.size w w'):Bat w' base v aA:=by
 obtain⟨vs,c,d,f⟩:=h;exact⟨vs,NC c b,λi j=>NC (d i j) b,f⟩
theorem ZL{d f:Nat}{b c:TypeId}{s t:Nat}{p q:Nat}{u y:List Nc}(i:w.ownsRow d b s v1 p u)(j:w.ownsRow f c t v2 q y)(l:b≠c):v1.ownBlock=none\/v1.ownBlock≠v2.ownBlock:=by
 rcases i.2 with ⟨rfl,_⟩|⟨g,cap,h,rfl,_,o,_⟩
 ·exact .inl rfl
 right
 rcases j.2 with ⟨rfl,_⟩|⟨A,aB,z,rfl,_,aA,_⟩
 ·simp[Value.ownBlock]
 simp only[Value.ownBlock,ne_eq,BP]
 intro e;subst e;rw[o]at aA
 cases aA
 exact l rfl
theorem Bat.kept{aA:List (List Ch)}{row:Option Nat}(h:Bat w base v aA)(j:w.grownBy w' row)(l:∀k,row=some k->base > k\/w.heap.size<=k):Bat w' base v aA:=by
 obtain⟨vs,c,d,f⟩:=h
 have aB:∀ {e:TypeId} {s:Nat} {u:Nc} {n:Nat} {xs:List Nc},w.ownsRow base e s u n xs->w'.ownsRow base e s u n xs:=λb=>by
  refine b.kept j ?_
  cases hu:(Value.ownBlock _) with
  | none=>exact .inl rfl
  | some k =>
   refine .inr λe=>?_
   have:=b.lt k hu;rcases l k e.symm with h|h<;>omega
 exact⟨vs,aB c,λi b=>aB (d i b),f⟩
theorem Bat.push{u:Nc}{aA:List (List Ch)}{c:List Ch}(f:w.ownsRow base 42 1 v aA.length vs)(p:∀i,i<aA.length->w.ownsRow base 171 3 (vs.getD i PK) (aA.getD i []).length (NL (aA.getD i [])))
  (A:∀i j k,i<j->j<aA.length->(vs.getD i PK).ownBlock=some k->(vs.getD j PK).ownBlock≠some k)(s:w.ownsRow base 171 3 x c.length (NL c))(z:∀i k,i<aA.length->(vs.getD i PK).ownBlock=some k->x.ownBlock≠some k)
  (D:w1.ownsRow base 42 1 u (aA.length+1) (vs++[x]))(q:w.grownBy w1 v.ownBlock):Bat w1 base u (aA++[c]):=by
 have o:vs.length=aA.length:=by have:=f.1;omega
 have t:(171:TypeId)≠42:=δ
 refine⟨vs++[x],by simpa using D,λi B=>?_,λi j k l C h=>?_⟩
 ·by_cases aB:i<aA.length
  ·have d:(vs++[x]).getD i PK=vs.getD i PK:=by simp[List.getD,BC (show i<vs.length by omega)]
   have b:(aA++[c]).getD i []=aA.getD i []:=by simp[List.getD,BC aB]
   rw[d,b];exact(p i aB).kept q (ZL (p i aB) f t)
  have y:i=aA.length:=by simp at B;omega
  subst y;have d:(vs++[x]).getD aA.length PK=x:=by rw[<-o];simp[List.getD]
  have b:(aA++[c]).getD aA.length []=c:=by simp[List.getD]
  rw[d,b];exact s.kept q (ZL s f t)
 simp only[AF,CY,AR]at C
 have d:(vs++[x]).getD i PK=vs.getD i PK:=by simp[List.getD,BC (show i<vs.length by omega)]
 rw[d]at h
 by_cases aB:j<aA.length
 ·have b:(vs++[x]).getD j PK=vs.getD j PK:=by simp[List.getD,BC (show j<vs.length by omega)]
  rw[b];exact A i j k l aB h
 have y:j=aA.length:=ω
 subst y;have b:(vs++[x]).getD aA.length PK=x:=by rw[<-o];simp[List.getD]
 rw[b];exact z i k l h
def Bts(w:Nb)(a:M6)(aA:List (List Ch)):Prop :=aA=[]\/∃g,a=Mw g 0/\g<w.heap.size/\∀i,i<aA.length->∃p c,w.cell? ⟨g,i,none⟩=some (.slice p (aA.getD i []).length c)/\Chs w p (aA.getD i [])
theorem Bts.I{aA:List (List Ch)}(h:Bts w a aA)(b:Below w.heap.size w w'):Bts w' a aA:=by
 rcases h with h|⟨g,f,d,j⟩
 ·exact .inl h
 refine .inr ⟨g,f,AD d b.size,λi q=>?_⟩
 obtain⟨p,c,l,o⟩:=j i q;exact⟨p,c,(b.cell (p:=⟨g,i,none⟩) d).j l,o.I b⟩
theorem rC{B:Nat}{y:Nc}{o:List Ch}(h:w.ownsRow B e 3 y o.length (NL o)):∃a c,y=.slice a o.length c/\Chs w a o:=by
 rcases NU h with ⟨b,c⟩|⟨g,cap,b,c,_,d⟩
 ·have:o=[]:=AC c
  subst this;exact⟨none,0,b,.inl rfl⟩
 exact⟨_,cap,b,d.chs⟩
theorem Bat.bts{aA:List (List Ch)}(h:Bat w base v aA):∃a c,v=.slice a aA.length c/\Bts w a aA:=by
 obtain⟨vs,f,s,u⟩:=h;rcases NU f with ⟨b,d⟩|⟨g,cap,b,d,j,l⟩
 ·have:aA=[]:=AC d
  subst this;exact⟨none,0,b,.inl rfl⟩
 refine⟨_,cap,b,.inr ⟨g,rfl,j,λi t=>?_⟩⟩
 obtain⟨p,c,o,q⟩:=rC (s i t);have aB:vs.length=aA.length:=by have:=f.1;omega
 refine⟨p,c,l.cell i _ ?_,q⟩;exact(by simp[List.getD,BQ (show i<vs.length by omega)]:vs[i]?=some (vs.getD i PK)).j (CX some o)
theorem Bts.at{aA:List (List Ch)}(h:Bts w a aA){k:Nat}(b:k<aA.length):∃g p c,a=Mw g 0/\g<w.heap.size/\w.cell? ⟨g,k,none⟩=some (.slice p (aA.getD k []).length c)/\Chs w p (aA.getD k []):=by
 rcases h with h|⟨g,d,f,i⟩
 ·subst h;simp at b
 obtain⟨p,c,j,l⟩:=i k b
 exact⟨g,p,c,d,f,j,l⟩
theorem vO:(prog.info? 171).map (λi=>(i.zero,i.size,i.bytes))=some (some (.agg #[Mz empty,Mz empty,M0 false]),3,40):=κ
theorem sY:(prog.info? 42).map (λi=>(i.zero,i.size,i.bytes))=some (some (.slice none 0 0),1,24):=κ
theorem kc{P:Program}{z:Nc}{aA:Nat}(h:(P.info? e).map (λi=>(i.zero,i.size,i.bytes))=some (some z,size,aA)):∃i,P.info? e=some i/\i.zero=some z/\i.size=size/\i.bytes=aA:=by
 obtain⟨i,c,b⟩:=EZ.1 h;simp only[BV]at b;exact⟨i,c,b⟩
theorem UC{W:Nb}{B:Nat}(c:Below B W w)(own:w.ownsRow B e size v n xs)(b:w.grownBy w1 v.ownBlock)(f:B<=w.heap.size):Below B W w1 :=c.j ⟨b.os,b.tape,b.output,b.size,λk h=>b.block k ω (λd=>by have:=(own.lt k d.symm).1;omega)⟩
theorem yy{b d:Nat}{s:Nat}(h:w.ownsRow b e s v n xs)(o:d<=b):w.ownsRow d e s v n xs:=by
 refine⟨h.1,?_⟩;rcases h.2 with f|⟨g,cap,c,i,j,l⟩
 ·exact .inl f
 exact .inr ⟨g,cap,c,i,AK o j,l⟩
theorem Bat.z{b c:Nat}{aA:List (List Ch)}(h:Bat w b v aA)(d:c<=b):Bat w c v aA:=by
 obtain⟨vs,f,j,l⟩:=h;exact⟨vs,yy f d,λi o=>yy (j i o) d,l⟩
structure Rest(w:Nb)(base:Nat)(bss:List (List Ch))(vs:List Nc)(x:Nc):Prop where
 len:vs.length=bss.length
 own:∀i,i<bss.length->w.ownsRow base 171 3 (vs.getD i PK) (bss.getD i []).length (NL (bss.getD i []))
 apart:∀i j k,i<j->j<bss.length->(vs.getD i PK).ownBlock=some k->(vs.getD j PK).ownBlock≠some k
 last:∀i k,i<bss.length->(vs.getD i PK).ownBlock=some k->x.ownBlock≠some k
theorem Bat.last{aA:List (List Ch)}{b:List Ch}(h:Bat w base v (aA++[b])):∃g cap vs p c,v=.slice (Mw g 0) (aA.length+1) cap/\w.ownsRow base 42 1 v (aA.length+1) (vs++[.slice p b.length c])/\w.ownsRow base 171 3 (.slice p b.length c) b.length (NL b)/\Rest w base aA vs (.slice p b.length c):=by
 obtain⟨vs,o,y,z⟩:=h;have aB:vs.length=aA.length+1:=by have:=o.1;simp at this;omega
 obtain⟨f,x,rfl⟩:∃f x,vs=f++[x]:=⟨vs.dropLast,vs.getLast (by intro e;subst e;simp at aB),(JV _).symm⟩;have t:f.length=aA.length:=by simp at aB;exact aB
 have s:=y aA.length σ;have u:(f++[x]).getD aA.length PK=x:=by rw[<-t];simp[List.getD]
 have B:(aA++[b]).getD aA.length []=b:=by simp[List.getD]
 rw[u,B]at s
 have l:∀i,i<aA.length->(f++[x]).getD i PK=f.getD i PK:=λi d=>by simp[List.getD,BC (show i<f.length by omega)]
 have C:∀i,i<aA.length->(aA++[b]).getD i []=aA.getD i []:=λi d=>by simp[List.getD,BC d]
 obtain⟨p,c,rfl,_⟩:=rC s;simp only[AF,CY,AR]at o
 obtain⟨g,cap,hv⟩:∃g cap,v=.slice (Mw g 0) (aA.length+1) cap:=by
  rcases NU o with ⟨_,j⟩|⟨g,cap,j,_⟩
  ·omega
  exact⟨g,cap,j⟩
 refine⟨g,cap,f,p,c,hv,o,s,t,λi d=>?_,λi j k A D q=>?_,λi k d q=>?_⟩
 ·have:=y i τ
  rwa [l i d,C i d]at this
 ·have:=z i j k A τ
  rw[l i ω,l j D]at this;exact this q
 have:=z i aA.length k d σ
 rw[l i d,u]at this;exact this q
theorem Rest.relast{aA:List (List Ch)}{f:List Ch}{c:Nc}{G:List Ch}(l:Rest w base aA vs x)(X:base<=w.heap.size)
  (E:w.ownsRow base 42 1 (.slice (Mw g 0) (aA.length+1) cap) (aA.length+1) (vs++[x]))(U:w.ownsRow base 171 3 x n0 (NL G))
  (D:w.grownBy w1 x.ownBlock)(I:w1.ownsRow base 171 3 c f.length (NL f))(T:x.ownBlock=c.ownBlock\/c.ownBlock=some w.heap.size):Bat (w1.setCell ⟨g,aA.length,none⟩ c) base (.slice (Mw g 0) (aA.length+1) cap) (aA++[f]):=by
 have F:(171:TypeId)≠42:=δ
 have s:=l.len
 have y:w1.ownsRow base 42 1 (.slice (Mw g 0) (aA.length+1) cap) (aA.length+1) (vs++[x]):=E.kept D (by
  rcases ZL E U (IV F) with h|h
  ·exact .inl h
  ·exact .inr h)
 have H:w1.grownBy (w1.setCell ⟨g,aA.length,none⟩ c) (some g):=⟨rfl,rfl,rfl,by simp[World.setCell],λk _ o=>BF _ _ _ k (λe=>o (by rw[e]))⟩
 have z:∀ {u:Nc} {n:Nat} {xs:List Nc},w1.ownsRow base 171 3 u n xs->(w1.setCell ⟨g,aA.length,none⟩ c).ownsRow base 171 3 u n xs:=λh=>h.kept H (ZL h y F)
 have J:∀i,i<aA.length->w1.ownsRow base 171 3 (vs.getD i PK) (aA.getD i []).length (NL (aA.getD i [])):=λi d=>(l.own i d).kept D (by
  cases o:(vs.getD i PK).ownBlock with
  | none=>exact .inl rfl
  | some k=>exact .inr λe=>l.last i k d o e.symm)
 have t:∀i,i<aA.length->(vs++[c]).getD i PK=vs.getD i PK:=λi d=>by simp[List.getD,BC (show i<vs.length by omega)]
 have L:∀i,i<aA.length->(aA++[f]).getD i []=aA.getD i []:=λi d=>by simp[List.getD,BC d]
 have A:(vs++[c]).getD aA.length PK=c:=by rw[<-s];simp[List.getD]
 have K:(aA++[f]).getD aA.length []=f:=by simp[List.getD]
 refine⟨vs++[c],?_,λi d=>?_,λi j k q S p=>?_⟩
 ·refine⟨by simp[s],.inr ?_⟩
  rcases y.2 with ⟨M,_⟩|⟨W,V,b,N,O,B,P,Q,R,C⟩
  ·cases M
  cases N
  refine⟨g,cap,b.set! aA.length c,σ,O,?_,by simpa using P,Q,by simpa using R,?_⟩
  ·have aB:=(AW.1 B).1
   have o:=(AW.1 B).2;show(w1.heap.modify g _)[g]?=_;rw[Array.getElem?_eq_getElem (by rw[Array.size_modify];exact aB),Array.getElem_modify_self,o];rfl
  have hz:b.toList.length=b.size:=σ
  have hl:aA.length<b.toList.length:=ω
  simp only[KM,AF,CY,AR]at C⊢;have:(b.set! aA.length c).toList=b.toList.set aA.length c:=σ
  rw[this,BG,List.take_set,C,JM _ _ ω,s];simp
 ·by_cases aB:i<aA.length
  ·rw[t i aB,L i aB];exact z (J i aB)
  have:i=aA.length:=by simp at d;omega
  subst this;rw[A,K];exact z I
 simp only[AF,CY,AR]at S
 rw[t i ω]at p
 by_cases aB:j<aA.length
 ·rw[t j aB];exact l.apart i j k q aB p
 have:j=aA.length:=ω
 subst this;rw[A];rcases T with h|h
 ·rw[<-h];exact l.last i k q p
 rw[h]
 intro e;have:=(l.own i q).lt k p;simp at e;omega
theorem ft(k v:Y)(g:Bool):∀u∈[Mz k,Mz v,M0 g],u.oneCell'=true:=by
 intro u b;simp only[DY,EJ,GV]at b;rcases b with rfl|rfl|rfl<;>rfl
theorem vw(d:w.ownsRow base e 1 (.slice (Mw g 0) (m+1) cap) (m+1) (vs++[x]))(c:vs.length=m):w.cell? ⟨g,m,none⟩=some x/\w.frozen? ⟨g,m,none⟩=false:=by
 have b:=TE d;exact⟨b.cell m x (by rw[<-c];simp),b.froz m τ⟩
theorem ZC{o:Obj}(b:w.ownsRow base 42 1 (.slice (Mw g 0) (m+1) cap) (m+1) (vs++[x])/\vs.length=m)(d:w.ownsRow base 171 3 x n0 xs)(c:(w.alloc o).grownBy w1 x.ownBlock):w1.cell? ⟨g,m,none⟩=some x/\w1.frozen? ⟨g,m,none⟩=false:=by
 have f:(42:TypeId)≠171:=δ
 exact vw ((b.1.alloc o).kept c (ZL b.1 d f)) b.2
theorem Rest.alloc{aA:List (List Ch)}(h:Rest w base aA vs x)(o:Obj):Rest (w.alloc o) base aA vs x:=⟨h.len,λi b=>(h.own i b).alloc o,h.apart,h.last⟩
theorem mJ(w:Nb)(A:Obj)(b:Array Nc)(t:TypeId):∀j u,b.toList[j]?=some u->((w.alloc A).alloc (.cells b t)).cell? ((⟨w.heap.size+1,0,none⟩:Addr).add j)=some u:=by
 have h:=AU (w.alloc A) (.cells b t);rw[BD]at h;exact World.news_of_block h
theorem Lv{o:Obj}(c:wr.ownsRow base 42 1 v n vs)(d:base<=wr.heap.size)(f:((wr.alloc (.cells #[] 171)).alloc o).grownBy w7 v.ownBlock):w7.ownsRow base 171 3 (.slice (Mw wr.heap.size 0) 0 0) 0 []:=by
 have b:(wr.alloc (.cells #[] 171)).ownsRow base 171 3 (.slice (Mw wr.heap.size 0) 0 0) 0 []:=by
  have:=DT wr (base:=base) (e:=171) (size:=3) #[] 0 d σ σ;simpa using this
 exact(b.alloc o).kept f (ZL (b.alloc o) ((c.alloc _).alloc _) δ)
theorem Ka{c:Nb}{i:Nat}{h:M6}(j:Below base c wr)(d:base<=wr.heap.size)(b:wr.ownsRow base 42 1 (.slice h m i) m vs)(aB:w7.ownsRow base 42 1 (.slice (Mw g 0) (m+1) cap) (m+1) (vs++[.slice (Mw wr.heap.size 0) 0 0]))
  (aA:((wr.alloc (.cells #[] 171)).alloc (.cells #[.slice (Mw wr.heap.size 0) 0 0] 42)).grownBy w7 (Value.slice h m i).ownBlock):Below base c w7/\(w7.ownsRow base 42 1 (.slice (Mw g 0) (m+1) cap) (m+1) (vs++[.slice (Mw wr.heap.size 0) 0 0])/\vs.length=m)/\w7.ownsRow base 171 3 (.slice (Mw wr.heap.size 0) 0 0) 0 []/\w7.cell? ⟨g,m,none⟩=some (.slice (Mw wr.heap.size 0) 0 0):=by
 have f:vs.length=m:=by have:=b.1;omega
 exact⟨UC ((j.alloc d _).alloc τ _) ((b.alloc _).alloc _) aA τ,⟨aB,f⟩,Lv b d aA,(vw aB f).1⟩
theorem sG(o:List Ch)(c:Ch):NL (o++[c])=NL o++[Mz c.1,Mz c.2.1,M0 c.2.2]:=by rw[ww];rfl
theorem cj{o:Obj}{r:Option Nat}(h:(w.drew.alloc o).grownBy w' r):(w.alloc o).grownBy w' r:=⟨h.os,h.tape,h.output,h.size,h.block⟩
theorem mn{j W d:Nb}{b aA c:Nat}{p:M6}{aB:List (List Ch)}{cs:List Ch}{f i:Y}{o:Obj}(A:base<=W.heap.size)(D:Rest W base aB vs (.slice p n0 c))(B:m=aB.length)(C:n0=cs.length)
  (q:W.ownsRow base 42 1 (.slice (Mw g 0) (m+1) cap) (m+1) (vs++[.slice p n0 c]))(s:W.ownsRow base 171 3 (.slice p n0 c) n0 (NL cs))(l:(W.alloc o).grownBy d (Value.slice p n0 c).ownBlock)
  (y:d.ownsRow base 171 3 (.slice (Mw b 0) (n0+1) aA) (n0+1) (NL cs++[Mz f,Mz i,M0 false]))(u:(Value.slice p n0 c).ownBlock=some b\/b=W.heap.size+1)(t:Below base j W):Bat (d.setCell ⟨g,m,none⟩ (.slice (Mw b 0) (n0+1) aA)) base (.slice (Mw g 0) (m+1) cap) (aB++[cs++[(f,i,false)]])/\Below base j (d.setCell ⟨g,m,none⟩ (.slice (Mw b 0) (n0+1) aA)):=by
 subst B C
 have z:d.ownsRow base 171 3 (.slice (Mw b 0) (cs.length+1) aA) (cs++[(f,i,false)]).length (NL (cs++[(f,i,false)])):=by
  rw[sG,AF];exact y
 refine⟨(D.alloc o).relast τ (q.alloc o) (s.alloc o) l z ?_,?_⟩
 ·rcases u with h|h
  ·exact .inl h
  right;rw[h];simp[Value.ownBlock]
 have h:=(q.lt g rfl).1
 exact(UC (t.alloc A o) (s.alloc o) l τ).setCell (p:=⟨g,aB.length,none⟩) h _
theorem Kn{h:Nat}{f:M6}{aA:List (List Ch)}{o:Obj}(d:wr.ownsRow base 42 1 (.slice f m h) m vs)(c:∀i,i<aA.length->wr.ownsRow base 171 3 (vs.getD i PK) (aA.getD i []).length (NL (aA.getD i [])))
  (l:∀i j k,i<j->j<aA.length->(vs.getD i PK).ownBlock=some k->(vs.getD j PK).ownBlock≠some k)(q:base<=wr.heap.size)(s:m=aA.length)(p:((wr.alloc (.cells #[] 171)).alloc o).grownBy w7 (Value.slice f m h).ownBlock):Rest w7 base aA vs (.slice (Mw wr.heap.size 0) 0 0):=by
 refine⟨by have:=d.1;omega,λi b=>(((c i b).alloc _).alloc _).kept p (ZL (c i b) d δ),l,λi k b j=>?_⟩;have:=(c i b).lt k j;simp only[Value.ownBlock,ne_eq,BP];omega
theorem vq(rs:List Pr)(i:Nat)(b:i<=100):(TL rs i).length<=5:=by rw[I1];omega
theorem qN(a:M6)(rs:List Pr)(c:Nat)(w:Nb)(h:Prs w a rs)(hl:rs.length<=1048576)(hs:∀x∈rs,x.1.size<=1048576/\x.2.size<=1048576):Calls prog 133 #[.agg #[.slice a rs.length c]] w λe w'=>∃v,e=M3 v/\Bat w' (w.heap.size+1) v (MD rs)/\Below w.heap.size w w':=by
 obtain⟨i0,b,l,o,p⟩:=kc vO;have HI:=Z (AH b (AH l (AH o p)));obtain⟨i1,d,f,i,j⟩:=kc sY;have HJ:=Z (AH d (AH f (AH i j)));clear b l o p d f i j;unfold MD;have b:Below w.heap.size w ((w.alloc (.cells #[.slice a rs.length c] 31)).alloc (.cells #[] 42)):=(LO _ _).alloc σ _;have hv:=nk a rs c ((w.alloc (.cells #[.slice a rs.length c] 31)).alloc (.cells #[] 42)) (h.I b) hl hs
 have d:Bat ((w.alloc (.cells #[.slice a rs.length c] 31)).alloc (.cells #[] 42)) (w.heap.size+1) (.slice (Mw (w.heap.size+1) 0) 0 0) []:=by
  refine⟨[],?_,λi h=>absurd h σ,λi j k _ h=>absurd h σ⟩;have:=DT (w.alloc (.cells #[.slice a rs.length c] 31)) (base:=w.heap.size+1) (e:=42) (size:=1) #[] 0 σ σ σ;simpa using this
 have HV:=Z hv;have cH:=Z b;have HE:=Z d;clear hv b d
 cases hok:MU rs
 focus
  rw[hok]at HV;simp only[FH,IS]
 rotate_left
 focus
  rw[hok]at HV;simp only[IH];have dR:rs.length<=100:=(ZH hok).1
 rotate_left
 all_goals
  go_enter func133,ntmps133;go_wp2_with (go_at_call 43;refine HV.l.z ?_;rintro e w2 ⟨rfl,X⟩)
 ·go_ret
  exact⟨_,rfl,HE.l.I X,cH.l.j (X.z cH.l.size)⟩
 have dP:=X.size
 simp only[BD]at dP;go_loopw [3,4] (λy i wr=>∃k:Nat,k<=rs.length/\i=.int .i64 k/\Bat wr (w.heap.size+1) y (TL rs k)/\Below (w.heap.size+1) (w.alloc (.cells #[.slice a rs.length c] 31)) wr) (λ_ i _=>rs.length-(intOf i).toNat)
 case atStart =>
  exact⟨0,AM _,rfl,HE.l.I X,((AB _ _).alloc σ _).j (X.z σ)⟩
 case round =>
  obtain⟨k,hk,rfl,aW,P⟩:=hrel;have q0:wr.cell? ⟨w.heap.size,0,none⟩=some (.slice a rs.length c):=(P.cell (p:=⟨w.heap.size,0,none⟩) (by show w.heap.size<_;omega)).j γ;have bQ:w.heap.size+1<=wr.heap.size:=by have:=P.size;simpa using this
  by_cases bU:k<rs.length
  ·obtain⟨b,o,l,q,rfl,bR,bT,HS⟩:=(h.I ((LO _ _).j (P.z ω))).at bU
   have z:b<w.heap.size:=by
    rcases h with h|⟨i,j,d,f,_⟩
    ·subst h;simp at bU
    cases d;exact f
   have dL:(k:Int)<(rs.length:Int):=ω
   have N:=Z P;have Q:=Z aW;clear P aW
   by_cases hr:k % 20=0
   focus
    have dN:(k:Int) % 20=0:=ω
    have bW:=Z (Ag rs k bU hr (empty,empty));have R:=vq rs k ω;obtain⟨I,d⟩:∃I,I=TL rs k:=⟨_,rfl⟩;rw[<-d]at Q R bW;clear d;obtain⟨vs,d,f,j⟩:=Q.l
    obtain⟨ya,yc,rfl⟩:∃ya yc,u3=Value.slice ya I.length yc:=by
     rcases NU d with ⟨i,t⟩|⟨g,cap,i,_⟩
     ·exact⟨none,0,by rw[i,t]⟩
     exact⟨_,cap,i⟩
    obtain⟨m,A⟩:∃m,m=I.length:=⟨_,rfl⟩;rw[<-A]at d R⊢;have O:=Z A;have H1:=Z d;have H2:=Z f;have H3:=Z j;clear Q d f j A;go_wp2_with (at_builtin;refine QY _ rfl _ _ 191 rfl (w.heap.size+1) underlying191 HJ.l rfl ω _ m _ rfl ((H1.l.alloc _).alloc _) ⟨wr.heap.size+1,0,none⟩ 1 1 [.slice (Mw wr.heap.size 0) 0 0] rfl rfl (mJ wr _ _ _) (by intro u hu;simp at hu;subst hu;rfl) τ (wr.heap.size+1+1) σ ?_;intro g cap w7 p i A b7;obtain⟨d,s,t,q7⟩:=Ka N.l bQ H1.l p i;have V:=Z d;have j:=Z s;have f:=Z t;have y:w.heap.size+1<=w7.heap.size:=AK σ d.size;have cC:=(d.cell (p:=⟨w.heap.size,0,none⟩) (JO _)).j ((N.l.cell (p:=⟨w.heap.size,0,none⟩) (JO _)).symm.j q0);have cE:=(d.cell (p:=⟨b,o+k*2,none⟩) (FP z)).j ((N.l.cell (p:=⟨b,o+k*2,none⟩) (FP z)).symm.j bR);have cF:=(d.cell (p:=⟨b,o+k*2+1,none⟩) (FP z)).j ((N.l.cell (p:=⟨b,o+k*2+1,none⟩) (FP z)).symm.j bT);have dQ:b<w7.heap.size:=AD (FP z) y;have cW:=Z i;clear p i A d s t bR bT q0)
    have dM:(m:Int)<(m:Int)+1:=ω
    have cA:(0:Int)<=(m:Int):=ω
    have W:=Z (f.l.alloc (.cells #[Mz l,Mz q,M0 false] 171));have S:Hid (Rest w7 (w.heap.size+1) I vs (.slice (Mw wr.heap.size 0) 0 0)):=Z (Kn H1.l H2.l H3.l bQ O.l cW.l)
    have A:∀w',Below (w.heap.size+1) w7 w'->w'.cell? ⟨w.heap.size,0,none⟩=some (.slice (Mw b o) rs.length c)/\w'.cell? ⟨b,o+k*2,none⟩=some (Mz l)/\w'.cell? ⟨b,o+k*2+1,none⟩=some (Mz q):=λw' J=>⟨(J.cell (p:=⟨w.heap.size,0,none⟩) (JO _)).j cC,(J.cell (p:=⟨b,o+k*2,none⟩) (FP z)).j cE,(J.cell (p:=⟨b,o+k*2+1,none⟩) (FP z)).j cF⟩
    have s:=Z A;clear A;refine AN (S:=λw'=>w'.cell? ⟨w.heap.size,0,none⟩=some (.slice (Mw b o) rs.length c)/\w'.cell? ⟨b,o+k*2,none⟩=some (Mz l)/\w'.cell? ⟨b,o+k*2+1,none⟩=some (Mz q)) κ (s.l _ (AB _ _).drew) (λaA=>?_);refine TY 0 (.slice (Mw g 0) (m+1) cap) rfl aA (TY 1 (.int .i64 (m:Int)) rfl aA (TY 2 (.slice (Mw g 0) (m+1) cap) rfl aA (TY 3 (.int .i64 (m:Int)) rfl aA (TY 4 (Mv g m) rfl aA (TY 6 (Mv w.heap.size 0) rfl aA (TY 7 (.slice (Mw b o) rs.length c) rfl aA (TY 8 (.int .i64 (k:Int)) rfl aA (TY 9 (Mv b (o+k*2)) rfl aA (TY 10 (Mv b (o+k*2)) rfl aA (TY 11 (Mz l) rfl aA (TY 12 (Mv w.heap.size 0) rfl aA ?_)))))))))));simp only[PS];refine TY 13 (.slice (Mw b o) rs.length c) rfl aA (TY 14 (.int .i64 (k:Int)) rfl aA (TY 15 (Mv b (o+k*2)) rfl aA (TY 16 (Mv b (o+k*2+1)) rfl aA (TY 17 (Mz q) rfl aA (TY 18 (.agg #[Mz l,Mz q,M0 false]) rfl aA ?_)))))
    simp only[PS];refine EF (rs:=[5,19]) κ σ ?_;have F:=s.l (w7.drew.alloc (.cells #[Mz l,Mz q,M0 false] 171)) ((AB _ _).drew.alloc y _);refine BK rfl (λK d=>?_) (BK rfl (λK d=>?_) DX)
    focus
     go_simp;refine d.l _ _ aA (λ_=>?_);clear d K;refine RD 19 rfl (λK d=>?_);go_simp;refine d.l _ _ F (λ_=>?_);clear d K;refine RD 20 rfl (λK d=>?_);refine SI _ ρ _ _ _ ρ (w.heap.size+1) underlying42 HI.l rfl ω (.slice (Mw wr.heap.size 0) 0 0) 0 _ ρ W.l ⟨w7.heap.size,0,none⟩ 1 1 [Mz l,Mz q,M0 false] ρ rfl (World.news_of_block (AU w7 _)) (ft _ _ _) ξ (w7.heap.size+1) σ ?_;intro L E M B aB C aX;have H:=Z B;have i:=Z (cj aB);have G:=Z C;have D:=mn y S.l O.l (cs:=[]) rfl j.l.1 f.l i.l H.l G.l V.l;have T:=Z D;have q9:=(ZC j.l f.l i.l).1;have r9:=(ZC j.l f.l i.l).2;have t:Below (w.heap.size+1) w7 M:=UC ((AB _ _).alloc y _) (f.l.alloc _) i.l τ;have U:=s.l _ t;have aR:=s.l _ (t.setCell (p:=⟨g,m,none⟩) (j.l.1.lt g rfl).1 (.slice (Mw L 0) (0+1) E))
    rotate_left
    focus
     go_simp;refine d.l _ _ F (λ_=>?_);clear d K;refine RD 5 rfl (λK d=>?_);go_simp;refine d.l _ _ F (λ_=>?_);clear d K;refine RD 20 rfl (λK d=>?_);refine SI _ ρ _ _ _ ρ (w.heap.size+1) underlying42 HI.l rfl ω (.slice (Mw wr.heap.size 0) 0 0) 0 _ ρ W.l ⟨w7.heap.size,0,none⟩ 1 1 [Mz l,Mz q,M0 false] ρ rfl (World.news_of_block (AU w7 _)) (ft _ _ _) ξ (w7.heap.size+1) σ ?_;intro L E M B aB C aX;have H:=Z B;have i:=Z (cj aB);have G:=Z C;have D:=mn y S.l O.l (cs:=[]) rfl j.l.1 f.l i.l H.l G.l V.l;have T:=Z D;have q9:=(ZC j.l f.l i.l).1;have r9:=(ZC j.l f.l i.l).2;have t:Below (w.heap.size+1) w7 M:=UC ((AB _ _).alloc y _) (f.l.alloc _) i.l τ;have U:=s.l _ t;have aR:=s.l _ (t.setCell (p:=⟨g,m,none⟩) (j.l.1.lt g rfl).1 (.slice (Mw L 0) (0+1) E))
    rotate_left
   rotate_left 2
   focus
    have dN:decide ((k:Int) % 20=0)=false:=τ
    obtain⟨I,cs,cL,cO,cZ⟩:=Fz rs k bU hr (empty,empty);have bW:=Z cO;have R:=vq rs k ω;rw[cL]at Q R;obtain⟨g,cap,vs,p,c9,rfl,hO,hX,hR⟩:=Q.l.last;obtain⟨m,A⟩:∃m,m=I.length:=⟨_,rfl⟩;obtain⟨n0,bV⟩:∃n0,n0=cs.length:=⟨_,rfl⟩;have dU:m<=5:=by simp at R;omega
    have cB:vs.length=m:=by rw[hR.len,A]
    rw[<-A,<-bV]at hO;rw[<-bV]at hX hR cZ;rw[<-A];have O:=Z A;have HN:=Z bV;have j:=Z (AH hO cB);have f:=Z hX;have S:=Z hR;have b7:g<wr.heap.size:=(hO.lt g rfl).2;have q7:=(vw hO cB).1;clear cL cO R hO hX hR A bV Q cB;have dM:(m:Int)<(m:Int)+1:=ω
    have cA:(0:Int)<=(m:Int):=ω
    have W:=Z (f.l.alloc (.cells #[Mz l,Mz q,M0 false] 171));have dQ:b<wr.heap.size:=AD (FP z) bQ;have cC:=q0;have cE:=bR;have cF:=bT;have y:=bQ;have V:=N;clear q0 bR bT bQ N;go_wp2_with fail
    have A:∀w',Below (w.heap.size+1) wr w'->w'.cell? ⟨w.heap.size,0,none⟩=some (.slice (Mw b o) rs.length c)/\w'.cell? ⟨b,o+k*2,none⟩=some (Mz l)/\w'.cell? ⟨b,o+k*2+1,none⟩=some (Mz q):=λw' J=>⟨(J.cell (p:=⟨w.heap.size,0,none⟩) (JO _)).j cC,(J.cell (p:=⟨b,o+k*2,none⟩) (FP z)).j cE,(J.cell (p:=⟨b,o+k*2+1,none⟩) (FP z)).j cF⟩
    have s:=Z A;clear A;refine AN (S:=λw'=>w'.cell? ⟨w.heap.size,0,none⟩=some (.slice (Mw b o) rs.length c)/\w'.cell? ⟨b,o+k*2,none⟩=some (Mz l)/\w'.cell? ⟨b,o+k*2+1,none⟩=some (Mz q)) κ (s.l _ (AB _ _).drew) (λaA=>?_);refine TY 0 (.slice (Mw g 0) (m+1) cap) rfl aA (TY 1 (.int .i64 (m:Int)) rfl aA (TY 2 (.slice (Mw g 0) (m+1) cap) rfl aA (TY 3 (.int .i64 (m:Int)) rfl aA (TY 4 (Mv g m) rfl aA (TY 6 (Mv w.heap.size 0) rfl aA (TY 7 (.slice (Mw b o) rs.length c) rfl aA (TY 8 (.int .i64 (k:Int)) rfl aA (TY 9 (Mv b (o+k*2)) rfl aA (TY 10 (Mv b (o+k*2)) rfl aA (TY 11 (Mz l) rfl aA (TY 12 (Mv w.heap.size 0) rfl aA ?_)))))))))));simp only[PS];refine TY 13 (.slice (Mw b o) rs.length c) rfl aA (TY 14 (.int .i64 (k:Int)) rfl aA (TY 15 (Mv b (o+k*2)) rfl aA (TY 16 (Mv b (o+k*2+1)) rfl aA (TY 17 (Mz q) rfl aA (TY 18 (.agg #[Mz l,Mz q,M0 false]) rfl aA ?_)))))
    simp only[PS];refine EF (rs:=[5,19]) κ σ ?_;have F:=s.l (wr.drew.alloc (.cells #[Mz l,Mz q,M0 false] 171)) ((AB _ _).drew.alloc y _);refine BK rfl (λK d=>?_) (BK rfl (λK d=>?_) DX)
    focus
     go_simp;refine d.l _ _ aA (λ_=>?_);clear d K;refine RD 19 rfl (λK d=>?_);go_simp;refine d.l _ _ F (λ_=>?_);clear d K;refine RD 20 rfl (λK d=>?_);refine SI _ ρ _ _ _ ρ (w.heap.size+1) underlying42 HI.l rfl ω (.slice p n0 c9) n0 _ ρ W.l ⟨wr.heap.size,0,none⟩ 1 1 [Mz l,Mz q,M0 false] ρ rfl (World.news_of_block (AU wr _)) (ft _ _ _) ξ (wr.heap.size+1) σ ?_;intro L E M B aB C aX;have H:=Z B;have i:=Z (cj aB);have G:=Z C;have D:=mn y S.l O.l HN.l j.l.1 f.l i.l H.l G.l V.l;have T:=Z D;have q9:=(ZC j.l f.l i.l).1;have r9:=(ZC j.l f.l i.l).2;have t:Below (w.heap.size+1) wr M:=UC ((AB _ _).alloc y _) (f.l.alloc _) i.l τ;have U:=s.l _ t;have aR:=s.l _ (t.setCell (p:=⟨g,m,none⟩) (j.l.1.lt g rfl).1 (.slice (Mw L 0) (n0+1) E))
    rotate_left
    focus
     go_simp;refine d.l _ _ F (λ_=>?_);clear d K;refine RD 5 rfl (λK d=>?_);go_simp;refine d.l _ _ F (λ_=>?_);clear d K;refine RD 20 rfl (λK d=>?_);refine SI _ ρ _ _ _ ρ (w.heap.size+1) underlying42 HI.l rfl ω (.slice p n0 c9) n0 _ ρ W.l ⟨wr.heap.size,0,none⟩ 1 1 [Mz l,Mz q,M0 false] ρ rfl (World.news_of_block (AU wr _)) (ft _ _ _) ξ (wr.heap.size+1) σ ?_;intro L E M B aB C aX;have H:=Z B;have i:=Z (cj aB);have G:=Z C;have D:=mn y S.l O.l HN.l j.l.1 f.l i.l H.l G.l V.l;have T:=Z D;have q9:=(ZC j.l f.l i.l).1;have r9:=(ZC j.l f.l i.l).2;have t:Below (w.heap.size+1) wr M:=UC ((AB _ _).alloc y _) (f.l.alloc _) i.l τ;have U:=s.l _ t;have aR:=s.l _ (t.setCell (p:=⟨g,m,none⟩) (j.l.1.lt g rfl).1 (.slice (Mw L 0) (n0+1) E))
    rotate_left
   rotate_left 2
   all_goals
    clear B aB C D t;refine d.l _ _ U (λ_=>?_);clear d K;simp only[PS];refine TY 21 (Mv g m) rfl U ?_;simp only[PS];refine RD 22 rfl (λK d=>?_);go_simp;refine d.l _ _ aR (λ_=>?_);clear d K;refine DN ?_;go_wp2;refine⟨⟨k+1,ω,ν,?_,T.l.2⟩,by simp[intOf];omega⟩;rw[bW.l];have t:(l,q,false)=VF (rs.getD k (empty,empty)):=by rw[<-HS.l];rfl
    rw[<-t];exact T.l.1
  have b:k=rs.length:=ω
  subst b;go_wp2;go_ret;exact⟨_,rfl,aW,(LO _ _).j (P.z ω)⟩
