import Derived.Test.YteflhojcomcfaaaGreatDoorPrAm
import Derived.Test.YteflhojcomcfaaaGreatDoorPrAn
import Derived.Test.YteflhojcomcfaaaGreatDoorPrAp
import Derived.Laws.BytesArg
import Derived.WalkKit
import Derived.OrdersHeld
import Derived.Deep.RegionHeld
import Derived.Below
import Derived.Laws.MakeOwn
import Derived.WalkSmall
import Derived.Deep.Draws
import Derived.Deep.AppendLies
import Derived.WalkSpells
import Derived.WalkLawsBesides
import Derived.Outline
import Derived.BigQuiet
import Derived.Deep.QuietTactic
import Derived.Deep.RegionHeld3
import Derived.Test.YteflhojcomcfaaaGreatDoorProg
import Derived.OneCell
set_option maxHeartbeats 16000000
set_option maxRecDepth 8000
set_option linter.all false
namespace Go.Proofs.YteflhojcomcfaaaGreatDoor
open _root_.ByteArray(empty)
section
open Tryz
open Go.RowKit
variable {a:Act}{aA:Array Bool}{aB:Array Oper}{Q:Exit->Act->Q9->Prop}{ws:List (Int×Q4)}{ss:List Q4}{cs:List Ra}{N aC g:Nat}{oi:Oper}{P:Program}{md:Region.Mode}{w w':Q9}{S:Q9->Prop}
def sh:Nat->Int->Int
 | 0,v=>v
 | j+1,v=>sh j v / 256
theorem Am(j:Nat)(v:Int)(b:0<=v)(c:v<=18446744073709551615):0<=sh j v/\sh j v<=18446744073709551615:=by
 induction j with
 | zero=>exact⟨b,c⟩
 | succ j d=>unfold sh;omega
theorem Du(j:Nat)(v:Int)(b:0<=v)(c:v<=9223372036854775807):0<=sh j v/\sh j v<=9223372036854775807:=by
 induction j with
 | zero=>exact⟨b,c⟩
 | succ j d=>unfold sh;omega
def be(n:Nat)(v:Int):List Int:=(List.range n).map λi=>sh (n-1-i) v % 256
theorem QN(n:Nat)(v:Int):(be n v).length=n:=by simp[be]
theorem nY(n:Nat)(v:Int):be (n+1) v=(sh n v % 256)::be n v:=by
 unfold be;rw[List.range_succ_eq_map];simp only[FY,IP,List.cons.injEq];refine⟨j,?_⟩
 apply IJ
 intro i b;simp at b;simp only[Function.comp];rw[show n+1-1-(i+1)=n-1-i by omega]
theorem vA(n:Nat)(v:Int)(i:Nat)(h:i<n):(be n v).getD i 0=sh (n-1-i) v % 256:=by
 simp[be,List.getD,h]
theorem WB(a b:List Int):strOfNums (a++b)=strOfNums a++strOfNums b:=by
 apply EV
 simp[strOfNums]
def sw(x:Int)(c:UInt8):Int:=IntKind.u64.wrap (bits BinOp.xor IntKind.u64 x (IntKind.u64.wrap (c.toNat:Int))*1099511628211)
def RL(l:List UInt8):Int:=l.foldl sw 14695981039346656037
theorem Ju(x:Int):0<=IntKind.u64.wrap x/\IntKind.u64.wrap x<=18446744073709551615:=by
 simp[IntKind.wrap,IntKind.bits,IntKind.signed];omega
theorem dj(x:Int)(b:0<=x)(c:x<=18446744073709551615):IntKind.u64.wrap x=x:=by
 simp[IntKind.wrap,IntKind.bits,IntKind.signed];omega
theorem oX(l:List UInt8)(c:UInt8):RL (l++[c])=sw (RL l) c:=by simp[RL]
theorem uP(l:List UInt8):0<=RL l/\RL l<=18446744073709551615:=by
 rcases GJ l with rfl|⟨b,c,rfl⟩
 .unfold RL;simp
 rw[List.concat_eq_append,oX];exact Ju _
theorem n6(s:Q4)(k:Nat)(h:k<s.size):s.data.toList.take (k+1)=s.data.toList.take k++[s[k]]:=by
 rw[BJ (by simpa using h)];rfl
def WM(s:Q4)(n:Nat):Q4:=strOfNums (be n (RL s.data.toList))
theorem th(s:Q4)(n:Nat):(WM s n).size=n:=by unfold WM;rw[CY,QN]
theorem ux{t e:TypeId}{L:Nat}(f:P.underlying t=some (.array L e))(n:∀w,(sizeOf e).run P w=.ok 1 w)(b c l:Nat)(o:l<L)(k:IntKind)(h:Int)(aA:h=(l:Int))(w:Q9):(Instr.sliceAt t (Dr b c) (some (.int k h)) none none).run P w=.ok (Y (Hw b (c+l)) (L-l) (L-l)) w:=by
 have i:P.arrayLen t=L:=by simp[Program.arrayLen,f]
 have j:P.elem t=e:=by simp[Program.elem,f]
 rw[run_sliceAt_array_l (P:=P) w t (Ki b c) (by rw[i,j];exact f) k h d d,i,j,n,aA];have m:L≠l:=d
 simp[slicedAt,m,Addr.add]
theorem xv{t e:TypeId}{L:Nat}(f:P.underlying t=some (.array L e))(m:∀w,(sizeOf e).run P w=.ok 1 w)(b c h:Nat)(o:0<L)(p:h<=L)(k:IntKind)(i:Int)(aA:i=(h:Int))(w:Q9):(Instr.sliceAt t (Dr b c) none (some (.int k i)) none).run P w=.ok (Y (Hw b c) h L) w:=by
 have j:P.arrayLen t=L:=by simp[Program.arrayLen,f]
 have l:P.elem t=e:=by simp[Program.elem,f]
 rw[run_sliceAt_array_h (P:=P) w t (Ki b c) (by rw[j,l];exact f) k i d d,j,l,m,aA];have n:L≠0:=d
 simp[slicedAt,Addr.add]
theorem YH(p:Q4):p.toList.isEmpty=decide (p.size=0):=by
 rw[CZ];have e:p.size=p.data.toList.length:=z;rw[e]
 cases p.data.toList<;>simp
def LF(p:Q4):List Int:=p.data.toList.map λc=>(c.toNat:Int)
theorem NK(p:Q4):(LF p).length=p.size:=by simp[LF]
theorem WR(p:Q4):strOfNums (LF p)=p:=by
 apply EV
 simp[strOfNums,LF,Function.comp_def]
def ac(k l m:Int)(p:Q4):List Int:=be 1 k++be 2 l++be 4 m++be 1 (p.size:Int)++LF p
theorem yd(k l m:Int)(p:Q4):(ac k l m p).length=8+p.size:=by
 simp[ac,QN,NK];omega
def ZC(k l m:Int)(p:Q4)(n:Nat):List Int:=ac k l m p++List.replicate (56-n-p.size) 0
theorem xC(k l m:Int)(p:Q4)(n:Nat)(h:p.size+n<=56):(ZC k l m p n).length=64-n:=by
 simp[ZC,yd];omega
def WQ(k l m:Int)(p:Q4)(n:Nat):Q4:=WM (strOfNums (ZC k l m p n)) n++strOfNums (ZC k l m p n)
theorem ka(k l m:Int)(p:Q4)(n:Nat)(h:p.size+n<=56):(WQ k l m p n).size=64:=by
 unfold WQ;rw[AP,th,CY,xC k l m p n h];omega
structure Wrote(w w':Q9)(b off:Nat)(xs:List Int):Prop where
 os:w'.os=w.os
 tape:w'.tape=w.tape
 output:w'.output=w.output
 size:w'.heap.size=w.heap.size
 others:∀k,k≠b->w'.heap[k]?=w.heap[k]?
 inside:∀i,i<xs.length->w'.cell? (Ki b (off+i))=some (.int .u8 (xs.getD i 0))
 outside:∀o,(o<off\/off+xs.length<=o)->w'.cell? (Ki b o)=w.cell? (Ki b o)
 frozen:∀a,w'.frozen? a=w.frozen? a
theorem Wrote.refl(w:Q9)(b c:Nat):Wrote w w b c []:=⟨rfl,rfl,rfl,rfl,λ_ _=>rfl,λi h=>by simp at h,λ_ _=>rfl,λ_=>rfl⟩
theorem Wrote.I{b c:Nat}{d:List Int}(h:Wrote w w' b c d){B:Nat}(e:B<=b):Below B w w' :=⟨h.os,h.tape,h.output,by rw[h.size];exact AA,λk f=>h.others k ω⟩
theorem Wrote.step{b off:Nat}{xs:List Int}(h:Wrote w w' b (off+1) xs)(n:Int){u:Ra}(d:w.cell? (Ki b off)=some u):Wrote w (w'.setCell (Ki b off) (.int .u8 n)) b off (n::xs):=by
 have aA:w'.cell? (Ki b off)=some u:=(h.outside off (.inl ω)).E d;refine⟨h.os,h.tape,h.output,?_,λk c=>?_,λi e=>?_,λo f=>?_,λa=>?_⟩
 .rw[<-h.size];simp[World.setCell]
 .rw[BM _ _ _ _ c];exact h.others k c
 .cases i with
  | zero=>simpa using FJ w' ⟨b,off,none⟩ (.int .u8 n) aA
  | succ i =>
   rw[DE (w:=w') (h:=show((Ki b off):Addr)≠(Ki b (off+(i+1))) by simp)];have:=h.inside i (by simpa using e);rw[show off+(i+1)=off+1+i by omega,this];simp
 .simp only[BN]at f
  rw[DE (w:=w') (h:=show((Ki b off):Addr)≠(Ki b o) by simp<;>omega)];exact h.outside o ω
 rw[BW];exact h.frozen a
@[reducible] def sJ(a b c d e f g h i:Int)(y:Ra):List Ra:=[Z a,Z b,Z c,Z d,Z e,Z f,Z g,Z h,Z i,y]
@[reducible] def sK(a b c d e f g h i:Int)(y:Ra):Array Ra:=#[Z a,Z b,Z c,Z d,Z e,Z f,Z g,Z h,Z i,y]
@[reducible] def dJ(z a b c d e f g h i:Int)(y x:Ra):List Ra:=[Z z,Z a,Z b,Z c,Z d,Z e,Z f,Z g,Z h,Z i,y,x]
@[reducible] def dK(z a b c d e f g h i:Int)(y x:Ra):Array Ra:=#[Z z,Z a,Z b,Z c,Z d,Z e,Z f,Z g,Z h,Z i,y,x]
theorem PS:(∀(a:Act) (t:Nat) (v:Ra),a.put (some t) v={ a with tmps:=a.tmps.setIfInBounds t v })/\(∀(a:Act) (v:Ra),a.put none v=a)/\(∀(l:List Ra) (i:Nat) (v:Ra),l.toArray.setIfInBounds i v=(l.set i v).toArray)/\(∀(x y:Ra) (l:List Ra),(x::l).set 0 y=y::l)/\(∀(x y:Ra) (l:List Ra) (n:Nat),(x::l).set (n+1) y=x::l.set n y)/\(∀(l:List Oper) (i:Nat) (h:i<l.toArray.size),l.toArray[i]=l[i]'(by simpa using h))/\(∀(x:Oper) (l:List Oper) (h:0<(x::l).length),(x::l)[0]'h=x)/\(∀(x:Oper) (l:List Oper) (i:Nat) (h:i+1<(x::l).length),(x::l)[i+1]'h=l[i]'(by simpa using h)) :=⟨λ_ _ _=>z,λ_ _=>z,λ_ _ _=>j,λ_ _ _=>z,λ_ _ _ _=>z,λ_ _ _=>j,λ_ _ _=>z,λ_ _ _ _=>z⟩
theorem TK(i:Nat)(v:Ra)(f:aB[i]?=some oi)(l:YieldsIf P aB S oi v a)(d:S w)
  (h:wpAnyH P md aB Q S aC (aA.setIfInBounds i true) (a.put oi.dst v) w)(k:Region.noSelect aB=true:=by kernel_rfl)(e:Region.free md aB aA i=true:=by kernel_rfl)(j:(Region.ready md aB aA).contains i=true:=by kernel_rfl)
  (b:∀c a w,Q (.panic c) (a.put oi.dst v) w->Q (.panic c) a w:=by exactλ_ _ _ h=>h):wpAnyH P md aB Q S (aC+1) aA a w:=wpAnyH_take f k e j b l d h
theorem TY(i:Nat)(v:Ra)(k:aB[i]?=some oi)(e:S w)
  (h:wpAnyH P md aB Q S aC (aA.setIfInBounds i true) (a.put oi.dst v) w)(n:YieldsIf P aB S oi v a:=by exact AT ⟨ρ,λw hw=>by(repeat (obtain⟨_,hw⟩:=hw));go_simp⟩)(m:Region.noSelect aB=true:=by kernel_rfl)(j:Region.free md aB aA i=true:=by kernel_rfl)(l:(Region.ready md aB aA).contains i=true:=by kernel_rfl)
  (d:∀c a w,Q (.panic c) (a.put oi.dst v) w->Q (.panic c) a w:=by exactλ_ _ _ h=>h):wpAnyH P md aB Q S (aC+1) aA a w:=wpAnyH_take k m j l d n e h
theorem TZ(i:Nat)(v:Ra)(k:aB[i]?=some oi)(e:S w)
  (h:wpAnyH P md aB Q S aC (aA.setIfInBounds i true) (a.put oi.dst v) w)(n:YieldsIf P aB S oi v a:=by exact AT ⟨ρ,λw hw=>by(repeat (obtain⟨_,hw⟩:=hw));go_simp;all_goals omega⟩)(m:Region.noSelect aB=true:=by kernel_rfl)(j:Region.free md aB aA i=true:=by kernel_rfl)(l:(Region.ready md aB aA).contains i=true:=by kernel_rfl)
  (d:∀c a w,Q (.panic c) (a.put oi.dst v) w->Q (.panic c) a w:=by exactλ_ _ _ h=>h):wpAnyH P md aB Q S (aC+1) aA a w:=wpAnyH_take k m j l d n e h
theorem RD{aC:Array Oper}{aB:Nat}(i:Nat){o:Oper}(c:aC[i]?=some o)
  (h:∀b:Act->Q9->Prop,Shut (∀a w,S w->(S w->wpAnyH P md aC Q S aB (aA.setIfInBounds i true) a w)->b a w)->if Region.wanted o (yielded aC a.tmps)=true then Oper.wp P o a w b Q else b (a.put o.dst undef) w)
  (b:Region.ready md aC aA=[i]:=by kernel_rfl):wpAnyH P md aC Q S (aB+1) aA a w:=EU b j (DA c h EQ)
theorem DN{aC:Array Oper}{aB:Nat}(h:Q .normal a w)(b:Region.ready md aC aA=[]:=by kernel_rfl):wpAnyH P md aC Q S aB aA a w:=wpAnyH_done b h _
theorem LE{p:Prop}(h:p):Hid p:=h
theorem qM{k:IntKind}{a b:Int}(h:a=b):Q2 (.int k a)=Q2 (.int k b):=by rw[h]
def Strs(w:Q9)(a:Q5)(ss:List Q4):Prop :=ss=[]\/∃b o,a=Hw b o/\b<w.heap.size/\∀i,i<ss.length->w.cell? (Ki b (o+i))=some (Ow (ss.getD i empty))
def Wrs(w:Q9)(a:Q5)(ws:List (Int×Q4)):Prop :=ws=[]\/∃b o,a=Hw b o/\b<w.heap.size/\∀i,i<ws.length->w.cell? (Ki b (o+i*2))=some (Z (ws.getD i (0,empty)).1)/\w.cell? (Ki b (o+i*2+1))=some (Ow (ws.getD i (0,empty)).2)
theorem Strs.I{a:Q5}(h:Strs w a ss)(d:Q3 w w'):Strs w' a ss:=by
 rcases h with h|⟨b,o,e,c,f⟩
 .exact .inl h
 exact .inr ⟨b,o,e,AC c d.size,λi j=>(d.cell (p:=(Ki b (o+i))) c).E (f i j)⟩
theorem Wrs.I{a:Q5}(h:Wrs w a ws)(d:Q3 w w'):Wrs w' a ws:=by
 rcases h with h|⟨b,o,j,c,e⟩
 .exact .inl h
 exact .inr ⟨b,o,j,AC c d.size,λi f=>⟨(d.cell (p:=(Ki b (o+i*2))) c).E (e i f).1,(d.cell (p:=(Ki b (o+i*2+1))) c).E (e i f).2⟩⟩
theorem Strs.at{a:Q5}(h:Strs w a ss){k:Nat}(c:k<ss.length):∃b o s,a=Hw b o/\w.cell? (Ki b (o+k))=some (Ow s)/\Hid (s=ss.getD k empty):=by
 rcases h with h|⟨b,o,d,f,e⟩
 .subst h;simp at c
 exact⟨b,o,_,d,e k c,LE rfl⟩
theorem Wrs.at{a:Q5}(h:Wrs w a ws){k:Nat}(c:k<ws.length):∃b o n s,a=Hw b o/\w.cell? (Ki b (o+k*2))=some (Z n)/\w.cell? (Ki b (o+k*2+1))=some (Ow s)/\Hid ((n,s)=ws.getD k (0,empty)):=by
 rcases h with h|⟨b,o,e,f,d⟩
 .subst h;simp at c
 exact⟨b,o,_,_,e,(d k c).1,(d k c).2,LE rfl⟩
theorem eg{α:Type}(l:List α)(k:Nat)(d:α)(h:k<l.length):l.drop k=l.getD k d::l.drop (k+1):=by
 rw[FW h];simp[List.getD,h]
theorem OG{p:Addr}{x:Option Ra}(h:Below N w w')(b:w.cell? p=x)(c:p.block<N:=by simp<;>omega):w'.cell? p=x:=(h.cell c).E b
theorem UL{p:Addr}{x:Bool}(h:Below N w w')(b:w.frozen? p=x)(c:p.block<N:=by simp<;>omega):w'.frozen? p=x:=(h.frozen c).E b
theorem k3(h:Below N w w')(g:Nat)(a b c:Ra)(j:w.cell? (Ki g 0)=some a:=by go_simp)(e:w.frozen? (Ki g 0)=false:=by go_simp)(k:w.cell? (Ki g 1)=some b:=by go_simp)(f:w.frozen? (Ki g 1)=false:=by go_simp)(l:w.cell? (Ki g 2)=some c:=by go_simp)(i:w.frozen? (Ki g 2)=false:=by go_simp)(d:g<N:=by simp<;>omega):w'.cell? (Ki g 0)=some a/\w'.frozen? (Ki g 0)=false/\w'.cell? (Ki g 1)=some b/\w'.frozen? (Ki g 1)=false/\w'.cell? (Ki g 2)=some c/\w'.frozen? (Ki g 2)=false:=⟨OG h j d,UL h e d,OG h k d,UL h f d,OG h l d,UL h i d⟩
theorem LH(w:Q9)(o:Obj):Q3 w (w.alloc o):=(D).alloc C _
theorem OF{v:Ending}{K:Ending->Q9->Prop}(h:K v w):∀e w',e=v/\w'=w->K e w':=λ_ _ k=>by rw[k.1,k.2];exact h
structure Row(w:Q9)(g:Nat)(cs:List Ra):Prop where
 lt:g<w.heap.size
 cell:∀i v,cs[i]?=some v->w.cell? (Ki g i)=some v
 froz:∀i,i<cs.length->w.frozen? (Ki g i)=false
theorem Row.y{w:Q9}{g:Nat}{cs:List Ra}(h:Row w g cs)(i:Nat){v:Ra}(hv:cs[i]?=some v:=by rfl):w.cell? (Ki g i)=some v:=h.cell i v hv
theorem Row.A{w:Q9}{g:Nat}{cs:List Ra}(h:Row w g cs)(i:Nat)(b:i<cs.length:=by simp):w.frozen? (Ki g i)=false:=h.froz i b
theorem Row.I(h:Row w g cs)(b:Q3 w w'):Row w' g cs :=⟨AC h.lt b.size,λi v hv=>(b.cell (p:=(Ki g i)) h.lt).E (h.cell i v hv),λi c=>(b.frozen (p:=(Ki g i)) h.lt).E (h.froz i c)⟩
theorem Row.set(h:Row w g cs)(k:Nat)(d:k<cs.length)(v:Ra):Row (w.setCell (Ki g k) v) g (cs.set k v):=by
 refine⟨by simpa[World.setCell] using h.lt,λi u b=>?_,λi f=>?_⟩
 .by_cases c:i=k
  .subst c
   rw[JM d]at b
   cases b
   exact FJ w _ _ (h.cell i _ (AO d))
  rw[IW (λe=>c e.symm)]at b
  rw[DE (w:=w) (h:=show((Ki g k):Addr)≠(Ki g i) by simp<;>omega)];exact h.cell i u b
 rw[BW];exact h.froz i (by simpa using f)
theorem Row.other(h:Row w g cs)(p:Addr)(c:p.block≠g)(v:Ra):Row (w.setCell p v) g cs:=by
 refine⟨by simpa[World.setCell] using h.lt,λi u d=>?_,λi b=>?_⟩
 .rw[DE (w:=w) (h:=λe=>c (by rw[e]))];exact h.cell i u d
 rw[BW];exact h.froz i b
theorem Row.drew(h:Row w g cs):Row w.drew g cs:=⟨h.lt,h.cell,h.froz⟩
theorem Row.drewN(h:Row w g cs)(q:Nat):Row (w.drewN q) g cs:=h.I (below_drewN AB q)
theorem Row.alloc(h:Row w g cs)(o:Obj):Row (w.alloc o) g cs:=h.I (LH _ _)
theorem Es(w:Q9)(b o:Nat)(h:w.heap.size<=b):w.frozen? (Ki b o)=false:=by
 have e:w.heap[b]?=none:=by simp[h]
 simp[World.frozen?,e]
theorem LZ(w:Q9)(A:Array Ra)(t:TypeId):Row (w.alloc (.cells A t)) w.heap.size A.toList :=⟨j,λi v hv=>by rw[EI _ _ _ _ z];simpa using hv,λi b=>by rw[DU];exact Es _ _ _ C⟩
theorem Row.strs(h:Row w g (ss.map Value.string)):Strs w (Hw g 0) ss :=.inr ⟨g,0,rfl,h.lt,λi b=>by
  rw[BK]
  exact h.cell i _ (by simp[List.getD,b])⟩
def MZ(ws:List (Int×Q4)):List Ra:=ws.flatMap λx=>[Z x.1,Ow x.2]
theorem El(a b:List (Int×Q4)):MZ (a++b)=MZ a++MZ b:=by simp[MZ]
theorem jv(ws:List (Int×Q4)):(MZ ws).length=ws.length*2:=by
 induction ws with
 | nil=>rfl
 | cons x r b=>simp[MZ]at b⊢;omega
theorem rv:∀(ws:List (Int×Q4)) (i:Nat),i<ws.length->(MZ ws)[i*2]?=some (Z (ws.getD i (0,empty)).1)/\(MZ ws)[i*2+1]?=some (Ow (ws.getD i (0,empty)).2)
 | x::r,0,_=>by simp[MZ]
 | x::r,i+1,h=>by
  have b:=rv r i (by simpa using h);have e:MZ (x::r)=Z x.1::Ow x.2::MZ r:=by simp[MZ]
  rw[e,show(i+1)*2=i*2+2 by omega];simpa using b
theorem Row.wrs(h:Row w g (MZ ws)):Wrs w (Hw g 0) ws :=.inr ⟨g,0,rfl,h.lt,λi b=>by
  rw[BK]
  exact⟨h.cell _ _ (rv ws i b).1,h.cell _ _ (rv ws i b).2⟩⟩
theorem vm{k:Array Oper}{aC:List Oper}{o:Oper}
  (y:o.guard=none)(l c:Operand)(t:TypeId)(q:o.op=Op.makeSlice t l c)(e:TypeId)(z:Ra)(b aA:Nat)(C:P.underlying t=some (.slice e))(aB:(P.info? e).map (λi=>(i.zero,i.size,i.bytes))=some (some z,b,aA))
  (n:Nat)(B:a.eval l=Z (n:Int))(x:a.eval c=Z (n:Int))(D:aA*n<=281474976710656)(E:n<=281474976710656)
  (h:∀f,Row f w.heap.size (madeCells z.cells (n*b)).toList->Q3 w f->f.heap.size=w.heap.size+1->wpList P k Q aC (a.put o.dst (Y (Hw w.heap.size 0) n n)) f):wpList P k Q (o::aC) a w:=by
 refine IG y λK v=>?_
 obtain⟨i,A,f⟩:=EC.1 aB;simp only[EK]at f;obtain⟨r,s,u⟩:=f;subst s u
 have p:(i.bytes:Int)*(n:Int)<=281474976710656:=by
  have:((i.bytes*n:Nat):Int)<=281474976710656:=d
  rwa [Int.natCast_mul]at this
 have m:=run_make (P:=P) w t e i z C A r .i64 .i64 n n d (Int.le_refl _) p d;simp only[DO]at m;unfold Oper.wp;simp[execOp,q,B,x,m,Result.andThen];exact v _ _ (h _ (LZ _ _ _) (LH _ _) j)
theorem N6(n:Nat):(madeCells (Ow empty).cells (n*1)).toList=List.replicate n (Ow empty):=by
 unfold madeCells;rw[JX,KV,KI];rw[JP];refine⟨j,λb c=>?_⟩;obtain⟨i,_,rfl⟩:=DW.1 c;have:i % (Ow empty).cells.size=0:=by simp[Value.cells,Nat.mod_one]
 rw[this];rfl
end
section
open Tryz
open Go
theorem SX{P:Program}(w:Q9){B:Array Oper}{A:List Oper}{o:Oper}{a:Act}{Q:Exit->Act->Q9->Prop}(F:o.guard=none)(s x:Operand)(t:TypeId)
  (N:o.op=.call { callee:=.builtin .append,args:=#[s,x],argTypes:=#[t,t] })
  (f:Nat){e:TypeId}{i:TypeInfo}{z:Ra}{b q:Nat}(R:P.underlying t=some (.slice e))(l:P.info? e=some i/\i.zero=some z/\i.size=b/\i.bytes=q)(I:z.cells.size=b)(G:0<b)
  (v:Ra)(n:Nat)(y:List Ra)(O:a.eval s=v)(E:w.ownsRow f e b v n y)
  (r:Addr)(m c:Nat)(d:List Ra)(S:a.eval x=Y (some r) m c)(L:d.length=m*b)(D:∀j u,d[j]?=some u->w.cell? (r.add j)=some u)(J:∀u∈d,u.oneCell'=true)
  (C:f<=w.heap.size)(H:Nat)(K:w.heap.size=H)
  (h:∀g k p,p.ownsRow f e b (Y (Hw g 0) (n+m) k) (n+m) (y++d)->w.grownBy p v.ownBlock->(v.ownBlock=some g\/g=H)->g<p.heap.size->wpList P B Q A (a.put o.dst (Y (Hw g 0) (n+m) k)) p)(M:0<m:=by omega)(u:n+m<=maxLen:=by unfold maxLen;omega)(j:(n+m)*q<=140737488355328:=by omega):wpList P B Q (o::A) a w :=wpList_append_lies w F s x t N f e i z b q R l.1 l.2.1 l.2.2.1 l.2.2.2 I G v n y O E r m c d S L D J M u j C H K h
theorem UG{P:Program}(w:Q9){I:Array Oper}{o:Oper}{a:Act}{K:Act->Q9->Prop}{Q:Exit->Act->Q9->Prop}{E:Prop}(D:o.guard=none)(s x:Operand)(t:TypeId)
  (O:o.op=.call { callee:=.builtin .append,args:=#[s,x],argTypes:=#[t,t] })
  (f:Nat){e:TypeId}{i:TypeInfo}{z:Ra}{b q:Nat}(S:P.underlying t=some (.slice e))(l:P.info? e=some i/\i.zero=some z/\i.size=b/\i.bytes=q)(G:z.cells.size=b)(F:0<b)
  (v:Ra)(n:Nat)(y:List Ra)(R:a.eval s=v)(C:w.ownsRow f e b v n y)
  (r:Addr)(m c:Nat)(d:List Ra)(T:a.eval x=Y (some r) m c)(M:d.length=m*b)(B:∀j u,d[j]?=some u->w.cell? (r.add j)=some u)(J:∀u∈d,u.oneCell'=true)
  (A:f<=w.heap.size)(H:Nat)(L:w.heap.size=H)
  (h:∀g k p,p.ownsRow f e b (Y (Hw g 0) (n+m) k) (n+m) (y++d)->w.grownBy p v.ownBlock->(v.ownBlock=some g\/g=H)->g<p.heap.size->K (a.put o.dst (Y (Hw g 0) (n+m) k)) p)(N:0<m:=by omega)(u:n+m<=maxLen:=by unfold maxLen;omega)(j:(n+m)*q<=140737488355328:=by omega):if Region.wanted o (yielded I a.tmps)=true then Oper.wp P o a w K Q else E :=step_append_lies w D s x t O f e i z b q S l.1 l.2.1 l.2.2.1 l.2.2.2 G F v n y R C r m c d T M B J N u j A H L h
end
section
open Tryz
open Go.RowKit
variable {v:Q4}{rs:List (Q4×Q4)}{ws:List (Int×Q4)}{ss:List Q4}{cs r xs:List Ra}{base cap g hi k lo n size:Nat}{a:Q5}{e:TypeId}{a0 a1 a2 a3 a4 a5 a6 a7 a8 a9 aA aB aC aD aE aF v0 v1 v2 v3 v4 v5 v6 v7 v8 v9:Ra}{b w w' w1:Q9}{F:Q9->Prop}
theorem Row.k3(h:Row w g (v0::v1::v2::r)):w.cell? (Ki g 0)=some v0/\w.cell? (Ki g 1)=some v1/\w.cell? (Ki g 2)=some v2:=⟨h.y 0,h.y 1,h.y 2⟩
theorem Row.k4(h:Row w g (v0::v1::v2::v3::r)):w.cell? (Ki g 0)=some v0/\w.cell? (Ki g 1)=some v1/\w.cell? (Ki g 2)=some v2/\w.cell? (Ki g 3)=some v3:=⟨h.y 0,h.y 1,h.y 2,h.y 3⟩
theorem Row.k10(h:Row w g (v0::v1::v2::v3::v4::v5::v6::v7::v8::v9::r)):w.cell? (Ki g 0)=some v0/\w.cell? (Ki g 1)=some v1/\w.cell? (Ki g 2)=some v2/\w.cell? (Ki g 3)=some v3/\w.cell? (Ki g 4)=some v4/\w.cell? (Ki g 5)=some v5/\w.cell? (Ki g 6)=some v6/\w.cell? (Ki g 7)=some v7/\w.cell? (Ki g 8)=some v8/\w.cell? (Ki g 9)=some v9:=⟨h.y 0,h.y 1,h.y 2,h.y 3,h.y 4,h.y 5,h.y 6,h.y 7,h.y 8,h.y 9⟩
theorem Row.k12(h:Row w g (v0::v1::v2::v3::v4::v5::v6::v7::v8::v9::aA::aB::r)):w.cell? (Ki g 0)=some v0/\w.cell? (Ki g 1)=some v1/\w.cell? (Ki g 2)=some v2/\w.cell? (Ki g 3)=some v3/\w.cell? (Ki g 4)=some v4/\w.cell? (Ki g 5)=some v5/\w.cell? (Ki g 6)=some v6/\w.cell? (Ki g 7)=some v7/\w.cell? (Ki g 8)=some v8/\w.cell? (Ki g 9)=some v9/\w.cell? (Ki g 10)=some aA/\w.cell? (Ki g 11)=some aB:=⟨h.y 0,h.y 1,h.y 2,h.y 3,h.y 4,h.y 5,h.y 6,h.y 7,h.y 8,h.y 9,h.y 10,h.y 11⟩
theorem Row.k16(h:Row w g (v0::v1::v2::v3::v4::v5::v6::v7::v8::v9::aA::aB::aC::aD::aE::aF::r)):w.cell? (Ki g 0)=some v0/\w.cell? (Ki g 1)=some v1/\w.cell? (Ki g 2)=some v2/\w.cell? (Ki g 3)=some v3/\w.cell? (Ki g 4)=some v4/\w.cell? (Ki g 5)=some v5/\w.cell? (Ki g 6)=some v6/\w.cell? (Ki g 7)=some v7/\w.cell? (Ki g 8)=some v8/\w.cell? (Ki g 9)=some v9/\w.cell? (Ki g 10)=some aA/\w.cell? (Ki g 11)=some aB/\w.cell? (Ki g 12)=some aC/\w.cell? (Ki g 13)=some aD/\w.cell? (Ki g 14)=some aE/\w.cell? (Ki g 15)=some aF:=⟨h.y 0,h.y 1,h.y 2,h.y 3,h.y 4,h.y 5,h.y 6,h.y 7,h.y 8,h.y 9,h.y 10,h.y 11,h.y 12,h.y 13,h.y 14,h.y 15⟩
theorem Row.z2(h:Row w g (v0::v1::r)):w.frozen? (Ki g 0)=false/\w.frozen? (Ki g 1)=false:=⟨h.A 0,h.A 1⟩
theorem Row.z3(h:Row w g (v0::v1::v2::r)):w.frozen? (Ki g 0)=false/\w.frozen? (Ki g 1)=false/\w.frozen? (Ki g 2)=false:=⟨h.A 0,h.A 1,h.A 2⟩
theorem Row.z4(h:Row w g (v0::v1::v2::v3::r)):w.frozen? (Ki g 0)=false/\w.frozen? (Ki g 1)=false/\w.frozen? (Ki g 2)=false/\w.frozen? (Ki g 3)=false:=⟨h.A 0,h.A 1,h.A 2,h.A 3⟩
theorem Row.z12(h:Row w g (v0::v1::v2::v3::v4::v5::v6::v7::v8::v9::aA::aB::r)):w.frozen? (Ki g 0)=false/\w.frozen? (Ki g 1)=false/\w.frozen? (Ki g 2)=false/\w.frozen? (Ki g 3)=false/\w.frozen? (Ki g 4)=false/\w.frozen? (Ki g 5)=false/\w.frozen? (Ki g 6)=false/\w.frozen? (Ki g 7)=false/\w.frozen? (Ki g 8)=false/\w.frozen? (Ki g 9)=false/\w.frozen? (Ki g 10)=false/\w.frozen? (Ki g 11)=false:=⟨h.A 0,h.A 1,h.A 2,h.A 3,h.A 4,h.A 5,h.A 6,h.A 7,h.A 8,h.A 9,h.A 10,h.A 11⟩
theorem Row.z16(h:Row w g (v0::v1::v2::v3::v4::v5::v6::v7::v8::v9::aA::aB::aC::aD::aE::aF::r)):w.frozen? (Ki g 0)=false/\w.frozen? (Ki g 1)=false/\w.frozen? (Ki g 2)=false/\w.frozen? (Ki g 3)=false/\w.frozen? (Ki g 4)=false/\w.frozen? (Ki g 5)=false/\w.frozen? (Ki g 6)=false/\w.frozen? (Ki g 7)=false/\w.frozen? (Ki g 8)=false/\w.frozen? (Ki g 9)=false/\w.frozen? (Ki g 10)=false/\w.frozen? (Ki g 11)=false/\w.frozen? (Ki g 12)=false/\w.frozen? (Ki g 13)=false/\w.frozen? (Ki g 14)=false/\w.frozen? (Ki g 15)=false:=⟨h.A 0,h.A 1,h.A 2,h.A 3,h.A 4,h.A 5,h.A 6,h.A 7,h.A 8,h.A 9,h.A 10,h.A 11,h.A 12,h.A 13,h.A 14,h.A 15⟩
def Prs(w:Q9)(a:Q5)(rs:List (Q4×Q4)):Prop :=rs=[]\/∃b o,a=Hw b o/\b<w.heap.size/\∀i,i<rs.length->w.cell? (Ki b (o+i*2))=some (Ow (rs.getD i (empty,empty)).1)/\w.cell? (Ki b (o+i*2+1))=some (Ow (rs.getD i (empty,empty)).2)
theorem Prs.I(h:Prs w a rs)(d:Q3 w w'):Prs w' a rs:=by
 rcases h with h|⟨b,o,j,c,f⟩
 .exact .inl h
 exact .inr ⟨b,o,j,AC c d.size,λi hi=>⟨(d.cell (p:=(Ki b (o+i*2))) c).E (f i hi).1,(d.cell (p:=(Ki b (o+i*2+1))) c).E (f i hi).2⟩⟩
theorem Prs.at(h:Prs w a rs)(c:k<rs.length):∃b o d f,a=Hw b o/\w.cell? (Ki b (o+k*2))=some (Ow d)/\w.cell? (Ki b (o+k*2+1))=some (Ow f)/\Hid ((d,f)=rs.getD k (empty,empty)):=by
 rcases h with h|⟨b,o,f,i,d⟩
 .subst h;simp at c
 exact⟨b,o,_,_,f,(d k c).1,(d k c).2,LE rfl⟩
def LS(rs:List (Q4×Q4)):List Ra:=rs.flatMap λx=>[Ow x.1,Ow x.2]
theorem XZ(a b:List (Q4×Q4)):LS (a++b)=LS a++LS b:=by simp[LS]
theorem aw(rs:List (Q4×Q4)):(LS rs).length=rs.length*2:=by
 induction rs with
 | nil=>rfl
 | cons x r c=>simp[LS]at c⊢;omega
theorem py:∀(rs:List (Q4×Q4)) (i:Nat),i<rs.length->(LS rs)[i*2]?=some (Ow (rs.getD i (empty,empty)).1)/\(LS rs)[i*2+1]?=some (Ow (rs.getD i (empty,empty)).2)
 | x::r,0,_=>by simp[LS]
 | x::r,i+1,h=>by
  have c:=py r i (by simpa using h);have e:LS (x::r)=Ow x.1::Ow x.2::LS r:=by simp[LS]
  rw[e,show(i+1)*2=i*2+2 by omega];simpa using c
theorem Row.prs(h:Row w g (LS rs)):Prs w (Hw g 0) rs :=.inr ⟨g,0,rfl,h.lt,λi hi=>by
  rw[BK]
  exact⟨h.cell _ _ (py rs i hi).1,h.cell _ _ (py rs i hi).2⟩⟩
@[reducible] def LX(a:Q5)(n c:Nat):Ra:=.agg #[Y a n c]
theorem xi{a b:Q4}(h:a=b):Q2 (Ow a)=Q2 (Ow b):=by rw[h]
theorem xu(w:Q9)(n:Int):(convert 22 9 (Y (Hw w.heap.size 0) 1 1)).run prog (w.alloc (.cells #[.int .u8 n] 5))=.ok (Ow (strOfNums [n])) (w.alloc (.cells #[.int .u8 n] 5)) :=EO (P:=prog) _ 22 5 underlying22 underlying5 w.heap.size 0 1 1 [n] z (λi hi=>by
  have:i=0:=d
  subst this;simp) 9 underlying9
theorem OE{a c:Q9}{r:Option Nat}(h:a.grownBy b r)(k:b.grownBy c r):a.grownBy c r :=⟨k.os.E h.os,k.tape.E h.tape,k.output.E h.output,AJ h.size k.size,λi hi d=>(k.block i (AC hi h.size) d).E (h.block i hi d)⟩
theorem VS{a:Q9}(r:Option Nat)(h:Q3 a b):a.grownBy b r:=⟨h.os,h.tape,h.output,h.size,λi hi _=>h.block i hi⟩
theorem NZ{a:Q9}(h:a.grownBy b (some g))(i:Nat)(v:Ra):a.grownBy (b.setCell (Ki g i) v) (some g) :=OE h ⟨z,z,z,by simp[World.setCell],λj _ c=>BM _ _ _ _ (λe=>c (by rw[e]))⟩
theorem MU{a:Q9}{r:Option Nat}{B:Nat}(h:a.grownBy b r)(f:B<=a.heap.size)(c:∀g,r=some g->B<=g):Below B a b :=⟨h.os,h.tape,h.output,h.size,λk i=>h.block k d (λe=>by have:=c k e.symm;omega)⟩
theorem Row.V{r:Option Nat}(h:Row w g cs)(c:w.grownBy w' r)(d:some g≠r):Row w' g cs :=⟨AC h.lt c.size,λi v hv=>(DT (a:=(Ki g i)) (c.block g h.lt d)).E (h.cell i v hv),λi hi=>(GR (a:=(Ki g i)) (c.block g h.lt d)).E (h.froz i hi)⟩
def OwnS(w:Q9)(a:Q5)(cs:List Ra):Prop:=cs=[]\/∃g,a=Hw g 0/\Row w g cs
def blk(a:Q5)(n:Nat):Option Nat:=if n=0 then none else a.map (·.block)
theorem ND(b o:Nat)(n:Nat)(h:n≠0):blk (Hw b o) n=some b:=by simp[blk,h]
structure OwnD(w:Q9)(a:Q5)(ss:List Q4)(a':Q5)(ws:List (Int×Q4)):Prop where
 s:OwnS w a (ss.map Value.string)
 p:OwnS w a' (MZ ws)
 ne:blk a ss.length=none\/blk a' ws.length=none\/blk a ss.length≠blk a' ws.length
theorem OwnS.I(h:OwnS w a cs)(f:Q3 w w'):OwnS w' a cs:=by
 rcases h with h|⟨g,c,d⟩
 .exact .inl h
 exact .inr ⟨g,c,d.I f⟩
theorem OwnS.V{r:Option Nat}(h:OwnS w a cs)(i:w.grownBy w' r)(j:∀g,a=Hw g 0->cs≠[]->some g≠r):OwnS w' a cs:=by
 by_cases c:cs=[]
 .exact .inl c
 obtain⟨g,d,f⟩:=h.resolve_left c
 exact .inr ⟨g,d,f.V i (j g d c)⟩
theorem OwnS.lt(h:OwnS w a cs)(n:Nat)(j:n≠0->cs≠[]):∀g,blk a n=some g->g<w.heap.size:=λg d=>by
 by_cases c:n=0
 .subst c;cases d
 obtain⟨f,rfl,i⟩:=h.resolve_left (j c)
 rw[ND f 0 n c]at d
 cases d
 exact i.lt
theorem OwnD.I{c:Q5}(h:OwnD w a ss c ws)(d:Q3 w w'):OwnD w' a ss c ws:=⟨h.s.I d,h.p.I d,h.ne⟩
theorem OwnS.strs(h:OwnS w a (ss.map Value.string)):Strs w a ss:=by
 rcases h with h|⟨g,rfl,c⟩
 .exact .inl (by simpa using h)
 exact c.strs
theorem OwnS.wrs(h:OwnS w a (MZ ws)):Wrs w a ws:=by
 rcases h with h|⟨g,rfl,c⟩
 .exact .inl (by have:=BD List.length h;rw[jv,AU]at this;exact AD ω)
 exact c.wrs
theorem ph(h:ss.length≠0):ss.map Value.string≠[]:=λe=>h (by have:=BD List.length e;simpa using this)
theorem YP(h:ss.map Value.string≠[]):ss.length≠0:=λe=>h (by rw[AD e];rfl)
theorem iy(h:MZ ws≠[]):ws.length≠0:=λe=>h (by rw[AD e];rfl)
structure Dep(w:Q9)(lo hi:Nat)(F:Q9->Prop):Prop where
 q:F w
 top:hi<=w.heap.size
 keep:∀w':Q9,(∀b,lo<=b->b<hi->w'.heap[b]?=w.heap[b]?)->hi<=w'.heap.size->F w'
theorem Dep.I(h:Dep w lo hi F)(c:Q3 w w'):Dep w' lo hi F :=⟨h.keep w' (λb _ d=>c.block b (AC d h.top)) (AJ h.top c.size),AJ h.top c.size,λl d i=>h.keep l (λb j f=>(d b j f).E (c.block b (AC f h.top))) i⟩
theorem Dep.V{r:Option Nat}(h:Dep w lo hi F)(d:w.grownBy w' r)(l:∀g,r=some g->g<lo\/hi<=g):Dep w' lo hi F:=by
 have aA:∀b,lo<=b->b<hi->w'.heap[b]?=w.heap[b]?:=λb f c=>d.block b (AC c h.top) (λe=>by have:=l b e.symm;omega)
 exact⟨h.keep w' aA (AJ h.top d.size),AJ h.top d.size,λm c j=>h.keep m (λb f i=>(c b f i).E (aA b f i)) j⟩
theorem Dep.and{G:Q9->Prop}(h:Dep w lo hi F)(k:Dep w lo hi G):Dep w lo hi (λw=>F w/\G w):=⟨⟨h.q,k.q⟩,h.top,λw' c d=>⟨h.keep w' c d,k.keep w' c d⟩⟩
theorem Dep.wide{aB aA:Nat}(h:Dep w lo hi F)(i:aB<=lo)(j:hi<=aA)(d:aA<=w.heap.size):Dep w aB aA F:=⟨h.q,d,λw' f l=>h.keep w' (λb a c=>f b ω ω) ω⟩
theorem VM(h:Row w g cs)(e:w'.heap[g]?=w.heap[g]?)(c:g<w'.heap.size):Row w' g cs :=⟨c,λi v hv=>by rw[<-h.cell i v hv];simp[World.cell?,e],λi hi=>by rw[<-h.froz i hi];simp[World.frozen?,e]⟩
theorem jl(h:Row w g cs)(c:lo<=g)(f:g<hi)(i:hi<=w.heap.size):Dep w lo hi (λw=>Row w g cs):=⟨h,i,λw' j l=>VM h (j g c f) d⟩
theorem RX(h:OwnS w a cs)(i:cs≠[]->n≠0)(f:∀g,blk a n=some g->lo<=g):Dep w lo w.heap.size (λw=>OwnS w a cs) :=⟨h,C,λw' j l=>by
  by_cases c:cs=[]
  .exact .inl c
  obtain⟨g,rfl,d⟩:=h.resolve_left c
  exact .inr ⟨g,z,VM d (j g (f g (ND _ _ _ (i c))) d.lt) (AC d.lt l)⟩⟩
theorem Dep.cut(h:Dep w lo w.heap.size (λw=>OwnS w a cs))(d:∀g,a=Hw g 0->cs≠[]->g<hi)(f:hi<=w.heap.size)(i:∀g,a=Hw g 0->cs≠[]->lo<=g):Dep w lo hi (λw=>OwnS w a cs) :=⟨h.q,f,λw' l m=>by
  by_cases c:cs=[]
  .exact .inl c
  obtain⟨g,rfl,j⟩:=h.q.resolve_left c
  exact .inr ⟨g,rfl,VM j (l g (i g rfl c) (d g rfl c)) (AC (d g rfl c) m)⟩⟩
theorem kp(h:blk (Hw g 0) n=some k):k=g:=by
 unfold blk at h
 split at h
 .cases h
 simp at h;exact h.symm
theorem Dep.low{N:Nat}(h:Dep w lo hi F)(c:Below N w w')(m:hi<=N):Dep w' lo hi F :=⟨h.keep w' (λb _ d=>c.block b ω) (AJ h.top c.size),AJ h.top c.size,λl d f=>h.keep l (λb i j=>(d b i j).E (c.block b ω)) f⟩
theorem Qr(w:Q9)(A:Array Ra)(t:TypeId):Dep (w.alloc (.cells A t)) w.heap.size (w.heap.size+1) (λW=>Row W w.heap.size A.toList):=jl (LZ w A t) C d j
theorem LP{v:Q9}{A:Array Ra}{t:TypeId}(e:w.alloc (.cells A t)=v):Q3 w v/\v.heap.size=w.heap.size+1/\Dep v w.heap.size (w.heap.size+1) (λW=>Row W w.heap.size A.toList):=by
 subst e;exact⟨LH _ _,j,jl (LZ w A t) C d j⟩
theorem c10(h:Row w g [a0,a1,a2,a3,a4,a5,a6,a7,a8,a9]):w.cell? (Ki g 0)=some a0/\w.cell? (Ki g 1)=some a1/\w.cell? (Ki g 2)=some a2/\w.cell? (Ki g 3)=some a3/\w.cell? (Ki g 4)=some a4/\w.cell? (Ki g 5)=some a5/\w.cell? (Ki g 6)=some a6/\w.cell? (Ki g 7)=some a7/\w.cell? (Ki g 8)=some a8/\w.cell? (Ki g 9)=some a9/\g<w.heap.size :=⟨h.y 0,h.y 1,h.y 2,h.y 3,h.y 4,h.y 5,h.y 6,h.y 7,h.y 8,h.y 9,h.lt⟩
theorem c12(h:Row w g [a0,a1,a2,a3,a4,a5,a6,a7,a8,a9,aA,aB]):w.cell? (Ki g 0)=some a0/\w.cell? (Ki g 1)=some a1/\w.cell? (Ki g 2)=some a2/\w.cell? (Ki g 3)=some a3/\w.cell? (Ki g 4)=some a4/\w.cell? (Ki g 5)=some a5/\w.cell? (Ki g 6)=some a6/\w.cell? (Ki g 7)=some a7/\w.cell? (Ki g 8)=some a8/\w.cell? (Ki g 9)=some a9/\w.cell? (Ki g 10)=some aA/\w.cell? (Ki g 11)=some aB/\g<w.heap.size :=⟨h.y 0,h.y 1,h.y 2,h.y 3,h.y 4,h.y 5,h.y 6,h.y 7,h.y 8,h.y 9,h.y 10,h.y 11,h.lt⟩
theorem c16(h:Row w g [a0,a1,a2,a3,a4,a5,a6,a7,a8,a9,aA,aB,aC,aD,aE,aF]):w.cell? (Ki g 0)=some a0/\w.cell? (Ki g 1)=some a1/\w.cell? (Ki g 2)=some a2/\w.cell? (Ki g 3)=some a3/\w.cell? (Ki g 4)=some a4/\w.cell? (Ki g 5)=some a5/\w.cell? (Ki g 6)=some a6/\w.cell? (Ki g 7)=some a7/\w.cell? (Ki g 8)=some a8/\w.cell? (Ki g 9)=some a9/\w.cell? (Ki g 10)=some aA/\w.cell? (Ki g 11)=some aB/\w.cell? (Ki g 12)=some aC/\w.cell? (Ki g 13)=some aD/\w.cell? (Ki g 14)=some aE/\w.cell? (Ki g 15)=some aF/\g<w.heap.size :=⟨h.y 0,h.y 1,h.y 2,h.y 3,h.y 4,h.y 5,h.y 6,h.y 7,h.y 8,h.y 9,h.y 10,h.y 11,h.y 12,h.y 13,h.y 14,h.y 15,h.lt⟩
def Pst(w:Q9)(a:Q5)(P:List (List (Q4×Q4))):Prop :=P=[]\/∃b o,a=Hw b o/\b<w.heap.size/\∀i,i<P.length->∃p c,w.cell? (Ki b (o+i))=some (Y p (P.getD i []).length c)/\Prs w p (P.getD i [])
theorem Pst.I{P:List (List (Q4×Q4))}(h:Pst w a P)(d:Q3 w w'):Pst w' a P:=by
 rcases h with h|⟨b,o,j,f,l⟩
 .exact .inl h
 refine .inr ⟨b,o,j,AC f d.size,λi hi=>?_⟩
 obtain⟨p,c,m,q⟩:=l i hi;exact⟨p,c,(d.cell (p:=(Ki b (o+i))) f).E m,q.I d⟩
theorem Pst.at{P:List (List (Q4×Q4))}(h:Pst w a P)(d:k<P.length):∃b o p c,a=Hw b o/\b<w.heap.size/\w.cell? (Ki b (o+k))=some (Y p (P.getD k []).length c)/\Hid (Prs w p (P.getD k [])):=by
 rcases h with h|⟨b,o,f,i,j⟩
 .subst h;simp at d
 obtain⟨p,c,l,m⟩:=j k d
 exact⟨b,o,p,c,f,i,l,LE m⟩
def Chs(w:Q9)(a:Q5)(rs:List (Q4×Q4×Bool)):Prop :=rs=[]\/∃b o,a=Hw b o/\b<w.heap.size/\∀i,i<rs.length->w.cell? (Ki b (o+i*3))=some (Ow (rs.getD i (empty,empty,false)).1)/\w.cell? (Ki b (o+i*3+1))=some (Ow (rs.getD i (empty,empty,false)).2.1)/\w.cell? (Ki b (o+i*3+2))=some (Q1 (rs.getD i (empty,empty,false)).2.2)
theorem Chs.I{rs:List (Q4×Q4×Bool)}(h:Chs w a rs)(d:Q3 w w'):Chs w' a rs:=by
 rcases h with h|⟨b,o,j,c,f⟩
 .exact .inl h
 exact .inr ⟨b,o,j,AC c d.size,λi hi=>⟨(d.cell (p:=(Ki b (o+i*3))) c).E (f i hi).1,(d.cell (p:=(Ki b (o+i*3+1))) c).E (f i hi).2.1,(d.cell (p:=(Ki b (o+i*3+2))) c).E (f i hi).2.2⟩⟩
theorem Chs.at{rs:List (Q4×Q4×Bool)}(h:Chs w a rs)(c:k<rs.length):∃b o f i d,a=Hw b o/\w.cell? (Ki b (o+k*3))=some (Ow f)/\w.cell? (Ki b (o+k*3+1))=some (Ow i)/\w.cell? (Ki b (o+k*3+2))=some (Q1 d)/\Hid ((f,i,d)=rs.getD k (empty,empty,false)):=by
 rcases h with h|⟨b,o,f,i,d⟩
 .subst h;simp at c
 exact⟨b,o,_,_,_,f,(d k c).1,(d k c).2.1,(d k c).2.2,LE rfl⟩
def NL(rs:List (Q4×Q4×Bool)):List Ra:=rs.flatMap λx=>[Ow x.1,Ow x.2.1,Q1 x.2.2]
theorem oU(a b:List (Q4×Q4×Bool)):NL (a++b)=NL a++NL b:=by simp[NL]
theorem rh:∀(rs:List (Q4×Q4×Bool)) (i:Nat),i<rs.length->(NL rs)[i*3]?=some (Ow (rs.getD i (empty,empty,false)).1)/\(NL rs)[i*3+1]?=some (Ow (rs.getD i (empty,empty,false)).2.1)/\(NL rs)[i*3+2]?=some (Q1 (rs.getD i (empty,empty,false)).2.2)
 | x::r,0,_=>by simp[NL]
 | x::r,i+1,h=>by
  have c:=rh r i (by simpa using h);have e:NL (x::r)=Ow x.1::Ow x.2.1::Q1 x.2.2::NL r:=by simp[NL]
  rw[e,show(i+1)*3=i*3+3 by omega];simpa using c
theorem Row.chs{rs:List (Q4×Q4×Bool)}(h:Row w g (NL rs)):Chs w (Hw g 0) rs :=.inr ⟨g,0,rfl,h.lt,λi hi=>by
  rw[BK]
  exact⟨h.cell _ _ (rh rs i hi).1,h.cell _ _ (rh rs i hi).2.1,h.cell _ _ (rh rs i hi).2.2⟩⟩
theorem PV{a b:Bool}(h:a=b):Q2 (Q1 a)=Q2 (Q1 b):=by rw[h]
def QP(k:Q4):Bool:=decide (1<=k.size/\k.size<=20)
def PA(k:Q4):Bool:=decide (k.size<=100)
def QK(x:Q4×Q4×Bool):Bool:=QP x.1 && PA x.2.1 && !(x.2.2 && decide (x.2.1.size≠0))
def PZ(rs:List (Q4×Q4×Bool)):Bool:=decide (1<=rs.length/\rs.length<=20) && rs.all QK
theorem mn{rs:List (Q4×Q4×Bool)}(h:¬(1<=rs.length/\rs.length<=20)):PZ rs=false:=by simp[PZ,h]
theorem ki{rs:List (Q4×Q4×Bool)}{x:Q4×Q4×Bool}(c:x∈rs)(h:QK x=false):PZ rs=false:=by
 have:rs.all QK=false:=FN.2 ⟨x,c,by simp[h]⟩;simp[PZ,this]
theorem Bg{rs:List (Q4×Q4×Bool)}(h:1<=rs.length/\rs.length<=20)(c:∀x∈rs,QK x=true):PZ rs=true:=by
 simp only[PZ,BF,BH,DI];exact⟨h,c⟩
theorem dr{rs:List (Q4×Q4×Bool)}(h:PZ rs=true):(1<=rs.length/\rs.length<=20)/\∀x∈rs,QK x=true:=by
 simp only[PZ,BF,BH,DI]at h;exact h
theorem kh(s:Q4)(w:Q9)(f:s.size<=1048576):Calls prog 159 #[Ow s] w λe w'=>e=Q2 (Q1 (QP s))/\w'=w:=by
 unfold QP
 by_cases d:1<=s.size
 .by_cases c:s.size<=20
  .go_enter func159,ntmps159
   go_wp2;go_ret;exact⟨PV (by simp[d,c]<;>omega),z⟩
  go_enter func159,ntmps159
  go_wp2;go_ret;exact⟨PV (by simp[c]<;>omega),z⟩
 go_enter func159,ntmps159
 go_wp2;go_ret;exact⟨PV ξ,z⟩
theorem sA{k:Q4}{g:Bool}(h:QP k=false):QK (k,v,g)=false:=by simp[QK,h]
theorem vW{k:Q4}{g:Bool}(h:PA v=false):QK (k,v,g)=false:=by simp[QK,h]
theorem Bt{k:Q4}(h:v.toList.isEmpty=false):QK (k,v,true)=false:=by
 rw[YH]at h;have:v.size≠0:=by simpa using h
 simp[QK,this]
theorem vC{k:Q4}(h:QP k=true)(c:PA v=true):QK (k,v,false)=true:=by simp[QK,h,c]
theorem wV{k:Q4}(h:QP k=true)(d:PA v=true)(c:v.toList.isEmpty=true):QK (k,v,true)=true:=by
 rw[YH]at c;have:v.size=0:=by simpa using c
 simp[QK,h,d,this]
theorem ut{α:Type}{rs:List α}{x d:α}{f:α->Bool}(aA:k<rs.length)(i:∀y∈rs.take k,f y=true)(h:x=rs.getD k d)(j:f x=true):∀y∈rs.take (k+1),f y=true:=by
 intro y c;rw[BJ aA]at c;rcases BZ.1 c with c|c
 .exact i y c
 simp at c
 simp[List.getD,aA]at h;rw[c,<-h];exact j
theorem vg(a:Q5)(rs:List (Q4×Q4×Bool))(c:Nat)(w:Q9)(h:Chs w a rs)(H:rs.length<=1048576)(u:∀f∈rs,f.1.size<=1048576/\f.2.1.size<=1048576):Calls prog 173 #[Y a rs.length c] w λe w'=>e=Q2 (Q1 (PZ rs))/\Q3 w w':=by
 obtain⟨R,j⟩:=x (PZ rs);rw[<-j.j]
 by_cases I:1<=(rs.length:Int)
 .by_cases J:(rs.length:Int)<=20
  .go_enter func173,ntmps173
   go_wp2;go_loopw [3] (λi wr=>∃k:Nat,k<=rs.length/\i=Z k/\Hid (∀f∈rs.take k,QK f=true)/\Q3 w wr) (λi _=>rs.length-(intOf i).toNat)
   case atStart=>exact⟨0,AL,z,by show ∀s∈rs.take 0,_;simp,D⟩
   case round =>
    obtain⟨k,G,rfl,i,aA⟩:=hrel
    by_cases aC:k<rs.length
    .obtain⟨b,o,t,f,q,rfl,y,A,B,p⟩:=(h.I aA).at aC
     have l:Hid ((t,f,q)∈rs):=by show _∈_;rw[p.j];simp[List.getD,aC]
     obtain⟨aB,E⟩:=u _ l.j;have aE:(k:Int)<(rs.length:Int):=d
     have C:(0:Int)<=(k:Int):=d
     cases hk1:QP t with
     | false =>
      go_wp2_with (go_at_call 159;refine(kh _ _ aB).J ?_;rw[hk1];rintro e m ⟨rfl,rfl⟩);go_ret;exact⟨PV (by rw[j.j];exact(ki l.j (sA hk1)).symm),aA⟩
     | true =>
      cases hv1:PA f with
      | false =>
       have aF:(100:Int)<(f.size:Int):=by simp[PA]at hv1;omega
       go_wp2_with (go_at_call 159;refine(kh _ _ aB).J ?_;rw[hk1];rintro e m ⟨rfl,rfl⟩);go_ret;exact⟨PV (by rw[j.j];exact(ki l.j (vW hv1)).symm),aA⟩
      | true =>
       have aF:(f.size:Int)<=100:=by simp[PA]at hv1;omega
       cases q with
       | false =>
        go_wp2_with (go_at_call 159;refine(kh _ _ aB).J ?_;rw[hk1];rintro e m ⟨rfl,rfl⟩);go_roundw
        case rel=>exact⟨k+1,d,ν,ut aC i.j p.j (vC hk1 hv1),aA⟩
        case measure=>simp[intOf];omega
       | true =>
        cases he:f.toList.isEmpty with
        | false =>
         go_wp2_with (go_at_call 159;refine(kh _ _ aB).J ?_;rw[hk1];rintro e m ⟨rfl,rfl⟩);go_ret;exact⟨PV (by rw[j.j];exact(ki l.j (Bt he)).symm),aA⟩
        | true =>
         go_wp2_with (go_at_call 159;refine(kh _ _ aB).J ?_;rw[hk1];rintro e m ⟨rfl,rfl⟩);go_roundw
         case rel=>exact⟨k+1,d,ν,ut aC i.j p.j (wV hk1 hv1 he),aA⟩
         case measure=>simp[intOf];omega
    have aD:Hid (∀s∈rs,QK s=true):=by have:=i.j;rwa [AS d]at this
    clear i;go_wp2;go_ret;exact⟨PV (by rw[j.j];exact(Bg d aD.j).symm),aA⟩
  go_enter func173,ntmps173
  go_wp2;go_ret;exact⟨PV (by rw[j.j];exact(mn d).symm),D⟩
 go_enter func173,ntmps173
 go_wp2;go_ret;exact⟨PV (by rw[j.j];exact(mn d).symm),D⟩
theorem YL(s:Q4)(w:Q9)(f:s.size<=1048576):Calls prog 141 #[Ow s] w λe w'=>e=Q2 (Q1 (QP s))/\w'=w:=by
 unfold QP
 by_cases d:1<=s.size
 .by_cases c:s.size<=20
  .go_enter func141,ntmps141
   go_wp2;go_ret;exact⟨PV (by simp[d,c]<;>omega),z⟩
  go_enter func141,ntmps141
  go_wp2;go_ret;exact⟨PV (by simp[c]<;>omega),z⟩
 go_enter func141,ntmps141
 go_wp2;go_ret;exact⟨PV ξ,z⟩
theorem dy(s:Q4)(w:Q9)(c:s.size<=1048576):Calls prog 142 #[Ow s] w λe w'=>e=Q2 (Q1 (PA s))/\w'=w:=by
 unfold PA;go_enter func142,ntmps142;go_wp2;go_ret;exact⟨PV ξ,z⟩
theorem ke(a:Q5)(rs:List (Q4×Q4×Bool))(c:Nat)(w:Q9)(h:Chs w a rs)(G:rs.length<=1048576)(u:∀f∈rs,f.1.size<=1048576/\f.2.1.size<=1048576):Calls prog 189 #[Y a rs.length c] w λe w'=>e=Q2 (Q1 (PZ rs))/\Q3 w w':=by
 obtain⟨R,j⟩:=x (PZ rs);rw[<-j.j]
 by_cases H:1<=(rs.length:Int)
 .by_cases I:(rs.length:Int)<=20
  .go_enter func189,ntmps189
   go_wp2;go_loopw [4,15] (λ_ i wr=>∃k:Nat,k<=rs.length/\i=Z k/\Hid (∀f∈rs.take k,QK f=true)/\Q3 w wr) (λ_ i _=>rs.length-(intOf i).toNat)
   case atStart=>exact⟨0,AL,z,by show ∀s∈rs.take 0,_;simp,D⟩
   case round =>
    obtain⟨k,E,rfl,i,aA⟩:=hrel
    by_cases aC:k<rs.length
    .obtain⟨b,o,t,p,q,rfl,y,A,B,m⟩:=(h.I aA).at aC
     have l:Hid ((t,p,q)∈rs):=by show _∈_;rw[m.j];simp[List.getD,aC]
     obtain⟨aB,aD⟩:=u _ l.j;have aF:(k:Int)<(rs.length:Int):=d
     have C:(0:Int)<=(k:Int):=d
     cases hk1:QP t with
     | false =>
      go_wp2_with (first|(go_at_call 141;refine(YL _ _ aB).J ?_;rw[hk1];rintro e f ⟨rfl,rfl⟩))
      go_ret;exact⟨PV (by rw[j.j];exact(ki l.j (sA hk1)).symm),aA.alloc aA.size _⟩
     | true =>
      cases hv1:PA p with
      | false =>
       skip
       go_wp2_with (first|(go_at_call 141;refine(YL _ _ aB).J ?_;rw[hk1];rintro e f ⟨rfl,rfl⟩)|(go_at_call 142;refine(dy _ _ aD).J ?_;rw[hv1];rintro e f ⟨rfl,rfl⟩))
       go_ret;exact⟨PV (by rw[j.j];exact(ki l.j (vW hv1)).symm),aA.alloc aA.size _⟩
      | true =>
       skip
       cases q with
       | false =>
        go_wp2_with (first|(go_at_call 141;refine(YL _ _ aB).J ?_;rw[hk1];rintro e f ⟨rfl,rfl⟩)|(go_at_call 142;refine(dy _ _ aD).J ?_;rw[hv1];rintro e f ⟨rfl,rfl⟩))
        go_roundw
        case rel=>exact⟨k+1,d,ν,ut aC i.j m.j (vC hk1 hv1),aA.alloc aA.size _⟩
        case measure=>simp[intOf];omega
       | true =>
        cases he:p.toList.isEmpty with
        | false =>
         go_wp2_with (first|(go_at_call 141;refine(YL _ _ aB).J ?_;rw[hk1];rintro e f ⟨rfl,rfl⟩)|(go_at_call 142;refine(dy _ _ aD).J ?_;rw[hv1];rintro e f ⟨rfl,rfl⟩))
         go_ret;exact⟨PV (by rw[j.j];exact(ki l.j (Bt he)).symm),aA.alloc aA.size _⟩
        | true =>
         go_wp2_with (first|(go_at_call 141;refine(YL _ _ aB).J ?_;rw[hk1];rintro e f ⟨rfl,rfl⟩)|(go_at_call 142;refine(dy _ _ aD).J ?_;rw[hv1];rintro e f ⟨rfl,rfl⟩))
         go_roundw
         case rel=>exact⟨k+1,d,ν,ut aC i.j m.j (wV hk1 hv1 he),aA.alloc aA.size _⟩
         case measure=>simp[intOf];omega
    have aE:Hid (∀s∈rs,QK s=true):=by have:=i.j;rwa [AS d]at this
    clear i;go_wp2;go_ret;exact⟨PV (by rw[j.j];exact(Bg d aE.j).symm),aA⟩
  go_enter func189,ntmps189
  go_wp2;go_ret;exact⟨PV (by rw[j.j];exact(mn d).symm),D⟩
 go_enter func189,ntmps189
 go_wp2;go_ret;exact⟨PV (by rw[j.j];exact(mn d).symm),D⟩
section
theorem jc(s:Q4)(b:Bool)(w:Q9)(c:s.size<=1048576)(h:QP s=b):Calls prog 159 #[Ow s] w λe w'=>e=Q2 (Q1 b)/\w'=w:=by
 rw[<-h];exact kh s w c
def UM(a b:Q4):Bool:=Op.bytesLess a.toList b.toList
def RN(rs:List (Q4×Q4))(i:Nat):Bool:=QP (rs.getD i (empty,empty)).1 && PA (rs.getD i (empty,empty)).2 && (decide (i=0) || UM (rs.getD (i-1) (empty,empty)).1 (rs.getD i (empty,empty)).1)
def MH(rs:List (Q4×Q4)):Bool:=decide (rs.length<=100) && (List.range rs.length).all (RN rs)
theorem Ax(h:¬(rs.length<=100)):MH rs=false:=by simp[MH,h]
theorem ah(c:k<rs.length)(h:RN rs k=false):MH rs=false:=by
 have:(List.range rs.length).all (RN rs)=false:=FN.2 ⟨k,FR.2 c,by simp[h]⟩;simp[MH,this]
theorem nQ(h:rs.length<=100)(c:∀k,k<rs.length->RN rs k=true):MH rs=true:=by
 simp only[MH,BF,BH,DI];exact⟨h,λk d=>c k (FR.1 d)⟩
theorem gw(h:MH rs=true):rs.length<=100/\∀k,k<rs.length->RN rs k=true:=by
 simp only[MH,BF,BH,DI]at h;exact⟨h.1,λk c=>h.2 k (FR.2 c)⟩
section
variable {rs:List (Q4×Q4)} {k j:Nat} {s0 s1 t0 t1:Q4}
theorem sb(c:(s0,s1)=rs.getD k (empty,empty))(h:QP s0=false):RN rs k=false:=by unfold RN;rw[<-c];simp[h]
theorem vr(c:(s0,s1)=rs.getD k (empty,empty))(h:PA s1=false):RN rs k=false:=by unfold RN;rw[<-c];simp[h]
theorem An(c:(s0,s1)=rs.getD k (empty,empty))(d:(t0,t1)=rs.getD j (empty,empty))(f:k=j+1)(h:Op.bytesLess t0.toList s0.toList=false):RN rs k=false:=by
 unfold RN UM;rw[<-c];subst f;rw[JF,<-d];simp[h]
theorem xD(d:(s0,s1)=rs.getD k (empty,empty))(f:k=0)(h:QP s0=true)(c:PA s1=true):RN rs k=true:=by subst f;unfold RN;rw[<-d];simp[h,c]
theorem xE(f:(s0,s1)=rs.getD k (empty,empty))(i:(t0,t1)=rs.getD j (empty,empty))(l:k=j+1)(h:QP s0=true)(c:PA s1=true)(d:Op.bytesLess t0.toList s0.toList=true):RN rs k=true:=by
 unfold RN UM;rw[<-f];subst l;rw[JF,<-i];simp[h,c,d]
theorem re(f:∀i,i<k->RN rs i=true)(h:RN rs k=true):∀i,i<k+1->RN rs i=true:=by
 intro i hi;rcases FV i k with c|c
 .exact f i c
 have:i=k:=d
 subst this;exact h
end
theorem lk(a:Q5)(rs:List (Q4×Q4))(c:Nat)(w:Q9)(h:Prs w a rs)(hl:rs.length<=1048576)(L:∀f∈rs,f.1.size<=1048576/\f.2.size<=1048576):Calls prog 106 #[.agg #[Y a rs.length c]] w λe w'=>e=Q2 (Q1 (MH rs))/\Q3 w w':=by
 have aB:∀o,Q3 w (w.alloc o):=λo=>LH _ _
 obtain⟨R,m⟩:=nHz (MH rs);rw[<-m.j]
 by_cases hp:(rs.length:Int)<=100
 .go_enter func106,ntmps106
  go_wp2;go_loopw [3] (λi wr=>∃k:Nat,k<=rs.length/\i=Z k/\Hid (∀i,i<k->RN rs i=true)/\Below (w.heap.size+1) (w.alloc (.cells #[Y a rs.length c] 42)) wr) (λi _=>rs.length-(intOf i).toNat)
  case atStart=>exact⟨0,AL,z,λi hi=>d,AB⟩
  case round =>
   obtain⟨k,D,rfl,t,aA⟩:=hrel;have u:Q3 w wr:=(aB _).E (aA.J d);have M:wr.cell? (Ki w.heap.size 0)=some (Y a rs.length c):=(aA.cell (p:=(Ki w.heap.size 0)) (by show w.heap.size<_;omega)).E γ;have W:w.heap.size+1<=wr.heap.size:=by have:=aA.size;simpa using this
   by_cases aC:k<rs.length
   .obtain⟨b,o,s,f,rfl,P,Q,p⟩:=(h.I u).at aC
    have K:Hid ((s,f)∈rs):=by show _∈_;rw[p.j];simp[List.getD,aC]
    obtain⟨aD,l⟩:=L _ K.j;have O:(k:Int)<(rs.length:Int):=d
    rcases GK k with y|y
    .have C:decide ((0:Int)<(k:Int))=false:=q
     have B:decide (0<k)=false:=q
     have H:(0:Int)<=(k:Int):=d
     have j:=LE y;clear y
     cases hk1:QP s with
     | false =>
      go_wp2_with fail;go_quiet ((go_at_call 159;exact Calls.quiet_of_same (jc _ _ _ aD hk1)));go_wp2;go_ret;exact⟨PV (by rw[m.j];exact(ah aC (sb p.j hk1)).symm),(aB _).E ((below_drewN aA _).J d)⟩
     | true =>
      cases hv1:PA f with
      | false =>
       have A:decide (100<(f.size:Int))=true:=by simp[PA]at hv1;simp;omega
       go_wp2_with fail;go_quiet ((go_at_call 159;exact Calls.quiet_of_same (jc _ _ _ aD hk1)));go_wp2;go_ret;exact⟨PV (by rw[m.j];exact(ah aC (vr p.j hv1)).symm),(aB _).E ((below_drewN aA _).J d)⟩
      | true =>
       have A:decide (100<(f.size:Int))=false:=by simp[PA]at hv1;simp;omega
       go_wp2_with fail;go_quiet ((go_at_call 159;exact Calls.quiet_of_same (jc _ _ _ aD hk1)));go_wp2;go_roundw
       case rel=>exact⟨_,d,ν,re t.j (xD p.j j.j hk1 hv1),below_drewN aA _⟩
       case measure=>simp[intOf];omega
    obtain⟨j,A⟩:∃j,k=j+1:=⟨k-1,d⟩
    have V:(k:Int)-1=(j:Int):=d
    have T:(0:Int)<=(j:Int):=d
    have H:(0:Int)<=(k:Int):=d
    have N:(0:Int)<(k:Int):=d
    have X:IntKind.i64.wrap (j:Int)=(j:Int):=by simp[IntKind.wrap,IntKind.bits,IntKind.signed];omega
    have U:(j:Int)<(rs.length:Int):=d
    obtain⟨x,o',B,t1,J,G,S,E⟩:=(h.I u).at (show j<rs.length by omega)
    cases J
    have C:=LE A;clear A
    have aF:∀A,Q3 wr (wr.alloc A):=λA=>LH _ _
    have A:b<wr.heap.size:=by have:=DP wr _ G;simpa using this
    have qa:=((aF (.cells #[Ow s,Ow f] 151)).cell (p:=(Ki w.heap.size 0)) (by show w.heap.size<_;omega)).E M;have qb:=((aF (.cells #[Ow s,Ow f] 151)).cell (p:=(Ki b (o+j*2))) A).E G;clear aF A
    cases hk1:QP s with
    | false =>
     go_wp2_with fail;go_quiet ((go_at_call 159;exact Calls.quiet_of_same (jc _ _ _ aD hk1)));go_wp2;go_ret;exact⟨PV (by rw[m.j];exact(ah aC (sb p.j hk1)).symm),(aB _).E ((below_drewN aA _).J d)⟩
    | true =>
     cases hv1:PA f with
     | false =>
      have A:decide (100<(f.size:Int))=true:=by simp[PA]at hv1;simp;omega
      go_wp2_with fail;go_quiet ((go_at_call 159;exact Calls.quiet_of_same (jc _ _ _ aD hk1)));go_wp2;go_ret;exact⟨PV (by rw[m.j];exact(ah aC (vr p.j hv1)).symm),(aB _).E ((below_drewN aA _).J d)⟩
     | true =>
      have A:decide (100<(f.size:Int))=false:=by simp[PA]at hv1;simp;omega
      cases hlt3:Op.bytesLess B.toList s.toList with
      | false =>
       have I:(!Op.bytesLess B.toList s.toList)=true:=by simp[hlt3]
       go_wp2_with fail;go_quiet ((go_at_call 159;exact Calls.quiet_of_same (jc _ _ _ aD hk1)));go_wp2;go_ret;exact⟨PV (by rw[m.j];exact(ah aC (An p.j E.j C.j hlt3)).symm),(aB _).E ((below_drewN aA _).J d)⟩
      | true =>
       have I:(!Op.bytesLess B.toList s.toList)=false:=by simp[hlt3]
       go_wp2_with fail;go_quiet ((go_at_call 159;exact Calls.quiet_of_same (jc _ _ _ aD hk1)));go_wp2;go_roundw
       case rel=>exact⟨_,d,ν,re t.j (xE p.j E.j C.j hk1 hv1 hlt3),below_drewN aA _⟩
       case measure=>simp[intOf];omega
   have aE:Hid (∀i,i<rs.length->RN rs i=true):=λi hi=>t.j i d
   clear t;go_wp2;go_ret;exact⟨PV (by rw[m.j];exact(nQ d aE.j).symm),u⟩
 go_enter func106,ntmps106
 go_wp2;go_ret;exact⟨PV (by rw[m.j];exact(Ax d).symm),aB _⟩
theorem ky(a:Q5)(rs:List (Q4×Q4))(c:Nat)(w:Q9)(h:Prs w a rs)(D:rs.length<=1048576)(M:∀f∈rs,f.1.size<=1048576/\f.2.size<=1048576):Calls prog 97 #[.agg #[Y a rs.length c]] w λe w'=>e=Q2 (Q1 (MH rs))/\Q3 w w':=by
 have aB:∀o,Q3 w (w.alloc o):=λo=>LH _ _
 obtain⟨R,p⟩:=nHz (MH rs);rw[<-p.j]
 by_cases hp:(rs.length:Int)<=100
 .go_enter func97,ntmps97
  go_wp2;go_loopw [3,4,12] (λ_ _ i wr=>∃k:Nat,k<=rs.length/\i=Z k/\Hid (∀i,i<k->RN rs i=true)/\Below (w.heap.size+1) (w.alloc (.cells #[Y a rs.length c] 42)) wr) (λ_ _ i _=>rs.length-(intOf i).toNat)
  case atStart=>exact⟨0,AL,z,λi hi=>d,AB⟩
  case round =>
   obtain⟨k,x,rfl,u,aA⟩:=hrel;have y:Q3 w wr:=(aB _).E (aA.J d);have N:wr.cell? (Ki w.heap.size 0)=some (Y a rs.length c):=(aA.cell (p:=(Ki w.heap.size 0)) (by show w.heap.size<_;omega)).E γ;have aD:w.heap.size+1<=wr.heap.size:=by have:=aA.size;simpa using this
   by_cases aC:k<rs.length
   .obtain⟨b,o,t,m,rfl,Q,S,s⟩:=(h.I y).at aC
    have L:Hid ((t,m)∈rs):=by show _∈_;rw[s.j];simp[List.getD,aC]
    obtain⟨aE,aF⟩:=M _ L.j;have P:(k:Int)<(rs.length:Int):=d
    rcases GK k with A|A
    .have E:decide ((0:Int)<(k:Int))=false:=q
     have C:decide (0<k)=false:=q
     have I:(0:Int)<=(k:Int):=d
     have j:=LE A;clear A
     cases hk1:QP t with
     | false =>
      go_wp2_with (first|(go_at_call 141;refine(YL _ _ aE).J ?_;rw[hk1];rintro e f ⟨rfl,rfl⟩))
      go_ret;exact⟨PV (by rw[p.j];exact(ah aC (sb s.j hk1)).symm),(aB _).E ((aA.alloc aD _).J d)⟩
     | true =>
      cases hv1:PA m with
      | false =>
       have B:decide (100<(m.size:Int))=true:=by simp[PA]at hv1;simp;omega
       go_wp2_with (first|(go_at_call 141;refine(YL _ _ aE).J ?_;rw[hk1];rintro e f ⟨rfl,rfl⟩)|(go_at_call 142;refine(dy _ _ aF).J ?_;rw[hv1];rintro e f ⟨rfl,rfl⟩))
       go_ret;exact⟨PV (by rw[p.j];exact(ah aC (vr s.j hv1)).symm),(aB _).E ((aA.alloc aD _).J d)⟩
      | true =>
       have B:decide (100<(m.size:Int))=false:=by simp[PA]at hv1;simp;omega
       go_wp2_with (first|(go_at_call 141;refine(YL _ _ aE).J ?_;rw[hk1];rintro e f ⟨rfl,rfl⟩)|(go_at_call 142;refine(dy _ _ aF).J ?_;rw[hv1];rintro e f ⟨rfl,rfl⟩))
       go_quiet (fail);go_wp2;go_roundw
       case rel=>exact⟨_,d,ν,re u.j (xD s.j j.j hk1 hv1),below_drewN (aA.alloc aD _) _⟩
       case measure=>simp[intOf];omega
    obtain⟨j,f⟩:∃j,k=j+1:=⟨k-1,d⟩
    have W:(k:Int)-1=(j:Int):=d
    have U:(0:Int)<=(j:Int):=d
    have I:(0:Int)<=(k:Int):=d
    have O:(0:Int)<(k:Int):=d
    have X:IntKind.i64.wrap (j:Int)=(j:Int):=by simp[IntKind.wrap,IntKind.bits,IntKind.signed];omega
    have V:(j:Int)<(rs.length:Int):=d
    obtain⟨l,o',C,t1,K,H,T,G⟩:=(h.I y).at (show j<rs.length by omega)
    cases K
    have E:=LE f;clear f
    have f:∀B,Q3 wr (wr.alloc B):=λB=>LH _ _
    have B:b<wr.heap.size:=by have:=DP wr _ H;simpa using this
    have qa:=((f (.cells #[Ow t,Ow m] 151)).cell (p:=(Ki w.heap.size 0)) (by show w.heap.size<_;omega)).E N;have qb:=((f (.cells #[Ow t,Ow m] 151)).cell (p:=(Ki b (o+j*2))) B).E H;clear f B
    cases hk1:QP t with
    | false =>
     go_wp2_with (first|(go_at_call 141;refine(YL _ _ aE).J ?_;rw[hk1];rintro e f ⟨rfl,rfl⟩))
     go_ret;exact⟨PV (by rw[p.j];exact(ah aC (sb s.j hk1)).symm),(aB _).E ((aA.alloc aD _).J d)⟩
    | true =>
     cases hv1:PA m with
     | false =>
      have B:decide (100<(m.size:Int))=true:=by simp[PA]at hv1;simp;omega
      go_wp2_with (first|(go_at_call 141;refine(YL _ _ aE).J ?_;rw[hk1];rintro e f ⟨rfl,rfl⟩)|(go_at_call 142;refine(dy _ _ aF).J ?_;rw[hv1];rintro e f ⟨rfl,rfl⟩))
      go_ret;exact⟨PV (by rw[p.j];exact(ah aC (vr s.j hv1)).symm),(aB _).E ((aA.alloc aD _).J d)⟩
     | true =>
      have B:decide (100<(m.size:Int))=false:=by simp[PA]at hv1;simp;omega
      cases hlt3:Op.bytesLess C.toList t.toList with
      | false =>
       have J:(!Op.bytesLess C.toList t.toList)=true:=by simp[hlt3]
       go_wp2_with (first|(go_at_call 141;refine(YL _ _ aE).J ?_;rw[hk1];rintro e f ⟨rfl,rfl⟩)|(go_at_call 142;refine(dy _ _ aF).J ?_;rw[hv1];rintro e f ⟨rfl,rfl⟩))
       go_quiet (fail);go_wp2;go_ret;exact⟨PV (by rw[p.j];exact(ah aC (An s.j G.j E.j hlt3)).symm),(aB _).E ((below_drewN (aA.alloc aD _) _).J d)⟩
      | true =>
       have J:(!Op.bytesLess C.toList t.toList)=false:=by simp[hlt3]
       go_wp2_with (first|(go_at_call 141;refine(YL _ _ aE).J ?_;rw[hk1];rintro e f ⟨rfl,rfl⟩)|(go_at_call 142;refine(dy _ _ aF).J ?_;rw[hv1];rintro e f ⟨rfl,rfl⟩))
       go_quiet (fail);go_wp2;go_roundw
       case rel=>exact⟨_,d,ν,re u.j (xE s.j G.j E.j hk1 hv1 hlt3),below_drewN (aA.alloc aD _) _⟩
       case measure=>simp[intOf];omega
   have f:Hid (∀i,i<rs.length->RN rs i=true):=λi hi=>u.j i d
   clear u;go_wp2;go_ret;exact⟨PV (by rw[p.j];exact(nQ d f.j).symm),y⟩
 go_enter func97,ntmps97
 go_wp2;go_ret;exact⟨PV (by rw[p.j];exact(Ax d).symm),aB _⟩
end
section
theorem MK{v:Ra}(h:w.ownsRow base e size v n xs)(m:Q3 w w'):w'.ownsRow base e size v n xs:=by
 refine⟨h.1,?_⟩;rcases h.2 with f|⟨g,cap,c,i,j,d,l⟩
 .exact .inl f
 refine .inr ⟨g,cap,c,i,j,?_,l⟩
 have aA:g<w.heap.size:=by
  rcases FV g w.heap.size with h|h
  .exact h
  rw[EF h]at d;cases d
 rw[m.block g aA];exact d
theorem UA(h:w.ownsRow base e size (Y (Hw g 0) n cap) n xs):Row w g xs:=by
 have l:=(h.lt g z).2;refine⟨l,λi v hv=>?_,λi hi=>?_⟩
 .have:=h.cells (g:=g) z i v hv
  have c:((Ki g 0):Addr).add i=(Ki g i):=by unfold Addr.add;split<;>simp_all
  rwa [c]at this
 rcases h.2 with ⟨j,_⟩|⟨m,aA,f,c,_,d,_⟩
 .cases j
 simp at c
 rw[<-c.1]at d;simp[World.frozen?,d]
theorem wt{t:TypeId}{s:Nat}{m c:Nat}(h:w.ownsRow base t s (Y a n c) m xs):m<=c:=by
 rcases h.2 with ⟨d,i⟩|⟨g,cap,f,d,_,_,i,_⟩
 .omega
 injection d with _ _ e;omega
theorem MS{v:Ra}(h:w.ownsRow base e size v n xs):(v=Y none 0 0/\n=0)\/∃g cap,v=Y (Hw g 0) n cap/\base<=g/\g<w.heap.size/\Row w g xs:=by
 rcases h.2 with d|⟨g,cap,c,f,i,j,l⟩
 .exact .inl d
 subst f
 exact .inr ⟨g,cap,z,i,(h.lt g z).2,UA h⟩
structure Dsk(W w:Q9)(R D base:Nat)(e e':TypeId)(v v':Ra)(ss:List Q4)(ws:List (Int×Q4)):Prop where
 hR:W.heap.size<=R
 hR':R<base
 hD:W.heap.size<=D
 hD':D<base
 ne:R≠D
 sz:base<=w.heap.size
 bel:Q3 W w
 r0:w.cell? (Ki R 0)=some (Y none 0 0)
 r1:w.cell? (Ki R 1)=some (Y none 0 0)
 fr0:w.frozen? (Ki R 0)=false
 fr1:w.frozen? (Ki R 1)=false
 d0:w.cell? (Ki D 0)=some v
 d1:w.cell? (Ki D 1)=some v'
 fd0:w.frozen? (Ki D 0)=false
 fd1:w.frozen? (Ki D 1)=false
 own:w.ownsRow base e 1 v ss.length (ss.map Value.string)
 own':w.ownsRow base e' 2 v' ws.length (MZ ws)
 apart:v.ownBlock=none\/v'.ownBlock=none\/v.ownBlock≠v'.ownBlock
section
variable {W w w':Q9} {R D base:Nat} {e e':TypeId} {v v':Ra} {ss:List Q4} {ws:List (Int×Q4)}
theorem Dsk.I(h:Dsk W w R D base e e' v v' ss ws)(c:Q3 w w'):Dsk W w' R D base e e' v v' ss ws :=have f:R<w.heap.size:=AC h.hR' h.sz;have d:D<w.heap.size:=AC h.hD' h.sz;have i:W.heap.size<=w.heap.size:=h.bel.size
 ⟨h.hR,h.hR',h.hD,h.hD',h.ne,AJ h.sz c.size,h.bel.E (c.J i),(c.cell (p:=(Ki R 0)) f).E h.r0,(c.cell (p:=(Ki R 1)) f).E h.r1,(c.frozen (p:=(Ki R 0)) f).E h.fr0,(c.frozen (p:=(Ki R 1)) f).E h.fr1,
  (c.cell (p:=(Ki D 0)) d).E h.d0,(c.cell (p:=(Ki D 1)) d).E h.d1,(c.frozen (p:=(Ki D 0)) d).E h.fd0,(c.frozen (p:=(Ki D 1)) d).E h.fd1,MK h.own c,MK h.own' c,h.apart⟩
theorem Dsk.drew(h:Dsk W w R D base e e' v v' ss ws):Dsk W w.drew R D base e e' v v' ss ws:=h.I ((AB).drew)
theorem Dsk.alloc(h:Dsk W w R D base e e' v v' ss ws)(o:Obj):Dsk W (w.alloc o) R D base e e' v v' ss ws:=h.I (LH _ _)
theorem Dsk.push(h:Dsk W w R D base e e' v v' ss ws){H:Nat}{s:Q4}(aA:w1.ownsRow base e 1 (Y (Hw g 0) (ss.length+1) cap) (ss.length+1) (ss.map Value.string++[Ow s]))(d:w.grownBy w1 v.ownBlock)(aC:v.ownBlock=some g\/g=H)(z:w.heap.size=H):Dsk W (w1.setCell (Ki D 0) (Y (Hw g 0) (ss.length+1) cap)) R D base e e' (Y (Hw g 0) (ss.length+1) cap) v' (ss++[s]) ws:=by
 have u:R<w.heap.size:=AC h.hR' h.sz;have t:D<w.heap.size:=AC h.hD' h.sz;have A:W.heap.size<=w.heap.size:=h.bel.size
 have j:∀k,k<base->some k≠v.ownBlock:=λk c f=>by have:=(h.own.lt k f.symm).1;omega
 have m:∀i,w1.cell? (Ki R i)=w.cell? (Ki R i):=λi=>d.cell_far (Ki R i) u (j R h.hR')
 have l:∀i,w1.cell? (Ki D i)=w.cell? (Ki D i):=λi=>d.cell_far (Ki D i) t (j D h.hD')
 have p:∀i,w1.frozen? (Ki R i)=w.frozen? (Ki R i):=λi=>d.frozen_far (Ki R i) u (j R h.hR')
 have o:∀i,w1.frozen? (Ki D i)=w.frozen? (Ki D i):=λi=>d.frozen_far (Ki D i) t (j D h.hD')
 have y:base<=g:=(aA.lt g rfl).1;have aB:Q3 W w1:=h.bel.E ⟨d.os,d.tape,d.output,d.size,λk c=>d.block k ω (j k (by have:=h.hR;have:=h.hR';omega))⟩
 have x:v'.ownBlock=none\/(Y (Hw g 0) (ss.length+1) cap).ownBlock≠v'.ownBlock:=by
  cases hv':v'.ownBlock with
  | none=>exact .inl rfl
  | some q =>
   refine .inr λf=>?_
   have aD:g=q:=by simpa[Value.ownBlock] using f
   have aE:=(h.own'.lt q hv').2;rcases aC with i|i
   .rcases h.apart with c|c|c
    .rw[i]at c;cases c
    .rw[hv']at c;cases c
    rw[i,hv',aD]at c;exact c rfl
   omega
 refine⟨h.hR,h.hR',h.hD,h.hD',h.ne,?_,aB.setCell h.hD _,?_,?_,?_,?_,?_,?_,?_,?_,?_,?_,?_⟩
 .have:=d.size;have:=h.sz;simp only[BI];omega
 .rw[DE (w:=w1) (h:=show((Ki D 0):Addr)≠(Ki R 0) fromλf=>h.ne (by injection f with i;exact i.symm)),m];exact h.r0
 .rw[DE (w:=w1) (h:=show((Ki D 0):Addr)≠(Ki R 1) fromλf=>h.ne (by injection f with i;exact i.symm)),m];exact h.r1
 .rw[BW,p];exact h.fr0
 .rw[BW,p];exact h.fr1
 .exact FJ w1 _ _ ((l 0).E h.d0)
 .rw[DE (w:=w1) (h:=show((Ki D 0):Addr)≠(Ki D 1) by simp),l];exact h.d1
 .rw[BW,o];exact h.fd0
 .rw[BW,o];exact h.fd1
 .have:=ED aA (a:=(Ki D 0)) h.hD' (Y (Hw g 0) (ss.length+1) cap)
  simpa using this
 .have i:w1.ownsRow base e' 2 v' ws.length (MZ ws):=h.own'.kept d (by
   rcases h.apart with c|c|c
   .cases hv':v'.ownBlock with
    | none=>exact .inl rfl
    | some _=>rw[c];exact .inr σ
   .exact .inl c
   .exact .inr (λf=>c f.symm))
  exact ED i (a:=(Ki D 0)) h.hD' _
 exact .inr x
theorem Dsk.push2(h:Dsk W w R D base e e' v v' ss ws){H:Nat}{x:Int×Q4}(aA:w1.ownsRow base e' 2 (Y (Hw g 0) (ws.length+1) cap) (ws.length+1) (MZ ws++[Z x.1,Ow x.2]))(f:w.grownBy w1 v'.ownBlock)(aC:v'.ownBlock=some g\/g=H)(z:w.heap.size=H):Dsk W (w1.setCell (Ki D 1) (Y (Hw g 0) (ws.length+1) cap)) R D base e e' v (Y (Hw g 0) (ws.length+1) cap) ss (ws++[x]):=by
 have t:R<w.heap.size:=AC h.hR' h.sz;have s:D<w.heap.size:=AC h.hD' h.sz;have A:W.heap.size<=w.heap.size:=h.bel.size
 have l:∀k,k<base->some k≠v'.ownBlock:=λk c j=>by have:=(h.own'.lt k j.symm).1;omega
 have o:∀i,w1.cell? (Ki R i)=w.cell? (Ki R i):=λi=>f.cell_far (Ki R i) t (l R h.hR')
 have m:∀i,w1.cell? (Ki D i)=w.cell? (Ki D i):=λi=>f.cell_far (Ki D i) s (l D h.hD')
 have q:∀i,w1.frozen? (Ki R i)=w.frozen? (Ki R i):=λi=>f.frozen_far (Ki R i) t (l R h.hR')
 have p:∀i,w1.frozen? (Ki D i)=w.frozen? (Ki D i):=λi=>f.frozen_far (Ki D i) s (l D h.hD')
 have y:base<=g:=(aA.lt g rfl).1;have aB:Q3 W w1:=h.bel.E ⟨f.os,f.tape,f.output,f.size,λk c=>f.block k ω (l k (by have:=h.hR;have:=h.hR';omega))⟩
 have u:v.ownBlock=none\/v.ownBlock≠(Y (Hw g 0) (ws.length+1) cap).ownBlock:=by
  cases hv:v.ownBlock with
  | none=>exact .inl rfl
  | some i =>
   refine .inr λj=>?_
   have aD:i=g:=by simpa[Value.ownBlock] using j
   have aE:=(h.own.lt i hv).2;rcases aC with d|d
   .rcases h.apart with c|c|c
    .rw[hv]at c;cases c
    .rw[d]at c;cases c
    rw[d,hv,aD]at c;exact c rfl
   omega
 refine⟨h.hR,h.hR',h.hD,h.hD',h.ne,?_,aB.setCell h.hD _,?_,?_,?_,?_,?_,?_,?_,?_,?_,?_,?_⟩
 .have:=f.size;have:=h.sz;simp only[BI];omega
 .rw[DE (w:=w1) (h:=show((Ki D 1):Addr)≠(Ki R 0) fromλj=>h.ne (by injection j with d;exact d.symm)),o];exact h.r0
 .rw[DE (w:=w1) (h:=show((Ki D 1):Addr)≠(Ki R 1) fromλj=>h.ne (by injection j with d;exact d.symm)),o];exact h.r1
 .rw[BW,q];exact h.fr0
 .rw[BW,q];exact h.fr1
 .rw[DE (w:=w1) (h:=show((Ki D 1):Addr)≠(Ki D 0) by simp),m];exact h.d0
 .exact FJ w1 _ _ ((m 1).E h.d1)
 .rw[BW,p];exact h.fd0
 .rw[BW,p];exact h.fd1
 .have d:w1.ownsRow base e 1 v ss.length (ss.map Value.string):=h.own.kept f (by
   rcases h.apart with c|c|c
   .exact .inl c
   .cases hv:v.ownBlock with
    | none=>exact .inl rfl
    | some _=>rw[c];exact .inr σ
   .exact .inr c)
  exact ED d (a:=(Ki D 1)) h.hD' _
 .have:=ED aA (a:=(Ki D 1)) h.hD' (Y (Hw g 0) (ws.length+1) cap)
  rw[AK,El];exact this
 rcases u with d|d
 .exact .inl d
 exact .inr (.inr d)
theorem Dsk.V(h:Dsk W w R D base e e' v v' ss ws)(c:w.grownBy w1 v.ownBlock):w1.cell? (Ki D 0)=some v/\w1.frozen? (Ki D 0)=false:=by
 have d:D<w.heap.size:=AC h.hD' h.sz
 have f:some D≠v.ownBlock:=λi=>by have:=(h.own.lt D i.symm).1;have:=h.hD';omega
 exact⟨(c.cell_far (Ki D 0) d f).E h.d0,(c.frozen_far (Ki D 0) d f).E h.fd0⟩
theorem Dsk.grown2(h:Dsk W w R D base e e' v v' ss ws)(c:w.grownBy w1 v'.ownBlock):w1.cell? (Ki D 1)=some v'/\w1.frozen? (Ki D 1)=false:=by
 have d:D<w.heap.size:=AC h.hD' h.sz
 have f:some D≠v'.ownBlock:=λi=>by have:=(h.own'.lt D i.symm).1;have:=h.hD';omega
 exact⟨(c.cell_far (Ki D 1) d f).E h.d1,(c.frozen_far (Ki D 1) d f).E h.fd1⟩
end
end
