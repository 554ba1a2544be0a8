import Derived.Test.YtkdedmclofhndaaGreatDoorPrAm
import Derived.Test.YtkdedmclofhndaaGreatDoorPrAn
import Derived.Test.YtkdedmclofhndaaGreatDoorPrAp
import Derived.Laws.BytesArg
import Derived.WalkKit
import Derived.OrdersHeld
import Derived.Deep.RegionHeld
import Derived.Below
import Derived.Laws.MakeOwn
import Derived.WalkSmall
import Derived.Deep.Draws
import Derived.Deep.AppendLies
import Derived.WalkSpells
import Derived.WalkLawsBesides
import Derived.Outline
import Derived.BigQuiet
import Derived.Deep.QuietTactic
import Derived.Deep.RegionHeld3
import Derived.Test.YtkdedmclofhndaaGreatDoorProg
set_option maxHeartbeats 16000000
set_option maxRecDepth 8000
set_option linter.all false
namespace Go.Proofs.YtkdedmclofhndaaGreatDoor
open _root_.ByteArray(empty)
section
open Tryz
open Go.RowKit
variable {a:Act}{aA:Array Bool}{aB:Array Oper}{Q:Exit->Act->xV->Prop}{ws:List (Int×yZ)}{ss:List yZ}{cs:List qD}{N aC g:Nat}{oi:Oper}{P:Program}{md:Region.Mode}{w w':xV}{S:xV->Prop}
def sh:Nat->Int->Int
 | 0,v=>v
 | j+1,v=>sh j v / 256
theorem xN(j:Nat)(v:Int)(b:0<=v)(c:v<=18446744073709551615):0<=sh j v/\sh j v<=18446744073709551615:=by
 induction j with
 | zero=>exact⟨b,c⟩
 | succ j d=>unfold sh;omega
theorem Bh(j:Nat)(v:Int)(b:0<=v)(c:v<=9223372036854775807):0<=sh j v/\sh j v<=9223372036854775807:=by
 induction j with
 | zero=>exact⟨b,c⟩
 | succ j d=>unfold sh;omega
def be(n:Nat)(v:Int):List Int:=(List.range n).map λi=>sh (n-1-i) v % 256
theorem PA(n:Nat)(v:Int):(be n v).length=n:=by simp[be]
theorem xe(n:Nat)(v:Int):be (n+1) v=(sh n v % 256)::be n v:=by
 unfold be;rw[List.range_succ_eq_map];simp only[FU,IM,List.cons.injEq];refine⟨σ,?_⟩
 apply IG
 intro i b;simp at b;simp only[Function.comp];rw[show n+1-1-(i+1)=n-1-i by omega]
theorem rC(n:Nat)(v:Int)(i:Nat)(h:i<n):(be n v).getD i 0=sh (n-1-i) v % 256:=by
 simp[be,List.getD,h]
theorem TM(a b:List Int):strOfNums (a++b)=strOfNums a++strOfNums b:=by
 apply EQ
 simp[strOfNums]
def mb(x:Int)(c:UInt8):Int:=IntKind.u64.wrap (bits BinOp.xor IntKind.u64 x (IntKind.u64.wrap (c.toNat:Int))*1099511628211)
def PY(l:List UInt8):Int:=l.foldl mb 14695981039346656037
theorem Hw(x:Int):0<=IntKind.u64.wrap x/\IntKind.u64.wrap x<=18446744073709551615:=by
 simp[IntKind.wrap,IntKind.bits,IntKind.signed];omega
theorem XU(x:Int)(b:0<=x)(c:x<=18446744073709551615):IntKind.u64.wrap x=x:=by
 simp[IntKind.wrap,IntKind.bits,IntKind.signed];omega
theorem yu(l:List UInt8)(c:UInt8):PY (l++[c])=mb (PY l) c:=by simp[PY]
theorem qQ(l:List UInt8):0<=PY l/\PY l<=18446744073709551615:=by
 rcases GJ l with rfl|⟨b,c,rfl⟩
 ·unfold PY;simp
 rw[List.concat_eq_append,yu];exact Hw _
theorem xi(s:yZ)(k:Nat)(h:k<s.size):s.data.toList.take (k+1)=s.data.toList.take k++[s[k]]:=by
 rw[BH (by simpa using h)];rfl
def TT(s:yZ)(n:Nat):yZ:=strOfNums (be n (PY s.data.toList))
theorem mh(s:yZ)(n:Nat):(TT s n).size=n:=by unfold TT;rw[CY,PA]
theorem ox{t e:TypeId}{L:Nat}(d:P.underlying t=some (.array L e))(m:∀w,(sizeOf e).run P w=.ok 1 w)(b c l:Nat)(n:l<L)(k:IntKind)(f:Int)(aA:f=(l:Int))(w:xV):(Instr.sliceAt t (zW b c) (some (.int k f)) none none).run P w=.ok (yI (zY b (c+l)) (L-l) (L-l)) w:=by
 have h:P.arrayLen t=L:=by simp[Program.arrayLen,d]
 have i:P.elem t=e:=by simp[Program.elem,d]
 rw[run_sliceAt_array_l (P:=P) w t (yA b c) (by rw[h,i];exact d) k f ω ω,h,i,m,aA];have j:L≠l:=ω
 simp[slicedAt,j,Addr.add]
theorem sb{t e:TypeId}{L:Nat}(d:P.underlying t=some (.array L e))(l:∀w,(sizeOf e).run P w=.ok 1 w)(b c h:Nat)(n:0<L)(o:h<=L)(k:IntKind)(f:Int)(aA:f=(h:Int))(w:xV):(Instr.sliceAt t (zW b c) none (some (.int k f)) none).run P w=.ok (yI (zY b c) h L) w:=by
 have i:P.arrayLen t=L:=by simp[Program.arrayLen,d]
 have j:P.elem t=e:=by simp[Program.elem,d]
 rw[run_sliceAt_array_h (P:=P) w t (yA b c) (by rw[i,j];exact d) k f ω ω,i,j,l,aA];have m:L≠0:=ω
 simp[slicedAt,Addr.add]
theorem VA(p:yZ):p.toList.isEmpty=decide (p.size=0):=by
 rw[CZ];have e:p.size=p.data.toList.length:=rfl;rw[e]
 cases p.data.toList<;>simp
def LF(p:yZ):List Int:=p.data.toList.map λc=>(c.toNat:Int)
theorem MR(p:yZ):(LF p).length=p.size:=by simp[LF]
theorem UA(p:yZ):strOfNums (LF p)=p:=by
 apply EQ
 simp[strOfNums,LF,Function.comp_def]
def WL(k l m:Int)(p:yZ):List Int:=be 1 k++be 2 l++be 4 m++be 1 (p.size:Int)++LF p
theorem sf(k l m:Int)(p:yZ):(WL k l m p).length=8+p.size:=by
 simp[WL,PA,MR];omega
def VX(k l m:Int)(p:yZ)(n:Nat):List Int:=WL k l m p++List.replicate (56-n-p.size) 0
theorem t7(k l m:Int)(p:yZ)(n:Nat)(h:p.size+n<=56):(VX k l m p n).length=64-n:=by
 simp[VX,sf];omega
def TX(k l m:Int)(p:yZ)(n:Nat):yZ:=TT (strOfNums (VX k l m p n)) n++strOfNums (VX k l m p n)
theorem cz(k l m:Int)(p:yZ)(n:Nat)(h:p.size+n<=56):(TX k l m p n).size=64:=by
 unfold TX;rw[BW,mh,CY,t7 k l m p n h];omega
structure Wrote(w w':xV)(b off:Nat)(xs:List Int):Prop where
 os:w'.os=w.os
 tape:w'.tape=w.tape
 output:w'.output=w.output
 size:w'.heap.size=w.heap.size
 others:∀k,k≠b->w'.heap[k]?=w.heap[k]?
 inside:∀i,i<xs.length->w'.cell? (yA b (off+i))=some (.int .u8 (xs.getD i 0))
 outside:∀o,(o<off\/off+xs.length<=o)->w'.cell? (yA b o)=w.cell? (yA b o)
 frozen:∀a,w'.frozen? a=w.frozen? a
theorem Wrote.refl(w:xV)(b c:Nat):Wrote w w b c []:=⟨rfl,rfl,rfl,rfl,λ_ _=>rfl,λi h=>by simp at h,λ_ _=>rfl,λ_=>rfl⟩
theorem Wrote.I{b c:Nat}{d:List Int}(h:Wrote w w' b c d){B:Nat}(e:B<=b):Below B w w' :=⟨h.os,h.tape,h.output,by rw[h.size];exact AA _,λk f=>h.others k ω⟩
theorem Wrote.step{b off:Nat}{xs:List Int}(h:Wrote w w' b (off+1) xs)(n:Int){u:qD}(d:w.cell? (yA b off)=some u):Wrote w (w'.setCell (yA b off) (.int .u8 n)) b off (n::xs):=by
 have aA:w'.cell? (yA b off)=some u:=(h.outside off (.inl ω)).E d;refine⟨h.os,h.tape,h.output,?_,λk c=>?_,λi e=>?_,λo f=>?_,λa=>?_⟩
 ·rw[<-h.size];simp[World.setCell]
 ·rw[BM _ _ _ _ c];exact h.others k c
 ·cases i with
  | zero=>simpa using FW w' ⟨b,off,none⟩ (.int .u8 n) aA
  | succ i =>
   rw[DE (w:=w') (h:=show((yA b off):Addr)≠(yA b (off+(i+1))) by simp)];have:=h.inside i (by simpa using e);rw[show off+(i+1)=off+1+i by omega,this];simp
 ·simp only[BJ]at f
  rw[DE (w:=w') (h:=show((yA b off):Addr)≠(yA b o) by simp<;>omega)];exact h.outside o ω
 rw[BY];exact h.frozen a
@[reducible] def sJ(a b c d e f g h i:Int)(y:qD):List qD:=[Z a,Z b,Z c,Z d,Z e,Z f,Z g,Z h,Z i,y]
@[reducible] def sK(a b c d e f g h i:Int)(y:qD):Array qD:=#[Z a,Z b,Z c,Z d,Z e,Z f,Z g,Z h,Z i,y]
@[reducible] def dJ(z a b c d e f g h i:Int)(y x:qD):List qD:=[Z z,Z a,Z b,Z c,Z d,Z e,Z f,Z g,Z h,Z i,y,x]
@[reducible] def dK(z a b c d e f g h i:Int)(y x:qD):Array qD:=#[Z z,Z a,Z b,Z c,Z d,Z e,Z f,Z g,Z h,Z i,y,x]
theorem PS:(∀(a:Act) (t:Nat) (v:qD),a.put (some t) v={ a with tmps:=a.tmps.setIfInBounds t v })/\(∀(a:Act) (v:qD),a.put none v=a)/\(∀(l:List qD) (i:Nat) (v:qD),l.toArray.setIfInBounds i v=(l.set i v).toArray)/\(∀(x y:qD) (l:List qD),(x::l).set 0 y=y::l)/\(∀(x y:qD) (l:List qD) (n:Nat),(x::l).set (n+1) y=x::l.set n y)/\(∀(l:List Oper) (i:Nat) (h:i<l.toArray.size),l.toArray[i]=l[i]'(by simpa using h))/\(∀(x:Oper) (l:List Oper) (h:0<(x::l).length),(x::l)[0]'h=x)/\(∀(x:Oper) (l:List Oper) (i:Nat) (h:i+1<(x::l).length),(x::l)[i+1]'h=l[i]'(by simpa using h)) :=⟨λ_ _ _=>rfl,λ_ _=>rfl,λ_ _ _=>σ,λ_ _ _=>rfl,λ_ _ _ _=>rfl,λ_ _ _=>σ,λ_ _ _=>rfl,λ_ _ _ _=>rfl⟩
theorem TK(i:Nat)(v:qD)(f:aB[i]?=some oi)(l:YieldsIf P aB S oi v a)(d:S w)
  (h:wpAnyH P md aB Q S aC (aA.setIfInBounds i true) (a.put oi.dst v) w)(k:Region.noSelect aB=true:=by kernel_rfl)(e:Region.free md aB aA i=true:=by kernel_rfl)(j:(Region.ready md aB aA).contains i=true:=by kernel_rfl)
  (b:∀c a w,Q (.panic c) (a.put oi.dst v) w->Q (.panic c) a w:=by exactλ_ _ _ h=>h):wpAnyH P md aB Q S (aC+1) aA a w:=wpAnyH_take f k e j b l d h
theorem TY(i:Nat)(v:qD)(f:aB[i]?=some oi)(d:S w)
  (h:wpAnyH P md aB Q S aC (aA.setIfInBounds i true) (a.put oi.dst v) w)(l:YieldsIf P aB S oi v a:=by exact AS ⟨ρ,λw hw=>by(repeat (obtain⟨_,hw⟩:=hw));go_simp⟩)(k:Region.noSelect aB=true:=by kernel_rfl)(e:Region.free md aB aA i=true:=by kernel_rfl)(j:(Region.ready md aB aA).contains i=true:=by kernel_rfl)
  (b:∀c a w,Q (.panic c) (a.put oi.dst v) w->Q (.panic c) a w:=by exactλ_ _ _ h=>h):wpAnyH P md aB Q S (aC+1) aA a w:=wpAnyH_take f k e j b l d h
theorem TZ(i:Nat)(v:qD)(f:aB[i]?=some oi)(d:S w)
  (h:wpAnyH P md aB Q S aC (aA.setIfInBounds i true) (a.put oi.dst v) w)(l:YieldsIf P aB S oi v a:=by exact AS ⟨ρ,λw hw=>by(repeat (obtain⟨_,hw⟩:=hw));go_simp;all_goals omega⟩)(k:Region.noSelect aB=true:=by kernel_rfl)(e:Region.free md aB aA i=true:=by kernel_rfl)(j:(Region.ready md aB aA).contains i=true:=by kernel_rfl)
  (b:∀c a w,Q (.panic c) (a.put oi.dst v) w->Q (.panic c) a w:=by exactλ_ _ _ h=>h):wpAnyH P md aB Q S (aC+1) aA a w:=wpAnyH_take f k e j b l d h
theorem RD{aC:Array Oper}{aB:Nat}(i:Nat){o:Oper}(c:aC[i]?=some o)
  (h:∀b:Act->xV->Prop,Shut (∀a w,S w->(S w->wpAnyH P md aC Q S aB (aA.setIfInBounds i true) a w)->b a w)->if Region.wanted o (yielded aC a.tmps)=true then Oper.wp P o a w b Q else b (a.put o.dst undef) w)
  (b:Region.ready md aC aA=[i]:=by kernel_rfl):wpAnyH P md aC Q S (aB+1) aA a w:=ET b σ (DC c h EP)
theorem DN{aC:Array Oper}{aB:Nat}(h:Q .normal a w)(b:Region.ready md aC aA=[]:=by kernel_rfl):wpAnyH P md aC Q S aB aA a w:=wpAnyH_done b h _
theorem Y{p:Prop}(h:p):Hid p:=h
theorem nI{k:IntKind}{a b:Int}(h:a=b):yT (.int k a)=yT (.int k b):=by rw[h]
def Strs(w:xV)(a:xA)(ss:List yZ):Prop :=ss=[]\/∃b o,a=zY b o/\b<w.heap.size/\∀i,i<ss.length->w.cell? (yA b (o+i))=some (yQ (ss.getD i empty))
def Wrs(w:xV)(a:xA)(ws:List (Int×yZ)):Prop :=ws=[]\/∃b o,a=zY b o/\b<w.heap.size/\∀i,i<ws.length->w.cell? (yA b (o+i*2))=some (Z (ws.getD i (0,empty)).1)/\w.cell? (yA b (o+i*2+1))=some (yQ (ws.getD i (0,empty)).2)
theorem Strs.I{a:xA}(h:Strs w a ss)(d:yX w w'):Strs w' a ss:=by
 rcases h with h|⟨b,o,e,c,f⟩
 ·exact .inl h
 exact .inr ⟨b,o,e,AC c d.size,λi j=>(d.cell (p:=(yA b (o+i))) c).E (f i j)⟩
theorem Wrs.I{a:xA}(h:Wrs w a ws)(d:yX w w'):Wrs w' a ws:=by
 rcases h with h|⟨b,o,j,c,e⟩
 ·exact .inl h
 exact .inr ⟨b,o,j,AC c d.size,λi f=>⟨(d.cell (p:=(yA b (o+i*2))) c).E (e i f).1,(d.cell (p:=(yA b (o+i*2+1))) c).E (e i f).2⟩⟩
theorem Strs.at{a:xA}(h:Strs w a ss){k:Nat}(c:k<ss.length):∃b o s,a=zY b o/\w.cell? (yA b (o+k))=some (yQ s)/\Hid (s=ss.getD k empty):=by
 rcases h with h|⟨b,o,d,f,e⟩
 ·subst h;simp at c
 exact⟨b,o,_,d,e k c,Y rfl⟩
theorem Wrs.at{a:xA}(h:Wrs w a ws){k:Nat}(c:k<ws.length):∃b o n s,a=zY b o/\w.cell? (yA b (o+k*2))=some (Z n)/\w.cell? (yA b (o+k*2+1))=some (yQ s)/\Hid ((n,s)=ws.getD k (0,empty)):=by
 rcases h with h|⟨b,o,e,f,d⟩
 ·subst h;simp at c
 exact⟨b,o,_,_,e,(d k c).1,(d k c).2,Y rfl⟩
theorem YG{α:Type}(l:List α)(k:Nat)(d:α)(h:k<l.length):l.drop k=l.getD k d::l.drop (k+1):=by
 rw[FR h];simp[List.getD,h]
theorem NF{p:Addr}{x:Option qD}(h:Below N w w')(b:w.cell? p=x)(c:p.block<N:=by simp<;>omega):w'.cell? p=x:=(h.cell c).E b
theorem RW{p:Addr}{x:Bool}(h:Below N w w')(b:w.frozen? p=x)(c:p.block<N:=by simp<;>omega):w'.frozen? p=x:=(h.frozen c).E b
theorem k3(h:Below N w w')(g:Nat)(a b c:qD)(j:w.cell? (yA g 0)=some a:=by go_simp)(e:w.frozen? (yA g 0)=false:=by go_simp)(k:w.cell? (yA g 1)=some b:=by go_simp)(f:w.frozen? (yA g 1)=false:=by go_simp)(l:w.cell? (yA g 2)=some c:=by go_simp)(i:w.frozen? (yA g 2)=false:=by go_simp)(d:g<N:=by simp<;>omega):w'.cell? (yA g 0)=some a/\w'.frozen? (yA g 0)=false/\w'.cell? (yA g 1)=some b/\w'.frozen? (yA g 1)=false/\w'.cell? (yA g 2)=some c/\w'.frozen? (yA g 2)=false:=⟨NF h j d,RW h e d,NF h k d,RW h f d,NF h l d,RW h i d⟩
theorem LG(w:xV)(o:Obj):yX w (w.alloc o):=(AB _ _).alloc (AA _) _
theorem NE{v:Ending}{K:Ending->xV->Prop}(h:K v w):∀e w',e=v/\w'=w->K e w':=λ_ _ k=>by rw[k.1,k.2];exact h
structure Row(w:xV)(g:Nat)(cs:List qD):Prop where
 lt:g<w.heap.size
 cell:∀i v,cs[i]?=some v->w.cell? (yA g i)=some v
 froz:∀i,i<cs.length->w.frozen? (yA g i)=false
theorem Row.y{w:xV}{g:Nat}{cs:List qD}(h:Row w g cs)(i:Nat){v:qD}(hv:cs[i]?=some v:=by rfl):w.cell? (yA g i)=some v:=h.cell i v hv
theorem Row.A{w:xV}{g:Nat}{cs:List qD}(h:Row w g cs)(i:Nat)(b:i<cs.length:=by simp):w.frozen? (yA g i)=false:=h.froz i b
theorem Row.I(h:Row w g cs)(b:yX w w'):Row w' g cs :=⟨AC h.lt b.size,λi v hv=>(b.cell (p:=(yA g i)) h.lt).E (h.cell i v hv),λi c=>(b.frozen (p:=(yA g i)) h.lt).E (h.froz i c)⟩
theorem Row.set(h:Row w g cs)(k:Nat)(d:k<cs.length)(v:qD):Row (w.setCell (yA g k) v) g (cs.set k v):=by
 refine⟨by simpa[World.setCell] using h.lt,λi u b=>?_,λi f=>?_⟩
 ·by_cases c:i=k
  ·subst c
   rw[JM d]at b
   cases b
   exact FW w _ _ (h.cell i _ (AO d))
  rw[IV (λe=>c e.symm)]at b
  rw[DE (w:=w) (h:=show((yA g k):Addr)≠(yA g i) by simp<;>omega)];exact h.cell i u b
 rw[BY];exact h.froz i (by simpa using f)
theorem Row.other(h:Row w g cs)(p:Addr)(c:p.block≠g)(v:qD):Row (w.setCell p v) g cs:=by
 refine⟨by simpa[World.setCell] using h.lt,λi u d=>?_,λi b=>?_⟩
 ·rw[DE (w:=w) (h:=λe=>c (by rw[e]))];exact h.cell i u d
 rw[BY];exact h.froz i b
theorem Row.drew(h:Row w g cs):Row w.drew g cs:=⟨h.lt,h.cell,h.froz⟩
theorem Row.drewN(h:Row w g cs)(q:Nat):Row (w.drewN q) g cs:=h.I (below_drewN (AB _ _) q)
theorem Row.alloc(h:Row w g cs)(o:Obj):Row (w.alloc o) g cs:=h.I (LG _ _)
theorem Cf(w:xV)(b o:Nat)(h:w.heap.size<=b):w.frozen? (yA b o)=false:=by
 have e:w.heap[b]?=none:=by simp[h]
 simp[World.frozen?,e]
theorem LS(w:xV)(A:Array qD)(t:TypeId):Row (w.alloc (.cells A t)) w.heap.size A.toList :=⟨σ,λi v hv=>by rw[EH _ _ _ _ rfl];simpa using hv,λi b=>by rw[EA];exact Cf _ _ _ (AA _)⟩
theorem Row.strs(h:Row w g (ss.map Value.string)):Strs w (zY g 0) ss :=.inr ⟨g,0,rfl,h.lt,λi b=>by
  rw[BK]
  exact h.cell i _ (by simp[List.getD,b])⟩
def MH(ws:List (Int×yZ)):List qD:=ws.flatMap λx=>[Z x.1,yQ x.2]
theorem B5(a b:List (Int×yZ)):MH (a++b)=MH a++MH b:=by simp[MH]
theorem cj(ws:List (Int×yZ)):(MH ws).length=ws.length*2:=by
 induction ws with
 | nil=>rfl
 | cons x r b=>simp[MH]at b⊢;omega
theorem km:∀(ws:List (Int×yZ)) (i:Nat),i<ws.length->(MH ws)[i*2]?=some (Z (ws.getD i (0,empty)).1)/\(MH ws)[i*2+1]?=some (yQ (ws.getD i (0,empty)).2)
 | x::r,0,_=>by simp[MH]
 | x::r,i+1,h=>by
  have b:=km r i (by simpa using h);have e:MH (x::r)=Z x.1::yQ x.2::MH r:=by simp[MH]
  rw[e,show(i+1)*2=i*2+2 by omega];simpa using b
theorem Row.wrs(h:Row w g (MH ws)):Wrs w (zY g 0) ws :=.inr ⟨g,0,rfl,h.lt,λi b=>by
  rw[BK]
  exact⟨h.cell _ _ (km ws i b).1,h.cell _ _ (km ws i b).2⟩⟩
theorem py{f:Array Oper}{aC:List Oper}{o:Oper}
  (v:o.guard=none)(l c:Operand)(t:TypeId)(m:o.op=Op.makeSlice t l c)(e:TypeId)(z:qD)(b aA:Nat)(A:P.underlying t=some (.slice e))(aB:(P.info? e).map (λi=>(i.zero,i.size,i.bytes))=some (some z,b,aA))
  (n:Nat)(y:a.eval l=Z (n:Int))(u:a.eval c=Z (n:Int))(B:aA*n<=281474976710656)(C:n<=281474976710656)
  (h:∀d,Row d w.heap.size (madeCells z.cells (n*b)).toList->yX w d->d.heap.size=w.heap.size+1->wpList P f Q aC (a.put o.dst (yI (zY w.heap.size 0) n n)) d):wpList P f Q (o::aC) a w:=by
 refine ID v λK s=>?_
 obtain⟨i,x,d⟩:=DZ.1 aB;simp only[EJ]at d;obtain⟨p,q,r⟩:=d;subst q r
 have k:(i.bytes:Int)*(n:Int)<=281474976710656:=by
  have:((i.bytes*n:Nat):Int)<=281474976710656:=ω
  rwa [Int.natCast_mul]at this
 have j:=run_make (P:=P) w t e i z A x p .i64 .i64 n n ω (Int.le_refl _) k ω;simp only[DS]at j;unfold Oper.wp;simp[execOp,m,y,u,j,Result.andThen];exact s _ _ (h _ (LS _ _ _) (LG _ _) σ)
theorem L8(n:Nat):(madeCells (yQ empty).cells (n*1)).toList=List.replicate n (yQ empty):=by
 unfold madeCells;rw[JX,KV,KI];rw[JP];refine⟨σ,λb c=>?_⟩;obtain⟨i,_,rfl⟩:=DT.1 c;have:i % (yQ empty).cells.size=0:=by simp[Value.cells,Nat.mod_one]
 rw[this];rfl
end
section
open Tryz
open Go
theorem QS{P:Program}(w:xV){B:Array Oper}{A:List Oper}{o:Oper}{a:Act}{Q:Exit->Act->xV->Prop}(F:o.guard=none)(s x:Operand)(t:TypeId)
  (N:o.op=.call { callee:=.builtin .append,args:=#[s,x],argTypes:=#[t,t] })
  (f:Nat){e:TypeId}{i:TypeInfo}{z:qD}{b q:Nat}(R:P.underlying t=some (.slice e))(l:P.info? e=some i/\i.zero=some z/\i.size=b/\i.bytes=q)(I:z.cells.size=b)(G:0<b)
  (v:qD)(n:Nat)(y:List qD)(O:a.eval s=v)(E:w.ownsRow f e b v n y)
  (r:Addr)(m c:Nat)(d:List qD)(S:a.eval x=yI (some r) m c)(L:d.length=m*b)(D:∀j u,d[j]?=some u->w.cell? (r.add j)=some u)(J:∀u∈d,u.oneCell'=true)
  (C:f<=w.heap.size)(H:Nat)(K:w.heap.size=H)
  (h:∀g k p,p.ownsRow f e b (yI (zY g 0) (n+m) k) (n+m) (y++d)->w.grownBy p v.ownBlock->(v.ownBlock=some g\/g=H)->g<p.heap.size->wpList P B Q A (a.put o.dst (yI (zY g 0) (n+m) k)) p)(M:0<m:=by omega)(u:n+m<=maxLen:=by unfold maxLen;omega)(j:(n+m)*q<=140737488355328:=by omega):wpList P B Q (o::A) a w :=wpList_append_lies w F s x t N f e i z b q R l.1 l.2.1 l.2.2.1 l.2.2.2 I G v n y O E r m c d S L D J M u j C H K h
theorem RP{P:Program}(w:xV){I:Array Oper}{o:Oper}{a:Act}{K:Act->xV->Prop}{Q:Exit->Act->xV->Prop}{E:Prop}(D:o.guard=none)(s x:Operand)(t:TypeId)
  (O:o.op=.call { callee:=.builtin .append,args:=#[s,x],argTypes:=#[t,t] })
  (f:Nat){e:TypeId}{i:TypeInfo}{z:qD}{b q:Nat}(S:P.underlying t=some (.slice e))(l:P.info? e=some i/\i.zero=some z/\i.size=b/\i.bytes=q)(G:z.cells.size=b)(F:0<b)
  (v:qD)(n:Nat)(y:List qD)(R:a.eval s=v)(C:w.ownsRow f e b v n y)
  (r:Addr)(m c:Nat)(d:List qD)(T:a.eval x=yI (some r) m c)(M:d.length=m*b)(B:∀j u,d[j]?=some u->w.cell? (r.add j)=some u)(J:∀u∈d,u.oneCell'=true)
  (A:f<=w.heap.size)(H:Nat)(L:w.heap.size=H)
  (h:∀g k p,p.ownsRow f e b (yI (zY g 0) (n+m) k) (n+m) (y++d)->w.grownBy p v.ownBlock->(v.ownBlock=some g\/g=H)->g<p.heap.size->K (a.put o.dst (yI (zY g 0) (n+m) k)) p)(N:0<m:=by omega)(u:n+m<=maxLen:=by unfold maxLen;omega)(j:(n+m)*q<=140737488355328:=by omega):if Region.wanted o (yielded I a.tmps)=true then Oper.wp P o a w K Q else E :=step_append_lies w D s x t O f e i z b q S l.1 l.2.1 l.2.2.1 l.2.2.2 G F v n y R C r m c d T M B J N u j A H L h
end
section
open Tryz
open Go.RowKit
variable {v:yZ}{rs:List (yZ×yZ)}{ws:List (Int×yZ)}{ss:List yZ}{cs r:List qD}{g hi k lo:Nat}{a:xA}{a0 a1 a2 a3 a4 a5 a6 a7 a8 a9 aA aB aC aD aE aF v0 v1 v2 v3 v4 v5 v6 v7 v8 v9:qD}{b w w':xV}{F:xV->Prop}
theorem Row.k3(h:Row w g (v0::v1::v2::r)):w.cell? (yA g 0)=some v0/\w.cell? (yA g 1)=some v1/\w.cell? (yA g 2)=some v2:=⟨h.y 0,h.y 1,h.y 2⟩
theorem Row.k4(h:Row w g (v0::v1::v2::v3::r)):w.cell? (yA g 0)=some v0/\w.cell? (yA g 1)=some v1/\w.cell? (yA g 2)=some v2/\w.cell? (yA g 3)=some v3:=⟨h.y 0,h.y 1,h.y 2,h.y 3⟩
theorem Row.k10(h:Row w g (v0::v1::v2::v3::v4::v5::v6::v7::v8::v9::r)):w.cell? (yA g 0)=some v0/\w.cell? (yA g 1)=some v1/\w.cell? (yA g 2)=some v2/\w.cell? (yA g 3)=some v3/\w.cell? (yA g 4)=some v4/\w.cell? (yA g 5)=some v5/\w.cell? (yA g 6)=some v6/\w.cell? (yA g 7)=some v7/\w.cell? (yA g 8)=some v8/\w.cell? (yA g 9)=some v9:=⟨h.y 0,h.y 1,h.y 2,h.y 3,h.y 4,h.y 5,h.y 6,h.y 7,h.y 8,h.y 9⟩
theorem Row.k12(h:Row w g (v0::v1::v2::v3::v4::v5::v6::v7::v8::v9::aA::aB::r)):w.cell? (yA g 0)=some v0/\w.cell? (yA g 1)=some v1/\w.cell? (yA g 2)=some v2/\w.cell? (yA g 3)=some v3/\w.cell? (yA g 4)=some v4/\w.cell? (yA g 5)=some v5/\w.cell? (yA g 6)=some v6/\w.cell? (yA g 7)=some v7/\w.cell? (yA g 8)=some v8/\w.cell? (yA g 9)=some v9/\w.cell? (yA g 10)=some aA/\w.cell? (yA g 11)=some aB:=⟨h.y 0,h.y 1,h.y 2,h.y 3,h.y 4,h.y 5,h.y 6,h.y 7,h.y 8,h.y 9,h.y 10,h.y 11⟩
theorem Row.k16(h:Row w g (v0::v1::v2::v3::v4::v5::v6::v7::v8::v9::aA::aB::aC::aD::aE::aF::r)):w.cell? (yA g 0)=some v0/\w.cell? (yA g 1)=some v1/\w.cell? (yA g 2)=some v2/\w.cell? (yA g 3)=some v3/\w.cell? (yA g 4)=some v4/\w.cell? (yA g 5)=some v5/\w.cell? (yA g 6)=some v6/\w.cell? (yA g 7)=some v7/\w.cell? (yA g 8)=some v8/\w.cell? (yA g 9)=some v9/\w.cell? (yA g 10)=some aA/\w.cell? (yA g 11)=some aB/\w.cell? (yA g 12)=some aC/\w.cell? (yA g 13)=some aD/\w.cell? (yA g 14)=some aE/\w.cell? (yA g 15)=some aF:=⟨h.y 0,h.y 1,h.y 2,h.y 3,h.y 4,h.y 5,h.y 6,h.y 7,h.y 8,h.y 9,h.y 10,h.y 11,h.y 12,h.y 13,h.y 14,h.y 15⟩
theorem Row.z2(h:Row w g (v0::v1::r)):w.frozen? (yA g 0)=false/\w.frozen? (yA g 1)=false:=⟨h.A 0,h.A 1⟩
theorem Row.z3(h:Row w g (v0::v1::v2::r)):w.frozen? (yA g 0)=false/\w.frozen? (yA g 1)=false/\w.frozen? (yA g 2)=false:=⟨h.A 0,h.A 1,h.A 2⟩
theorem Row.z4(h:Row w g (v0::v1::v2::v3::r)):w.frozen? (yA g 0)=false/\w.frozen? (yA g 1)=false/\w.frozen? (yA g 2)=false/\w.frozen? (yA g 3)=false:=⟨h.A 0,h.A 1,h.A 2,h.A 3⟩
theorem Row.z12(h:Row w g (v0::v1::v2::v3::v4::v5::v6::v7::v8::v9::aA::aB::r)):w.frozen? (yA g 0)=false/\w.frozen? (yA g 1)=false/\w.frozen? (yA g 2)=false/\w.frozen? (yA g 3)=false/\w.frozen? (yA g 4)=false/\w.frozen? (yA g 5)=false/\w.frozen? (yA g 6)=false/\w.frozen? (yA g 7)=false/\w.frozen? (yA g 8)=false/\w.frozen? (yA g 9)=false/\w.frozen? (yA g 10)=false/\w.frozen? (yA g 11)=false:=⟨h.A 0,h.A 1,h.A 2,h.A 3,h.A 4,h.A 5,h.A 6,h.A 7,h.A 8,h.A 9,h.A 10,h.A 11⟩
theorem Row.z16(h:Row w g (v0::v1::v2::v3::v4::v5::v6::v7::v8::v9::aA::aB::aC::aD::aE::aF::r)):w.frozen? (yA g 0)=false/\w.frozen? (yA g 1)=false/\w.frozen? (yA g 2)=false/\w.frozen? (yA g 3)=false/\w.frozen? (yA g 4)=false/\w.frozen? (yA g 5)=false/\w.frozen? (yA g 6)=false/\w.frozen? (yA g 7)=false/\w.frozen? (yA g 8)=false/\w.frozen? (yA g 9)=false/\w.frozen? (yA g 10)=false/\w.frozen? (yA g 11)=false/\w.frozen? (yA g 12)=false/\w.frozen? (yA g 13)=false/\w.frozen? (yA g 14)=false/\w.frozen? (yA g 15)=false:=⟨h.A 0,h.A 1,h.A 2,h.A 3,h.A 4,h.A 5,h.A 6,h.A 7,h.A 8,h.A 9,h.A 10,h.A 11,h.A 12,h.A 13,h.A 14,h.A 15⟩
def Prs(w:xV)(a:xA)(rs:List (yZ×yZ)):Prop :=rs=[]\/∃b o,a=zY b o/\b<w.heap.size/\∀i,i<rs.length->w.cell? (yA b (o+i*2))=some (yQ (rs.getD i (empty,empty)).1)/\w.cell? (yA b (o+i*2+1))=some (yQ (rs.getD i (empty,empty)).2)
theorem Prs.I(h:Prs w a rs)(d:yX w w'):Prs w' a rs:=by
 rcases h with h|⟨b,o,f,c,e⟩
 ·exact .inl h
 exact .inr ⟨b,o,f,AC c d.size,λi hi=>⟨(d.cell (p:=(yA b (o+i*2))) c).E (e i hi).1,(d.cell (p:=(yA b (o+i*2+1))) c).E (e i hi).2⟩⟩
theorem Prs.at(h:Prs w a rs)(c:k<rs.length):∃b o d e,a=zY b o/\w.cell? (yA b (o+k*2))=some (yQ d)/\w.cell? (yA b (o+k*2+1))=some (yQ e)/\Hid ((d,e)=rs.getD k (empty,empty)):=by
 rcases h with h|⟨b,o,e,f,d⟩
 ·subst h;simp at c
 exact⟨b,o,_,_,e,(d k c).1,(d k c).2,Y rfl⟩
def LN(rs:List (yZ×yZ)):List qD:=rs.flatMap λx=>[yQ x.1,yQ x.2]
theorem UV(a b:List (yZ×yZ)):LN (a++b)=LN a++LN b:=by simp[LN]
theorem WY(rs:List (yZ×yZ)):(LN rs).length=rs.length*2:=by
 induction rs with
 | nil=>rfl
 | cons x r c=>simp[LN]at c⊢;omega
theorem jc:∀(rs:List (yZ×yZ)) (i:Nat),i<rs.length->(LN rs)[i*2]?=some (yQ (rs.getD i (empty,empty)).1)/\(LN rs)[i*2+1]?=some (yQ (rs.getD i (empty,empty)).2)
 | x::r,0,_=>by simp[LN]
 | x::r,i+1,h=>by
  have c:=jc r i (by simpa using h);have e:LN (x::r)=yQ x.1::yQ x.2::LN r:=by simp[LN]
  rw[e,show(i+1)*2=i*2+2 by omega];simpa using c
theorem Row.prs(h:Row w g (LN rs)):Prs w (zY g 0) rs :=.inr ⟨g,0,rfl,h.lt,λi hi=>by
  rw[BK]
  exact⟨h.cell _ _ (jc rs i hi).1,h.cell _ _ (jc rs i hi).2⟩⟩
@[reducible] def LR(a:xA)(n c:Nat):qD:=.agg #[yI a n c]
theorem rj{a b:yZ}(h:a=b):yT (yQ a)=yT (yQ b):=by rw[h]
theorem rz(w:xV)(n:Int):(convert 24 9 (yI (zY w.heap.size 0) 1 1)).run prog (w.alloc (.cells #[.int .u8 n] 5))=.ok (yQ (strOfNums [n])) (w.alloc (.cells #[.int .u8 n] 5)) :=ES (P:=prog) _ 24 5 underlying24 underlying5 w.heap.size 0 1 1 [n] rfl (λi hi=>by
  have:i=0:=ω
  subst this;simp) 9 underlying9
theorem VL{a c:xV}{r:Option Nat}(h:a.grownBy b r)(k:b.grownBy c r):a.grownBy c r :=⟨k.os.E h.os,k.tape.E h.tape,k.output.E h.output,AJ h.size k.size,λi hi d=>(k.block i (AC hi h.size) d).E (h.block i hi d)⟩
theorem ki{a:xV}(r:Option Nat)(h:yX a b):a.grownBy b r:=⟨h.os,h.tape,h.output,h.size,λi hi _=>h.block i hi⟩
theorem NA{a:xV}(h:a.grownBy b (some g))(i:Nat)(v:qD):a.grownBy (b.setCell (yA g i) v) (some g) :=VL h ⟨rfl,rfl,rfl,by simp[World.setCell],λj _ c=>BM _ _ _ _ (λe=>c (by rw[e]))⟩
theorem MF{a:xV}{r:Option Nat}{B:Nat}(h:a.grownBy b r)(d:B<=a.heap.size)(c:∀g,r=some g->B<=g):Below B a b :=⟨h.os,h.tape,h.output,h.size,λk f=>h.block k ω (λe=>by have:=c k e.symm;omega)⟩
theorem Row.V{r:Option Nat}(h:Row w g cs)(c:w.grownBy w' r)(d:some g≠r):Row w' g cs :=⟨AC h.lt c.size,λi v hv=>(DP (a:=(yA g i)) (c.block g h.lt d)).E (h.cell i v hv),λi hi=>(GQ (a:=(yA g i)) (c.block g h.lt d)).E (h.froz i hi)⟩
def OwnS(w:xV)(a:xA)(cs:List qD):Prop:=cs=[]\/∃g,a=zY g 0/\Row w g cs
def blk(a:xA)(n:Nat):Option Nat:=if n=0 then none else a.map (·.block)
theorem ML(b o:Nat)(n:Nat)(h:n≠0):blk (zY b o) n=some b:=by simp[blk,h]
structure OwnD(w:xV)(a:xA)(ss:List yZ)(a':xA)(ws:List (Int×yZ)):Prop where
 s:OwnS w a (ss.map Value.string)
 p:OwnS w a' (MH ws)
 ne:blk a ss.length=none\/blk a' ws.length=none\/blk a ss.length≠blk a' ws.length
theorem OwnS.I(h:OwnS w a cs)(e:yX w w'):OwnS w' a cs:=by
 rcases h with h|⟨g,c,d⟩
 ·exact .inl h
 exact .inr ⟨g,c,d.I e⟩
theorem OwnS.V{r:Option Nat}(h:OwnS w a cs)(f:w.grownBy w' r)(i:∀g,a=zY g 0->cs≠[]->some g≠r):OwnS w' a cs:=by
 by_cases c:cs=[]
 ·exact .inl c
 obtain⟨g,d,e⟩:=h.resolve_left c
 exact .inr ⟨g,d,e.V f (i g d c)⟩
theorem OwnS.lt(h:OwnS w a cs)(n:Nat)(i:n≠0->cs≠[]):∀g,blk a n=some g->g<w.heap.size:=λg d=>by
 by_cases c:n=0
 ·subst c;cases d
 obtain⟨e,rfl,f⟩:=h.resolve_left (i c)
 rw[ML e 0 n c]at d
 cases d
 exact f.lt
theorem OwnD.I{c:xA}(h:OwnD w a ss c ws)(d:yX w w'):OwnD w' a ss c ws:=⟨h.s.I d,h.p.I d,h.ne⟩
theorem OwnS.strs(h:OwnS w a (ss.map Value.string)):Strs w a ss:=by
 rcases h with h|⟨g,rfl,c⟩
 ·exact .inl (by simpa using h)
 exact c.strs
theorem OwnS.wrs(h:OwnS w a (MH ws)):Wrs w a ws:=by
 rcases h with h|⟨g,rfl,c⟩
 ·exact .inl (by have:=BC List.length h;rw[cj,AT]at this;exact AD ω)
 exact c.wrs
theorem ir(h:ss.length≠0):ss.map Value.string≠[]:=λe=>h (by have:=BC List.length e;simpa using this)
theorem VJ(h:ss.map Value.string≠[]):ss.length≠0:=λe=>h (by rw[AD e];rfl)
theorem af(h:MH ws≠[]):ws.length≠0:=λe=>h (by rw[AD e];rfl)
structure Dep(w:xV)(lo hi:Nat)(F:xV->Prop):Prop where
 q:F w
 top:hi<=w.heap.size
 keep:∀w':xV,(∀b,lo<=b->b<hi->w'.heap[b]?=w.heap[b]?)->hi<=w'.heap.size->F w'
theorem Dep.I(h:Dep w lo hi F)(c:yX w w'):Dep w' lo hi F :=⟨h.keep w' (λb _ d=>c.block b (AC d h.top)) (AJ h.top c.size),AJ h.top c.size,λj d f=>h.keep j (λb i e=>(d b i e).E (c.block b (AC e h.top))) f⟩
theorem Dep.V{r:Option Nat}(h:Dep w lo hi F)(d:w.grownBy w' r)(j:∀g,r=some g->g<lo\/hi<=g):Dep w' lo hi F:=by
 have aA:∀b,lo<=b->b<hi->w'.heap[b]?=w.heap[b]?:=λb f c=>d.block b (AC c h.top) (λe=>by have:=j b e.symm;omega)
 exact⟨h.keep w' aA (AJ h.top d.size),AJ h.top d.size,λl c i=>h.keep l (λb e f=>(c b e f).E (aA b e f)) i⟩
theorem Dep.and{G:xV->Prop}(h:Dep w lo hi F)(k:Dep w lo hi G):Dep w lo hi (λw=>F w/\G w):=⟨⟨h.q,k.q⟩,h.top,λw' c d=>⟨h.keep w' c d,k.keep w' c d⟩⟩
theorem Dep.wide{aB aA:Nat}(h:Dep w lo hi F)(f:aB<=lo)(i:hi<=aA)(d:aA<=w.heap.size):Dep w aB aA F:=⟨h.q,d,λw' e j=>h.keep w' (λb a c=>e b ω ω) ω⟩
theorem SX(h:Row w g cs)(e:w'.heap[g]?=w.heap[g]?)(c:g<w'.heap.size):Row w' g cs :=⟨c,λi v hv=>by rw[<-h.cell i v hv];simp[World.cell?,e],λi hi=>by rw[<-h.froz i hi];simp[World.frozen?,e]⟩
theorem bi(h:Row w g cs)(c:lo<=g)(d:g<hi)(e:hi<=w.heap.size):Dep w lo hi (λw=>Row w g cs):=⟨h,e,λw' f i=>SX h (f g c d) ω⟩
theorem QF{n:Nat}(h:OwnS w a cs)(f:cs≠[]->n≠0)(e:∀g,blk a n=some g->lo<=g):Dep w lo w.heap.size (λw=>OwnS w a cs) :=⟨h,AA _,λw' i j=>by
  by_cases c:cs=[]
  ·exact .inl c
  obtain⟨g,rfl,d⟩:=h.resolve_left c
  exact .inr ⟨g,rfl,SX d (i g (e g (ML _ _ _ (f c))) d.lt) (AC d.lt j)⟩⟩
theorem Dep.cut(h:Dep w lo w.heap.size (λw=>OwnS w a cs))(d:∀g,a=zY g 0->cs≠[]->g<hi)(e:hi<=w.heap.size)(f:∀g,a=zY g 0->cs≠[]->lo<=g):Dep w lo hi (λw=>OwnS w a cs) :=⟨h.q,e,λw' j l=>by
  by_cases c:cs=[]
  ·exact .inl c
  obtain⟨g,rfl,i⟩:=h.q.resolve_left c
  exact .inr ⟨g,rfl,SX i (j g (f g rfl c) (d g rfl c)) (AC (d g rfl c) l)⟩⟩
theorem du{n:Nat}(h:blk (zY g 0) n=some k):k=g:=by
 unfold blk at h
 split at h
 ·cases h
 simp at h;exact h.symm
theorem Dep.low{N:Nat}(h:Dep w lo hi F)(c:Below N w w')(l:hi<=N):Dep w' lo hi F :=⟨h.keep w' (λb _ d=>c.block b ω) (AJ h.top c.size),AJ h.top c.size,λj d e=>h.keep j (λb f i=>(d b f i).E (c.block b ω)) e⟩
theorem Oi(w:xV)(A:Array qD)(t:TypeId):Dep (w.alloc (.cells A t)) w.heap.size (w.heap.size+1) (λW=>Row W w.heap.size A.toList):=bi (LS w A t) (AA _) ω σ
theorem LK{v:xV}{A:Array qD}{t:TypeId}(e:w.alloc (.cells A t)=v):yX w v/\v.heap.size=w.heap.size+1/\Dep v w.heap.size (w.heap.size+1) (λW=>Row W w.heap.size A.toList):=by
 subst e;exact⟨LG _ _,σ,bi (LS w A t) (AA _) ω σ⟩
theorem c10(h:Row w g [a0,a1,a2,a3,a4,a5,a6,a7,a8,a9]):w.cell? (yA g 0)=some a0/\w.cell? (yA g 1)=some a1/\w.cell? (yA g 2)=some a2/\w.cell? (yA g 3)=some a3/\w.cell? (yA g 4)=some a4/\w.cell? (yA g 5)=some a5/\w.cell? (yA g 6)=some a6/\w.cell? (yA g 7)=some a7/\w.cell? (yA g 8)=some a8/\w.cell? (yA g 9)=some a9/\g<w.heap.size :=⟨h.y 0,h.y 1,h.y 2,h.y 3,h.y 4,h.y 5,h.y 6,h.y 7,h.y 8,h.y 9,h.lt⟩
theorem c12(h:Row w g [a0,a1,a2,a3,a4,a5,a6,a7,a8,a9,aA,aB]):w.cell? (yA g 0)=some a0/\w.cell? (yA g 1)=some a1/\w.cell? (yA g 2)=some a2/\w.cell? (yA g 3)=some a3/\w.cell? (yA g 4)=some a4/\w.cell? (yA g 5)=some a5/\w.cell? (yA g 6)=some a6/\w.cell? (yA g 7)=some a7/\w.cell? (yA g 8)=some a8/\w.cell? (yA g 9)=some a9/\w.cell? (yA g 10)=some aA/\w.cell? (yA g 11)=some aB/\g<w.heap.size :=⟨h.y 0,h.y 1,h.y 2,h.y 3,h.y 4,h.y 5,h.y 6,h.y 7,h.y 8,h.y 9,h.y 10,h.y 11,h.lt⟩
theorem c16(h:Row w g [a0,a1,a2,a3,a4,a5,a6,a7,a8,a9,aA,aB,aC,aD,aE,aF]):w.cell? (yA g 0)=some a0/\w.cell? (yA g 1)=some a1/\w.cell? (yA g 2)=some a2/\w.cell? (yA g 3)=some a3/\w.cell? (yA g 4)=some a4/\w.cell? (yA g 5)=some a5/\w.cell? (yA g 6)=some a6/\w.cell? (yA g 7)=some a7/\w.cell? (yA g 8)=some a8/\w.cell? (yA g 9)=some a9/\w.cell? (yA g 10)=some aA/\w.cell? (yA g 11)=some aB/\w.cell? (yA g 12)=some aC/\w.cell? (yA g 13)=some aD/\w.cell? (yA g 14)=some aE/\w.cell? (yA g 15)=some aF/\g<w.heap.size :=⟨h.y 0,h.y 1,h.y 2,h.y 3,h.y 4,h.y 5,h.y 6,h.y 7,h.y 8,h.y 9,h.y 10,h.y 11,h.y 12,h.y 13,h.y 14,h.y 15,h.lt⟩
def Pst(w:xV)(a:xA)(P:List (List (yZ×yZ))):Prop :=P=[]\/∃b o,a=zY b o/\b<w.heap.size/\∀i,i<P.length->∃p c,w.cell? (yA b (o+i))=some (yI p (P.getD i []).length c)/\Prs w p (P.getD i [])
theorem Pst.I{P:List (List (yZ×yZ))}(h:Pst w a P)(d:yX w w'):Pst w' a P:=by
 rcases h with h|⟨b,o,f,e,j⟩
 ·exact .inl h
 refine .inr ⟨b,o,f,AC e d.size,λi hi=>?_⟩
 obtain⟨p,c,l,m⟩:=j i hi;exact⟨p,c,(d.cell (p:=(yA b (o+i))) e).E l,m.I d⟩
theorem Pst.at{P:List (List (yZ×yZ))}(h:Pst w a P)(d:k<P.length):∃b o p c,a=zY b o/\b<w.heap.size/\w.cell? (yA b (o+k))=some (yI p (P.getD k []).length c)/\Hid (Prs w p (P.getD k [])):=by
 rcases h with h|⟨b,o,e,f,i⟩
 ·subst h;simp at d
 obtain⟨p,c,j,l⟩:=i k d
 exact⟨b,o,p,c,e,f,j,Y l⟩
def Chs(w:xV)(a:xA)(rs:List (yZ×yZ×Bool)):Prop :=rs=[]\/∃b o,a=zY b o/\b<w.heap.size/\∀i,i<rs.length->w.cell? (yA b (o+i*3))=some (yQ (rs.getD i (empty,empty,false)).1)/\w.cell? (yA b (o+i*3+1))=some (yQ (rs.getD i (empty,empty,false)).2.1)/\w.cell? (yA b (o+i*3+2))=some (yR (rs.getD i (empty,empty,false)).2.2)
theorem Chs.I{rs:List (yZ×yZ×Bool)}(h:Chs w a rs)(d:yX w w'):Chs w' a rs:=by
 rcases h with h|⟨b,o,f,c,e⟩
 ·exact .inl h
 exact .inr ⟨b,o,f,AC c d.size,λi hi=>⟨(d.cell (p:=(yA b (o+i*3))) c).E (e i hi).1,(d.cell (p:=(yA b (o+i*3+1))) c).E (e i hi).2.1,(d.cell (p:=(yA b (o+i*3+2))) c).E (e i hi).2.2⟩⟩
theorem Chs.at{rs:List (yZ×yZ×Bool)}(h:Chs w a rs)(c:k<rs.length):∃b o e f d,a=zY b o/\w.cell? (yA b (o+k*3))=some (yQ e)/\w.cell? (yA b (o+k*3+1))=some (yQ f)/\w.cell? (yA b (o+k*3+2))=some (yR d)/\Hid ((e,f,d)=rs.getD k (empty,empty,false)):=by
 rcases h with h|⟨b,o,e,f,d⟩
 ·subst h;simp at c
 exact⟨b,o,_,_,_,e,(d k c).1,(d k c).2.1,(d k c).2.2,Y rfl⟩
def MS(rs:List (yZ×yZ×Bool)):List qD:=rs.flatMap λx=>[yQ x.1,yQ x.2.1,yR x.2.2]
theorem yq(a b:List (yZ×yZ×Bool)):MS (a++b)=MS a++MS b:=by simp[MS]
theorem jz:∀(rs:List (yZ×yZ×Bool)) (i:Nat),i<rs.length->(MS rs)[i*3]?=some (yQ (rs.getD i (empty,empty,false)).1)/\(MS rs)[i*3+1]?=some (yQ (rs.getD i (empty,empty,false)).2.1)/\(MS rs)[i*3+2]?=some (yR (rs.getD i (empty,empty,false)).2.2)
 | x::r,0,_=>by simp[MS]
 | x::r,i+1,h=>by
  have c:=jz r i (by simpa using h);have e:MS (x::r)=yQ x.1::yQ x.2.1::yR x.2.2::MS r:=by simp[MS]
  rw[e,show(i+1)*3=i*3+3 by omega];simpa using c
theorem Row.chs{rs:List (yZ×yZ×Bool)}(h:Row w g (MS rs)):Chs w (zY g 0) rs :=.inr ⟨g,0,rfl,h.lt,λi hi=>by
  rw[BK]
  exact⟨h.cell _ _ (jz rs i hi).1,h.cell _ _ (jz rs i hi).2.1,h.cell _ _ (jz rs i hi).2.2⟩⟩
theorem OI{a b:Bool}(h:a=b):yT (yR a)=yT (yR b):=by rw[h]
def PC(k:yZ):Bool:=decide (1<=k.size/\k.size<=20)
def OB(k:yZ):Bool:=decide (k.size<=100)
def OX(x:yZ×yZ×Bool):Bool:=PC x.1 && OB x.2.1 && !(x.2.2 && decide (x.2.1.size≠0))
def OM(rs:List (yZ×yZ×Bool)):Bool:=decide (1<=rs.length/\rs.length<=20) && rs.all OX
theorem gd{rs:List (yZ×yZ×Bool)}(h:¬(1<=rs.length/\rs.length<=20)):OM rs=false:=by simp[OM,h]
theorem dj{rs:List (yZ×yZ×Bool)}{x:yZ×yZ×Bool}(c:x∈rs)(h:OX x=false):OM rs=false:=by
 have:rs.all OX=false:=FK.2 ⟨x,c,by simp[h]⟩;simp[OM,this]
theorem yN{rs:List (yZ×yZ×Bool)}(h:1<=rs.length/\rs.length<=20)(c:∀x∈rs,OX x=true):OM rs=true:=by
 simp only[OM,BD,BG,DH];exact⟨h,c⟩
theorem XW{rs:List (yZ×yZ×Bool)}(h:OM rs=true):(1<=rs.length/\rs.length<=20)/\∀x∈rs,OX x=true:=by
 simp only[OM,BD,BG,DH]at h;exact h
theorem dh(s:yZ)(w:xV)(f:s.size<=1048576):Calls prog 122 #[yQ s] w λe w'=>e=yT (yR (PC s))/\w'=w:=by
 unfold PC
 by_cases d:1<=s.size
 ·by_cases c:s.size<=20
  ·go_enter func122,ntmps122
   go_wp2;go_ret;exact⟨OI (by simp[d,c]<;>omega),rfl⟩
  go_enter func122,ntmps122
  go_wp2;go_ret;exact⟨OI (by simp[c]<;>omega),rfl⟩
 go_enter func122,ntmps122
 go_wp2;go_ret;exact⟨OI ξ,rfl⟩
theorem oH{k:yZ}{g:Bool}(h:PC k=false):OX (k,v,g)=false:=by simp[OX,h]
theorem sS{k:yZ}{g:Bool}(h:OB v=false):OX (k,v,g)=false:=by simp[OX,h]
theorem zD{k:yZ}(h:v.toList.isEmpty=false):OX (k,v,true)=false:=by
 rw[VA]at h;have:v.size≠0:=by simpa using h
 simp[OX,this]
theorem rJ{k:yZ}(h:PC k=true)(c:OB v=true):OX (k,v,false)=true:=by simp[OX,h,c]
theorem tR{k:yZ}(h:PC k=true)(d:OB v=true)(c:v.toList.isEmpty=true):OX (k,v,true)=true:=by
 rw[VA]at c;have:v.size=0:=by simpa using c
 simp[OX,h,d,this]
theorem oh{α:Type}{rs:List α}{x d:α}{f:α->Bool}(aA:k<rs.length)(h:∀y∈rs.take k,f y=true)(e:x=rs.getD k d)(i:f x=true):∀y∈rs.take (k+1),f y=true:=by
 intro y c;rw[BH aA]at c;rcases BZ.1 c with c|c
 ·exact h y c
 simp at c
 simp[List.getD,aA]at e;rw[c,<-e];exact i
theorem pi(a:xA)(rs:List (yZ×yZ×Bool))(c:Nat)(w:xV)(h:Chs w a rs)(B:rs.length<=1048576)(q:∀x∈rs,x.1.size<=1048576/\x.2.1.size<=1048576):Calls prog 136 #[yI a rs.length c] w λe w'=>e=yT (yR (OM rs))/\yX w w':=by
 obtain⟨R,d⟩:∃R,Hid (R=OM rs):=⟨_,Y rfl⟩;rw[<-d.j]
 by_cases C:1<=(rs.length:Int)
 ·by_cases D:(rs.length:Int)<=20
  ·go_enter func136,ntmps136
   go_wp2;go_loopw [3] (λi wr=>∃k:Nat,k<=rs.length/\i=Z k/\Hid (∀x∈rs.take k,OX x=true)/\yX w wr) (λi _=>rs.length-(intOf i).toNat)
   case atStart=>exact⟨0,AL _,rfl,by show ∀s∈rs.take 0,_;simp,AB _ _⟩
   case round =>
    obtain⟨k,A,rfl,i,aA⟩:=hrel
    by_cases aC:k<rs.length
    ·obtain⟨b,o,p,f,n,rfl,t,u,x,m⟩:=(h.I aA).at aC
     have j:Hid ((p,f,n)∈rs):=by show _∈_;rw[m.j];simp[List.getD,aC]
     obtain⟨aB,z⟩:=q _ j.j;have aE:(k:Int)<(rs.length:Int):=ω
     have y:(0:Int)<=(k:Int):=ω
     cases hk1:PC p with
     | false =>
      go_wp2_with (go_at_call 122;refine(dh _ _ aB).J ?_;rw[hk1];rintro e l ⟨rfl,rfl⟩);go_ret;exact⟨OI (by rw[d.j];exact(dj j.j (oH hk1)).symm),aA⟩
     | true =>
      cases hv1:OB f with
      | false =>
       have aF:(100:Int)<(f.size:Int):=by simp[OB]at hv1;omega
       go_wp2_with (go_at_call 122;refine(dh _ _ aB).J ?_;rw[hk1];rintro e l ⟨rfl,rfl⟩);go_ret;exact⟨OI (by rw[d.j];exact(dj j.j (sS hv1)).symm),aA⟩
      | true =>
       have aF:(f.size:Int)<=100:=by simp[OB]at hv1;omega
       cases n with
       | false =>
        go_wp2_with (go_at_call 122;refine(dh _ _ aB).J ?_;rw[hk1];rintro e l ⟨rfl,rfl⟩);go_roundw
        case rel=>exact⟨k+1,ω,ν,oh aC i.j m.j (rJ hk1 hv1),aA⟩
        case measure=>simp[intOf];omega
       | true =>
        cases he:f.toList.isEmpty with
        | false =>
         go_wp2_with (go_at_call 122;refine(dh _ _ aB).J ?_;rw[hk1];rintro e l ⟨rfl,rfl⟩);go_ret;exact⟨OI (by rw[d.j];exact(dj j.j (zD he)).symm),aA⟩
        | true =>
         go_wp2_with (go_at_call 122;refine(dh _ _ aB).J ?_;rw[hk1];rintro e l ⟨rfl,rfl⟩);go_roundw
         case rel=>exact⟨k+1,ω,ν,oh aC i.j m.j (tR hk1 hv1 he),aA⟩
         case measure=>simp[intOf];omega
    have aD:Hid (∀s∈rs,OX s=true):=by have:=i.j;rwa [AR ω]at this
    clear i;go_wp2;go_ret;exact⟨OI (by rw[d.j];exact(yN ω aD.j).symm),aA⟩
  go_enter func136,ntmps136
  go_wp2;go_ret;exact⟨OI (by rw[d.j];exact(gd ω).symm),AB _ _⟩
 go_enter func136,ntmps136
 go_wp2;go_ret;exact⟨OI (by rw[d.j];exact(gd ω).symm),AB _ _⟩
theorem VE(s:yZ)(w:xV)(f:s.size<=1048576):Calls prog 160 #[yQ s] w λe w'=>e=yT (yR (PC s))/\w'=w:=by
 unfold PC
 by_cases d:1<=s.size
 ·by_cases c:s.size<=20
  ·go_enter func160,ntmps160
   go_wp2;go_ret;exact⟨OI (by simp[d,c]<;>omega),rfl⟩
  go_enter func160,ntmps160
  go_wp2;go_ret;exact⟨OI (by simp[c]<;>omega),rfl⟩
 go_enter func160,ntmps160
 go_wp2;go_ret;exact⟨OI ξ,rfl⟩
theorem YA(s:yZ)(w:xV)(c:s.size<=1048576):Calls prog 161 #[yQ s] w λe w'=>e=yT (yR (OB s))/\w'=w:=by
 unfold OB;go_enter func161,ntmps161;go_wp2;go_ret;exact⟨OI ξ,rfl⟩
theorem de(a:xA)(rs:List (yZ×yZ×Bool))(c:Nat)(w:xV)(h:Chs w a rs)(A:rs.length<=1048576)(q:∀x∈rs,x.1.size<=1048576/\x.2.1.size<=1048576):Calls prog 201 #[yI a rs.length c] w λe w'=>e=yT (yR (OM rs))/\yX w w':=by
 obtain⟨R,f⟩:∃R,Hid (R=OM rs):=⟨_,Y rfl⟩;rw[<-f.j]
 by_cases B:1<=(rs.length:Int)
 ·by_cases C:(rs.length:Int)<=20
  ·go_enter func201,ntmps201
   go_wp2;go_loopw [4,15] (λ_ i wr=>∃k:Nat,k<=rs.length/\i=Z k/\Hid (∀x∈rs.take k,OX x=true)/\yX w wr) (λ_ i _=>rs.length-(intOf i).toNat)
   case atStart=>exact⟨0,AL _,rfl,by show ∀s∈rs.take 0,_;simp,AB _ _⟩
   case round =>
    obtain⟨k,z,rfl,i,aA⟩:=hrel
    by_cases aC:k<rs.length
    ·obtain⟨b,o,p,m,n,rfl,t,u,x,l⟩:=(h.I aA).at aC
     have j:Hid ((p,m,n)∈rs):=by show _∈_;rw[l.j];simp[List.getD,aC]
     obtain⟨aB,aD⟩:=q _ j.j;have aF:(k:Int)<(rs.length:Int):=ω
     have y:(0:Int)<=(k:Int):=ω
     cases hk1:PC p with
     | false =>
      go_wp2_with (first|(go_at_call 160;refine(VE _ _ aB).J ?_;rw[hk1];rintro e d ⟨rfl,rfl⟩))
      go_ret;exact⟨OI (by rw[f.j];exact(dj j.j (oH hk1)).symm),aA.alloc aA.size _⟩
     | true =>
      cases hv1:OB m with
      | false =>
       skip
       go_wp2_with (first|(go_at_call 160;refine(VE _ _ aB).J ?_;rw[hk1];rintro e d ⟨rfl,rfl⟩)|(go_at_call 161;refine(YA _ _ aD).J ?_;rw[hv1];rintro e d ⟨rfl,rfl⟩))
       go_ret;exact⟨OI (by rw[f.j];exact(dj j.j (sS hv1)).symm),aA.alloc aA.size _⟩
      | true =>
       skip
       cases n with
       | false =>
        go_wp2_with (first|(go_at_call 160;refine(VE _ _ aB).J ?_;rw[hk1];rintro e d ⟨rfl,rfl⟩)|(go_at_call 161;refine(YA _ _ aD).J ?_;rw[hv1];rintro e d ⟨rfl,rfl⟩))
        go_roundw
        case rel=>exact⟨k+1,ω,ν,oh aC i.j l.j (rJ hk1 hv1),aA.alloc aA.size _⟩
        case measure=>simp[intOf];omega
       | true =>
        cases he:m.toList.isEmpty with
        | false =>
         go_wp2_with (first|(go_at_call 160;refine(VE _ _ aB).J ?_;rw[hk1];rintro e d ⟨rfl,rfl⟩)|(go_at_call 161;refine(YA _ _ aD).J ?_;rw[hv1];rintro e d ⟨rfl,rfl⟩))
         go_ret;exact⟨OI (by rw[f.j];exact(dj j.j (zD he)).symm),aA.alloc aA.size _⟩
        | true =>
         go_wp2_with (first|(go_at_call 160;refine(VE _ _ aB).J ?_;rw[hk1];rintro e d ⟨rfl,rfl⟩)|(go_at_call 161;refine(YA _ _ aD).J ?_;rw[hv1];rintro e d ⟨rfl,rfl⟩))
         go_roundw
         case rel=>exact⟨k+1,ω,ν,oh aC i.j l.j (tR hk1 hv1 he),aA.alloc aA.size _⟩
         case measure=>simp[intOf];omega
    have aE:Hid (∀s∈rs,OX s=true):=by have:=i.j;rwa [AR ω]at this
    clear i;go_wp2;go_ret;exact⟨OI (by rw[f.j];exact(yN ω aE.j).symm),aA⟩
  go_enter func201,ntmps201
  go_wp2;go_ret;exact⟨OI (by rw[f.j];exact(gd ω).symm),AB _ _⟩
 go_enter func201,ntmps201
 go_wp2;go_ret;exact⟨OI (by rw[f.j];exact(gd ω).symm),AB _ _⟩
section
theorem aj(s:yZ)(b:Bool)(w:xV)(c:s.size<=1048576)(h:PC s=b):Calls prog 122 #[yQ s] w λe w'=>e=yT (yR b)/\w'=w:=by
 rw[<-h];exact dh s w c
def RX(a b:yZ):Bool:=Op.bytesLess a.toList b.toList
def QA(rs:List (yZ×yZ))(i:Nat):Bool:=PC (rs.getD i (empty,empty)).1 && OB (rs.getD i (empty,empty)).2 && (decide (i=0) || RX (rs.getD (i-1) (empty,empty)).1 (rs.getD i (empty,empty)).1)
def LX(rs:List (yZ×yZ)):Bool:=decide (rs.length<=100) && (List.range rs.length).all (QA rs)
theorem xZ(h:¬(rs.length<=100)):LX rs=false:=by simp[LX,h]
theorem WP(c:k<rs.length)(h:QA rs k=false):LX rs=false:=by
 have:(List.range rs.length).all (QA rs)=false:=FK.2 ⟨k,FP.2 c,by simp[h]⟩;simp[LX,this]
theorem wj(h:rs.length<=100)(c:∀k,k<rs.length->QA rs k=true):LX rs=true:=by
 simp only[LX,BD,BG,DH];exact⟨h,λk d=>c k (FP.1 d)⟩
theorem ZM(h:LX rs=true):rs.length<=100/\∀k,k<rs.length->QA rs k=true:=by
 simp only[LX,BD,BG,DH]at h;exact⟨h.1,λk c=>h.2 k (FP.2 c)⟩
section
variable {rs:List (yZ×yZ)} {k j:Nat} {s0 s1 t0 t1:yZ}
theorem kp(c:(s0,s1)=rs.getD k (empty,empty))(h:PC s0=false):QA rs k=false:=by unfold QA;rw[<-c];simp[h]
theorem qh(c:(s0,s1)=rs.getD k (empty,empty))(h:OB s1=false):QA rs k=false:=by unfold QA;rw[<-c];simp[h]
theorem xO(c:(s0,s1)=rs.getD k (empty,empty))(d:(t0,t1)=rs.getD j (empty,empty))(e:k=j+1)(h:Op.bytesLess t0.toList s0.toList=false):QA rs k=false:=by
 unfold QA RX;rw[<-c];subst e;rw[JF,<-d];simp[h]
theorem t8(d:(s0,s1)=rs.getD k (empty,empty))(e:k=0)(h:PC s0=true)(c:OB s1=true):QA rs k=true:=by subst e;unfold QA;rw[<-d];simp[h,c]
theorem uD(e:(s0,s1)=rs.getD k (empty,empty))(f:(t0,t1)=rs.getD j (empty,empty))(i:k=j+1)(h:PC s0=true)(c:OB s1=true)(d:Op.bytesLess t0.toList s0.toList=true):QA rs k=true:=by
 unfold QA RX;rw[<-e];subst i;rw[JF,<-f];simp[h,c,d]
theorem jx(d:∀i,i<k->QA rs i=true)(h:QA rs k=true):∀i,i<k+1->QA rs i=true:=by
 intro i hi;rcases FX i k with c|c
 ·exact d i c
 have:i=k:=ω
 subst this;exact h
end
theorem ew(a:xA)(rs:List (yZ×yZ))(c:Nat)(w:xV)(h:Prs w a rs)(T:rs.length<=1048576)(C:∀x∈rs,x.1.size<=1048576/\x.2.size<=1048576):Calls prog 82 #[.agg #[yI a rs.length c]] w λe w'=>e=yT (yR (LX rs))/\yX w w':=by
 have aB:∀o,yX w (w.alloc o):=λo=>LG _ _
 obtain⟨R,e⟩:∃R,Hid (R=LX rs):=⟨_,Y rfl⟩;rw[<-e.j]
 by_cases U:(rs.length:Int)<=100
 ·go_enter func82,ntmps82
  go_wp2;go_loopw [3] (λi wr=>∃k:Nat,k<=rs.length/\i=Z k/\Hid (∀i,i<k->QA rs i=true)/\Below (w.heap.size+1) (w.alloc (.cells #[yI a rs.length c] 37)) wr) (λi _=>rs.length-(intOf i).toNat)
  case atStart=>exact⟨0,AL _,rfl,λi hi=>ω,AB _ _⟩
  case round =>
   obtain⟨k,S,rfl,m,aA⟩:=hrel;have n:yX w wr:=(aB _).E (aA.J ω);have D:wr.cell? (yA w.heap.size 0)=some (yI a rs.length c):=(aA.cell (p:=(yA w.heap.size 0)) (by show w.heap.size<_;omega)).E γ;have N:w.heap.size+1<=wr.heap.size:=by have:=aA.size;simpa using this
   by_cases aC:k<rs.length
   ·obtain⟨b,o,l,d,rfl,H,I,f⟩:=(h.I n).at aC
    have B:Hid ((l,d)∈rs):=by show _∈_;rw[f.j];simp[List.getD,aC]
    obtain⟨aD,P⟩:=C _ B.j;have G:(k:Int)<(rs.length:Int):=ω
    rcases IP k with p|p
    ·have t:decide ((0:Int)<(k:Int))=false:=τ
     have s:decide (0<k)=false:=τ
     have y:(0:Int)<=(k:Int):=ω
     have j:=Y p;clear p
     cases hk1:PC l with
     | false =>
      go_wp2_with fail;go_quiet ((go_at_call 122;exact Calls.quiet_of_same (aj _ _ _ aD hk1)));go_wp2;go_ret;exact⟨OI (by rw[e.j];exact(WP aC (kp f.j hk1)).symm),(aB _).E ((below_drewN aA _).J ω)⟩
     | true =>
      cases hv1:OB d with
      | false =>
       have q:decide (100<(d.size:Int))=true:=by simp[OB]at hv1;simp;omega
       go_wp2_with fail;go_quiet ((go_at_call 122;exact Calls.quiet_of_same (aj _ _ _ aD hk1)));go_wp2;go_ret;exact⟨OI (by rw[e.j];exact(WP aC (qh f.j hv1)).symm),(aB _).E ((below_drewN aA _).J ω)⟩
      | true =>
       have q:decide (100<(d.size:Int))=false:=by simp[OB]at hv1;simp;omega
       go_wp2_with fail;go_quiet ((go_at_call 122;exact Calls.quiet_of_same (aj _ _ _ aD hk1)));go_wp2;go_roundw
       case rel=>exact⟨_,ω,ν,jx m.j (t8 f.j j.j hk1 hv1),below_drewN aA _⟩
       case measure=>simp[intOf];omega
    obtain⟨j,q⟩:∃j,k=j+1:=⟨k-1,ω⟩
    have M:(k:Int)-1=(j:Int):=ω
    have K:(0:Int)<=(j:Int):=ω
    have y:(0:Int)<=(k:Int):=ω
    have E:(0:Int)<(k:Int):=ω
    have O:IntKind.i64.wrap (j:Int)=(j:Int):=by simp[IntKind.wrap,IntKind.bits,IntKind.signed];omega
    have L:(j:Int)<(rs.length:Int):=ω
    obtain⟨Q,V,s,t1,A,x,J,u⟩:=(h.I n).at (show j<rs.length by omega)
    cases A
    have t:=Y q;clear q
    have aF:∀q,yX wr (wr.alloc q):=λq=>LG _ _
    have q:b<wr.heap.size:=by have:=DQ wr _ x;simpa using this
    have W:=((aF (.cells #[yQ l,yQ d] 122)).cell (p:=(yA w.heap.size 0)) (by show w.heap.size<_;omega)).E D;have X:=((aF (.cells #[yQ l,yQ d] 122)).cell (p:=(yA b (o+j*2))) q).E x;clear aF q
    cases hk1:PC l with
    | false =>
     go_wp2_with fail;go_quiet ((go_at_call 122;exact Calls.quiet_of_same (aj _ _ _ aD hk1)));go_wp2;go_ret;exact⟨OI (by rw[e.j];exact(WP aC (kp f.j hk1)).symm),(aB _).E ((below_drewN aA _).J ω)⟩
    | true =>
     cases hv1:OB d with
     | false =>
      have q:decide (100<(d.size:Int))=true:=by simp[OB]at hv1;simp;omega
      go_wp2_with fail;go_quiet ((go_at_call 122;exact Calls.quiet_of_same (aj _ _ _ aD hk1)));go_wp2;go_ret;exact⟨OI (by rw[e.j];exact(WP aC (qh f.j hv1)).symm),(aB _).E ((below_drewN aA _).J ω)⟩
     | true =>
      have q:decide (100<(d.size:Int))=false:=by simp[OB]at hv1;simp;omega
      cases hlt3:Op.bytesLess s.toList l.toList with
      | false =>
       have z:(!Op.bytesLess s.toList l.toList)=true:=by simp[hlt3]
       go_wp2_with fail;go_quiet ((go_at_call 122;exact Calls.quiet_of_same (aj _ _ _ aD hk1)));go_wp2;go_ret;exact⟨OI (by rw[e.j];exact(WP aC (xO f.j u.j t.j hlt3)).symm),(aB _).E ((below_drewN aA _).J ω)⟩
      | true =>
       have z:(!Op.bytesLess s.toList l.toList)=false:=by simp[hlt3]
       go_wp2_with fail;go_quiet ((go_at_call 122;exact Calls.quiet_of_same (aj _ _ _ aD hk1)));go_wp2;go_roundw
       case rel=>exact⟨_,ω,ν,jx m.j (uD f.j u.j t.j hk1 hv1 hlt3),below_drewN aA _⟩
       case measure=>simp[intOf];omega
   have aE:Hid (∀i,i<rs.length->QA rs i=true):=λi hi=>m.j i ω
   clear m;go_wp2;go_ret;exact⟨OI (by rw[e.j];exact(wj ω aE.j).symm),n⟩
 go_enter func82,ntmps82
 go_wp2;go_ret;exact⟨OI (by rw[e.j];exact(xZ ω).symm),aB _⟩
theorem ei(a:xA)(rs:List (yZ×yZ))(c:Nat)(w:xV)(h:Prs w a rs)(T:rs.length<=1048576)(E:∀x∈rs,x.1.size<=1048576/\x.2.size<=1048576):Calls prog 114 #[.agg #[yI a rs.length c]] w λe w'=>e=yT (yR (LX rs))/\yX w w':=by
 have aB:∀o,yX w (w.alloc o):=λo=>LG _ _
 obtain⟨R,l⟩:∃R,Hid (R=LX rs):=⟨_,Y rfl⟩;rw[<-l.j]
 by_cases U:(rs.length:Int)<=100
 ·go_enter func114,ntmps114
  go_wp2;go_loopw [3,4,12] (λ_ _ i wr=>∃k:Nat,k<=rs.length/\i=Z k/\Hid (∀i,i<k->QA rs i=true)/\Below (w.heap.size+1) (w.alloc (.cells #[yI a rs.length c] 37)) wr) (λ_ _ i _=>rs.length-(intOf i).toNat)
  case atStart=>exact⟨0,AL _,rfl,λi hi=>ω,AB _ _⟩
  case round =>
   obtain⟨k,S,rfl,p,aA⟩:=hrel;have q:yX w wr:=(aB _).E (aA.J ω);have G:wr.cell? (yA w.heap.size 0)=some (yI a rs.length c):=(aA.cell (p:=(yA w.heap.size 0)) (by show w.heap.size<_;omega)).E γ;have aD:w.heap.size+1<=wr.heap.size:=by have:=aA.size;simpa using this
   by_cases aC:k<rs.length
   ·obtain⟨b,o,n,f,rfl,J,K,m⟩:=(h.I q).at aC
    have D:Hid ((n,f)∈rs):=by show _∈_;rw[m.j];simp[List.getD,aC]
    obtain⟨aE,aF⟩:=E _ D.j;have I:(k:Int)<(rs.length:Int):=ω
    rcases IP k with s|s
    ·have x:decide ((0:Int)<(k:Int))=false:=τ
     have u:decide (0<k)=false:=τ
     have A:(0:Int)<=(k:Int):=ω
     have j:=Y s;clear s
     cases hk1:PC n with
     | false =>
      go_wp2_with (first|(go_at_call 160;refine(VE _ _ aE).J ?_;rw[hk1];rintro e d ⟨rfl,rfl⟩))
      go_ret;exact⟨OI (by rw[l.j];exact(WP aC (kp m.j hk1)).symm),(aB _).E ((aA.alloc aD _).J ω)⟩
     | true =>
      cases hv1:OB f with
      | false =>
       have t:decide (100<(f.size:Int))=true:=by simp[OB]at hv1;simp;omega
       go_wp2_with (first|(go_at_call 160;refine(VE _ _ aE).J ?_;rw[hk1];rintro e d ⟨rfl,rfl⟩)|(go_at_call 161;refine(YA _ _ aF).J ?_;rw[hv1];rintro e d ⟨rfl,rfl⟩))
       go_ret;exact⟨OI (by rw[l.j];exact(WP aC (qh m.j hv1)).symm),(aB _).E ((aA.alloc aD _).J ω)⟩
      | true =>
       have t:decide (100<(f.size:Int))=false:=by simp[OB]at hv1;simp;omega
       go_wp2_with (first|(go_at_call 160;refine(VE _ _ aE).J ?_;rw[hk1];rintro e d ⟨rfl,rfl⟩)|(go_at_call 161;refine(YA _ _ aF).J ?_;rw[hv1];rintro e d ⟨rfl,rfl⟩))
       go_quiet (fail);go_wp2;go_roundw
       case rel=>exact⟨_,ω,ν,jx p.j (t8 m.j j.j hk1 hv1),below_drewN (aA.alloc aD _) _⟩
       case measure=>simp[intOf];omega
    obtain⟨j,d⟩:∃j,k=j+1:=⟨k-1,ω⟩
    have O:(k:Int)-1=(j:Int):=ω
    have M:(0:Int)<=(j:Int):=ω
    have A:(0:Int)<=(k:Int):=ω
    have H:(0:Int)<(k:Int):=ω
    have P:IntKind.i64.wrap (j:Int)=(j:Int):=by simp[IntKind.wrap,IntKind.bits,IntKind.signed];omega
    have N:(j:Int)<(rs.length:Int):=ω
    obtain⟨Q,V,u,t1,C,z,L,y⟩:=(h.I q).at (show j<rs.length by omega)
    cases C
    have x:=Y d;clear d
    have d:∀t,yX wr (wr.alloc t):=λt=>LG _ _
    have t:b<wr.heap.size:=by have:=DQ wr _ z;simpa using this
    have W:=((d (.cells #[yQ n,yQ f] 122)).cell (p:=(yA w.heap.size 0)) (by show w.heap.size<_;omega)).E G;have X:=((d (.cells #[yQ n,yQ f] 122)).cell (p:=(yA b (o+j*2))) t).E z;clear d t
    cases hk1:PC n with
    | false =>
     go_wp2_with (first|(go_at_call 160;refine(VE _ _ aE).J ?_;rw[hk1];rintro e d ⟨rfl,rfl⟩))
     go_ret;exact⟨OI (by rw[l.j];exact(WP aC (kp m.j hk1)).symm),(aB _).E ((aA.alloc aD _).J ω)⟩
    | true =>
     cases hv1:OB f with
     | false =>
      have t:decide (100<(f.size:Int))=true:=by simp[OB]at hv1;simp;omega
      go_wp2_with (first|(go_at_call 160;refine(VE _ _ aE).J ?_;rw[hk1];rintro e d ⟨rfl,rfl⟩)|(go_at_call 161;refine(YA _ _ aF).J ?_;rw[hv1];rintro e d ⟨rfl,rfl⟩))
      go_ret;exact⟨OI (by rw[l.j];exact(WP aC (qh m.j hv1)).symm),(aB _).E ((aA.alloc aD _).J ω)⟩
     | true =>
      have t:decide (100<(f.size:Int))=false:=by simp[OB]at hv1;simp;omega
      cases hlt3:Op.bytesLess u.toList n.toList with
      | false =>
       have B:(!Op.bytesLess u.toList n.toList)=true:=by simp[hlt3]
       go_wp2_with (first|(go_at_call 160;refine(VE _ _ aE).J ?_;rw[hk1];rintro e d ⟨rfl,rfl⟩)|(go_at_call 161;refine(YA _ _ aF).J ?_;rw[hv1];rintro e d ⟨rfl,rfl⟩))
       go_quiet (fail);go_wp2;go_ret;exact⟨OI (by rw[l.j];exact(WP aC (xO m.j y.j x.j hlt3)).symm),(aB _).E ((below_drewN (aA.alloc aD _) _).J ω)⟩
      | true =>
       have B:(!Op.bytesLess u.toList n.toList)=false:=by simp[hlt3]
       go_wp2_with (first|(go_at_call 160;refine(VE _ _ aE).J ?_;rw[hk1];rintro e d ⟨rfl,rfl⟩)|(go_at_call 161;refine(YA _ _ aF).J ?_;rw[hv1];rintro e d ⟨rfl,rfl⟩))
       go_quiet (fail);go_wp2;go_roundw
       case rel=>exact⟨_,ω,ν,jx p.j (uD m.j y.j x.j hk1 hv1 hlt3),below_drewN (aA.alloc aD _) _⟩
       case measure=>simp[intOf];omega
   have d:Hid (∀i,i<rs.length->QA rs i=true):=λi hi=>p.j i ω
   clear p;go_wp2;go_ret;exact⟨OI (by rw[l.j];exact(wj ω d.j).symm),q⟩
 go_enter func114,ntmps114
 go_wp2;go_ret;exact⟨OI (by rw[l.j];exact(xZ ω).symm),aB _⟩
end
