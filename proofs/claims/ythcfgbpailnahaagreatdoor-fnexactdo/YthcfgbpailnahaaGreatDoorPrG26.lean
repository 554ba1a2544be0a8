import Derived.Test.YthcfgbpailnahaaGreatDoorPrAm
import Derived.Test.YthcfgbpailnahaaGreatDoorPrAn
import Derived.Test.YthcfgbpailnahaaGreatDoorPrAp
import Derived.Laws.BytesArg
import Derived.WalkKit
import Derived.OrdersHeld
import Derived.Deep.RegionHeld
import Derived.Below
import Derived.Laws.MakeOwn
import Derived.WalkSmall
import Derived.Deep.Draws
import Derived.Deep.AppendLies
import Derived.WalkSpells
import Derived.WalkLawsBesides
import Derived.Outline
import Derived.BigQuiet
import Derived.Deep.QuietTactic
import Derived.Deep.RegionHeld3
import Derived.Test.YthcfgbpailnahaaGreatDoorProg
import Derived.OneCell
set_option maxHeartbeats 16000000
set_option maxRecDepth 8000
set_option linter.all false
namespace Go.Proofs.YthcfgbpailnahaaGreatDoor
open _root_.ByteArray(empty)
section
open Tryz
open Go.RowKit
variable {a:Act}{aA:Array Bool}{aB:Array Oper}{Q:Exit->Act->World->Prop}{ws:List (Int×ByteArray)}{ss:List ByteArray}{cs:List Value}{aC g:Nat}{oi:Oper}{P:Program}{md:Region.Mode}{w w':World}{S:World->Prop}
def sh:Nat->Int->Int
 | 0,v=>v
 | j+1,v=>sh j v / 256
def pQ(j:Nat)(v:Int)(h0:0<=v)(h1:v<=18446744073709551615):0<=sh j v/\sh j v<=18446744073709551615:=by
 induction j with
 | zero=>exact⟨h0,h1⟩
 | succ j ih=>unfold sh;omega
def tA(j:Nat)(v:Int)(h0:0<=v)(h1:v<=9223372036854775807):0<=sh j v/\sh j v<=9223372036854775807:=by
 induction j with
 | zero=>exact⟨h0,h1⟩
 | succ j ih=>unfold sh;omega
def be(n:Nat)(v:Int):List Int:=(List.range n).map λi=>sh (n-1-i) v % 256
def OK(n:Nat)(v:Int):(be n v).length=n:=by simp[be]
def nz(n:Nat)(v:Int):be (n+1) v=(sh n v % 256)::be n v:=by
 unfold be;rw[List.range_succ_eq_map];simp only[FD,IT,KW];refine⟨by simp,?_⟩
 apply GP
 intro i hi;simp at hi;simp only[Function.comp];rw[show n+1-1-(i+1)=n-1-i by omega]
def vy(n:Nat)(v:Int)(i:Nat)(h:i<n):(be n v).getD i 0=sh (n-1-i) v % 256:=by
 simp[be,List.getD,h]
def RG(a b:List Int):strOfNums (a++b)=strOfNums a++strOfNums b:=by
 apply FA
 simp[strOfNums]
def fo(x:Int)(c:UInt8):Int:=IntKind.u64.wrap (bits BinOp.xor IntKind.u64 x (IntKind.u64.wrap (c.toNat:Int))*1099511628211)
def OW(l:List UInt8):Int:=l.foldl fo 14695981039346656037
def Ae(x:Int):0<=IntKind.u64.wrap x/\IntKind.u64.wrap x<=18446744073709551615:=by
 simp[IntKind.wrap,IntKind.bits,IntKind.signed];omega
def VP(x:Int)(h0:0<=x)(h1:x<=18446744073709551615):IntKind.u64.wrap x=x:=by
 simp[IntKind.wrap,IntKind.bits,IntKind.signed];omega
def pz(l:List UInt8)(c:UInt8):OW (l++[c])=fo (OW l) c:=by simp[OW]
def vj(l:List UInt8):0<=OW l/\OW l<=18446744073709551615:=by
 rcases GF l with rfl|⟨l',c,rfl⟩
 ·unfold OW;simp
 rw[List.concat_eq_append,pz];exact Ae _
def oh(s:ByteArray)(k:Nat)(h:k<s.size):s.data.toList.take (k+1)=s.data.toList.take k++[s[k]]:=by
 rw[AQ (by simpa using h)];rfl
def RZ(s:ByteArray)(n:Nat):ByteArray:=strOfNums (be n (OW s.data.toList))
def fv(s:ByteArray)(n:Nat):(RZ s n).size=n:=by unfold RZ;rw[BS,OK]
def ik{t e:TypeId}{L:Nat}(ht:P.underlying t=some (.array L e))(hz:∀w,(sizeOf e).run P w=.ok 1 w)(b off l:Nat)(hl:l<L)(k:IntKind)(li:Int)(aA:li=(l:Int))(w:World):(Instr.sliceAt t (.pointer (some ⟨b,off,none⟩)) (some (.int k li)) none none).run P w=.ok (.slice (some ⟨b,off+l,none⟩) (L-l) (L-l)) w:=by
 have e1:P.arrayLen t=L:=by simp[Program.arrayLen,ht]
 have e2:P.elem t=e:=by simp[Program.elem,ht]
 rw[run_sliceAt_array_l (P:=P) w t ⟨b,off,none⟩ (by rw[e1,e2];exact ht) k li (by omega) (by omega),e1,e2,hz,aA];have e3:L≠l:=by omega
 simp[slicedAt,e3,Addr.add]
def jt{t e:TypeId}{L:Nat}(ht:P.underlying t=some (.array L e))(hz:∀w,(sizeOf e).run P w=.ok 1 w)(b off h:Nat)(hL:0<L)(hl:h<=L)(k:IntKind)(li:Int)(aA:li=(h:Int))(w:World):(Instr.sliceAt t (.pointer (some ⟨b,off,none⟩)) none (some (.int k li)) none).run P w=.ok (.slice (some ⟨b,off,none⟩) h L) w:=by
 have e1:P.arrayLen t=L:=by simp[Program.arrayLen,ht]
 have e2:P.elem t=e:=by simp[Program.elem,ht]
 rw[run_sliceAt_array_h (P:=P) w t ⟨b,off,none⟩ (by rw[e1,e2];exact ht) k li (by omega) (by omega),e1,e2,hz,aA];have e3:L≠0:=by omega
 simp[slicedAt,Addr.add]
def TH(p:ByteArray):p.toList.isEmpty=decide (p.size=0):=by
 rw[DF];have e:p.size=p.data.toList.length:=rfl;rw[e]
 cases p.data.toList<;>simp
def LF(p:ByteArray):List Int:=p.data.toList.map λc=>(c.toNat:Int)
def ML(p:ByteArray):(LF p).length=p.size:=by simp[LF]
def SJ(p:ByteArray):strOfNums (LF p)=p:=by
 apply FA
 simp[strOfNums,LF,Function.comp_def]
def UZ(k l m:Int)(p:ByteArray):List Int:=be 1 k++be 2 l++be 4 m++be 1 (p.size:Int)++LF p
def jx(k l m:Int)(p:ByteArray):(UZ k l m p).length=8+p.size:=by
 simp[UZ,OK,ML];omega
def UG(k l m:Int)(p:ByteArray)(n:Nat):List Int:=UZ k l m p++List.replicate (56-n-p.size) 0
def zt(k l m:Int)(p:ByteArray)(n:Nat)(h:p.size+n<=56):(UG k l m p n).length=64-n:=by
 simp[UG,jx];omega
def SI(k l m:Int)(p:ByteArray)(n:Nat):ByteArray:=RZ (strOfNums (UG k l m p n)) n++strOfNums (UG k l m p n)
def eo(k l m:Int)(p:ByteArray)(n:Nat)(h:p.size+n<=56):(SI k l m p n).size=64:=by
 unfold SI;rw[DI,fv,BS,zt k l m p n h];omega
structure Wrote(w w':World)(b off:Nat)(xs:List Int):Prop where
 os:w'.os=w.os
 tape:w'.tape=w.tape
 output:w'.output=w.output
 size:w'.heap.size=w.heap.size
 others:∀k,k≠b->w'.heap[k]?=w.heap[k]?
 inside:∀i,i<xs.length->w'.cell? ⟨b,off+i,none⟩=some (.int .u8 (xs.getD i 0))
 outside:∀o,(o<off\/off+xs.length<=o)->w'.cell? ⟨b,o,none⟩=w.cell? ⟨b,o,none⟩
 frozen:∀a,w'.frozen? a=w.frozen? a
def Wrote.refl(w:World)(b off:Nat):Wrote w w b off []:=⟨rfl,rfl,rfl,rfl,λ_ _=>rfl,λi h=>by simp at h,λ_ _=>rfl,λ_=>rfl⟩
def Wrote.I{b off:Nat}{xs:List Int}(h:Wrote w w' b off xs){B:Nat}(hB:B<=b):Below B w w' :=⟨h.os,h.tape,h.output,by rw[h.size];exact AA _,λk hk=>h.others k (by omega)⟩
def Wrote.step{b off:Nat}{xs:List Int}(h:Wrote w w' b (off+1) xs)(n:Int){u:Value}(hc:w.cell? ⟨b,off,none⟩=some u):Wrote w (w'.setCell ⟨b,off,none⟩ (.int .u8 n)) b off (n::xs):=by
 have aA:w'.cell? ⟨b,off,none⟩=some u:=(h.outside off (.inl (by omega))).j hc;refine⟨h.os,h.tape,h.output,?_,λk hk=>?_,λi hi=>?_,λo ho=>?_,λa=>?_⟩
 ·rw[<-h.size];simp[World.setCell]
 ·rw[BD _ _ _ _ hk];exact h.others k hk
 ·cases i with
  | zero=>simpa using FG w' ⟨b,off,none⟩ (.int .u8 n) aA
  | succ i =>
   rw[BW (w:=w') (h:=show(⟨b,off,none⟩:Addr)≠⟨b,off+(i+1),none⟩ by simp)];have:=h.inside i (by simpa using hi);rw[show off+(i+1)=off+1+i by omega,this];simp
 ·simp only[BY]at ho
  rw[BW (w:=w') (h:=show(⟨b,off,none⟩:Addr)≠⟨b,o,none⟩ by simp<;>omega)];exact h.outside o (by omega)
 rw[BL];exact h.frozen a
@[reducible] def sJ(a b c d e f g h i:Int)(y:Value):List Value:=[.int .i64 a,.int .i64 b,.int .i64 c,.int .i64 d,.int .i64 e,.int .i64 f,.int .i64 g,.int .i64 h,.int .i64 i,y]
@[reducible] def sK(a b c d e f g h i:Int)(y:Value):Array Value:=#[.int .i64 a,.int .i64 b,.int .i64 c,.int .i64 d,.int .i64 e,.int .i64 f,.int .i64 g,.int .i64 h,.int .i64 i,y]
@[reducible] def dJ(z a b c d e f g h i:Int)(y x:Value):List Value:=[.int .i64 z,.int .i64 a,.int .i64 b,.int .i64 c,.int .i64 d,.int .i64 e,.int .i64 f,.int .i64 g,.int .i64 h,.int .i64 i,y,x]
@[reducible] def dK(z a b c d e f g h i:Int)(y x:Value):Array Value:=#[.int .i64 z,.int .i64 a,.int .i64 b,.int .i64 c,.int .i64 d,.int .i64 e,.int .i64 f,.int .i64 g,.int .i64 h,.int .i64 i,y,x]
def PS:(∀(a:Act) (t:Nat) (v:Value),a.put (some t) v={ a with tmps:=a.tmps.setIfInBounds t v })/\(∀(a:Act) (v:Value),a.put none v=a)/\(∀(l:List Value) (i:Nat) (v:Value),l.toArray.setIfInBounds i v=(l.set i v).toArray)/\(∀(x y:Value) (l:List Value),(x::l).set 0 y=y::l)/\(∀(x y:Value) (l:List Value) (n:Nat),(x::l).set (n+1) y=x::l.set n y)/\(∀(l:List Oper) (i:Nat) (h:i<l.toArray.size),l.toArray[i]=l[i]'(by simpa using h))/\(∀(x:Oper) (l:List Oper) (h:0<(x::l).length),(x::l)[0]'h=x)/\(∀(x:Oper) (l:List Oper) (i:Nat) (h:i+1<(x::l).length),(x::l)[i+1]'h=l[i]'(by simpa using h)) :=⟨λ_ _ _=>rfl,λ_ _=>rfl,λ_ _ _=>by simp,λ_ _ _=>rfl,λ_ _ _ _=>rfl,λ_ _ _=>by simp,λ_ _ _=>rfl,λ_ _ _ _=>rfl⟩
def TK(i:Nat)(v:Value)(hi:aB[i]?=some oi)(hy:YieldsIf P aB S oi v a)(hS:S w)
  (h:wpAnyH P md aB Q S aC (aA.setIfInBounds i true) (a.put oi.dst v) w)(hs:Region.noSelect aB=true:=by kernel_rfl)(hf:Region.free md aB aA i=true:=by kernel_rfl)(hr:(Region.ready md aB aA).contains i=true:=by kernel_rfl)
  (hQ:∀c a w,Q (.panic c) (a.put oi.dst v) w->Q (.panic c) a w:=by exactλ_ _ _ h=>h):wpAnyH P md aB Q S (aC+1) aA a w:=wpAnyH_take hi hs hf hr hQ hy hS h
def TY(i:Nat)(v:Value)(hi:aB[i]?=some oi)(hS:S w)
  (h:wpAnyH P md aB Q S aC (aA.setIfInBounds i true) (a.put oi.dst v) w)(hy:YieldsIf P aB S oi v a:=by exact BN ⟨by rfl,λw hw=>by(repeat (obtain⟨_,hw⟩:=hw));go_simp⟩)(hs:Region.noSelect aB=true:=by kernel_rfl)(hf:Region.free md aB aA i=true:=by kernel_rfl)(hr:(Region.ready md aB aA).contains i=true:=by kernel_rfl)
  (hQ:∀c a w,Q (.panic c) (a.put oi.dst v) w->Q (.panic c) a w:=by exactλ_ _ _ h=>h):wpAnyH P md aB Q S (aC+1) aA a w:=wpAnyH_take hi hs hf hr hQ hy hS h
def TZ(i:Nat)(v:Value)(hi:aB[i]?=some oi)(hS:S w)
  (h:wpAnyH P md aB Q S aC (aA.setIfInBounds i true) (a.put oi.dst v) w)(hy:YieldsIf P aB S oi v a:=by exact BN ⟨by rfl,λw hw=>by(repeat (obtain⟨_,hw⟩:=hw));go_simp;all_goals omega⟩)(hs:Region.noSelect aB=true:=by kernel_rfl)(hf:Region.free md aB aA i=true:=by kernel_rfl)(hr:(Region.ready md aB aA).contains i=true:=by kernel_rfl)
  (hQ:∀c a w,Q (.panic c) (a.put oi.dst v) w->Q (.panic c) a w:=by exactλ_ _ _ h=>h):wpAnyH P md aB Q S (aC+1) aA a w:=wpAnyH_take hi hs hf hr hQ hy hS h
def RD{aC:Array Oper}{aB:Nat}(i:Nat){o:Oper}(ho:aC[i]?=some o)
  (h:∀K':Act->World->Prop,Shut (∀a w,S w->(S w->wpAnyH P md aC Q S aB (aA.setIfInBounds i true) a w)->K' a w)->if Region.wanted o (yielded aC a.tmps)=true then Oper.wp P o a w K' Q else K' (a.put o.dst undef) w)
  (hr:Region.ready md aC aA=[i]:=by kernel_rfl):wpAnyH P md aC Q S (aB+1) aA a w:=EZ hr (by simp) (CY ho h EX)
def DN{aC:Array Oper}{aB:Nat}(h:Q .normal a w)(hr:Region.ready md aC aA=[]:=by kernel_rfl):wpAnyH P md aC Q S aB aA a w:=wpAnyH_done hr h _
def LE{p:Prop}(h:p):Hid p:=h
def MU{k:IntKind}{a b:Int}(h:a=b):Ending.returned (.int k a)=.returned (.int k b):=by rw[h]
def Strs(w:World)(a:Option Addr)(ss:List ByteArray):Prop :=ss=[]\/∃b o,a=some ⟨b,o,none⟩/\b<w.heap.size/\∀i,i<ss.length->w.cell? ⟨b,o+i,none⟩=some (.string (ss.getD i empty))
def Wrs(w:World)(a:Option Addr)(ws:List (Int×ByteArray)):Prop :=ws=[]\/∃b o,a=some ⟨b,o,none⟩/\b<w.heap.size/\∀i,i<ws.length->w.cell? ⟨b,o+i*2,none⟩=some (.int .i64 (ws.getD i (0,empty)).1)/\w.cell? ⟨b,o+i*2+1,none⟩=some (.string (ws.getD i (0,empty)).2)
def Strs.I{a:Option Addr}(h:Strs w a ss)(hb:Below w.heap.size w w'):Strs w' a ss:=by
 rcases h with h|⟨b,o,h1,h2,h3⟩
 ·exact .inl h
 exact .inr ⟨b,o,h1,AD h2 hb.size,λi hi=>(hb.cell (p:=⟨b,o+i,none⟩) h2).j (h3 i hi)⟩
def Wrs.I{a:Option Addr}(h:Wrs w a ws)(hb:Below w.heap.size w w'):Wrs w' a ws:=by
 rcases h with h|⟨b,o,h1,h2,h3⟩
 ·exact .inl h
 exact .inr ⟨b,o,h1,AD h2 hb.size,λi hi=>⟨(hb.cell (p:=⟨b,o+i*2,none⟩) h2).j (h3 i hi).1,(hb.cell (p:=⟨b,o+i*2+1,none⟩) h2).j (h3 i hi).2⟩⟩
def Strs.at{a:Option Addr}(h:Strs w a ss){k:Nat}(hk:k<ss.length):∃b o s,a=some ⟨b,o,none⟩/\w.cell? ⟨b,o+k,none⟩=some (.string s)/\Hid (s=ss.getD k empty):=by
 rcases h with h|⟨b,o,h1,h2,h3⟩
 ·subst h;simp at hk
 exact⟨b,o,_,h1,h3 k hk,LE rfl⟩
def Wrs.at{a:Option Addr}(h:Wrs w a ws){k:Nat}(hk:k<ws.length):∃b o n s,a=some ⟨b,o,none⟩/\w.cell? ⟨b,o+k*2,none⟩=some (.int .i64 n)/\w.cell? ⟨b,o+k*2+1,none⟩=some (.string s)/\Hid ((n,s)=ws.getD k (0,empty)):=by
 rcases h with h|⟨b,o,h1,h2,h3⟩
 ·subst h;simp at hk
 exact⟨b,o,_,_,h1,(h3 k hk).1,(h3 k hk).2,LE rfl⟩
def LO:List Nat->Int->Int
 | [],x=>x
 | n::r,x=>if x-(n:Int)<0 then -1 else LO r (x-(n:Int))
def RV:∀(l:List Nat) (x:Int),0<=x->LO l x=-1\/(0<=LO l x/\LO l x<=x)
 | [],x,h=>.inr ⟨h,Int.le_refl _⟩
 | n::r,x,h=>by
  unfold LO
  split
  ·exact .inl rfl
  rcases RV r (x-(n:Int)) (by omega) with h1|h1
  ·exact .inl h1
  exact .inr ⟨h1.1,by omega⟩
def UF{n:Nat}{x:Int}(r:List Nat)(h:x-(n:Int)<0):LO (n::r) x=-1:=by unfold LO;exact AK h
def TI{n:Nat}{x:Int}(r:List Nat)(h:¬x-(n:Int)<0):LO (n::r) x=LO r (x-(n:Int)):=by
 show(if x-(n:Int)<0 then -1 else LO r (x-(n:Int)))=_;exact AE h
def VY:∀(l r:List Nat) (x:Int),0<=x->LO l x<0->LO (l++r) x=-1
 | [],r,x,h,hl=>by have:LO [] x=x:=rfl;omega
 | n::l,r,x,h,hl=>by
  by_cases hn:x-(n:Int)<0
  ·exact UF _ hn
  rw[TI _ hn]at hl
  rw[ED,TI _ hn];exact VY l r _ (by omega) hl
def UD:∀(l r:List Nat) (x:Int),0<=x->0<=LO l x->LO (l++r) x=LO r (LO l x)
 | [],r,x,h,hl=>rfl
 | n::l,r,x,h,hl=>by
  by_cases hn:x-(n:Int)<0
  ·rw[UF _ hn]at hl;omega
  rw[TI _ hn]at hl⊢
  rw[ED,TI _ hn];exact UD l r _ (by omega) hl
def ku:∀(l:List Nat) (x:Int),0<=x->0<=LO l x->∀n∈l,(n:Int)<=x
 | [],_,_,_,n,hn=>by simp at hn
 | m::r,x,h,hz,n,hn=>by
  unfold LO at hz
  by_cases hm:x-(m:Int)<0
  ·rw[AK hm]at hz;omega
  rw[AE hm]at hz
  rcases DK.1 hn with rfl|hn
  ·omega
  have:=ku r _ (by omega) hz n hn;omega
def RT{α:Type}(l:List α)(k:Nat)(d:α)(h:k<l.length):l.drop k=l.getD k d::l.drop (k+1):=by
 rw[GG h];simp[List.getD,h]
def LH{N:Nat}{p:Addr}{x:Option Value}(h:Below N w w')(hc:w.cell? p=x)(hp:p.block<N:=by simp<;>omega):w'.cell? p=x:=(h.cell hp).j hc
def LM{N:Nat}{p:Addr}{x:Bool}(h:Below N w w')(hc:w.frozen? p=x)(hp:p.block<N:=by simp<;>omega):w'.frozen? p=x:=(h.frozen hp).j hc
def LG(w:World)(o:Obj):Below w.heap.size w (w.alloc o):=(AB _ _).alloc (AA _) _
def MT{v:Ending}{K:Ending->World->Prop}(h:K v w):∀e w',e=v/\w'=w->K e w':=λ_ _ k=>by rw[k.1,k.2];exact h
structure Row(w:World)(g:Nat)(cs:List Value):Prop where
 lt:g<w.heap.size
 cell:∀i v,cs[i]?=some v->w.cell? ⟨g,i,none⟩=some v
 froz:∀i,i<cs.length->w.frozen? ⟨g,i,none⟩=false
def Row.x{w:World}{g:Nat}{cs:List Value}(h:Row w g cs)(i:Nat){v:Value}(hv:cs[i]?=some v:=by rfl):w.cell? ⟨g,i,none⟩=some v:=h.cell i v hv
def Row.q{w:World}{g:Nat}{cs:List Value}(h:Row w g cs)(i:Nat)(hi:i<cs.length:=by simp):w.frozen? ⟨g,i,none⟩=false:=h.froz i hi
def Row.I(h:Row w g cs)(hb:Below w.heap.size w w'):Row w' g cs :=⟨AD h.lt hb.size,λi v hv=>(hb.cell (p:=⟨g,i,none⟩) h.lt).j (h.cell i v hv),λi hi=>(hb.frozen (p:=⟨g,i,none⟩) h.lt).j (h.froz i hi)⟩
def Row.set(h:Row w g cs)(k:Nat)(hk:k<cs.length)(v:Value):Row (w.setCell ⟨g,k,none⟩ v) g (cs.set k v):=by
 refine⟨by simpa[World.setCell] using h.lt,λi u hu=>?_,λi hi=>?_⟩
 ·by_cases he:i=k
  ·subst he
   rw[JJ hk]at hu
   cases hu
   exact FG w _ _ (h.cell i _ (AM hk))
  rw[IM (λe=>he e.symm)]at hu
  rw[BW (w:=w) (h:=show(⟨g,k,none⟩:Addr)≠⟨g,i,none⟩ by simp<;>omega)];exact h.cell i u hu
 rw[BL];exact h.froz i (by simpa using hi)
def Row.other(h:Row w g cs)(p:Addr)(hp:p.block≠g)(v:Value):Row (w.setCell p v) g cs:=by
 refine⟨by simpa[World.setCell] using h.lt,λi u hu=>?_,λi hi=>?_⟩
 ·rw[BW (w:=w) (h:=λe=>hp (by rw[e]))];exact h.cell i u hu
 rw[BL];exact h.froz i hi
def Row.drew(h:Row w g cs):Row w.drew g cs:=⟨h.lt,h.cell,h.froz⟩
def Row.drewN(h:Row w g cs)(q:Nat):Row (w.drewN q) g cs:=h.I (below_drewN (AB _ _) q)
def Row.alloc(h:Row w g cs)(o:Obj):Row (w.alloc o) g cs:=h.I (LG _ _)
def tY(w:World)(b o:Nat)(h:w.heap.size<=b):w.frozen? ⟨b,o,none⟩=false:=by
 have e:w.heap[b]?=none:=by simp[h]
 simp[World.frozen?,e]
def ME(w:World)(A:Array Value)(t:TypeId):Row (w.alloc (.cells A t)) w.heap.size A.toList :=⟨by simp,λi v hv=>by rw[DT _ _ _ _ rfl];simpa using hv,λi hi=>by rw[DH];exact tY _ _ _ (AA _)⟩
def Row.strs(h:Row w g (ss.map Value.string)):Strs w (some ⟨g,0,none⟩) ss :=.inr ⟨g,0,rfl,h.lt,λi hi=>by
  rw[BF]
  exact h.cell i _ (by simp[List.getD,hi])⟩
def LU(ws:List (Int×ByteArray)):List Value:=ws.flatMap λx=>[.int .i64 x.1,.string x.2]
def C9:LU []=[]:=rfl
def YV(a b:List (Int×ByteArray)):LU (a++b)=LU a++LU b:=by simp[LU]
def SZ(ws:List (Int×ByteArray)):(LU ws).length=ws.length*2:=by
 induction ws with
 | nil=>rfl
 | cons x r ih=>simp[LU]at ih⊢;omega
def al:∀(ws:List (Int×ByteArray)) (i:Nat),i<ws.length->(LU ws)[i*2]?=some (.int .i64 (ws.getD i (0,empty)).1)/\(LU ws)[i*2+1]?=some (.string (ws.getD i (0,empty)).2)
 | x::r,0,_=>by simp[LU]
 | x::r,i+1,h=>by
  have ih:=al r i (by simpa using h);have e:LU (x::r)=.int .i64 x.1::.string x.2::LU r:=by simp[LU]
  rw[e,show(i+1)*2=i*2+2 by omega];simpa using ih
def Row.wrs(h:Row w g (LU ws)):Wrs w (some ⟨g,0,none⟩) ws :=.inr ⟨g,0,rfl,h.lt,λi hi=>by
  rw[BF]
  exact⟨h.cell _ _ (al ws i hi).1,h.cell _ _ (al ws i hi).2⟩⟩
def TQ(ss:List ByteArray)(k:Nat):List Value:=(ss.take k).map Value.string++List.replicate (ss.length-k) (.string empty)
def tB(ss:List ByteArray)(k:Nat)(h:k<=ss.length):(TQ ss k).length=ss.length:=by simp[TQ];omega
def Gk(ss:List ByteArray)(k:Nat)(h:ss.length<=k):TQ ss k=ss.map Value.string:=by
 unfold TQ;rw[AT h,show ss.length-k=0 by omega];simp
def Hd(ss:List ByteArray)(k:Nat)(h:k<ss.length):(TQ ss k).set k (.string (ss.getD k empty))=TQ ss (k+1):=by
 unfold TQ;rw[BV _ _ (by simp;omega)];have e1:k-((ss.take k).map Value.string).length=0:=by simp;omega
 rw[e1,show ss.length-k=(ss.length-(k+1))+1 by omega,GQ,CI,AQ h,BK,BG];simp[List.getD,h]
def TS(ws:List (Int×ByteArray))(k:Nat):List Value:=LU (ws.take k)++LU (List.replicate (ws.length-k) (0,empty))
def sN(ws:List (Int×ByteArray))(k:Nat)(h:k<=ws.length):(TS ws k).length=ws.length*2:=by simp[TS,SZ];omega
def Hx(ws:List (Int×ByteArray))(k:Nat)(h:ws.length<=k):TS ws k=LU ws:=by
 unfold TS;rw[AT h,show ws.length-k=0 by omega];simp[LU]
def vR(ws:List (Int×ByteArray))(k:Nat)(h:k<ws.length):((TS ws k).set (k*2) (.int .i64 (ws.getD k (0,empty)).1)).set (k*2+1) (.string (ws.getD k (0,empty)).2)=TS ws (k+1):=by
 unfold TS;have el:(LU (ws.take k)).length=k*2:=by rw[SZ];simp;omega
 rw[BV _ _ (by omega),BV _ _ (by omega),el,show k*2-k*2=0 by omega,show k*2+1-k*2=1 by omega,
  show ws.length-k=(ws.length-(k+1))+1 by omega,GQ,AQ h,YV,BG]
 congr 1
 simp[LU,List.getD,h]
def YO{aD:Array Oper}{aC:List Oper}{o:Oper}
  (hg:o.guard=none)(l c:Operand)(t:TypeId)(aF:o.op=Op.makeSlice t l c)(e:TypeId)(z:Value)(size aA:Nat)(ht:P.underlying t=some (.slice e))(aB:(P.info? e).map (λi=>(i.zero,i.size,i.bytes))=some (some z,size,aA))
  (n:Nat)(hl:a.eval l=.int .i64 (n:Int))(hc:a.eval c=.int .i64 (n:Int))(hb:aA*n<=281474976710656)(hn:n<=281474976710656)
  (h:∀wx,Row wx w.heap.size (madeCells z.cells (n*size)).toList->Below w.heap.size w wx->wx.heap.size=w.heap.size+1->wpList P aD Q aC (a.put o.dst (.slice (some ⟨w.heap.size,0,none⟩) n n)) wx):wpList P aD Q (o::aC) a w:=by
 refine IV hg λK hK=>?_
 obtain⟨i,hi,hh⟩:=EF.1 aB;simp only[EA]at hh;obtain⟨h1,h2,h3⟩:=hh;subst h2 h3
 have aE:(i.bytes:Int)*(n:Int)<=281474976710656:=by
  have:((i.bytes*n:Nat):Int)<=281474976710656:=by omega
  rwa [Int.natCast_mul]at this
 have hr:=run_make (P:=P) w t e i z ht hi h1 .i64 .i64 n n (by omega) (Int.le_refl _) aE (by omega);simp only[DG]at hr;unfold Oper.wp;simp[execOp,aF,hl,hc,hr,Result.andThen];exact hK _ _ (h _ (ME _ _ _) (LG _ _) (by simp))
def Fj(n:Nat):(madeCells (Value.string empty).cells (n*1)).toList=List.replicate n (.string empty):=by
 unfold madeCells;rw[IP,FZ,FT];rw[JM];refine⟨by simp,λb hb=>?_⟩;obtain⟨i,_,rfl⟩:=CE.1 hb;have:i % (Value.string empty).cells.size=0:=by simp[Value.cells,Nat.mod_one]
 rw[this];rfl
def tu:∀(n:Nat),(madeCells (Value.agg #[.int .i64 0,.string empty]).cells (n*2)).toList=LU (List.replicate n (0,empty))
 | 0=>by simp[madeCells,LU]
 | n+1=>by
  have ih:=tu n;unfold madeCells at ih⊢;rw[FZ,FT]at ih⊢;rw[show(n+1)*2=n*2+1+1 by omega,DR,DR,BK,BK,ih,IN,YV,BG]
  congr 1
  have e0:n*2 % (Value.agg #[.int .i64 0,.string empty]).cells.size=0:=by simp[Value.cells]
  have e1:(n*2+1) % (Value.agg #[.int .i64 0,.string empty]).cells.size=1:=by simp[Value.cells]
  simp only[FD,IU];rw[e0,e1];rfl
end
section
open Tryz
open Go
def PU{P:Program}(w:World){aF:Array Oper}{aD:List Oper}{o:Oper}{a:Act}{Q:Exit->Act->World->Prop}(aG:o.guard=none)(s x:Operand)(t:TypeId)
  (ho:o.op=.call { callee:=.builtin .append,args:=#[s,x],argTypes:=#[t,t] })
  (base:Nat){e:TypeId}{i:TypeInfo}{z:Value}{size aA:Nat}(ht:P.underlying t=some (.slice e))(HH:P.info? e=some i/\i.zero=some z/\i.size=size/\i.bytes=aA)(aI:z.cells.size=size)(aH:0<size)
  (v:Value)(n:Nat)(xs:List Value)(hs:a.eval s=v)(aE:w.ownsRow base e size v n xs)
  (ad:Addr)(m c:Nat)(news:List Value)(hx:a.eval x=.slice (some ad) m c)(hl:news.length=m*size)(aC:∀j u,news[j]?=some u->w.cell? (ad.add j)=some u)(h1:∀u∈news,u.oneCell'=true)
  (aB:base<=w.heap.size)(H:Nat)(hH:w.heap.size=H)
  (h:∀g cap w',w'.ownsRow base e size (.slice (some ⟨g,0,none⟩) (n+m) cap) (n+m) (xs++news)->w.grownBy w' v.ownBlock->(v.ownBlock=some g\/g=H)->g<w'.heap.size->wpList P aF Q aD (a.put o.dst (.slice (some ⟨g,0,none⟩) (n+m) cap)) w')(hm:0<m:=by omega)(h63:n+m<=maxLen:=by unfold maxLen;omega)(hbytes:(n+m)*aA<=140737488355328:=by omega):wpList P aF Q (o::aD) a w :=wpList_append_lies w aG s x t ho base e i z size aA ht HH.1 HH.2.1 HH.2.2.1 HH.2.2.2 aI aH v n xs hs aE ad m c news hx hl aC h1 hm h63 hbytes aB H hH h
def QO{P:Program}(w:World){aH:Array Oper}{o:Oper}{a:Act}{K:Act->World->Prop}{Q:Exit->Act->World->Prop}{E:Prop}(aE:o.guard=none)(s x:Operand)(t:TypeId)
  (ho:o.op=.call { callee:=.builtin .append,args:=#[s,x],argTypes:=#[t,t] })
  (base:Nat){e:TypeId}{i:TypeInfo}{z:Value}{size aA:Nat}(ht:P.underlying t=some (.slice e))(HH:P.info? e=some i/\i.zero=some z/\i.size=size/\i.bytes=aA)(aG:z.cells.size=size)(aF:0<size)
  (v:Value)(n:Nat)(xs:List Value)(hs:a.eval s=v)(aD:w.ownsRow base e size v n xs)
  (ad:Addr)(m c:Nat)(news:List Value)(hx:a.eval x=.slice (some ad) m c)(hl:news.length=m*size)(aC:∀j u,news[j]?=some u->w.cell? (ad.add j)=some u)(h1:∀u∈news,u.oneCell'=true)
  (aB:base<=w.heap.size)(H:Nat)(hH:w.heap.size=H)
  (h:∀g cap w',w'.ownsRow base e size (.slice (some ⟨g,0,none⟩) (n+m) cap) (n+m) (xs++news)->w.grownBy w' v.ownBlock->(v.ownBlock=some g\/g=H)->g<w'.heap.size->K (a.put o.dst (.slice (some ⟨g,0,none⟩) (n+m) cap)) w')(hm:0<m:=by omega)(h63:n+m<=maxLen:=by unfold maxLen;omega)(hbytes:(n+m)*aA<=140737488355328:=by omega):if Region.wanted o (yielded aH a.tmps)=true then Oper.wp P o a w K Q else E :=step_append_lies w aE s x t ho base e i z size aA ht HH.1 HH.2.1 HH.2.2.1 HH.2.2.2 aG aF v n xs hs aD ad m c news hx hl aC h1 hm h63 hbytes aB H hH h
end
section
open Tryz
open Go.RowKit
variable {v:ByteArray}{rs:List (ByteArray×ByteArray)}{ws:List (Int×ByteArray)}{ss:List ByteArray}{cs r xs:List Value}{base cap g hi k lo n size:Nat}{a:Option Addr}{e:TypeId}{a0 a1 a2 a3 a4 a5 a6 a7 a8 a9 aA aB aC aD aE aF v0 v1 v2 v3 v4 v5 v6 v7 v8 v9:Value}{b w w' w1:World}{F:World->Prop}
def Row.k3(h:Row w g (v0::v1::v2::r)):w.cell? ⟨g,0,none⟩=some v0/\w.cell? ⟨g,1,none⟩=some v1/\w.cell? ⟨g,2,none⟩=some v2:=⟨h.x 0,h.x 1,h.x 2⟩
def Row.k4(h:Row w g (v0::v1::v2::v3::r)):w.cell? ⟨g,0,none⟩=some v0/\w.cell? ⟨g,1,none⟩=some v1/\w.cell? ⟨g,2,none⟩=some v2/\w.cell? ⟨g,3,none⟩=some v3:=⟨h.x 0,h.x 1,h.x 2,h.x 3⟩
def Row.k10(h:Row w g (v0::v1::v2::v3::v4::v5::v6::v7::v8::v9::r)):w.cell? ⟨g,0,none⟩=some v0/\w.cell? ⟨g,1,none⟩=some v1/\w.cell? ⟨g,2,none⟩=some v2/\w.cell? ⟨g,3,none⟩=some v3/\w.cell? ⟨g,4,none⟩=some v4/\w.cell? ⟨g,5,none⟩=some v5/\w.cell? ⟨g,6,none⟩=some v6/\w.cell? ⟨g,7,none⟩=some v7/\w.cell? ⟨g,8,none⟩=some v8/\w.cell? ⟨g,9,none⟩=some v9:=⟨h.x 0,h.x 1,h.x 2,h.x 3,h.x 4,h.x 5,h.x 6,h.x 7,h.x 8,h.x 9⟩
def Row.k12(h:Row w g (v0::v1::v2::v3::v4::v5::v6::v7::v8::v9::aA::aB::r)):w.cell? ⟨g,0,none⟩=some v0/\w.cell? ⟨g,1,none⟩=some v1/\w.cell? ⟨g,2,none⟩=some v2/\w.cell? ⟨g,3,none⟩=some v3/\w.cell? ⟨g,4,none⟩=some v4/\w.cell? ⟨g,5,none⟩=some v5/\w.cell? ⟨g,6,none⟩=some v6/\w.cell? ⟨g,7,none⟩=some v7/\w.cell? ⟨g,8,none⟩=some v8/\w.cell? ⟨g,9,none⟩=some v9/\w.cell? ⟨g,10,none⟩=some aA/\w.cell? ⟨g,11,none⟩=some aB:=⟨h.x 0,h.x 1,h.x 2,h.x 3,h.x 4,h.x 5,h.x 6,h.x 7,h.x 8,h.x 9,h.x 10,h.x 11⟩
def Row.k16(h:Row w g (v0::v1::v2::v3::v4::v5::v6::v7::v8::v9::aA::aB::aC::aD::aE::aF::r)):w.cell? ⟨g,0,none⟩=some v0/\w.cell? ⟨g,1,none⟩=some v1/\w.cell? ⟨g,2,none⟩=some v2/\w.cell? ⟨g,3,none⟩=some v3/\w.cell? ⟨g,4,none⟩=some v4/\w.cell? ⟨g,5,none⟩=some v5/\w.cell? ⟨g,6,none⟩=some v6/\w.cell? ⟨g,7,none⟩=some v7/\w.cell? ⟨g,8,none⟩=some v8/\w.cell? ⟨g,9,none⟩=some v9/\w.cell? ⟨g,10,none⟩=some aA/\w.cell? ⟨g,11,none⟩=some aB/\w.cell? ⟨g,12,none⟩=some aC/\w.cell? ⟨g,13,none⟩=some aD/\w.cell? ⟨g,14,none⟩=some aE/\w.cell? ⟨g,15,none⟩=some aF:=⟨h.x 0,h.x 1,h.x 2,h.x 3,h.x 4,h.x 5,h.x 6,h.x 7,h.x 8,h.x 9,h.x 10,h.x 11,h.x 12,h.x 13,h.x 14,h.x 15⟩
def Row.z2(h:Row w g (v0::v1::r)):w.frozen? ⟨g,0,none⟩=false/\w.frozen? ⟨g,1,none⟩=false:=⟨h.q 0,h.q 1⟩
def Row.z3(h:Row w g (v0::v1::v2::r)):w.frozen? ⟨g,0,none⟩=false/\w.frozen? ⟨g,1,none⟩=false/\w.frozen? ⟨g,2,none⟩=false:=⟨h.q 0,h.q 1,h.q 2⟩
def Row.z4(h:Row w g (v0::v1::v2::v3::r)):w.frozen? ⟨g,0,none⟩=false/\w.frozen? ⟨g,1,none⟩=false/\w.frozen? ⟨g,2,none⟩=false/\w.frozen? ⟨g,3,none⟩=false:=⟨h.q 0,h.q 1,h.q 2,h.q 3⟩
def Row.z12(h:Row w g (v0::v1::v2::v3::v4::v5::v6::v7::v8::v9::aA::aB::r)):w.frozen? ⟨g,0,none⟩=false/\w.frozen? ⟨g,1,none⟩=false/\w.frozen? ⟨g,2,none⟩=false/\w.frozen? ⟨g,3,none⟩=false/\w.frozen? ⟨g,4,none⟩=false/\w.frozen? ⟨g,5,none⟩=false/\w.frozen? ⟨g,6,none⟩=false/\w.frozen? ⟨g,7,none⟩=false/\w.frozen? ⟨g,8,none⟩=false/\w.frozen? ⟨g,9,none⟩=false/\w.frozen? ⟨g,10,none⟩=false/\w.frozen? ⟨g,11,none⟩=false:=⟨h.q 0,h.q 1,h.q 2,h.q 3,h.q 4,h.q 5,h.q 6,h.q 7,h.q 8,h.q 9,h.q 10,h.q 11⟩
def Row.z16(h:Row w g (v0::v1::v2::v3::v4::v5::v6::v7::v8::v9::aA::aB::aC::aD::aE::aF::r)):w.frozen? ⟨g,0,none⟩=false/\w.frozen? ⟨g,1,none⟩=false/\w.frozen? ⟨g,2,none⟩=false/\w.frozen? ⟨g,3,none⟩=false/\w.frozen? ⟨g,4,none⟩=false/\w.frozen? ⟨g,5,none⟩=false/\w.frozen? ⟨g,6,none⟩=false/\w.frozen? ⟨g,7,none⟩=false/\w.frozen? ⟨g,8,none⟩=false/\w.frozen? ⟨g,9,none⟩=false/\w.frozen? ⟨g,10,none⟩=false/\w.frozen? ⟨g,11,none⟩=false/\w.frozen? ⟨g,12,none⟩=false/\w.frozen? ⟨g,13,none⟩=false/\w.frozen? ⟨g,14,none⟩=false/\w.frozen? ⟨g,15,none⟩=false:=⟨h.q 0,h.q 1,h.q 2,h.q 3,h.q 4,h.q 5,h.q 6,h.q 7,h.q 8,h.q 9,h.q 10,h.q 11,h.q 12,h.q 13,h.q 14,h.q 15⟩
def Prs(w:World)(a:Option Addr)(rs:List (ByteArray×ByteArray)):Prop :=rs=[]\/∃b o,a=some ⟨b,o,none⟩/\b<w.heap.size/\∀i,i<rs.length->w.cell? ⟨b,o+i*2,none⟩=some (.string (rs.getD i (empty,empty)).1)/\w.cell? ⟨b,o+i*2+1,none⟩=some (.string (rs.getD i (empty,empty)).2)
def Prs.I(h:Prs w a rs)(hb:Below w.heap.size w w'):Prs w' a rs:=by
 rcases h with h|⟨b,o,h1,h2,h3⟩
 ·exact .inl h
 exact .inr ⟨b,o,h1,AD h2 hb.size,λi hi=>⟨(hb.cell (p:=⟨b,o+i*2,none⟩) h2).j (h3 i hi).1,(hb.cell (p:=⟨b,o+i*2+1,none⟩) h2).j (h3 i hi).2⟩⟩
def Prs.at(h:Prs w a rs)(hk:k<rs.length):∃b o s0 s1,a=some ⟨b,o,none⟩/\w.cell? ⟨b,o+k*2,none⟩=some (.string s0)/\w.cell? ⟨b,o+k*2+1,none⟩=some (.string s1)/\Hid ((s0,s1)=rs.getD k (empty,empty)):=by
 rcases h with h|⟨b,o,h1,h2,h3⟩
 ·subst h;simp at hk
 exact⟨b,o,_,_,h1,(h3 k hk).1,(h3 k hk).2,LE rfl⟩
def LI(rs:List (ByteArray×ByteArray)):List Value:=rs.flatMap λx=>[.string x.1,.string x.2]
def uO:LI []=[]:=rfl
def QT(a b:List (ByteArray×ByteArray)):LI (a++b)=LI a++LI b:=by simp[LI]
def RC(rs:List (ByteArray×ByteArray)):(LI rs).length=rs.length*2:=by
 induction rs with
 | nil=>rfl
 | cons x r ih=>simp[LI]at ih⊢;omega
def ZR:∀(rs:List (ByteArray×ByteArray)) (i:Nat),i<rs.length->(LI rs)[i*2]?=some (.string (rs.getD i (empty,empty)).1)/\(LI rs)[i*2+1]?=some (.string (rs.getD i (empty,empty)).2)
 | x::r,0,_=>by simp[LI]
 | x::r,i+1,h=>by
  have ih:=ZR r i (by simpa using h);have e:LI (x::r)=.string x.1::.string x.2::LI r:=by simp[LI]
  rw[e,show(i+1)*2=i*2+2 by omega];simpa using ih
def Row.prs(h:Row w g (LI rs)):Prs w (some ⟨g,0,none⟩) rs :=.inr ⟨g,0,rfl,h.lt,λi hi=>by
  rw[BF]
  exact⟨h.cell _ _ (ZR rs i hi).1,h.cell _ _ (ZR rs i hi).2⟩⟩
def TP(rs:List (ByteArray×ByteArray))(k:Nat):List Value:=LI (rs.take k)++LI (List.replicate (rs.length-k) (empty,empty))
def yO(rs:List (ByteArray×ByteArray))(k:Nat)(h:k<=rs.length):(TP rs k).length=rs.length*2:=by simp[TP,RC];omega
def Fq(rs:List (ByteArray×ByteArray))(k:Nat)(h:rs.length<=k):TP rs k=LI rs:=by
 unfold TP;rw[AT h,show rs.length-k=0 by omega];simp[LI]
def uR(rs:List (ByteArray×ByteArray))(k:Nat)(h:k<rs.length):((TP rs k).set (k*2) (.string (rs.getD k (empty,empty)).1)).set (k*2+1) (.string (rs.getD k (empty,empty)).2)=TP rs (k+1):=by
 unfold TP;have el:(LI (rs.take k)).length=k*2:=by rw[RC];simp;omega
 rw[BV _ _ (by omega),BV _ _ (by omega),el,show k*2-k*2=0 by omega,show k*2+1-k*2=1 by omega,
  show rs.length-k=(rs.length-(k+1))+1 by omega,GQ,AQ h,QT,BG]
 congr 1
 simp[LI,List.getD,h]
def yi:∀(n:Nat),(madeCells (Value.agg #[.string empty,.string empty]).cells (n*2)).toList=LI (List.replicate n (empty,empty))
 | 0=>by simp[madeCells,LI]
 | n+1=>by
  have ih:=yi n;unfold madeCells at ih⊢;rw[FZ,FT]at ih⊢;rw[show(n+1)*2=n*2+1+1 by omega,DR,DR,BK,BK,ih,IN,QT,BG]
  congr 1
  have e0:(n*2) % (Value.agg #[.string empty,.string empty]).cells.size=0:=by simp[Value.cells]<;>omega
  have e1:(n*2+1) % (Value.agg #[.string empty,.string empty]).cells.size=1:=by simp[Value.cells]<;>omega
  simp only[FD,IU];rw[e0,e1];rfl
def OV(x:ByteArray×ByteArray):List Nat:=[x.1.size,x.2.size]
def Ep:(prog.info? 162).map (λi=>(i.zero,i.size,i.bytes))=some (some (.agg #[.string empty,.string empty]),2,32):=by kernel_rfl
def zh(s0:ByteArray)(s1:ByteArray)(aA:Int)(w:World)(h0:0<=aA)(h1:aA<=1048576)(aB:s0.size<=9223372036854775807)(aC:s1.size<=9223372036854775807):Calls prog 145 #[.agg #[.string s0,.string s1],.int .i64 aA] w λe w'=>e=.returned (.int .i64 (LO [s0.size,s1.size] aA))/\Below w.heap.size w w':=by
 by_cases c0:aA-(s0.size:Int)<0
 focus
  have HE:LO [s0.size,s1.size] aA=-1:=by simp[LO,c0]
 rotate_left
 focus
  by_cases c1:aA-(s0.size:Int)-(s1.size:Int)<0
  focus
   have HE:LO [s0.size,s1.size] aA=-1:=by simp[LO,c0,c1]
  rotate_left
  focus
   have HE:LO [s0.size,s1.size] aA=aA-(s0.size:Int)-(s1.size:Int):=by simp[LO,c0,c1]
  rotate_left
 rotate_left 2
 all_goals
  go_enter func145,ntmps145;go_wp2;go_ret;exact⟨MU (by first|rfl|exact HE.symm),LG _ _⟩
def A5(a:Option Addr)(rs:List (ByteArray×ByteArray))(c:Nat)(aB:Int)(w:World)(h:Prs w a rs)(h0:0<=aB)(h1:aB<=1048576)(hl:rs.length<=maxLen)(hs:∀s∈rs,s.1.size<=maxLen/\s.2.size<=maxLen):Calls prog 101 #[.slice a rs.length c,.int .i64 aB] w λe w'=>e=.returned (.int .i64 (LO (rs.length::rs.flatMap OV) aB))/\Below w.heap.size w w':=by
 unfold maxLen at hl
 by_cases hn:aB-(rs.length:Int)<0
 ·have HR:=LE (UF (rs.flatMap OV) hn)
  go_enter func101,ntmps101;go_wp2;go_ret;exact⟨MU HR.o.symm,AB _ _⟩
 have HR:=LE (TI (rs.flatMap OV) hn)
 obtain⟨R,HE⟩:∃R,Hid (R=LO (rs.length::rs.flatMap OV) aB):=⟨_,LE rfl⟩;rw[<-HE.o];go_enter func101,ntmps101;go_wp2;go_loopw [1,5] (λx i wr=>∃(k:Nat) (y:Int),k<=rs.length/\i=.int .i64 k/\x=.int .i64 y/\0<=y/\y<=1048576/\Hid (LO ((rs.drop k).flatMap OV) y=R)/\Below w.heap.size w wr) (λ_ i _=>rs.length-(intOf i).toNat)
 case atStart=>exact⟨0,_,AH _,rfl,rfl,by omega,by omega,by show _=_;rw[HE.o,HR.o,DY],AB _ _⟩
 case round =>
  obtain⟨k,y,hk,rfl,rfl,aC,aH,HZ,aA⟩:=hrel
  by_cases aF:k<rs.length
  ·obtain⟨b,o,s0,s1,rfl,aI,aJ,HS⟩:=(h.I aA).at aF
   obtain⟨q0,q1⟩:s0.size<=9223372036854775807/\s1.size<=9223372036854775807:=by
    have:=hs (s0,s1) (by rw[HS.o];simp[List.getD,aF]);unfold maxLen at this;exact this
   obtain⟨y',HY⟩:∃y',Hid (y'=LO [s0.size,s1.size] y):=⟨_,LE rfl⟩;have aE:=RV [s0.size,s1.size] y aC;rw[<-HY.o]at aE
   have HD:Hid (LO ((rs.drop k).flatMap OV) y=LO ([s0.size,s1.size]++(rs.drop (k+1)).flatMap OV) y):=by
    show _=_;rw[RT rs k (empty,empty) aF,<-HS.o];rfl
   by_cases hy:y'<0
   ·have aG:y'=-1:=by omega
    have HN:=LE (VY [s0.size,s1.size] ((rs.drop (k+1)).flatMap OV) y aC (by rw[<-HY.o];exact hy));clear aE;subst aG;go_wp2_with (go_at_call 145;refine(zh s0 s1 y _ aC aH q0 q1).i ?_;rw[<-HY.o];rintro e w2 ⟨rfl,aD⟩);go_ret;refine⟨MU ?_,aA.j (aD.i aA.size)⟩;rw[<-HZ.o,HD.o,HN.o]
   have aG:0<=y':=by omega
   have aK:y'<=1048576:=by omega
   have HN:=LE (UD [s0.size,s1.size] ((rs.drop (k+1)).flatMap OV) y aC (by rw[<-HY.o];exact aG));clear aE;go_wp2_with (go_at_call 145;refine(zh s0 s1 y _ aC aH q0 q1).i ?_;rw[<-HY.o];rintro e w2 ⟨rfl,aD⟩);go_roundw
   case rel=>exact⟨k+1,_,by omega,by go_num,rfl,by omega,by omega,by show _=_;rw[<-HZ.o,HD.o,HN.o,<-HY.o],aA.j (aD.i aA.size)⟩
   case measure=>simp[intOf];omega
  go_wp2
  go_ret;refine⟨MU ?_,aA⟩;rw[<-HZ.o,CX (by omega)];rfl
def sQ(s0:ByteArray)(s1:ByteArray)(w:World):Calls prog 159 #[.agg #[.string s0,.string s1]] w λe w'=>e=.returned (.agg #[.string s0,.string s1])/\Below w.heap.size w w':=by
 go_enter func159,ntmps159;go_wp2;exact AJ (v:=.agg #[.string s0,.string s1]) (by simp[results,results159,go_sem]) rfl ⟨rfl,((LG _ _).alloc (by simp) _).alloc (by simp;omega) _⟩
def Ag(a:Option Addr)(rs:List (ByteArray×ByteArray))(c:Nat)(w:World)(h:Prs w a rs)(hl:rs.length<=1048576):Calls prog 113 #[.slice a rs.length c] w λe w'=>∃g,e=.returned (.slice (some ⟨g,0,none⟩) rs.length rs.length)/\w.heap.size<=g/\Row w' g (LI rs)/\Below w.heap.size w w':=by
 go_enter func113,ntmps113;go_wp2_with (at_make;refine YO rfl _ _ 46 rfl 162 _ 2 _ underlying46 Ep rs.length rfl rfl (by omega) (by omega) ?_;intro wx aA aJ aQ;rw[yi]at aA);have aK:Row wx w.heap.size (TP rs 0):=by simpa[TP,uO] using aA
 clear aA;go_loopw [4] (λi wr=>∃k:Nat,k<=rs.length/\i=.int .i64 k/\Row wr w.heap.size (TP rs k)/\Below w.heap.size w wr) (λi _=>rs.length-(intOf i).toNat)
 case atStart=>exact⟨0,AH _,rfl,aK,aJ⟩
 case round =>
  obtain⟨k,hk,rfl,aA,aB⟩:=hrel
  by_cases aG:k<rs.length
  ·obtain⟨b,o,s0,s1,rfl,aM,aN,HS⟩:=(h.I aB).at aG
   have HB:=LE aB;have HR:=LE aA;clear aA aB;go_wp2_with (go_at_call 159;refine(sQ s0 s1 _).i ?_;rintro e w2 ⟨rfl,aE⟩;have aC:=HR.o.I aE;have aF:=yO rs k hk;obtain⟨u0,aR⟩:∃u,w2.cell? ⟨w.heap.size,k*2,none⟩=some u:=⟨_,aC.cell (k*2) _ (AM (by omega))⟩;obtain⟨u1,aS⟩:∃u,w2.cell? ⟨w.heap.size,k*2+1,none⟩=some u:=⟨_,aC.cell (k*2+1) _ (AM (by omega))⟩;have aO:=aC.froz (k*2) (by omega);have aP:=aC.froz (k*2+1) (by omega);have aI:=LE aC;have aD:=LE aF;clear aC aF);have aH:=(aI.o.set (k*2) (by rw[aD.o];omega) (.string s0)).set (k*2+1) (by rw[DP,aD.o];omega) (.string s1)
   have aL:((TP rs k).set (k*2) (.string s0)).set (k*2+1) (.string s1)=TP rs (k+1):=by
    have e:=HS.o;rw[show s0=(rs.getD k (empty,empty)).1 by rw[<-e],show s1=(rs.getD k (empty,empty)).2 by rw[<-e]];exact uR rs k aG
   rw[aL]at aH;go_roundw
   case rel=>exact⟨k+1,by omega,by go_num,aH,((HB.o.j (aE.i HB.o.size)).setCell (AA _) _).setCell (AA _) _⟩
   case measure=>simp[intOf];omega
  go_wp2
  go_ret;exact⟨w.heap.size,rfl,AA _,by rw[<-Fq rs k (by omega)];exact aA,aB⟩
def vQ(s0:ByteArray)(s1:ByteArray)(w:World):Calls prog 195 #[.agg #[.string s0,.string s1],.agg #[.string s0,.string s1]] w λe w'=>e=.returned (.bool true)/\Below w.heap.size w w':=by
 go_enter func195,ntmps195;go_wp2;go_ret;exact⟨rfl,(LG _ _).alloc (by simp) _⟩
def By(a b:Option Addr)(rs:List (ByteArray×ByteArray))(c c':Nat)(w:World)(h:Prs w a rs)(h':Prs w b rs)(hl:rs.length<=1048576):Calls prog 144 #[.slice a rs.length c,.slice b rs.length c'] w λe w'=>e=.returned (.bool true)/\Below w.heap.size w w':=by
 go_enter func144,ntmps144;go_wp2;go_loopw [5] (λi wr=>∃k:Nat,k<=rs.length/\i=.int .i64 k/\Below w.heap.size w wr) (λi _=>rs.length-(intOf i).toNat)
 case atStart=>exact⟨0,AH _,rfl,AB _ _⟩
 case round =>
  obtain⟨k,hk,rfl,aA⟩:=hrel
  by_cases aH:k<rs.length
  ·obtain⟨b1,o1,s0,s1,rfl,aC,aF,HS⟩:=(h.I aA).at aH
   obtain⟨b2,o2,aK,aL,rfl,aD,aG,aE⟩:=(h'.I aA).at aH;obtain⟨rfl,rfl⟩:s0=aK/\s1=aL:=by have:=HS.o.j aE.o.symm;simpa using this
   have aN:(k:Int)<(rs.length:Int):=by omega
   have aM:(0:Int)<=(k:Int):=by omega
   have aI:b1<wr.heap.size:=by have:=BE wr _ aC;simpa using this
   have aJ:b2<wr.heap.size:=by have:=BE wr _ aD;simpa using this
   have HQ:Hid (wr.cell? ⟨b1,o1+k*2,none⟩=some (.string s0)/\wr.cell? ⟨b1,o1+k*2+1,none⟩=some (.string s1)/\wr.cell? ⟨b2,o2+k*2,none⟩=some (.string s0)/\wr.cell? ⟨b2,o2+k*2+1,none⟩=some (.string s1)):=⟨aC,aF,aD,aG⟩;clear HS aE aC aF aD aG;go_wp2_with fail
   go_region_held3 (λw'=>w'.cell? ⟨b1,o1+k*2,none⟩=some (.string s0)/\w'.cell? ⟨b1,o1+k*2+1,none⟩=some (.string s1)/\w'.cell? ⟨b2,o2+k*2,none⟩=some (.string s0)/\w'.cell? ⟨b2,o2+k*2+1,none⟩=some (.string s1))
    (first|assumption|exact HQ.o|exact⟨(aB.cell (p:=⟨b1,_,none⟩) aI).j HQ.o.1,(aB.cell (p:=⟨b1,_,none⟩) aI).j HQ.o.2.1,(aB.cell (p:=⟨b2,_,none⟩) aJ).j HQ.o.2.2.1,(aB.cell (p:=⟨b2,_,none⟩) aJ).j HQ.o.2.2.2⟩)
    (first|(go_at_call 195;refine(vQ s0 s1 _).i ?_;rintro e w2 ⟨rfl,aB⟩))
   go_wp2;go_roundw
   case rel=>exact⟨k+1,by omega,by go_num,aA.drew.j (aB.i aA.size)⟩
   case measure=>simp[intOf];omega
  go_wp2
  go_ret;exact⟨rfl,aA⟩
@[reducible] def LR(a:Option Addr)(n c:Nat):Value:=.agg #[.slice a n c]
def zr(a:Option Addr)(rs:List (ByteArray×ByteArray))(c:Nat)(w:World)(h:Prs w a rs)(aA:Int)(h0:0<=aA)(h1:aA<=1048576)(hl:rs.length<=maxLen)(hs:∀s∈rs,s.1.size<=maxLen/\s.2.size<=maxLen):Calls prog 55 #[LR a rs.length c,.int .i64 aA] w λe w'=>e=.returned (.int .i64 (LO (rs.length::rs.flatMap OV) aA))/\Below w.heap.size w w':=by
 have aB:∀o,Below w.heap.size w (w.alloc o):=λo=>LG _ _
 have aC:=RV (rs.length::rs.flatMap OV) aA (by omega);obtain⟨x,HX⟩:∃x,Hid (x=LO (rs.length::rs.flatMap OV) aA):=⟨_,LE rfl⟩;rw[<-HX.o]at aC⊢
 by_cases hx:x<0
 focus
  have aE:x=-1:=by omega
  have aF:=LE aE;clear aC aE
 rotate_left
 focus
  clear aC
 rotate_left
 all_goals
  go_enter func55,ntmps55;go_wp2_with fail;refine(A5 a rs c aA _ (h.I (aB _)) (by omega) (by omega) hl hs).i ?_;rw[<-HX.o];rintro e w1 ⟨rfl,aD⟩;go_wp2;go_ret
 ·exact⟨MU aF.o.symm,(aB _).j (aD.i (by simp))⟩
 exact⟨rfl,(aB _).j (aD.i (by simp))⟩
def tp(a:Option Addr)(rs:List (ByteArray×ByteArray))(c:Nat)(w:World)(h:Prs w a rs)(hl:rs.length<=1048576):Calls prog 70 #[LR a rs.length c] w λe w'=>∃g,e=.returned (LR (some ⟨g,0,none⟩) rs.length rs.length)/\w.heap.size<=g/\Row w' g (LI rs)/\Below w.heap.size w w':=by
 have aC:∀o1 o2 o3,Below w.heap.size w (((w.alloc o1).alloc o2).alloc o3):=λo1 o2 o3=>((LG _ _).alloc (by simp) _).alloc (by simp;omega) _
 go_enter func70,ntmps70;go_wp2_with fail;refine(Ag a rs c _ (h.I (aC _ _ _)) hl).i ?_;rintro e w1 ⟨g,rfl,hg,aD,aA⟩;have aB:=(aC _ _ _).j (aA.i (by simp;omega));have aG:=aA.size;simp only[AU]at hg aG;have aH:w1.cell? ⟨w.heap.size+1+1,0,none⟩=some (.slice none 0 0):=LH aA (by go_simp) (by simp);have aJ:w1.frozen? ⟨w.heap.size+1+1,0,none⟩=false:=LM aA (by go_simp) (by simp);have c10:w1.cell? ⟨w.heap.size+1,0,none⟩=some (.slice none 0 0):=LH aA (by go_simp);have aI:w1.frozen? ⟨w.heap.size+1,0,none⟩=false:=LM aA (by go_simp);have aF:=LE aD;have aE:=LE aB;clear aA aD aB;go_wp2;refine AJ (v:=LR (some ⟨g,0,none⟩) rs.length rs.length) (by simp[results,results70,go_sem,c10]) rfl ⟨g,rfl,by omega,?_,?_⟩
 ·exact(aF.o.other _ (by show w.heap.size+1+1≠g;omega) _).other _ (by show w.heap.size+1≠g;omega) _
 exact(aE.o.setCell (by show w.heap.size<=w.heap.size+1+1;omega) _).setCell (by show w.heap.size<=w.heap.size+1;omega) _
def ui(a b:Option Addr)(rs:List (ByteArray×ByteArray))(c d:Nat)(w:World)(h1:Prs w a rs)(h2:Prs w b rs)(hl:rs.length<=1048576):Calls prog 91 #[LR a rs.length c,LR b rs.length d] w λe w'=>e=.returned (.bool true)/\Below w.heap.size w w':=by
 have aA:∀o1 o2,Below w.heap.size w ((w.alloc o1).alloc o2):=λo1 o2=>(LG _ _).alloc (by simp) _
 go_enter func91,ntmps91;go_wp2_with fail;refine(By a b rs c d _ (h1.I (aA _ _)) (h2.I (aA _ _)) hl).i ?_;rintro e w1 ⟨rfl,aB⟩;have aC:=(aA _ _).j (aB.i (by simp;omega));clear aB;go_wp2;go_ret;exact⟨rfl,aC⟩
def dz{a b:ByteArray}(h:a=b):Ending.returned (.string a)=.returned (.string b):=by rw[h]
def eh(w:World)(n:Int):(convert 172 9 (.slice (some ⟨w.heap.size,0,none⟩) 1 1)).run prog (w.alloc (.cells #[.int .u8 n] 5))=.ok (.string (strOfNums [n])) (w.alloc (.cells #[.int .u8 n] 5)) :=Za (P:=prog) _ 172 5 underlying172 underlying5 w.heap.size 0 1 1 [n] rfl (λi hi=>by
  have:i=0:=by omega
  subst this;simp) 9 underlying9
def PY{a c:World}{r:Option Nat}(h:a.grownBy b r)(k:b.grownBy c r):a.grownBy c r :=⟨k.os.j h.os,k.tape.j h.tape,k.output.j h.output,AL h.size k.size,λi hi hr=>(k.block i (AD hi h.size) hr).j (h.block i hi hr)⟩
def TN{a:World}(r:Option Nat)(h:Below a.heap.size a b):a.grownBy b r:=⟨h.os,h.tape,h.output,h.size,λi hi _=>h.block i hi⟩
def VT(a:World)(r:Option Nat):a.grownBy a r:=⟨rfl,rfl,rfl,AA _,λ_ _ _=>rfl⟩
def MC{a:World}(h:a.grownBy b (some g))(i:Nat)(v:Value):a.grownBy (b.setCell ⟨g,i,none⟩ v) (some g) :=PY h ⟨rfl,rfl,rfl,by simp[World.setCell],λj _ hj=>BD _ _ _ _ (λe=>hj (by rw[e]))⟩
def NE{a:World}{r:Option Nat}{B:Nat}(h:a.grownBy b r)(hB:B<=a.heap.size)(hr:∀g,r=some g->B<=g):Below B a b :=⟨h.os,h.tape,h.output,h.size,λk hk=>h.block k (by omega) (λe=>by have:=hr k e.symm;omega)⟩
def Row.z{r:Option Nat}(h:Row w g cs)(hg:w.grownBy w' r)(hn:some g≠r):Row w' g cs :=⟨AD h.lt hg.size,λi v hv=>(CW (a:=⟨g,i,none⟩) (hg.block g h.lt hn)).j (h.cell i v hv),λi hi=>(FY (a:=⟨g,i,none⟩) (hg.block g h.lt hn)).j (h.froz i hi)⟩
def OwnS(w:World)(a:Option Addr)(cs:List Value):Prop:=cs=[]\/∃g,a=some ⟨g,0,none⟩/\Row w g cs
def blk(a:Option Addr)(n:Nat):Option Nat:=if n=0 then none else a.map (·.block)
def MI(b o:Nat)(n:Nat)(h:n≠0):blk (some ⟨b,o,none⟩) n=some b:=by simp[blk,h]
structure OwnD(w:World)(a:Option Addr)(ss:List ByteArray)(a':Option Addr)(ws:List (Int×ByteArray)):Prop where
 s:OwnS w a (ss.map Value.string)
 p:OwnS w a' (LU ws)
 ne:blk a ss.length=none\/blk a' ws.length=none\/blk a ss.length≠blk a' ws.length
def OwnS.I(h:OwnS w a cs)(hb:Below w.heap.size w w'):OwnS w' a cs:=by
 rcases h with h|⟨g,h1,h2⟩
 ·exact .inl h
 exact .inr ⟨g,h1,h2.I hb⟩
def OwnS.z{r:Option Nat}(h:OwnS w a cs)(hg:w.grownBy w' r)(hn:∀g,a=some ⟨g,0,none⟩->cs≠[]->some g≠r):OwnS w' a cs:=by
 by_cases hc:cs=[]
 ·exact .inl hc
 obtain⟨g,h1,h2⟩:=h.resolve_left hc
 exact .inr ⟨g,h1,h2.z hg (hn g h1 hc)⟩
def OwnS.lt(h:OwnS w a cs)(n:Nat)(hn:n≠0->cs≠[]):∀g,blk a n=some g->g<w.heap.size:=λg hg=>by
 by_cases h0:n=0
 ·subst h0;cases hg
 obtain⟨g',rfl,h2⟩:=h.resolve_left (hn h0)
 rw[MI g' 0 n h0]at hg
 cases hg
 exact h2.lt
def OwnD.I{a':Option Addr}(h:OwnD w a ss a' ws)(hb:Below w.heap.size w w'):OwnD w' a ss a' ws:=⟨h.s.I hb,h.p.I hb,h.ne⟩
def OwnS.strs(h:OwnS w a (ss.map Value.string)):Strs w a ss:=by
 rcases h with h|⟨g,rfl,h2⟩
 ·exact .inl (by simpa using h)
 exact h2.strs
def OwnS.wrs(h:OwnS w a (LU ws)):Wrs w a ws:=by
 rcases h with h|⟨g,rfl,h2⟩
 ·exact .inl (by have:=BT List.length h;rw[SZ,AR]at this;exact AC (by omega))
 exact h2.wrs
def nk(h:ss.length≠0):ss.map Value.string≠[]:=λe=>h (by have:=BT List.length e;simpa using this)
def Gt(h:ws.length≠0):LU ws≠[]:=λe=>h (by have:=BT List.length e;rw[SZ,AR]at this;omega)
def TC(h:ss.map Value.string≠[]):ss.length≠0:=λe=>h (by rw[AC e];rfl)
def VS(h:LU ws≠[]):ws.length≠0:=λe=>h (by rw[AC e];rfl)
structure Dep(w:World)(lo hi:Nat)(F:World->Prop):Prop where
 l:F w
 top:hi<=w.heap.size
 keep:∀w':World,(∀b,lo<=b->b<hi->w'.heap[b]?=w.heap[b]?)->hi<=w'.heap.size->F w'
def Dep.I(h:Dep w lo hi F)(hb:Below w.heap.size w w'):Dep w' lo hi F :=⟨h.keep w' (λb _ h2=>hb.block b (AD h2 h.top)) (AL h.top hb.size),AL h.top hb.size,λw2 h2 h3=>h.keep w2 (λb h4 h5=>(h2 b h4 h5).j (hb.block b (AD h5 h.top))) h3⟩
def Dep.z{r:Option Nat}(h:Dep w lo hi F)(hg:w.grownBy w' r)(hr:∀g,r=some g->g<lo\/hi<=g):Dep w' lo hi F:=by
 have aA:∀b,lo<=b->b<hi->w'.heap[b]?=w.heap[b]?:=λb h1 h2=>hg.block b (AD h2 h.top) (λe=>by have:=hr b e.symm;omega)
 exact⟨h.keep w' aA (AL h.top hg.size),AL h.top hg.size,λw2 h2 h3=>h.keep w2 (λb h4 h5=>(h2 b h4 h5).j (aA b h4 h5)) h3⟩
def Dep.and{G:World->Prop}(h:Dep w lo hi F)(k:Dep w lo hi G):Dep w lo hi (λw=>F w/\G w):=⟨⟨h.l,k.l⟩,h.top,λw' h1 h2=>⟨h.keep w' h1 h2,k.keep w' h1 h2⟩⟩
def Dep.wide{aB aA:Nat}(h:Dep w lo hi F)(h1:aB<=lo)(h2:hi<=aA)(h3:aA<=w.heap.size):Dep w aB aA F:=⟨h.l,h3,λw' k1 k2=>h.keep w' (λb a c=>k1 b (by omega) (by omega)) (by omega)⟩
def QW(h:Row w g cs)(e:w'.heap[g]?=w.heap[g]?)(hs:g<w'.heap.size):Row w' g cs :=⟨hs,λi v hv=>by rw[<-h.cell i v hv];simp[World.cell?,e],λi hi=>by rw[<-h.froz i hi];simp[World.frozen?,e]⟩
def UU(h:Row w g cs)(h1:lo<=g)(h2:g<hi)(h3:hi<=w.heap.size):Dep w lo hi (λw=>Row w g cs):=⟨h,h3,λw' k1 k2=>QW h (k1 g h1 h2) (by omega)⟩
def PG(h:OwnS w a cs)(hn:cs≠[]->n≠0)(h1:∀g,blk a n=some g->lo<=g):Dep w lo w.heap.size (λw=>OwnS w a cs) :=⟨h,AA _,λw' k1 k2=>by
  by_cases h0:cs=[]
  ·exact .inl h0
  obtain⟨g,rfl,hr⟩:=h.resolve_left h0
  exact .inr ⟨g,rfl,QW hr (k1 g (h1 g (MI _ _ _ (hn h0))) hr.lt) (AD hr.lt k2)⟩⟩
def Dep.cut(h:Dep w lo w.heap.size (λw=>OwnS w a cs))(h1:∀g,a=some ⟨g,0,none⟩->cs≠[]->g<hi)(h2:hi<=w.heap.size)(h3:∀g,a=some ⟨g,0,none⟩->cs≠[]->lo<=g):Dep w lo hi (λw=>OwnS w a cs) :=⟨h.l,h2,λw' k1 k2=>by
  by_cases h0:cs=[]
  ·exact .inl h0
  obtain⟨g,rfl,hr⟩:=h.l.resolve_left h0
  exact .inr ⟨g,rfl,QW hr (k1 g (h3 g rfl h0) (h1 g rfl h0)) (AD (h1 g rfl h0) k2)⟩⟩
def WJ(h:blk (some ⟨g,0,none⟩) n=some k):k=g:=by
 unfold blk at h
 split at h
 ·cases h
 simp at h;exact h.symm
def Dep.low{N:Nat}(h:Dep w lo hi F)(hb:Below N w w')(hN:hi<=N):Dep w' lo hi F :=⟨h.keep w' (λb _ h2=>hb.block b (by omega)) (AL h.top hb.size),AL h.top hb.size,λw2 h2 h3=>h.keep w2 (λb h4 h5=>(h2 b h4 h5).j (hb.block b (by omega))) h3⟩
def Is(w:World)(A:Array Value)(t:TypeId):Dep (w.alloc (.cells A t)) w.heap.size (w.heap.size+1) (λW=>Row W w.heap.size A.toList):=UU (ME w A t) (AA _) (by omega) (by simp)
def LJ{v:World}{A:Array Value}{t:TypeId}(e:w.alloc (.cells A t)=v):Below w.heap.size w v/\v.heap.size=w.heap.size+1/\Dep v w.heap.size (w.heap.size+1) (λW=>Row W w.heap.size A.toList):=by
 subst e;exact⟨LG _ _,by simp,UU (ME w A t) (AA _) (by omega) (by simp)⟩
def cd(h:Row w g cs):Dep w g (g+1) (λW=>Row W g cs):=UU h (AA _) (by omega) (by have:=h.lt;omega)
def c10(h:Row w g [a0,a1,a2,a3,a4,a5,a6,a7,a8,a9]):w.cell? ⟨g,0,none⟩=some a0/\w.cell? ⟨g,1,none⟩=some a1/\w.cell? ⟨g,2,none⟩=some a2/\w.cell? ⟨g,3,none⟩=some a3/\w.cell? ⟨g,4,none⟩=some a4/\w.cell? ⟨g,5,none⟩=some a5/\w.cell? ⟨g,6,none⟩=some a6/\w.cell? ⟨g,7,none⟩=some a7/\w.cell? ⟨g,8,none⟩=some a8/\w.cell? ⟨g,9,none⟩=some a9/\g<w.heap.size :=⟨h.x 0,h.x 1,h.x 2,h.x 3,h.x 4,h.x 5,h.x 6,h.x 7,h.x 8,h.x 9,h.lt⟩
def c12(h:Row w g [a0,a1,a2,a3,a4,a5,a6,a7,a8,a9,aA,aB]):w.cell? ⟨g,0,none⟩=some a0/\w.cell? ⟨g,1,none⟩=some a1/\w.cell? ⟨g,2,none⟩=some a2/\w.cell? ⟨g,3,none⟩=some a3/\w.cell? ⟨g,4,none⟩=some a4/\w.cell? ⟨g,5,none⟩=some a5/\w.cell? ⟨g,6,none⟩=some a6/\w.cell? ⟨g,7,none⟩=some a7/\w.cell? ⟨g,8,none⟩=some a8/\w.cell? ⟨g,9,none⟩=some a9/\w.cell? ⟨g,10,none⟩=some aA/\w.cell? ⟨g,11,none⟩=some aB/\g<w.heap.size :=⟨h.x 0,h.x 1,h.x 2,h.x 3,h.x 4,h.x 5,h.x 6,h.x 7,h.x 8,h.x 9,h.x 10,h.x 11,h.lt⟩
def c16(h:Row w g [a0,a1,a2,a3,a4,a5,a6,a7,a8,a9,aA,aB,aC,aD,aE,aF]):w.cell? ⟨g,0,none⟩=some a0/\w.cell? ⟨g,1,none⟩=some a1/\w.cell? ⟨g,2,none⟩=some a2/\w.cell? ⟨g,3,none⟩=some a3/\w.cell? ⟨g,4,none⟩=some a4/\w.cell? ⟨g,5,none⟩=some a5/\w.cell? ⟨g,6,none⟩=some a6/\w.cell? ⟨g,7,none⟩=some a7/\w.cell? ⟨g,8,none⟩=some a8/\w.cell? ⟨g,9,none⟩=some a9/\w.cell? ⟨g,10,none⟩=some aA/\w.cell? ⟨g,11,none⟩=some aB/\w.cell? ⟨g,12,none⟩=some aC/\w.cell? ⟨g,13,none⟩=some aD/\w.cell? ⟨g,14,none⟩=some aE/\w.cell? ⟨g,15,none⟩=some aF/\g<w.heap.size :=⟨h.x 0,h.x 1,h.x 2,h.x 3,h.x 4,h.x 5,h.x 6,h.x 7,h.x 8,h.x 9,h.x 10,h.x 11,h.x 12,h.x 13,h.x 14,h.x 15,h.lt⟩
def Pst(w:World)(a:Option Addr)(P:List (List (ByteArray×ByteArray))):Prop :=P=[]\/∃b o,a=some ⟨b,o,none⟩/\b<w.heap.size/\∀i,i<P.length->∃p c,w.cell? ⟨b,o+i,none⟩=some (.slice p (P.getD i []).length c)/\Prs w p (P.getD i [])
def Pst.I{P:List (List (ByteArray×ByteArray))}(h:Pst w a P)(hb:Below w.heap.size w w'):Pst w' a P:=by
 rcases h with h|⟨b,o,h1,h2,h3⟩
 ·exact .inl h
 refine .inr ⟨b,o,h1,AD h2 hb.size,λi hi=>?_⟩
 obtain⟨p,c,h4,h5⟩:=h3 i hi;exact⟨p,c,(hb.cell (p:=⟨b,o+i,none⟩) h2).j h4,h5.I hb⟩
def Pst.at{P:List (List (ByteArray×ByteArray))}(h:Pst w a P)(hk:k<P.length):∃b o p c,a=some ⟨b,o,none⟩/\b<w.heap.size/\w.cell? ⟨b,o+k,none⟩=some (.slice p (P.getD k []).length c)/\Hid (Prs w p (P.getD k [])):=by
 rcases h with h|⟨b,o,h1,h2,h3⟩
 ·subst h;simp at hk
 obtain⟨p,c,h4,h5⟩:=h3 k hk
 exact⟨b,o,p,c,h1,h2,h4,LE h5⟩
def PT(rs:List (ByteArray×ByteArray)):List Nat:=rs.length::rs.flatMap OV
def TT(P:List (List (ByteArray×ByteArray)))(gs:Nat->Nat)(k:Nat):List Value:=(List.range P.length).map λi=>if i<k then .slice (some ⟨gs i,0,none⟩) (P.getD i []).length (P.getD i []).length else .slice none 0 0
def qm(P:List (List (ByteArray×ByteArray)))(gs:Nat->Nat)(k:Nat):(TT P gs k).length=P.length:=by simp[TT]
def Hz(P:List (List (ByteArray×ByteArray)))(gs:Nat->Nat)(k g:Nat)(h:k<P.length):(TT P gs k).set k (.slice (some ⟨g,0,none⟩) (P.getD k []).length (P.getD k []).length)=TT P (λi=>if i=k then g else gs i) (k+1):=by
 apply KT
 ·simp[TT]
 intro i h1 h2
 rw[List.getElem_set]
 by_cases e:k=i
 ·subst e
  simp[TT]
 rw[AE e]
 simp only[TT,KU,List.getElem_range]
 by_cases h3:i<k
 ·rw[AK h3,AK (by omega),AE (λx=>e x.symm)]
 rw[AE h3,AE (by omega)]
def E7(P:List (List (ByteArray×ByteArray)))(gs:Nat->Nat):(madeCells (Value.agg #[.slice none 0 0]).cells (P.length*1)).toList=TT P gs 0:=by
 unfold madeCells TT;rw[FZ,FT,IP]
 refine GP λi _=>?_
 rw[AE (by omega)];simp[Value.cells,Nat.mod_one]
structure OwnP(w:World)(g:Nat)(P:List (List (ByteArray×ByteArray)))(gs:Nat->Nat)(k:Nat):Prop where
 row:Row w g (TT P gs k)
 st:∀i,i<k->Row w (gs i) (LI (P.getD i []))/\g<gs i
 asc:∀i j,i<j->j<k->gs i<gs j
def OwnP.I{P:List (List (ByteArray×ByteArray))}{gs:Nat->Nat}(h:OwnP w g P gs k)(hb:Below w.heap.size w w'):OwnP w' g P gs k :=⟨h.row.I hb,λi hi=>⟨(h.st i hi).1.I hb,(h.st i hi).2⟩,h.asc⟩
def OwnP.push{g1:Nat}{P:List (List (ByteArray×ByteArray))}{gs:Nat->Nat}(h:OwnP w g P gs k)(hb:Below w.heap.size w w')(hg:w.heap.size<=g1)(hr:Row w' g1 (LI (P.getD k [])))(hk:k<P.length):OwnP (w'.setCell ⟨g,k,none⟩ (.slice (some ⟨g1,0,none⟩) (P.getD k []).length (P.getD k []).length)) g P (λi=>if i=k then g1 else gs i) (k+1):=by
 have h':=h.I hb;have aB:=h.row.lt;refine⟨?_,λi hi=>?_,λi j aA hj=>?_⟩
 ·rw[<-Hz P gs k g1 hk]
  exact h'.row.set k (by rw[qm];exact hk) _
 ·show Row _ (if i=k then g1 else gs i) _/\g<(if i=k then g1 else gs i)
  by_cases e:i=k
  ·subst e
   rw[AK rfl];exact⟨hr.other _ (by show g≠g1;omega) _,by omega⟩
  rw[AE e]
  have:=h'.st i (by omega);exact⟨this.1.other _ (by show g≠gs i;omega) _,this.2⟩
 show(if i=k then g1 else gs i)<(if j=k then g1 else gs j)
 rw[AE (by omega)]
 by_cases e:j=k
 ·rw[AK e]
  have:=(h.st i (by omega)).1.lt;omega
 rw[AE e]
 exact h.asc i j aA (by omega)
def OwnP.pst{P:List (List (ByteArray×ByteArray))}{gs:Nat->Nat}(h:OwnP w g P gs P.length):Pst w (some ⟨g,0,none⟩) P :=.inr ⟨g,0,rfl,h.row.lt,λi hi=>⟨_,_,by rw[BF];exact h.row.cell i (.slice (some ⟨gs i,0,none⟩) (P.getD i []).length (P.getD i []).length) (by simp[TT,hi]),(h.st i hi).1.prs⟩⟩
def F6(a:Option Addr)(P:List (List (ByteArray×ByteArray)))(c:Nat)(aB:Int)(w:World)(h:Pst w a P)(h0:0<=aB)(h1:aB<=1048576)(hl:P.length<=maxLen)(hs:∀rs∈P,rs.length<=maxLen/\∀s∈rs,s.1.size<=maxLen/\s.2.size<=maxLen):Calls prog 17 #[.slice a P.length c,.int .i64 aB] w λe w'=>e=.returned (.int .i64 (LO (P.length::P.flatMap PT) aB))/\Below w.heap.size w w':=by
 unfold maxLen at hl
 by_cases hn:aB-(P.length:Int)<0
 ·have HR:=LE (UF (P.flatMap PT) hn)
  go_enter func17,ntmps17;go_wp2;go_ret;exact⟨MU HR.o.symm,AB _ _⟩
 have HR:=LE (TI (P.flatMap PT) hn)
 obtain⟨R,HE⟩:∃R,Hid (R=LO (P.length::P.flatMap PT) aB):=⟨_,LE rfl⟩;rw[<-HE.o];go_enter func17,ntmps17;go_wp2;go_loopw [1,5] (λx i wr=>∃(k:Nat) (y:Int),k<=P.length/\i=.int .i64 k/\x=.int .i64 y/\0<=y/\y<=1048576/\Hid (LO ((P.drop k).flatMap PT) y=R)/\Below w.heap.size w wr) (λ_ i _=>P.length-(intOf i).toNat)
 case atStart=>exact⟨0,_,AH _,rfl,rfl,by omega,by omega,by show _=_;rw[HE.o,HR.o,DY],AB _ _⟩
 case round =>
  obtain⟨k,y,hk,rfl,rfl,aE,aL,HZ,aA⟩:=hrel
  by_cases aI:k<P.length
  ·obtain⟨b,o,p,cp,rfl,aM,aK,HP⟩:=(h.I aA).at aI
   obtain⟨rs,aF⟩:∃rs,Hid (rs=P.getD k []):=⟨_,LE rfl⟩;rw[<-aF.o]at aK HP;have aC:rs∈P:=by rw[aF.o];simp[List.getD,aI]
   have aD:=LE (zr p rs cp wr HP.o y aE aL (hs rs aC).1 (hs rs aC).2);unfold LR at aD;obtain⟨y',HY⟩:∃y',Hid (y'=LO (rs.length::rs.flatMap OV) y):=⟨_,LE rfl⟩;have aH:=RV (rs.length::rs.flatMap OV) y aE;rw[<-HY.o]at aH aD
   have HD:Hid (LO ((P.drop k).flatMap PT) y=LO (PT rs++(P.drop (k+1)).flatMap PT) y):=by
    show _=_;rw[RT P k [] aI,<-aF.o];rfl
   by_cases hy:y'<0
   ·have aJ:y'=-1:=by omega
    have HN:=LE (VY (PT rs) ((P.drop (k+1)).flatMap PT) y aE (by show LO (rs.length::rs.flatMap OV) y<0;rw[<-HY.o];exact hy));clear aH;subst aJ;go_wp2_with (go_at_call 55;refine aD.o.i ?_;rintro e w2 ⟨rfl,aG⟩);go_ret;refine⟨MU ?_,aA.j (aG.i aA.size)⟩;rw[<-HZ.o,HD.o,HN.o]
   have aJ:0<=y':=by omega
   have aN:y'<=1048576:=by omega
   have HN:=LE (UD (PT rs) ((P.drop (k+1)).flatMap PT) y aE (by show 0<=LO (rs.length::rs.flatMap OV) y;rw[<-HY.o];exact aJ));clear aH;go_wp2_with (go_at_call 55;refine aD.o.i ?_;rintro e w2 ⟨rfl,aG⟩);go_roundw
   case rel=>exact⟨k+1,_,by omega,by go_num,rfl,by omega,by omega,by show _=_;rw[<-HZ.o,HD.o,HN.o,HY.o];rfl,aA.j (aG.i aA.size)⟩
   case measure=>simp[intOf];omega
  go_wp2
  go_ret;refine⟨MU ?_,aA⟩;rw[<-HZ.o,CX (by omega)];rfl
def An:(prog.info? 48).map (λi=>(i.zero,i.size,i.bytes))=some (some (.agg #[.slice none 0 0]),1,24):=by kernel_rfl
def xC(a:Option Addr)(P:List (List (ByteArray×ByteArray)))(c:Nat)(w:World)(h:Pst w a P)(hl:P.length<=1048576)(hs:∀rs∈P,rs.length<=1048576):Calls prog 26 #[.slice a P.length c] w λe w'=>∃g gs,e=.returned (.slice (some ⟨g,0,none⟩) P.length P.length)/\w.heap.size<=g/\OwnP w' g P gs P.length/\Below w.heap.size w w':=by
 go_enter func26,ntmps26;go_wp2_with (at_make;refine YO rfl _ _ 51 rfl 48 _ 1 _ underlying51 An P.length rfl rfl (by omega) (by omega) ?_;intro wx aA aJ aQ;rw[E7 P (λ_=>0)]at aA);have aN:OwnP wx w.heap.size P (λ_=>0) 0:=⟨aA,λi hi=>absurd hi (by omega),λi j _ hj=>absurd hj (by omega)⟩;clear aA;go_loopw [4] (λi wr=>∃(k:Nat) (gs:Nat->Nat),k<=P.length/\i=.int .i64 k/\OwnP wr w.heap.size P gs k/\Below w.heap.size w wr) (λi _=>P.length-(intOf i).toNat)
 case atStart=>exact⟨0,_,AH _,rfl,aN,aJ⟩
 case round =>
  obtain⟨k,gs,hk,rfl,aA,aB⟩:=hrel
  by_cases aC:k<P.length
  ·obtain⟨b,o,p,cp,rfl,aO,aK,HP⟩:=(h.I aB).at aC
   obtain⟨rs,aD⟩:∃rs,Hid (rs=P.getD k []):=⟨_,LE rfl⟩;rw[<-aD.o]at aK HP;have aF:rs∈P:=by rw[aD.o];simp[List.getD,aC]
   have HT:=LE (tp p rs cp wr HP.o (hs rs aF));unfold LR at HT;have HB:=LE aB;have HR:=LE aA;clear aA aB;go_wp2_with (go_at_call 70;refine HT.o.i ?_;rintro e w2 ⟨g1,rfl,aL,aH,aE⟩;have aR:=(HR.o.row.I aE).cell k _ (AM (by rw[qm];exact aC));have aP:=(HR.o.row.I aE).froz k (by rw[qm];exact aC);have aI:=LE aH;clear aH);have aG:=LE (HR.o.push (k:=k) aE aL (by rw[<-aD.o];exact aI.o) aC);rw[<-aD.o]at aG;go_roundw
   case rel=>exact⟨k+1,_,by omega,by go_num,aG.o,(HB.o.j (aE.i HB.o.size)).setCell (AA _) _⟩
   case measure=>simp[intOf];omega
  have aM:k=P.length:=by omega
  subst aM;go_wp2;go_ret;exact⟨w.heap.size,gs,rfl,AA _,aA,aB⟩
def If(p q:Option Addr)(P:List (List (ByteArray×ByteArray)))(c c':Nat)(w:World)(h:Pst w p P)(h':Pst w q P)(hl:P.length<=1048576)(hs:∀rs∈P,rs.length<=1048576):Calls prog 40 #[.slice p P.length c,.slice q P.length c'] w λe w'=>e=.returned (.bool true)/\Below w.heap.size w w':=by
 go_enter func40,ntmps40;go_wp2;go_loopw [5] (λi wr=>∃k:Nat,k<=P.length/\i=.int .i64 (k:Int)/\Below w.heap.size w wr) (λi _=>P.length-(intOf i).toNat)
 case atStart=>exact⟨0,AH _,rfl,AB _ _⟩
 case round =>
  obtain⟨k,hk,rfl,aA⟩:=hrel
  by_cases aD:k<P.length
  ·have aJ:(k:Int)<(P.length:Int):=by omega
   have aL:(0:Int)<=(k:Int):=by omega
   obtain⟨g,o,p1,c1,rfl,lg,hc,HP⟩:=(h.I aA).at aD;obtain⟨g',o',p2,c2,rfl,aK,aC,aG⟩:=(h'.I aA).at aD;obtain⟨rs,aH⟩:∃rs,Hid (rs=P.getD k []):=⟨_,LE rfl⟩;rw[<-aH.o]at hc aC HP aG;have aE:rs∈P:=by rw[aH.o];simp[List.getD,aD]
   have aF:=LE aA;have HE:=LE (ui p1 p2 rs c1 c2 wr.drew (HP.o.I (AB _ _).drew) (aG.o.I (AB _ _).drew) (hs rs aE));unfold LR at HE;clear aA;go_wp2_with fail
   go_region_held3 (λw'=>w'.cell? ⟨g,o+k,none⟩=some (.slice p1 rs.length c1)/\w'.cell? ⟨g',o'+k,none⟩=some (.slice p2 rs.length c2))
    (first|assumption|exact⟨hc,aC⟩|exact⟨(aB.cell (p:=⟨g,o+k,none⟩) lg).j hc,(aB.cell (p:=⟨g',o'+k,none⟩) aK).j aC⟩)
    (first|(go_at_call 91;refine HE.o.i ?_;rintro e w3 ⟨rfl,aB⟩))
   have aI:=LE (aF.o.j ((((AB _ _).drew).j aB).i aF.o.size));clear aB;go_wp2;exact⟨⟨k+1,by omega,by go_num,aI.o⟩,by simp[intOf];omega⟩
  go_wp2
  go_ret;exact⟨rfl,aA⟩
def Chs(w:World)(a:Option Addr)(rs:List (ByteArray×ByteArray×Bool)):Prop :=rs=[]\/∃b o,a=some ⟨b,o,none⟩/\b<w.heap.size/\∀i,i<rs.length->w.cell? ⟨b,o+i*3,none⟩=some (.string (rs.getD i (empty,empty,false)).1)/\w.cell? ⟨b,o+i*3+1,none⟩=some (.string (rs.getD i (empty,empty,false)).2.1)/\w.cell? ⟨b,o+i*3+2,none⟩=some (.bool (rs.getD i (empty,empty,false)).2.2)
def Chs.I{rs:List (ByteArray×ByteArray×Bool)}(h:Chs w a rs)(hb:Below w.heap.size w w'):Chs w' a rs:=by
 rcases h with h|⟨b,o,h1,h2,h3⟩
 ·exact .inl h
 exact .inr ⟨b,o,h1,AD h2 hb.size,λi hi=>⟨(hb.cell (p:=⟨b,o+i*3,none⟩) h2).j (h3 i hi).1,(hb.cell (p:=⟨b,o+i*3+1,none⟩) h2).j (h3 i hi).2.1,(hb.cell (p:=⟨b,o+i*3+2,none⟩) h2).j (h3 i hi).2.2⟩⟩
def Chs.at{rs:List (ByteArray×ByteArray×Bool)}(h:Chs w a rs)(hk:k<rs.length):∃b o s0 s1 g2,a=some ⟨b,o,none⟩/\w.cell? ⟨b,o+k*3,none⟩=some (.string s0)/\w.cell? ⟨b,o+k*3+1,none⟩=some (.string s1)/\w.cell? ⟨b,o+k*3+2,none⟩=some (.bool g2)/\Hid ((s0,s1,g2)=rs.getD k (empty,empty,false)):=by
 rcases h with h|⟨b,o,h1,h2,h3⟩
 ·subst h;simp at hk
 exact⟨b,o,_,_,_,h1,(h3 k hk).1,(h3 k hk).2.1,(h3 k hk).2.2,LE rfl⟩
def LZ(rs:List (ByteArray×ByteArray×Bool)):List Value:=rs.flatMap λx=>[.string x.1,.string x.2.1,.bool x.2.2]
def xG:LZ []=[]:=rfl
def YI(a b:List (ByteArray×ByteArray×Bool)):LZ (a++b)=LZ a++LZ b:=by simp[LZ]
def cw(rs:List (ByteArray×ByteArray×Bool)):(LZ rs).length=rs.length*3:=by
 induction rs with
 | nil=>rfl
 | cons x r ih=>simp[LZ]at ih⊢;omega
def ea:∀(rs:List (ByteArray×ByteArray×Bool)) (i:Nat),i<rs.length->(LZ rs)[i*3]?=some (.string (rs.getD i (empty,empty,false)).1)/\(LZ rs)[i*3+1]?=some (.string (rs.getD i (empty,empty,false)).2.1)/\(LZ rs)[i*3+2]?=some (.bool (rs.getD i (empty,empty,false)).2.2)
 | x::r,0,_=>by simp[LZ]
 | x::r,i+1,h=>by
  have ih:=ea r i (by simpa using h);have e:LZ (x::r)=.string x.1::.string x.2.1::.bool x.2.2::LZ r:=by simp[LZ]
  rw[e,show(i+1)*3=i*3+3 by omega];simpa using ih
def Row.chs{rs:List (ByteArray×ByteArray×Bool)}(h:Row w g (LZ rs)):Chs w (some ⟨g,0,none⟩) rs :=.inr ⟨g,0,rfl,h.lt,λi hi=>by
  rw[BF]
  exact⟨h.cell _ _ (ea rs i hi).1,h.cell _ _ (ea rs i hi).2.1,h.cell _ _ (ea rs i hi).2.2⟩⟩
def UC(rs:List (ByteArray×ByteArray×Bool))(k:Nat):List Value:=LZ (rs.take k)++LZ (List.replicate (rs.length-k) (empty,empty,false))
def Ix(rs:List (ByteArray×ByteArray×Bool))(k:Nat)(h:k<=rs.length):(UC rs k).length=rs.length*3:=by simp[UC,cw];omega
def s8(rs:List (ByteArray×ByteArray×Bool))(k:Nat)(h:rs.length<=k):UC rs k=LZ rs:=by
 unfold UC;rw[AT h,show rs.length-k=0 by omega];simp[LZ]
def Bh(rs:List (ByteArray×ByteArray×Bool))(k:Nat)(h:k<rs.length):(((UC rs k).set (k*3) (.string (rs.getD k (empty,empty,false)).1)).set (k*3+1) (.string (rs.getD k (empty,empty,false)).2.1)).set (k*3+2) (.bool (rs.getD k (empty,empty,false)).2.2)=UC rs (k+1):=by
 unfold UC;have el:(LZ (rs.take k)).length=k*3:=by rw[cw];simp;omega
 rw[BV _ _ (by omega),BV _ _ (by omega),BV _ _ (by omega),el,show k*3-k*3=0 by omega,show k*3+1-k*3=1 by omega,show k*3+2-k*3=2 by omega,
  show rs.length-k=(rs.length-(k+1))+1 by omega,GQ,AQ h,YI,BG]
 congr 1
 simp[LZ,List.getD,h]
def pC:∀(n:Nat),(madeCells (Value.agg #[.string empty,.string empty,.bool false]).cells (n*3)).toList=LZ (List.replicate n (empty,empty,false))
 | 0=>by simp[madeCells,LZ]
 | n+1=>by
  have ih:=pC n;unfold madeCells at ih⊢;rw[FZ,FT]at ih⊢;rw[show(n+1)*3=n*3+1+1+1 by omega,DR,DR,DR,BK,BK,BK,ih,IN,YI,BG,BG]
  congr 1
  have e0:(n*3) % (Value.agg #[.string empty,.string empty,.bool false]).cells.size=0:=by simp[Value.cells]<;>omega
  have e1:(n*3+1) % (Value.agg #[.string empty,.string empty,.bool false]).cells.size=1:=by simp[Value.cells]<;>omega
  have e2:(n*3+1+1) % (Value.agg #[.string empty,.string empty,.bool false]).cells.size=2:=by simp[Value.cells]<;>omega
  simp only[FD,IU];rw[e0,e1,e2];rfl
def SU(x:ByteArray×ByteArray×Bool):List Nat:=[x.1.size,x.2.1.size]
def NV{a b:Bool}(h:a=b):Ending.returned (.bool a)=.returned (.bool b):=by rw[h]
def OG(k:ByteArray):Bool:=decide (1<=k.size/\k.size<=20)
def NN(k:ByteArray):Bool:=decide (k.size<=100)
def OE(x:ByteArray×ByteArray×Bool):Bool:=OG x.1 && NN x.2.1 && !(x.2.2 && decide (x.2.1.size≠0))
def OA(rs:List (ByteArray×ByteArray×Bool)):Bool:=decide (1<=rs.length/\rs.length<=20) && rs.all OE
def ak{rs:List (ByteArray×ByteArray×Bool)}(h:¬(1<=rs.length/\rs.length<=20)):OA rs=false:=by simp[OA,h]
def ZD{rs:List (ByteArray×ByteArray×Bool)}{x:ByteArray×ByteArray×Bool}(hm:x∈rs)(h:OE x=false):OA rs=false:=by
 have:rs.all OE=false:=FN.2 ⟨x,hm,by simp[h]⟩;simp[OA,this]
def qC{rs:List (ByteArray×ByteArray×Bool)}(h:1<=rs.length/\rs.length<=20)(h1:∀x∈rs,OE x=true):OA rs=true:=by
 simp only[OA,CU,DO,DX];exact⟨h,h1⟩
def VQ{rs:List (ByteArray×ByteArray×Bool)}(h:OA rs=true):(1<=rs.length/\rs.length<=20)/\∀x∈rs,OE x=true:=by
 simp only[OA,CU,DO,DX]at h;exact h
def ZB(s:ByteArray)(w:World)(hs:s.size<=1048576):Calls prog 105 #[.string s] w λe w'=>e=.returned (.bool (OG s))/\w'=w:=by
 unfold OG
 by_cases h1:1<=s.size
 ·by_cases h2:s.size<=20
  ·go_enter func105,ntmps105
   go_wp2;go_ret;exact⟨NV (by simp[h1,h2]<;>omega),rfl⟩
  go_enter func105,ntmps105
  go_wp2;go_ret;exact⟨NV (by simp[h2]<;>omega),rfl⟩
 go_enter func105,ntmps105
 go_wp2;go_ret;exact⟨NV (by simp<;>omega),rfl⟩
def td{k:ByteArray}{g:Bool}(h:OG k=false):OE (k,v,g)=false:=by simp[OE,h]
def xu{k:ByteArray}{g:Bool}(h:NN v=false):OE (k,v,g)=false:=by simp[OE,h]
def qQ{k:ByteArray}(h:v.toList.isEmpty=false):OE (k,v,true)=false:=by
 rw[TH]at h;have:v.size≠0:=by simpa using h
 simp[OE,this]
def wn{k:ByteArray}(h:OG k=true)(h2:NN v=true):OE (k,v,false)=true:=by simp[OE,h,h2]
def zi{k:ByteArray}(h:OG k=true)(h2:NN v=true)(h3:v.toList.isEmpty=true):OE (k,v,true)=true:=by
 rw[TH]at h3;have:v.size=0:=by simpa using h3
 simp[OE,h,h2,this]
def ie{α:Type}{rs:List α}{x d:α}{f:α->Bool}(aA:k<rs.length)(HA:∀y∈rs.take k,f y=true)(HS:x=rs.getD k d)(hx:f x=true):∀y∈rs.take (k+1),f y=true:=by
 intro y hy;rw[AQ aA]at hy;rcases BP.1 hy with hy|hy
 ·exact HA y hy
 simp at hy
 simp[List.getD,aA]at HS;rw[hy,<-HS];exact hx
def io(a:Option Addr)(rs:List (ByteArray×ByteArray×Bool))(c:Nat)(w:World)(h:Chs w a rs)(hl:rs.length<=1048576)(hs:∀x∈rs,x.1.size<=1048576/\x.2.1.size<=1048576):Calls prog 156 #[.slice a rs.length c] w λe w'=>e=.returned (.bool (OA rs))/\Below w.heap.size w w':=by
 obtain⟨R,HR⟩:∃R,Hid (R=OA rs):=⟨_,LE rfl⟩;rw[<-HR.o]
 by_cases hn:1<=(rs.length:Int)
 ·by_cases hp:(rs.length:Int)<=20
  ·go_enter func156,ntmps156
   go_wp2;go_loopw [3] (λi wr=>∃k:Nat,k<=rs.length/\i=.int .i64 k/\Hid (∀x∈rs.take k,OE x=true)/\Below w.heap.size w wr) (λi _=>rs.length-(intOf i).toNat)
   case atStart=>exact⟨0,AH _,rfl,by show ∀s∈rs.take 0,_;simp,AB _ _⟩
   case round =>
    obtain⟨k,hk,rfl,HA,aA⟩:=hrel
    by_cases aC:k<rs.length
    ·obtain⟨b,o,s0,s1,g2,rfl,aG,aH,aI,HS⟩:=(h.I aA).at aC
     have hm:Hid ((s0,s1,g2)∈rs):=by show _∈_;rw[HS.o];simp[List.getD,aC]
     obtain⟨aB,aK⟩:=hs _ hm.o;have aE:(k:Int)<(rs.length:Int):=by omega
     have aJ:(0:Int)<=(k:Int):=by omega
     cases hk1:OG s0 with
     | false =>
      go_wp2_with (go_at_call 105;refine(ZB _ _ aB).i ?_;rw[hk1];rintro e w2 ⟨rfl,rfl⟩);go_ret;exact⟨NV (by rw[HR.o];exact(ZD hm.o (td hk1)).symm),aA⟩
     | true =>
      cases hv1:NN s1 with
      | false =>
       have aF:(100:Int)<(s1.size:Int):=by simp[NN]at hv1;omega
       go_wp2_with (go_at_call 105;refine(ZB _ _ aB).i ?_;rw[hk1];rintro e w2 ⟨rfl,rfl⟩);go_ret;exact⟨NV (by rw[HR.o];exact(ZD hm.o (xu hv1)).symm),aA⟩
      | true =>
       have aF:(s1.size:Int)<=100:=by simp[NN]at hv1;omega
       cases g2 with
       | false =>
        go_wp2_with (go_at_call 105;refine(ZB _ _ aB).i ?_;rw[hk1];rintro e w2 ⟨rfl,rfl⟩);go_roundw
        case rel=>exact⟨k+1,by omega,by go_num,ie aC HA.o HS.o (wn hk1 hv1),aA⟩
        case measure=>simp[intOf];omega
       | true =>
        cases he:s1.toList.isEmpty with
        | false =>
         go_wp2_with (go_at_call 105;refine(ZB _ _ aB).i ?_;rw[hk1];rintro e w2 ⟨rfl,rfl⟩);go_ret;exact⟨NV (by rw[HR.o];exact(ZD hm.o (qQ he)).symm),aA⟩
        | true =>
         go_wp2_with (go_at_call 105;refine(ZB _ _ aB).i ?_;rw[hk1];rintro e w2 ⟨rfl,rfl⟩);go_roundw
         case rel=>exact⟨k+1,by omega,by go_num,ie aC HA.o HS.o (zi hk1 hv1 he),aA⟩
         case measure=>simp[intOf];omega
    have aD:Hid (∀s∈rs,OE s=true):=by have:=HA.o;rwa [AT (by omega)]at this
    clear HA;go_wp2;go_ret;exact⟨NV (by rw[HR.o];exact(qC (by omega) aD.o).symm),aA⟩
  go_enter func156,ntmps156
  go_wp2;go_ret;exact⟨NV (by rw[HR.o];exact(ak (by omega)).symm),AB _ _⟩
 go_enter func156,ntmps156
 go_wp2;go_ret;exact⟨NV (by rw[HR.o];exact(ak (by omega)).symm),AB _ _⟩
def TJ(s:ByteArray)(w:World)(hs:s.size<=1048576):Calls prog 161 #[.string s] w λe w'=>e=.returned (.bool (OG s))/\w'=w:=by
 unfold OG
 by_cases h1:1<=s.size
 ·by_cases h2:s.size<=20
  ·go_enter func161,ntmps161
   go_wp2;go_ret;exact⟨NV (by simp[h1,h2]<;>omega),rfl⟩
  go_enter func161,ntmps161
  go_wp2;go_ret;exact⟨NV (by simp[h2]<;>omega),rfl⟩
 go_enter func161,ntmps161
 go_wp2;go_ret;exact⟨NV (by simp<;>omega),rfl⟩
def VZ(s:ByteArray)(w:World)(hs:s.size<=1048576):Calls prog 162 #[.string s] w λe w'=>e=.returned (.bool (NN s))/\w'=w:=by
 unfold NN;go_enter func162,ntmps162;go_wp2;go_ret;exact⟨NV (by simp<;>omega),rfl⟩
def YY(a:Option Addr)(rs:List (ByteArray×ByteArray×Bool))(c:Nat)(w:World)(h:Chs w a rs)(hl:rs.length<=1048576)(hs:∀x∈rs,x.1.size<=1048576/\x.2.1.size<=1048576):Calls prog 129 #[.slice a rs.length c] w λe w'=>e=.returned (.bool (OA rs))/\Below w.heap.size w w':=by
 obtain⟨R,HR⟩:∃R,Hid (R=OA rs):=⟨_,LE rfl⟩;rw[<-HR.o]
 by_cases hn:1<=(rs.length:Int)
 ·by_cases hp:(rs.length:Int)<=20
  ·go_enter func129,ntmps129
   go_wp2;go_loopw [4,15] (λ_ i wr=>∃k:Nat,k<=rs.length/\i=.int .i64 k/\Hid (∀x∈rs.take k,OE x=true)/\Below w.heap.size w wr) (λ_ i _=>rs.length-(intOf i).toNat)
   case atStart=>exact⟨0,AH _,rfl,by show ∀s∈rs.take 0,_;simp,AB _ _⟩
   case round =>
    obtain⟨k,hk,rfl,HA,aA⟩:=hrel
    by_cases aC:k<rs.length
    ·obtain⟨b,o,s0,s1,g2,rfl,aG,aH,aI,HS⟩:=(h.I aA).at aC
     have hm:Hid ((s0,s1,g2)∈rs):=by show _∈_;rw[HS.o];simp[List.getD,aC]
     obtain⟨aB,aD⟩:=hs _ hm.o;have aF:(k:Int)<(rs.length:Int):=by omega
     have aJ:(0:Int)<=(k:Int):=by omega
     cases hk1:OG s0 with
     | false =>
      go_wp2_with (first|(go_at_call 161;refine(TJ _ _ aB).i ?_;rw[hk1];rintro e w2 ⟨rfl,rfl⟩))
      go_ret;exact⟨NV (by rw[HR.o];exact(ZD hm.o (td hk1)).symm),aA.alloc aA.size _⟩
     | true =>
      cases hv1:NN s1 with
      | false =>
       skip
       go_wp2_with (first|(go_at_call 161;refine(TJ _ _ aB).i ?_;rw[hk1];rintro e w2 ⟨rfl,rfl⟩)|(go_at_call 162;refine(VZ _ _ aD).i ?_;rw[hv1];rintro e w2 ⟨rfl,rfl⟩))
       go_ret;exact⟨NV (by rw[HR.o];exact(ZD hm.o (xu hv1)).symm),aA.alloc aA.size _⟩
      | true =>
       skip
       cases g2 with
       | false =>
        go_wp2_with (first|(go_at_call 161;refine(TJ _ _ aB).i ?_;rw[hk1];rintro e w2 ⟨rfl,rfl⟩)|(go_at_call 162;refine(VZ _ _ aD).i ?_;rw[hv1];rintro e w2 ⟨rfl,rfl⟩))
        go_roundw
        case rel=>exact⟨k+1,by omega,by go_num,ie aC HA.o HS.o (wn hk1 hv1),aA.alloc aA.size _⟩
        case measure=>simp[intOf];omega
       | true =>
        cases he:s1.toList.isEmpty with
        | false =>
         go_wp2_with (first|(go_at_call 161;refine(TJ _ _ aB).i ?_;rw[hk1];rintro e w2 ⟨rfl,rfl⟩)|(go_at_call 162;refine(VZ _ _ aD).i ?_;rw[hv1];rintro e w2 ⟨rfl,rfl⟩))
         go_ret;exact⟨NV (by rw[HR.o];exact(ZD hm.o (qQ he)).symm),aA.alloc aA.size _⟩
        | true =>
         go_wp2_with (first|(go_at_call 161;refine(TJ _ _ aB).i ?_;rw[hk1];rintro e w2 ⟨rfl,rfl⟩)|(go_at_call 162;refine(VZ _ _ aD).i ?_;rw[hv1];rintro e w2 ⟨rfl,rfl⟩))
         go_roundw
         case rel=>exact⟨k+1,by omega,by go_num,ie aC HA.o HS.o (zi hk1 hv1 he),aA.alloc aA.size _⟩
         case measure=>simp[intOf];omega
    have aE:Hid (∀s∈rs,OE s=true):=by have:=HA.o;rwa [AT (by omega)]at this
    clear HA;go_wp2;go_ret;exact⟨NV (by rw[HR.o];exact(qC (by omega) aE.o).symm),aA⟩
  go_enter func129,ntmps129
  go_wp2;go_ret;exact⟨NV (by rw[HR.o];exact(ak (by omega)).symm),AB _ _⟩
 go_enter func129,ntmps129
 go_wp2;go_ret;exact⟨NV (by rw[HR.o];exact(ak (by omega)).symm),AB _ _⟩
section
def XZ(s:ByteArray)(b:Bool)(w:World)(hs:s.size<=1048576)(h:OG s=b):Calls prog 105 #[.string s] w λe w'=>e=.returned (.bool b)/\w'=w:=by
 rw[<-h];exact ZB s w hs
def QR(a b:ByteArray):Bool:=Op.bytesLess a.toList b.toList
def OX(rs:List (ByteArray×ByteArray))(i:Nat):Bool:=OG (rs.getD i (empty,empty)).1 && NN (rs.getD i (empty,empty)).2 && (decide (i=0) || QR (rs.getD (i-1) (empty,empty)).1 (rs.getD i (empty,empty)).1)
def MA(rs:List (ByteArray×ByteArray)):Bool:=decide (rs.length<=100) && (List.range rs.length).all (OX rs)
def pY(h:¬(rs.length<=100)):MA rs=false:=by simp[MA,h]
def VC(hk:k<rs.length)(h:OX rs k=false):MA rs=false:=by
 have:(List.range rs.length).all (OX rs)=false:=FN.2 ⟨k,GS.2 hk,by simp[h]⟩;simp[MA,this]
def np(h:rs.length<=100)(h1:∀k,k<rs.length->OX rs k=true):MA rs=true:=by
 simp only[MA,CU,DO,DX];exact⟨h,λk hk=>h1 k (GS.1 hk)⟩
def XH(h:MA rs=true):rs.length<=100/\∀k,k<rs.length->OX rs k=true:=by
 simp only[MA,CU,DO,DX]at h;exact⟨h.1,λk hk=>h.2 k (GS.2 hk)⟩
section
variable {rs:List (ByteArray×ByteArray)} {k j:Nat} {s0 s1 t0 t1:ByteArray}
def em(hS:(s0,s1)=rs.getD k (empty,empty))(h:OG s0=false):OX rs k=false:=by unfold OX;rw[<-hS];simp[h]
def iz(hS:(s0,s1)=rs.getD k (empty,empty))(h:NN s1=false):OX rs k=false:=by unfold OX;rw[<-hS];simp[h]
def pR(hS:(s0,s1)=rs.getD k (empty,empty))(hT:(t0,t1)=rs.getD j (empty,empty))(hj:k=j+1)(h:Op.bytesLess t0.toList s0.toList=false):OX rs k=false:=by
 unfold OX QR;rw[<-hS];subst hj;rw[KD,<-hT];simp[h]
def zw(hS:(s0,s1)=rs.getD k (empty,empty))(hk:k=0)(h:OG s0=true)(h2:NN s1=true):OX rs k=true:=by subst hk;unfold OX;rw[<-hS];simp[h,h2]
def zx(hS:(s0,s1)=rs.getD k (empty,empty))(hT:(t0,t1)=rs.getD j (empty,empty))(hj:k=j+1)(h:OG s0=true)(h2:NN s1=true)(h3:Op.bytesLess t0.toList s0.toList=true):OX rs k=true:=by
 unfold OX QR;rw[<-hS];subst hj;rw[KD,<-hT];simp[h,h2,h3]
def dw(HA:∀i,i<k->OX rs i=true)(h:OX rs k=true):∀i,i<k+1->OX rs i=true:=by
 intro i hi;rcases GN i k with h1|h1
 ·exact HA i h1
 have:i=k:=by omega
 subst this;exact h
end
def it(a:Option Addr)(rs:List (ByteArray×ByteArray))(c:Nat)(w:World)(h:Prs w a rs)(hl:rs.length<=1048576)(hs:∀x∈rs,x.1.size<=1048576/\x.2.size<=1048576):Calls prog 62 #[.agg #[.slice a rs.length c]] w λe w'=>e=.returned (.bool (MA rs))/\Below w.heap.size w w':=by
 have aB:∀o,Below w.heap.size w (w.alloc o):=λo=>LG _ _
 obtain⟨R,HR⟩:∃R,Hid (R=MA rs):=⟨_,LE rfl⟩;rw[<-HR.o]
 by_cases hp:(rs.length:Int)<=100
 ·go_enter func62,ntmps62
  go_wp2;go_loopw [3] (λi wr=>∃k:Nat,k<=rs.length/\i=.int .i64 k/\Hid (∀i,i<k->OX rs i=true)/\Below (w.heap.size+1) (w.alloc (.cells #[.slice a rs.length c] 48)) wr) (λi _=>rs.length-(intOf i).toNat)
  case atStart=>exact⟨0,AH _,rfl,λi hi=>by omega,AB _ _⟩
  case round =>
   obtain⟨k,hk,rfl,HA,aA⟩:=hrel;have aG:Below w.heap.size w wr:=(aB _).j (aA.i (by omega));have q0:wr.cell? ⟨w.heap.size,0,none⟩=some (.slice a rs.length c):=(aA.cell (p:=⟨w.heap.size,0,none⟩) (by show w.heap.size<_;omega)).j (by go_simp);have aW:w.heap.size+1<=wr.heap.size:=by have:=aA.size;simpa using this
   by_cases aC:k<rs.length
   ·obtain⟨b,o,s0,s1,rfl,aP,aQ,HS⟩:=(h.I aG).at aC
    have hm:Hid ((s0,s1)∈rs):=by show _∈_;rw[HS.o];simp[List.getD,aC]
    obtain⟨aD,aY⟩:=hs _ hm.o;have aO:(k:Int)<(rs.length:Int):=by omega
    rcases GD k with aH|aH
    ·have aV:decide ((0:Int)<(k:Int))=false:=by simp;omega
     have aN:decide (0<k)=false:=by simp;omega
     have aI:(0:Int)<=(k:Int):=by omega
     have HK:=LE aH;clear aH
     cases hk1:OG s0 with
     | false =>
      go_wp2_with fail;go_quiet ((go_at_call 105;exact Calls.quiet_of_same (XZ _ _ _ aD hk1)));go_wp2;go_ret;exact⟨NV (by rw[HR.o];exact(VC aC (em HS.o hk1)).symm),(aB _).j ((below_drewN aA _).i (by omega))⟩
     | true =>
      cases hv1:NN s1 with
      | false =>
       have aK:decide (100<(s1.size:Int))=true:=by simp[NN]at hv1;simp;omega
       go_wp2_with fail;go_quiet ((go_at_call 105;exact Calls.quiet_of_same (XZ _ _ _ aD hk1)));go_wp2;go_ret;exact⟨NV (by rw[HR.o];exact(VC aC (iz HS.o hv1)).symm),(aB _).j ((below_drewN aA _).i (by omega))⟩
      | true =>
       have aK:decide (100<(s1.size:Int))=false:=by simp[NN]at hv1;simp;omega
       go_wp2_with fail;go_quiet ((go_at_call 105;exact Calls.quiet_of_same (XZ _ _ _ aD hk1)));go_wp2;go_roundw
       case rel=>exact⟨_,by omega,by go_num,dw HA.o (zw HS.o HK.o hk1 hv1),below_drewN aA _⟩
       case measure=>simp[intOf];omega
    obtain⟨j,hj⟩:∃j,k=j+1:=⟨k-1,by omega⟩
    have aU:(k:Int)-1=(j:Int):=by omega
    have aS:(0:Int)<=(j:Int):=by omega
    have aI:(0:Int)<=(k:Int):=by omega
    have aM:(0:Int)<(k:Int):=by omega
    have aX:IntKind.i64.wrap (j:Int)=(j:Int):=by simp[IntKind.wrap,IntKind.bits,IntKind.signed];omega
    have aT:(j:Int)<(rs.length:Int):=by omega
    obtain⟨b',o',t0,t1,he,aL,aR,HT⟩:=(h.I aG).at (show j<rs.length by omega)
    cases he
    have HJ:=LE hj;clear hj
    have aF:∀ob,Below wr.heap.size wr (wr.alloc ob):=λob=>LG _ _
    have lb:b<wr.heap.size:=by have:=BE wr _ aL;simpa using this
    have qa:=((aF (.cells #[.string s0,.string s1] 162)).cell (p:=⟨w.heap.size,0,none⟩) (by show w.heap.size<_;omega)).j q0;have qb:=((aF (.cells #[.string s0,.string s1] 162)).cell (p:=⟨b,o+j*2,none⟩) lb).j aL;clear aF lb
    cases hk1:OG s0 with
    | false =>
     go_wp2_with fail;go_quiet ((go_at_call 105;exact Calls.quiet_of_same (XZ _ _ _ aD hk1)));go_wp2;go_ret;exact⟨NV (by rw[HR.o];exact(VC aC (em HS.o hk1)).symm),(aB _).j ((below_drewN aA _).i (by omega))⟩
    | true =>
     cases hv1:NN s1 with
     | false =>
      have aK:decide (100<(s1.size:Int))=true:=by simp[NN]at hv1;simp;omega
      go_wp2_with fail;go_quiet ((go_at_call 105;exact Calls.quiet_of_same (XZ _ _ _ aD hk1)));go_wp2;go_ret;exact⟨NV (by rw[HR.o];exact(VC aC (iz HS.o hv1)).symm),(aB _).j ((below_drewN aA _).i (by omega))⟩
     | true =>
      have aK:decide (100<(s1.size:Int))=false:=by simp[NN]at hv1;simp;omega
      cases hlt3:Op.bytesLess t0.toList s0.toList with
      | false =>
       have aJ:(!Op.bytesLess t0.toList s0.toList)=true:=by simp[hlt3]
       go_wp2_with fail;go_quiet ((go_at_call 105;exact Calls.quiet_of_same (XZ _ _ _ aD hk1)));go_wp2;go_ret;exact⟨NV (by rw[HR.o];exact(VC aC (pR HS.o HT.o HJ.o hlt3)).symm),(aB _).j ((below_drewN aA _).i (by omega))⟩
      | true =>
       have aJ:(!Op.bytesLess t0.toList s0.toList)=false:=by simp[hlt3]
       go_wp2_with fail;go_quiet ((go_at_call 105;exact Calls.quiet_of_same (XZ _ _ _ aD hk1)));go_wp2;go_roundw
       case rel=>exact⟨_,by omega,by go_num,dw HA.o (zx HS.o HT.o HJ.o hk1 hv1 hlt3),below_drewN aA _⟩
       case measure=>simp[intOf];omega
   have aE:Hid (∀i,i<rs.length->OX rs i=true):=λi hi=>HA.o i (by omega)
   clear HA;go_wp2;go_ret;exact⟨NV (by rw[HR.o];exact(np (by omega) aE.o).symm),aG⟩
 go_enter func62,ntmps62
 go_wp2;go_ret;exact⟨NV (by rw[HR.o];exact(pY (by omega)).symm),aB _⟩
def ig(a:Option Addr)(rs:List (ByteArray×ByteArray))(c:Nat)(w:World)(h:Prs w a rs)(hl:rs.length<=1048576)(hs:∀x∈rs,x.1.size<=1048576/\x.2.size<=1048576):Calls prog 118 #[.agg #[.slice a rs.length c]] w λe w'=>e=.returned (.bool (MA rs))/\Below w.heap.size w w':=by
 have aB:∀o,Below w.heap.size w (w.alloc o):=λo=>LG _ _
 obtain⟨R,HR⟩:∃R,Hid (R=MA rs):=⟨_,LE rfl⟩;rw[<-HR.o]
 by_cases hp:(rs.length:Int)<=100
 ·go_enter func118,ntmps118
  go_wp2;go_loopw [3,4,12] (λ_ _ i wr=>∃k:Nat,k<=rs.length/\i=.int .i64 k/\Hid (∀i,i<k->OX rs i=true)/\Below (w.heap.size+1) (w.alloc (.cells #[.slice a rs.length c] 48)) wr) (λ_ _ i _=>rs.length-(intOf i).toNat)
  case atStart=>exact⟨0,AH _,rfl,λi hi=>by omega,AB _ _⟩
  case round =>
   obtain⟨k,hk,rfl,HA,aA⟩:=hrel;have aI:Below w.heap.size w wr:=(aB _).j (aA.i (by omega));have q0:wr.cell? ⟨w.heap.size,0,none⟩=some (.slice a rs.length c):=(aA.cell (p:=⟨w.heap.size,0,none⟩) (by show w.heap.size<_;omega)).j (by go_simp);have aD:w.heap.size+1<=wr.heap.size:=by have:=aA.size;simpa using this
   by_cases aC:k<rs.length
   ·obtain⟨b,o,s0,s1,rfl,aR,aS,HS⟩:=(h.I aI).at aC
    have hm:Hid ((s0,s1)∈rs):=by show _∈_;rw[HS.o];simp[List.getD,aC]
    obtain⟨aE,aF⟩:=hs _ hm.o;have aQ:(k:Int)<(rs.length:Int):=by omega
    rcases GD k with aJ|aJ
    ·have aX:decide ((0:Int)<(k:Int))=false:=by simp;omega
     have aP:decide (0<k)=false:=by simp;omega
     have aK:(0:Int)<=(k:Int):=by omega
     have HK:=LE aJ;clear aJ
     cases hk1:OG s0 with
     | false =>
      go_wp2_with (first|(go_at_call 161;refine(TJ _ _ aE).i ?_;rw[hk1];rintro e w2 ⟨rfl,rfl⟩))
      go_ret;exact⟨NV (by rw[HR.o];exact(VC aC (em HS.o hk1)).symm),(aB _).j ((aA.alloc aD _).i (by omega))⟩
     | true =>
      cases hv1:NN s1 with
      | false =>
       have aM:decide (100<(s1.size:Int))=true:=by simp[NN]at hv1;simp;omega
       go_wp2_with (first|(go_at_call 161;refine(TJ _ _ aE).i ?_;rw[hk1];rintro e w2 ⟨rfl,rfl⟩)|(go_at_call 162;refine(VZ _ _ aF).i ?_;rw[hv1];rintro e w2 ⟨rfl,rfl⟩))
       go_ret;exact⟨NV (by rw[HR.o];exact(VC aC (iz HS.o hv1)).symm),(aB _).j ((aA.alloc aD _).i (by omega))⟩
      | true =>
       have aM:decide (100<(s1.size:Int))=false:=by simp[NN]at hv1;simp;omega
       go_wp2_with (first|(go_at_call 161;refine(TJ _ _ aE).i ?_;rw[hk1];rintro e w2 ⟨rfl,rfl⟩)|(go_at_call 162;refine(VZ _ _ aF).i ?_;rw[hv1];rintro e w2 ⟨rfl,rfl⟩))
       go_quiet (fail);go_wp2;go_roundw
       case rel=>exact⟨_,by omega,by go_num,dw HA.o (zw HS.o HK.o hk1 hv1),below_drewN (aA.alloc aD _) _⟩
       case measure=>simp[intOf];omega
    obtain⟨j,hj⟩:∃j,k=j+1:=⟨k-1,by omega⟩
    have aW:(k:Int)-1=(j:Int):=by omega
    have aU:(0:Int)<=(j:Int):=by omega
    have aK:(0:Int)<=(k:Int):=by omega
    have aO:(0:Int)<(k:Int):=by omega
    have aY:IntKind.i64.wrap (j:Int)=(j:Int):=by simp[IntKind.wrap,IntKind.bits,IntKind.signed];omega
    have aV:(j:Int)<(rs.length:Int):=by omega
    obtain⟨b',o',t0,t1,he,aN,aT,HT⟩:=(h.I aI).at (show j<rs.length by omega)
    cases he
    have HJ:=LE hj;clear hj
    have aH:∀ob,Below wr.heap.size wr (wr.alloc ob):=λob=>LG _ _
    have lb:b<wr.heap.size:=by have:=BE wr _ aN;simpa using this
    have qa:=((aH (.cells #[.string s0,.string s1] 162)).cell (p:=⟨w.heap.size,0,none⟩) (by show w.heap.size<_;omega)).j q0;have qb:=((aH (.cells #[.string s0,.string s1] 162)).cell (p:=⟨b,o+j*2,none⟩) lb).j aN;clear aH lb
    cases hk1:OG s0 with
    | false =>
     go_wp2_with (first|(go_at_call 161;refine(TJ _ _ aE).i ?_;rw[hk1];rintro e w2 ⟨rfl,rfl⟩))
     go_ret;exact⟨NV (by rw[HR.o];exact(VC aC (em HS.o hk1)).symm),(aB _).j ((aA.alloc aD _).i (by omega))⟩
    | true =>
     cases hv1:NN s1 with
     | false =>
      have aM:decide (100<(s1.size:Int))=true:=by simp[NN]at hv1;simp;omega
      go_wp2_with (first|(go_at_call 161;refine(TJ _ _ aE).i ?_;rw[hk1];rintro e w2 ⟨rfl,rfl⟩)|(go_at_call 162;refine(VZ _ _ aF).i ?_;rw[hv1];rintro e w2 ⟨rfl,rfl⟩))
      go_ret;exact⟨NV (by rw[HR.o];exact(VC aC (iz HS.o hv1)).symm),(aB _).j ((aA.alloc aD _).i (by omega))⟩
     | true =>
      have aM:decide (100<(s1.size:Int))=false:=by simp[NN]at hv1;simp;omega
      cases hlt3:Op.bytesLess t0.toList s0.toList with
      | false =>
       have aL:(!Op.bytesLess t0.toList s0.toList)=true:=by simp[hlt3]
       go_wp2_with (first|(go_at_call 161;refine(TJ _ _ aE).i ?_;rw[hk1];rintro e w2 ⟨rfl,rfl⟩)|(go_at_call 162;refine(VZ _ _ aF).i ?_;rw[hv1];rintro e w2 ⟨rfl,rfl⟩))
       go_quiet (fail);go_wp2;go_ret;exact⟨NV (by rw[HR.o];exact(VC aC (pR HS.o HT.o HJ.o hlt3)).symm),(aB _).j ((below_drewN (aA.alloc aD _) _).i (by omega))⟩
      | true =>
       have aL:(!Op.bytesLess t0.toList s0.toList)=false:=by simp[hlt3]
       go_wp2_with (first|(go_at_call 161;refine(TJ _ _ aE).i ?_;rw[hk1];rintro e w2 ⟨rfl,rfl⟩)|(go_at_call 162;refine(VZ _ _ aF).i ?_;rw[hv1];rintro e w2 ⟨rfl,rfl⟩))
       go_quiet (fail);go_wp2;go_roundw
       case rel=>exact⟨_,by omega,by go_num,dw HA.o (zx HS.o HT.o HJ.o hk1 hv1 hlt3),below_drewN (aA.alloc aD _) _⟩
       case measure=>simp[intOf];omega
   have aG:Hid (∀i,i<rs.length->OX rs i=true):=λi hi=>HA.o i (by omega)
   clear HA;go_wp2;go_ret;exact⟨NV (by rw[HR.o];exact(np (by omega) aG.o).symm),aI⟩
 go_enter func118,ntmps118
 go_wp2;go_ret;exact⟨NV (by rw[HR.o];exact(pY (by omega)).symm),aB _⟩
end
section
def LY{v:Value}(h:w.ownsRow base e size v n xs)(hb:Below w.heap.size w w'):w'.ownsRow base e size v n xs:=by
 refine⟨h.1,?_⟩;rcases h.2 with h0|⟨g,cap,cur,h1,h2,h3,h4⟩
 ·exact .inl h0
 refine .inr ⟨g,cap,cur,h1,h2,?_,h4⟩
 have aA:g<w.heap.size:=by
  rcases GN g w.heap.size with h|h
  ·exact h
  rw[DW h]at h3;cases h3
 rw[hb.block g aA];exact h3
def RW(h:w.ownsRow base e size (.slice (some ⟨g,0,none⟩) n cap) n xs):Row w g xs:=by
 have hl:=(h.lt g rfl).2;refine⟨hl,λi v hv=>?_,λi hi=>?_⟩
 ·have:=h.cells (g:=g) rfl i v hv
  have ha:(⟨g,0,none⟩:Addr).add i=⟨g,i,none⟩:=by unfold Addr.add;split<;>simp_all
  rwa [ha]at this
 rcases h.2 with ⟨h0,_⟩|⟨g',aA,cur,h1,_,h3,_⟩
 ·cases h0
 simp at h1
 rw[<-h1.1]at h3;simp[World.frozen?,h3]
def jc{t:TypeId}{s:Nat}{m c:Nat}(h:w.ownsRow base t s (.slice a n c) m xs):m<=c:=by
 rcases h.2 with ⟨h1,h2⟩|⟨g,cap,cur,h1,_,_,h2,_⟩
 ·omega
 injection h1 with _ _ e;omega
def MM{v:Value}(h:w.ownsRow base e size v n xs):(v=.slice none 0 0/\n=0)\/∃g cap,v=.slice (some ⟨g,0,none⟩) n cap/\base<=g/\g<w.heap.size/\Row w g xs:=by
 rcases h.2 with h0|⟨g,cap,cur,h1,h2,h3,h4⟩
 ·exact .inl h0
 subst h1
 exact .inr ⟨g,cap,rfl,h2,(h.lt g rfl).2,RW h⟩
structure Dsk(W w:World)(R D base:Nat)(e e':TypeId)(v v':Value)(ss:List ByteArray)(ws:List (Int×ByteArray)):Prop where
 hR:W.heap.size<=R
 hR':R<base
 hD:W.heap.size<=D
 hD':D<base
 ne:R≠D
 sz:base<=w.heap.size
 bel:Below W.heap.size W w
 r0:w.cell? ⟨R,0,none⟩=some (.slice none 0 0)
 r1:w.cell? ⟨R,1,none⟩=some (.slice none 0 0)
 fr0:w.frozen? ⟨R,0,none⟩=false
 fr1:w.frozen? ⟨R,1,none⟩=false
 d0:w.cell? ⟨D,0,none⟩=some v
 d1:w.cell? ⟨D,1,none⟩=some v'
 fd0:w.frozen? ⟨D,0,none⟩=false
 fd1:w.frozen? ⟨D,1,none⟩=false
 own:w.ownsRow base e 1 v ss.length (ss.map Value.string)
 own':w.ownsRow base e' 2 v' ws.length (LU ws)
 apart:v.ownBlock=none\/v'.ownBlock=none\/v.ownBlock≠v'.ownBlock
section
variable {W w w':World} {R D base:Nat} {e e':TypeId} {v v':Value} {ss:List ByteArray} {ws:List (Int×ByteArray)}
def Dsk.I(h:Dsk W w R D base e e' v v' ss ws)(hb:Below w.heap.size w w'):Dsk W w' R D base e e' v v' ss ws :=have lR:R<w.heap.size:=AD h.hR' h.sz;have lD:D<w.heap.size:=AD h.hD' h.sz;have lW:W.heap.size<=w.heap.size:=h.bel.size
 ⟨h.hR,h.hR',h.hD,h.hD',h.ne,AL h.sz hb.size,h.bel.j (hb.i lW),(hb.cell (p:=⟨R,0,none⟩) lR).j h.r0,(hb.cell (p:=⟨R,1,none⟩) lR).j h.r1,(hb.frozen (p:=⟨R,0,none⟩) lR).j h.fr0,(hb.frozen (p:=⟨R,1,none⟩) lR).j h.fr1,
  (hb.cell (p:=⟨D,0,none⟩) lD).j h.d0,(hb.cell (p:=⟨D,1,none⟩) lD).j h.d1,(hb.frozen (p:=⟨D,0,none⟩) lD).j h.fd0,(hb.frozen (p:=⟨D,1,none⟩) lD).j h.fd1,LY h.own hb,LY h.own' hb,h.apart⟩
def Dsk.drew(h:Dsk W w R D base e e' v v' ss ws):Dsk W w.drew R D base e e' v v' ss ws:=h.I ((AB _ _).drew)
def Dsk.alloc(h:Dsk W w R D base e e' v v' ss ws)(o:Obj):Dsk W (w.alloc o) R D base e e' v v' ss ws:=h.I (LG _ _)
def Dsk.push(h:Dsk W w R D base e e' v v' ss ws){H:Nat}{s:ByteArray}(aA:w1.ownsRow base e 1 (.slice (some ⟨g,0,none⟩) (ss.length+1) cap) (ss.length+1) (ss.map Value.string++[.string s]))(hg:w.grownBy w1 v.ownBlock)(aC:v.ownBlock=some g\/g=H)(hH:w.heap.size=H):Dsk W (w1.setCell ⟨D,0,none⟩ (.slice (some ⟨g,0,none⟩) (ss.length+1) cap)) R D base e e' (.slice (some ⟨g,0,none⟩) (ss.length+1) cap) v' (ss++[s]) ws:=by
 have lR:R<w.heap.size:=AD h.hR' h.sz;have lD:D<w.heap.size:=AD h.hD' h.sz;have lW:W.heap.size<=w.heap.size:=h.bel.size
 have nb:∀k,k<base->some k≠v.ownBlock:=λk hk he=>by have:=(h.own.lt k he.symm).1;omega
 have cR:∀i,w1.cell? ⟨R,i,none⟩=w.cell? ⟨R,i,none⟩:=λi=>hg.cell_far ⟨R,i,none⟩ lR (nb R h.hR')
 have cD:∀i,w1.cell? ⟨D,i,none⟩=w.cell? ⟨D,i,none⟩:=λi=>hg.cell_far ⟨D,i,none⟩ lD (nb D h.hD')
 have fR:∀i,w1.frozen? ⟨R,i,none⟩=w.frozen? ⟨R,i,none⟩:=λi=>hg.frozen_far ⟨R,i,none⟩ lR (nb R h.hR')
 have fD:∀i,w1.frozen? ⟨D,i,none⟩=w.frozen? ⟨D,i,none⟩:=λi=>hg.frozen_far ⟨D,i,none⟩ lD (nb D h.hD')
 have gb:base<=g:=(aA.lt g rfl).1;have aB:Below W.heap.size W w1:=h.bel.j ⟨hg.os,hg.tape,hg.output,hg.size,λk hk=>hg.block k (by omega) (nb k (by have:=h.hR;have:=h.hR';omega))⟩
 have ap:v'.ownBlock=none\/(Value.slice (some ⟨g,0,none⟩) (ss.length+1) cap).ownBlock≠v'.ownBlock:=by
  cases hv':v'.ownBlock with
  | none=>exact .inl rfl
  | some g' =>
   refine .inr λhe=>?_
   have aD:g=g':=by simpa[Value.ownBlock] using he
   have aE:=(h.own'.lt g' hv').2;rcases aC with h1|h1
   ·rcases h.apart with h2|h2|h2
    ·rw[h1]at h2;cases h2
    ·rw[hv']at h2;cases h2
    rw[h1,hv',aD]at h2;exact h2 rfl
   omega
 refine⟨h.hR,h.hR',h.hD,h.hD',h.ne,?_,aB.setCell h.hD _,?_,?_,?_,?_,?_,?_,?_,?_,?_,?_,?_⟩
 ·have:=hg.size;have:=h.sz;simp only[AV];omega
 ·rw[BW (w:=w1) (h:=show(⟨D,0,none⟩:Addr)≠⟨R,0,none⟩ fromλhe=>h.ne (by injection he with h1;exact h1.symm)),cR];exact h.r0
 ·rw[BW (w:=w1) (h:=show(⟨D,0,none⟩:Addr)≠⟨R,1,none⟩ fromλhe=>h.ne (by injection he with h1;exact h1.symm)),cR];exact h.r1
 ·rw[BL,fR];exact h.fr0
 ·rw[BL,fR];exact h.fr1
 ·exact FG w1 _ _ ((cD 0).j h.d0)
 ·rw[BW (w:=w1) (h:=show(⟨D,0,none⟩:Addr)≠⟨D,1,none⟩ by simp),cD];exact h.d1
 ·rw[BL,fD];exact h.fd0
 ·rw[BL,fD];exact h.fd1
 ·have:=DJ aA (a:=⟨D,0,none⟩) h.hD' (.slice (some ⟨g,0,none⟩) (ss.length+1) cap)
  simpa using this
 ·have k1:w1.ownsRow base e' 2 v' ws.length (LU ws):=h.own'.kept hg (by
   rcases h.apart with h2|h2|h2
   ·cases hv':v'.ownBlock with
    | none=>exact .inl rfl
    | some _=>rw[h2];exact .inr (by simp)
   ·exact .inl h2
   ·exact .inr (λhe=>h2 he.symm))
  exact DJ k1 (a:=⟨D,0,none⟩) h.hD' _
 exact .inr ap
def Dsk.push2(h:Dsk W w R D base e e' v v' ss ws){H:Nat}{x:Int×ByteArray}(aA:w1.ownsRow base e' 2 (.slice (some ⟨g,0,none⟩) (ws.length+1) cap) (ws.length+1) (LU ws++[.int .i64 x.1,.string x.2]))(hg:w.grownBy w1 v'.ownBlock)(aC:v'.ownBlock=some g\/g=H)(hH:w.heap.size=H):Dsk W (w1.setCell ⟨D,1,none⟩ (.slice (some ⟨g,0,none⟩) (ws.length+1) cap)) R D base e e' v (.slice (some ⟨g,0,none⟩) (ws.length+1) cap) ss (ws++[x]):=by
 have lR:R<w.heap.size:=AD h.hR' h.sz;have lD:D<w.heap.size:=AD h.hD' h.sz;have lW:W.heap.size<=w.heap.size:=h.bel.size
 have nb:∀k,k<base->some k≠v'.ownBlock:=λk hk he=>by have:=(h.own'.lt k he.symm).1;omega
 have cR:∀i,w1.cell? ⟨R,i,none⟩=w.cell? ⟨R,i,none⟩:=λi=>hg.cell_far ⟨R,i,none⟩ lR (nb R h.hR')
 have cD:∀i,w1.cell? ⟨D,i,none⟩=w.cell? ⟨D,i,none⟩:=λi=>hg.cell_far ⟨D,i,none⟩ lD (nb D h.hD')
 have fR:∀i,w1.frozen? ⟨R,i,none⟩=w.frozen? ⟨R,i,none⟩:=λi=>hg.frozen_far ⟨R,i,none⟩ lR (nb R h.hR')
 have fD:∀i,w1.frozen? ⟨D,i,none⟩=w.frozen? ⟨D,i,none⟩:=λi=>hg.frozen_far ⟨D,i,none⟩ lD (nb D h.hD')
 have gb:base<=g:=(aA.lt g rfl).1;have aB:Below W.heap.size W w1:=h.bel.j ⟨hg.os,hg.tape,hg.output,hg.size,λk hk=>hg.block k (by omega) (nb k (by have:=h.hR;have:=h.hR';omega))⟩
 have ap:v.ownBlock=none\/v.ownBlock≠(Value.slice (some ⟨g,0,none⟩) (ws.length+1) cap).ownBlock:=by
  cases hv:v.ownBlock with
  | none=>exact .inl rfl
  | some g' =>
   refine .inr λhe=>?_
   have aD:g'=g:=by simpa[Value.ownBlock] using he
   have aE:=(h.own.lt g' hv).2;rcases aC with h1|h1
   ·rcases h.apart with h2|h2|h2
    ·rw[hv]at h2;cases h2
    ·rw[h1]at h2;cases h2
    rw[h1,hv,aD]at h2;exact h2 rfl
   omega
 refine⟨h.hR,h.hR',h.hD,h.hD',h.ne,?_,aB.setCell h.hD _,?_,?_,?_,?_,?_,?_,?_,?_,?_,?_,?_⟩
 ·have:=hg.size;have:=h.sz;simp only[AV];omega
 ·rw[BW (w:=w1) (h:=show(⟨D,1,none⟩:Addr)≠⟨R,0,none⟩ fromλhe=>h.ne (by injection he with h1;exact h1.symm)),cR];exact h.r0
 ·rw[BW (w:=w1) (h:=show(⟨D,1,none⟩:Addr)≠⟨R,1,none⟩ fromλhe=>h.ne (by injection he with h1;exact h1.symm)),cR];exact h.r1
 ·rw[BL,fR];exact h.fr0
 ·rw[BL,fR];exact h.fr1
 ·rw[BW (w:=w1) (h:=show(⟨D,1,none⟩:Addr)≠⟨D,0,none⟩ by simp),cD];exact h.d0
 ·exact FG w1 _ _ ((cD 1).j h.d1)
 ·rw[BL,fD];exact h.fd0
 ·rw[BL,fD];exact h.fd1
 ·have k1:w1.ownsRow base e 1 v ss.length (ss.map Value.string):=h.own.kept hg (by
   rcases h.apart with h2|h2|h2
   ·exact .inl h2
   ·cases hv:v.ownBlock with
    | none=>exact .inl rfl
    | some _=>rw[h2];exact .inr (by simp)
   ·exact .inr h2)
  exact DJ k1 (a:=⟨D,1,none⟩) h.hD' _
 ·have:=DJ aA (a:=⟨D,1,none⟩) h.hD' (.slice (some ⟨g,0,none⟩) (ws.length+1) cap)
  rw[AF,YV];exact this
 rcases ap with h1|h1
 ·exact .inl h1
 exact .inr (.inr h1)
def Dsk.z(h:Dsk W w R D base e e' v v' ss ws)(hg:w.grownBy w1 v.ownBlock):w1.cell? ⟨D,0,none⟩=some v/\w1.frozen? ⟨D,0,none⟩=false:=by
 have lD:D<w.heap.size:=AD h.hD' h.sz
 have nb:some D≠v.ownBlock:=λhe=>by have:=(h.own.lt D he.symm).1;have:=h.hD';omega
 exact⟨(hg.cell_far ⟨D,0,none⟩ lD nb).j h.d0,(hg.frozen_far ⟨D,0,none⟩ lD nb).j h.fd0⟩
def Dsk.grown2(h:Dsk W w R D base e e' v v' ss ws)(hg:w.grownBy w1 v'.ownBlock):w1.cell? ⟨D,1,none⟩=some v'/\w1.frozen? ⟨D,1,none⟩=false:=by
 have lD:D<w.heap.size:=AD h.hD' h.sz
 have nb:some D≠v'.ownBlock:=λhe=>by have:=(h.own'.lt D he.symm).1;have:=h.hD';omega
 exact⟨(hg.cell_far ⟨D,1,none⟩ lD nb).j h.d1,(hg.frozen_far ⟨D,1,none⟩ lD nb).j h.fd1⟩
end
end
def MZ(x:ByteArray×ByteArray×Bool):List Int:=if x.2.2 then [1]++([(x.1.size:Int)]++LF x.1) else [0]++([(x.1.size:Int)]++LF x.1)++([(x.2.1.size:Int)]++LF x.2.1)
def RA(rs:List (ByteArray×ByteArray×Bool)):ByteArray:=strOfNums (rs.flatMap MZ)
def Fe:RA []=empty:=rfl
def wD(k v:ByteArray):strOfNums [0]++(strOfNums [(k.size:Int)]++k)++(strOfNums [(v.size:Int)]++v)=strOfNums (MZ (k,v,false)):=by
 show _=strOfNums ([0]++([(k.size:Int)]++LF k)++([(v.size:Int)]++LF v));rw[RG,RG,RG,RG,SJ,SJ]
def zM(k v:ByteArray):strOfNums [1]++(strOfNums [(k.size:Int)]++k)=strOfNums (MZ (k,v,true)):=by
 show _=strOfNums ([1]++([(k.size:Int)]++LF k));rw[RG,RG,SJ]
def yX(rs:List (ByteArray×ByteArray×Bool))(k:Nat)(x:ByteArray×ByteArray×Bool)(d:ByteArray×ByteArray×Bool)(h:k<rs.length)(hx:x=rs.getD k d):RA (rs.take (k+1))=RA (rs.take k)++strOfNums (MZ x):=by
 unfold RA;rw[AQ h,List.flatMap_append,RG];simp[List.getD,h]at hx;rw[hx];simp
def sf(x:ByteArray×ByteArray×Bool)(h:OE x=true):(strOfNums (MZ x)).size<=123:=by
 rw[BS];unfold OE OG NN at h;simp only[CU,DO]at h;unfold MZ
 split
 ·simp[ML];omega
 simp[ML];omega
def kj(rs:List (ByteArray×ByteArray×Bool))(h:∀x∈rs,OE x=true):(RA rs).size<=123*rs.length:=by
 induction rs with
 | nil=>simp[Fe]
 | cons x r ih =>
  have h1:=ih (λy hy=>h y (BQ _ hy));have h2:=sf x (h x (DZ));have e:RA (x::r)=strOfNums (MZ x)++RA r:=by unfold RA;rw[GL,RG]
  rw[e,DI,BY];omega
def LX(rs:List (ByteArray×ByteArray×Bool)):ByteArray:=if OA rs=true then RA rs else empty
