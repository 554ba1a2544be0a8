import Derived.Laws.BytesArg
import Derived.WalkKit
import Derived.OrdersHeld
import Derived.Deep.RegionHeld
import Derived.Laws.MakeOwn
import Derived.WalkSmall
import Derived.Deep.Draws
import Derived.Deep.AppendLies
import Derived.WalkSpells
import Derived.WalkLawsBesides
import Derived.Outline
import Derived.BigQuiet
import Derived.Deep.QuietTactic
import Derived.Deep.RegionHeld3
import Derived.Test.YtehbpeinnepdcaaGreatDoorProg
import Derived.OneCell
set_option maxHeartbeats 16000000
set_option maxRecDepth 8000
set_option linter.unusedVariables false
set_option linter.unusedSimpArgs false
namespace Go.Proofs.YtehbpeinnepdcaaGreatDoor
open Go.RowKit
def sh:Nat->Int->Int
 | 0,v=>v
 | j+1,v=>sh j v / 256
theorem yQp (j:Nat) (v:Int) (h0:0<=v) (h1:v<=18446744073709551615):0<=sh j v/\sh j v<=18446744073709551615:=by
 induction j with
 | zero=>exact ⟨h0,h1⟩
 | succ j ih=>unfold sh;omega
theorem QAX (j:Nat) (v:Int) (h0:0<=v) (h1:v<=9223372036854775807):0<=sh j v/\sh j v<=9223372036854775807:=by
 induction j with
 | zero=>exact ⟨h0,h1⟩
 | succ j ih=>unfold sh;omega
def be (n:Nat) (v:Int):List Int:=(List.range n).map fun i=>sh (n-1-i) v % 256
theorem XHU (n:Nat) (v:Int):(be n v).length=n:=by simp [be]
theorem v50 (n:Nat) (v:Int):be (n+1) v=(sh n v % 256)::be n v:=by
 unfold be;rw [List.range_succ_eq_map];simp only [List.map_cons,List.map_map,List.cons.injEq];refine ⟨by simp,?_⟩
 apply List.map_congr_left
 intro i hi;simp at hi;simp only [Function.comp];rw [show n+1-1-(i+1)=n-1-i by omega]
theorem j2P (n:Nat) (v:Int) (i:Nat) (h:i<n):(be n v).getD i 0=sh (n-1-i) v % 256:=by
 simp [be,List.getD,h]
theorem zQR (a b:List Int):strOfNums (a++b)=strOfNums a++strOfNums b:=by
 apply ByteArray.ext
 simp [strOfNums]
def Zr4 (x:Int) (c:UInt8):Int:=IntKind.u64.wrap (bits BinOp.xor IntKind.u64 x (IntKind.u64.wrap (c.toNat:Int))*1099511628211)
def fnv (l:List UInt8):Int:=l.foldl Zr4 14695981039346656037
theorem kBX (x:Int):0<=IntKind.u64.wrap x/\IntKind.u64.wrap x<=18446744073709551615:=by
 simp [IntKind.wrap,IntKind.bits,IntKind.signed];omega
theorem khQ (x:Int) (h0:0<=x) (h1:x<=18446744073709551615):IntKind.u64.wrap x=x:=by
 simp [IntKind.wrap,IntKind.bits,IntKind.signed];omega
theorem xz3 (l:List UInt8) (c:UInt8):fnv (l++[c])=Zr4 (fnv l) c:=by simp [fnv]
theorem ZT7 (l:List UInt8):0<=fnv l/\fnv l<=18446744073709551615:=by
 rcases List.eq_nil_or_concat l with rfl | ⟨l',c,rfl⟩
 ·unfold fnv;simp
 ·rw [List.concat_eq_append,xz3];exact kBX _
theorem vDo (s:ByteArray) (k:Nat) (h:k<s.size):s.data.toList.take (k+1)=s.data.toList.take k++[s[k]]:=by
 rw [List.take_succ_eq_append_getElem (by simpa using h)];rfl
def xXU (s:ByteArray) (n:Nat):ByteArray:=strOfNums (be n (fnv s.data.toList))
theorem j6x (s:ByteArray) (n:Nat):(xXU s n).size=n:=by unfold xXU;rw [strOfNums_size,XHU]
theorem xXI {P:Program} {t e:TypeId} {L:Nat} (ht:P.underlying t=some (.array L e)) (hz:∀ w,(sizeOf e).run P w=.ok 1 w) (b off l:Nat) (hl:l<L) (k:IntKind) (li:Int) (aA:li=(l:Int)) (w:World) :
  (Instr.sliceAt t (.pointer (some ⟨b,off,none⟩)) (some (.int k li)) none none).run P w=.ok (.slice (some ⟨b,off+l,none⟩) (L-l) (L-l)) w:=by
 have e1:P.arrayLen t=L:=by simp [Program.arrayLen,ht]
 have e2:P.elem t=e:=by simp [Program.elem,ht]
 rw [run_sliceAt_array_l (P:=P) w t ⟨b,off,none⟩ (by rw [e1,e2];exact ht) k li (by omega) (by omega),e1,e2,hz,aA];have e3:L≠l:=by omega
 simp [slicedAt,e3,Addr.add]
theorem QTH {P:Program} {t e:TypeId} {L:Nat} (ht:P.underlying t=some (.array L e)) (hz:∀ w,(sizeOf e).run P w=.ok 1 w) (b off h:Nat) (hL:0<L) (hl:h<=L) (k:IntKind) (li:Int) (aA:li=(h:Int)) (w:World) :
  (Instr.sliceAt t (.pointer (some ⟨b,off,none⟩)) none (some (.int k li)) none).run P w=.ok (.slice (some ⟨b,off,none⟩) h L) w:=by
 have e1:P.arrayLen t=L:=by simp [Program.arrayLen,ht]
 have e2:P.elem t=e:=by simp [Program.elem,ht]
 rw [run_sliceAt_array_h (P:=P) w t ⟨b,off,none⟩ (by rw [e1,e2];exact ht) k li (by omega) (by omega),e1,e2,hz,aA];have e3:L≠0:=by omega
 simp [slicedAt,Addr.add]
theorem vOw (p:ByteArray):p.toList.isEmpty=decide (p.size=0):=by
 rw [ByteArray.toList_eq];have e:p.size=p.data.toList.length:=rfl;rw [e]
 cases p.data.toList<;>simp
def zFD (p:ByteArray):List Int:=p.data.toList.map fun c=>(c.toNat:Int)
theorem vgz (p:ByteArray):(zFD p).length=p.size:=by simp [zFD]
theorem ZXs (p:ByteArray):strOfNums (zFD p)=p:=by
 apply ByteArray.ext
 simp [strOfNums,zFD,Function.comp_def]
def QKX (k l m:Int) (p:ByteArray):List Int:=be 1 k++be 2 l++be 4 m++be 1 (p.size:Int)++zFD p
theorem QeT (k l m:Int) (p:ByteArray):(QKX k l m p).length=8+p.size:=by
 simp [QKX,XHU,vgz];omega
def Zah (k l m:Int) (p:ByteArray) (n:Nat):List Int:=QKX k l m p++List.replicate (56-n-p.size) 0
theorem kxp (k l m:Int) (p:ByteArray) (n:Nat) (h:p.size+n<=56):(Zah k l m p n).length=64-n:=by
 simp [Zah,QeT];omega
def XQs (k l m:Int) (p:ByteArray) (n:Nat):ByteArray:=xXU (strOfNums (Zah k l m p n)) n++strOfNums (Zah k l m p n)
theorem X5y (k l m:Int) (p:ByteArray) (n:Nat) (h:p.size+n<=56):(XQs k l m p n).size=64:=by
 unfold XQs;rw [ByteArray.size_append,j6x,strOfNums_size,kxp k l m p n h];omega
structure Wrote (w w':World) (b off:Nat) (xs:List Int):Prop where
 os:w'.os=w.os
 tape:w'.tape=w.tape
 output:w'.output=w.output
 size:w'.heap.size=w.heap.size
 others:∀ k,k≠b->w'.heap[k]?=w.heap[k]?
 inside:∀ i,i<xs.length->w'.cell? ⟨b,off+i,none⟩=some (.int .u8 (xs.getD i 0))
 outside:∀ o,(o<off\/off+xs.length<=o)->w'.cell? ⟨b,o,none⟩=w.cell? ⟨b,o,none⟩
 frozen:∀ a,w'.frozen? a=w.frozen? a
theorem Wrote.refl (w:World) (b off:Nat):Wrote w w b off []:=⟨rfl,rfl,rfl,rfl,fun _ _=>rfl,fun i h=>by simp at h,fun _ _=>rfl,fun _=>rfl⟩
theorem Wrote.below {w w':World} {b off:Nat} {xs:List Int} (h:Wrote w w' b off xs) {B:Nat} (hB:B<=b):Below B w w' :=
 ⟨h.os,h.tape,h.output,by rw [h.size];exact Nat.le_refl _,fun k hk=>h.others k (by omega)⟩
theorem Wrote.step {w w':World} {b off:Nat} {xs:List Int} (h:Wrote w w' b (off+1) xs) (n:Int) {u:Value} (hc:w.cell? ⟨b,off,none⟩=some u):Wrote w (w'.setCell ⟨b,off,none⟩ (.int .u8 n)) b off (n::xs):=by
 have aA:w'.cell? ⟨b,off,none⟩=some u:=(h.outside off (.inl (by omega))).trans hc;refine ⟨h.os,h.tape,h.output,?_,fun k hk=>?_,fun i hi=>?_,fun o ho=>?_,fun a=>?_⟩
 ·rw [<-h.size];simp [World.setCell]
 ·rw [Below.heap_setCell _ _ _ _ hk];exact h.others k hk
 ·cases i with
  | zero=>simpa using World.cell?_setCell_same w' ⟨b,off,none⟩ (.int .u8 n) aA
  | succ i =>
   rw [World.cell?_setCell_other (w:=w') (h:=show (⟨b,off,none⟩:Addr)≠⟨b,off+(i+1),none⟩ by simp)];have:=h.inside i (by simpa using hi);rw [show off+(i+1)=off+1+i by omega,this];simp
 ·simp only [List.length_cons] at ho
  rw [World.cell?_setCell_other (w:=w') (h:=show (⟨b,off,none⟩:Addr)≠⟨b,o,none⟩ by simp<;>omega)];exact h.outside o (by omega)
 ·rw [World.frozen?_setCell];exact h.frozen a
/-- What a put into a frame that is written out comes to. -/
theorem PS:(∀ (a:Act) (t:Nat) (v:Value),a.put (some t) v={ a with tmps:=a.tmps.setIfInBounds t v })/\(∀ (a:Act) (v:Value),a.put none v=a)/\(∀ (l:List Value) (i:Nat) (v:Value),l.toArray.setIfInBounds i v=(l.set i v).toArray)/\(∀ (x y:Value) (l:List Value),(x::l).set 0 y=y::l)/\(∀ (x y:Value) (l:List Value) (n:Nat),(x::l).set (n+1) y=x::l.set n y)/\(∀ (l:List Oper) (i:Nat) (h:i<l.toArray.size),l.toArray[i]=l[i]'(by simpa using h))/\(∀ (x:Oper) (l:List Oper) (h:0<(x::l).length),(x::l)[0]'h=x)/\(∀ (x:Oper) (l:List Oper) (i:Nat) (h:i+1<(x::l).length),(x::l)[i+1]'h=l[i]'(by simpa using h)) :=
 ⟨fun _ _ _=>rfl,fun _ _=>rfl,fun _ _ _=>by simp,fun _ _ _=>rfl,fun _ _ _ _=>rfl,fun _ _ _=>by simp,fun _ _ _=>rfl,fun _ _ _ _=>rfl⟩
/-- 'wpAnyH_take' with what the kernel reckons left to itself. -/
theorem TK {P:Program} {aB:Array Oper} {Q:Exit->Act->World->Prop} {md:Region.Mode} {S:World->Prop} (i:Nat) {oi:Oper} (v:Value) {aC:Nat} {aA:Array Bool} {a:Act} {w:World} (hi:aB[i]?=some oi) (hy:YieldsIf P aB S oi v a) (hS:S w)
  (h:wpAnyH P md aB Q S aC (aA.setIfInBounds i true) (a.put oi.dst v) w) (hs:Region.noSelect aB=true:=by kernel_rfl) (hf:Region.free md aB aA i=true:=by kernel_rfl) (hr:(Region.ready md aB aA).contains i=true:=by kernel_rfl)
  (hQ:∀ c a w,Q (.panic c) (a.put oi.dst v) w->Q (.panic c) a w:=by exact fun _ _ _ h=>h):wpAnyH P md aB Q S (aC+1) aA a w:=wpAnyH_take hi hs hf hr hQ hy hS h
theorem TY {P:Program} {aB:Array Oper} {Q:Exit->Act->World->Prop} {md:Region.Mode} {S:World->Prop} (i:Nat) {oi:Oper} (v:Value) {aC:Nat} {aA:Array Bool} {a:Act} {w:World} (hi:aB[i]?=some oi) (hS:S w)
  (h:wpAnyH P md aB Q S aC (aA.setIfInBounds i true) (a.put oi.dst v) w) (hy:YieldsIf P aB S oi v a:=by exact Or.inl ⟨by rfl,fun w hw=>by (repeat (obtain ⟨_,hw⟩:=hw));go_simp⟩) (hs:Region.noSelect aB=true:=by kernel_rfl) (hf:Region.free md aB aA i=true:=by kernel_rfl) (hr:(Region.ready md aB aA).contains i=true:=by kernel_rfl)
  (hQ:∀ c a w,Q (.panic c) (a.put oi.dst v) w->Q (.panic c) a w:=by exact fun _ _ _ h=>h):wpAnyH P md aB Q S (aC+1) aA a w:=wpAnyH_take hi hs hf hr hQ hy hS h
theorem TZ {P:Program} {aB:Array Oper} {Q:Exit->Act->World->Prop} {md:Region.Mode} {S:World->Prop} (i:Nat) {oi:Oper} (v:Value) {aC:Nat} {aA:Array Bool} {a:Act} {w:World} (hi:aB[i]?=some oi) (hS:S w)
  (h:wpAnyH P md aB Q S aC (aA.setIfInBounds i true) (a.put oi.dst v) w) (hy:YieldsIf P aB S oi v a:=by exact Or.inl ⟨by rfl,fun w hw=>by (repeat (obtain ⟨_,hw⟩:=hw));go_simp;all_goals omega⟩) (hs:Region.noSelect aB=true:=by kernel_rfl) (hf:Region.free md aB aA i=true:=by kernel_rfl) (hr:(Region.ready md aB aA).contains i=true:=by kernel_rfl)
  (hQ:∀ c a w,Q (.panic c) (a.put oi.dst v) w->Q (.panic c) a w:=by exact fun _ _ _ h=>h):wpAnyH P md aB Q S (aC+1) aA a w:=wpAnyH_take hi hs hf hr hQ hy hS h
theorem RD {P:Program} {aC:Array Oper} {Q:Exit->Act->World->Prop} {md:Region.Mode} {S:World->Prop} {aB:Nat} {aA:Array Bool} {a:Act} {w:World} (i:Nat) {o:Oper} (ho:aC[i]?=some o)
  (h:∀ K':Act->World->Prop,Shut (∀ a w,S w->(S w->wpAnyH P md aC Q S aB (aA.setIfInBounds i true) a w)->K' a w)->if Region.wanted o (yielded aC a.tmps)=true then Oper.wp P o a w K' Q else K' (a.put o.dst undef) w)
  (hr:Region.ready md aC aA=[i]:=by kernel_rfl):wpAnyH P md aC Q S (aB+1) aA a w:=wpAnyH_ready hr (by simp) (AllReadyH.cons ho h AllReadyH.nil)
theorem DN {P:Program} {aC:Array Oper} {Q:Exit->Act->World->Prop} {md:Region.Mode} {S:World->Prop} {aB:Nat} {aA:Array Bool} {a:Act} {w:World} (h:Q .normal a w) (hr:Region.ready md aC aA=[]:=by kernel_rfl):wpAnyH P md aC Q S aB aA a w:=wpAnyH_done hr h _
theorem hid {p:Prop} (h:p):Hid p:=h
def Strs (w:World) (a:Option Addr) (ss:List ByteArray):Prop :=
 ss=[]\/∃ b o,a=some ⟨b,o,none⟩/\b<w.heap.size/\∀ i,i<ss.length->w.cell? ⟨b,o+i,none⟩=some (.string (ss.getD i ByteArray.empty))
def Wrs (w:World) (a:Option Addr) (ws:List (Int×ByteArray)):Prop :=
 ws=[]\/∃ b o,a=some ⟨b,o,none⟩/\b<w.heap.size/\∀ i,i<ws.length->w.cell? ⟨b,o+i*2,none⟩=some (.int .i64 (ws.getD i (0,ByteArray.empty)).1)/\w.cell? ⟨b,o+i*2+1,none⟩=some (.string (ws.getD i (0,ByteArray.empty)).2)
theorem Strs.below {w w':World} {a:Option Addr} {ss:List ByteArray} (h:Strs w a ss) (hb:Below w.heap.size w w'):Strs w' a ss:=by
 rcases h with h | ⟨b,o,h1,h2,h3⟩
 ·exact .inl h
 ·exact .inr ⟨b,o,h1,Nat.lt_of_lt_of_le h2 hb.size,fun i hi=>(hb.cell (p:=⟨b,o+i,none⟩) h2).trans (h3 i hi)⟩
theorem Wrs.below {w w':World} {a:Option Addr} {ws:List (Int×ByteArray)} (h:Wrs w a ws) (hb:Below w.heap.size w w'):Wrs w' a ws:=by
 rcases h with h | ⟨b,o,h1,h2,h3⟩
 ·exact .inl h
 ·exact .inr ⟨b,o,h1,Nat.lt_of_lt_of_le h2 hb.size,fun i hi=>⟨(hb.cell (p:=⟨b,o+i*2,none⟩) h2).trans (h3 i hi).1,(hb.cell (p:=⟨b,o+i*2+1,none⟩) h2).trans (h3 i hi).2⟩⟩
theorem Strs.at {w:World} {a:Option Addr} {ss:List ByteArray} (h:Strs w a ss) {k:Nat} (hk:k<ss.length):∃ b o s,a=some ⟨b,o,none⟩/\w.cell? ⟨b,o+k,none⟩=some (.string s)/\Hid (s=ss.getD k ByteArray.empty):=by
 rcases h with h | ⟨b,o,h1,h2,h3⟩
 ·subst h;simp at hk
 ·exact ⟨b,o,_,h1,h3 k hk,hid rfl⟩
theorem Wrs.at {w:World} {a:Option Addr} {ws:List (Int×ByteArray)} (h:Wrs w a ws) {k:Nat} (hk:k<ws.length):∃ b o n s,a=some ⟨b,o,none⟩/\w.cell? ⟨b,o+k*2,none⟩=some (.int .i64 n)/\w.cell? ⟨b,o+k*2+1,none⟩=some (.string s)/\Hid ((n,s)=ws.getD k (0,ByteArray.empty)):=by
 rcases h with h | ⟨b,o,h1,h2,h3⟩
 ·subst h;simp at hk
 ·exact ⟨b,o,_,_,h1,(h3 k hk).1,(h3 k hk).2,hid rfl⟩
theorem JGy {α:Type} (l:List α) (k:Nat) (d:α) (h:k<l.length):l.drop k=l.getD k d::l.drop (k+1):=by
 rw [List.drop_eq_getElem_cons h];simp [List.getD,h]
structure Row (w:World) (g:Nat) (cs:List Value):Prop where
 lt:g<w.heap.size
 cell:∀ i v,cs[i]?=some v->w.cell? ⟨g,i,none⟩=some v
 froz:∀ i,i<cs.length->w.frozen? ⟨g,i,none⟩=false
theorem Row.below {w w':World} {g:Nat} {cs:List Value} (h:Row w g cs) (hb:Below w.heap.size w w'):Row w' g cs :=
 ⟨Nat.lt_of_lt_of_le h.lt hb.size,fun i v hv=>(hb.cell (p:=⟨g,i,none⟩) h.lt).trans (h.cell i v hv),fun i hi=>(hb.frozen (p:=⟨g,i,none⟩) h.lt).trans (h.froz i hi)⟩
theorem Row.set {w:World} {g:Nat} {cs:List Value} (h:Row w g cs) (k:Nat) (hk:k<cs.length) (v:Value):Row (w.setCell ⟨g,k,none⟩ v) g (cs.set k v):=by
 refine ⟨by simpa [World.setCell] using h.lt,fun i u hu=>?_,fun i hi=>?_⟩
 ·by_cases he:i=k
  ·subst he
   rw [List.getElem?_set_self hk] at hu
   cases hu
   exact World.cell?_setCell_same w _ _ (h.cell i _ (List.getElem?_eq_getElem hk))
  ·rw [List.getElem?_set_ne (fun e=>he e.symm)] at hu
   rw [World.cell?_setCell_other (w:=w) (h:=show (⟨g,k,none⟩:Addr)≠⟨g,i,none⟩ by simp<;>omega)];exact h.cell i u hu
 ·rw [World.frozen?_setCell];exact h.froz i (by simpa using hi)
theorem Row.other {w:World} {g:Nat} {cs:List Value} (h:Row w g cs) (p:Addr) (hp:p.block≠g) (v:Value):Row (w.setCell p v) g cs:=by
 refine ⟨by simpa [World.setCell] using h.lt,fun i u hu=>?_,fun i hi=>?_⟩
 ·rw [World.cell?_setCell_other (w:=w) (h:=fun e=>hp (by rw [e]))];exact h.cell i u hu
 ·rw [World.frozen?_setCell];exact h.froz i hi
theorem Row.drew {w:World} {g:Nat} {cs:List Value} (h:Row w g cs):Row w.drew g cs:=⟨h.lt,h.cell,h.froz⟩
theorem Row.drewN {w:World} {g:Nat} {cs:List Value} (h:Row w g cs) (q:Nat):Row (w.drewN q) g cs:=h.below (below_drewN (Below.refl _ _) q)
theorem Row.alloc {w:World} {g:Nat} {cs:List Value} (h:Row w g cs) (o:Obj):Row (w.alloc o) g cs:=h.below ((Below.refl _ _).alloc (Nat.le_refl _) _)
theorem QjS (w:World) (b o:Nat) (h:w.heap.size<=b):w.frozen? ⟨b,o,none⟩=false:=by
 have e:w.heap[b]?=none:=by simp [h]
 simp [World.frozen?,e]
theorem xER (w:World) (A:Array Value) (t:TypeId):Row (w.alloc (.cells A t)) w.heap.size A.toList :=
 ⟨by simp,fun i v hv=>by rw [World.cell?_alloc_at _ _ _ _ rfl];simpa using hv,fun i hi=>by rw [frozen?_alloc_cells];exact QjS _ _ _ (Nat.le_refl _)⟩
theorem Row.strs {w:World} {g:Nat} {ss:List ByteArray} (h:Row w g (ss.map Value.string)):Strs w (some ⟨g,0,none⟩) ss :=
 .inr ⟨g,0,rfl,h.lt,fun i hi=>by
  rw [Nat.zero_add]
  exact h.cell i _ (by simp [List.getD,hi])⟩
def yaV (ws:List (Int×ByteArray)):List Value:=ws.flatMap fun x=>[.int .i64 x.1,.string x.2]
theorem QXs (a b:List (Int×ByteArray)):yaV (a++b)=yaV a++yaV b:=by simp [yaV]
theorem zPu (ws:List (Int×ByteArray)):(yaV ws).length=ws.length*2:=by
 induction ws with
 | nil=>rfl
 | cons x r ih=>simp [yaV] at ih ⊢;omega
theorem Qwf:∀ (ws:List (Int×ByteArray)) (i:Nat),i<ws.length->(yaV ws)[i*2]?=some (.int .i64 (ws.getD i (0,ByteArray.empty)).1)/\(yaV ws)[i*2+1]?=some (.string (ws.getD i (0,ByteArray.empty)).2)
 | x::r,0,_=>by simp [yaV]
 | x::r,i+1,h=>by
  have ih:=Qwf r i (by simpa using h);have e:yaV (x::r)=.int .i64 x.1::.string x.2::yaV r:=by simp [yaV]
  rw [e,show (i+1)*2=i*2+2 by omega];simpa using ih
theorem Row.wrs {w:World} {g:Nat} {ws:List (Int×ByteArray)} (h:Row w g (yaV ws)):Wrs w (some ⟨g,0,none⟩) ws :=
 .inr ⟨g,0,rfl,h.lt,fun i hi=>by
  rw [Nat.zero_add]
  exact ⟨h.cell _ _ (Qwf ws i hi).1,h.cell _ _ (Qwf ws i hi).2⟩⟩
theorem yIc {P:Program} {w:World} {aD:Array Oper} {aC:List Oper} {o:Oper} {a:Act} {Q:Exit->Act->World->Prop}
  (hg:o.guard=none) (l c:Operand) (t:TypeId) (aF:o.op=Op.makeSlice t l c) (e:TypeId) (z:Value) (size aA:Nat) (ht:P.underlying t=some (.slice e)) (aB:(P.info? e).map (fun i=>(i.zero,i.size,i.bytes))=some (some z,size,aA))
  (n:Nat) (hl:a.eval l=.int .i64 (n:Int)) (hc:a.eval c=.int .i64 (n:Int)) (hb:aA*n<=281474976710656) (hn:n<=281474976710656)
  (h:∀ wx,Row wx w.heap.size (madeCells z.cells (n*size)).toList->Below w.heap.size w wx->wx.heap.size=w.heap.size+1->wpList P aD Q aC (a.put o.dst (.slice (some ⟨w.heap.size,0,none⟩) n n)) wx):wpList P aD Q (o::aC) a w:=by
 refine wpList_plain hg fun K hK=>?_
 obtain ⟨i,hi,hh⟩:=Option.map_eq_some_iff.1 aB;simp only [Prod.mk.injEq] at hh;obtain ⟨h1,h2,h3⟩:=hh;subst h2 h3
 have aE:(i.bytes:Int)*(n:Int)<=281474976710656:=by
  have:((i.bytes*n:Nat):Int)<=281474976710656:=by omega
  rwa [Int.natCast_mul] at this
 have hr:=run_make (P:=P) w t e i z ht hi h1 .i64 .i64 n n (by omega) (Int.le_refl _) aE (by omega);simp only [Int.toNat_natCast] at hr;unfold Oper.wp;simp [execOp,aF,hl,hc,hr,Result.andThen];exact hK _ _ (h _ (xER _ _ _) ((Below.refl _ _).alloc (Nat.le_refl _) _) (by simp))
end Go.Proofs.YtehbpeinnepdcaaGreatDoor
namespace Go.Proofs.YtehbpeinnepdcaaGreatDoor
open Go
theorem WAL {P:Program} (w:World) {aF:Array Oper} {aD:List Oper} {o:Oper} {a:Act} {Q:Exit->Act->World->Prop} (aG:o.guard=none) (s x:Operand) (t:TypeId)
  (ho:o.op=.call { callee:=.builtin .append,args:=#[s,x],argTypes:=#[t,t] })
  (base:Nat) {e:TypeId} {i:TypeInfo} {z:Value} {size aA:Nat} (ht:P.underlying t=some (.slice e)) (HH:P.info? e=some i/\i.zero=some z/\i.size=size/\i.bytes=aA) (aI:z.cells.size=size) (aH:0<size)
  (v:Value) (n:Nat) (xs:List Value) (hs:a.eval s=v) (aE:w.ownsRow base e size v n xs)
  (ad:Addr) (m c:Nat) (news:List Value) (hx:a.eval x=.slice (some ad) m c) (hl:news.length=m*size) (aC:∀ j u,news[j]?=some u->w.cell? (ad.add j)=some u) (h1:∀ u∈news,u.oneCell'=true)
  (aB:base<=w.heap.size) (H:Nat) (hH:w.heap.size=H)
  (h:∀ g cap w',w'.ownsRow base e size (.slice (some ⟨g,0,none⟩) (n+m) cap) (n+m) (xs++news)->w.grownBy w' v.ownBlock->(v.ownBlock=some g\/g=H)->g<w'.heap.size->wpList P aF Q aD (a.put o.dst (.slice (some ⟨g,0,none⟩) (n+m) cap)) w') (hm:0<m:=by omega) (h63:n+m<=maxLen:=by unfold maxLen;omega) (hbytes:(n+m)*aA<=140737488355328:=by omega):wpList P aF Q (o::aD) a w :=
 wpList_append_lies w aG s x t ho base e i z size aA ht HH.1 HH.2.1 HH.2.2.1 HH.2.2.2 aI aH v n xs hs aE ad m c news hx hl aC h1 hm h63 hbytes aB H hH h
theorem SAL {P:Program} (w:World) {aH:Array Oper} {o:Oper} {a:Act} {K:Act->World->Prop} {Q:Exit->Act->World->Prop} {E:Prop} (aE:o.guard=none) (s x:Operand) (t:TypeId)
  (ho:o.op=.call { callee:=.builtin .append,args:=#[s,x],argTypes:=#[t,t] })
  (base:Nat) {e:TypeId} {i:TypeInfo} {z:Value} {size aA:Nat} (ht:P.underlying t=some (.slice e)) (HH:P.info? e=some i/\i.zero=some z/\i.size=size/\i.bytes=aA) (aG:z.cells.size=size) (aF:0<size)
  (v:Value) (n:Nat) (xs:List Value) (hs:a.eval s=v) (aD:w.ownsRow base e size v n xs)
  (ad:Addr) (m c:Nat) (news:List Value) (hx:a.eval x=.slice (some ad) m c) (hl:news.length=m*size) (aC:∀ j u,news[j]?=some u->w.cell? (ad.add j)=some u) (h1:∀ u∈news,u.oneCell'=true)
  (aB:base<=w.heap.size) (H:Nat) (hH:w.heap.size=H)
  (h:∀ g cap w',w'.ownsRow base e size (.slice (some ⟨g,0,none⟩) (n+m) cap) (n+m) (xs++news)->w.grownBy w' v.ownBlock->(v.ownBlock=some g\/g=H)->g<w'.heap.size->K (a.put o.dst (.slice (some ⟨g,0,none⟩) (n+m) cap)) w') (hm:0<m:=by omega) (h63:n+m<=maxLen:=by unfold maxLen;omega) (hbytes:(n+m)*aA<=140737488355328:=by omega) :
  if Region.wanted o (yielded aH a.tmps)=true then Oper.wp P o a w K Q else E :=
 step_append_lies w aE s x t ho base e i z size aA ht HH.1 HH.2.1 HH.2.2.1 HH.2.2.2 aG aF v n xs hs aD ad m c news hx hl aC h1 hm h63 hbytes aB H hH h
end Go.Proofs.YtehbpeinnepdcaaGreatDoor
namespace Go.Proofs.YtehbpeinnepdcaaGreatDoor
open Go.RowKit
theorem Row.k3 {w:World} {g:Nat} {v0 v1 v2:Value} {r:List Value} (h:Row w g (v0::v1::v2::r)):w.cell? ⟨g,0,none⟩=some v0/\w.cell? ⟨g,1,none⟩=some v1/\w.cell? ⟨g,2,none⟩=some v2:=⟨h.cell 0 _ rfl,h.cell 1 _ rfl,h.cell 2 _ rfl⟩
theorem Row.k4 {w:World} {g:Nat} {v0 v1 v2 v3:Value} {r:List Value} (h:Row w g (v0::v1::v2::v3::r)):w.cell? ⟨g,0,none⟩=some v0/\w.cell? ⟨g,1,none⟩=some v1/\w.cell? ⟨g,2,none⟩=some v2/\w.cell? ⟨g,3,none⟩=some v3:=⟨h.cell 0 _ rfl,h.cell 1 _ rfl,h.cell 2 _ rfl,h.cell 3 _ rfl⟩
theorem Row.k10 {w:World} {g:Nat} {v0 v1 v2 v3 v4 v5 v6 v7 v8 v9:Value} {r:List Value} (h:Row w g (v0::v1::v2::v3::v4::v5::v6::v7::v8::v9::r)):w.cell? ⟨g,0,none⟩=some v0/\w.cell? ⟨g,1,none⟩=some v1/\w.cell? ⟨g,2,none⟩=some v2/\w.cell? ⟨g,3,none⟩=some v3/\w.cell? ⟨g,4,none⟩=some v4/\w.cell? ⟨g,5,none⟩=some v5/\w.cell? ⟨g,6,none⟩=some v6/\w.cell? ⟨g,7,none⟩=some v7/\w.cell? ⟨g,8,none⟩=some v8/\w.cell? ⟨g,9,none⟩=some v9:=⟨h.cell 0 _ rfl,h.cell 1 _ rfl,h.cell 2 _ rfl,h.cell 3 _ rfl,h.cell 4 _ rfl,h.cell 5 _ rfl,h.cell 6 _ rfl,h.cell 7 _ rfl,h.cell 8 _ rfl,h.cell 9 _ rfl⟩
theorem Row.k12 {w:World} {g:Nat} {v0 v1 v2 v3 v4 v5 v6 v7 v8 v9 aA aB:Value} {r:List Value} (h:Row w g (v0::v1::v2::v3::v4::v5::v6::v7::v8::v9::aA::aB::r)):w.cell? ⟨g,0,none⟩=some v0/\w.cell? ⟨g,1,none⟩=some v1/\w.cell? ⟨g,2,none⟩=some v2/\w.cell? ⟨g,3,none⟩=some v3/\w.cell? ⟨g,4,none⟩=some v4/\w.cell? ⟨g,5,none⟩=some v5/\w.cell? ⟨g,6,none⟩=some v6/\w.cell? ⟨g,7,none⟩=some v7/\w.cell? ⟨g,8,none⟩=some v8/\w.cell? ⟨g,9,none⟩=some v9/\w.cell? ⟨g,10,none⟩=some aA/\w.cell? ⟨g,11,none⟩=some aB:=⟨h.cell 0 _ rfl,h.cell 1 _ rfl,h.cell 2 _ rfl,h.cell 3 _ rfl,h.cell 4 _ rfl,h.cell 5 _ rfl,h.cell 6 _ rfl,h.cell 7 _ rfl,h.cell 8 _ rfl,h.cell 9 _ rfl,h.cell 10 _ rfl,h.cell 11 _ rfl⟩
theorem Row.k16 {w:World} {g:Nat} {v0 v1 v2 v3 v4 v5 v6 v7 v8 v9 aA aB aC aD aE aF:Value} {r:List Value} (h:Row w g (v0::v1::v2::v3::v4::v5::v6::v7::v8::v9::aA::aB::aC::aD::aE::aF::r)):w.cell? ⟨g,0,none⟩=some v0/\w.cell? ⟨g,1,none⟩=some v1/\w.cell? ⟨g,2,none⟩=some v2/\w.cell? ⟨g,3,none⟩=some v3/\w.cell? ⟨g,4,none⟩=some v4/\w.cell? ⟨g,5,none⟩=some v5/\w.cell? ⟨g,6,none⟩=some v6/\w.cell? ⟨g,7,none⟩=some v7/\w.cell? ⟨g,8,none⟩=some v8/\w.cell? ⟨g,9,none⟩=some v9/\w.cell? ⟨g,10,none⟩=some aA/\w.cell? ⟨g,11,none⟩=some aB/\w.cell? ⟨g,12,none⟩=some aC/\w.cell? ⟨g,13,none⟩=some aD/\w.cell? ⟨g,14,none⟩=some aE/\w.cell? ⟨g,15,none⟩=some aF:=⟨h.cell 0 _ rfl,h.cell 1 _ rfl,h.cell 2 _ rfl,h.cell 3 _ rfl,h.cell 4 _ rfl,h.cell 5 _ rfl,h.cell 6 _ rfl,h.cell 7 _ rfl,h.cell 8 _ rfl,h.cell 9 _ rfl,h.cell 10 _ rfl,h.cell 11 _ rfl,h.cell 12 _ rfl,h.cell 13 _ rfl,h.cell 14 _ rfl,h.cell 15 _ rfl⟩
theorem Row.z2 {w:World} {g:Nat} {v0 v1:Value} {r:List Value} (h:Row w g (v0::v1::r)):w.frozen? ⟨g,0,none⟩=false/\w.frozen? ⟨g,1,none⟩=false:=⟨h.froz 0 (by simp),h.froz 1 (by simp)⟩
theorem Row.z3 {w:World} {g:Nat} {v0 v1 v2:Value} {r:List Value} (h:Row w g (v0::v1::v2::r)):w.frozen? ⟨g,0,none⟩=false/\w.frozen? ⟨g,1,none⟩=false/\w.frozen? ⟨g,2,none⟩=false:=⟨h.froz 0 (by simp),h.froz 1 (by simp),h.froz 2 (by simp)⟩
theorem Row.z4 {w:World} {g:Nat} {v0 v1 v2 v3:Value} {r:List Value} (h:Row w g (v0::v1::v2::v3::r)):w.frozen? ⟨g,0,none⟩=false/\w.frozen? ⟨g,1,none⟩=false/\w.frozen? ⟨g,2,none⟩=false/\w.frozen? ⟨g,3,none⟩=false:=⟨h.froz 0 (by simp),h.froz 1 (by simp),h.froz 2 (by simp),h.froz 3 (by simp)⟩
theorem Row.z12 {w:World} {g:Nat} {v0 v1 v2 v3 v4 v5 v6 v7 v8 v9 aA aB:Value} {r:List Value} (h:Row w g (v0::v1::v2::v3::v4::v5::v6::v7::v8::v9::aA::aB::r)):w.frozen? ⟨g,0,none⟩=false/\w.frozen? ⟨g,1,none⟩=false/\w.frozen? ⟨g,2,none⟩=false/\w.frozen? ⟨g,3,none⟩=false/\w.frozen? ⟨g,4,none⟩=false/\w.frozen? ⟨g,5,none⟩=false/\w.frozen? ⟨g,6,none⟩=false/\w.frozen? ⟨g,7,none⟩=false/\w.frozen? ⟨g,8,none⟩=false/\w.frozen? ⟨g,9,none⟩=false/\w.frozen? ⟨g,10,none⟩=false/\w.frozen? ⟨g,11,none⟩=false:=⟨h.froz 0 (by simp),h.froz 1 (by simp),h.froz 2 (by simp),h.froz 3 (by simp),h.froz 4 (by simp),h.froz 5 (by simp),h.froz 6 (by simp),h.froz 7 (by simp),h.froz 8 (by simp),h.froz 9 (by simp),h.froz 10 (by simp),h.froz 11 (by simp)⟩
theorem Row.z16 {w:World} {g:Nat} {v0 v1 v2 v3 v4 v5 v6 v7 v8 v9 aA aB aC aD aE aF:Value} {r:List Value} (h:Row w g (v0::v1::v2::v3::v4::v5::v6::v7::v8::v9::aA::aB::aC::aD::aE::aF::r)):w.frozen? ⟨g,0,none⟩=false/\w.frozen? ⟨g,1,none⟩=false/\w.frozen? ⟨g,2,none⟩=false/\w.frozen? ⟨g,3,none⟩=false/\w.frozen? ⟨g,4,none⟩=false/\w.frozen? ⟨g,5,none⟩=false/\w.frozen? ⟨g,6,none⟩=false/\w.frozen? ⟨g,7,none⟩=false/\w.frozen? ⟨g,8,none⟩=false/\w.frozen? ⟨g,9,none⟩=false/\w.frozen? ⟨g,10,none⟩=false/\w.frozen? ⟨g,11,none⟩=false/\w.frozen? ⟨g,12,none⟩=false/\w.frozen? ⟨g,13,none⟩=false/\w.frozen? ⟨g,14,none⟩=false/\w.frozen? ⟨g,15,none⟩=false:=⟨h.froz 0 (by simp),h.froz 1 (by simp),h.froz 2 (by simp),h.froz 3 (by simp),h.froz 4 (by simp),h.froz 5 (by simp),h.froz 6 (by simp),h.froz 7 (by simp),h.froz 8 (by simp),h.froz 9 (by simp),h.froz 10 (by simp),h.froz 11 (by simp),h.froz 12 (by simp),h.froz 13 (by simp),h.froz 14 (by simp),h.froz 15 (by simp)⟩
def Prs (w:World) (a:Option Addr) (rs:List (ByteArray×ByteArray)):Prop :=
 rs=[]\/∃ b o,a=some ⟨b,o,none⟩/\b<w.heap.size/\∀ i,i<rs.length->w.cell? ⟨b,o+i*2,none⟩=some (.string (rs.getD i (ByteArray.empty,ByteArray.empty)).1)/\w.cell? ⟨b,o+i*2+1,none⟩=some (.string (rs.getD i (ByteArray.empty,ByteArray.empty)).2)
theorem Prs.below {w w':World} {a:Option Addr} {rs:List (ByteArray×ByteArray)} (h:Prs w a rs) (hb:Below w.heap.size w w'):Prs w' a rs:=by
 rcases h with h | ⟨b,o,h1,h2,h3⟩
 ·exact .inl h
 ·exact .inr ⟨b,o,h1,Nat.lt_of_lt_of_le h2 hb.size,fun i hi=>⟨(hb.cell (p:=⟨b,o+i*2,none⟩) h2).trans (h3 i hi).1,(hb.cell (p:=⟨b,o+i*2+1,none⟩) h2).trans (h3 i hi).2⟩⟩
theorem Prs.at {w:World} {a:Option Addr} {rs:List (ByteArray×ByteArray)} (h:Prs w a rs) {k:Nat} (hk:k<rs.length):∃ b o s0 s1,a=some ⟨b,o,none⟩/\w.cell? ⟨b,o+k*2,none⟩=some (.string s0)/\w.cell? ⟨b,o+k*2+1,none⟩=some (.string s1)/\Hid ((s0,s1)=rs.getD k (ByteArray.empty,ByteArray.empty)):=by
 rcases h with h | ⟨b,o,h1,h2,h3⟩
 ·subst h;simp at hk
 ·exact ⟨b,o,_,_,h1,(h3 k hk).1,(h3 k hk).2,hid rfl⟩
def qJS (rs:List (ByteArray×ByteArray)):List Value:=rs.flatMap fun x=>[.string x.1,.string x.2]
theorem qAB (a b:List (ByteArray×ByteArray)):qJS (a++b)=qJS a++qJS b:=by simp [qJS]
theorem vzd (rs:List (ByteArray×ByteArray)):(qJS rs).length=rs.length*2:=by
 induction rs with
 | nil=>rfl
 | cons x r ih=>simp [qJS] at ih ⊢;omega
theorem xkI:∀ (rs:List (ByteArray×ByteArray)) (i:Nat),i<rs.length->(qJS rs)[i*2]?=some (.string (rs.getD i (ByteArray.empty,ByteArray.empty)).1)/\(qJS rs)[i*2+1]?=some (.string (rs.getD i (ByteArray.empty,ByteArray.empty)).2)
 | x::r,0,_=>by simp [qJS]
 | x::r,i+1,h=>by
  have ih:=xkI r i (by simpa using h);have e:qJS (x::r)=.string x.1::.string x.2::qJS r:=by simp [qJS]
  rw [e,show (i+1)*2=i*2+2 by omega];simpa using ih
theorem Row.prs {w:World} {g:Nat} {rs:List (ByteArray×ByteArray)} (h:Row w g (qJS rs)):Prs w (some ⟨g,0,none⟩) rs :=
 .inr ⟨g,0,rfl,h.lt,fun i hi=>by
  rw [Nat.zero_add]
  exact ⟨h.cell _ _ (xkI rs i hi).1,h.cell _ _ (xkI rs i hi).2⟩⟩
@[reducible] def stV (a:Option Addr) (n c:Nat):Value:=.agg #[.slice a n c]
theorem Jdx {a b:ByteArray} (h:a=b):Ending.returned (.string a)=.returned (.string b):=by rw [h]
theorem QHv (w:World) (n:Int):(convert 22 9 (.slice (some ⟨w.heap.size,0,none⟩) 1 1)).run Tryz.prog (w.alloc (.cells #[.int .u8 n] 5))=.ok (.string (strOfNums [n])) (w.alloc (.cells #[.int .u8 n] 5)) :=
 run_convert_bytes_arg (P:=Tryz.prog) _ 22 5 Tryz.underlying22 Tryz.underlying5 w.heap.size 0 1 1 [n] rfl (fun i hi=>by
  have:i=0:=by omega
  subst this;simp) 9 Tryz.underlying9
theorem ZpU {a b c:World} {r:Option Nat} (h:a.grownBy b r) (k:b.grownBy c r):a.grownBy c r :=
 ⟨k.os.trans h.os,k.tape.trans h.tape,k.output.trans h.output,Nat.le_trans h.size k.size,fun i hi hr=>(k.block i (Nat.lt_of_lt_of_le hi h.size) hr).trans (h.block i hi hr)⟩
theorem Qbp {a b:World} (r:Option Nat) (h:Below a.heap.size a b):a.grownBy b r:=⟨h.os,h.tape,h.output,h.size,fun i hi _=>h.block i hi⟩
theorem y09 {a b:World} {g:Nat} (h:a.grownBy b (some g)) (i:Nat) (v:Value):a.grownBy (b.setCell ⟨g,i,none⟩ v) (some g) :=
 ZpU h ⟨rfl,rfl,rfl,by simp [World.setCell],fun j _ hj=>Below.heap_setCell _ _ _ _ (fun e=>hj (by rw [e]))⟩
theorem jJX {a b:World} {r:Option Nat} {B:Nat} (h:a.grownBy b r) (hB:B<=a.heap.size) (hr:∀ g,r=some g->B<=g):Below B a b :=
 ⟨h.os,h.tape,h.output,h.size,fun k hk=>h.block k (by omega) (fun e=>by have:=hr k e.symm;omega)⟩
theorem Row.grown {w w':World} {g:Nat} {cs:List Value} {r:Option Nat} (h:Row w g cs) (hg:w.grownBy w' r) (hn:some g≠r):Row w' g cs :=
 ⟨Nat.lt_of_lt_of_le h.lt hg.size,fun i v hv=>(World.cell?_of_block (a:=⟨g,i,none⟩) (hg.block g h.lt hn)).trans (h.cell i v hv),fun i hi=>(World.frozen?_of_block (a:=⟨g,i,none⟩) (hg.block g h.lt hn)).trans (h.froz i hi)⟩
def OwnS (w:World) (a:Option Addr) (cs:List Value):Prop:=cs=[]\/∃ g,a=some ⟨g,0,none⟩/\Row w g cs
def blk (a:Option Addr) (n:Nat):Option Nat:=if n=0 then none else a.map (·.block)
theorem qdd (b o:Nat) (n:Nat) (h:n≠0):blk (some ⟨b,o,none⟩) n=some b:=by simp [blk,h]
structure OwnD (w:World) (a:Option Addr) (ss:List ByteArray) (a':Option Addr) (ws:List (Int×ByteArray)):Prop where
 s:OwnS w a (ss.map Value.string)
 p:OwnS w a' (yaV ws)
 ne:blk a ss.length=none\/blk a' ws.length=none\/blk a ss.length≠blk a' ws.length
theorem OwnS.below {w w':World} {a:Option Addr} {cs:List Value} (h:OwnS w a cs) (hb:Below w.heap.size w w'):OwnS w' a cs:=by
 rcases h with h | ⟨g,h1,h2⟩
 ·exact .inl h
 ·exact .inr ⟨g,h1,h2.below hb⟩
theorem OwnS.grown {w w':World} {a:Option Addr} {cs:List Value} {r:Option Nat} (h:OwnS w a cs) (hg:w.grownBy w' r) (hn:∀ g,a=some ⟨g,0,none⟩->cs≠[]->some g≠r):OwnS w' a cs:=by
 by_cases hc:cs=[]
 ·exact .inl hc
 ·obtain ⟨g,h1,h2⟩:=h.resolve_left hc
  exact .inr ⟨g,h1,h2.grown hg (hn g h1 hc)⟩
theorem OwnS.lt {w:World} {a:Option Addr} {cs:List Value} (h:OwnS w a cs) (n:Nat) (hn:n≠0->cs≠[]):∀ g,blk a n=some g->g<w.heap.size:=fun g hg=>by
 by_cases h0:n=0
 ·subst h0;cases hg
 ·obtain ⟨g',rfl,h2⟩:=h.resolve_left (hn h0)
  rw [qdd g' 0 n h0] at hg
  cases hg
  exact h2.lt
theorem OwnD.below {w w':World} {a a':Option Addr} {ss:List ByteArray} {ws:List (Int×ByteArray)} (h:OwnD w a ss a' ws) (hb:Below w.heap.size w w'):OwnD w' a ss a' ws:=⟨h.s.below hb,h.p.below hb,h.ne⟩
theorem OwnS.strs {w:World} {a:Option Addr} {ss:List ByteArray} (h:OwnS w a (ss.map Value.string)):Strs w a ss:=by
 rcases h with h | ⟨g,rfl,h2⟩
 ·exact .inl (by simpa using h)
 ·exact h2.strs
theorem OwnS.wrs {w:World} {a:Option Addr} {ws:List (Int×ByteArray)} (h:OwnS w a (yaV ws)):Wrs w a ws:=by
 rcases h with h | ⟨g,rfl,h2⟩
 ·exact .inl (by have:=congrArg List.length h;rw [zPu,List.length_nil] at this;exact List.eq_nil_of_length_eq_zero (by omega))
 ·exact h2.wrs
theorem qXV {ss:List ByteArray} (h:ss.length≠0):ss.map Value.string≠[]:=fun e=>h (by have:=congrArg List.length e;simpa using this)
theorem Z3Z {ss:List ByteArray} (h:ss.map Value.string≠[]):ss.length≠0:=fun e=>h (by rw [List.eq_nil_of_length_eq_zero e];rfl)
theorem qO5 {ws:List (Int×ByteArray)} (h:yaV ws≠[]):ws.length≠0:=fun e=>h (by rw [List.eq_nil_of_length_eq_zero e];rfl)
structure Dep (w:World) (lo hi:Nat) (F:World->Prop):Prop where
 now:F w
 top:hi<=w.heap.size
 keep:∀ w':World,(∀ b,lo<=b->b<hi->w'.heap[b]?=w.heap[b]?)->hi<=w'.heap.size->F w'
theorem Dep.below {w w':World} {lo hi:Nat} {F:World->Prop} (h:Dep w lo hi F) (hb:Below w.heap.size w w'):Dep w' lo hi F :=
 ⟨h.keep w' (fun b _ h2=>hb.block b (Nat.lt_of_lt_of_le h2 h.top)) (Nat.le_trans h.top hb.size),Nat.le_trans h.top hb.size,fun w2 h2 h3=>h.keep w2 (fun b h4 h5=>(h2 b h4 h5).trans (hb.block b (Nat.lt_of_lt_of_le h5 h.top))) h3⟩
theorem Dep.grown {w w':World} {lo hi:Nat} {F:World->Prop} {r:Option Nat} (h:Dep w lo hi F) (hg:w.grownBy w' r) (hr:∀ g,r=some g->g<lo\/hi<=g):Dep w' lo hi F:=by
 have aA:∀ b,lo<=b->b<hi->w'.heap[b]?=w.heap[b]?:=fun b h1 h2=>hg.block b (Nat.lt_of_lt_of_le h2 h.top) (fun e=>by have:=hr b e.symm;omega)
 exact ⟨h.keep w' aA (Nat.le_trans h.top hg.size),Nat.le_trans h.top hg.size,fun w2 h2 h3=>h.keep w2 (fun b h4 h5=>(h2 b h4 h5).trans (aA b h4 h5)) h3⟩
theorem Dep.and {w:World} {lo hi:Nat} {F G:World->Prop} (h:Dep w lo hi F) (k:Dep w lo hi G):Dep w lo hi (fun w=>F w/\G w):=⟨⟨h.now,k.now⟩,h.top,fun w' h1 h2=>⟨h.keep w' h1 h2,k.keep w' h1 h2⟩⟩
theorem Dep.wide {w:World} {lo hi aB aA:Nat} {F:World->Prop} (h:Dep w lo hi F) (h1:aB<=lo) (h2:hi<=aA) (h3:aA<=w.heap.size):Dep w aB aA F:=⟨h.now,h3,fun w' k1 k2=>h.keep w' (fun b a c=>k1 b (by omega) (by omega)) (by omega)⟩
theorem xbT {w w':World} {g:Nat} {cs:List Value} (h:Row w g cs) (e:w'.heap[g]?=w.heap[g]?) (hs:g<w'.heap.size):Row w' g cs :=
 ⟨hs,fun i v hv=>by rw [<-h.cell i v hv];simp [World.cell?,e],fun i hi=>by rw [<-h.froz i hi];simp [World.frozen?,e]⟩
theorem xuV {w:World} {g lo hi:Nat} {cs:List Value} (h:Row w g cs) (h1:lo<=g) (h2:g<hi) (h3:hi<=w.heap.size):Dep w lo hi (fun w=>Row w g cs):=⟨h,h3,fun w' k1 k2=>xbT h (k1 g h1 h2) (by omega)⟩
theorem JKD {w:World} {a:Option Addr} {lo n:Nat} {cs:List Value} (h:OwnS w a cs) (hn:cs≠[]->n≠0) (h1:∀ g,blk a n=some g->lo<=g):Dep w lo w.heap.size (fun w=>OwnS w a cs) :=
 ⟨h,Nat.le_refl _,fun w' k1 k2=>by
  by_cases h0:cs=[]
  ·exact .inl h0
  ·obtain ⟨g,rfl,hr⟩:=h.resolve_left h0
   exact .inr ⟨g,rfl,xbT hr (k1 g (h1 g (qdd _ _ _ (hn h0))) hr.lt) (Nat.lt_of_lt_of_le hr.lt k2)⟩⟩
theorem Dep.cut {w:World} {a:Option Addr} {lo hi:Nat} {cs:List Value} (h:Dep w lo w.heap.size (fun w=>OwnS w a cs)) (h1:∀ g,a=some ⟨g,0,none⟩->cs≠[]->g<hi) (h2:hi<=w.heap.size) (h3:∀ g,a=some ⟨g,0,none⟩->cs≠[]->lo<=g):Dep w lo hi (fun w=>OwnS w a cs) :=
 ⟨h.now,h2,fun w' k1 k2=>by
  by_cases h0:cs=[]
  ·exact .inl h0
  ·obtain ⟨g,rfl,hr⟩:=h.now.resolve_left h0
   exact .inr ⟨g,rfl,xbT hr (k1 g (h3 g rfl h0) (h1 g rfl h0)) (Nat.lt_of_lt_of_le (h1 g rfl h0) k2)⟩⟩
theorem k8j {g n k:Nat} (h:blk (some ⟨g,0,none⟩) n=some k):k=g:=by
 unfold blk at h
 split at h
 ·cases h
 ·simp at h;exact h.symm
theorem Dep.low {w w':World} {lo hi N:Nat} {F:World->Prop} (h:Dep w lo hi F) (hb:Below N w w') (hN:hi<=N):Dep w' lo hi F :=
 ⟨h.keep w' (fun b _ h2=>hb.block b (by omega)) (Nat.le_trans h.top hb.size),Nat.le_trans h.top hb.size,fun w2 h2 h3=>h.keep w2 (fun b h4 h5=>(h2 b h4 h5).trans (hb.block b (by omega))) h3⟩
theorem zle (w:World) (A:Array Value) (t:TypeId):Dep (w.alloc (.cells A t)) w.heap.size (w.heap.size+1) (fun W=>Row W w.heap.size A.toList):=xuV (xER w A t) (Nat.le_refl _) (by omega) (by simp)
theorem bx1 {w v:World} {A:Array Value} {t:TypeId} (e:w.alloc (.cells A t)=v):Below w.heap.size w v/\v.heap.size=w.heap.size+1/\Dep v w.heap.size (w.heap.size+1) (fun W=>Row W w.heap.size A.toList):=by
 subst e;exact ⟨(Below.refl _ _).alloc (Nat.le_refl _) _,by simp,xuV (xER w A t) (Nat.le_refl _) (by omega) (by simp)⟩
theorem qXs {w:World} {g:Nat} {cs:List Value} (h:Row w g cs):Dep w g (g+1) (fun W=>Row W g cs):=xuV h (Nat.le_refl _) (by omega) (by have:=h.lt;omega)
theorem c10 {w:World} {g:Nat} {a0 a1 a2 a3 a4 a5 a6 a7 a8 a9:Value} (h:Row w g [a0,a1,a2,a3,a4,a5,a6,a7,a8,a9]):w.cell? ⟨g,0,none⟩=some a0/\w.cell? ⟨g,1,none⟩=some a1/\w.cell? ⟨g,2,none⟩=some a2/\w.cell? ⟨g,3,none⟩=some a3/\w.cell? ⟨g,4,none⟩=some a4/\w.cell? ⟨g,5,none⟩=some a5/\w.cell? ⟨g,6,none⟩=some a6/\w.cell? ⟨g,7,none⟩=some a7/\w.cell? ⟨g,8,none⟩=some a8/\w.cell? ⟨g,9,none⟩=some a9/\g<w.heap.size :=
 ⟨h.cell 0 _ rfl,h.cell 1 _ rfl,h.cell 2 _ rfl,h.cell 3 _ rfl,h.cell 4 _ rfl,h.cell 5 _ rfl,h.cell 6 _ rfl,h.cell 7 _ rfl,h.cell 8 _ rfl,h.cell 9 _ rfl,h.lt⟩
theorem c12 {w:World} {g:Nat} {a0 a1 a2 a3 a4 a5 a6 a7 a8 a9 aA aB:Value} (h:Row w g [a0,a1,a2,a3,a4,a5,a6,a7,a8,a9,aA,aB]):w.cell? ⟨g,0,none⟩=some a0/\w.cell? ⟨g,1,none⟩=some a1/\w.cell? ⟨g,2,none⟩=some a2/\w.cell? ⟨g,3,none⟩=some a3/\w.cell? ⟨g,4,none⟩=some a4/\w.cell? ⟨g,5,none⟩=some a5/\w.cell? ⟨g,6,none⟩=some a6/\w.cell? ⟨g,7,none⟩=some a7/\w.cell? ⟨g,8,none⟩=some a8/\w.cell? ⟨g,9,none⟩=some a9/\w.cell? ⟨g,10,none⟩=some aA/\w.cell? ⟨g,11,none⟩=some aB/\g<w.heap.size :=
 ⟨h.cell 0 _ rfl,h.cell 1 _ rfl,h.cell 2 _ rfl,h.cell 3 _ rfl,h.cell 4 _ rfl,h.cell 5 _ rfl,h.cell 6 _ rfl,h.cell 7 _ rfl,h.cell 8 _ rfl,h.cell 9 _ rfl,h.cell 10 _ rfl,h.cell 11 _ rfl,h.lt⟩
theorem c16 {w:World} {g:Nat} {a0 a1 a2 a3 a4 a5 a6 a7 a8 a9 aA aB aC aD aE aF:Value} (h:Row w g [a0,a1,a2,a3,a4,a5,a6,a7,a8,a9,aA,aB,aC,aD,aE,aF]):w.cell? ⟨g,0,none⟩=some a0/\w.cell? ⟨g,1,none⟩=some a1/\w.cell? ⟨g,2,none⟩=some a2/\w.cell? ⟨g,3,none⟩=some a3/\w.cell? ⟨g,4,none⟩=some a4/\w.cell? ⟨g,5,none⟩=some a5/\w.cell? ⟨g,6,none⟩=some a6/\w.cell? ⟨g,7,none⟩=some a7/\w.cell? ⟨g,8,none⟩=some a8/\w.cell? ⟨g,9,none⟩=some a9/\w.cell? ⟨g,10,none⟩=some aA/\w.cell? ⟨g,11,none⟩=some aB/\w.cell? ⟨g,12,none⟩=some aC/\w.cell? ⟨g,13,none⟩=some aD/\w.cell? ⟨g,14,none⟩=some aE/\w.cell? ⟨g,15,none⟩=some aF/\g<w.heap.size :=
 ⟨h.cell 0 _ rfl,h.cell 1 _ rfl,h.cell 2 _ rfl,h.cell 3 _ rfl,h.cell 4 _ rfl,h.cell 5 _ rfl,h.cell 6 _ rfl,h.cell 7 _ rfl,h.cell 8 _ rfl,h.cell 9 _ rfl,h.cell 10 _ rfl,h.cell 11 _ rfl,h.cell 12 _ rfl,h.cell 13 _ rfl,h.cell 14 _ rfl,h.cell 15 _ rfl,h.lt⟩
def Pst (w:World) (a:Option Addr) (P:List (List (ByteArray×ByteArray))):Prop :=
 P=[]\/∃ b o,a=some ⟨b,o,none⟩/\b<w.heap.size/\∀ i,i<P.length->∃ p c,w.cell? ⟨b,o+i,none⟩=some (.slice p (P.getD i []).length c)/\Prs w p (P.getD i [])
theorem Pst.below {w w':World} {a:Option Addr} {P:List (List (ByteArray×ByteArray))} (h:Pst w a P) (hb:Below w.heap.size w w'):Pst w' a P:=by
 rcases h with h | ⟨b,o,h1,h2,h3⟩
 ·exact .inl h
 ·refine .inr ⟨b,o,h1,Nat.lt_of_lt_of_le h2 hb.size,fun i hi=>?_⟩
  obtain ⟨p,c,h4,h5⟩:=h3 i hi;exact ⟨p,c,(hb.cell (p:=⟨b,o+i,none⟩) h2).trans h4,h5.below hb⟩
theorem Pst.at {w:World} {a:Option Addr} {P:List (List (ByteArray×ByteArray))} (h:Pst w a P) {k:Nat} (hk:k<P.length):∃ b o p c,a=some ⟨b,o,none⟩/\b<w.heap.size/\w.cell? ⟨b,o+k,none⟩=some (.slice p (P.getD k []).length c)/\Hid (Prs w p (P.getD k [])):=by
 rcases h with h | ⟨b,o,h1,h2,h3⟩
 ·subst h;simp at hk
 ·obtain ⟨p,c,h4,h5⟩:=h3 k hk
  exact ⟨b,o,p,c,h1,h2,h4,hid h5⟩
def Chs (w:World) (a:Option Addr) (rs:List (ByteArray×ByteArray×Bool)):Prop :=
 rs=[]\/∃ b o,a=some ⟨b,o,none⟩/\b<w.heap.size/\∀ i,i<rs.length->w.cell? ⟨b,o+i*3,none⟩=some (.string (rs.getD i (ByteArray.empty,ByteArray.empty,false)).1)/\w.cell? ⟨b,o+i*3+1,none⟩=some (.string (rs.getD i (ByteArray.empty,ByteArray.empty,false)).2.1)/\w.cell? ⟨b,o+i*3+2,none⟩=some (.bool (rs.getD i (ByteArray.empty,ByteArray.empty,false)).2.2)
theorem Chs.below {w w':World} {a:Option Addr} {rs:List (ByteArray×ByteArray×Bool)} (h:Chs w a rs) (hb:Below w.heap.size w w'):Chs w' a rs:=by
 rcases h with h | ⟨b,o,h1,h2,h3⟩
 ·exact .inl h
 ·exact .inr ⟨b,o,h1,Nat.lt_of_lt_of_le h2 hb.size,fun i hi=>⟨(hb.cell (p:=⟨b,o+i*3,none⟩) h2).trans (h3 i hi).1,(hb.cell (p:=⟨b,o+i*3+1,none⟩) h2).trans (h3 i hi).2.1,(hb.cell (p:=⟨b,o+i*3+2,none⟩) h2).trans (h3 i hi).2.2⟩⟩
theorem Chs.at {w:World} {a:Option Addr} {rs:List (ByteArray×ByteArray×Bool)} (h:Chs w a rs) {k:Nat} (hk:k<rs.length):∃ b o s0 s1 g2,a=some ⟨b,o,none⟩/\w.cell? ⟨b,o+k*3,none⟩=some (.string s0)/\w.cell? ⟨b,o+k*3+1,none⟩=some (.string s1)/\w.cell? ⟨b,o+k*3+2,none⟩=some (.bool g2)/\Hid ((s0,s1,g2)=rs.getD k (ByteArray.empty,ByteArray.empty,false)):=by
 rcases h with h | ⟨b,o,h1,h2,h3⟩
 ·subst h;simp at hk
 ·exact ⟨b,o,_,_,_,h1,(h3 k hk).1,(h3 k hk).2.1,(h3 k hk).2.2,hid rfl⟩
def jlM (rs:List (ByteArray×ByteArray×Bool)):List Value:=rs.flatMap fun x=>[.string x.1,.string x.2.1,.bool x.2.2]
theorem xam (a b:List (ByteArray×ByteArray×Bool)):jlM (a++b)=jlM a++jlM b:=by simp [jlM]
theorem Jjy:∀ (rs:List (ByteArray×ByteArray×Bool)) (i:Nat),i<rs.length->(jlM rs)[i*3]?=some (.string (rs.getD i (ByteArray.empty,ByteArray.empty,false)).1)/\(jlM rs)[i*3+1]?=some (.string (rs.getD i (ByteArray.empty,ByteArray.empty,false)).2.1)/\(jlM rs)[i*3+2]?=some (.bool (rs.getD i (ByteArray.empty,ByteArray.empty,false)).2.2)
 | x::r,0,_=>by simp [jlM]
 | x::r,i+1,h=>by
  have ih:=Jjy r i (by simpa using h);have e:jlM (x::r)=.string x.1::.string x.2.1::.bool x.2.2::jlM r:=by simp [jlM]
  rw [e,show (i+1)*3=i*3+3 by omega];simpa using ih
theorem Row.chs {w:World} {g:Nat} {rs:List (ByteArray×ByteArray×Bool)} (h:Row w g (jlM rs)):Chs w (some ⟨g,0,none⟩) rs :=
 .inr ⟨g,0,rfl,h.lt,fun i hi=>by
  rw [Nat.zero_add]
  exact ⟨h.cell _ _ (Jjy rs i hi).1,h.cell _ _ (Jjy rs i hi).2.1,h.cell _ _ (Jjy rs i hi).2.2⟩⟩
theorem xpe {a b:Bool} (h:a=b):Ending.returned (.bool a)=.returned (.bool b):=by rw [h]
def kOk (k:ByteArray):Bool:=decide (1<=k.size/\k.size<=20)
def vOk (k:ByteArray):Bool:=decide (k.size<=100)
def yO3 (x:ByteArray×ByteArray×Bool):Bool:=kOk x.1 && vOk x.2.1 && !(x.2.2 && decide (x.2.1.size≠0))
def kpJ (rs:List (ByteArray×ByteArray×Bool)):Bool:=decide (1<=rs.length/\rs.length<=20) && rs.all yO3
theorem Qu1 {rs:List (ByteArray×ByteArray×Bool)} (h:¬ (1<=rs.length/\rs.length<=20)):kpJ rs=false:=by simp [kpJ,h]
theorem Z23 {rs:List (ByteArray×ByteArray×Bool)} {x:ByteArray×ByteArray×Bool} (hm:x∈rs) (h:yO3 x=false):kpJ rs=false:=by
 have:rs.all yO3=false:=List.all_eq_false.2 ⟨x,hm,by simp [h]⟩;simp [kpJ,this]
theorem zAI {rs:List (ByteArray×ByteArray×Bool)} (h:1<=rs.length/\rs.length<=20) (h1:∀ x∈rs,yO3 x=true):kpJ rs=true:=by
 simp only [kpJ,Bool.and_eq_true,decide_eq_true_eq,List.all_eq_true];exact ⟨h,h1⟩
theorem q4Z {rs:List (ByteArray×ByteArray×Bool)} (h:kpJ rs=true):(1<=rs.length/\rs.length<=20)/\∀ x∈rs,yO3 x=true:=by
 simp only [kpJ,Bool.and_eq_true,decide_eq_true_eq,List.all_eq_true] at h;exact h
theorem Z0I (s:ByteArray) (w:World) (hs:s.size<=1048576):Calls Tryz.prog 38 #[.string s] w fun e w'=>e=.returned (.bool (kOk s))/\w'=w:=by
 unfold kOk
 by_cases h1:1<=s.size
 ·by_cases h2:s.size<=20
  ·go_enter Tryz.func38,Tryz.ntmps38
   go_wp2;go_ret;exact ⟨xpe (by simp [h1,h2]<;>omega),rfl⟩
  ·go_enter Tryz.func38,Tryz.ntmps38
   go_wp2;go_ret;exact ⟨xpe (by simp [h2]<;>omega),rfl⟩
 ·go_enter Tryz.func38,Tryz.ntmps38
  go_wp2;go_ret;exact ⟨xpe (by simp<;>omega),rfl⟩
theorem QHK {k v:ByteArray} {g:Bool} (h:kOk k=false):yO3 (k,v,g)=false:=by simp [yO3,h]
theorem jlA {k v:ByteArray} {g:Bool} (h:vOk v=false):yO3 (k,v,g)=false:=by simp [yO3,h]
theorem zd4 {k v:ByteArray} (h:v.toList.isEmpty=false):yO3 (k,v,true)=false:=by
 rw [vOw] at h;have:v.size≠0:=by simpa using h
 simp [yO3,this]
theorem jAK {k v:ByteArray} (h:kOk k=true) (h2:vOk v=true):yO3 (k,v,false)=true:=by simp [yO3,h,h2]
theorem kja {k v:ByteArray} (h:kOk k=true) (h2:vOk v=true) (h3:v.toList.isEmpty=true):yO3 (k,v,true)=true:=by
 rw [vOw] at h3;have:v.size=0:=by simpa using h3
 simp [yO3,h,h2,this]
theorem vkv {α:Type} {rs:List α} {k:Nat} {x d:α} {f:α->Bool} (aA:k<rs.length) (HA:∀ y∈rs.take k,f y=true) (HS:x=rs.getD k d) (hx:f x=true):∀ y∈rs.take (k+1),f y=true:=by
 intro y hy;rw [List.take_succ_eq_append_getElem aA] at hy;rcases List.mem_append.1 hy with hy | hy
 ·exact HA y hy
 ·simp at hy
  simp [List.getD,aA] at HS;rw [hy,<-HS];exact hx
theorem xly (a:Option Addr) (rs:List (ByteArray×ByteArray×Bool)) (c:Nat) (w:World) (h:Chs w a rs) (hl:rs.length<=1048576) (hs:∀ x∈rs,x.1.size<=1048576/\x.2.1.size<=1048576) :
  Calls Tryz.prog 92 #[.slice a rs.length c] w fun e w'=>e=.returned (.bool (kpJ rs))/\Below w.heap.size w w':=by
 obtain ⟨R,HR⟩:∃ R,Hid (R=kpJ rs):=⟨_,hid rfl⟩;rw [<-HR.out]
 by_cases hn:1<=(rs.length:Int)
 ·by_cases hp:(rs.length:Int)<=20
  ·go_enter Tryz.func92,Tryz.ntmps92
   go_wp2;go_loopw [3] (fun i wr=>∃ k:Nat,k<=rs.length/\i=.int .i64 k/\Hid (∀ x∈rs.take k,yO3 x=true)/\Below w.heap.size w wr) (fun i _=>rs.length-(intOf i).toNat)
   case atStart=>exact ⟨0,Nat.zero_le _,rfl,by show ∀ s∈rs.take 0,_;simp,Below.refl _ _⟩
   case round =>
    obtain ⟨k,hk,rfl,HA,aA⟩:=hrel
    by_cases aC:k<rs.length
    ·obtain ⟨b,o,s0,s1,g2,rfl,aG,aH,aI,HS⟩:=(h.below aA).at aC
     have hm:Hid ((s0,s1,g2)∈rs):=by show _∈_;rw [HS.out];simp [List.getD,aC]
     obtain ⟨aB,aK⟩:=hs _ hm.out;have aE:(k:Int)<(rs.length:Int):=by omega
     have aJ:(0:Int)<=(k:Int):=by omega
     cases hk1:kOk s0 with
     | false =>
      go_wp2_with (go_at_call 38;refine (Z0I _ _ aB).mono ?_;rw [hk1];rintro e w2 ⟨rfl,rfl⟩);go_ret;exact ⟨xpe (by rw [HR.out];exact (Z23 hm.out (QHK hk1)).symm),aA⟩
     | true =>
      cases hv1:vOk s1 with
      | false =>
       have aF:(100:Int)<(s1.size:Int):=by simp [vOk] at hv1;omega
       go_wp2_with (go_at_call 38;refine (Z0I _ _ aB).mono ?_;rw [hk1];rintro e w2 ⟨rfl,rfl⟩);go_ret;exact ⟨xpe (by rw [HR.out];exact (Z23 hm.out (jlA hv1)).symm),aA⟩
      | true =>
       have aF:(s1.size:Int)<=100:=by simp [vOk] at hv1;omega
       cases g2 with
       | false =>
        go_wp2_with (go_at_call 38;refine (Z0I _ _ aB).mono ?_;rw [hk1];rintro e w2 ⟨rfl,rfl⟩);go_roundw
        case rel=>exact ⟨k+1,by omega,by go_num,vkv aC HA.out HS.out (jAK hk1 hv1),aA⟩
        case measure=>simp [intOf];omega
       | true =>
        cases he:s1.toList.isEmpty with
        | false =>
         go_wp2_with (go_at_call 38;refine (Z0I _ _ aB).mono ?_;rw [hk1];rintro e w2 ⟨rfl,rfl⟩);go_ret;exact ⟨xpe (by rw [HR.out];exact (Z23 hm.out (zd4 he)).symm),aA⟩
        | true =>
         go_wp2_with (go_at_call 38;refine (Z0I _ _ aB).mono ?_;rw [hk1];rintro e w2 ⟨rfl,rfl⟩);go_roundw
         case rel=>exact ⟨k+1,by omega,by go_num,vkv aC HA.out HS.out (kja hk1 hv1 he),aA⟩
         case measure=>simp [intOf];omega
    ·have aD:Hid (∀ s∈rs,yO3 s=true):=by have:=HA.out;rwa [List.take_of_length_le (by omega)] at this
     clear HA;go_wp2;go_ret;exact ⟨xpe (by rw [HR.out];exact (zAI (by omega) aD.out).symm),aA⟩
  ·go_enter Tryz.func92,Tryz.ntmps92
   go_wp2;go_ret;exact ⟨xpe (by rw [HR.out];exact (Qu1 (by omega)).symm),Below.refl _ _⟩
 ·go_enter Tryz.func92,Tryz.ntmps92
  go_wp2;go_ret;exact ⟨xpe (by rw [HR.out];exact (Qu1 (by omega)).symm),Below.refl _ _⟩
theorem J5I (s:ByteArray) (w:World) (hs:s.size<=1048576):Calls Tryz.prog 84 #[.string s] w fun e w'=>e=.returned (.bool (kOk s))/\w'=w:=by
 unfold kOk
 by_cases h1:1<=s.size
 ·by_cases h2:s.size<=20
  ·go_enter Tryz.func84,Tryz.ntmps84
   go_wp2;go_ret;exact ⟨xpe (by simp [h1,h2]<;>omega),rfl⟩
  ·go_enter Tryz.func84,Tryz.ntmps84
   go_wp2;go_ret;exact ⟨xpe (by simp [h2]<;>omega),rfl⟩
 ·go_enter Tryz.func84,Tryz.ntmps84
  go_wp2;go_ret;exact ⟨xpe (by simp<;>omega),rfl⟩
theorem zR9 (s:ByteArray) (w:World) (hs:s.size<=1048576):Calls Tryz.prog 85 #[.string s] w fun e w'=>e=.returned (.bool (vOk s))/\w'=w:=by
 unfold vOk;go_enter Tryz.func85,Tryz.ntmps85;go_wp2;go_ret;exact ⟨xpe (by simp<;>omega),rfl⟩
theorem XQq (a:Option Addr) (rs:List (ByteArray×ByteArray×Bool)) (c:Nat) (w:World) (h:Chs w a rs) (hl:rs.length<=1048576) (hs:∀ x∈rs,x.1.size<=1048576/\x.2.1.size<=1048576) :
  Calls Tryz.prog 118 #[.slice a rs.length c] w fun e w'=>e=.returned (.bool (kpJ rs))/\Below w.heap.size w w':=by
 obtain ⟨R,HR⟩:∃ R,Hid (R=kpJ rs):=⟨_,hid rfl⟩;rw [<-HR.out]
 by_cases hn:1<=(rs.length:Int)
 ·by_cases hp:(rs.length:Int)<=20
  ·go_enter Tryz.func118,Tryz.ntmps118
   go_wp2;go_loopw [4,15] (fun _ i wr=>∃ k:Nat,k<=rs.length/\i=.int .i64 k/\Hid (∀ x∈rs.take k,yO3 x=true)/\Below w.heap.size w wr) (fun _ i _=>rs.length-(intOf i).toNat)
   case atStart=>exact ⟨0,Nat.zero_le _,rfl,by show ∀ s∈rs.take 0,_;simp,Below.refl _ _⟩
   case round =>
    obtain ⟨k,hk,rfl,HA,aA⟩:=hrel
    by_cases aC:k<rs.length
    ·obtain ⟨b,o,s0,s1,g2,rfl,aG,aH,aI,HS⟩:=(h.below aA).at aC
     have hm:Hid ((s0,s1,g2)∈rs):=by show _∈_;rw [HS.out];simp [List.getD,aC]
     obtain ⟨aB,aD⟩:=hs _ hm.out;have aF:(k:Int)<(rs.length:Int):=by omega
     have aJ:(0:Int)<=(k:Int):=by omega
     cases hk1:kOk s0 with
     | false =>
      go_wp2_with (first | (go_at_call 84;refine (J5I _ _ aB).mono ?_;rw [hk1];rintro e w2 ⟨rfl,rfl⟩))
      go_ret;exact ⟨xpe (by rw [HR.out];exact (Z23 hm.out (QHK hk1)).symm),aA.alloc aA.size _⟩
     | true =>
      cases hv1:vOk s1 with
      | false =>
       skip
       go_wp2_with (first | (go_at_call 84;refine (J5I _ _ aB).mono ?_;rw [hk1];rintro e w2 ⟨rfl,rfl⟩) | (go_at_call 85;refine (zR9 _ _ aD).mono ?_;rw [hv1];rintro e w2 ⟨rfl,rfl⟩))
       go_ret;exact ⟨xpe (by rw [HR.out];exact (Z23 hm.out (jlA hv1)).symm),aA.alloc aA.size _⟩
      | true =>
       skip
       cases g2 with
       | false =>
        go_wp2_with (first | (go_at_call 84;refine (J5I _ _ aB).mono ?_;rw [hk1];rintro e w2 ⟨rfl,rfl⟩) | (go_at_call 85;refine (zR9 _ _ aD).mono ?_;rw [hv1];rintro e w2 ⟨rfl,rfl⟩))
        go_roundw
        case rel=>exact ⟨k+1,by omega,by go_num,vkv aC HA.out HS.out (jAK hk1 hv1),aA.alloc aA.size _⟩
        case measure=>simp [intOf];omega
       | true =>
        cases he:s1.toList.isEmpty with
        | false =>
         go_wp2_with (first | (go_at_call 84;refine (J5I _ _ aB).mono ?_;rw [hk1];rintro e w2 ⟨rfl,rfl⟩) | (go_at_call 85;refine (zR9 _ _ aD).mono ?_;rw [hv1];rintro e w2 ⟨rfl,rfl⟩))
         go_ret;exact ⟨xpe (by rw [HR.out];exact (Z23 hm.out (zd4 he)).symm),aA.alloc aA.size _⟩
        | true =>
         go_wp2_with (first | (go_at_call 84;refine (J5I _ _ aB).mono ?_;rw [hk1];rintro e w2 ⟨rfl,rfl⟩) | (go_at_call 85;refine (zR9 _ _ aD).mono ?_;rw [hv1];rintro e w2 ⟨rfl,rfl⟩))
         go_roundw
         case rel=>exact ⟨k+1,by omega,by go_num,vkv aC HA.out HS.out (kja hk1 hv1 he),aA.alloc aA.size _⟩
         case measure=>simp [intOf];omega
    ·have aE:Hid (∀ s∈rs,yO3 s=true):=by have:=HA.out;rwa [List.take_of_length_le (by omega)] at this
     clear HA;go_wp2;go_ret;exact ⟨xpe (by rw [HR.out];exact (zAI (by omega) aE.out).symm),aA⟩
  ·go_enter Tryz.func118,Tryz.ntmps118
   go_wp2;go_ret;exact ⟨xpe (by rw [HR.out];exact (Qu1 (by omega)).symm),Below.refl _ _⟩
 ·go_enter Tryz.func118,Tryz.ntmps118
  go_wp2;go_ret;exact ⟨xpe (by rw [HR.out];exact (Qu1 (by omega)).symm),Below.refl _ _⟩
section
theorem v8I (s:ByteArray) (b:Bool) (w:World) (hs:s.size<=1048576) (h:kOk s=b):Calls Tryz.prog 38 #[.string s] w fun e w'=>e=.returned (.bool b)/\w'=w:=by
 rw [<-h];exact Z0I s w hs
def klt (a b:ByteArray):Bool:=Op.bytesLess a.toList b.toList
def jq0 (rs:List (ByteArray×ByteArray)) (i:Nat):Bool:=kOk (rs.getD i (ByteArray.empty,ByteArray.empty)).1 && vOk (rs.getD i (ByteArray.empty,ByteArray.empty)).2 && (decide (i=0) || klt (rs.getD (i-1) (ByteArray.empty,ByteArray.empty)).1 (rs.getD i (ByteArray.empty,ByteArray.empty)).1)
def z0q (rs:List (ByteArray×ByteArray)):Bool:=decide (rs.length<=100) && (List.range rs.length).all (jq0 rs)
theorem yqw {rs:List (ByteArray×ByteArray)} (h:¬ (rs.length<=100)):z0q rs=false:=by simp [z0q,h]
theorem ZJ2 {rs:List (ByteArray×ByteArray)} {k:Nat} (hk:k<rs.length) (h:jq0 rs k=false):z0q rs=false:=by
 have:(List.range rs.length).all (jq0 rs)=false:=List.all_eq_false.2 ⟨k,List.mem_range.2 hk,by simp [h]⟩;simp [z0q,this]
theorem qjV {rs:List (ByteArray×ByteArray)} (h:rs.length<=100) (h1:∀ k,k<rs.length->jq0 rs k=true):z0q rs=true:=by
 simp only [z0q,Bool.and_eq_true,decide_eq_true_eq,List.all_eq_true];exact ⟨h,fun k hk=>h1 k (List.mem_range.1 hk)⟩
theorem Jne {rs:List (ByteArray×ByteArray)} (h:z0q rs=true):rs.length<=100/\∀ k,k<rs.length->jq0 rs k=true:=by
 simp only [z0q,Bool.and_eq_true,decide_eq_true_eq,List.all_eq_true] at h;exact ⟨h.1,fun k hk=>h.2 k (List.mem_range.2 hk)⟩
section
variable {rs:List (ByteArray×ByteArray)} {k j:Nat} {s0 s1 t0 t1:ByteArray}
theorem X3S (hS:(s0,s1)=rs.getD k (ByteArray.empty,ByteArray.empty)) (h:kOk s0=false):jq0 rs k=false:=by unfold jq0;rw [<-hS];simp [h]
theorem yom (hS:(s0,s1)=rs.getD k (ByteArray.empty,ByteArray.empty)) (h:vOk s1=false):jq0 rs k=false:=by unfold jq0;rw [<-hS];simp [h]
theorem yWA (hS:(s0,s1)=rs.getD k (ByteArray.empty,ByteArray.empty)) (hT:(t0,t1)=rs.getD j (ByteArray.empty,ByteArray.empty)) (hj:k=j+1) (h:Op.bytesLess t0.toList s0.toList=false):jq0 rs k=false:=by
 unfold jq0 klt;rw [<-hS];subst hj;rw [Nat.add_sub_cancel,<-hT];simp [h]
theorem kzx (hS:(s0,s1)=rs.getD k (ByteArray.empty,ByteArray.empty)) (hk:k=0) (h:kOk s0=true) (h2:vOk s1=true):jq0 rs k=true:=by subst hk;unfold jq0;rw [<-hS];simp [h,h2]
theorem q0H (hS:(s0,s1)=rs.getD k (ByteArray.empty,ByteArray.empty)) (hT:(t0,t1)=rs.getD j (ByteArray.empty,ByteArray.empty)) (hj:k=j+1) (h:kOk s0=true) (h2:vOk s1=true) (h3:Op.bytesLess t0.toList s0.toList=true):jq0 rs k=true:=by
 unfold jq0 klt;rw [<-hS];subst hj;rw [Nat.add_sub_cancel,<-hT];simp [h,h2,h3]
theorem JUg (HA:∀ i,i<k->jq0 rs i=true) (h:jq0 rs k=true):∀ i,i<k+1->jq0 rs i=true:=by
 intro i hi;rcases Nat.lt_or_ge i k with h1 | h1
 ·exact HA i h1
 ·have:i=k:=by omega
  subst this;exact h
end
theorem yPv (a:Option Addr) (rs:List (ByteArray×ByteArray)) (c:Nat) (w:World) (h:Prs w a rs) (hl:rs.length<=1048576) (hs:∀ x∈rs,x.1.size<=1048576/\x.2.size<=1048576) :
  Calls Tryz.prog 20 #[.agg #[.slice a rs.length c]] w fun e w'=>e=.returned (.bool (z0q rs))/\Below w.heap.size w w':=by
 have aB:∀ o,Below w.heap.size w (w.alloc o):=fun o=>(Below.refl _ _).alloc (Nat.le_refl _) _
 obtain ⟨R,HR⟩:∃ R,Hid (R=z0q rs):=⟨_,hid rfl⟩;rw [<-HR.out]
 by_cases hp:(rs.length:Int)<=100
 ·go_enter Tryz.func20,Tryz.ntmps20
  go_wp2;go_loopw [3] (fun i wr=>∃ k:Nat,k<=rs.length/\i=.int .i64 k/\Hid (∀ i,i<k->jq0 rs i=true)/\Below (w.heap.size+1) (w.alloc (.cells #[.slice a rs.length c] 31)) wr) (fun i _=>rs.length-(intOf i).toNat)
  case atStart=>exact ⟨0,Nat.zero_le _,rfl,fun i hi=>by omega,Below.refl _ _⟩
  case round =>
   obtain ⟨k,hk,rfl,HA,aA⟩:=hrel;have aG:Below w.heap.size w wr:=(aB _).trans (aA.mono (by omega));have q0:wr.cell? ⟨w.heap.size,0,none⟩=some (.slice a rs.length c):=(aA.cell (p:=⟨w.heap.size,0,none⟩) (by show w.heap.size<_;omega)).trans (by go_simp);have aW:w.heap.size+1<=wr.heap.size:=by have:=aA.size;simpa using this
   by_cases aC:k<rs.length
   ·obtain ⟨b,o,s0,s1,rfl,aP,aQ,HS⟩:=(h.below aG).at aC
    have hm:Hid ((s0,s1)∈rs):=by show _∈_;rw [HS.out];simp [List.getD,aC]
    obtain ⟨aD,aY⟩:=hs _ hm.out;have aO:(k:Int)<(rs.length:Int):=by omega
    rcases Nat.eq_zero_or_pos k with aH | aH
    ·have aV:decide ((0:Int)<(k:Int))=false:=by simp;omega
     have aN:decide (0<k)=false:=by simp;omega
     have aI:(0:Int)<=(k:Int):=by omega
     have HK:=hid aH;clear aH
     cases hk1:kOk s0 with
     | false =>
      go_wp2_with fail;go_quiet ((go_at_call 38;exact Calls.quiet_of_same (v8I _ _ _ aD hk1)));go_wp2;go_ret;exact ⟨xpe (by rw [HR.out];exact (ZJ2 aC (X3S HS.out hk1)).symm),(aB _).trans ((below_drewN aA _).mono (by omega))⟩
     | true =>
      cases hv1:vOk s1 with
      | false =>
       have aK:decide (100<(s1.size:Int))=true:=by simp [vOk] at hv1;simp;omega
       go_wp2_with fail;go_quiet ((go_at_call 38;exact Calls.quiet_of_same (v8I _ _ _ aD hk1)));go_wp2;go_ret;exact ⟨xpe (by rw [HR.out];exact (ZJ2 aC (yom HS.out hv1)).symm),(aB _).trans ((below_drewN aA _).mono (by omega))⟩
      | true =>
       have aK:decide (100<(s1.size:Int))=false:=by simp [vOk] at hv1;simp;omega
       go_wp2_with fail;go_quiet ((go_at_call 38;exact Calls.quiet_of_same (v8I _ _ _ aD hk1)));go_wp2;go_roundw
       case rel=>exact ⟨_,by omega,by go_num,JUg HA.out (kzx HS.out HK.out hk1 hv1),below_drewN aA _⟩
       case measure=>simp [intOf];omega
    ·obtain ⟨j,hj⟩:∃ j,k=j+1:=⟨k-1,by omega⟩
     have aU:(k:Int)-1=(j:Int):=by omega
     have aS:(0:Int)<=(j:Int):=by omega
     have aI:(0:Int)<=(k:Int):=by omega
     have aM:(0:Int)<(k:Int):=by omega
     have aX:IntKind.i64.wrap (j:Int)=(j:Int):=by simp [IntKind.wrap,IntKind.bits,IntKind.signed];omega
     have aT:(j:Int)<(rs.length:Int):=by omega
     obtain ⟨b',o',t0,t1,he,aL,aR,HT⟩:=(h.below aG).at (show j<rs.length by omega)
     cases he
     have HJ:=hid hj;clear hj
     have aF:∀ ob,Below wr.heap.size wr (wr.alloc ob):=fun ob=>(Below.refl _ _).alloc (Nat.le_refl _) _
     have lb:b<wr.heap.size:=by have:=World.block_lt_of_cell? wr _ aL;simpa using this
     have qa:=((aF (.cells #[.string s0,.string s1] 78)).cell (p:=⟨w.heap.size,0,none⟩) (by show w.heap.size<_;omega)).trans q0;have qb:=((aF (.cells #[.string s0,.string s1] 78)).cell (p:=⟨b,o+j*2,none⟩) lb).trans aL;clear aF lb
     cases hk1:kOk s0 with
     | false =>
      go_wp2_with fail;go_quiet ((go_at_call 38;exact Calls.quiet_of_same (v8I _ _ _ aD hk1)));go_wp2;go_ret;exact ⟨xpe (by rw [HR.out];exact (ZJ2 aC (X3S HS.out hk1)).symm),(aB _).trans ((below_drewN aA _).mono (by omega))⟩
     | true =>
      cases hv1:vOk s1 with
      | false =>
       have aK:decide (100<(s1.size:Int))=true:=by simp [vOk] at hv1;simp;omega
       go_wp2_with fail;go_quiet ((go_at_call 38;exact Calls.quiet_of_same (v8I _ _ _ aD hk1)));go_wp2;go_ret;exact ⟨xpe (by rw [HR.out];exact (ZJ2 aC (yom HS.out hv1)).symm),(aB _).trans ((below_drewN aA _).mono (by omega))⟩
      | true =>
       have aK:decide (100<(s1.size:Int))=false:=by simp [vOk] at hv1;simp;omega
       cases hlt3:Op.bytesLess t0.toList s0.toList with
       | false =>
        have aJ:(!Op.bytesLess t0.toList s0.toList)=true:=by simp [hlt3]
        go_wp2_with fail;go_quiet ((go_at_call 38;exact Calls.quiet_of_same (v8I _ _ _ aD hk1)));go_wp2;go_ret;exact ⟨xpe (by rw [HR.out];exact (ZJ2 aC (yWA HS.out HT.out HJ.out hlt3)).symm),(aB _).trans ((below_drewN aA _).mono (by omega))⟩
       | true =>
        have aJ:(!Op.bytesLess t0.toList s0.toList)=false:=by simp [hlt3]
        go_wp2_with fail;go_quiet ((go_at_call 38;exact Calls.quiet_of_same (v8I _ _ _ aD hk1)));go_wp2;go_roundw
        case rel=>exact ⟨_,by omega,by go_num,JUg HA.out (q0H HS.out HT.out HJ.out hk1 hv1 hlt3),below_drewN aA _⟩
        case measure=>simp [intOf];omega
   ·have aE:Hid (∀ i,i<rs.length->jq0 rs i=true):=fun i hi=>HA.out i (by omega)
    clear HA;go_wp2;go_ret;exact ⟨xpe (by rw [HR.out];exact (qjV (by omega) aE.out).symm),aG⟩
 ·go_enter Tryz.func20,Tryz.ntmps20
  go_wp2;go_ret;exact ⟨xpe (by rw [HR.out];exact (yqw (by omega)).symm),aB _⟩
theorem vrd (a:Option Addr) (rs:List (ByteArray×ByteArray)) (c:Nat) (w:World) (h:Prs w a rs) (hl:rs.length<=1048576) (hs:∀ x∈rs,x.1.size<=1048576/\x.2.size<=1048576) :
  Calls Tryz.prog 54 #[.agg #[.slice a rs.length c]] w fun e w'=>e=.returned (.bool (z0q rs))/\Below w.heap.size w w':=by
 have aB:∀ o,Below w.heap.size w (w.alloc o):=fun o=>(Below.refl _ _).alloc (Nat.le_refl _) _
 obtain ⟨R,HR⟩:∃ R,Hid (R=z0q rs):=⟨_,hid rfl⟩;rw [<-HR.out]
 by_cases hp:(rs.length:Int)<=100
 ·go_enter Tryz.func54,Tryz.ntmps54
  go_wp2;go_loopw [3,4,12] (fun _ _ i wr=>∃ k:Nat,k<=rs.length/\i=.int .i64 k/\Hid (∀ i,i<k->jq0 rs i=true)/\Below (w.heap.size+1) (w.alloc (.cells #[.slice a rs.length c] 31)) wr) (fun _ _ i _=>rs.length-(intOf i).toNat)
  case atStart=>exact ⟨0,Nat.zero_le _,rfl,fun i hi=>by omega,Below.refl _ _⟩
  case round =>
   obtain ⟨k,hk,rfl,HA,aA⟩:=hrel;have aI:Below w.heap.size w wr:=(aB _).trans (aA.mono (by omega));have q0:wr.cell? ⟨w.heap.size,0,none⟩=some (.slice a rs.length c):=(aA.cell (p:=⟨w.heap.size,0,none⟩) (by show w.heap.size<_;omega)).trans (by go_simp);have aD:w.heap.size+1<=wr.heap.size:=by have:=aA.size;simpa using this
   by_cases aC:k<rs.length
   ·obtain ⟨b,o,s0,s1,rfl,aR,aS,HS⟩:=(h.below aI).at aC
    have hm:Hid ((s0,s1)∈rs):=by show _∈_;rw [HS.out];simp [List.getD,aC]
    obtain ⟨aE,aF⟩:=hs _ hm.out;have aQ:(k:Int)<(rs.length:Int):=by omega
    rcases Nat.eq_zero_or_pos k with aJ | aJ
    ·have aX:decide ((0:Int)<(k:Int))=false:=by simp;omega
     have aP:decide (0<k)=false:=by simp;omega
     have aK:(0:Int)<=(k:Int):=by omega
     have HK:=hid aJ;clear aJ
     cases hk1:kOk s0 with
     | false =>
      go_wp2_with (first | (go_at_call 84;refine (J5I _ _ aE).mono ?_;rw [hk1];rintro e w2 ⟨rfl,rfl⟩))
      go_ret;exact ⟨xpe (by rw [HR.out];exact (ZJ2 aC (X3S HS.out hk1)).symm),(aB _).trans ((aA.alloc aD _).mono (by omega))⟩
     | true =>
      cases hv1:vOk s1 with
      | false =>
       have aM:decide (100<(s1.size:Int))=true:=by simp [vOk] at hv1;simp;omega
       go_wp2_with (first | (go_at_call 84;refine (J5I _ _ aE).mono ?_;rw [hk1];rintro e w2 ⟨rfl,rfl⟩) | (go_at_call 85;refine (zR9 _ _ aF).mono ?_;rw [hv1];rintro e w2 ⟨rfl,rfl⟩))
       go_ret;exact ⟨xpe (by rw [HR.out];exact (ZJ2 aC (yom HS.out hv1)).symm),(aB _).trans ((aA.alloc aD _).mono (by omega))⟩
      | true =>
       have aM:decide (100<(s1.size:Int))=false:=by simp [vOk] at hv1;simp;omega
       go_wp2_with (first | (go_at_call 84;refine (J5I _ _ aE).mono ?_;rw [hk1];rintro e w2 ⟨rfl,rfl⟩) | (go_at_call 85;refine (zR9 _ _ aF).mono ?_;rw [hv1];rintro e w2 ⟨rfl,rfl⟩))
       go_quiet (fail);go_wp2;go_roundw
       case rel=>exact ⟨_,by omega,by go_num,JUg HA.out (kzx HS.out HK.out hk1 hv1),below_drewN (aA.alloc aD _) _⟩
       case measure=>simp [intOf];omega
    ·obtain ⟨j,hj⟩:∃ j,k=j+1:=⟨k-1,by omega⟩
     have aW:(k:Int)-1=(j:Int):=by omega
     have aU:(0:Int)<=(j:Int):=by omega
     have aK:(0:Int)<=(k:Int):=by omega
     have aO:(0:Int)<(k:Int):=by omega
     have aY:IntKind.i64.wrap (j:Int)=(j:Int):=by simp [IntKind.wrap,IntKind.bits,IntKind.signed];omega
     have aV:(j:Int)<(rs.length:Int):=by omega
     obtain ⟨b',o',t0,t1,he,aN,aT,HT⟩:=(h.below aI).at (show j<rs.length by omega)
     cases he
     have HJ:=hid hj;clear hj
     have aH:∀ ob,Below wr.heap.size wr (wr.alloc ob):=fun ob=>(Below.refl _ _).alloc (Nat.le_refl _) _
     have lb:b<wr.heap.size:=by have:=World.block_lt_of_cell? wr _ aN;simpa using this
     have qa:=((aH (.cells #[.string s0,.string s1] 78)).cell (p:=⟨w.heap.size,0,none⟩) (by show w.heap.size<_;omega)).trans q0;have qb:=((aH (.cells #[.string s0,.string s1] 78)).cell (p:=⟨b,o+j*2,none⟩) lb).trans aN;clear aH lb
     cases hk1:kOk s0 with
     | false =>
      go_wp2_with (first | (go_at_call 84;refine (J5I _ _ aE).mono ?_;rw [hk1];rintro e w2 ⟨rfl,rfl⟩))
      go_ret;exact ⟨xpe (by rw [HR.out];exact (ZJ2 aC (X3S HS.out hk1)).symm),(aB _).trans ((aA.alloc aD _).mono (by omega))⟩
     | true =>
      cases hv1:vOk s1 with
      | false =>
       have aM:decide (100<(s1.size:Int))=true:=by simp [vOk] at hv1;simp;omega
       go_wp2_with (first | (go_at_call 84;refine (J5I _ _ aE).mono ?_;rw [hk1];rintro e w2 ⟨rfl,rfl⟩) | (go_at_call 85;refine (zR9 _ _ aF).mono ?_;rw [hv1];rintro e w2 ⟨rfl,rfl⟩))
       go_ret;exact ⟨xpe (by rw [HR.out];exact (ZJ2 aC (yom HS.out hv1)).symm),(aB _).trans ((aA.alloc aD _).mono (by omega))⟩
      | true =>
       have aM:decide (100<(s1.size:Int))=false:=by simp [vOk] at hv1;simp;omega
       cases hlt3:Op.bytesLess t0.toList s0.toList with
       | false =>
        have aL:(!Op.bytesLess t0.toList s0.toList)=true:=by simp [hlt3]
        go_wp2_with (first | (go_at_call 84;refine (J5I _ _ aE).mono ?_;rw [hk1];rintro e w2 ⟨rfl,rfl⟩) | (go_at_call 85;refine (zR9 _ _ aF).mono ?_;rw [hv1];rintro e w2 ⟨rfl,rfl⟩))
        go_quiet (fail);go_wp2;go_ret;exact ⟨xpe (by rw [HR.out];exact (ZJ2 aC (yWA HS.out HT.out HJ.out hlt3)).symm),(aB _).trans ((below_drewN (aA.alloc aD _) _).mono (by omega))⟩
       | true =>
        have aL:(!Op.bytesLess t0.toList s0.toList)=false:=by simp [hlt3]
        go_wp2_with (first | (go_at_call 84;refine (J5I _ _ aE).mono ?_;rw [hk1];rintro e w2 ⟨rfl,rfl⟩) | (go_at_call 85;refine (zR9 _ _ aF).mono ?_;rw [hv1];rintro e w2 ⟨rfl,rfl⟩))
        go_quiet (fail);go_wp2;go_roundw
        case rel=>exact ⟨_,by omega,by go_num,JUg HA.out (q0H HS.out HT.out HJ.out hk1 hv1 hlt3),below_drewN (aA.alloc aD _) _⟩
        case measure=>simp [intOf];omega
   ·have aG:Hid (∀ i,i<rs.length->jq0 rs i=true):=fun i hi=>HA.out i (by omega)
    clear HA;go_wp2;go_ret;exact ⟨xpe (by rw [HR.out];exact (qjV (by omega) aG.out).symm),aI⟩
 ·go_enter Tryz.func54,Tryz.ntmps54
  go_wp2;go_ret;exact ⟨xpe (by rw [HR.out];exact (yqw (by omega)).symm),aB _⟩
end
section
theorem jcb {w w':World} {base:Nat} {e:TypeId} {size:Nat} {v:Value} {n:Nat} {xs:List Value} (h:w.ownsRow base e size v n xs) (hb:Below w.heap.size w w'):w'.ownsRow base e size v n xs:=by
 refine ⟨h.1,?_⟩;rcases h.2 with h0 | ⟨g,cap,aA,h1,h2,h3,h4⟩
 ·exact .inl h0
 ·refine .inr ⟨g,cap,aA,h1,h2,?_,h4⟩
  have aB:g<w.heap.size:=by
   rcases Nat.lt_or_ge g w.heap.size with h | h
   ·exact h
   ·rw [Array.getElem?_eq_none h] at h3;cases h3
  rw [hb.block g aB];exact h3
theorem kX5 {w:World} {base:Nat} {e:TypeId} {size:Nat} {g n cap:Nat} {xs:List Value} (h:w.ownsRow base e size (.slice (some ⟨g,0,none⟩) n cap) n xs):Row w g xs:=by
 have hl:=(h.lt g rfl).2;refine ⟨hl,fun i v hv=>?_,fun i hi=>?_⟩
 ·have:=h.cells (g:=g) rfl i v hv
  have ha:(⟨g,0,none⟩:Addr).add i=⟨g,i,none⟩:=by unfold Addr.add;split<;>simp_all
  rwa [ha] at this
 ·rcases h.2 with ⟨h0,_⟩ | ⟨g',aA,aB,h1,_,h3,_⟩
  ·cases h0
  ·simp at h1
   rw [<-h1.1] at h3;simp [World.frozen?,h3]
theorem yUO {w:World} {base:Nat} {e:TypeId} {size:Nat} {v:Value} {n:Nat} {xs:List Value} (h:w.ownsRow base e size v n xs):(v=.slice none 0 0/\n=0)\/∃ g cap,v=.slice (some ⟨g,0,none⟩) n cap/\base<=g/\g<w.heap.size/\Row w g xs:=by
 rcases h.2 with h0 | ⟨g,cap,aA,h1,h2,h3,h4⟩
 ·exact .inl h0
 ·subst h1
  exact .inr ⟨g,cap,rfl,h2,(h.lt g rfl).2,kX5 h⟩
structure Dsk (W w:World) (R D base:Nat) (e e':TypeId) (v v':Value) (ss:List ByteArray) (ws:List (Int×ByteArray)):Prop where
 hR:W.heap.size<=R
 hR':R<base
 hD:W.heap.size<=D
 hD':D<base
 ne:R≠D
 sz:base<=w.heap.size
 bel:Below W.heap.size W w
 r0:w.cell? ⟨R,0,none⟩=some (.slice none 0 0)
 r1:w.cell? ⟨R,1,none⟩=some (.slice none 0 0)
 fr0:w.frozen? ⟨R,0,none⟩=false
 fr1:w.frozen? ⟨R,1,none⟩=false
 d0:w.cell? ⟨D,0,none⟩=some v
 d1:w.cell? ⟨D,1,none⟩=some v'
 fd0:w.frozen? ⟨D,0,none⟩=false
 fd1:w.frozen? ⟨D,1,none⟩=false
 own:w.ownsRow base e 1 v ss.length (ss.map Value.string)
 own':w.ownsRow base e' 2 v' ws.length (yaV ws)
 apart:v.ownBlock=none\/v'.ownBlock=none\/v.ownBlock≠v'.ownBlock
section
variable {W w w':World} {R D base:Nat} {e e':TypeId} {v v':Value} {ss:List ByteArray} {ws:List (Int×ByteArray)}
theorem Dsk.below (h:Dsk W w R D base e e' v v' ss ws) (hb:Below w.heap.size w w'):Dsk W w' R D base e e' v v' ss ws :=
 have lR:R<w.heap.size:=Nat.lt_of_lt_of_le h.hR' h.sz;have lD:D<w.heap.size:=Nat.lt_of_lt_of_le h.hD' h.sz;have lW:W.heap.size<=w.heap.size:=h.bel.size
 ⟨h.hR,h.hR',h.hD,h.hD',h.ne,Nat.le_trans h.sz hb.size,h.bel.trans (hb.mono lW),(hb.cell (p:=⟨R,0,none⟩) lR).trans h.r0,(hb.cell (p:=⟨R,1,none⟩) lR).trans h.r1,(hb.frozen (p:=⟨R,0,none⟩) lR).trans h.fr0,(hb.frozen (p:=⟨R,1,none⟩) lR).trans h.fr1,
  (hb.cell (p:=⟨D,0,none⟩) lD).trans h.d0,(hb.cell (p:=⟨D,1,none⟩) lD).trans h.d1,(hb.frozen (p:=⟨D,0,none⟩) lD).trans h.fd0,(hb.frozen (p:=⟨D,1,none⟩) lD).trans h.fd1,jcb h.own hb,jcb h.own' hb,h.apart⟩
theorem Dsk.drew (h:Dsk W w R D base e e' v v' ss ws):Dsk W w.drew R D base e e' v v' ss ws:=h.below ((Below.refl _ _).drew)
theorem Dsk.alloc (h:Dsk W w R D base e e' v v' ss ws) (o:Obj):Dsk W (w.alloc o) R D base e e' v v' ss ws:=h.below ((Below.refl _ _).alloc (Nat.le_refl _) _)
theorem Dsk.push (h:Dsk W w R D base e e' v v' ss ws) {w1:World} {g cap H:Nat} {s:ByteArray} (aA:w1.ownsRow base e 1 (.slice (some ⟨g,0,none⟩) (ss.length+1) cap) (ss.length+1) (ss.map Value.string++[.string s])) (hg:w.grownBy w1 v.ownBlock) (aC:v.ownBlock=some g\/g=H) (hH:w.heap.size=H) :
  Dsk W (w1.setCell ⟨D,0,none⟩ (.slice (some ⟨g,0,none⟩) (ss.length+1) cap)) R D base e e' (.slice (some ⟨g,0,none⟩) (ss.length+1) cap) v' (ss++[s]) ws:=by
 have lR:R<w.heap.size:=Nat.lt_of_lt_of_le h.hR' h.sz;have lD:D<w.heap.size:=Nat.lt_of_lt_of_le h.hD' h.sz;have lW:W.heap.size<=w.heap.size:=h.bel.size
 have nb:∀ k,k<base->some k≠v.ownBlock:=fun k hk he=>by have:=(h.own.lt k he.symm).1;omega
 have cR:∀ i,w1.cell? ⟨R,i,none⟩=w.cell? ⟨R,i,none⟩:=fun i=>hg.cell_far ⟨R,i,none⟩ lR (nb R h.hR')
 have cD:∀ i,w1.cell? ⟨D,i,none⟩=w.cell? ⟨D,i,none⟩:=fun i=>hg.cell_far ⟨D,i,none⟩ lD (nb D h.hD')
 have fR:∀ i,w1.frozen? ⟨R,i,none⟩=w.frozen? ⟨R,i,none⟩:=fun i=>hg.frozen_far ⟨R,i,none⟩ lR (nb R h.hR')
 have fD:∀ i,w1.frozen? ⟨D,i,none⟩=w.frozen? ⟨D,i,none⟩:=fun i=>hg.frozen_far ⟨D,i,none⟩ lD (nb D h.hD')
 have gb:base<=g:=(aA.lt g rfl).1;have aB:Below W.heap.size W w1:=h.bel.trans ⟨hg.os,hg.tape,hg.output,hg.size,fun k hk=>hg.block k (by omega) (nb k (by have:=h.hR;have:=h.hR';omega))⟩
 have ap:v'.ownBlock=none\/(Value.slice (some ⟨g,0,none⟩) (ss.length+1) cap).ownBlock≠v'.ownBlock:=by
  cases hv':v'.ownBlock with
  | none=>exact .inl rfl
  | some g' =>
   refine .inr fun he=>?_
   have aD:g=g':=by simpa [Value.ownBlock] using he
   have aE:=(h.own'.lt g' hv').2;rcases aC with h1 | h1
   ·rcases h.apart with h2 | h2 | h2
    ·rw [h1] at h2;cases h2
    ·rw [hv'] at h2;cases h2
    ·rw [h1,hv',aD] at h2;exact h2 rfl
   ·omega
 refine ⟨h.hR,h.hR',h.hD,h.hD',h.ne,?_,aB.setCell h.hD _,?_,?_,?_,?_,?_,?_,?_,?_,?_,?_,?_⟩
 ·have:=hg.size;have:=h.sz;simp only [World.size_setCell];omega
 ·rw [World.cell?_setCell_other (w:=w1) (h:=show (⟨D,0,none⟩:Addr)≠⟨R,0,none⟩ from fun he=>h.ne (by injection he with h1;exact h1.symm)),cR];exact h.r0
 ·rw [World.cell?_setCell_other (w:=w1) (h:=show (⟨D,0,none⟩:Addr)≠⟨R,1,none⟩ from fun he=>h.ne (by injection he with h1;exact h1.symm)),cR];exact h.r1
 ·rw [World.frozen?_setCell,fR];exact h.fr0
 ·rw [World.frozen?_setCell,fR];exact h.fr1
 ·exact World.cell?_setCell_same w1 _ _ ((cD 0).trans h.d0)
 ·rw [World.cell?_setCell_other (w:=w1) (h:=show (⟨D,0,none⟩:Addr)≠⟨D,1,none⟩ by simp),cD];exact h.d1
 ·rw [World.frozen?_setCell,fD];exact h.fd0
 ·rw [World.frozen?_setCell,fD];exact h.fd1
 ·have:=ownsRow_setCell_below aA (a:=⟨D,0,none⟩) h.hD' (.slice (some ⟨g,0,none⟩) (ss.length+1) cap)
  simpa using this
 ·have k1:w1.ownsRow base e' 2 v' ws.length (yaV ws):=h.own'.kept hg (by
   rcases h.apart with h2 | h2 | h2
   ·cases hv':v'.ownBlock with
    | none=>exact .inl rfl
    | some _=>rw [h2];exact .inr (by simp)
   ·exact .inl h2
   ·exact .inr (fun he=>h2 he.symm))
  exact ownsRow_setCell_below k1 (a:=⟨D,0,none⟩) h.hD' _
 ·exact .inr ap
theorem Dsk.grown {w1:World} (h:Dsk W w R D base e e' v v' ss ws) (hg:w.grownBy w1 v.ownBlock):w1.cell? ⟨D,0,none⟩=some v/\w1.frozen? ⟨D,0,none⟩=false:=by
 have lD:D<w.heap.size:=Nat.lt_of_lt_of_le h.hD' h.sz
 have nb:some D≠v.ownBlock:=fun he=>by have:=(h.own.lt D he.symm).1;have:=h.hD';omega
 exact ⟨(hg.cell_far ⟨D,0,none⟩ lD nb).trans h.d0,(hg.frozen_far ⟨D,0,none⟩ lD nb).trans h.fd0⟩
end
end
def chN (x:ByteArray×ByteArray×Bool):List Int:=if x.2.2 then [1]++([(x.1.size:Int)]++zFD x.1) else [0]++([(x.1.size:Int)]++zFD x.1)++([(x.2.1.size:Int)]++zFD x.2.1)
def vGL (rs:List (ByteArray×ByteArray×Bool)):ByteArray:=strOfNums (rs.flatMap chN)
theorem xbv:vGL []=ByteArray.empty:=rfl
theorem Z6h (k v:ByteArray):strOfNums [0]++(strOfNums [(k.size:Int)]++k)++(strOfNums [(v.size:Int)]++v)=strOfNums (chN (k,v,false)):=by
 show _=strOfNums ([0]++([(k.size:Int)]++zFD k)++([(v.size:Int)]++zFD v));rw [zQR,zQR,zQR,zQR,ZXs,ZXs]
theorem jps (k v:ByteArray):strOfNums [1]++(strOfNums [(k.size:Int)]++k)=strOfNums (chN (k,v,true)):=by
 show _=strOfNums ([1]++([(k.size:Int)]++zFD k));rw [zQR,zQR,ZXs]
theorem jVe (rs:List (ByteArray×ByteArray×Bool)) (k:Nat) (x:ByteArray×ByteArray×Bool) (d:ByteArray×ByteArray×Bool) (h:k<rs.length) (hx:x=rs.getD k d):vGL (rs.take (k+1))=vGL (rs.take k)++strOfNums (chN x):=by
 unfold vGL;rw [List.take_succ_eq_append_getElem h,List.flatMap_append,zQR];simp [List.getD,h] at hx;rw [hx];simp
theorem JeZ (x:ByteArray×ByteArray×Bool) (h:yO3 x=true):(strOfNums (chN x)).size<=123:=by
 rw [strOfNums_size];unfold yO3 kOk vOk at h;simp only [Bool.and_eq_true,decide_eq_true_eq] at h;unfold chN
 split
 ·simp [vgz];omega
 ·simp [vgz];omega
theorem XEt (rs:List (ByteArray×ByteArray×Bool)) (h:∀ x∈rs,yO3 x=true):(vGL rs).size<=123*rs.length:=by
 induction rs with
 | nil=>simp [xbv]
 | cons x r ih =>
  have h1:=ih (fun y hy=>h y (List.mem_cons_of_mem _ hy));have h2:=JeZ x (h x (List.mem_cons_self));have e:vGL (x::r)=strOfNums (chN x)++vGL r:=by unfold vGL;rw [List.flatMap_cons,zQR]
  rw [e,ByteArray.size_append,List.length_cons];omega
def jvj (rs:List (ByteArray×ByteArray×Bool)):ByteArray:=if kpJ rs=true then vGL rs else ByteArray.empty
abbrev Ch:=ByteArray×ByteArray×Bool
def b0 (r:ByteArray):Nat:=(r.data.toList.getD 0 0).toNat
theorem Q10 (r:ByteArray):b0 r<=255:=by unfold b0;have:=UInt8.toNat_lt (r.data.toList.getD 0 0);omega
theorem qUX (r:ByteArray) (a b:Nat):zFD (r.extract a b)=((zFD r).drop a).take (b-a):=by
 unfold zFD;rw [ByteArray.data_extract,Array.toList_extract,List.extract_eq_take_drop,List.map_take,List.map_drop]
theorem ZSe (r:ByteArray) (h:0<r.size):zFD r=(b0 r:Int)::(zFD r).drop 1:=by
 have hl:0<r.data.toList.length:=h;unfold zFD b0
 match r.data.toList,hl with
 | x::l,_=>simp
theorem yKN {r s:ByteArray} (h:zFD r=zFD s):r=s:=by rw [<-ZXs r,h,ZXs]
theorem jRR (r:ByteArray):∀ y∈zFD r,0<=y/\y<=255:=by
 intro y hy;unfold zFD at hy;obtain ⟨c,_,rfl⟩:=List.mem_map.1 hy;have:=UInt8.toNat_lt c;omega
theorem yC3:∀ (xs:List Int),(∀ y∈xs,0<=y/\y<=255)->zFD (strOfNums xs)=xs
 | [],_=>rfl
 | x::l,h=>by
  have ih:=yC3 l (fun y hy=>h y (List.mem_cons_of_mem _ hy));have hx:=h x (List.mem_cons_self);simp only [zFD,strOfNums] at ih ⊢;simp only [List.map_cons,List.map_map,List.toList_toArray] at ih ⊢;simp [List.map_eq_map_iff] at ih ⊢
  constructor
  ·omega
  ·exact ih
def pc (r:ByteArray):Option (ByteArray×ByteArray):=if 1<=r.size/\1+b0 r<=r.size then some (r.extract 1 (1+b0 r),r.extract (1+b0 r) r.size) else none
theorem knt {r k m:ByteArray} (h:pc r=some (k,m)):zFD r=[(k.size:Int)]++zFD k++zFD m/\k.size<=255:=by
 unfold pc at h
 split at h
 ·rename_i hc
  simp only [Option.some.injEq,Prod.mk.injEq] at h;obtain ⟨rfl,rfl⟩:=h;have hk:(r.extract 1 (1+b0 r)).size=b0 r:=by simp only [ByteArray.size_extract];omega
  refine ⟨?_,by rw [hk];exact Q10 r⟩;rw [hk,qUX,qUX];have hn:=ZSe r (by omega);have e1:r.size-(1+b0 r)=(zFD r).length-(1+b0 r):=by rw [vgz]
  rw [e1,<-List.length_drop,List.take_length];have e2:1+b0 r-1=b0 r:=by omega
  rw [e2];have e3:(zFD r).drop (1+b0 r)=((zFD r).drop 1).drop (b0 r):=by rw [List.drop_drop]
  rw [e3,List.append_assoc,List.take_append_drop];exact hn
 ·cases h
def stp (r:ByteArray):Option (Ch×ByteArray) :=
 match pc (r.extract 1 r.size) with
 | none=>none
 | some (k,m)=>if b0 r=1 then some ((k,ByteArray.empty,true),m) else
  match pc m with
  | none=>none
  | some (v,m')=>some ((k,v,false),m')
theorem xPN (r:ByteArray):zFD (r.extract 1 r.size)=(zFD r).drop 1:=by
 rw [qUX];have e1:r.size-1=((zFD r).drop 1).length:=by rw [List.length_drop,vgz]
 rw [e1,List.take_length]
theorem kUx {r r1:ByteArray} {c:Ch} (hr:0<r.size) (h:stp r=some (c,r1)):c.1.size<=255/\c.2.1.size<=255/\∃ t,chN c++zFD r1=(if b0 r=1 then 1 else 0)::t/\zFD r=(b0 r:Int)::t:=by
 unfold stp at h
 split at h
 ·cases h
 ·rename_i k m hp
  obtain ⟨h1,h2⟩:=knt hp;rw [xPN] at h1;have hn:=ZSe r hr
  split at h
  ·rename_i hb
   simp only [Option.some.injEq,Prod.mk.injEq] at h;obtain ⟨rfl,rfl⟩:=h;refine ⟨h2,by simp,_,?_,hn⟩;rw [h1,if_pos hb];simp [chN]
  ·rename_i hb
   split at h
   ·cases h
   ·rename_i v m' hq
    obtain ⟨h3,h4⟩:=knt hq;simp only [Option.some.injEq,Prod.mk.injEq] at h;obtain ⟨rfl,rfl⟩:=h;refine ⟨h2,h4,_,?_,hn⟩;rw [h1,h3,if_neg hb];simp [chN]
def run:Nat->ByteArray->List Ch->Option (List Ch×ByteArray)
 | 0,r,o=>some (o,r)
 | n+1,r,o=>if r.size=0 then some (o,r) else
  match stp r with
  | none=>none
  | some (c,r')=>run n r' (o++[c])
def J3F:Nat->ByteArray->List Ch->Option (List Ch×ByteArray)
 | 0,r,o=>some (o,r)
 | n+1,r,o=>if r.size=0 then some (o,r) else if 1<b0 r then none else
  match stp r with
  | none=>none
  | some (c,r')=>J3F n r' (o++[c])
theorem Jpl (n:Nat) (o:List Ch) (r:ByteArray) (h:r.size=0):run n r o=some (o,r):=by cases n<;>simp [run,h]
theorem Z6r:∀ (n:Nat) (r:ByteArray) (o o':List Ch) (r':ByteArray),run n r o=some (o',r') ->
  ∃ l,o'=o++l/\(∀ x∈l,x.1.size<=255/\x.2.1.size<=255)/\(r'.size=0\/l.length=n) /\
   ((J3F n r o=some (o',r')/\l.flatMap chN++zFD r'=zFD r)\/(J3F n r o=none/\∀ z,l.flatMap chN++z≠zFD r))
 | 0,r,o,o',r',h=>by
  simp only [run,Option.some.injEq,Prod.mk.injEq] at h;obtain ⟨rfl,rfl⟩:=h;exact ⟨[],by simp,by simp,.inr rfl,.inl ⟨rfl,by simp⟩⟩
 | n+1,r,o,o',r',h=>by
  by_cases hz:r.size=0
  ·rw [run,if_pos hz] at h
   simp only [Option.some.injEq,Prod.mk.injEq] at h;obtain ⟨rfl,rfl⟩:=h;exact ⟨[],by simp,by simp,.inl hz,.inl ⟨by rw [J3F,if_pos hz],by simp⟩⟩
  ·rw [run,if_neg hz] at h
   cases hs:stp r with
   | none=>rw [hs] at h;cases h
   | some p =>
    obtain ⟨c,r1⟩:=p;rw [hs] at h;obtain ⟨k1,k2,t,k3,k4⟩:=kUx (by omega) hs;obtain ⟨l,e1,e2,e3,e4⟩:=Z6r n r1 (o++[c]) o' r' h;refine ⟨c::l,by rw [e1];simp,fun x hx=>?_,?_,?_⟩
    ·rcases List.mem_cons.1 hx with rfl | hx
     ·exact ⟨k1,k2⟩
     ·exact e2 x hx
    ·rcases e3 with e3 | e3
     ·exact .inl e3
     ·exact .inr (by simp [e3])
    ·by_cases hb:1<b0 r
     ·refine .inr ⟨by rw [J3F,if_neg hz,if_pos hb],fun z aA=>?_⟩
      have hb1:¬ b0 r=1:=by omega
      rw [if_neg hb1] at k3
      have hc:∃ u,chN c=0::u:=by
       have:c.2.2=false:=by
        unfold stp at hs
        split at hs
        ·cases hs
        ·rw [if_neg hb1] at hs
         split at hs
         ·cases hs
         ·simp only [Option.some.injEq,Prod.mk.injEq] at hs
          rw [<-hs.1]
       exact ⟨_,by unfold chN;rw [this];rfl⟩
      obtain ⟨u,hu⟩:=hc;rw [List.flatMap_cons,hu,k4] at aA;simp at aA;omega
     ·have hr:zFD r=chN c++zFD r1:=by
       rw [k3,k4]
       split
       ·rename_i h1;rw [h1];rfl
       ·have:b0 r=0:=by omega
        rw [this];rfl
      have aB:J3F (n+1) r o=J3F n r1 (o++[c]):=by rw [J3F,if_neg hz,if_neg hb,hs]
      rcases e4 with ⟨e4,e5⟩ | ⟨e4,e5⟩
      ·refine .inl ⟨aB.trans e4,?_⟩
       rw [List.flatMap_cons,List.append_assoc,e5,hr]
      ·refine .inr ⟨aB.trans e4,fun z aA=>e5 z ?_⟩
       rw [List.flatMap_cons,List.append_assoc,hr] at aA;exact List.append_cancel_left aA
theorem Jam:∀ (n:Nat) (r:ByteArray) (o:List Ch),run n r o=none->J3F n r o=none
 | 0,r,o,h=>by simp [run] at h
 | n+1,r,o,h=>by
  by_cases hz:r.size=0
  ·rw [run,if_pos hz] at h;cases h
  ·rw [run,if_neg hz] at h
   rw [J3F,if_neg hz]
   split
   ·rfl
   ·cases hs:stp r with
    | none=>rfl
    | some p =>
     obtain ⟨c,r1⟩:=p;rw [hs] at h;exact Jam n r1 _ h
theorem kYB (x:Ch) (h1:x.1.size<=255) (h2:x.2.1.size<=255):∀ y∈chN x,0<=y/\y<=255:=by
 intro y hy;unfold chN at hy
 split at hy
 ·simp only [List.mem_append,List.mem_cons,List.not_mem_nil,or_false] at hy
  rcases hy with rfl | rfl | hy
  ·omega
  ·omega
  ·exact jRR _ y hy
 ·simp only [List.mem_append,List.mem_cons,List.not_mem_nil,or_false] at hy
  rcases hy with (rfl | rfl | hy) | rfl | hy
  ·omega
  ·omega
  ·exact jRR _ y hy
  ·omega
  ·exact jRR _ y hy
def yjX (s:ByteArray):Option (List Ch):=match run 21 s [] with | none=>none | some (o,_)=>if s.size≠0/\jvj o=s then some o else none
def ZnV (s:ByteArray):Option (List Ch):=match J3F 21 s [] with | none=>none | some (o,_)=>if kpJ o=true then some o else none
theorem jLn (s:ByteArray):ZnV s=yjX s:=by
 unfold ZnV yjX
 cases hr:run 21 s [] with
 | none=>rw [Jam _ _ _ hr]
 | some p =>
  obtain ⟨o,r⟩:=p;obtain ⟨l,e1,e2,e3,e4⟩:=Z6r 21 s [] o r hr;rw [List.nil_append] at e1;subst e1
  have aB:∀ y∈o.flatMap chN,0<=y/\y<=255:=by
   intro y hy;obtain ⟨x,hx,hy⟩:=List.mem_flatMap.1 hy;exact kYB x (e2 x hx).1 (e2 x hx).2 y hy
  have aC:vGL o=s->o.flatMap chN=zFD s:=fun h=>by rw [<-h];exact (yC3 _ aB).symm
  rcases e4 with ⟨e4,e5⟩ | ⟨e4,e5⟩
  ·rw [e4]
   simp only
   by_cases aA:kpJ o=true
   ·have aF:r.size=0:=by
     rcases e3 with e3 | e3
     ·exact e3
     ·have:=(q4Z aA).1;omega
    have aD:zFD r=[]:=List.eq_nil_of_length_eq_zero (by rw [vgz];exact aF);rw [aD,List.append_nil] at e5
    have hs:jvj o=s:=by
     unfold jvj;rw [if_pos aA]
     apply yKN
     rw [<-e5];exact yC3 _ aB
    have aG:s.size≠0:=by
     intro h0;have aE:zFD s=[]:=List.eq_nil_of_length_eq_zero (by rw [vgz];exact h0);rw [aE] at e5
     match o,(q4Z aA).1 with
     | x::o',_ =>
      simp only [List.flatMap_cons,List.append_eq_nil_iff] at e5;have:=e5.1;unfold chN at this
      split at this<;>simp at this
    rw [if_pos aA,if_pos ⟨aG,hs⟩]
   ·have hb:jvj o=ByteArray.empty:=by unfold jvj;rw [if_neg aA]
    rw [if_neg aA,if_neg];rintro ⟨h1,h2⟩;rw [hb] at h2;rw [<-h2] at h1;exact h1 rfl
  ·rw [e4]
   simp only;rw [if_neg];rintro ⟨h1,h2⟩;unfold jvj at h2
   split at h2
   ·have:=aC h2
    exact e5 [] (by rw [List.append_nil];exact this)
   ·rw [<-h2] at h1
    exact h1 rfl
end Go.Proofs.YtehbpeinnepdcaaGreatDoor
