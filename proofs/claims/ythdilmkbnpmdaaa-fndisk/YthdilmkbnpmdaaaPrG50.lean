import Derived.Laws.BytesArg
import Derived.WalkKit
import Derived.OrdersHeld
import Derived.Deep.RegionHeld
import Derived.WalkSpells
import Derived.WalkLawsBesides
import Derived.Outline
import Derived.BigQuiet
import Derived.Deep.QuietTactic
import Derived.Deep.RegionHeld3
import Derived.Test.YthdilmkbnpmdaaaProg
import Derived.Laws.MakeOwn
import Derived.WalkSmall
import Derived.Deep.Draws
import Derived.Deep.Cut
import Derived.Deep.CutRange
set_option maxHeartbeats 16000000
set_option maxRecDepth 8000
set_option linter.unusedVariables false
set_option linter.unusedSimpArgs false
namespace Go.Proofs.Ythdilmkbnpmdaaa
open Go.RowKit
def sh:Nat->Int->Int
 | 0,v=>v
 | j+1,v=>sh j v / 256
theorem sh_bd (j:Nat) (v:Int) (h0:0<=v) (h1:v<=18446744073709551615):0<=sh j v/\sh j v<=18446744073709551615:=by
 induction j with
 | zero=>exact ⟨h0,h1⟩
 | succ j ih=>unfold sh;omega
theorem sh_bd2 (j:Nat) (v:Int) (h0:0<=v) (h1:v<=9223372036854775807):0<=sh j v/\sh j v<=9223372036854775807:=by
 induction j with
 | zero=>exact ⟨h0,h1⟩
 | succ j ih=>unfold sh;omega
def be (n:Nat) (v:Int):List Int:=(List.range n).map fun i=>sh (n-1-i) v % 256
theorem be_length (n:Nat) (v:Int):(be n v).length=n:=by simp [be]
theorem be_succ (n:Nat) (v:Int):be (n+1) v=(sh n v % 256)::be n v:=by
 unfold be
 rw [List.range_succ_eq_map]
 simp only [List.map_cons,List.map_map,List.cons.injEq]
 refine ⟨by simp,?_⟩
 apply List.map_congr_left
 intro i hi
 simp at hi
 simp only [Function.comp]
 rw [show n+1-1-(i+1)=n-1-i by omega]
theorem strOfNums_append (a b:List Int):strOfNums (a++b)=strOfNums a++strOfNums b:=by
 apply ByteArray.ext
 simp [strOfNums]
def fnvStep (x:Int) (c:UInt8):Int:=IntKind.u64.wrap (bits BinOp.xor IntKind.u64 x (IntKind.u64.wrap (c.toNat:Int))*1099511628211)
def fnv (l:List UInt8):Int:=l.foldl fnvStep 14695981039346656037
theorem wrap_u64_bd (x:Int):0<=IntKind.u64.wrap x/\IntKind.u64.wrap x<=18446744073709551615:=by
 simp [IntKind.wrap,IntKind.bits,IntKind.signed]
 omega
theorem fnv_snoc (l:List UInt8) (c:UInt8):fnv (l++[c])=fnvStep (fnv l) c:=by simp [fnv]
theorem fnv_bd (l:List UInt8):0<=fnv l/\fnv l<=18446744073709551615:=by
 rcases List.eq_nil_or_concat l with rfl | ⟨l',c,rfl⟩
 ·unfold fnv;simp
 ·rw [List.concat_eq_append,fnv_snoc];exact wrap_u64_bd _
theorem take_snoc (s:ByteArray) (k:Nat) (h:k<s.size):s.data.toList.take (k+1)=s.data.toList.take k++[s[k]]:=by
 rw [List.take_succ_eq_append_getElem (by simpa using h)];rfl
def sumN (s:ByteArray) (n:Nat):ByteArray:=strOfNums (be n (fnv s.data.toList))
theorem sumN_size (s:ByteArray) (n:Nat):(sumN s n).size=n:=by unfold sumN;rw [strOfNums_size,be_length]
theorem slice_arr_to {P:Program} {t e:TypeId} {L:Nat} (ht:P.underlying t=some (.array L e)) (hz:∀ w,(sizeOf e).run P w=.ok 1 w) (b off h:Nat) (hL:0<L) (hl:h<=L) (k:IntKind) (li:Int) (hli:li=(h:Int)) (w:World) :
  (Instr.sliceAt t (.pointer (some ⟨b,off,none⟩)) none (some (.int k li)) none).run P w=.ok (.slice (some ⟨b,off,none⟩) h L) w:=by
 have e1:P.arrayLen t=L:=by simp [Program.arrayLen,ht]
 have e2:P.elem t=e:=by simp [Program.elem,ht]
 rw [run_sliceAt_array_h (P:=P) w t ⟨b,off,none⟩ (by rw [e1,e2];exact ht) k li (by omega) (by omega),e1,e2,hz,hli]
 have e3:L≠0:=by omega
 simp [slicedAt,Addr.add]
theorem isEmpty_size (p:ByteArray):p.toList.isEmpty=decide (p.size=0):=by
 rw [ByteArray.toList_eq]
 have e:p.size=p.data.toList.length:=rfl
 rw [e]
 cases p.data.toList<;>simp
def nums (p:ByteArray):List Int:=p.data.toList.map fun c=>(c.toNat:Int)
theorem nums_length (p:ByteArray):(nums p).length=p.size:=by simp [nums]
theorem strOfNums_nums (p:ByteArray):strOfNums (nums p)=p:=by
 apply ByteArray.ext
 simp [strOfNums,nums,Function.comp_def]
def pageHead (k l m:Int) (p:ByteArray):List Int:=be 1 k++be 2 l++be 4 m++be 1 (p.size:Int)++nums p
theorem pageHead_length (k l m:Int) (p:ByteArray):(pageHead k l m p).length=8+p.size:=by
 simp [pageHead,be_length,nums_length];omega
def pageBody (k l m:Int) (p:ByteArray) (n:Nat):List Int:=pageHead k l m p++List.replicate (56-n-p.size) 0
theorem pageBody_length (k l m:Int) (p:ByteArray) (n:Nat) (h:p.size+n<=56):(pageBody k l m p n).length=64-n:=by
 simp [pageBody,pageHead_length];omega
def pageForm (k l m:Int) (p:ByteArray) (n:Nat):ByteArray:=sumN (strOfNums (pageBody k l m p n)) n++strOfNums (pageBody k l m p n)
theorem pageForm_size (k l m:Int) (p:ByteArray) (n:Nat) (h:p.size+n<=56):(pageForm k l m p n).size=64:=by
 unfold pageForm
 rw [ByteArray.size_append,sumN_size,strOfNums_size,pageBody_length k l m p n h]
 omega
structure Wrote (w w':World) (b off:Nat) (xs:List Int):Prop where
 os:w'.os=w.os
 tape:w'.tape=w.tape
 output:w'.output=w.output
 size:w'.heap.size=w.heap.size
 others:∀ k,k≠b->w'.heap[k]?=w.heap[k]?
 inside:∀ i,i<xs.length->w'.cell? ⟨b,off+i,none⟩=some (.int .u8 (xs.getD i 0))
 outside:∀ o,(o<off\/off+xs.length<=o)->w'.cell? ⟨b,o,none⟩=w.cell? ⟨b,o,none⟩
 frozen:∀ a,w'.frozen? a=w.frozen? a
theorem Wrote.refl (w:World) (b off:Nat):Wrote w w b off []:=⟨rfl,rfl,rfl,rfl,fun _ _=>rfl,fun i h=>by simp at h,fun _ _=>rfl,fun _=>rfl⟩
theorem Wrote.below {w w':World} {b off:Nat} {xs:List Int} (h:Wrote w w' b off xs) {B:Nat} (hB:B<=b):Below B w w' :=
 ⟨h.os,h.tape,h.output,by rw [h.size];exact Nat.le_refl _,fun k hk=>h.others k (by omega)⟩
theorem Wrote.step {w w':World} {b off:Nat} {xs:List Int} (h:Wrote w w' b (off+1) xs) (n:Int) {u:Value} (hc:w.cell? ⟨b,off,none⟩=some u):Wrote w (w'.setCell ⟨b,off,none⟩ (.int .u8 n)) b off (n::xs):=by
 have hc':w'.cell? ⟨b,off,none⟩=some u:=(h.outside off (.inl (by omega))).trans hc
 refine ⟨h.os,h.tape,h.output,?_,fun k hk=>?_,fun i hi=>?_,fun o ho=>?_,fun a=>?_⟩
 ·rw [<-h.size];simp [World.setCell]
 ·rw [Below.heap_setCell _ _ _ _ hk];exact h.others k hk
 ·cases i with
  | zero=>simpa using World.cell?_setCell_same w' ⟨b,off,none⟩ (.int .u8 n) hc'
  | succ i =>
   rw [World.cell?_setCell_other (w:=w') (h:=show (⟨b,off,none⟩:Addr)≠⟨b,off+(i+1),none⟩ by simp)]
   have:=h.inside i (by simpa using hi)
   rw [show off+(i+1)=off+1+i by omega,this]
   simp
 ·simp only [List.length_cons] at ho
  rw [World.cell?_setCell_other (w:=w') (h:=show (⟨b,off,none⟩:Addr)≠⟨b,o,none⟩ by simp<;>omega)]
  exact h.outside o (by omega)
 ·rw [World.frozen?_setCell];exact h.frozen a
/-- What a put into a frame that is written out comes to. -/
theorem PS:(∀ (a:Act) (t:Nat) (v:Value),a.put (some t) v={ a with tmps:=a.tmps.setIfInBounds t v })/\(∀ (a:Act) (v:Value),a.put none v=a)/\(∀ (l:List Value) (i:Nat) (v:Value),l.toArray.setIfInBounds i v=(l.set i v).toArray)/\(∀ (x y:Value) (l:List Value),(x::l).set 0 y=y::l)/\(∀ (x y:Value) (l:List Value) (n:Nat),(x::l).set (n+1) y=x::l.set n y)/\(∀ (l:List Oper) (i:Nat) (h:i<l.toArray.size),l.toArray[i]=l[i]'(by simpa using h))/\(∀ (x:Oper) (l:List Oper) (h:0<(x::l).length),(x::l)[0]'h=x)/\(∀ (x:Oper) (l:List Oper) (i:Nat) (h:i+1<(x::l).length),(x::l)[i+1]'h=l[i]'(by simpa using h)) :=
 ⟨fun _ _ _=>rfl,fun _ _=>rfl,fun _ _ _=>by simp,fun _ _ _=>rfl,fun _ _ _ _=>rfl,fun _ _ _=>by simp,fun _ _ _=>rfl,fun _ _ _ _=>rfl⟩
/-- 'wpAnyH_take' with what the kernel reckons left to itself. -/
theorem TK {P:Program} {ops:Array Oper} {Q:Exit->Act->World->Prop} {md:Region.Mode} {S:World->Prop} (i:Nat) {oi:Oper} (v:Value) {fuel:Nat} {listed:Array Bool} {a:Act} {w:World} (hi:ops[i]?=some oi) (hy:YieldsIf P ops S oi v a) (hS:S w)
  (h:wpAnyH P md ops Q S fuel (listed.setIfInBounds i true) (a.put oi.dst v) w) (hs:Region.noSelect ops=true:=by kernel_rfl) (hf:Region.free md ops listed i=true:=by kernel_rfl) (hr:(Region.ready md ops listed).contains i=true:=by kernel_rfl)
  (hQ:∀ c a w,Q (.panic c) (a.put oi.dst v) w->Q (.panic c) a w:=by exact fun _ _ _ h=>h):wpAnyH P md ops Q S (fuel+1) listed a w:=wpAnyH_take hi hs hf hr hQ hy hS h
theorem TY {P:Program} {ops:Array Oper} {Q:Exit->Act->World->Prop} {md:Region.Mode} {S:World->Prop} (i:Nat) {oi:Oper} (v:Value) {fuel:Nat} {listed:Array Bool} {a:Act} {w:World} (hi:ops[i]?=some oi) (hS:S w)
  (h:wpAnyH P md ops Q S fuel (listed.setIfInBounds i true) (a.put oi.dst v) w) (hy:YieldsIf P ops S oi v a:=by exact Or.inl ⟨by rfl,fun w hw=>by (repeat (obtain ⟨_,hw⟩:=hw));go_simp⟩) (hs:Region.noSelect ops=true:=by kernel_rfl) (hf:Region.free md ops listed i=true:=by kernel_rfl) (hr:(Region.ready md ops listed).contains i=true:=by kernel_rfl)
  (hQ:∀ c a w,Q (.panic c) (a.put oi.dst v) w->Q (.panic c) a w:=by exact fun _ _ _ h=>h):wpAnyH P md ops Q S (fuel+1) listed a w:=wpAnyH_take hi hs hf hr hQ hy hS h
theorem TZ {P:Program} {ops:Array Oper} {Q:Exit->Act->World->Prop} {md:Region.Mode} {S:World->Prop} (i:Nat) {oi:Oper} (v:Value) {fuel:Nat} {listed:Array Bool} {a:Act} {w:World} (hi:ops[i]?=some oi) (hS:S w)
  (h:wpAnyH P md ops Q S fuel (listed.setIfInBounds i true) (a.put oi.dst v) w) (hy:YieldsIf P ops S oi v a:=by exact Or.inl ⟨by rfl,fun w hw=>by (repeat (obtain ⟨_,hw⟩:=hw));go_simp;all_goals omega⟩) (hs:Region.noSelect ops=true:=by kernel_rfl) (hf:Region.free md ops listed i=true:=by kernel_rfl) (hr:(Region.ready md ops listed).contains i=true:=by kernel_rfl)
  (hQ:∀ c a w,Q (.panic c) (a.put oi.dst v) w->Q (.panic c) a w:=by exact fun _ _ _ h=>h):wpAnyH P md ops Q S (fuel+1) listed a w:=wpAnyH_take hi hs hf hr hQ hy hS h
theorem RD {P:Program} {ops:Array Oper} {Q:Exit->Act->World->Prop} {md:Region.Mode} {S:World->Prop} {fuel:Nat} {listed:Array Bool} {a:Act} {w:World} (i:Nat) {o:Oper} (ho:ops[i]?=some o)
  (h:∀ K':Act->World->Prop,Shut (∀ a w,S w->(S w->wpAnyH P md ops Q S fuel (listed.setIfInBounds i true) a w)->K' a w)->if Region.wanted o (yielded ops a.tmps)=true then Oper.wp P o a w K' Q else K' (a.put o.dst undef) w)
  (hr:Region.ready md ops listed=[i]:=by kernel_rfl):wpAnyH P md ops Q S (fuel+1) listed a w:=wpAnyH_ready hr (by simp) (AllReadyH.cons ho h AllReadyH.nil)
theorem DN {P:Program} {ops:Array Oper} {Q:Exit->Act->World->Prop} {md:Region.Mode} {S:World->Prop} {fuel:Nat} {listed:Array Bool} {a:Act} {w:World} (h:Q .normal a w) (hr:Region.ready md ops listed=[]:=by kernel_rfl):wpAnyH P md ops Q S fuel listed a w:=wpAnyH_done hr h _
theorem hid {p:Prop} (h:p):Hid p:=h
theorem ret_int {k:IntKind} {a b:Int} (h:a=b):Ending.returned (.int k a)=.returned (.int k b):=by rw [h]
def Strs (w:World) (a:Option Addr) (ss:List ByteArray):Prop :=
 ss=[]\/∃ b o,a=some ⟨b,o,none⟩/\b<w.heap.size/\∀ i,i<ss.length->w.cell? ⟨b,o+i,none⟩=some (.string (ss.getD i ByteArray.empty))
def Wrs (w:World) (a:Option Addr) (ws:List (Int×ByteArray)):Prop :=
 ws=[]\/∃ b o,a=some ⟨b,o,none⟩/\b<w.heap.size/\∀ i,i<ws.length->w.cell? ⟨b,o+i*2,none⟩=some (.int .i64 (ws.getD i (0,ByteArray.empty)).1)/\w.cell? ⟨b,o+i*2+1,none⟩=some (.string (ws.getD i (0,ByteArray.empty)).2)
theorem Strs.below {w w':World} {a:Option Addr} {ss:List ByteArray} (h:Strs w a ss) (hb:Below w.heap.size w w'):Strs w' a ss:=by
 rcases h with h | ⟨b,o,h1,h2,h3⟩
 ·exact .inl h
 ·exact .inr ⟨b,o,h1,Nat.lt_of_lt_of_le h2 hb.size,fun i hi=>(hb.cell (p:=⟨b,o+i,none⟩) h2).trans (h3 i hi)⟩
theorem Wrs.below {w w':World} {a:Option Addr} {ws:List (Int×ByteArray)} (h:Wrs w a ws) (hb:Below w.heap.size w w'):Wrs w' a ws:=by
 rcases h with h | ⟨b,o,h1,h2,h3⟩
 ·exact .inl h
 ·exact .inr ⟨b,o,h1,Nat.lt_of_lt_of_le h2 hb.size,fun i hi=>⟨(hb.cell (p:=⟨b,o+i*2,none⟩) h2).trans (h3 i hi).1,(hb.cell (p:=⟨b,o+i*2+1,none⟩) h2).trans (h3 i hi).2⟩⟩
theorem Strs.at {w:World} {a:Option Addr} {ss:List ByteArray} (h:Strs w a ss) {k:Nat} (hk:k<ss.length):∃ b o s,a=some ⟨b,o,none⟩/\w.cell? ⟨b,o+k,none⟩=some (.string s)/\Hid (s=ss.getD k ByteArray.empty):=by
 rcases h with h | ⟨b,o,h1,h2,h3⟩
 ·subst h;simp at hk
 ·exact ⟨b,o,_,h1,h3 k hk,hid rfl⟩
theorem Wrs.at {w:World} {a:Option Addr} {ws:List (Int×ByteArray)} (h:Wrs w a ws) {k:Nat} (hk:k<ws.length):∃ b o n s,a=some ⟨b,o,none⟩/\w.cell? ⟨b,o+k*2,none⟩=some (.int .i64 n)/\w.cell? ⟨b,o+k*2+1,none⟩=some (.string s)/\Hid ((n,s)=ws.getD k (0,ByteArray.empty)):=by
 rcases h with h | ⟨b,o,h1,h2,h3⟩
 ·subst h;simp at hk
 ·exact ⟨b,o,_,_,h1,(h3 k hk).1,(h3 k hk).2,hid rfl⟩
theorem drop_at {α:Type} (l:List α) (k:Nat) (d:α) (h:k<l.length):l.drop k=l.getD k d::l.drop (k+1):=by
 rw [List.drop_eq_getElem_cons h];simp [List.getD,h]
@[reducible] def diskV (a:Option Addr) (n c:Nat) (a':Option Addr) (n' c':Nat):Value:=.agg #[.slice a n c,.slice a' n' c']
structure Row (w:World) (g:Nat) (cs:List Value):Prop where
 lt:g<w.heap.size
 cell:∀ i v,cs[i]?=some v->w.cell? ⟨g,i,none⟩=some v
 froz:∀ i,i<cs.length->w.frozen? ⟨g,i,none⟩=false
theorem Row.below {w w':World} {g:Nat} {cs:List Value} (h:Row w g cs) (hb:Below w.heap.size w w'):Row w' g cs :=
 ⟨Nat.lt_of_lt_of_le h.lt hb.size,fun i v hv=>(hb.cell (p:=⟨g,i,none⟩) h.lt).trans (h.cell i v hv),fun i hi=>(hb.frozen (p:=⟨g,i,none⟩) h.lt).trans (h.froz i hi)⟩
theorem Row.set {w:World} {g:Nat} {cs:List Value} (h:Row w g cs) (k:Nat) (hk:k<cs.length) (v:Value):Row (w.setCell ⟨g,k,none⟩ v) g (cs.set k v):=by
 refine ⟨by simpa [World.setCell] using h.lt,fun i u hu=>?_,fun i hi=>?_⟩
 ·by_cases he:i=k
  ·subst he
   rw [List.getElem?_set_self hk] at hu
   cases hu
   exact World.cell?_setCell_same w _ _ (h.cell i _ (List.getElem?_eq_getElem hk))
  ·rw [List.getElem?_set_ne (fun e=>he e.symm)] at hu
   rw [World.cell?_setCell_other (w:=w) (h:=show (⟨g,k,none⟩:Addr)≠⟨g,i,none⟩ by simp<;>omega)]
   exact h.cell i u hu
 ·rw [World.frozen?_setCell];exact h.froz i (by simpa using hi)
theorem Row.other {w:World} {g:Nat} {cs:List Value} (h:Row w g cs) (p:Addr) (hp:p.block≠g) (v:Value):Row (w.setCell p v) g cs:=by
 refine ⟨by simpa [World.setCell] using h.lt,fun i u hu=>?_,fun i hi=>?_⟩
 ·rw [World.cell?_setCell_other (w:=w) (h:=fun e=>hp (by rw [e]))];exact h.cell i u hu
 ·rw [World.frozen?_setCell];exact h.froz i hi
theorem Row.drew {w:World} {g:Nat} {cs:List Value} (h:Row w g cs):Row w.drew g cs:=⟨h.lt,h.cell,h.froz⟩
theorem Row.drewN {w:World} {g:Nat} {cs:List Value} (h:Row w g cs) (q:Nat):Row (w.drewN q) g cs:=h.below (below_drewN (Below.refl _ _) q)
theorem Row.alloc {w:World} {g:Nat} {cs:List Value} (h:Row w g cs) (o:Obj):Row (w.alloc o) g cs:=h.below ((Below.refl _ _).alloc (Nat.le_refl _) _)
theorem frozen_beyond (w:World) (b o:Nat) (h:w.heap.size<=b):w.frozen? ⟨b,o,none⟩=false:=by
 have e:w.heap[b]?=none:=by simp [h]
 simp [World.frozen?,e]
theorem row_new (w:World) (A:Array Value) (t:TypeId):Row (w.alloc (.cells A t)) w.heap.size A.toList :=
 ⟨by simp,fun i v hv=>by rw [World.cell?_alloc_at _ _ _ _ rfl];simpa using hv,fun i hi=>by rw [frozen?_alloc_cells];exact frozen_beyond _ _ _ (Nat.le_refl _)⟩
theorem Row.strs {w:World} {g:Nat} {ss:List ByteArray} (h:Row w g (ss.map Value.string)):Strs w (some ⟨g,0,none⟩) ss :=
 .inr ⟨g,0,rfl,h.lt,fun i hi=>by
  rw [Nat.zero_add]
  exact h.cell i _ (by simp [List.getD,hi])⟩
def wcells (ws:List (Int×ByteArray)):List Value:=ws.flatMap fun x=>[.int .i64 x.1,.string x.2]
theorem wcells_append (a b:List (Int×ByteArray)):wcells (a++b)=wcells a++wcells b:=by simp [wcells]
theorem wcells_length (ws:List (Int×ByteArray)):(wcells ws).length=ws.length*2:=by
 induction ws with
 | nil=>rfl
 | cons x r ih=>simp [wcells] at ih ⊢;omega
theorem wcells_at:∀ (ws:List (Int×ByteArray)) (i:Nat),i<ws.length->(wcells ws)[i*2]?=some (.int .i64 (ws.getD i (0,ByteArray.empty)).1)/\(wcells ws)[i*2+1]?=some (.string (ws.getD i (0,ByteArray.empty)).2)
 | x::r,0,_=>by simp [wcells]
 | x::r,i+1,h=>by
  have ih:=wcells_at r i (by simpa using h)
  have e:wcells (x::r)=.int .i64 x.1::.string x.2::wcells r:=by simp [wcells]
  rw [e,show (i+1)*2=i*2+2 by omega]
  simpa using ih
theorem Row.wrs {w:World} {g:Nat} {ws:List (Int×ByteArray)} (h:Row w g (wcells ws)):Wrs w (some ⟨g,0,none⟩) ws :=
 .inr ⟨g,0,rfl,h.lt,fun i hi=>by
  rw [Nat.zero_add]
  exact ⟨h.cell _ _ (wcells_at ws i hi).1,h.cell _ _ (wcells_at ws i hi).2⟩⟩
theorem wpList_make_new {P:Program} {w:World} {ops:Array Oper} {rest:List Oper} {o:Oper} {a:Act} {Q:Exit->Act->World->Prop}
  (hg:o.guard=none) (l c:Operand) (t:TypeId) (hop:o.op=Op.makeSlice t l c) (e:TypeId) (z:Value) (size bytes:Nat) (ht:P.underlying t=some (.slice e)) (hinfo:(P.info? e).map (fun i=>(i.zero,i.size,i.bytes))=some (some z,size,bytes))
  (n:Nat) (hl:a.eval l=.int .i64 (n:Int)) (hc:a.eval c=.int .i64 (n:Int)) (hb:bytes*n<=281474976710656) (hn:n<=281474976710656)
  (h:∀ wx,Row wx w.heap.size (madeCells z.cells (n*size)).toList->Below w.heap.size w wx->wx.heap.size=w.heap.size+1->wpList P ops Q rest (a.put o.dst (.slice (some ⟨w.heap.size,0,none⟩) n n)) wx):wpList P ops Q (o::rest) a w:=by
 refine wpList_plain hg fun K hK=>?_
 obtain ⟨i,hi,hh⟩:=Option.map_eq_some_iff.1 hinfo
 simp only [Prod.mk.injEq] at hh
 obtain ⟨h1,h2,h3⟩:=hh
 subst h2 h3
 have hbi:(i.bytes:Int)*(n:Int)<=281474976710656:=by
  have:((i.bytes*n:Nat):Int)<=281474976710656:=by omega
  rwa [Int.natCast_mul] at this
 have hr:=run_make (P:=P) w t e i z ht hi h1 .i64 .i64 n n (by omega) (Int.le_refl _) hbi (by omega)
 simp only [Int.toNat_natCast] at hr
 unfold Oper.wp
 simp [execOp,hop,hl,hc,hr,Result.andThen]
 exact hK _ _ (h _ (row_new _ _ _) ((Below.refl _ _).alloc (Nat.le_refl _) _) (by simp))
theorem Row.k3 {w:World} {g:Nat} {v0 v1 v2:Value} {r:List Value} (h:Row w g (v0::v1::v2::r)):w.cell? ⟨g,0,none⟩=some v0/\w.cell? ⟨g,1,none⟩=some v1/\w.cell? ⟨g,2,none⟩=some v2:=⟨h.cell 0 _ rfl,h.cell 1 _ rfl,h.cell 2 _ rfl⟩
theorem Row.k4 {w:World} {g:Nat} {v0 v1 v2 v3:Value} {r:List Value} (h:Row w g (v0::v1::v2::v3::r)):w.cell? ⟨g,0,none⟩=some v0/\w.cell? ⟨g,1,none⟩=some v1/\w.cell? ⟨g,2,none⟩=some v2/\w.cell? ⟨g,3,none⟩=some v3:=⟨h.cell 0 _ rfl,h.cell 1 _ rfl,h.cell 2 _ rfl,h.cell 3 _ rfl⟩
theorem Row.k10 {w:World} {g:Nat} {v0 v1 v2 v3 v4 v5 v6 v7 v8 v9:Value} {r:List Value} (h:Row w g (v0::v1::v2::v3::v4::v5::v6::v7::v8::v9::r)):w.cell? ⟨g,0,none⟩=some v0/\w.cell? ⟨g,1,none⟩=some v1/\w.cell? ⟨g,2,none⟩=some v2/\w.cell? ⟨g,3,none⟩=some v3/\w.cell? ⟨g,4,none⟩=some v4/\w.cell? ⟨g,5,none⟩=some v5/\w.cell? ⟨g,6,none⟩=some v6/\w.cell? ⟨g,7,none⟩=some v7/\w.cell? ⟨g,8,none⟩=some v8/\w.cell? ⟨g,9,none⟩=some v9:=⟨h.cell 0 _ rfl,h.cell 1 _ rfl,h.cell 2 _ rfl,h.cell 3 _ rfl,h.cell 4 _ rfl,h.cell 5 _ rfl,h.cell 6 _ rfl,h.cell 7 _ rfl,h.cell 8 _ rfl,h.cell 9 _ rfl⟩
theorem Row.k12 {w:World} {g:Nat} {v0 v1 v2 v3 v4 v5 v6 v7 v8 v9 v10 v11:Value} {r:List Value} (h:Row w g (v0::v1::v2::v3::v4::v5::v6::v7::v8::v9::v10::v11::r)):w.cell? ⟨g,0,none⟩=some v0/\w.cell? ⟨g,1,none⟩=some v1/\w.cell? ⟨g,2,none⟩=some v2/\w.cell? ⟨g,3,none⟩=some v3/\w.cell? ⟨g,4,none⟩=some v4/\w.cell? ⟨g,5,none⟩=some v5/\w.cell? ⟨g,6,none⟩=some v6/\w.cell? ⟨g,7,none⟩=some v7/\w.cell? ⟨g,8,none⟩=some v8/\w.cell? ⟨g,9,none⟩=some v9/\w.cell? ⟨g,10,none⟩=some v10/\w.cell? ⟨g,11,none⟩=some v11:=⟨h.cell 0 _ rfl,h.cell 1 _ rfl,h.cell 2 _ rfl,h.cell 3 _ rfl,h.cell 4 _ rfl,h.cell 5 _ rfl,h.cell 6 _ rfl,h.cell 7 _ rfl,h.cell 8 _ rfl,h.cell 9 _ rfl,h.cell 10 _ rfl,h.cell 11 _ rfl⟩
theorem Row.k16 {w:World} {g:Nat} {v0 v1 v2 v3 v4 v5 v6 v7 v8 v9 v10 v11 v12 v13 v14 v15:Value} {r:List Value} (h:Row w g (v0::v1::v2::v3::v4::v5::v6::v7::v8::v9::v10::v11::v12::v13::v14::v15::r)):w.cell? ⟨g,0,none⟩=some v0/\w.cell? ⟨g,1,none⟩=some v1/\w.cell? ⟨g,2,none⟩=some v2/\w.cell? ⟨g,3,none⟩=some v3/\w.cell? ⟨g,4,none⟩=some v4/\w.cell? ⟨g,5,none⟩=some v5/\w.cell? ⟨g,6,none⟩=some v6/\w.cell? ⟨g,7,none⟩=some v7/\w.cell? ⟨g,8,none⟩=some v8/\w.cell? ⟨g,9,none⟩=some v9/\w.cell? ⟨g,10,none⟩=some v10/\w.cell? ⟨g,11,none⟩=some v11/\w.cell? ⟨g,12,none⟩=some v12/\w.cell? ⟨g,13,none⟩=some v13/\w.cell? ⟨g,14,none⟩=some v14/\w.cell? ⟨g,15,none⟩=some v15:=⟨h.cell 0 _ rfl,h.cell 1 _ rfl,h.cell 2 _ rfl,h.cell 3 _ rfl,h.cell 4 _ rfl,h.cell 5 _ rfl,h.cell 6 _ rfl,h.cell 7 _ rfl,h.cell 8 _ rfl,h.cell 9 _ rfl,h.cell 10 _ rfl,h.cell 11 _ rfl,h.cell 12 _ rfl,h.cell 13 _ rfl,h.cell 14 _ rfl,h.cell 15 _ rfl⟩
theorem Row.z2 {w:World} {g:Nat} {v0 v1:Value} {r:List Value} (h:Row w g (v0::v1::r)):w.frozen? ⟨g,0,none⟩=false/\w.frozen? ⟨g,1,none⟩=false:=⟨h.froz 0 (by simp),h.froz 1 (by simp)⟩
theorem Row.z3 {w:World} {g:Nat} {v0 v1 v2:Value} {r:List Value} (h:Row w g (v0::v1::v2::r)):w.frozen? ⟨g,0,none⟩=false/\w.frozen? ⟨g,1,none⟩=false/\w.frozen? ⟨g,2,none⟩=false:=⟨h.froz 0 (by simp),h.froz 1 (by simp),h.froz 2 (by simp)⟩
theorem Row.z4 {w:World} {g:Nat} {v0 v1 v2 v3:Value} {r:List Value} (h:Row w g (v0::v1::v2::v3::r)):w.frozen? ⟨g,0,none⟩=false/\w.frozen? ⟨g,1,none⟩=false/\w.frozen? ⟨g,2,none⟩=false/\w.frozen? ⟨g,3,none⟩=false:=⟨h.froz 0 (by simp),h.froz 1 (by simp),h.froz 2 (by simp),h.froz 3 (by simp)⟩
theorem Row.z12 {w:World} {g:Nat} {v0 v1 v2 v3 v4 v5 v6 v7 v8 v9 v10 v11:Value} {r:List Value} (h:Row w g (v0::v1::v2::v3::v4::v5::v6::v7::v8::v9::v10::v11::r)):w.frozen? ⟨g,0,none⟩=false/\w.frozen? ⟨g,1,none⟩=false/\w.frozen? ⟨g,2,none⟩=false/\w.frozen? ⟨g,3,none⟩=false/\w.frozen? ⟨g,4,none⟩=false/\w.frozen? ⟨g,5,none⟩=false/\w.frozen? ⟨g,6,none⟩=false/\w.frozen? ⟨g,7,none⟩=false/\w.frozen? ⟨g,8,none⟩=false/\w.frozen? ⟨g,9,none⟩=false/\w.frozen? ⟨g,10,none⟩=false/\w.frozen? ⟨g,11,none⟩=false:=⟨h.froz 0 (by simp),h.froz 1 (by simp),h.froz 2 (by simp),h.froz 3 (by simp),h.froz 4 (by simp),h.froz 5 (by simp),h.froz 6 (by simp),h.froz 7 (by simp),h.froz 8 (by simp),h.froz 9 (by simp),h.froz 10 (by simp),h.froz 11 (by simp)⟩
theorem Row.z16 {w:World} {g:Nat} {v0 v1 v2 v3 v4 v5 v6 v7 v8 v9 v10 v11 v12 v13 v14 v15:Value} {r:List Value} (h:Row w g (v0::v1::v2::v3::v4::v5::v6::v7::v8::v9::v10::v11::v12::v13::v14::v15::r)):w.frozen? ⟨g,0,none⟩=false/\w.frozen? ⟨g,1,none⟩=false/\w.frozen? ⟨g,2,none⟩=false/\w.frozen? ⟨g,3,none⟩=false/\w.frozen? ⟨g,4,none⟩=false/\w.frozen? ⟨g,5,none⟩=false/\w.frozen? ⟨g,6,none⟩=false/\w.frozen? ⟨g,7,none⟩=false/\w.frozen? ⟨g,8,none⟩=false/\w.frozen? ⟨g,9,none⟩=false/\w.frozen? ⟨g,10,none⟩=false/\w.frozen? ⟨g,11,none⟩=false/\w.frozen? ⟨g,12,none⟩=false/\w.frozen? ⟨g,13,none⟩=false/\w.frozen? ⟨g,14,none⟩=false/\w.frozen? ⟨g,15,none⟩=false:=⟨h.froz 0 (by simp),h.froz 1 (by simp),h.froz 2 (by simp),h.froz 3 (by simp),h.froz 4 (by simp),h.froz 5 (by simp),h.froz 6 (by simp),h.froz 7 (by simp),h.froz 8 (by simp),h.froz 9 (by simp),h.froz 10 (by simp),h.froz 11 (by simp),h.froz 12 (by simp),h.froz 13 (by simp),h.froz 14 (by simp),h.froz 15 (by simp)⟩
theorem infoStr:(Try.prog.info? 9).map (fun i=>(i.zero,i.size,i.bytes))=some (some (.string ByteArray.empty),1,16):=by kernel_rfl
theorem infoWr:(Try.prog.info? 46).map (fun i=>(i.zero,i.size,i.bytes))=some (some (.agg #[.int .i64 0,.string ByteArray.empty]),2,24):=by kernel_rfl
theorem bcell {W w1:World} (hb:Below W.heap.size W w1):(∀ b o,b<W.heap.size->w1.cell? ⟨b,o,none⟩=W.cell? ⟨b,o,none⟩)/\(∀ b o,b<W.heap.size->w1.frozen? ⟨b,o,none⟩=W.frozen? ⟨b,o,none⟩) :=
 ⟨fun b o h=>hb.cell (p:=⟨b,o,none⟩) h,fun b o h=>hb.frozen (p:=⟨b,o,none⟩) h⟩
theorem w_texts (a b:Option Addr) (ss:List ByteArray) (c c':Nat) (w:World) (h:Strs w a ss) (h':Strs w b ss) (hl:ss.length<=1048576) :
  Calls Try.prog 20 #[.slice a ss.length c,.slice b ss.length c'] w fun e w'=>e=.returned (.bool true)/\Below w.heap.size w w':=by
 go_enter Try.func20,Try.ntmps20
 go_wp2
 go_loopw [5] (fun i wr=>∃ k:Nat,k<=ss.length/\i=.int .i64 k/\Below w.heap.size w wr) (fun i _=>ss.length-(intOf i).toNat)
 case atStart=>exact ⟨0,Nat.zero_le _,rfl,Below.refl _ _⟩
 case round =>
  obtain ⟨k,hk,rfl,hbel⟩:=hrel
  by_cases hlt:k<ss.length
  ·obtain ⟨b1,o1,s,rfl,hc,HS⟩:=(h.below hbel).at hlt
   obtain ⟨b2,o2,s',rfl,hc',HS'⟩:=(h'.below hbel).at hlt
   obtain rfl:s=s':=HS.out.trans HS'.out.symm
   have hk1:(k:Int)<(ss.length:Int):=by omega
   have hk0:(0:Int)<=(k:Int):=by omega
   clear HS HS'
   go_wp2_with fail
   go_quiet (fail)
   go_wp2
   go_roundw
   case rel=>exact ⟨k+1,by omega,by go_num,below_drewN hbel _⟩
   case measure=>simp [intOf];omega
  ·go_wp2
   go_ret
   exact ⟨rfl,hbel⟩
theorem ret_str {a b:ByteArray} (h:a=b):Ending.returned (.string a)=.returned (.string b):=by rw [h]
theorem bytes1 (w:World) (n:Int):(convert 22 9 (.slice (some ⟨w.heap.size,0,none⟩) 1 1)).run Try.prog (w.alloc (.cells #[.int .u8 n] 5))=.ok (.string (strOfNums [n])) (w.alloc (.cells #[.int .u8 n] 5)) :=
 run_convert_bytes_arg (P:=Try.prog) _ 22 5 Try.underlying22 Try.underlying5 w.heap.size 0 1 1 [n] rfl (fun i hi=>by
  have:i=0:=by omega
  subst this;simp) 9 Try.underlying9
theorem grown_trans {a b c:World} {r:Option Nat} (h:a.grownBy b r) (k:b.grownBy c r):a.grownBy c r :=
 ⟨k.os.trans h.os,k.tape.trans h.tape,k.output.trans h.output,Nat.le_trans h.size k.size,fun i hi hr=>(k.block i (Nat.lt_of_lt_of_le hi h.size) hr).trans (h.block i hi hr)⟩
theorem grown_of_below {a b:World} (r:Option Nat) (h:Below a.heap.size a b):a.grownBy b r:=⟨h.os,h.tape,h.output,h.size,fun i hi _=>h.block i hi⟩
theorem grown_set {a b:World} {g:Nat} (h:a.grownBy b (some g)) (i:Nat) (v:Value):a.grownBy (b.setCell ⟨g,i,none⟩ v) (some g) :=
 grown_trans h ⟨rfl,rfl,rfl,by simp [World.setCell],fun j _ hj=>Below.heap_setCell _ _ _ _ (fun e=>hj (by rw [e]))⟩
theorem grown_below {a b:World} {r:Option Nat} {B:Nat} (h:a.grownBy b r) (hB:B<=a.heap.size) (hr:∀ g,r=some g->B<=g):Below B a b :=
 ⟨h.os,h.tape,h.output,h.size,fun k hk=>h.block k (by omega) (fun e=>by have:=hr k e.symm;omega)⟩
theorem Row.grown {w w':World} {g:Nat} {cs:List Value} {r:Option Nat} (h:Row w g cs) (hg:w.grownBy w' r) (hn:some g≠r):Row w' g cs :=
 ⟨Nat.lt_of_lt_of_le h.lt hg.size,fun i v hv=>(World.cell?_of_block (a:=⟨g,i,none⟩) (hg.block g h.lt hn)).trans (h.cell i v hv),fun i hi=>(World.frozen?_of_block (a:=⟨g,i,none⟩) (hg.block g h.lt hn)).trans (h.froz i hi)⟩
def OwnS (w:World) (a:Option Addr) (cs:List Value):Prop:=cs=[]\/∃ g,a=some ⟨g,0,none⟩/\Row w g cs
def blk (a:Option Addr) (n:Nat):Option Nat:=if n=0 then none else a.map (·.block)
theorem blk_pos (b o:Nat) (n:Nat) (h:n≠0):blk (some ⟨b,o,none⟩) n=some b:=by simp [blk,h]
structure OwnD (w:World) (a:Option Addr) (ss:List ByteArray) (a':Option Addr) (ws:List (Int×ByteArray)):Prop where
 s:OwnS w a (ss.map Value.string)
 p:OwnS w a' (wcells ws)
 ne:blk a ss.length=none\/blk a' ws.length=none\/blk a ss.length≠blk a' ws.length
theorem OwnS.below {w w':World} {a:Option Addr} {cs:List Value} (h:OwnS w a cs) (hb:Below w.heap.size w w'):OwnS w' a cs:=by
 rcases h with h | ⟨g,h1,h2⟩
 ·exact .inl h
 ·exact .inr ⟨g,h1,h2.below hb⟩
theorem OwnS.grown {w w':World} {a:Option Addr} {cs:List Value} {r:Option Nat} (h:OwnS w a cs) (hg:w.grownBy w' r) (hn:∀ g,a=some ⟨g,0,none⟩->cs≠[]->some g≠r):OwnS w' a cs:=by
 by_cases hc:cs=[]
 ·exact .inl hc
 ·obtain ⟨g,h1,h2⟩:=h.resolve_left hc
  exact .inr ⟨g,h1,h2.grown hg (hn g h1 hc)⟩
theorem OwnS.lt {w:World} {a:Option Addr} {cs:List Value} (h:OwnS w a cs) (n:Nat) (hn:n≠0->cs≠[]):∀ g,blk a n=some g->g<w.heap.size:=fun g hg=>by
 by_cases h0:n=0
 ·subst h0;cases hg
 ·obtain ⟨g',rfl,h2⟩:=h.resolve_left (hn h0)
  rw [blk_pos g' 0 n h0] at hg
  cases hg
  exact h2.lt
theorem OwnD.below {w w':World} {a a':Option Addr} {ss:List ByteArray} {ws:List (Int×ByteArray)} (h:OwnD w a ss a' ws) (hb:Below w.heap.size w w'):OwnD w' a ss a' ws:=⟨h.s.below hb,h.p.below hb,h.ne⟩
theorem OwnS.strs {w:World} {a:Option Addr} {ss:List ByteArray} (h:OwnS w a (ss.map Value.string)):Strs w a ss:=by
 rcases h with h | ⟨g,rfl,h2⟩
 ·exact .inl (by simpa using h)
 ·exact h2.strs
theorem OwnS.wrs {w:World} {a:Option Addr} {ws:List (Int×ByteArray)} (h:OwnS w a (wcells ws)):Wrs w a ws:=by
 rcases h with h | ⟨g,rfl,h2⟩
 ·exact .inl (by have:=congrArg List.length h;rw [wcells_length,List.length_nil] at this;exact List.eq_nil_of_length_eq_zero (by omega))
 ·exact h2.wrs
theorem strs_ne {ss:List ByteArray} (h:ss.length≠0):ss.map Value.string≠[]:=fun e=>h (by have:=congrArg List.length e;simpa using this)
theorem ne_of_strs {ss:List ByteArray} (h:ss.map Value.string≠[]):ss.length≠0:=fun e=>h (by rw [List.eq_nil_of_length_eq_zero e];rfl)
theorem ne_of_wcells {ws:List (Int×ByteArray)} (h:wcells ws≠[]):ws.length≠0:=fun e=>h (by rw [List.eq_nil_of_length_eq_zero e];rfl)
structure Dep (w:World) (lo hi:Nat) (F:World->Prop):Prop where
 now:F w
 top:hi<=w.heap.size
 keep:∀ w':World,(∀ b,lo<=b->b<hi->w'.heap[b]?=w.heap[b]?)->hi<=w'.heap.size->F w'
theorem Dep.below {w w':World} {lo hi:Nat} {F:World->Prop} (h:Dep w lo hi F) (hb:Below w.heap.size w w'):Dep w' lo hi F :=
 ⟨h.keep w' (fun b _ h2=>hb.block b (Nat.lt_of_lt_of_le h2 h.top)) (Nat.le_trans h.top hb.size),Nat.le_trans h.top hb.size,fun w2 h2 h3=>h.keep w2 (fun b h4 h5=>(h2 b h4 h5).trans (hb.block b (Nat.lt_of_lt_of_le h5 h.top))) h3⟩
theorem Dep.grown {w w':World} {lo hi:Nat} {F:World->Prop} {r:Option Nat} (h:Dep w lo hi F) (hg:w.grownBy w' r) (hr:∀ g,r=some g->g<lo\/hi<=g):Dep w' lo hi F:=by
 have key:∀ b,lo<=b->b<hi->w'.heap[b]?=w.heap[b]?:=fun b h1 h2=>hg.block b (Nat.lt_of_lt_of_le h2 h.top) (fun e=>by have:=hr b e.symm;omega)
 exact ⟨h.keep w' key (Nat.le_trans h.top hg.size),Nat.le_trans h.top hg.size,fun w2 h2 h3=>h.keep w2 (fun b h4 h5=>(h2 b h4 h5).trans (key b h4 h5)) h3⟩
theorem Dep.and {w:World} {lo hi:Nat} {F G:World->Prop} (h:Dep w lo hi F) (k:Dep w lo hi G):Dep w lo hi (fun w=>F w/\G w):=⟨⟨h.now,k.now⟩,h.top,fun w' h1 h2=>⟨h.keep w' h1 h2,k.keep w' h1 h2⟩⟩
theorem Dep.wide {w:World} {lo hi lo' hi':Nat} {F:World->Prop} (h:Dep w lo hi F) (h1:lo'<=lo) (h2:hi<=hi') (h3:hi'<=w.heap.size):Dep w lo' hi' F:=⟨h.now,h3,fun w' k1 k2=>h.keep w' (fun b a c=>k1 b (by omega) (by omega)) (by omega)⟩
theorem row_same {w w':World} {g:Nat} {cs:List Value} (h:Row w g cs) (e:w'.heap[g]?=w.heap[g]?) (hs:g<w'.heap.size):Row w' g cs :=
 ⟨hs,fun i v hv=>by rw [<-h.cell i v hv];simp [World.cell?,e],fun i hi=>by rw [<-h.froz i hi];simp [World.frozen?,e]⟩
theorem dep_row {w:World} {g lo hi:Nat} {cs:List Value} (h:Row w g cs) (h1:lo<=g) (h2:g<hi) (h3:hi<=w.heap.size):Dep w lo hi (fun w=>Row w g cs):=⟨h,h3,fun w' k1 k2=>row_same h (k1 g h1 h2) (by omega)⟩
theorem dep_own {w:World} {a:Option Addr} {lo n:Nat} {cs:List Value} (h:OwnS w a cs) (hn:cs≠[]->n≠0) (h1:∀ g,blk a n=some g->lo<=g):Dep w lo w.heap.size (fun w=>OwnS w a cs) :=
 ⟨h,Nat.le_refl _,fun w' k1 k2=>by
  by_cases h0:cs=[]
  ·exact .inl h0
  ·obtain ⟨g,rfl,hr⟩:=h.resolve_left h0
   exact .inr ⟨g,rfl,row_same hr (k1 g (h1 g (blk_pos _ _ _ (hn h0))) hr.lt) (Nat.lt_of_lt_of_le hr.lt k2)⟩⟩
theorem Dep.cut {w:World} {a:Option Addr} {lo hi:Nat} {cs:List Value} (h:Dep w lo w.heap.size (fun w=>OwnS w a cs)) (h1:∀ g,a=some ⟨g,0,none⟩->cs≠[]->g<hi) (h2:hi<=w.heap.size) (h3:∀ g,a=some ⟨g,0,none⟩->cs≠[]->lo<=g):Dep w lo hi (fun w=>OwnS w a cs) :=
 ⟨h.now,h2,fun w' k1 k2=>by
  by_cases h0:cs=[]
  ·exact .inl h0
  ·obtain ⟨g,rfl,hr⟩:=h.now.resolve_left h0
   exact .inr ⟨g,rfl,row_same hr (k1 g (h3 g rfl h0) (h1 g rfl h0)) (Nat.lt_of_lt_of_le (h1 g rfl h0) k2)⟩⟩
theorem blk_is {g n k:Nat} (h:blk (some ⟨g,0,none⟩) n=some k):k=g:=by
 unfold blk at h
 split at h
 ·cases h
 ·simp at h;exact h.symm
theorem Dep.low {w w':World} {lo hi N:Nat} {F:World->Prop} (h:Dep w lo hi F) (hb:Below N w w') (hN:hi<=N):Dep w' lo hi F :=
 ⟨h.keep w' (fun b _ h2=>hb.block b (by omega)) (Nat.le_trans h.top hb.size),Nat.le_trans h.top hb.size,fun w2 h2 h3=>h.keep w2 (fun b h4 h5=>(h2 b h4 h5).trans (hb.block b (by omega))) h3⟩
theorem dep_box (w:World) (A:Array Value) (t:TypeId):Dep (w.alloc (.cells A t)) w.heap.size (w.heap.size+1) (fun W=>Row W w.heap.size A.toList):=dep_row (row_new w A t) (Nat.le_refl _) (by omega) (by simp)
theorem bx1 {w v:World} {A:Array Value} {t:TypeId} (e:w.alloc (.cells A t)=v):Below w.heap.size w v/\v.heap.size=w.heap.size+1/\Dep v w.heap.size (w.heap.size+1) (fun W=>Row W w.heap.size A.toList):=by
 subst e
 exact ⟨(Below.refl _ _).alloc (Nat.le_refl _) _,by simp,dep_row (row_new w A t) (Nat.le_refl _) (by omega) (by simp)⟩
theorem dep_at {w:World} {g:Nat} {cs:List Value} (h:Row w g cs):Dep w g (g+1) (fun W=>Row W g cs):=dep_row h (Nat.le_refl _) (by omega) (by have:=h.lt;omega)
theorem c10 {w:World} {g:Nat} {a0 a1 a2 a3 a4 a5 a6 a7 a8 a9:Value} (h:Row w g [a0,a1,a2,a3,a4,a5,a6,a7,a8,a9]):w.cell? ⟨g,0,none⟩=some a0/\w.cell? ⟨g,1,none⟩=some a1/\w.cell? ⟨g,2,none⟩=some a2/\w.cell? ⟨g,3,none⟩=some a3/\w.cell? ⟨g,4,none⟩=some a4/\w.cell? ⟨g,5,none⟩=some a5/\w.cell? ⟨g,6,none⟩=some a6/\w.cell? ⟨g,7,none⟩=some a7/\w.cell? ⟨g,8,none⟩=some a8/\w.cell? ⟨g,9,none⟩=some a9/\g<w.heap.size :=
 ⟨h.cell 0 _ rfl,h.cell 1 _ rfl,h.cell 2 _ rfl,h.cell 3 _ rfl,h.cell 4 _ rfl,h.cell 5 _ rfl,h.cell 6 _ rfl,h.cell 7 _ rfl,h.cell 8 _ rfl,h.cell 9 _ rfl,h.lt⟩
theorem c12 {w:World} {g:Nat} {a0 a1 a2 a3 a4 a5 a6 a7 a8 a9 a10 a11:Value} (h:Row w g [a0,a1,a2,a3,a4,a5,a6,a7,a8,a9,a10,a11]):w.cell? ⟨g,0,none⟩=some a0/\w.cell? ⟨g,1,none⟩=some a1/\w.cell? ⟨g,2,none⟩=some a2/\w.cell? ⟨g,3,none⟩=some a3/\w.cell? ⟨g,4,none⟩=some a4/\w.cell? ⟨g,5,none⟩=some a5/\w.cell? ⟨g,6,none⟩=some a6/\w.cell? ⟨g,7,none⟩=some a7/\w.cell? ⟨g,8,none⟩=some a8/\w.cell? ⟨g,9,none⟩=some a9/\w.cell? ⟨g,10,none⟩=some a10/\w.cell? ⟨g,11,none⟩=some a11/\g<w.heap.size :=
 ⟨h.cell 0 _ rfl,h.cell 1 _ rfl,h.cell 2 _ rfl,h.cell 3 _ rfl,h.cell 4 _ rfl,h.cell 5 _ rfl,h.cell 6 _ rfl,h.cell 7 _ rfl,h.cell 8 _ rfl,h.cell 9 _ rfl,h.cell 10 _ rfl,h.cell 11 _ rfl,h.lt⟩
theorem c16 {w:World} {g:Nat} {a0 a1 a2 a3 a4 a5 a6 a7 a8 a9 a10 a11 a12 a13 a14 a15:Value} (h:Row w g [a0,a1,a2,a3,a4,a5,a6,a7,a8,a9,a10,a11,a12,a13,a14,a15]):w.cell? ⟨g,0,none⟩=some a0/\w.cell? ⟨g,1,none⟩=some a1/\w.cell? ⟨g,2,none⟩=some a2/\w.cell? ⟨g,3,none⟩=some a3/\w.cell? ⟨g,4,none⟩=some a4/\w.cell? ⟨g,5,none⟩=some a5/\w.cell? ⟨g,6,none⟩=some a6/\w.cell? ⟨g,7,none⟩=some a7/\w.cell? ⟨g,8,none⟩=some a8/\w.cell? ⟨g,9,none⟩=some a9/\w.cell? ⟨g,10,none⟩=some a10/\w.cell? ⟨g,11,none⟩=some a11/\w.cell? ⟨g,12,none⟩=some a12/\w.cell? ⟨g,13,none⟩=some a13/\w.cell? ⟨g,14,none⟩=some a14/\w.cell? ⟨g,15,none⟩=some a15/\g<w.heap.size :=
 ⟨h.cell 0 _ rfl,h.cell 1 _ rfl,h.cell 2 _ rfl,h.cell 3 _ rfl,h.cell 4 _ rfl,h.cell 5 _ rfl,h.cell 6 _ rfl,h.cell 7 _ rfl,h.cell 8 _ rfl,h.cell 9 _ rfl,h.cell 10 _ rfl,h.cell 11 _ rfl,h.cell 12 _ rfl,h.cell 13 _ rfl,h.cell 14 _ rfl,h.cell 15 _ rfl,h.lt⟩
theorem w_disk (a b:Option Addr) (ss:List ByteArray) (c d:Nat) (a' b':Option Addr) (ws:List (Int×ByteArray)) (c' d':Nat) (w:World) (h1:Strs w a ss) (h2:Strs w b ss) (h3:Wrs w a' ws) (h4:Wrs w b' ws) (hl:ss.length<=1048576) (hl':ws.length<=1048576) :
  Calls Try.prog 6 #[diskV a ss.length c a' ws.length c',diskV b ss.length d b' ws.length d'] w fun e w'=>e=.returned (.bool true)/\Below w.heap.size w w':=by
 unfold diskV
 go_enter Try.func6,Try.ntmps6
 go_wp2_with fail
 generalize e_v1:w.alloc _=v1
 obtain ⟨hb,z_v1,bA⟩:=bx1 e_v1
 clear e_v1
 have hE:Below w.heap.size w v1:=hb
 clear hb
 generalize e_v2:v1.alloc _=v2
 obtain ⟨hb,z_v2,bB⟩:=bx1 e_v2
 clear e_v2
 rw [z_v1] at bB
 replace hE:=hE.trans (hb.mono hE.size)
 have rA:=(bA.below hb).now
 have rB:=bB.now
 clear hb bA bB z_v2 z_v1
 refine (w_texts a b ss c d v2 (h1.below hE) (h2.below hE) hl).mono ?_
 rintro e v3 ⟨rfl,hb⟩
 replace hE:=hE.trans (hb.mono hE.size)
 replace rA:=rA.below hb
 replace rB:=rB.below hb
 clear hb h1 h2
 have q1:=rA.cell 1 _ rfl
 have ql:=rA.lt
 have u1:=rB.cell 1 _ rfl
 have ul:=rB.lt
 go_wp2_with fail
 clear q1 u1
 go_loopw [5] (fun i wr=>∃ k:Nat,k<=ws.length/\i=.int .i64 (k:Int)/\Below v3.heap.size v3 wr) (fun i _=>ws.length-(intOf i).toNat)
 case atStart=>exact ⟨0,Nat.zero_le _,rfl,Below.refl _ _⟩
 case round =>
  obtain ⟨k,hk,rfl,hbel⟩:=hrel
  have hEw:=hE.trans (hbel.mono hE.size)
  have q1:=(rA.below hbel).cell 1 _ rfl
  have q2:=(rA.below hbel).lt
  have u1:=(rB.below hbel).cell 1 _ rfl
  have u2:=(rB.below hbel).lt
  by_cases hlt:k<ws.length
  ·obtain ⟨b1,o1,n1,s1,rfl,x1,x2,HT⟩:=(h3.below hEw).at hlt
   obtain ⟨b2,o2,n2,s2,rfl,y1,y2,HU⟩:=(h4.below hEw).at hlt
   have e:=HT.out.trans HU.out.symm
   obtain rfl:n1=n2:=congrArg Prod.fst e
   obtain rfl:s1=s2:=congrArg Prod.snd e
   clear e HT HU
   have hk1:(k:Int)<(ws.length:Int):=by omega
   have hk0:(0:Int)<=(k:Int):=by omega
   have HQ:Hid (wr.cell? ⟨w.heap.size,1,none⟩=some (.slice (some ⟨b1,o1,none⟩) ws.length c')/\wr.cell? ⟨w.heap.size+1,1,none⟩=some (.slice (some ⟨b2,o2,none⟩) ws.length d')/\wr.cell? ⟨b1,o1+k*2,none⟩=some (.int .i64 n1)/\wr.cell? ⟨b1,o1+k*2+1,none⟩=some (.string s1)/\wr.cell? ⟨b2,o2+k*2,none⟩=some (.int .i64 n1)/\wr.cell? ⟨b2,o2+k*2+1,none⟩=some (.string s1)):=⟨q1,u1,x1,x2,y1,y2⟩
   go_upto_region 6 with fail
   clear q1 u1 x1 x2 y1 y2
   go_region_held3 (fun w'=>w'.cell? ⟨w.heap.size,1,none⟩=some (.slice (some ⟨b1,o1,none⟩) ws.length c')/\w'.cell? ⟨w.heap.size+1,1,none⟩=some (.slice (some ⟨b2,o2,none⟩) ws.length d')/\w'.cell? ⟨b1,o1+k*2,none⟩=some (.int .i64 n1)/\w'.cell? ⟨b1,o1+k*2+1,none⟩=some (.string s1)/\w'.cell? ⟨b2,o2+k*2,none⟩=some (.int .i64 n1)/\w'.cell? ⟨b2,o2+k*2+1,none⟩=some (.string s1))
    (first | assumption | exact HQ.out)
    (fail)
   go_wp2
   go_roundw
   case rel=>exact ⟨k+1,by omega,by go_num,hbel.drew⟩
   case measure=>simp [intOf];omega
  ·have hk1:¬ (k:Int)<(ws.length:Int):=by omega
   go_wp2
   go_ret
   exact ⟨rfl,hEw⟩
def Prs (w:World) (a:Option Addr) (rs:List (ByteArray×ByteArray)):Prop :=
 rs=[]\/∃ b o,a=some ⟨b,o,none⟩/\b<w.heap.size/\∀ i,i<rs.length->w.cell? ⟨b,o+i*2,none⟩=some (.string (rs.getD i (ByteArray.empty,ByteArray.empty)).1)/\w.cell? ⟨b,o+i*2+1,none⟩=some (.string (rs.getD i (ByteArray.empty,ByteArray.empty)).2)
theorem Prs.below {w w':World} {a:Option Addr} {rs:List (ByteArray×ByteArray)} (h:Prs w a rs) (hb:Below w.heap.size w w'):Prs w' a rs:=by
 rcases h with h | ⟨b,o,h1,h2,h3⟩
 ·exact .inl h
 ·exact .inr ⟨b,o,h1,Nat.lt_of_lt_of_le h2 hb.size,fun i hi=>⟨(hb.cell (p:=⟨b,o+i*2,none⟩) h2).trans (h3 i hi).1,(hb.cell (p:=⟨b,o+i*2+1,none⟩) h2).trans (h3 i hi).2⟩⟩
theorem Prs.at {w:World} {a:Option Addr} {rs:List (ByteArray×ByteArray)} (h:Prs w a rs) {k:Nat} (hk:k<rs.length):∃ b o s0 s1,a=some ⟨b,o,none⟩/\w.cell? ⟨b,o+k*2,none⟩=some (.string s0)/\w.cell? ⟨b,o+k*2+1,none⟩=some (.string s1)/\Hid ((s0,s1)=rs.getD k (ByteArray.empty,ByteArray.empty)):=by
 rcases h with h | ⟨b,o,h1,h2,h3⟩
 ·subst h;simp at hk
 ·exact ⟨b,o,_,_,h1,(h3 k hk).1,(h3 k hk).2,hid rfl⟩
def prcells (rs:List (ByteArray×ByteArray)):List Value:=rs.flatMap fun x=>[.string x.1,.string x.2]
theorem prcells_append (a b:List (ByteArray×ByteArray)):prcells (a++b)=prcells a++prcells b:=by simp [prcells]
theorem prcells_length (rs:List (ByteArray×ByteArray)):(prcells rs).length=rs.length*2:=by
 induction rs with
 | nil=>rfl
 | cons x r ih=>simp [prcells] at ih ⊢;omega
theorem prcells_at:∀ (rs:List (ByteArray×ByteArray)) (i:Nat),i<rs.length->(prcells rs)[i*2]?=some (.string (rs.getD i (ByteArray.empty,ByteArray.empty)).1)/\(prcells rs)[i*2+1]?=some (.string (rs.getD i (ByteArray.empty,ByteArray.empty)).2)
 | x::r,0,_=>by simp [prcells]
 | x::r,i+1,h=>by
  have ih:=prcells_at r i (by simpa using h)
  have e:prcells (x::r)=.string x.1::.string x.2::prcells r:=by simp [prcells]
  rw [e,show (i+1)*2=i*2+2 by omega]
  simpa using ih
theorem Row.prs {w:World} {g:Nat} {rs:List (ByteArray×ByteArray)} (h:Row w g (prcells rs)):Prs w (some ⟨g,0,none⟩) rs :=
 .inr ⟨g,0,rfl,h.lt,fun i hi=>by
  rw [Nat.zero_add]
  exact ⟨h.cell _ _ (prcells_at rs i hi).1,h.cell _ _ (prcells_at rs i hi).2⟩⟩
@[reducible] def stV (a:Option Addr) (n c:Nat):Value:=.agg #[.slice a n c]
def Pst (w:World) (a:Option Addr) (P:List (List (ByteArray×ByteArray))):Prop :=
 P=[]\/∃ b o,a=some ⟨b,o,none⟩/\b<w.heap.size/\∀ i,i<P.length->∃ p c,w.cell? ⟨b,o+i,none⟩=some (.slice p (P.getD i []).length c)/\Prs w p (P.getD i [])
theorem Pst.below {w w':World} {a:Option Addr} {P:List (List (ByteArray×ByteArray))} (h:Pst w a P) (hb:Below w.heap.size w w'):Pst w' a P:=by
 rcases h with h | ⟨b,o,h1,h2,h3⟩
 ·exact .inl h
 ·refine .inr ⟨b,o,h1,Nat.lt_of_lt_of_le h2 hb.size,fun i hi=>?_⟩
  obtain ⟨p,c,h4,h5⟩:=h3 i hi
  exact ⟨p,c,(hb.cell (p:=⟨b,o+i,none⟩) h2).trans h4,h5.below hb⟩
theorem Pst.at {w:World} {a:Option Addr} {P:List (List (ByteArray×ByteArray))} (h:Pst w a P) {k:Nat} (hk:k<P.length):∃ b o p c,a=some ⟨b,o,none⟩/\b<w.heap.size/\w.cell? ⟨b,o+k,none⟩=some (.slice p (P.getD k []).length c)/\Hid (Prs w p (P.getD k [])):=by
 rcases h with h | ⟨b,o,h1,h2,h3⟩
 ·subst h;simp at hk
 ·obtain ⟨p,c,h4,h5⟩:=h3 k hk
  exact ⟨b,o,p,c,h1,h2,h4,hid h5⟩
def pcs (P:List (List (ByteArray×ByteArray))) (gs:Nat->Nat) (k:Nat):List Value:=(List.range P.length).map fun i=>if i<k then .slice (some ⟨gs i,0,none⟩) (P.getD i []).length (P.getD i []).length else .slice none 0 0
theorem pcs_length (P:List (List (ByteArray×ByteArray))) (gs:Nat->Nat) (k:Nat):(pcs P gs k).length=P.length:=by simp [pcs]
theorem pcs_set (P:List (List (ByteArray×ByteArray))) (gs:Nat->Nat) (k g:Nat) (h:k<P.length):(pcs P gs k).set k (.slice (some ⟨g,0,none⟩) (P.getD k []).length (P.getD k []).length)=pcs P (fun i=>if i=k then g else gs i) (k+1):=by
 apply List.ext_getElem
 ·simp [pcs]
 ·intro i h1 h2
  rw [List.getElem_set]
  by_cases e:k=i
  ·subst e
   simp [pcs]
  ·rw [if_neg e]
   simp only [pcs,List.getElem_map,List.getElem_range]
   by_cases h3:i<k
   ·rw [if_pos h3,if_pos (by omega),if_neg (fun x=>e x.symm)]
   ·rw [if_neg h3,if_neg (by omega)]
structure OwnP (w:World) (g:Nat) (P:List (List (ByteArray×ByteArray))) (gs:Nat->Nat) (k:Nat):Prop where
 row:Row w g (pcs P gs k)
 st:∀ i,i<k->Row w (gs i) (prcells (P.getD i []))/\g<gs i
 asc:∀ i j,i<j->j<k->gs i<gs j
theorem OwnP.below {w w':World} {g k:Nat} {P:List (List (ByteArray×ByteArray))} {gs:Nat->Nat} (h:OwnP w g P gs k) (hb:Below w.heap.size w w'):OwnP w' g P gs k :=
 ⟨h.row.below hb,fun i hi=>⟨(h.st i hi).1.below hb,(h.st i hi).2⟩,h.asc⟩
theorem OwnP.push {w w':World} {g k g1:Nat} {P:List (List (ByteArray×ByteArray))} {gs:Nat->Nat} (h:OwnP w g P gs k) (hb:Below w.heap.size w w') (hg:w.heap.size<=g1) (hr:Row w' g1 (prcells (P.getD k []))) (hk:k<P.length) :
  OwnP (w'.setCell ⟨g,k,none⟩ (.slice (some ⟨g1,0,none⟩) (P.getD k []).length (P.getD k []).length)) g P (fun i=>if i=k then g1 else gs i) (k+1):=by
 have h':=h.below hb
 have hlt:=h.row.lt
 refine ⟨?_,fun i hi=>?_,fun i j hij hj=>?_⟩
 ·rw [<-pcs_set P gs k g1 hk]
  exact h'.row.set k (by rw [pcs_length];exact hk) _
 ·show Row _ (if i=k then g1 else gs i) _/\g<(if i=k then g1 else gs i)
  by_cases e:i=k
  ·subst e
   rw [if_pos rfl]
   exact ⟨hr.other _ (by show g≠g1;omega) _,by omega⟩
  ·rw [if_neg e]
   have:=h'.st i (by omega)
   exact ⟨this.1.other _ (by show g≠gs i;omega) _,this.2⟩
 ·show (if i=k then g1 else gs i)<(if j=k then g1 else gs j)
  rw [if_neg (by omega)]
  by_cases e:j=k
  ·rw [if_pos e]
   have:=(h.st i (by omega)).1.lt
   omega
  ·rw [if_neg e]
   exact h.asc i j hij (by omega)
theorem OwnP.pst {w:World} {g:Nat} {P:List (List (ByteArray×ByteArray))} {gs:Nat->Nat} (h:OwnP w g P gs P.length):Pst w (some ⟨g,0,none⟩) P :=
 .inr ⟨g,0,rfl,h.row.lt,fun i hi=>⟨_,_,by rw [Nat.zero_add];exact h.row.cell i (.slice (some ⟨gs i,0,none⟩) (P.getD i []).length (P.getD i []).length) (by simp [pcs,hi]),(h.st i hi).1.prs⟩⟩
def Chs (w:World) (a:Option Addr) (rs:List (ByteArray×ByteArray×Bool)):Prop :=
 rs=[]\/∃ b o,a=some ⟨b,o,none⟩/\b<w.heap.size/\∀ i,i<rs.length->w.cell? ⟨b,o+i*3,none⟩=some (.string (rs.getD i (ByteArray.empty,ByteArray.empty,false)).1)/\w.cell? ⟨b,o+i*3+1,none⟩=some (.string (rs.getD i (ByteArray.empty,ByteArray.empty,false)).2.1)/\w.cell? ⟨b,o+i*3+2,none⟩=some (.bool (rs.getD i (ByteArray.empty,ByteArray.empty,false)).2.2)
theorem Chs.below {w w':World} {a:Option Addr} {rs:List (ByteArray×ByteArray×Bool)} (h:Chs w a rs) (hb:Below w.heap.size w w'):Chs w' a rs:=by
 rcases h with h | ⟨b,o,h1,h2,h3⟩
 ·exact .inl h
 ·exact .inr ⟨b,o,h1,Nat.lt_of_lt_of_le h2 hb.size,fun i hi=>⟨(hb.cell (p:=⟨b,o+i*3,none⟩) h2).trans (h3 i hi).1,(hb.cell (p:=⟨b,o+i*3+1,none⟩) h2).trans (h3 i hi).2.1,(hb.cell (p:=⟨b,o+i*3+2,none⟩) h2).trans (h3 i hi).2.2⟩⟩
theorem Chs.at {w:World} {a:Option Addr} {rs:List (ByteArray×ByteArray×Bool)} (h:Chs w a rs) {k:Nat} (hk:k<rs.length):∃ b o s0 s1 g2,a=some ⟨b,o,none⟩/\w.cell? ⟨b,o+k*3,none⟩=some (.string s0)/\w.cell? ⟨b,o+k*3+1,none⟩=some (.string s1)/\w.cell? ⟨b,o+k*3+2,none⟩=some (.bool g2)/\Hid ((s0,s1,g2)=rs.getD k (ByteArray.empty,ByteArray.empty,false)):=by
 rcases h with h | ⟨b,o,h1,h2,h3⟩
 ·subst h;simp at hk
 ·exact ⟨b,o,_,_,_,h1,(h3 k hk).1,(h3 k hk).2.1,(h3 k hk).2.2,hid rfl⟩
def chcells (rs:List (ByteArray×ByteArray×Bool)):List Value:=rs.flatMap fun x=>[.string x.1,.string x.2.1,.bool x.2.2]
theorem chcells_append (a b:List (ByteArray×ByteArray×Bool)):chcells (a++b)=chcells a++chcells b:=by simp [chcells]
theorem chcells_at:∀ (rs:List (ByteArray×ByteArray×Bool)) (i:Nat),i<rs.length->(chcells rs)[i*3]?=some (.string (rs.getD i (ByteArray.empty,ByteArray.empty,false)).1)/\(chcells rs)[i*3+1]?=some (.string (rs.getD i (ByteArray.empty,ByteArray.empty,false)).2.1)/\(chcells rs)[i*3+2]?=some (.bool (rs.getD i (ByteArray.empty,ByteArray.empty,false)).2.2)
 | x::r,0,_=>by simp [chcells]
 | x::r,i+1,h=>by
  have ih:=chcells_at r i (by simpa using h)
  have e:chcells (x::r)=.string x.1::.string x.2.1::.bool x.2.2::chcells r:=by simp [chcells]
  rw [e,show (i+1)*3=i*3+3 by omega]
  simpa using ih
theorem Row.chs {w:World} {g:Nat} {rs:List (ByteArray×ByteArray×Bool)} (h:Row w g (chcells rs)):Chs w (some ⟨g,0,none⟩) rs :=
 .inr ⟨g,0,rfl,h.lt,fun i hi=>by
  rw [Nat.zero_add]
  exact ⟨h.cell _ _ (chcells_at rs i hi).1,h.cell _ _ (chcells_at rs i hi).2.1,h.cell _ _ (chcells_at rs i hi).2.2⟩⟩
end Go.Proofs.Ythdilmkbnpmdaaa
