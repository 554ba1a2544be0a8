import Derived.Laws.BytesArg
import Derived.WalkKit
import Derived.OrdersHeld
import Derived.Deep.RegionHeld
import Derived.Laws.MakeOwn
import Derived.WalkSmall
import Derived.Deep.Draws
import Derived.WalkSpells
import Derived.WalkLawsBesides
import Derived.Outline
import Derived.BigQuiet
import Derived.Deep.QuietTactic
import Derived.Deep.RegionHeld3
import Derived.Test.YtcoegjnjjdndjaaGreatDoorProg
set_option maxHeartbeats 16000000
set_option maxRecDepth 8000
set_option linter.unusedVariables false
set_option linter.unusedSimpArgs false
namespace Go.Proofs.YtcoegjnjjdndjaaGreatDoor
open Go.RowKit
def sh:Nat->Int->Int
 | 0,v=>v
 | j+1,v=>sh j v / 256
theorem sh_bd (j:Nat) (v:Int) (h0:0<=v) (h1:v<=18446744073709551615):0<=sh j v/\sh j v<=18446744073709551615:=by
 induction j with
 | zero=>exact ⟨h0,h1⟩
 | succ j ih=>unfold sh;omega
theorem sh_bd2 (j:Nat) (v:Int) (h0:0<=v) (h1:v<=9223372036854775807):0<=sh j v/\sh j v<=9223372036854775807:=by
 induction j with
 | zero=>exact ⟨h0,h1⟩
 | succ j ih=>unfold sh;omega
def be (n:Nat) (v:Int):List Int:=(List.range n).map fun i=>sh (n-1-i) v % 256
theorem be_length (n:Nat) (v:Int):(be n v).length=n:=by simp [be]
theorem be_succ (n:Nat) (v:Int):be (n+1) v=(sh n v % 256)::be n v:=by
 unfold be
 rw [List.range_succ_eq_map]
 simp only [List.map_cons,List.map_map,List.cons.injEq]
 refine ⟨by simp,?_⟩
 apply List.map_congr_left
 intro i hi
 simp at hi
 simp only [Function.comp]
 rw [show n+1-1-(i+1)=n-1-i by omega]
theorem be_get (n:Nat) (v:Int) (i:Nat) (h:i<n):(be n v).getD i 0=sh (n-1-i) v % 256:=by
 simp [be,List.getD,h]
theorem strOfNums_append (a b:List Int):strOfNums (a++b)=strOfNums a++strOfNums b:=by
 apply ByteArray.ext
 simp [strOfNums]
def fnvStep (x:Int) (c:UInt8):Int:=IntKind.u64.wrap (bits BinOp.xor IntKind.u64 x (IntKind.u64.wrap (c.toNat:Int))*1099511628211)
def fnv (l:List UInt8):Int:=l.foldl fnvStep 14695981039346656037
theorem wrap_u64_bd (x:Int):0<=IntKind.u64.wrap x/\IntKind.u64.wrap x<=18446744073709551615:=by
 simp [IntKind.wrap,IntKind.bits,IntKind.signed]
 omega
theorem wrap_u64_id (x:Int) (h0:0<=x) (h1:x<=18446744073709551615):IntKind.u64.wrap x=x:=by
 simp [IntKind.wrap,IntKind.bits,IntKind.signed]
 omega
theorem fnv_snoc (l:List UInt8) (c:UInt8):fnv (l++[c])=fnvStep (fnv l) c:=by simp [fnv]
theorem fnv_bd (l:List UInt8):0<=fnv l/\fnv l<=18446744073709551615:=by
 rcases List.eq_nil_or_concat l with rfl | ⟨l',c,rfl⟩
 ·unfold fnv;simp
 ·rw [List.concat_eq_append,fnv_snoc];exact wrap_u64_bd _
theorem take_snoc (s:ByteArray) (k:Nat) (h:k<s.size):s.data.toList.take (k+1)=s.data.toList.take k++[s[k]]:=by
 rw [List.take_succ_eq_append_getElem (by simpa using h)];rfl
def sumN (s:ByteArray) (n:Nat):ByteArray:=strOfNums (be n (fnv s.data.toList))
theorem sumN_size (s:ByteArray) (n:Nat):(sumN s n).size=n:=by unfold sumN;rw [strOfNums_size,be_length]
theorem slice_arr_from {P:Program} {t e:TypeId} {L:Nat} (ht:P.underlying t=some (.array L e)) (hz:∀ w,(sizeOf e).run P w=.ok 1 w) (b off l:Nat) (hl:l<L) (k:IntKind) (li:Int) (hli:li=(l:Int)) (w:World) :
  (Instr.sliceAt t (.pointer (some ⟨b,off,none⟩)) (some (.int k li)) none none).run P w=.ok (.slice (some ⟨b,off+l,none⟩) (L-l) (L-l)) w:=by
 have e1:P.arrayLen t=L:=by simp [Program.arrayLen,ht]
 have e2:P.elem t=e:=by simp [Program.elem,ht]
 rw [run_sliceAt_array_l (P:=P) w t ⟨b,off,none⟩ (by rw [e1,e2];exact ht) k li (by omega) (by omega),e1,e2,hz,hli]
 have e3:L≠l:=by omega
 simp [slicedAt,e3,Addr.add]
theorem slice_arr_to {P:Program} {t e:TypeId} {L:Nat} (ht:P.underlying t=some (.array L e)) (hz:∀ w,(sizeOf e).run P w=.ok 1 w) (b off h:Nat) (hL:0<L) (hl:h<=L) (k:IntKind) (li:Int) (hli:li=(h:Int)) (w:World) :
  (Instr.sliceAt t (.pointer (some ⟨b,off,none⟩)) none (some (.int k li)) none).run P w=.ok (.slice (some ⟨b,off,none⟩) h L) w:=by
 have e1:P.arrayLen t=L:=by simp [Program.arrayLen,ht]
 have e2:P.elem t=e:=by simp [Program.elem,ht]
 rw [run_sliceAt_array_h (P:=P) w t ⟨b,off,none⟩ (by rw [e1,e2];exact ht) k li (by omega) (by omega),e1,e2,hz,hli]
 have e3:L≠0:=by omega
 simp [slicedAt,Addr.add]
theorem isEmpty_size (p:ByteArray):p.toList.isEmpty=decide (p.size=0):=by
 rw [ByteArray.toList_eq]
 have e:p.size=p.data.toList.length:=rfl
 rw [e]
 cases p.data.toList<;>simp
def nums (p:ByteArray):List Int:=p.data.toList.map fun c=>(c.toNat:Int)
theorem nums_length (p:ByteArray):(nums p).length=p.size:=by simp [nums]
theorem strOfNums_nums (p:ByteArray):strOfNums (nums p)=p:=by
 apply ByteArray.ext
 simp [strOfNums,nums,Function.comp_def]
def pageHead (k l m:Int) (p:ByteArray):List Int:=be 1 k++be 2 l++be 4 m++be 1 (p.size:Int)++nums p
theorem pageHead_length (k l m:Int) (p:ByteArray):(pageHead k l m p).length=8+p.size:=by
 simp [pageHead,be_length,nums_length];omega
def pageBody (k l m:Int) (p:ByteArray) (n:Nat):List Int:=pageHead k l m p++List.replicate (56-n-p.size) 0
theorem pageBody_length (k l m:Int) (p:ByteArray) (n:Nat) (h:p.size+n<=56):(pageBody k l m p n).length=64-n:=by
 simp [pageBody,pageHead_length];omega
def pageForm (k l m:Int) (p:ByteArray) (n:Nat):ByteArray:=sumN (strOfNums (pageBody k l m p n)) n++strOfNums (pageBody k l m p n)
theorem pageForm_size (k l m:Int) (p:ByteArray) (n:Nat) (h:p.size+n<=56):(pageForm k l m p n).size=64:=by
 unfold pageForm
 rw [ByteArray.size_append,sumN_size,strOfNums_size,pageBody_length k l m p n h]
 omega
structure Wrote (w w':World) (b off:Nat) (xs:List Int):Prop where
 os:w'.os=w.os
 tape:w'.tape=w.tape
 output:w'.output=w.output
 size:w'.heap.size=w.heap.size
 others:∀ k,k≠b->w'.heap[k]?=w.heap[k]?
 inside:∀ i,i<xs.length->w'.cell? ⟨b,off+i,none⟩=some (.int .u8 (xs.getD i 0))
 outside:∀ o,(o<off\/off+xs.length<=o)->w'.cell? ⟨b,o,none⟩=w.cell? ⟨b,o,none⟩
 frozen:∀ a,w'.frozen? a=w.frozen? a
theorem Wrote.refl (w:World) (b off:Nat):Wrote w w b off []:=⟨rfl,rfl,rfl,rfl,fun _ _=>rfl,fun i h=>by simp at h,fun _ _=>rfl,fun _=>rfl⟩
theorem Wrote.below {w w':World} {b off:Nat} {xs:List Int} (h:Wrote w w' b off xs) {B:Nat} (hB:B<=b):Below B w w' :=
 ⟨h.os,h.tape,h.output,by rw [h.size];exact Nat.le_refl _,fun k hk=>h.others k (by omega)⟩
theorem Wrote.step {w w':World} {b off:Nat} {xs:List Int} (h:Wrote w w' b (off+1) xs) (n:Int) {u:Value} (hc:w.cell? ⟨b,off,none⟩=some u):Wrote w (w'.setCell ⟨b,off,none⟩ (.int .u8 n)) b off (n::xs):=by
 have hc':w'.cell? ⟨b,off,none⟩=some u:=(h.outside off (.inl (by omega))).trans hc
 refine ⟨h.os,h.tape,h.output,?_,fun k hk=>?_,fun i hi=>?_,fun o ho=>?_,fun a=>?_⟩
 ·rw [<-h.size];simp [World.setCell]
 ·rw [Below.heap_setCell _ _ _ _ hk];exact h.others k hk
 ·cases i with
  | zero=>simpa using World.cell?_setCell_same w' ⟨b,off,none⟩ (.int .u8 n) hc'
  | succ i =>
   rw [World.cell?_setCell_other (w:=w') (h:=show (⟨b,off,none⟩:Addr)≠⟨b,off+(i+1),none⟩ by simp)]
   have:=h.inside i (by simpa using hi)
   rw [show off+(i+1)=off+1+i by omega,this]
   simp
 ·simp only [List.length_cons] at ho
  rw [World.cell?_setCell_other (w:=w') (h:=show (⟨b,off,none⟩:Addr)≠⟨b,o,none⟩ by simp<;>omega)]
  exact h.outside o (by omega)
 ·rw [World.frozen?_setCell];exact h.frozen a
/-- What a put into a frame that is written out comes to. -/
theorem PS:(∀ (a:Act) (t:Nat) (v:Value),a.put (some t) v={ a with tmps:=a.tmps.setIfInBounds t v })/\(∀ (a:Act) (v:Value),a.put none v=a)/\(∀ (l:List Value) (i:Nat) (v:Value),l.toArray.setIfInBounds i v=(l.set i v).toArray)/\(∀ (x y:Value) (l:List Value),(x::l).set 0 y=y::l)/\(∀ (x y:Value) (l:List Value) (n:Nat),(x::l).set (n+1) y=x::l.set n y)/\(∀ (l:List Oper) (i:Nat) (h:i<l.toArray.size),l.toArray[i]=l[i]'(by simpa using h))/\(∀ (x:Oper) (l:List Oper) (h:0<(x::l).length),(x::l)[0]'h=x)/\(∀ (x:Oper) (l:List Oper) (i:Nat) (h:i+1<(x::l).length),(x::l)[i+1]'h=l[i]'(by simpa using h)) :=
 ⟨fun _ _ _=>rfl,fun _ _=>rfl,fun _ _ _=>by simp,fun _ _ _=>rfl,fun _ _ _ _=>rfl,fun _ _ _=>by simp,fun _ _ _=>rfl,fun _ _ _ _=>rfl⟩
/-- 'wpAnyH_take' with what the kernel reckons left to itself. -/
theorem TK {P:Program} {ops:Array Oper} {Q:Exit->Act->World->Prop} {md:Region.Mode} {S:World->Prop} {i:Nat} {oi:Oper} {v:Value} {fuel:Nat} {listed:Array Bool} {a:Act} {w:World} (hi:ops[i]?=some oi) (hy:YieldsIf P ops S oi v a) (hS:S w)
  (h:wpAnyH P md ops Q S fuel (listed.setIfInBounds i true) (a.put oi.dst v) w) (hs:Region.noSelect ops=true:=by kernel_rfl) (hf:Region.free md ops listed i=true:=by kernel_rfl) (hr:(Region.ready md ops listed).contains i=true:=by kernel_rfl)
  (hQ:∀ c a w,Q (.panic c) (a.put oi.dst v) w->Q (.panic c) a w:=by exact fun _ _ _ h=>h):wpAnyH P md ops Q S (fuel+1) listed a w:=wpAnyH_take hi hs hf hr hQ hy hS h
theorem TY {P:Program} {ops:Array Oper} {Q:Exit->Act->World->Prop} {md:Region.Mode} {S:World->Prop} {i:Nat} {oi:Oper} {v:Value} {fuel:Nat} {listed:Array Bool} {a:Act} {w:World} (hi:ops[i]?=some oi) (hS:S w)
  (h:wpAnyH P md ops Q S fuel (listed.setIfInBounds i true) (a.put oi.dst v) w) (hy:YieldsIf P ops S oi v a:=by exact Or.inl ⟨by rfl,fun w hw=>by (repeat (obtain ⟨_,hw⟩:=hw));go_simp⟩) (hs:Region.noSelect ops=true:=by kernel_rfl) (hf:Region.free md ops listed i=true:=by kernel_rfl) (hr:(Region.ready md ops listed).contains i=true:=by kernel_rfl)
  (hQ:∀ c a w,Q (.panic c) (a.put oi.dst v) w->Q (.panic c) a w:=by exact fun _ _ _ h=>h):wpAnyH P md ops Q S (fuel+1) listed a w:=wpAnyH_take hi hs hf hr hQ hy hS h
theorem RD {P:Program} {ops:Array Oper} {Q:Exit->Act->World->Prop} {md:Region.Mode} {S:World->Prop} {fuel:Nat} {listed:Array Bool} {a:Act} {w:World} {i:Nat} {o:Oper} (ho:ops[i]?=some o)
  (h:∀ K':Act->World->Prop,Shut (∀ a w,S w->(S w->wpAnyH P md ops Q S fuel (listed.setIfInBounds i true) a w)->K' a w)->if Region.wanted o (yielded ops a.tmps)=true then Oper.wp P o a w K' Q else K' (a.put o.dst undef) w)
  (hr:Region.ready md ops listed=[i]:=by kernel_rfl):wpAnyH P md ops Q S (fuel+1) listed a w:=wpAnyH_ready hr (by simp) (AllReadyH.cons ho h AllReadyH.nil)
theorem hid {p:Prop} (h:p):Hid p:=h
theorem ret_int {k:IntKind} {a b:Int} (h:a=b):Ending.returned (.int k a)=.returned (.int k b):=by rw [h]
def Strs (w:World) (a:Option Addr) (ss:List ByteArray):Prop :=
 ss=[]\/∃ b o,a=some ⟨b,o,none⟩/\b<w.heap.size/\∀ i,i<ss.length->w.cell? ⟨b,o+i,none⟩=some (.string (ss.getD i ByteArray.empty))
def Wrs (w:World) (a:Option Addr) (ws:List (Int×ByteArray)):Prop :=
 ws=[]\/∃ b o,a=some ⟨b,o,none⟩/\b<w.heap.size/\∀ i,i<ws.length->w.cell? ⟨b,o+i*2,none⟩=some (.int .i64 (ws.getD i (0,ByteArray.empty)).1)/\w.cell? ⟨b,o+i*2+1,none⟩=some (.string (ws.getD i (0,ByteArray.empty)).2)
theorem Strs.below {w w':World} {a:Option Addr} {ss:List ByteArray} (h:Strs w a ss) (hb:Below w.heap.size w w'):Strs w' a ss:=by
 rcases h with h | ⟨b,o,h1,h2,h3⟩
 ·exact .inl h
 ·exact .inr ⟨b,o,h1,Nat.lt_of_lt_of_le h2 hb.size,fun i hi=>(hb.cell (p:=⟨b,o+i,none⟩) h2).trans (h3 i hi)⟩
theorem Wrs.below {w w':World} {a:Option Addr} {ws:List (Int×ByteArray)} (h:Wrs w a ws) (hb:Below w.heap.size w w'):Wrs w' a ws:=by
 rcases h with h | ⟨b,o,h1,h2,h3⟩
 ·exact .inl h
 ·exact .inr ⟨b,o,h1,Nat.lt_of_lt_of_le h2 hb.size,fun i hi=>⟨(hb.cell (p:=⟨b,o+i*2,none⟩) h2).trans (h3 i hi).1,(hb.cell (p:=⟨b,o+i*2+1,none⟩) h2).trans (h3 i hi).2⟩⟩
theorem Strs.at {w:World} {a:Option Addr} {ss:List ByteArray} (h:Strs w a ss) {k:Nat} (hk:k<ss.length):∃ b o s,a=some ⟨b,o,none⟩/\w.cell? ⟨b,o+k,none⟩=some (.string s)/\Hid (s=ss.getD k ByteArray.empty):=by
 rcases h with h | ⟨b,o,h1,h2,h3⟩
 ·subst h;simp at hk
 ·exact ⟨b,o,_,h1,h3 k hk,hid rfl⟩
theorem Wrs.at {w:World} {a:Option Addr} {ws:List (Int×ByteArray)} (h:Wrs w a ws) {k:Nat} (hk:k<ws.length):∃ b o n s,a=some ⟨b,o,none⟩/\w.cell? ⟨b,o+k*2,none⟩=some (.int .i64 n)/\w.cell? ⟨b,o+k*2+1,none⟩=some (.string s)/\Hid ((n,s)=ws.getD k (0,ByteArray.empty)):=by
 rcases h with h | ⟨b,o,h1,h2,h3⟩
 ·subst h;simp at hk
 ·exact ⟨b,o,_,_,h1,(h3 k hk).1,(h3 k hk).2,hid rfl⟩
def szL:List Nat->Int->Int
 | [],x=>x
 | n::r,x=>if x-(n:Int)<0 then -1 else szL r (x-(n:Int))
theorem szL_bd:∀ (l:List Nat) (x:Int),0<=x->szL l x=-1\/(0<=szL l x/\szL l x<=x)
 | [],x,h=>.inr ⟨h,Int.le_refl _⟩
 | n::r,x,h=>by
  unfold szL
  split
  ·exact .inl rfl
  ·rcases szL_bd r (x-(n:Int)) (by omega) with h1 | h1
   ·exact .inl h1
   ·exact .inr ⟨h1.1,by omega⟩
theorem szL_cons_lt {n:Nat} {x:Int} (r:List Nat) (h:x-(n:Int)<0):szL (n::r) x=-1:=by unfold szL;exact if_pos h
theorem szL_cons_ge {n:Nat} {x:Int} (r:List Nat) (h:¬ x-(n:Int)<0):szL (n::r) x=szL r (x-(n:Int)):=by
 show (if x-(n:Int)<0 then -1 else szL r (x-(n:Int)))=_
 exact if_neg h
theorem szL_append_no:∀ (l r:List Nat) (x:Int),0<=x->szL l x<0->szL (l++r) x=-1
 | [],r,x,h,hl=>by have:szL [] x=x:=rfl;omega
 | n::l,r,x,h,hl=>by
  by_cases hn:x-(n:Int)<0
  ·exact szL_cons_lt _ hn
  ·rw [szL_cons_ge _ hn] at hl
   rw [List.cons_append,szL_cons_ge _ hn]
   exact szL_append_no l r _ (by omega) hl
theorem szL_append_yes:∀ (l r:List Nat) (x:Int),0<=x->0<=szL l x->szL (l++r) x=szL r (szL l x)
 | [],r,x,h,hl=>rfl
 | n::l,r,x,h,hl=>by
  by_cases hn:x-(n:Int)<0
  ·rw [szL_cons_lt _ hn] at hl;omega
  ·rw [szL_cons_ge _ hn] at hl ⊢
   rw [List.cons_append,szL_cons_ge _ hn]
   exact szL_append_yes l r _ (by omega) hl
theorem szL_mem:∀ (l:List Nat) (x:Int),0<=x->0<=szL l x->∀ n∈l,(n:Int)<=x
 | [],_,_,_,n,hn=>by simp at hn
 | m::r,x,h,hz,n,hn=>by
  unfold szL at hz
  by_cases hm:x-(m:Int)<0
  ·rw [if_pos hm] at hz;omega
  ·rw [if_neg hm] at hz
   rcases List.mem_cons.1 hn with rfl | hn
   ·omega
   ·have:=szL_mem r _ (by omega) hz n hn;omega
theorem drop_at {α:Type} (l:List α) (k:Nat) (d:α) (h:k<l.length):l.drop k=l.getD k d::l.drop (k+1):=by
 rw [List.drop_eq_getElem_cons h];simp [List.getD,h]
structure Row (w:World) (g:Nat) (cs:List Value):Prop where
 lt:g<w.heap.size
 cell:∀ i v,cs[i]?=some v->w.cell? ⟨g,i,none⟩=some v
 froz:∀ i,i<cs.length->w.frozen? ⟨g,i,none⟩=false
theorem Row.below {w w':World} {g:Nat} {cs:List Value} (h:Row w g cs) (hb:Below w.heap.size w w'):Row w' g cs :=
 ⟨Nat.lt_of_lt_of_le h.lt hb.size,fun i v hv=>(hb.cell (p:=⟨g,i,none⟩) h.lt).trans (h.cell i v hv),fun i hi=>(hb.frozen (p:=⟨g,i,none⟩) h.lt).trans (h.froz i hi)⟩
theorem Row.set {w:World} {g:Nat} {cs:List Value} (h:Row w g cs) (k:Nat) (hk:k<cs.length) (v:Value):Row (w.setCell ⟨g,k,none⟩ v) g (cs.set k v):=by
 refine ⟨by simpa [World.setCell] using h.lt,fun i u hu=>?_,fun i hi=>?_⟩
 ·by_cases he:i=k
  ·subst he
   rw [List.getElem?_set_self hk] at hu
   cases hu
   exact World.cell?_setCell_same w _ _ (h.cell i _ (List.getElem?_eq_getElem hk))
  ·rw [List.getElem?_set_ne (fun e=>he e.symm)] at hu
   rw [World.cell?_setCell_other (w:=w) (h:=show (⟨g,k,none⟩:Addr)≠⟨g,i,none⟩ by simp<;>omega)]
   exact h.cell i u hu
 ·rw [World.frozen?_setCell];exact h.froz i (by simpa using hi)
theorem Row.other {w:World} {g:Nat} {cs:List Value} (h:Row w g cs) (p:Addr) (hp:p.block≠g) (v:Value):Row (w.setCell p v) g cs:=by
 refine ⟨by simpa [World.setCell] using h.lt,fun i u hu=>?_,fun i hi=>?_⟩
 ·rw [World.cell?_setCell_other (w:=w) (h:=fun e=>hp (by rw [e]))];exact h.cell i u hu
 ·rw [World.frozen?_setCell];exact h.froz i hi
theorem Row.drew {w:World} {g:Nat} {cs:List Value} (h:Row w g cs):Row w.drew g cs:=⟨h.lt,h.cell,h.froz⟩
theorem Row.drewN {w:World} {g:Nat} {cs:List Value} (h:Row w g cs) (q:Nat):Row (w.drewN q) g cs:=h.below (below_drewN (Below.refl _ _) q)
theorem Row.alloc {w:World} {g:Nat} {cs:List Value} (h:Row w g cs) (o:Obj):Row (w.alloc o) g cs:=h.below ((Below.refl _ _).alloc (Nat.le_refl _) _)
theorem frozen_beyond (w:World) (b o:Nat) (h:w.heap.size<=b):w.frozen? ⟨b,o,none⟩=false:=by
 have e:w.heap[b]?=none:=by simp [h]
 simp [World.frozen?,e]
theorem row_new (w:World) (A:Array Value) (t:TypeId):Row (w.alloc (.cells A t)) w.heap.size A.toList :=
 ⟨by simp,fun i v hv=>by rw [World.cell?_alloc_at _ _ _ _ rfl];simpa using hv,fun i hi=>by rw [frozen?_alloc_cells];exact frozen_beyond _ _ _ (Nat.le_refl _)⟩
theorem Row.strs {w:World} {g:Nat} {ss:List ByteArray} (h:Row w g (ss.map Value.string)):Strs w (some ⟨g,0,none⟩) ss :=
 .inr ⟨g,0,rfl,h.lt,fun i hi=>by
  rw [Nat.zero_add]
  exact h.cell i _ (by simp [List.getD,hi])⟩
def wcells (ws:List (Int×ByteArray)):List Value:=ws.flatMap fun x=>[.int .i64 x.1,.string x.2]
theorem wcells_nil:wcells []=[]:=rfl
theorem wcells_append (a b:List (Int×ByteArray)):wcells (a++b)=wcells a++wcells b:=by simp [wcells]
theorem wcells_length (ws:List (Int×ByteArray)):(wcells ws).length=ws.length*2:=by
 induction ws with
 | nil=>rfl
 | cons x r ih=>simp [wcells] at ih ⊢;omega
theorem wcells_at:∀ (ws:List (Int×ByteArray)) (i:Nat),i<ws.length->(wcells ws)[i*2]?=some (.int .i64 (ws.getD i (0,ByteArray.empty)).1)/\(wcells ws)[i*2+1]?=some (.string (ws.getD i (0,ByteArray.empty)).2)
 | x::r,0,_=>by simp [wcells]
 | x::r,i+1,h=>by
  have ih:=wcells_at r i (by simpa using h)
  have e:wcells (x::r)=.int .i64 x.1::.string x.2::wcells r:=by simp [wcells]
  rw [e,show (i+1)*2=i*2+2 by omega]
  simpa using ih
theorem Row.wrs {w:World} {g:Nat} {ws:List (Int×ByteArray)} (h:Row w g (wcells ws)):Wrs w (some ⟨g,0,none⟩) ws :=
 .inr ⟨g,0,rfl,h.lt,fun i hi=>by
  rw [Nat.zero_add]
  exact ⟨h.cell _ _ (wcells_at ws i hi).1,h.cell _ _ (wcells_at ws i hi).2⟩⟩
def upTo (ss:List ByteArray) (k:Nat):List Value:=(ss.take k).map Value.string++List.replicate (ss.length-k) (.string ByteArray.empty)
theorem upTo_length (ss:List ByteArray) (k:Nat) (h:k<=ss.length):(upTo ss k).length=ss.length:=by simp [upTo];omega
theorem upTo_all (ss:List ByteArray) (k:Nat) (h:ss.length<=k):upTo ss k=ss.map Value.string:=by
 unfold upTo;rw [List.take_of_length_le h,show ss.length-k=0 by omega];simp
theorem upTo_set (ss:List ByteArray) (k:Nat) (h:k<ss.length):(upTo ss k).set k (.string (ss.getD k ByteArray.empty))=upTo ss (k+1):=by
 unfold upTo
 rw [List.set_append_right _ _ (by simp;omega)]
 have e1:k-((ss.take k).map Value.string).length=0:=by simp;omega
 rw [e1,show ss.length-k=(ss.length-(k+1))+1 by omega,List.replicate_succ,List.set_cons_zero,List.take_succ_eq_append_getElem h,List.map_append,List.append_assoc]
 simp [List.getD,h]
def wupTo (ws:List (Int×ByteArray)) (k:Nat):List Value:=wcells (ws.take k)++wcells (List.replicate (ws.length-k) (0,ByteArray.empty))
theorem wupTo_length (ws:List (Int×ByteArray)) (k:Nat) (h:k<=ws.length):(wupTo ws k).length=ws.length*2:=by simp [wupTo,wcells_length];omega
theorem wupTo_all (ws:List (Int×ByteArray)) (k:Nat) (h:ws.length<=k):wupTo ws k=wcells ws:=by
 unfold wupTo;rw [List.take_of_length_le h,show ws.length-k=0 by omega];simp [wcells]
theorem wupTo_set (ws:List (Int×ByteArray)) (k:Nat) (h:k<ws.length):((wupTo ws k).set (k*2) (.int .i64 (ws.getD k (0,ByteArray.empty)).1)).set (k*2+1) (.string (ws.getD k (0,ByteArray.empty)).2)=wupTo ws (k+1):=by
 unfold wupTo
 have el:(wcells (ws.take k)).length=k*2:=by rw [wcells_length];simp;omega
 rw [List.set_append_right _ _ (by omega),List.set_append_right _ _ (by omega),el,show k*2-k*2=0 by omega,show k*2+1-k*2=1 by omega,
  show ws.length-k=(ws.length-(k+1))+1 by omega,List.replicate_succ,List.take_succ_eq_append_getElem h,wcells_append,List.append_assoc]
 congr 1
 simp [wcells,List.getD,h]
theorem wpList_make_new {P:Program} {w:World} {ops:Array Oper} {rest:List Oper} {o:Oper} {a:Act} {Q:Exit->Act->World->Prop}
  (hg:o.guard=none) (l c:Operand) (t:TypeId) (hop:o.op=Op.makeSlice t l c) (e:TypeId) (z:Value) (size bytes:Nat) (ht:P.underlying t=some (.slice e)) (hinfo:(P.info? e).map (fun i=>(i.zero,i.size,i.bytes))=some (some z,size,bytes))
  (n:Nat) (hl:a.eval l=.int .i64 (n:Int)) (hc:a.eval c=.int .i64 (n:Int)) (hb:bytes*n<=281474976710656) (hn:n<=281474976710656)
  (h:∀ wx,Row wx w.heap.size (madeCells z.cells (n*size)).toList->Below w.heap.size w wx->wx.heap.size=w.heap.size+1->wpList P ops Q rest (a.put o.dst (.slice (some ⟨w.heap.size,0,none⟩) n n)) wx):wpList P ops Q (o::rest) a w:=by
 refine wpList_plain hg fun K hK=>?_
 obtain ⟨i,hi,hh⟩:=Option.map_eq_some_iff.1 hinfo
 simp only [Prod.mk.injEq] at hh
 obtain ⟨h1,h2,h3⟩:=hh
 subst h2 h3
 have hbi:(i.bytes:Int)*(n:Int)<=281474976710656:=by
  have:((i.bytes*n:Nat):Int)<=281474976710656:=by omega
  rwa [Int.natCast_mul] at this
 have hr:=run_make (P:=P) w t e i z ht hi h1 .i64 .i64 n n (by omega) (Int.le_refl _) hbi (by omega)
 simp only [Int.toNat_natCast] at hr
 unfold Oper.wp
 simp [execOp,hop,hl,hc,hr,Result.andThen]
 exact hK _ _ (h _ (row_new _ _ _) ((Below.refl _ _).alloc (Nat.le_refl _) _) (by simp))
theorem made_strs (n:Nat):(madeCells (Value.string ByteArray.empty).cells (n*1)).toList=List.replicate n (.string ByteArray.empty):=by
 unfold madeCells
 rw [Nat.mul_one,Array.toList_map,Array.toList_range]
 rw [List.eq_replicate_iff]
 refine ⟨by simp,fun b hb=>?_⟩
 obtain ⟨i,_,rfl⟩:=List.mem_map.1 hb
 have:i % (Value.string ByteArray.empty).cells.size=0:=by simp [Value.cells,Nat.mod_one]
 rw [this];rfl
theorem made_wrs:∀ (n:Nat),(madeCells (Value.agg #[.int .i64 0,.string ByteArray.empty]).cells (n*2)).toList=wcells (List.replicate n (0,ByteArray.empty))
 | 0=>by simp [madeCells,wcells]
 | n+1=>by
  have ih:=made_wrs n
  unfold madeCells at ih ⊢
  rw [Array.toList_map,Array.toList_range] at ih ⊢
  rw [show (n+1)*2=n*2+1+1 by omega,List.range_succ,List.range_succ,List.map_append,List.map_append,ih,List.replicate_succ',wcells_append,List.append_assoc]
  congr 1
  have e0:n*2 % (Value.agg #[.int .i64 0,.string ByteArray.empty]).cells.size=0:=by simp [Value.cells]
  have e1:(n*2+1) % (Value.agg #[.int .i64 0,.string ByteArray.empty]).cells.size=1:=by simp [Value.cells]
  simp only [List.map_cons,List.map_nil]
  rw [e0,e1]
  rfl
def Prs (w:World) (a:Option Addr) (rs:List (ByteArray×ByteArray)):Prop :=
 rs=[]\/∃ b o,a=some ⟨b,o,none⟩/\b<w.heap.size/\∀ i,i<rs.length->w.cell? ⟨b,o+i*2,none⟩=some (.string (rs.getD i (ByteArray.empty,ByteArray.empty)).1)/\w.cell? ⟨b,o+i*2+1,none⟩=some (.string (rs.getD i (ByteArray.empty,ByteArray.empty)).2)
theorem Prs.below {w w':World} {a:Option Addr} {rs:List (ByteArray×ByteArray)} (h:Prs w a rs) (hb:Below w.heap.size w w'):Prs w' a rs:=by
 rcases h with h | ⟨b,o,h1,h2,h3⟩
 ·exact .inl h
 ·exact .inr ⟨b,o,h1,Nat.lt_of_lt_of_le h2 hb.size,fun i hi=>⟨(hb.cell (p:=⟨b,o+i*2,none⟩) h2).trans (h3 i hi).1,(hb.cell (p:=⟨b,o+i*2+1,none⟩) h2).trans (h3 i hi).2⟩⟩
theorem Prs.at {w:World} {a:Option Addr} {rs:List (ByteArray×ByteArray)} (h:Prs w a rs) {k:Nat} (hk:k<rs.length):∃ b o s0 s1,a=some ⟨b,o,none⟩/\w.cell? ⟨b,o+k*2,none⟩=some (.string s0)/\w.cell? ⟨b,o+k*2+1,none⟩=some (.string s1)/\Hid ((s0,s1)=rs.getD k (ByteArray.empty,ByteArray.empty)):=by
 rcases h with h | ⟨b,o,h1,h2,h3⟩
 ·subst h;simp at hk
 ·exact ⟨b,o,_,_,h1,(h3 k hk).1,(h3 k hk).2,hid rfl⟩
def prcells (rs:List (ByteArray×ByteArray)):List Value:=rs.flatMap fun x=>[.string x.1,.string x.2]
theorem prcells_nil:prcells []=[]:=rfl
theorem prcells_append (a b:List (ByteArray×ByteArray)):prcells (a++b)=prcells a++prcells b:=by simp [prcells]
theorem prcells_length (rs:List (ByteArray×ByteArray)):(prcells rs).length=rs.length*2:=by
 induction rs with
 | nil=>rfl
 | cons x r ih=>simp [prcells] at ih ⊢;omega
theorem prcells_at:∀ (rs:List (ByteArray×ByteArray)) (i:Nat),i<rs.length->(prcells rs)[i*2]?=some (.string (rs.getD i (ByteArray.empty,ByteArray.empty)).1)/\(prcells rs)[i*2+1]?=some (.string (rs.getD i (ByteArray.empty,ByteArray.empty)).2)
 | x::r,0,_=>by simp [prcells]
 | x::r,i+1,h=>by
  have ih:=prcells_at r i (by simpa using h)
  have e:prcells (x::r)=.string x.1::.string x.2::prcells r:=by simp [prcells]
  rw [e,show (i+1)*2=i*2+2 by omega]
  simpa using ih
theorem Row.prs {w:World} {g:Nat} {rs:List (ByteArray×ByteArray)} (h:Row w g (prcells rs)):Prs w (some ⟨g,0,none⟩) rs :=
 .inr ⟨g,0,rfl,h.lt,fun i hi=>by
  rw [Nat.zero_add]
  exact ⟨h.cell _ _ (prcells_at rs i hi).1,h.cell _ _ (prcells_at rs i hi).2⟩⟩
def prupTo (rs:List (ByteArray×ByteArray)) (k:Nat):List Value:=prcells (rs.take k)++prcells (List.replicate (rs.length-k) (ByteArray.empty,ByteArray.empty))
theorem prupTo_length (rs:List (ByteArray×ByteArray)) (k:Nat) (h:k<=rs.length):(prupTo rs k).length=rs.length*2:=by simp [prupTo,prcells_length];omega
theorem prupTo_all (rs:List (ByteArray×ByteArray)) (k:Nat) (h:rs.length<=k):prupTo rs k=prcells rs:=by
 unfold prupTo;rw [List.take_of_length_le h,show rs.length-k=0 by omega];simp [prcells]
theorem prupTo_set (rs:List (ByteArray×ByteArray)) (k:Nat) (h:k<rs.length):((prupTo rs k).set (k*2) (.string (rs.getD k (ByteArray.empty,ByteArray.empty)).1)).set (k*2+1) (.string (rs.getD k (ByteArray.empty,ByteArray.empty)).2)=prupTo rs (k+1):=by
 unfold prupTo
 have el:(prcells (rs.take k)).length=k*2:=by rw [prcells_length];simp;omega
 rw [List.set_append_right _ _ (by omega),List.set_append_right _ _ (by omega),el,show k*2-k*2=0 by omega,show k*2+1-k*2=1 by omega,
  show rs.length-k=(rs.length-(k+1))+1 by omega,List.replicate_succ,List.take_succ_eq_append_getElem h,prcells_append,List.append_assoc]
 congr 1
 simp [prcells,List.getD,h]
theorem made_prs:∀ (n:Nat),(madeCells (Value.agg #[.string ByteArray.empty,.string ByteArray.empty]).cells (n*2)).toList=prcells (List.replicate n (ByteArray.empty,ByteArray.empty))
 | 0=>by simp [madeCells,prcells]
 | n+1=>by
  have ih:=made_prs n
  unfold madeCells at ih ⊢
  rw [Array.toList_map,Array.toList_range] at ih ⊢
  rw [show (n+1)*2=n*2+1+1 by omega,List.range_succ,List.range_succ,List.map_append,List.map_append,ih,List.replicate_succ',prcells_append,List.append_assoc]
  congr 1
  have e0:(n*2) % (Value.agg #[.string ByteArray.empty,.string ByteArray.empty]).cells.size=0:=by simp [Value.cells]<;>omega
  have e1:(n*2+1) % (Value.agg #[.string ByteArray.empty,.string ByteArray.empty]).cells.size=1:=by simp [Value.cells]<;>omega
  simp only [List.map_cons,List.map_nil]
  rw [e0,e1]
  rfl
def prsz (x:ByteArray×ByteArray):List Nat:=[x.1.size,x.2.size]
def Chs (w:World) (a:Option Addr) (rs:List (ByteArray×ByteArray×Bool)):Prop :=
 rs=[]\/∃ b o,a=some ⟨b,o,none⟩/\b<w.heap.size/\∀ i,i<rs.length->w.cell? ⟨b,o+i*3,none⟩=some (.string (rs.getD i (ByteArray.empty,ByteArray.empty,false)).1)/\w.cell? ⟨b,o+i*3+1,none⟩=some (.string (rs.getD i (ByteArray.empty,ByteArray.empty,false)).2.1)/\w.cell? ⟨b,o+i*3+2,none⟩=some (.bool (rs.getD i (ByteArray.empty,ByteArray.empty,false)).2.2)
theorem Chs.below {w w':World} {a:Option Addr} {rs:List (ByteArray×ByteArray×Bool)} (h:Chs w a rs) (hb:Below w.heap.size w w'):Chs w' a rs:=by
 rcases h with h | ⟨b,o,h1,h2,h3⟩
 ·exact .inl h
 ·exact .inr ⟨b,o,h1,Nat.lt_of_lt_of_le h2 hb.size,fun i hi=>⟨(hb.cell (p:=⟨b,o+i*3,none⟩) h2).trans (h3 i hi).1,(hb.cell (p:=⟨b,o+i*3+1,none⟩) h2).trans (h3 i hi).2.1,(hb.cell (p:=⟨b,o+i*3+2,none⟩) h2).trans (h3 i hi).2.2⟩⟩
theorem Chs.at {w:World} {a:Option Addr} {rs:List (ByteArray×ByteArray×Bool)} (h:Chs w a rs) {k:Nat} (hk:k<rs.length):∃ b o s0 s1 g2,a=some ⟨b,o,none⟩/\w.cell? ⟨b,o+k*3,none⟩=some (.string s0)/\w.cell? ⟨b,o+k*3+1,none⟩=some (.string s1)/\w.cell? ⟨b,o+k*3+2,none⟩=some (.bool g2)/\Hid ((s0,s1,g2)=rs.getD k (ByteArray.empty,ByteArray.empty,false)):=by
 rcases h with h | ⟨b,o,h1,h2,h3⟩
 ·subst h;simp at hk
 ·exact ⟨b,o,_,_,_,h1,(h3 k hk).1,(h3 k hk).2.1,(h3 k hk).2.2,hid rfl⟩
def chcells (rs:List (ByteArray×ByteArray×Bool)):List Value:=rs.flatMap fun x=>[.string x.1,.string x.2.1,.bool x.2.2]
theorem chcells_append (a b:List (ByteArray×ByteArray×Bool)):chcells (a++b)=chcells a++chcells b:=by simp [chcells]
theorem chcells_at:∀ (rs:List (ByteArray×ByteArray×Bool)) (i:Nat),i<rs.length->(chcells rs)[i*3]?=some (.string (rs.getD i (ByteArray.empty,ByteArray.empty,false)).1)/\(chcells rs)[i*3+1]?=some (.string (rs.getD i (ByteArray.empty,ByteArray.empty,false)).2.1)/\(chcells rs)[i*3+2]?=some (.bool (rs.getD i (ByteArray.empty,ByteArray.empty,false)).2.2)
 | x::r,0,_=>by simp [chcells]
 | x::r,i+1,h=>by
  have ih:=chcells_at r i (by simpa using h)
  have e:chcells (x::r)=.string x.1::.string x.2.1::.bool x.2.2::chcells r:=by simp [chcells]
  rw [e,show (i+1)*3=i*3+3 by omega]
  simpa using ih
theorem Row.chs {w:World} {g:Nat} {rs:List (ByteArray×ByteArray×Bool)} (h:Row w g (chcells rs)):Chs w (some ⟨g,0,none⟩) rs :=
 .inr ⟨g,0,rfl,h.lt,fun i hi=>by
  rw [Nat.zero_add]
  exact ⟨h.cell _ _ (chcells_at rs i hi).1,h.cell _ _ (chcells_at rs i hi).2.1,h.cell _ _ (chcells_at rs i hi).2.2⟩⟩
theorem ret_boolb {a b:Bool} (h:a=b):Ending.returned (.bool a)=.returned (.bool b):=by rw [h]
def kOk (k:ByteArray):Bool:=decide (1<=k.size/\k.size<=20)
def vOk (k:ByteArray):Bool:=decide (k.size<=100)
def chOk (x:ByteArray×ByteArray×Bool):Bool:=kOk x.1 && vOk x.2.1 && !(x.2.2 && decide (x.2.1.size≠0))
def batchOk (rs:List (ByteArray×ByteArray×Bool)):Bool:=decide (1<=rs.length/\rs.length<=20) && rs.all chOk
theorem batchOk_no1 {rs:List (ByteArray×ByteArray×Bool)} (h:¬ (1<=rs.length/\rs.length<=20)):batchOk rs=false:=by simp [batchOk,h]
theorem batchOk_no2 {rs:List (ByteArray×ByteArray×Bool)} {x:ByteArray×ByteArray×Bool} (hm:x∈rs) (h:chOk x=false):batchOk rs=false:=by
 have:rs.all chOk=false:=List.all_eq_false.2 ⟨x,hm,by simp [h]⟩
 simp [batchOk,this]
theorem batchOk_yes {rs:List (ByteArray×ByteArray×Bool)} (h:1<=rs.length/\rs.length<=20) (h1:∀ x∈rs,chOk x=true):batchOk rs=true:=by
 simp only [batchOk,Bool.and_eq_true,decide_eq_true_eq,List.all_eq_true]
 exact ⟨h,h1⟩
theorem batchOk_of {rs:List (ByteArray×ByteArray×Bool)} (h:batchOk rs=true):(1<=rs.length/\rs.length<=20)/\∀ x∈rs,chOk x=true:=by
 simp only [batchOk,Bool.and_eq_true,decide_eq_true_eq,List.all_eq_true] at h
 exact h
theorem key_s (s:ByteArray) (w:World) (hs:s.size<=1048576):Calls Tryz.prog 79 #[.string s] w fun e w'=>e=.returned (.bool (kOk s))/\w'=w:=by
 unfold kOk
 by_cases h1:1<=s.size
 ·by_cases h2:s.size<=20
  ·go_enter Tryz.func79,Tryz.ntmps79
   go_wp2
   go_ret
   exact ⟨ret_boolb (by simp [h1,h2]<;>omega),rfl⟩
  ·go_enter Tryz.func79,Tryz.ntmps79
   go_wp2
   go_ret
   exact ⟨ret_boolb (by simp [h2]<;>omega),rfl⟩
 ·go_enter Tryz.func79,Tryz.ntmps79
  go_wp2
  go_ret
  exact ⟨ret_boolb (by simp<;>omega),rfl⟩
theorem chOk_no1 {k v:ByteArray} {g:Bool} (h:kOk k=false):chOk (k,v,g)=false:=by simp [chOk,h]
theorem chOk_no2 {k v:ByteArray} {g:Bool} (h:vOk v=false):chOk (k,v,g)=false:=by simp [chOk,h]
theorem chOk_no3 {k v:ByteArray} (h:v.toList.isEmpty=false):chOk (k,v,true)=false:=by
 rw [isEmpty_size] at h
 have:v.size≠0:=by simpa using h
 simp [chOk,this]
theorem chOk_yes1 {k v:ByteArray} (h:kOk k=true) (h2:vOk v=true):chOk (k,v,false)=true:=by simp [chOk,h,h2]
theorem chOk_yes2 {k v:ByteArray} (h:kOk k=true) (h2:vOk v=true) (h3:v.toList.isEmpty=true):chOk (k,v,true)=true:=by
 rw [isEmpty_size] at h3
 have:v.size=0:=by simpa using h3
 simp [chOk,h,h2,this]
theorem all_succ {α:Type} {rs:List α} {k:Nat} {x d:α} {f:α->Bool} (hlt:k<rs.length) (HA:∀ y∈rs.take k,f y=true) (HS:x=rs.getD k d) (hx:f x=true):∀ y∈rs.take (k+1),f y=true:=by
 intro y hy
 rw [List.take_succ_eq_append_getElem hlt] at hy
 rcases List.mem_append.1 hy with hy | hy
 ·exact HA y hy
 ·simp at hy
  simp [List.getD,hlt] at HS
  rw [hy,<-HS];exact hx
set_option maxHeartbeats 16000000 in
theorem vbatch_s (a:Option Addr) (rs:List (ByteArray×ByteArray×Bool)) (c:Nat) (w:World) (h:Chs w a rs) (hl:rs.length<=1048576) (hs:∀ x∈rs,x.1.size<=1048576/\x.2.1.size<=1048576) :
  Calls Tryz.prog 127 #[.slice a rs.length c] w fun e w'=>e=.returned (.bool (batchOk rs))/\Below w.heap.size w w':=by
 obtain ⟨R,HR⟩:∃ R,Hid (R=batchOk rs):=⟨_,hid rfl⟩
 rw [<-HR.out]
 by_cases hn:1<=(rs.length:Int)
 ·by_cases hp:(rs.length:Int)<=20
  ·go_enter Tryz.func127,Tryz.ntmps127
   go_wp2
   go_loopw [3] (fun i wr=>∃ k:Nat,k<=rs.length/\i=.int .i64 k/\Hid (∀ x∈rs.take k,chOk x=true)/\Below w.heap.size w wr) (fun i _=>rs.length-(intOf i).toNat)
   case atStart=>exact ⟨0,Nat.zero_le _,rfl,by show ∀ s∈rs.take 0,_;simp,Below.refl _ _⟩
   case round =>
    obtain ⟨k,hk,rfl,HA,hbel⟩:=hrel
    by_cases hlt:k<rs.length
    ·obtain ⟨b,o,s0,s1,g2,rfl,hc0,hc1,hc2,HS⟩:=(h.below hbel).at hlt
     have hm:Hid ((s0,s1,g2)∈rs):=by show _∈_;rw [HS.out];simp [List.getD,hlt]
     obtain ⟨hz0,hz1⟩:=hs _ hm.out
     have hlt':(k:Int)<(rs.length:Int):=by omega
     have hk0:(0:Int)<=(k:Int):=by omega
     cases hk1:kOk s0 with
     | false =>
      go_wp2_with (go_at_call 79;refine (key_s _ _ hz0).mono ?_;rw [hk1];rintro e w2 ⟨rfl,rfl⟩)
      go_ret
      exact ⟨ret_boolb (by rw [HR.out];exact (batchOk_no2 hm.out (chOk_no1 hk1)).symm),hbel⟩
     | true =>
      cases hv1:vOk s1 with
      | false =>
       have hv3:(100:Int)<(s1.size:Int):=by simp [vOk] at hv1;omega
       go_wp2_with (go_at_call 79;refine (key_s _ _ hz0).mono ?_;rw [hk1];rintro e w2 ⟨rfl,rfl⟩)
       go_ret
       exact ⟨ret_boolb (by rw [HR.out];exact (batchOk_no2 hm.out (chOk_no2 hv1)).symm),hbel⟩
      | true =>
       have hv3:(s1.size:Int)<=100:=by simp [vOk] at hv1;omega
       cases g2 with
       | false =>
        go_wp2_with (go_at_call 79;refine (key_s _ _ hz0).mono ?_;rw [hk1];rintro e w2 ⟨rfl,rfl⟩)
        go_roundw
        case rel=>exact ⟨k+1,by omega,by go_num,all_succ hlt HA.out HS.out (chOk_yes1 hk1 hv1),hbel⟩
        case measure=>simp [intOf];omega
       | true =>
        cases he:s1.toList.isEmpty with
        | false =>
         go_wp2_with (go_at_call 79;refine (key_s _ _ hz0).mono ?_;rw [hk1];rintro e w2 ⟨rfl,rfl⟩)
         go_ret
         exact ⟨ret_boolb (by rw [HR.out];exact (batchOk_no2 hm.out (chOk_no3 he)).symm),hbel⟩
        | true =>
         go_wp2_with (go_at_call 79;refine (key_s _ _ hz0).mono ?_;rw [hk1];rintro e w2 ⟨rfl,rfl⟩)
         go_roundw
         case rel=>exact ⟨k+1,by omega,by go_num,all_succ hlt HA.out HS.out (chOk_yes2 hk1 hv1 he),hbel⟩
         case measure=>simp [intOf];omega
    ·have hall:Hid (∀ s∈rs,chOk s=true):=by have:=HA.out;rwa [List.take_of_length_le (by omega)] at this
     clear HA
     go_wp2
     go_ret
     exact ⟨ret_boolb (by rw [HR.out];exact (batchOk_yes (by omega) hall.out).symm),hbel⟩
  ·go_enter Tryz.func127,Tryz.ntmps127
   go_wp2
   go_ret
   exact ⟨ret_boolb (by rw [HR.out];exact (batchOk_no1 (by omega)).symm),Below.refl _ _⟩
 ·go_enter Tryz.func127,Tryz.ntmps127
  go_wp2
  go_ret
  exact ⟨ret_boolb (by rw [HR.out];exact (batchOk_no1 (by omega)).symm),Below.refl _ _⟩
theorem key_i (s:ByteArray) (w:World) (hs:s.size<=1048576):Calls Tryz.prog 131 #[.string s] w fun e w'=>e=.returned (.bool (kOk s))/\w'=w:=by
 unfold kOk
 by_cases h1:1<=s.size
 ·by_cases h2:s.size<=20
  ·go_enter Tryz.func131,Tryz.ntmps131
   go_wp2
   go_ret
   exact ⟨ret_boolb (by simp [h1,h2]<;>omega),rfl⟩
  ·go_enter Tryz.func131,Tryz.ntmps131
   go_wp2
   go_ret
   exact ⟨ret_boolb (by simp [h2]<;>omega),rfl⟩
 ·go_enter Tryz.func131,Tryz.ntmps131
  go_wp2
  go_ret
  exact ⟨ret_boolb (by simp<;>omega),rfl⟩
theorem val_i (s:ByteArray) (w:World) (hs:s.size<=1048576):Calls Tryz.prog 132 #[.string s] w fun e w'=>e=.returned (.bool (vOk s))/\w'=w:=by
 unfold vOk
 go_enter Tryz.func132,Tryz.ntmps132
 go_wp2
 go_ret
 exact ⟨ret_boolb (by simp<;>omega),rfl⟩
set_option maxHeartbeats 16000000 in
theorem vbatch_i (a:Option Addr) (rs:List (ByteArray×ByteArray×Bool)) (c:Nat) (w:World) (h:Chs w a rs) (hl:rs.length<=1048576) (hs:∀ x∈rs,x.1.size<=1048576/\x.2.1.size<=1048576) :
  Calls Tryz.prog 140 #[.slice a rs.length c] w fun e w'=>e=.returned (.bool (batchOk rs))/\Below w.heap.size w w':=by
 obtain ⟨R,HR⟩:∃ R,Hid (R=batchOk rs):=⟨_,hid rfl⟩
 rw [<-HR.out]
 by_cases hn:1<=(rs.length:Int)
 ·by_cases hp:(rs.length:Int)<=20
  ·go_enter Tryz.func140,Tryz.ntmps140
   go_wp2
   go_loopw [4,15] (fun _ i wr=>∃ k:Nat,k<=rs.length/\i=.int .i64 k/\Hid (∀ x∈rs.take k,chOk x=true)/\Below w.heap.size w wr) (fun _ i _=>rs.length-(intOf i).toNat)
   case atStart=>exact ⟨0,Nat.zero_le _,rfl,by show ∀ s∈rs.take 0,_;simp,Below.refl _ _⟩
   case round =>
    obtain ⟨k,hk,rfl,HA,hbel⟩:=hrel
    by_cases hlt:k<rs.length
    ·obtain ⟨b,o,s0,s1,g2,rfl,hc0,hc1,hc2,HS⟩:=(h.below hbel).at hlt
     have hm:Hid ((s0,s1,g2)∈rs):=by show _∈_;rw [HS.out];simp [List.getD,hlt]
     obtain ⟨hz0,hz1⟩:=hs _ hm.out
     have hlt':(k:Int)<(rs.length:Int):=by omega
     have hk0:(0:Int)<=(k:Int):=by omega
     cases hk1:kOk s0 with
     | false =>
      go_wp2_with (first | (go_at_call 131;refine (key_i _ _ hz0).mono ?_;rw [hk1];rintro e w2 ⟨rfl,rfl⟩))
      go_ret
      exact ⟨ret_boolb (by rw [HR.out];exact (batchOk_no2 hm.out (chOk_no1 hk1)).symm),hbel.alloc hbel.size _⟩
     | true =>
      cases hv1:vOk s1 with
      | false =>
       skip
       go_wp2_with (first | (go_at_call 131;refine (key_i _ _ hz0).mono ?_;rw [hk1];rintro e w2 ⟨rfl,rfl⟩) | (go_at_call 132;refine (val_i _ _ hz1).mono ?_;rw [hv1];rintro e w2 ⟨rfl,rfl⟩))
       go_ret
       exact ⟨ret_boolb (by rw [HR.out];exact (batchOk_no2 hm.out (chOk_no2 hv1)).symm),hbel.alloc hbel.size _⟩
      | true =>
       skip
       cases g2 with
       | false =>
        go_wp2_with (first | (go_at_call 131;refine (key_i _ _ hz0).mono ?_;rw [hk1];rintro e w2 ⟨rfl,rfl⟩) | (go_at_call 132;refine (val_i _ _ hz1).mono ?_;rw [hv1];rintro e w2 ⟨rfl,rfl⟩))
        go_roundw
        case rel=>exact ⟨k+1,by omega,by go_num,all_succ hlt HA.out HS.out (chOk_yes1 hk1 hv1),hbel.alloc hbel.size _⟩
        case measure=>simp [intOf];omega
       | true =>
        cases he:s1.toList.isEmpty with
        | false =>
         go_wp2_with (first | (go_at_call 131;refine (key_i _ _ hz0).mono ?_;rw [hk1];rintro e w2 ⟨rfl,rfl⟩) | (go_at_call 132;refine (val_i _ _ hz1).mono ?_;rw [hv1];rintro e w2 ⟨rfl,rfl⟩))
         go_ret
         exact ⟨ret_boolb (by rw [HR.out];exact (batchOk_no2 hm.out (chOk_no3 he)).symm),hbel.alloc hbel.size _⟩
        | true =>
         go_wp2_with (first | (go_at_call 131;refine (key_i _ _ hz0).mono ?_;rw [hk1];rintro e w2 ⟨rfl,rfl⟩) | (go_at_call 132;refine (val_i _ _ hz1).mono ?_;rw [hv1];rintro e w2 ⟨rfl,rfl⟩))
         go_roundw
         case rel=>exact ⟨k+1,by omega,by go_num,all_succ hlt HA.out HS.out (chOk_yes2 hk1 hv1 he),hbel.alloc hbel.size _⟩
         case measure=>simp [intOf];omega
    ·have hall:Hid (∀ s∈rs,chOk s=true):=by have:=HA.out;rwa [List.take_of_length_le (by omega)] at this
     clear HA
     go_wp2
     go_ret
     exact ⟨ret_boolb (by rw [HR.out];exact (batchOk_yes (by omega) hall.out).symm),hbel⟩
  ·go_enter Tryz.func140,Tryz.ntmps140
   go_wp2
   go_ret
   exact ⟨ret_boolb (by rw [HR.out];exact (batchOk_no1 (by omega)).symm),Below.refl _ _⟩
 ·go_enter Tryz.func140,Tryz.ntmps140
  go_wp2
  go_ret
  exact ⟨ret_boolb (by rw [HR.out];exact (batchOk_no1 (by omega)).symm),Below.refl _ _⟩
end Go.Proofs.YtcoegjnjjdndjaaGreatDoor
