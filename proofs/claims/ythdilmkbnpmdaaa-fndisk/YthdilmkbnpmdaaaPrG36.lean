import Derived.Test.YthdilmkbnpmdaaaPrG39
import Derived.Test.YthdilmkbnpmdaaaPrG48
import Derived.Deep.Onto
import Derived.Deep.AppendSrc
import Derived.Laws.IdiomCopy
import Derived.Great.BuildSlice
set_option maxHeartbeats 16000000
set_option maxRecDepth 8000
set_option linter.unusedVariables false
set_option linter.unusedSimpArgs false
namespace Go.Proofs.Ythdilmkbnpmdaaa
open Go.RowKit
theorem made_one (z:Value) (hz:z.cells=#[z]) (n:Nat):(madeCells z.cells (n*1)).toList=List.replicate n z:=by
 unfold madeCells
 rw [Nat.mul_one,Array.toList_map,Array.toList_range,List.eq_replicate_iff]
 refine ⟨by simp,fun b hb=>?_⟩
 obtain ⟨i,_,rfl⟩:=List.mem_map.1 hb
 rw [hz]
 have:i % (#[z]:Array Value).size=0:=by simp [Nat.mod_one]
 rw [this];rfl
theorem Dsk.start (w:World) (t1 t2 e e':TypeId):Dsk w ((w.alloc (.cells #[.slice none 0 0,.slice none 0 0] t1)).alloc (.cells #[.slice none 0 0,.slice none 0 0] t2)) w.heap.size (w.heap.size+1) (w.heap.size+1+1) e e' (.slice none 0 0) (.slice none 0 0) [] []:=by
 have hb:Below w.heap.size w ((w.alloc (.cells #[.slice none 0 0,.slice none 0 0] t1)).alloc (.cells #[.slice none 0 0,.slice none 0 0] t2)):=((Below.refl _ _).alloc (Nat.le_refl _) _).alloc (by simp) _
 have r1:=(row_new w #[.slice none 0 0,.slice none 0 0] t1).alloc (.cells #[.slice none 0 0,.slice none 0 0] t2)
 have r2:=row_new (w.alloc (.cells #[.slice none 0 0,.slice none 0 0] t1)) #[.slice none 0 0,.slice none 0 0] t2
 simp only [World.size_alloc] at r2
 exact ⟨Nat.le_refl _,by omega,by omega,by omega,by omega,by simp,hb,r1.cell 0 _ rfl,r1.cell 1 _ rfl,r1.froz 0 (by simp),r1.froz 1 (by simp),r2.cell 0 _ rfl,r2.cell 1 _ rfl,r2.froz 0 (by simp),r2.froz 1 (by simp),World.ownsRow_nil _ _ _ _,World.ownsRow_nil _ _ _ _,.inl rfl⟩
theorem info_parts' {P:Program} {e:TypeId} {z:Value} {size bytes:Nat} (h:(P.info? e).map (fun i=>(i.zero,i.size,i.bytes))=some (some z,size,bytes)):∃ i,P.info? e=some i/\i.zero=some z/\i.size=size/\i.bytes=bytes:=by
 obtain ⟨i,hi,hh⟩:=Option.map_eq_some_iff.1 h
 simp only [Prod.mk.injEq] at hh
 exact ⟨i,hi,hh⟩
theorem at_load {P:Program} {ops:Array Oper} {rest:List Oper} {op:Oper} {a:Act} {w:World} {Q:Exit->Act->World->Prop} (ty:TypeId) (x:Operand) (_ho:op.op=.load ty x) (h:wpList P ops Q (op::rest) a w):wpList P ops Q (op::rest) a w:=h
theorem at_store {P:Program} {ops:Array Oper} {rest:List Oper} {op:Oper} {a:Act} {w:World} {Q:Exit->Act->World->Prop} (ty:TypeId) (x y:Operand) (_ho:op.op=.store ty x y) (h:wpList P ops Q (op::rest) a w):wpList P ops Q (op::rest) a w:=h
def Plt (w:World) (a:Option Addr) (ps:List (List Int)):Prop :=
 ps=[]\/∃ b o,a=some ⟨b,o,none⟩/\b<w.heap.size/\∀ i,i<ps.length->w.rangeAt b (o+i*64) ((ps.getD i []).map (Value.int .u8))
def Hld (w:World) (a:Option Addr) (hs:List (Int×List Int)):Prop :=
 hs=[]\/∃ b o,a=some ⟨b,o,none⟩/\b<w.heap.size/\∀ i,i<hs.length->w.rangeAt b (o+i*65) (.int .i64 (hs.getD i (0,[])).1::(hs.getD i (0,[])).2.map (Value.int .u8))
theorem range_below {w w':World} {b o:Nat} {cs:List Value} (h:w.rangeAt b o cs) (hb:Below w.heap.size w w') (hlt:b<w.heap.size):w'.rangeAt b o cs:=fun j v hv=>(hb.cell (p:=⟨b,o+j,none⟩) hlt).trans (h j v hv)
theorem Plt.below {w w':World} {a:Option Addr} {ps:List (List Int)} (h:Plt w a ps) (hb:Below w.heap.size w w'):Plt w' a ps:=by
 rcases h with h | ⟨b,o,h1,h2,h3⟩
 ·exact .inl h
 ·exact .inr ⟨b,o,h1,Nat.lt_of_lt_of_le h2 hb.size,fun i hi=>range_below (h3 i hi) hb h2⟩
theorem Hld.below {w w':World} {a:Option Addr} {hs:List (Int×List Int)} (h:Hld w a hs) (hb:Below w.heap.size w w'):Hld w' a hs:=by
 rcases h with h | ⟨b,o,h1,h2,h3⟩
 ·exact .inl h
 ·exact .inr ⟨b,o,h1,Nat.lt_of_lt_of_le h2 hb.size,fun i hi=>range_below (h3 i hi) hb h2⟩
theorem Plt.at {w:World} {a:Option Addr} {ps:List (List Int)} (h:Plt w a ps) {k:Nat} (hk:k<ps.length):∃ b o x,a=some ⟨b,o,none⟩/\b<w.heap.size/\w.rangeAt b (o+k*64) (x.map (Value.int .u8))/\Hid (x=ps.getD k []):=by
 rcases h with h | ⟨b,o,h1,h2,h3⟩
 ·subst h;simp at hk
 ·exact ⟨b,o,_,h1,h2,h3 k hk,hid rfl⟩
theorem Hld.at {w:World} {a:Option Addr} {hs:List (Int×List Int)} (h:Hld w a hs) {k:Nat} (hk:k<hs.length):∃ b o n x,a=some ⟨b,o,none⟩/\b<w.heap.size/\w.rangeAt b (o+k*65) (.int .i64 n::x.map (Value.int .u8))/\Hid ((n,x)=hs.getD k (0,[])):=by
 rcases h with h | ⟨b,o,h1,h2,h3⟩
 ·subst h;simp at hk
 ·exact ⟨b,o,_,_,h1,h2,h3 k hk,hid rfl⟩
theorem held_one (n:Int) (xs:List Int):∀ v∈Value.int .i64 n::xs.map (Value.int .u8),v.oneCell'=true:=fun v hv=>by
 rcases List.mem_cons.1 hv with rfl | hv
 ·rfl
 ·exact ints_one xs v hv
theorem there_any (w:World) (A:Array Value) (t:TypeId):(w.alloc (.cells A t)).there w.heap.size 0 A.size:=fun j hj=>by
 rw [Nat.zero_add,World.cell?_alloc_at _ _ _ _ rfl,frozen?_alloc_cells]
 exact ⟨by simp [hj],frozen_past _ _ _ (Nat.le_refl _)⟩
theorem wpList_store_cells {P:Program} {ops:Array Oper} {rest:List Oper} {op:Oper} {a:Act} {w:World} {Q:Exit->Act->World->Prop} (hgd:op.guard=none) (ty:TypeId) (x y:Operand) (ho:op.op=.store ty x y)
  (cs:List Value) (h1:∀ v∈cs,v.oneCell'=true) (hx:a.eval x=.pointer (some ⟨w.heap.size,0,none⟩)) (hy:a.eval y=.agg cs.toArray) (A:Array Value) (t:TypeId) (hA:A.size=cs.length)
  (hi:(P.info? ty).map (·.size)=some cs.length)
  (h:∀ wx,Row wx w.heap.size cs->Below w.heap.size w wx->wx.heap.size=w.heap.size+1->wpList P ops Q rest (a.put op.dst undef) wx):wpList P ops Q (op::rest) a (w.alloc (.cells A t)):=by
 have hth:=there_any w A t
 rw [hA] at hth
 have hz:cs.toArray.size=cs.length:=by simp
 refine wpList_store_mid hgd ty x y ho w.heap.size 0 _ hx hy (by rw [hz];exact hth) (by rw [hz];exact hi) (all_oneCell_toArray h1) ?_
 have hr:=World.rangeAt_setCells_same (w.alloc (.cells A t)) w.heap.size 0 cs hth
 refine h _ ⟨by rw [setCells_size];simp,fun i v hv=>?_,fun i hi=>?_⟩ (Go.below_setCells (Nat.le_refl _) _ _ _ ((Below.refl _ _).alloc (Nat.le_refl _) _)) (by rw [setCells_size];simp)
 ·have:=hr i v hv
  simpa using this
 ·rw [World.frozen?_setCells,frozen?_alloc_cells];exact frozen_past _ _ _ (Nat.le_refl _)
theorem Row.text {P:Program} {w:World} {g:Nat} {cs:List Value} (h:Row w g cs) (xs:List Int) (o n cap:Nat) (hx:xs.length=n) (hc:∀ i,i<n->cs[o+i]?=some (.int .u8 (xs.getD i 0))) (src e dst:TypeId) (hs:P.underlying src=some (.slice e)) (he:P.underlying e=some (.int .u8)) (hd:P.underlying dst=some .string) :
  (convert src dst (.slice (some ⟨g,o,none⟩) n cap)).run P w=.ok (.string (strOfNums xs)) w :=
 run_convert_bytes_arg (P:=P) w src e hs he g o n cap xs hx (fun i hi=>h.cell _ _ (hc i hi)) dst hd
theorem Dsk.start3 (w:World) (c0 c1:Value) (t0 t1 t2 e e':TypeId):Dsk w (((w.alloc (.cells #[c0,c1] t0)).alloc (.cells #[.slice none 0 0,.slice none 0 0] t1)).alloc (.cells #[.slice none 0 0,.slice none 0 0] t2)) (w.heap.size+1) (w.heap.size+1+1) (w.heap.size+1+1+1) e e' (.slice none 0 0) (.slice none 0 0) [] []:=by
 have hb:Below w.heap.size w (((w.alloc (.cells #[c0,c1] t0)).alloc (.cells #[.slice none 0 0,.slice none 0 0] t1)).alloc (.cells #[.slice none 0 0,.slice none 0 0] t2)):=(((Below.refl _ _).alloc (Nat.le_refl _) _).alloc (by simp) _).alloc (by simp;omega) _
 have r1:=(row_new (w.alloc (.cells #[c0,c1] t0)) #[.slice none 0 0,.slice none 0 0] t1).alloc (.cells #[.slice none 0 0,.slice none 0 0] t2)
 have r2:=row_new ((w.alloc (.cells #[c0,c1] t0)).alloc (.cells #[.slice none 0 0,.slice none 0 0] t1)) #[.slice none 0 0,.slice none 0 0] t2
 simp only [World.size_alloc] at r1 r2
 exact ⟨by omega,by omega,by omega,by omega,by omega,by simp,hb,r1.cell 0 _ rfl,r1.cell 1 _ rfl,r1.froz 0 (by simp),r1.froz 1 (by simp),r2.cell 0 _ rfl,r2.cell 1 _ rfl,r2.froz 0 (by simp),r2.froz 1 (by simp),World.ownsRow_nil _ _ _ _,World.ownsRow_nil _ _ _ _,.inl rfl⟩
theorem Dsk.far {W w w1:World} {R D base:Nat} {e e':TypeId} {v v':Value} {ss:List ByteArray} {ws:List (Int×ByteArray)} (h:Dsk W w R D base e e' v v' ss ws) (hg:w.grownBy w1 v.ownBlock) (b i j:Nat) (hb:b<base) (hn:b≠D) (u:Value):(w1.setCell ⟨D,j,none⟩ u).cell? ⟨b,i,none⟩=w.cell? ⟨b,i,none⟩:=by
 have lb:b<w.heap.size:=Nat.lt_of_lt_of_le hb h.sz
 have nb:some b≠v.ownBlock:=fun he=>by have:=(h.own.lt b he.symm).1;omega
 rw [World.cell?_setCell_other (w:=w1) (h:=show (⟨D,j,none⟩:Addr)≠⟨b,i,none⟩ from fun he=>hn (by injection he with h1;exact h1.symm))]
 exact hg.cell_far ⟨b,i,none⟩ lb nb
def secs (ps:List (List Int)):List ByteArray:=ps.map strOfNums
def held (hs:List (Int×List Int)):List (Int×ByteArray):=hs.map fun x=>(x.1,strOfNums x.2)
def heldZ:Array Value:=#[.int .i64 0]++Array.replicate 64 (.int .u8 0)
theorem zeroHeld (w:World):(zeroValue 63).run Try.prog w=.ok (.agg heldZ) w:=by kernel_rfl
theorem secs_take (ps:List (List Int)) (k:Nat) (h:k<ps.length):secs (ps.take (k+1))=secs (ps.take k)++[strOfNums (ps.getD k [])]:=by
 unfold secs
 rw [List.take_succ_eq_append_getElem h,List.map_append]
 simp [List.getD,h]
theorem held_take (hs:List (Int×List Int)) (k:Nat) (h:k<hs.length):held (hs.take (k+1))=held (hs.take k)++[((hs.getD k (0,[])).1,strOfNums (hs.getD k (0,[])).2)]:=by
 unfold held
 rw [List.take_succ_eq_append_getElem h,List.map_append]
 simp [List.getD,h]
def secZ:Value:=.agg (Array.replicate 64 (.int .u8 0))
theorem infoSec:(Try.prog.info? 61).map (fun i=>(i.zero,i.size,i.bytes))=some (some secZ,64,64):=by kernel_rfl
theorem made_secs (n:Nat):(madeCells secZ.cells (n*64)).toList=List.replicate (n*64) (.int .u8 0):=by
 unfold madeCells
 rw [Array.toList_map,Array.toList_range,List.eq_replicate_iff]
 refine ⟨by simp,fun b hb=>?_⟩
 obtain ⟨i,_,rfl⟩:=List.mem_map.1 hb
 have e1:secZ.cells=Array.replicate 64 (.int .u8 0):=rfl
 have e2:i % (Array.replicate 64 (Value.int .u8 0)).size<64:=by rw [Array.size_replicate];omega
 rw [e1]
 rw [getElem!_pos _ _ (by rw [Array.size_replicate] at e2 ⊢;exact e2)]
 simp
theorem row_new' (w:World) (A:Array Value) (t:TypeId) (g:Nat) (hg:g=w.heap.size):Row (w.alloc (.cells A t)) g A.toList:=by subst hg;exact row_new w A t
theorem at_copy {P:Program} {ops:Array Oper} {rest:List Oper} {op:Oper} {a:Act} {w:World} {Q:Exit->Act->World->Prop} (d x:Operand) (ts:Array TypeId) (_ho:op.op=.call { callee:=.builtin .copy,args:=#[d,x],argTypes:=ts }) (h:wpList P ops Q (op::rest) a w):wpList P ops Q (op::rest) a w:=h
theorem wpList_copy_text {P:Program} {ops:Array Oper} {rest:List Oper} {o:Oper} {a:Act} {w:World} {Q:Exit->Act->World->Prop} (hgd:o.guard=none) (d x:Operand) (dT sT:TypeId)
  (hop:o.op=.call { callee:=.builtin .copy,args:=#[d,x],argTypes:=#[dT,sT] }) (elem:TypeId) (hu:P.underlying dT=some (.slice elem)) (hz:∀ w,(Go.sizeOf elem).run P w=.ok 1 w)
  (g n cap:Nat) (hd:a.eval d=.slice (some ⟨g,0,none⟩) n cap) (t:ByteArray) (hx:a.eval x=.string t) (hn:t.size=n) (cs:List Value) (hrow:Row w g cs) (hcs:cs.length=n)
  (h:∀ wx,Row wx g ((nums t).map (Value.int .u8))->w.grownBy wx (some g)->wx.heap.size=w.heap.size->wpList P ops Q rest (a.put o.dst (goInt t.size)) wx):wpList P ops Q (o::rest) a w:=by
 have hc:∀ j,j<t.size->(w.cell? ⟨g,0+j,none⟩).isSome=true:=fun j hj=>by
  rw [Nat.zero_add,hrow.cell j _ (List.getElem?_eq_getElem (by omega))];rfl
 have hf:∀ j,j<t.size->w.frozen? ⟨g,0+j,none⟩=false:=fun j hj=>by rw [Nat.zero_add];exact hrow.froz j (by omega)
 have hrun:=run_copy_string (P:=P) w dT sT o.type elem g 0 n cap t hu hz (by omega) hc hf
 have hW:=wrote_setCells w g 0 t hc
 refine wpList_plain hgd fun K hK=>?_
 unfold Oper.wp
 simp [execOp,hop,resolve,invoke,builtin,hd,hx,hrun,Result.andThen]
 refine hK _ _ (h _ ⟨by rw [hW.size];exact hrow.lt,fun i v hv=>?_,fun i hi=>?_⟩ ⟨hW.os,hW.tape,hW.output,Nat.le_of_eq hW.size.symm,fun k _ hk=>hW.others k (fun e=>hk (by rw [e]))⟩ hW.size)
 ·obtain ⟨hj,e⟩:=List.getElem?_eq_some_iff.1 hv
  simp at hj
  have:=hW.inside i (by simpa [nums_length] using hj)
  rw [Nat.zero_add] at this
  rw [this]
  simp at e
  subst e
  simp [List.getD,List.getElem?_eq_getElem hj]
 ·rw [hW.frozen];exact hrow.froz i (by simp [nums_length] at hi;omega)
theorem Row.range {w:World} {g:Nat} {cs:List Value} (h:Row w g cs):w.rangeAt g 0 cs:=fun j v hv=>by rw [Nat.zero_add];exact h.cell j v hv
theorem Row.there {w:World} {g n:Nat} {cs:List Value} (h:Row w g cs) (hn:n=cs.length):w.there g 0 n:=fun j hj=>by
 rw [Nat.zero_add,h.cell j _ (List.getElem?_eq_getElem (by omega))];exact ⟨rfl,h.froz j (by omega)⟩
def sec64:Array Value:=Array.replicate 64 (.int .u8 0)
set_option maxRecDepth 4000 in
theorem sec_i (t:ByteArray) (w:World) (ht:t.size=64) :
  Calls Try.prog 33 #[.string t] w fun e w'=>e=.returned (.agg ((nums t).map (Value.int .u8)).toArray)/\Below w.heap.size w w':=by
 have hnl:(nums t).length=64:=by rw [nums_length,ht]
 have HI64:Hid ((Try.prog.info? 61).map (·.size)=some ((nums t).map (Value.int .u8)).length):=by show _=_;rw [List.length_map,hnl];kernel_rfl
 have hlm:((nums t).map (Value.int .u8)).toArray.size=64:=by simp [hnl]
 have HT:=hid ht
 clear ht
 go_enter Try.func33,Try.ntmps33
 go_wp2_with (first | (with_reducible refine at_copy _ _ _ rfl ?_;refine wpList_copy_text rfl _ _ _ _ rfl 5 Try.underlying22 (fun _=>by kernel_rfl) (w.heap.size+1) 64 64 rfl t rfl HT.out _ (by exact row_new' _ _ _ _ (by simp)) (by kernel_rfl) ?_;intro wx hrow hgr hsz;have hR:=(((row_new w _ _).alloc _).grown hgr (by simp));have HB:=hid ((((Below.refl _ _).alloc (Nat.le_refl _) _).alloc (by simp) _).trans (grown_below hgr (by simp;omega) (fun g hg=>by cases hg;omega)));clear hgr hsz) | (with_reducible refine at_load 61 _ rfl ?_;refine wpList_load_mid rfl 61 _ rfl (w.heap.size+1) 0 rfl ((nums t).map (Value.int .u8)) _ hrow.range Try.underlying61 rfl HI64.out ?_) | (with_reducible refine at_store 61 _ _ rfl ?_;refine wpList_store_mid rfl 61 _ _ rfl w.heap.size 0 ((nums t).map (Value.int .u8)).toArray rfl rfl (by rw [hlm];exact hR.there (by kernel_rfl)) (by rw [hlm];kernel_rfl) (all_oneCell_toArray (ints_one (nums t))) ?_))
 refine bodyPost_ret (v:=.agg ((nums t).map (Value.int .u8)).toArray) (results_cell1 (p:=2) Try.results33 _ _ w.heap.size 0 rfl ((nums t).map (Value.int .u8)) _ (World.rangeAt_setCells_same _ _ _ _ (by rw [List.length_map,hnl];exact hR.there (by kernel_rfl))) Try.underlying61 rfl HI64.out) rfl ⟨rfl,?_⟩
 exact Go.below_setCells (Nat.le_refl _) _ _ _ HB.out
theorem nsc (n:Nat) (h:0<n):Builtin.nextslicecap n 0=n:=by
 unfold Builtin.nextslicecap
 simp
 omega
theorem step_append_copy {P:Program} {ops:Array Oper} {o:Oper} {a:Act} {w:World} {K:Act->World->Prop} {Q:Exit->Act->World->Prop} {E:Prop}
  (hgd:o.guard=none) (s x:Operand) (t:TypeId) (hop:o.op=.call { callee:=.builtin .append,args:=#[s,x],argTypes:=#[t,t] })
  (e:TypeId) (i:TypeInfo) (z:Value) (size bytes:Nat) (ht:P.underlying t=some (.slice e)) (hi:P.info? e=some i) (hz:i.zero=some z) (hsize:i.size=size) (hby:i.bytes=bytes)
  (b:Nat) (hs:a.eval s=.slice (some ⟨b,0,none⟩) 0 0) (v:Value) (hx:a.eval x=v) (n:Nat) (news:List Value) (hsrc:Src P size t v n news w) (hl:news.length=n*size) (hn:n<=1048576) (hbn:n*bytes<=281474976710656)
  (h:∀ g cap wx,(n=0\/(g=w.heap.size/\Row wx g news))->Below w.heap.size w wx->K (a.put o.dst (.slice (some ⟨g,0,none⟩) n cap)) wx) :
  if Region.wanted o (yielded ops a.tmps)=true then Oper.wp P o a w K Q else E:=by
 have hw:Region.wanted o (yielded ops a.tmps)=true:=by simp [Region.wanted,hgd]
 rw [if_pos hw]
 subst hsize hby
 by_cases h0:n=0
 ·subst h0
  have hnil:news=[]:=List.eq_nil_of_length_eq_zero (by omega)
  subst hnil
  have hrun:=run_append_room_src (P:=P) w t t o.type e i ht hi b 0 0 0 v 0 [] hsrc (by omega) (by simp) (by simp)
  unfold Oper.wp
  simp [execOp,hop,resolve,invoke,builtin,hs,hx,hrun,Result.andThen]
  exact h b 0 _ (.inl rfl) (Below.refl _ _)
 ·have hold:(Builtin.firstCells i.size 0 (.slice (some ⟨b,0,none⟩) 0 0)).run P w.drew=.ok ([]:List Value).toArray w.drew:=run_firstCells_some w.drew i.size 0 _ 0 0 [] (by simp) (by simp)
  have hrun:=run_append_grow_src (P:=P) w t t o.type e i z ht hi hz (some ⟨b,0,none⟩) 0 0 [] hold v n news hsrc (by omega) (by omega) (by rw [Nat.zero_add,nsc n (by omega)];exact hbn)
  unfold Oper.wp
  simp [execOp,hop,resolve,invoke,builtin,hs,hx,hrun,Result.andThen]
  refine h w.heap.size _ _ (.inr ⟨rfl,?_⟩) ((Below.refl _ _).drew.alloc (Nat.le_refl _) _)
  have hr:=row_new w.drew ((([]:List Value)++news).toArray++Builtin.zeroCells z.cells (grownCap w (0+n) 0 e-(0+n))) e
  refine ⟨by simp,fun j u hu=>?_,fun j hj=>?_⟩
  ·have:=hr.cell j u (by
    obtain ⟨hj,_⟩:=List.getElem?_eq_some_iff.1 hu
    simp [List.getElem?_append_left hj,hu])
   simpa using this
  ·have:=hr.froz j (by simp;omega)
   simpa using this
theorem src_strs {P:Program} {w:World} {a:Option Addr} {ss:List ByteArray} (h:Strs w a ss) (t e:TypeId) (ht:P.underlying t=some (.slice e)) (c:Nat):Src P 1 t (.slice a ss.length c) ss.length (ss.map Value.string) w:=by
 rcases h with h | ⟨b,o,rfl,hb,hc⟩
 ·subst h
  cases a with
  | none=>exact Src.ofNil w ht c
  | some x=>exact Src.ofSlice w ht x 0 c [] (by simp) (by simp) (by simp)
 ·refine Src.ofSlice w ht ⟨b,o,none⟩ ss.length c _ (by simp) (fun j u hu=>?_) (fun u hu=>by obtain ⟨s,_,rfl⟩:=List.mem_map.1 hu;rfl)
  obtain ⟨hj,e⟩:=List.getElem?_eq_some_iff.1 hu
  simp only [List.length_map] at hj
  have ha:(⟨b,o,none⟩:Addr).add j=⟨b,o+j,none⟩:=by unfold Addr.add;split<;>simp_all
  rw [ha,hc j hj,<-e]
  simp [List.getD,hj]
theorem src_wrs {P:Program} {w:World} {a:Option Addr} {ws:List (Int×ByteArray)} (h:Wrs w a ws) (t e:TypeId) (ht:P.underlying t=some (.slice e)) (c:Nat):Src P 2 t (.slice a ws.length c) ws.length (wcells ws) w:=by
 rcases h with h | ⟨b,o,rfl,hb,hc⟩
 ·subst h
  cases a with
  | none=>exact Src.ofNil w ht c
  | some x=>exact Src.ofSlice w ht x 0 c [] (by simp) (by simp) (by simp)
 ·refine Src.ofSlice w ht ⟨b,o,none⟩ ws.length c _ (wcells_length ws) (fun j u hu=>?_) (fun u hu=>?_)
  ·obtain ⟨hj,e⟩:=List.getElem?_eq_some_iff.1 hu
   rw [wcells_length] at hj
   have ha:(⟨b,o,none⟩:Addr).add j=⟨b,o+j,none⟩:=by unfold Addr.add;split<;>simp_all
   obtain ⟨q,hq⟩:∃ q,j=q*2\/j=q*2+1:=⟨j / 2,by omega⟩
   have hql:q<ws.length:=by omega
   have hw:=wcells_at ws q hql
   rcases hq with rfl | rfl
   ·rw [ha,(hc q hql).1,<-hu,hw.1]
   ·rw [ha,<-Nat.add_assoc,(hc q hql).2,<-hu,hw.2]
  ·unfold wcells at hu
   obtain ⟨x,_,hx⟩:=List.mem_flatMap.1 hu
   simp at hx
   rcases hx with rfl | rfl<;>rfl
def cval (w:World) (p:Addr):Value:=(w.cell? p).getD (.int .i64 0)
theorem cval_some {w:World} {p:Addr} (h:(w.cell? p).isSome=true):w.cell? p=some (cval w p):=by
 unfold cval
 cases e:w.cell? p with
 | none=>rw [e] at h;exact absurd h (by simp)
 | some v=>rfl
theorem cval_is {w:World} {p:Addr} {v:Value} (h:w.cell? p=some v):(w.cell? p).isSome=true:=by rw [h];rfl
def KeepC (wy:World) (X:Nat) (v0 v1:Value) (w:World):Prop :=
 w.cell? ⟨X,0,none⟩=some v0/\w.cell? ⟨X,1,none⟩=some v1/\w.cell? ⟨X+1,0,none⟩=some (cval w ⟨X+1,0,none⟩)/\w.cell? ⟨X+1,1,none⟩=some (cval w ⟨X+1,1,none⟩)/\w.frozen? ⟨X+1,0,none⟩=false/\w.frozen? ⟨X+1,1,none⟩=false/\wy.grownBy w (some (X+1))/\X+1<w.heap.size
theorem KeepC.below {wy w w':World} {X:Nat} {v0 v1:Value} (h:KeepC wy X v0 v1 w) (hb:Below w.heap.size w w'):KeepC wy X v0 v1 w':=by
 obtain ⟨h1,h2,h3,h4,h5,h6,h7,h8⟩:=h
 refine ⟨(hb.cell (p:=⟨X,0,none⟩) (by show X<_;omega)).trans h1,(hb.cell (p:=⟨X,1,none⟩) (by show X<_;omega)).trans h2,?_,?_,?_,?_,⟨hb.os.trans h7.os,hb.tape.trans h7.tape,hb.output.trans h7.output,Nat.le_trans h7.size hb.size,fun i hi hne=>(hb.block i (Nat.lt_of_lt_of_le hi h7.size)).trans (h7.block i hi hne)⟩,Nat.lt_of_lt_of_le h8 hb.size⟩
 ·exact cval_some (by rw [hb.cell (p:=⟨X+1,0,none⟩) h8];exact cval_is h3)
 ·exact cval_some (by rw [hb.cell (p:=⟨X+1,1,none⟩) h8];exact cval_is h4)
 ·rw [hb.frozen (p:=⟨X+1,0,none⟩) h8];exact h5
 ·rw [hb.frozen (p:=⟨X+1,1,none⟩) h8];exact h6
theorem KeepC.set {wy w:World} {X:Nat} {v0 v1:Value} (h:KeepC wy X v0 v1 w) (j:Nat) (v:Value):KeepC wy X v0 v1 (w.setCell ⟨X+1,j,none⟩ v):=by
 obtain ⟨h1,h2,h3,h4,h5,h6,h7,h8⟩:=h
 have hs:∀ p,(w.cell? p).isSome=true->((w.setCell ⟨X+1,j,none⟩ v).cell? p).isSome=true:=fun p hp=>by
  by_cases e:(⟨X+1,j,none⟩:Addr)=p
  ·subst e
   obtain ⟨u,hu⟩:=Option.isSome_iff_exists.1 hp
   rw [World.cell?_setCell_same (w:=w) (h:=hu)];rfl
  ·rw [World.cell?_setCell_other (w:=w) (h:=e)];exact hp
 refine ⟨(World.cell?_setCell_far _ _ _ _ (by show X+1≠X;omega)).trans h1,(World.cell?_setCell_far _ _ _ _ (by show X+1≠X;omega)).trans h2,cval_some (hs _ (cval_is h3)),cval_some (hs _ (cval_is h4)),by rw [World.frozen?_setCell];exact h5,by rw [World.frozen?_setCell];exact h6,⟨(setCells_os (X+1) [v] j w).1.trans h7.os,(setCells_os (X+1) [v] j w).2.1.trans h7.tape,(setCells_os (X+1) [v] j w).2.2.trans h7.output,by simpa using h7.size,fun i hi hne=>?_⟩,by simpa using h8⟩
 rw [<-h7.block i hi hne]
 exact setCells_other (X+1) [v] j w i (fun e=>hne (by rw [e]))
theorem cp_end (B R:Nat) (wx1 wx2:World) (ss:List ByteArray) (ws:List (Int×ByteArray)) (g1 g2 n1 n2:Nat) (v0 v1:Value) (hn1:B<=n1) (hR:R<n1) (hg1:ss.length=0\/g1=n1/\Row wx1 g1 (ss.map Value.string)) (hb2:Below wx1.heap.size wx1 wx2) (hs1:n1<=wx1.heap.size) (hn2:wx1.heap.size<=n2) (hg2:ws.length=0\/g2=n2/\Row wx2 g2 (wcells ws)) :
  OwnD ((wx2.setCell ⟨R,0,none⟩ v0).setCell ⟨R,1,none⟩ v1) (some ⟨g1,0,none⟩) ss (some ⟨g2,0,none⟩) ws/\(∀ k,blk (some ⟨g1,0,none⟩) ss.length=some k->B<=k)/\(∀ k,blk (some ⟨g2,0,none⟩) ws.length=some k->B<=k):=by
 have hk1:∀ k,blk (some ⟨g1,0,none⟩) ss.length=some k->k=n1/\k<wx1.heap.size:=fun k hk=>by
  unfold blk at hk
  split at hk
  ·exact absurd hk (by simp)
  ·rename_i h0
   rcases hg1 with e | ⟨rfl,hr⟩
   ·exact absurd e h0
   ·simp at hk
    exact ⟨hk.symm,by rw [<-hk];exact hr.lt⟩
 have hk2:∀ k,blk (some ⟨g2,0,none⟩) ws.length=some k->k=n2:=fun k hk=>by
  unfold blk at hk
  split at hk
  ·exact absurd hk (by simp)
  ·rename_i h0
   rcases hg2 with e | ⟨rfl,hr⟩
   ·exact absurd e h0
   ·simp at hk
    exact hk.symm
 refine ⟨⟨?_,?_,?_⟩,fun k hk=>by have:=hk1 k hk;omega,fun k hk=>by have:=hk2 k hk;omega⟩
 ·rcases hg1 with e | ⟨rfl,hr⟩
  ·exact .inl (by rw [List.eq_nil_of_length_eq_zero e];rfl)
  ·exact .inr ⟨g1,rfl,((hr.below hb2).other ⟨R,0,none⟩ (by show R≠_;omega) _).other ⟨R,1,none⟩ (by show R≠_;omega) _⟩
 ·rcases hg2 with e | ⟨rfl,hr⟩
  ·exact .inl (by rw [List.eq_nil_of_length_eq_zero e];rfl)
  ·exact .inr ⟨g2,rfl,(hr.other ⟨R,0,none⟩ (by show R≠_;omega) _).other ⟨R,1,none⟩ (by show R≠_;omega) _⟩
 ·cases e1:blk (some ⟨g1,0,none⟩) ss.length with
  | none=>exact .inl rfl
  | some k1 =>
   cases e2:blk (some ⟨g2,0,none⟩) ws.length with
   | none=>exact .inr (.inl rfl)
   | some k2 =>
    have h1:=hk1 k1 e1
    have h2:=hk2 k2 e2
    exact .inr (.inr (fun e=>by injection e with e;omega))
set_option maxRecDepth 4000 in
theorem copy_s (a:Option Addr) (ss:List ByteArray) (c:Nat) (a':Option Addr) (ws:List (Int×ByteArray)) (c':Nat) (w:World) (h:Strs w a ss) (h':Wrs w a' ws) (hl:ss.length<=200) (hl':ws.length<=300) :
  Calls Try.prog 21 #[diskV a ss.length c a' ws.length c'] w fun e w'=>∃ g c1 g' c1',e=.returned (diskV (some ⟨g,0,none⟩) ss.length c1 (some ⟨g',0,none⟩) ws.length c1')/\OwnD w' (some ⟨g,0,none⟩) ss (some ⟨g',0,none⟩) ws/\(∀ k,blk (some ⟨g,0,none⟩) ss.length=some k->w.heap.size<=k)/\(∀ k,blk (some ⟨g',0,none⟩) ws.length=some k->w.heap.size<=k)/\Below w.heap.size w w':=by
 obtain ⟨i0,hi0,hz0,hz1,hz2⟩:=info_parts' infoStr
 have HI:=hid (And.intro hi0 (And.intro hz0 (And.intro hz1 hz2)))
 clear hi0 hz0 hz1 hz2
 obtain ⟨i1,hi0,hz0,hz1,hz2⟩:=info_parts' infoWr
 have HI1:=hid (And.intro hi0 (And.intro hz0 (And.intro hz1 hz2)))
 clear hi0 hz0 hz1 hz2
 have hb0:∀ o1 o2,Below w.heap.size w ((w.alloc o1).alloc o2):=fun o1 o2=>((Below.refl _ _).alloc (Nat.le_refl _) _).alloc (by simp) _
 go_enter Try.func21,Try.ntmps21
 go_wp2_with fail
 have hxb:=(Cx.new w (.slice a ss.length c) (.slice a' ws.length c') 26).below (below_new _ (.cells #[.slice none 0 0,.slice none 0 0] 26))
 have rR:=row_new' (w.alloc (.cells #[.slice a ss.length c,.slice a' ws.length c'] 26)) #[.slice none 0 0,.slice none 0 0] 26 (w.heap.size+1) (by simp)
 have hB:=hb0 (.cells #[.slice a ss.length c,.slice a' ws.length c'] 26) (.cells #[.slice none 0 0,.slice none 0 0] 26)
 have hsy:((w.alloc (.cells #[.slice a ss.length c,.slice a' ws.length c'] 26)).alloc (.cells #[.slice none 0 0,.slice none 0 0] 26)).heap.size=w.heap.size+1+1:=by simp
 obtain ⟨wy,HWY⟩:∃ wy,wy=(w.alloc (.cells #[.slice a ss.length c,.slice a' ws.length c'] 26)).alloc (.cells #[.slice none 0 0,.slice none 0 0] 26):=⟨_,rfl⟩
 rw [<-HWY] at hxb rR hB hsy ⊢
 clear HWY
 have HX:=hid hxb
 have HR:=hid rR
 have HB:=hid hB
 have HSY:=hid hsy
 clear hxb rR hB hsy
 have hk0:KeepC wy w.heap.size (.slice a ss.length c) (.slice a' ws.length c') wy:=⟨HX.out.c0,HX.out.c1,cval_some (cval_is (HR.out.cell 0 _ rfl)),cval_some (cval_is (HR.out.cell 1 _ rfl)),HR.out.froz 0 (by simp),HR.out.froz 1 (by simp),⟨rfl,rfl,rfl,Nat.le_refl _,fun _ _ _=>rfl⟩,by rw [HSY.out];omega⟩
 have HK:=hid hk0
 clear hk0
 have hbz:∀ wz,KeepC wy w.heap.size (.slice a ss.length c) (.slice a' ws.length c') wz->Below w.heap.size w wz:=fun wz hz=>HB.out.trans (grown_below hz.2.2.2.2.2.2.1 (by rw [HSY.out];omega) (fun g hg=>by injection hg with hg;omega))
 have HBZ:=hid hbz
 clear hbz
 go_region_held3 (fun w'=>w'.cell? ⟨w.heap.size,0,none⟩=some (.slice a ss.length c)/\w'.cell? ⟨w.heap.size,1,none⟩=some (.slice a' ws.length c')/\w'.cell? ⟨w.heap.size+1,0,none⟩=some (cval w' ⟨w.heap.size+1,0,none⟩)/\w'.cell? ⟨w.heap.size+1,1,none⟩=some (cval w' ⟨w.heap.size+1,1,none⟩)/\w'.frozen? ⟨w.heap.size+1,0,none⟩=false/\w'.frozen? ⟨w.heap.size+1,1,none⟩=false/\wy.grownBy w' (some (w.heap.size+1))/\w.heap.size+1<w'.heap.size)
  (first | assumption | exact HK.out.below ((Below.refl _ _).drew) | exact KeepC.below (by assumption) (by assumption) | exact KeepC.below (by assumption) (below_new _ _) | exact KeepC.set (KeepC.set (by assumption) 0 _) 1 _)
  (first | (refine step_append_copy (by rfl) _ _ 23 (by rfl) 9 _ _ 1 16 Try.underlying23 HI.out.1 HI.out.2.1 HI.out.2.2.1 HI.out.2.2.2 _ (by rfl) _ (by rfl) ss.length _ (by exact src_strs (h.below (HBZ.out _ (by assumption))) _ _ (by rfl) _) (by simp) (by omega) (by omega) ?_;intro g1 c1 wx1 hg1 hb1) | (refine step_append_copy (by rfl) _ _ 24 (by rfl) 46 _ _ 2 24 Try.underlying24 HI1.out.1 HI1.out.2.1 HI1.out.2.2.1 HI1.out.2.2.2 _ (by rfl) _ (by rfl) ws.length _ (by exact src_wrs (h'.below (HBZ.out _ (by assumption))) _ _ (by rfl) _) (by exact wcells_length ws) (by omega) (by omega) ?_;intro g2 c2 wx2 hg2 hb2;have hk2:KeepC wy w.heap.size (.slice a ss.length c) (.slice a' ws.length c') wx2:=KeepC.below (by assumption) hb2))
 all_goals
  rename_i hHe
  have hzz:=hHe
  clear hHe
  have hfb:=HBZ.out _ hzz
  have hend:=by
   first
   | exact cp_end w.heap.size (w.heap.size+1) wx1 wx2 ss ws g1 g2 _ _ (Value.slice (some ⟨g1,0,none⟩) ss.length c1) (Value.slice (some ⟨g2,0,none⟩) ws.length c2) (by simp [HSY.out]<;>omega) (by simp [HSY.out]<;>omega) hg1 hb2 hb1.size (Nat.le_refl _) hg2
   | exact cp_end w.heap.size (w.heap.size+1) wx1 wx2 ss ws g1 g2 _ _ (Value.slice (some ⟨g1,0,none⟩) ss.length c1) (Value.slice (some ⟨g2,0,none⟩) ws.length c2) (by simp [HSY.out]<;>omega) (by simp [HSY.out]<;>omega) hg1 (Go.Proofs.Ythdilmkbnpmdaaa.Below.then (below_new wx1 _) (Nat.le_refl _) hb2) hb1.size (by simp) hg2
  have hend':=hid hend
  have hi0:=cval_is hk2.2.2.1
  have hi1:=cval_is hk2.2.2.2.1
  clear hend hg1 hb1 hg2 hb2 hk2 hzz
  go_wp2
  exact bodyPost_ret (v:=diskV (some ⟨g1,0,none⟩) ss.length c1 (some ⟨g2,0,none⟩) ws.length c2) (by simp [results,Try.results21,go_sem,hi0,hi1]) rfl ⟨g1,c1,g2,⟨c2,rfl⟩,hend'.out.1,hend'.out.2.1,hend'.out.2.2,hfb⟩
section
def syncs:List (Int×ByteArray)->List ByteArray->List ByteArray
 | [],ss=>ss
 | x::r,ss=>syncs r (ss.set x.1.toNat x.2)
theorem syncs_length:∀ (ws:List (Int×ByteArray)) (ss:List ByteArray),(syncs ws ss).length=ss.length
 | [],_=>rfl
 | x::r,ss=>by rw [syncs,syncs_length r];simp
structure SYs (W w:World) (R X g g' n n' c1 c1':Nat) (ws:List (Int×ByteArray)) (ts:List ByteArray):Prop where
 gr:W.grownBy w (some g)
 rr:Row w R [.slice none 0 0,.slice none 0 0]
 rx:Row w X [.slice (some ⟨g,0,none⟩) n c1,.slice (some ⟨g',0,none⟩) n' c1']
 rs:Row w g (ts.map Value.string)
 own:OwnS w (some ⟨g',0,none⟩) (wcells ws)
section
variable {W w w':World} {R X g g' n n' c1 c1':Nat} {ws:List (Int×ByteArray)} {ts:List ByteArray}
theorem SYs.below (h:SYs W w R X g g' n n' c1 c1' ws ts) (hb:Below w.heap.size w w'):SYs W w' R X g g' n n' c1 c1' ws ts :=
 ⟨grown_trans h.gr (grown_of_below _ hb),h.rr.below hb,h.rx.below hb,h.rs.below hb,h.own.below hb⟩
theorem SYs.drew (h:SYs W w R X g g' n n' c1 c1' ws ts):SYs W w.drew R X g g' n n' c1 c1' ws ts:=h.below ((Below.refl _ _).drew)
theorem SYs.set (h:SYs W w R X g g' n n' c1 c1' ws ts) (m:Nat) (hm:m<ts.length) (s:ByteArray) (h2:R≠g) (h3:X≠g) (h4:wcells ws≠[]->g'≠g):SYs W (w.setCell ⟨g,m,none⟩ (.string s)) R X g g' n n' c1 c1' ws (ts.set m s):=by
 refine ⟨grown_set h.gr _ _,h.rr.other _ (fun e=>h2 e.symm) _,h.rx.other _ (fun e=>h3 e.symm) _,?_,?_⟩
 ·rw [List.map_set];exact h.rs.set m (by simpa using hm) _
 ·rcases h.own with ho | ⟨b,e,hr⟩
  ·exact .inl ho
  ·injection e with e;injection e with e
   by_cases hc:wcells ws=[]
   ·exact .inl hc
   ·exact .inr ⟨g',rfl,(e ▸ hr).other _ (fun e2=>h4 hc e2.symm) _⟩
end
theorem grown_setnew {a b:World} {r:Option Nat} (h:a.grownBy b r) (p:Addr) (hp:a.heap.size<=p.block) (v:Value):a.grownBy (b.setCell p v) r :=
 ⟨h.os,h.tape,h.output,by rw [World.size_setCell];exact h.size,fun i hi hr=>(Below.heap_setCell _ _ _ _ (fun e=>by omega)).trans (h.block i hi hr)⟩
set_option maxRecDepth 100000 in
theorem sync_s (g g':Nat) (ss:List ByteArray) (c:Nat) (ws:List (Int×ByteArray)) (c':Nat) (w:World) (hrs:Row w g (ss.map Value.string)) (hp:OwnS w (some ⟨g',0,none⟩) (wcells ws)) (hne:wcells ws≠[]->g'≠g) (hl:ss.length<=200) (hl':ws.length<=300) (hok:∀ x∈ws,0<=x.1/\x.1<(ss.length:Int)) :
  Calls Try.prog 22 #[diskV (some ⟨g,0,none⟩) ss.length c (some ⟨g',0,none⟩) ws.length c'] w fun e w'=>∃ x,e=.returned (diskV (some ⟨g,0,none⟩) ss.length c (some ⟨x,0,none⟩) 0 0)/\w.heap.size<=x/\x<w'.heap.size/\Row w' g ((syncs ws ss).map Value.string)/\w.grownBy w' (some g):=by
 obtain ⟨RES,HRES⟩:∃ RES,Hid (RES=syncs ws ss):=⟨_,hid rfl⟩
 rw [<-HRES.out]
 have hgl:=hrs.lt
 go_enter Try.func22,Try.ntmps22
 go_wp2
 have hst:SYs w ((w.alloc (.cells #[.slice (some ⟨g,0,none⟩) ss.length c,.slice (some ⟨g',0,none⟩) ws.length c'] 26)).alloc (.cells #[.slice none 0 0,.slice none 0 0] 26)) (w.heap.size+1) w.heap.size g g' ss.length ws.length c c' ws ss :=
  ⟨grown_of_below _ (((Below.refl _ _).alloc (Nat.le_refl _) _).alloc (by simp) _),row_new' _ _ _ _ (by simp),(row_new _ _ _).alloc _,(hrs.alloc _).alloc _,(hp.below (below_new _ _)).below (below_new _ _)⟩
 have HST:=hid hst
 have HOK:=hid hok
 have HNE:=hid hne
 clear hst hrs hp hok hne
 go_loopw [3] (fun i wr=>∃ (k:Nat) (ts:List ByteArray),k<=ws.length/\i=.int .i64 k/\ts.length=ss.length/\Hid (syncs (ws.drop k) ts=RES)/\SYs w wr (w.heap.size+1) w.heap.size g g' ss.length ws.length c c' ws ts) (fun i _=>ws.length-(intOf i).toNat)
 case atStart=>exact ⟨0,ss,Nat.zero_le _,rfl,rfl,by show _=_;rw [List.drop_zero,HRES.out],HST.out⟩
 case round =>
  clear HST
  obtain ⟨k,ts,hk,rfl,htl,HK,hst⟩:=hrel
  by_cases hlt:k<ws.length
  ·obtain ⟨b,o,m0,d,he,hc0,hc1,HX⟩:=hst.own.wrs.at hlt
   obtain ⟨rfl,rfl⟩:g'=b/\o=0:=by cases he;exact ⟨rfl,rfl⟩
   rw [Nat.zero_add] at hc0 hc1
   clear he
   have hyw:=HOK.out (m0,d) (by rw [HX.out];simp [List.getD,hlt])
   obtain ⟨m,rfl,hm⟩:∃ m:Nat,m0=(m:Int)/\m<ss.length:=⟨m0.toNat,by have:=hyw.1;simp at *;omega,by have:=hyw.1;have:=hyw.2;simp at *;omega⟩
   have hwne:wcells ws≠[]:=fun e=>by have:=congrArg List.length e;rw [wcells_length,List.length_nil] at this;omega
   have hgg:=HNE.out hwne
   have hcg:=cval_some (cval_is (hst.rs.cell m (.string (ts.getD m ByteArray.empty)) (by simp [List.getD,htl,hm])))
   have hfo:=hst.rs.froz m (by simp [htl,hm])
   have hlX:=hst.rx.lt
   have x0:=hst.rx.cell 0 _ rfl
   have x1:=hst.rx.cell 1 _ rfl
   have HS0:=hid (And.intro x0 (And.intro x1 (And.intro hc0 (And.intro hc1 (And.intro hcg hfo)))))
   have HSR:=hid hst
   have hk0:(0:Int)<=(k:Int):=by omega
   have hk1:(k:Int)<(ws.length:Int):=by omega
   have hm0:(0:Int)<=(m:Int):=by omega
   have hm1:(m:Int)<(ss.length:Int):=by omega
   clear hst hyw hcg hfo hc0 hc1 hwne
   go_wp2_with fail
   clear x0 x1
   go_region_held3 (fun w'=>w'.cell? ⟨w.heap.size,0,none⟩=some (.slice (some ⟨g,0,none⟩) ss.length c)/\w'.cell? ⟨w.heap.size,1,none⟩=some (.slice (some ⟨g',0,none⟩) ws.length c')/\w'.cell? ⟨g',k*2,none⟩=some (.int .i64 (m:Int))/\w'.cell? ⟨g',k*2+1,none⟩=some (.string d)/\w'.cell? ⟨g,m,none⟩=some (cval w' ⟨g,m,none⟩)/\w'.frozen? ⟨g,m,none⟩=false)
    (first | assumption | exact HS0.out | exact ⟨(World.cell?_setCell_far _ _ _ _ (by show g≠w.heap.size;omega)).trans HS0.out.1,(World.cell?_setCell_far _ _ _ _ (by show g≠w.heap.size;omega)).trans HS0.out.2.1,(World.cell?_setCell_far _ _ _ _ (by show g≠g';omega)).trans HS0.out.2.2.1,(World.cell?_setCell_far _ _ _ _ (by show g≠g';omega)).trans HS0.out.2.2.2.1,cval_some (cval_is (World.cell?_setCell_same' wr _ (.string d) (cval_is HS0.out.2.2.2.2.1))),(World.frozen?_setCell wr _ _ _).trans HS0.out.2.2.2.2.2⟩)
    (fail)
   have HST':=hid (HSR.out.drew.set m (by omega) d (by omega) (by omega) HNE.out)
   have HK':Hid (syncs (ws.drop (k+1)) (ts.set m d)=RES):=by
    show _=_
    rw [<-HK.out,drop_at ws k (0,ByteArray.empty) hlt,<-HX.out,syncs,Int.toNat_natCast]
   rename_i hHe
   clear hHe HS0
   go_wp2
   go_roundw
   case rel=>exact ⟨k+1,_,by omega,by go_num,by simp [htl],HK',HST'.out⟩
   case measure=>simp [intOf];omega
  ·have hres:Hid (ts=RES):=by
    have:=HK.out
    rw [List.drop_of_length_le (by omega)] at this
    exact this
   rw [hres.out] at hst
   have HSR:=hid hst
   have q0:=hst.rx.cell 0 _ rfl
   have q1:=hst.rx.cell 1 _ rfl
   have f1:=hst.rx.froz 1 (by simp)
   have r0:=hst.rr.cell 0 _ rfl
   have r1:=hst.rr.cell 1 _ rfl
   obtain ⟨fr0,fr1⟩:=hst.rr.z2
   have hlX:=hst.rx.lt
   have hlR:=hst.rr.lt
   have n1:w.heap.size≠w.heap.size+1:=by omega
   clear hst
   go_wp2
   have ne0:wr.heap.size≠w.heap.size+1:=by omega
   refine bodyPost_ret (v:=diskV (some ⟨g,0,none⟩) ss.length c (some ⟨wr.heap.size,0,none⟩) 0 0) (by simp [results,Try.results22,go_sem,r0,r1,n1,ne0,hlR]) rfl ⟨_,rfl,by omega,by simp,?_,?_⟩
   ·exact (((HSR.out.rs.other _ (by show w.heap.size≠g;omega) _).other _ (by show w.heap.size+1≠g;omega) _).other _ (by show w.heap.size+1≠g;omega) _).alloc _
   ·exact grown_trans (grown_setnew (grown_setnew (grown_setnew HSR.out.gr ⟨w.heap.size,1,none⟩ (by show w.heap.size<=w.heap.size;omega) _) ⟨w.heap.size+1,0,none⟩ (by show w.heap.size<=w.heap.size+1;omega) _) ⟨w.heap.size+1,1,none⟩ (by show w.heap.size<=w.heap.size+1;omega) _) (grown_of_below _ (below_new _ _))
end
section
structure PR (w:World) (g:Nat) (ps:List (List Int)):Prop where
 lt:g<w.heap.size
 len:∀ p∈ps,p.length=64
 cell:∀ k,k<ps.length->∀ j,j<64->w.cell? ⟨g,k*64+j,none⟩=some (.int .u8 ((ps.getD k []).getD j 0))
 froz:∀ i,i<ps.length*64->w.frozen? ⟨g,i,none⟩=false
theorem PR.below {w w':World} {g:Nat} {ps:List (List Int)} (h:PR w g ps) (hb:Below w.heap.size w w'):PR w' g ps :=
 ⟨Nat.lt_of_lt_of_le h.lt hb.size,h.len,fun k hk j hj=>(hb.cell (p:=⟨g,_,none⟩) h.lt).trans (h.cell k hk j hj),fun i hi=>(hb.frozen (p:=⟨g,i,none⟩) h.lt).trans (h.froz i hi)⟩
theorem PR.grown {w w':World} {g:Nat} {ps:List (List Int)} {r:Option Nat} (h:PR w g ps) (hg:w.grownBy w' r) (hn:some g≠r):PR w' g ps :=
 ⟨Nat.lt_of_lt_of_le h.lt hg.size,h.len,fun k hk j hj=>(World.cell?_of_block (a:=⟨g,_,none⟩) (hg.block g h.lt hn)).trans (h.cell k hk j hj),fun i hi=>(World.frozen?_of_block (a:=⟨g,i,none⟩) (hg.block g h.lt hn)).trans (h.froz i hi)⟩
theorem PR.other {w:World} {g:Nat} {ps:List (List Int)} (h:PR w g ps) (p:Addr) (hp:p.block≠g) (v:Value):PR (w.setCell p v) g ps:=by
 refine ⟨by simpa [World.setCell] using h.lt,h.len,fun k hk j hj=>?_,fun i hi=>?_⟩
 ·rw [World.cell?_setCell_other (w:=w) (h:=fun e=>hp (by rw [e]))];exact h.cell k hk j hj
 ·rw [World.frozen?_setCell];exact h.froz i hi
theorem getD_len {ps:List (List Int)} (h:∀ p∈ps,p.length=64) {k:Nat} (hk:k<ps.length):(ps.getD k []).length=64:=h _ (by simp [List.getD,hk])
theorem PR.there {w:World} {g:Nat} {ps:List (List Int)} (h:PR w g ps) {k:Nat} (hk:k<ps.length):w.there g (k*64) 64:=fun j hj=>by
 rw [h.cell k hk j hj];exact ⟨rfl,h.froz _ (by omega)⟩
theorem PR.range {w:World} {g:Nat} {ps:List (List Int)} (h:PR w g ps) {k:Nat} (hk:k<ps.length):w.rangeAt g (k*64) ((ps.getD k []).map (Value.int .u8)):=fun j v hv=>by
 obtain ⟨hj,e⟩:=List.getElem?_eq_some_iff.1 hv
 simp only [List.length_map] at hj
 have h64:=getD_len h.len hk
 rw [h.cell k hk j (by omega)]
 rw [<-e]
 simp only [List.getElem_map]
 rw [List.getD_eq_getElem?_getD (l:=ps.getD k []),List.getElem?_eq_getElem hj]
 rfl
theorem PR.plt {w:World} {g:Nat} {ps:List (List Int)} (h:PR w g ps):Plt w (some ⟨g,0,none⟩) ps :=
 .inr ⟨g,0,rfl,h.lt,fun i hi=>by rw [Nat.zero_add];exact h.range hi⟩
theorem PR.set {w:World} {g:Nat} {ps:List (List Int)} (h:PR w g ps) (k:Nat) (hk:k<ps.length) (x:List Int) (hx:x.length=64):PR (w.setCells g (k*64) (x.map (Value.int .u8))) g (ps.set k x):=by
 have hl:(x.map (Value.int .u8)).length=64:=by simp [hx]
 refine ⟨by rw [setCells_size];exact h.lt,fun p hp=>?_,fun i hi j hj=>?_,fun i hi=>?_⟩
 ·rcases List.mem_or_eq_of_mem_set hp with h1 | h1
  ·exact h.len p h1
  ·rw [h1];exact hx
 ·rw [List.length_set] at hi
  by_cases he:i=k
  ·subst he
   have e1:(ps.set i x).getD i []=x:=by rw [List.getD_eq_getElem?_getD,List.getElem?_set_self hk];rfl
   rw [e1,World.cell?_setCells_in g _ (i*64) w (fun j hj=>by rw [hl] at hj;exact (h.there hk j hj).1) j (by omega)]
   simp [List.getD,show j<x.length by omega]
  ·have e1:(ps.set k x).getD i []=ps.getD i []:=by rw [List.getD_eq_getElem?_getD,List.getElem?_set_ne (fun e=>he e.symm),List.getD_eq_getElem?_getD]
   rw [e1,World.cell?_setCells_out g _ (k*64) w ⟨g,i*64+j,none⟩ (fun _ _=>by rw [hl];show i*64+j<k*64\/k*64+64<=i*64+j;omega)]
   exact h.cell i hi j hj
 ·rw [World.frozen?_setCells];exact h.froz i (by simpa using hi)
theorem pr_zero {w:World} {g n:Nat} (h:Row w g (List.replicate (n*64) (.int .u8 0))):PR w g (List.replicate n (List.replicate 64 0)):=by
 refine ⟨h.lt,fun p hp=>by rw [List.eq_of_mem_replicate hp];simp,fun k hk j hj=>?_,fun i hi=>h.froz i (by simpa using hi)⟩
 rw [List.length_replicate] at hk
 have e1:((List.replicate n (List.replicate 64 (0:Int))).getD k []).getD j 0=0:=by
  rw [List.getD_eq_getElem?_getD (l:=List.replicate n _),List.getElem?_replicate,if_pos hk,Option.getD_some,List.getD_eq_getElem?_getD,List.getElem?_replicate,if_pos hj]
  rfl
 rw [e1]
 exact h.cell _ _ (by rw [List.getElem?_replicate,if_pos (by omega)])
def hcells (hs:List (Int×List Int)):List Value:=hs.flatMap fun x=>.int .i64 x.1::x.2.map (Value.int .u8)
theorem hcells_append (a b:List (Int×List Int)):hcells (a++b)=hcells a++hcells b:=by simp [hcells]
theorem hcells_at:∀ (hs:List (Int×List Int)),(∀ p∈hs,p.2.length=64)->∀ (i:Nat),i<hs.length->∀ j,(Value.int .i64 (hs.getD i (0,[])).1::(hs.getD i (0,[])).2.map (Value.int .u8))[j]?≠none->(hcells hs)[i*65+j]?=(Value.int .i64 (hs.getD i (0,[])).1::(hs.getD i (0,[])).2.map (Value.int .u8))[j]?
 | x::r,hl,0,_,j,hj=>by
  have e:hcells (x::r)=(.int .i64 x.1::x.2.map (Value.int .u8))++hcells r:=by simp [hcells]
  have e2:(x::r).getD 0 (0,[])=x:=rfl
  rw [e2] at hj ⊢
  rw [e,Nat.zero_mul,Nat.zero_add,List.getElem?_append_left]
  rcases Nat.lt_or_ge j (Value.int .i64 x.1::x.2.map (Value.int .u8)).length with h | h
  ·exact h
  ·exact absurd (List.getElem?_eq_none h) hj
 | x::r,hl,i+1,h,j,hj=>by
  have e:hcells (x::r)=(.int .i64 x.1::x.2.map (Value.int .u8))++hcells r:=by simp [hcells]
  have hx:(Value.int .i64 x.1::x.2.map (Value.int .u8)).length=65:=by simp [hl x (by simp)]
  have e2:(x::r).getD (i+1) (0,[])=r.getD i (0,[]):=by simp [List.getD]
  rw [e2] at hj ⊢
  rw [e,List.getElem?_append_right (by omega),hx,show (i+1)*65+j-65=i*65+j by omega]
  exact hcells_at r (fun p hp=>hl p (by simp [hp])) i (by simpa using h) j hj
theorem hcells_length (hs:List (Int×List Int)) (hl:∀ p∈hs,p.2.length=64):(hcells hs).length=hs.length*65:=by
 induction hs with
 | nil=>rfl
 | cons x r ih =>
  have e:hcells (x::r)=(.int .i64 x.1::x.2.map (Value.int .u8))++hcells r:=by simp [hcells]
  rw [e,List.length_append,ih (fun p hp=>hl p (by simp [hp]))]
  simp [hl x (by simp)];omega
theorem Row.hld {w:World} {g:Nat} {hs:List (Int×List Int)} (h:Row w g (hcells hs)) (hl:∀ p∈hs,p.2.length=64):Hld w (some ⟨g,0,none⟩) hs :=
 .inr ⟨g,0,rfl,h.lt,fun i hi j v hv=>by
  rw [Nat.zero_add]
  exact h.cell _ _ ((hcells_at hs hl i hi j (by rw [hv];simp)).trans hv)⟩
structure Drs (W w:World) (n:Nat) (box:Value) (e:TypeId) (v:Value) (ps:List (List Int)) (hs:List (Int×List Int)):Prop where
 sz:W.heap.size+1+1+1+1<=w.heap.size
 bel:Below W.heap.size W w
 b1:w.cell? ⟨W.heap.size,1,none⟩=some box
 r0:w.cell? ⟨W.heap.size+1,0,none⟩=some (.slice none 0 0)
 r1:w.cell? ⟨W.heap.size+1,1,none⟩=some (.slice none 0 0)
 fr0:w.frozen? ⟨W.heap.size+1,0,none⟩=false
 fr1:w.frozen? ⟨W.heap.size+1,1,none⟩=false
 d0:w.cell? ⟨W.heap.size+1+1+1,0,none⟩=some (.slice (some ⟨W.heap.size+1+1,0,none⟩) n n)
 d1:w.cell? ⟨W.heap.size+1+1+1,1,none⟩=some v
 fd1:w.frozen? ⟨W.heap.size+1+1+1,1,none⟩=false
 pr:PR w (W.heap.size+1+1) ps
 len:∀ p∈hs,p.2.length=64
 own:w.ownsRow (W.heap.size+1+1+1+1) e 65 v hs.length (hcells hs)
section
variable {W w w':World} {n:Nat} {box v:Value} {e:TypeId} {ps:List (List Int)} {hs:List (Int×List Int)}
theorem Drs.below (h:Drs W w n box e v ps hs) (hb:Below w.heap.size w w'):Drs W w' n box e v ps hs :=
 have hs:=h.sz
 have bc:∀ b i,b<W.heap.size+1+1+1+1->w'.cell? ⟨b,i,none⟩=w.cell? ⟨b,i,none⟩:=fun b i hi=>hb.cell (p:=⟨b,i,none⟩) (by show b<_;omega)
 have bf:∀ b i,b<W.heap.size+1+1+1+1->w'.frozen? ⟨b,i,none⟩=w.frozen? ⟨b,i,none⟩:=fun b i hi=>hb.frozen (p:=⟨b,i,none⟩) (by show b<_;omega)
 ⟨Nat.le_trans hs hb.size,h.bel.trans (hb.mono (by omega)),(bc _ _ (by omega)).trans h.b1,(bc _ _ (by omega)).trans h.r0,(bc _ _ (by omega)).trans h.r1,(bf _ _ (by omega)).trans h.fr0,(bf _ _ (by omega)).trans h.fr1,
  (bc _ _ (by omega)).trans h.d0,(bc _ _ (by omega)).trans h.d1,(bf _ _ (by omega)).trans h.fd1,h.pr.below hb,h.len,owns_below h.own hb⟩
theorem Drs.drew (h:Drs W w n box e v ps hs):Drs W w.drew n box e v ps hs:=h.below ((Below.refl _ _).drew)
theorem Drs.alloc (h:Drs W w n box e v ps hs) (o:Obj):Drs W (w.alloc o) n box e v ps hs:=h.below ((Below.refl _ _).alloc (Nat.le_refl _) _)
theorem Drs.fill (h:Drs W w n box e v ps []) (hv:v=.slice none 0 0) (k:Nat) (hk:k<ps.length) (x:List Int) (hx:x.length=64):Drs W (w.setCells (W.heap.size+1+1) (k*64) (x.map (Value.int .u8))) n box e v (ps.set k x) []:=by
 have hs:=h.sz
 have co:∀ b i,b≠W.heap.size+1+1->(w.setCells (W.heap.size+1+1) (k*64) (x.map (Value.int .u8))).cell? ⟨b,i,none⟩=w.cell? ⟨b,i,none⟩:=fun b i hb=>World.cell?_setCells_out _ _ _ _ _ (fun e=>absurd e hb)
 exact ⟨by rw [setCells_size];exact hs,Go.below_setCells (by omega) _ _ _ h.bel,(co _ _ (by omega)).trans h.b1,(co _ _ (by omega)).trans h.r0,(co _ _ (by omega)).trans h.r1,(World.frozen?_setCells _ _ _ _ _).trans h.fr0,(World.frozen?_setCells _ _ _ _ _).trans h.fr1,
  (co _ _ (by omega)).trans h.d0,(co _ _ (by omega)).trans h.d1,(World.frozen?_setCells _ _ _ _ _).trans h.fd1,h.pr.set k hk x hx,h.len,by rw [hv];exact World.ownsRow_nil _ _ _ _⟩
theorem Drs.grown {w1:World} (h:Drs W w n box e v ps hs) (hg:w.grownBy w1 v.ownBlock):w1.cell? ⟨W.heap.size+1+1+1,1,none⟩=some v/\w1.frozen? ⟨W.heap.size+1+1+1,1,none⟩=false:=by
 have hs:=h.sz
 have nb:some (W.heap.size+1+1+1)≠v.ownBlock:=fun he=>by have:=(h.own.lt _ he.symm).1;omega
 exact ⟨(hg.cell_far ⟨W.heap.size+1+1+1,1,none⟩ (by show W.heap.size+1+1+1<_;omega) nb).trans h.d1,(hg.frozen_far ⟨W.heap.size+1+1+1,1,none⟩ (by show W.heap.size+1+1+1<_;omega) nb).trans h.fd1⟩
theorem Drs.push (h:Drs W w n box e v ps hs) {w1:World} {g cap:Nat} {x:Int×List Int} (hx:x.2.length=64) (hown:w1.ownsRow (W.heap.size+1+1+1+1) e 65 (.slice (some ⟨g,0,none⟩) (hs.length+1) cap) (hs.length+1) (hcells hs++(.int .i64 x.1::x.2.map (Value.int .u8)))) (hg:w.grownBy w1 v.ownBlock) :
  Drs W (w1.setCell ⟨W.heap.size+1+1+1,1,none⟩ (.slice (some ⟨g,0,none⟩) (hs.length+1) cap)) n box e (.slice (some ⟨g,0,none⟩) (hs.length+1) cap) ps (hs++[x]):=by
 have hs':=h.sz
 have nb:∀ k,k<W.heap.size+1+1+1+1->some k≠v.ownBlock:=fun k hk he=>by have:=(h.own.lt k he.symm).1;omega
 have lt:∀ b,b<W.heap.size+1+1+1+1->b<w.heap.size:=fun b hb=>by omega
 have cc:∀ b i,b<W.heap.size+1+1+1+1->w1.cell? ⟨b,i,none⟩=w.cell? ⟨b,i,none⟩:=fun b i hb=>hg.cell_far ⟨b,i,none⟩ (lt b hb) (nb b hb)
 have ff:∀ b i,b<W.heap.size+1+1+1+1->w1.frozen? ⟨b,i,none⟩=w.frozen? ⟨b,i,none⟩:=fun b i hb=>hg.frozen_far ⟨b,i,none⟩ (lt b hb) (nb b hb)
 have so:∀ b i,b<W.heap.size+1+1+1+1->b≠W.heap.size+1+1+1->(w1.setCell ⟨W.heap.size+1+1+1,1,none⟩ (.slice (some ⟨g,0,none⟩) (hs.length+1) cap)).cell? ⟨b,i,none⟩=w.cell? ⟨b,i,none⟩:=fun b i hb hn=>by
  rw [World.cell?_setCell_other (w:=w1) (h:=show (⟨W.heap.size+1+1+1,1,none⟩:Addr)≠⟨b,i,none⟩ from fun he=>hn (by injection he with h1;exact h1.symm))];exact cc b i hb
 have hbel:Below W.heap.size W w1:=h.bel.trans ⟨hg.os,hg.tape,hg.output,hg.size,fun k hk=>hg.block k (by omega) (nb k (by omega))⟩
 refine ⟨by simp only [World.size_setCell];have:=hg.size;omega,hbel.setCell (by show W.heap.size<=W.heap.size+1+1+1;omega) _,(so _ _ (by omega) (by omega)).trans h.b1,(so _ _ (by omega) (by omega)).trans h.r0,(so _ _ (by omega) (by omega)).trans h.r1,
  (World.frozen?_setCell _ _ _ _).trans ((ff _ _ (by omega)).trans h.fr0),(World.frozen?_setCell _ _ _ _).trans ((ff _ _ (by omega)).trans h.fr1),?_,World.cell?_setCell_same w1 _ _ ((cc _ _ (by omega)).trans h.d1),(World.frozen?_setCell _ _ _ _).trans ((ff _ _ (by omega)).trans h.fd1),?_,?_,?_⟩
 ·rw [World.cell?_setCell_other (w:=w1) (h:=show (⟨W.heap.size+1+1+1,1,none⟩:Addr)≠⟨W.heap.size+1+1+1,0,none⟩ by simp)];exact (cc _ _ (by omega)).trans h.d0
 ·exact (h.pr.grown hg (nb _ (by omega))).other _ (by show W.heap.size+1+1+1≠W.heap.size+1+1;omega) _
 ·intro p hp
  rcases List.mem_append.1 hp with h1 | h1
  ·exact h.len p h1
  ·simp at h1;rw [h1];exact hx
 ·have k1:=ownsRow_setCell_below hown (a:=⟨W.heap.size+1+1+1,1,none⟩) (by show W.heap.size+1+1+1<_;omega) (.slice (some ⟨g,0,none⟩) (hs.length+1) cap)
  have e1:hcells (hs++[x])=hcells hs++(.int .i64 x.1::x.2.map (Value.int .u8)):=by rw [hcells_append];simp [hcells]
  rw [List.length_append,e1]
  exact k1
theorem Drs.start (w wx:World) (n:Nat) (c0 c1:Value) (t0 t1 t2 e:TypeId) (hb:Below ((w.alloc (.cells #[c0,c1] t0)).alloc (.cells #[.slice none 0 0,.slice none 0 0] t1)).heap.size ((w.alloc (.cells #[c0,c1] t0)).alloc (.cells #[.slice none 0 0,.slice none 0 0] t1)) wx)
  (hs:wx.heap.size=w.heap.size+1+1+1) (hr:Row wx (w.heap.size+1+1) (List.replicate (n*64) (.int .u8 0))) :
  Drs w (wx.alloc (.cells #[.slice (some ⟨w.heap.size+1+1,0,none⟩) n n,.slice none 0 0] t2)) n c1 e (.slice none 0 0) (List.replicate n (List.replicate 64 0)) []:=by
 have rb:=(((row_new w #[c0,c1] t0).alloc (.cells #[.slice none 0 0,.slice none 0 0] t1)).below hb).alloc (.cells #[.slice (some ⟨w.heap.size+1+1,0,none⟩) n n,.slice none 0 0] t2)
 have rr:=((row_new' (w.alloc (.cells #[c0,c1] t0)) #[.slice none 0 0,.slice none 0 0] t1 (w.heap.size+1) (by simp)).below hb).alloc (.cells #[.slice (some ⟨w.heap.size+1+1,0,none⟩) n n,.slice none 0 0] t2)
 have rd:=row_new' wx #[.slice (some ⟨w.heap.size+1+1,0,none⟩) n n,.slice none 0 0] t2 (w.heap.size+1+1+1) hs.symm
 have hB:Below w.heap.size w wx:=(((Below.refl _ _).alloc (Nat.le_refl _) _).alloc (by simp) _).trans (hb.mono (by simp;omega))
 exact ⟨by simp [hs],hB.alloc hB.size _,rb.cell 1 _ rfl,rr.cell 0 _ rfl,rr.cell 1 _ rfl,rr.froz 0 (by simp),rr.froz 1 (by simp),rd.cell 0 _ rfl,rd.cell 1 _ rfl,rd.froz 1 (by simp),pr_zero (hr.alloc _),by simp,World.ownsRow_nil _ _ _ _⟩
end
end
theorem step_copy_cells {P:Program} {ops:Array Oper} {o:Oper} {a:Act} {w:World} {K:Act->World->Prop} {Q:Exit->Act->World->Prop} {E:Prop}
  (hg:o.guard=none) (d x:Operand) (dT sT:TypeId) (hop:o.op=Op.call { callee:=Callee.builtin Builtin.copy,args:=#[d,x],argTypes:=#[dT,sT] })
  (elem:TypeId) (hu:P.underlying dT=some (.slice elem)) (hz:(P.info? elem).map (·.size)=some 1)
  (b off dLen dCap:Nat) (hd:a.eval d=.slice (some ⟨b,off,none⟩) dLen dCap) (s:Addr) (sLen sCap:Nat) (hx:a.eval x=.slice (some s) sLen sCap) (cs:List Value) (hn:cs.length=Nat.min sLen dLen)
  (hsrc:∀ j v,cs[j]?=some v->w.cell? (s.add j)=some v) (hc:∀ j,j<cs.length->(w.cell? ⟨b,off+j,none⟩).isSome=true) (hf:∀ j,j<cs.length->w.frozen? ⟨b,off+j,none⟩=false) (h1:∀ v∈cs,v.oneCell'=true)
  (hK:K (a.put o.dst (goInt cs.length)) (w.setCells b off cs)) :
  if Region.wanted o (yielded ops a.tmps)=true then Oper.wp P o a w K Q else E:=by
 have hw:Region.wanted o (yielded ops a.tmps)=true:=by simp [Region.wanted,hg]
 rw [if_pos hw]
 have hrun:=run_copy_cells (P:=P) w dT sT o.type elem b off dLen dCap s sLen sCap cs hu hz hn hsrc hc hf h1
 unfold Oper.wp
 simp [execOp,hop,resolve,invoke,builtin,hd,hx,hrun,Result.andThen]
 exact hK
def torn (k:Nat) (x y:List Int):List Int:=x.take k++y.drop k
theorem torn_length (k:Nat) (x y:List Int) (hk:k<=64) (hx:x.length=64) (hy:y.length=64):(torn k x y).length=64:=by simp [torn];omega
theorem PR.part {w:World} {g:Nat} {ps:List (List Int)} (h:PR w g ps) (i:Nat) (hi:i<ps.length) (k:Nat) (hk:k<=64) (x:List Int) (hx:x.length=64):PR (w.setCells g (i*64) ((x.take k).map (Value.int .u8))) g (ps.set i (torn k x (ps.getD i []))):=by
 have hl:((x.take k).map (Value.int .u8)).length=k:=by simp;omega
 have hy:=getD_len h.len hi
 refine ⟨by rw [setCells_size];exact h.lt,fun p hp=>?_,fun q hq j hj=>?_,fun q hq=>?_⟩
 ·rcases List.mem_or_eq_of_mem_set hp with h1 | h1
  ·exact h.len p h1
  ·rw [h1];exact torn_length k x _ hk hx hy
 ·rw [List.length_set] at hq
  by_cases he:q=i
  ·subst he
   have e1:(ps.set q (torn k x (ps.getD q []))).getD q []=torn k x (ps.getD q []):=by rw [List.getD_eq_getElem?_getD,List.getElem?_set_self hi];rfl
   rw [e1]
   by_cases hjk:j<k
   ·rw [World.cell?_setCells_in g _ (q*64) w (fun j hj=>by rw [hl] at hj;exact (h.there hi j (by omega)).1) j (by omega)]
    unfold torn
    rw [List.getD_eq_getElem?_getD,List.getElem?_append_left (by simp;omega),List.getElem?_take_of_lt hjk,List.getElem?_eq_getElem (by omega)]
    simp
   ·rw [World.cell?_setCells_out g _ (q*64) w ⟨g,q*64+j,none⟩ (fun _ _=>by rw [hl];show q*64+j<q*64\/q*64+k<=q*64+j;omega),h.cell q hq j hj]
    unfold torn
    rw [List.getD_eq_getElem?_getD (l:=x.take k++_),List.getElem?_append_right (by simp;omega),List.getElem?_drop]
    rw [show k+(j-(x.take k).length)=j by simp;omega,List.getD_eq_getElem?_getD]
  ·have e1:(ps.set i (torn k x (ps.getD i []))).getD q []=ps.getD q []:=by rw [List.getD_eq_getElem?_getD,List.getElem?_set_ne (fun e=>he e.symm),List.getD_eq_getElem?_getD]
   rw [e1,World.cell?_setCells_out g _ (i*64) w ⟨g,q*64+j,none⟩ (fun _ _=>by rw [hl];show q*64+j<i*64\/i*64+k<=q*64+j;omega)]
   exact h.cell q hq j hj
 ·rw [World.frozen?_setCells];exact h.froz q (by simpa using hq)
set_option maxRecDepth 100000 in
theorem lay_i (X g n c:Nat) (v:Value) (ps:List (List Int)) (m:Nat) (x:List Int) (k:Nat) (w:World) (hX:w.cell? ⟨X,0,none⟩=some (.slice (some ⟨g,0,none⟩) n c)) (hXg:X≠g) (hp:PR w g ps) (hn:ps.length=n) (hm:m<n) (hn2:n<=200) (hnc:n<=c) (hx:x.length=64) (hk:k<=64) :
  Calls Try.prog 26 #[.pointer (some ⟨X,0,none⟩),.agg (Value.int .i64 (m:Int)::x.map (Value.int .u8)).toArray,.int .i64 (k:Int)] w fun e w'=>e=.returned (.tuple #[])/\PR w' g (ps.set m (torn k x (ps.getD m [])))/\w.grownBy w' (some g):=by
 have hlX:X<w.heap.size:=by have:=World.block_lt_of_cell? w _ hX;simpa using this
 have hlg:=hp.lt
 go_enter Try.func26,Try.ntmps26
 go_wp2_with fail
 have hrow:=row_new w (Value.int .i64 (m:Int)::x.map (Value.int .u8)).toArray 63
 have hbn:=below_new w (.cells (Value.int .i64 (m:Int)::x.map (Value.int .u8)).toArray 63)
 obtain ⟨wy,HWY⟩:∃ wy,wy=w.alloc (.cells (Value.int .i64 (m:Int)::x.map (Value.int .u8)).toArray 63):=⟨_,rfl⟩
 rw [<-HWY] at hrow hbn ⊢
 clear HWY
 have HPY:=hid (hp.below hbn)
 have HQ:=hid (And.intro ((hbn.cell (p:=⟨X,0,none⟩) hlX).trans hX) (hrow.cell 0 (.int .i64 (m:Int)) rfl))
 have HBN:=hid hbn
 have HSRC:Hid (∀ j v,((x.take k).map (Value.int .u8))[j]?=some v->wy.drew.cell? ((⟨w.heap.size,1,none⟩:Addr).add j)=some v):=fun j v hv=>by
  obtain ⟨hj,e⟩:=List.getElem?_eq_some_iff.1 hv
  have hj':j<k:=by simp at hj;omega
  have ha:(⟨w.heap.size,1,none⟩:Addr).add j=⟨w.heap.size,j+1,none⟩:=by unfold Addr.add;split<;>simp_all<;>omega
  rw [ha]
  refine hrow.cell (j+1) v ?_
  rw [<-hv]
  simp [List.getElem?_take_of_lt hj']
 have HL:Hid (((x.take k).map (Value.int .u8)).length=Nat.min k k):=by show _=_;simp [Nat.min_def];omega
 have hkl:((x.take k).map (Value.int .u8)).length=k:=by simp;omega
 have HT:=hid (HPY.out.there (k:=m) (by omega))
 have hs1:=fun wx=>slice_arr_to (P:=Try.prog) (t:=61) Try.underlying61 (fun _=>by kernel_rfl) g (m*64) k (by omega) hk .i64 (k:Int) rfl wx
 have hs2:=fun wx=>slice_arr_to (P:=Try.prog) (t:=61) Try.underlying61 (fun _=>by kernel_rfl) w.heap.size 1 k (by omega) hk .i64 (k:Int) rfl wx
 have hm0:(0:Int)<=(m:Int):=by omega
 have hm1:(m:Int)<(n:Int):=by omega
 have hgX:X≠g:=hXg
 have hgw:w.heap.size≠g:=by omega
 clear hX hp hrow hbn hXg
 go_region_held3 (fun w'=>w'.cell? ⟨X,0,none⟩=some (.slice (some ⟨g,0,none⟩) n c)/\w'.cell? ⟨w.heap.size,0,none⟩=some (.int .i64 (m:Int)))
  (first | assumption | exact HQ.out | exact ⟨(World.cell?_setCells_out _ _ _ _ _ (fun e=>absurd e hgX)).trans HQ.out.1,(World.cell?_setCells_out _ _ _ _ _ (fun e=>absurd e hgw)).trans HQ.out.2⟩)
  (first | (refine step_copy_cells (by rfl) _ _ _ _ (by rfl) 5 Try.underlying22 (by kernel_rfl) g (m*64) k 64 (by rfl) ⟨w.heap.size,1,none⟩ k 64 (by rfl) ((x.take k).map (Value.int .u8)) HL.out HSRC.out (fun j hj=>(HT.out j (by omega)).1) (fun j hj=>(HT.out j (by omega)).2) (ints_one _) ?_))
 have hfin:=(HPY.out.below ((Below.refl _ wy).drew)).part m (by omega) k hk x hx
 have hgr:w.grownBy (wy.drew.setCells g (m*64) ((x.take k).map (Value.int .u8))) (some g):=by
  have hos:=setCells_os g ((x.take k).map (Value.int .u8)) (m*64) wy.drew
  refine ⟨hos.1.trans HBN.out.os,hos.2.1.trans HBN.out.tape,hos.2.2.trans HBN.out.output,by rw [setCells_size];exact HBN.out.size,fun i hi hne=>?_⟩
  rw [setCells_other g _ _ _ i (fun e=>hne (by rw [e]))]
  exact HBN.out.block i hi
 have HFIN:=hid hfin
 have HGR:=hid hgr
 clear hfin hgr
 go_wp2
 go_end0
 exact ⟨rfl,HFIN.out,HGR.out⟩
theorem fold_two' (v:Value) (cs:List Value) (z:Array Value) (hz:z.size=cs.length+1):List.foldl (fun (r:Array Value) (x:Value×Nat)=>r.setIfInBounds (1+x.snd) x.fst) (z.setIfInBounds 0 v) cs.zipIdx=(v::cs).toArray:=by
 obtain ⟨h3,h4⟩:=Great.foldl_set 1 cs 0 (z.setIfInBounds 0 v)
 apply Array.ext_getElem?
 intro k
 have e:=h4 k
 rw [e,Array.size_setIfInBounds]
 by_cases hk:1<=k/\k<1+cs.length
 ·rw [if_pos ⟨by omega,by omega,by omega⟩]
  obtain ⟨j,rfl⟩:∃ j,k=j+1:=⟨k-1,by omega⟩
  simp
 ·rw [if_neg (by omega)]
  by_cases h0:k=0
  ·subst h0
   simp [show 0<z.size by omega]
  ·rw [Array.getElem?_eq_none (by simp;omega),Array.getElem?_eq_none (by simp;omega)]
theorem fold_tail (v:Value) (cs:List Value) (n:Nat) (hn:cs.length+1=n) (z:Array Value) (hz:z.size=n) (h0:z[0]?=some v):List.foldl (fun (r:Array Value) (x:Value×Nat)=>r.setIfInBounds x.snd x.fst) z (cs.zipIdx 1)=(v::cs).toArray:=by
 obtain ⟨h3,h4⟩:=Great.foldl_set 0 cs 1 z
 have e0:(fun (r:Array Value) (x:Value×Nat)=>r.setIfInBounds (0+x.2) x.1)=fun (r:Array Value) (x:Value×Nat)=>r.setIfInBounds x.snd x.fst:=by funext r x;rw [Nat.zero_add]
 rw [e0] at h3 h4
 apply Array.ext_getElem?
 intro k
 rw [h4 k]
 by_cases hk:1<=k/\k<1+cs.length
 ·rw [if_pos ⟨by omega,by omega,by omega⟩]
  obtain ⟨j,rfl⟩:∃ j,k=j+1:=⟨k-1,by omega⟩
  simp
 ·rw [if_neg (by omega)]
  by_cases hk0:k=0
  ·subst hk0;rw [h0];simp
  ·rw [Array.getElem?_eq_none (by omega),Array.getElem?_eq_none (by simp;omega)]
theorem heldZ_size:heldZ.size=65:=by kernel_rfl
theorem heldZ_ne:¬ (heldZ=#[]):=fun h=>by have:=congrArg Array.size h;rw [heldZ_size] at this;cases this
set_option maxRecDepth 100000 in
theorem disk_i (a:Option Addr) (ps:List (List Int)) (c:Nat) (a':Option Addr) (hs:List (Int×List Int)) (c':Nat) (w:World) (h:Plt w a ps) (h':Hld w a' hs) (hl:ps.length<=200) (hl':hs.length<=300) (h64:∀ p∈ps,p.length=64) (h64':∀ p∈hs,p.2.length=64) :
  Calls Try.prog 19 #[diskV a ps.length c a' hs.length c'] w fun e w'=>∃ v v',e=.returned (.agg #[v,v'])/\w'.ownsRow w.heap.size 9 1 v ps.length ((secs ps).map Value.string)/\w'.ownsRow w.heap.size 46 2 v' hs.length (wcells (held hs))/\(v.ownBlock=none\/v'.ownBlock=none\/v.ownBlock≠v'.ownBlock)/\Below w.heap.size w w':=by
 obtain ⟨i0,hi0,hz0,hz1,hz2⟩:=info_parts' infoStr
 have HI:=hid (And.intro hi0 (And.intro hz0 (And.intro hz1 hz2)))
 clear hi0 hz0 hz1 hz2
 obtain ⟨i1,hi0,hz0,hz1,hz2⟩:=info_parts' infoWr
 have HI1:=hid (And.intro hi0 (And.intro hz0 (And.intro hz1 hz2)))
 clear hi0 hz0 hz1 hz2
 go_enter Try.func19,Try.ntmps19
 go_wp2
 go_loopw [5,11] (fun _ i wr=>∃ (k:Nat) (v:Value),k<=ps.length/\i=.int .i64 k/\Dsk w wr (w.heap.size+1) (w.heap.size+1+1) (w.heap.size+1+1+1) 9 46 v (.slice none 0 0) (secs (ps.take k)) []/\wr.cell? ⟨w.heap.size,1,none⟩=some (.slice a' hs.length c')) (fun _ i _=>ps.length-(intOf i).toNat)
 case atStart=>exact ⟨0,_,Nat.zero_le _,rfl,Dsk.start3 _ _ _ _ _ _ _ _,by go_simp⟩
 case round =>
  obtain ⟨k,v,hk,rfl,hd,hq⟩:=hrel
  by_cases hlt:k<ps.length
  ·obtain ⟨b,o,x,rfl,hlb,hrg,HS⟩:=(h.below hd.bel).at hlt
   have hxl:x.length=64:=by rw [HS.out];exact h64 _ (by simp [List.getD,hlt])
   have hxm:(x.map (Value.int .u8)).length=64:=by simp [hxl]
   have hsl:(secs (ps.take k)).length=k:=by simp [secs];omega
   have HL:=hid hsl
   have HD:=hid hd
   have HQ:=hid hq
   clear hd hq hsl
   have HI64:Hid ((Try.prog.info? 61).map (·.size)=some (x.map (Value.int .u8)).length):=by rw [hxm];show _=_;kernel_rfl
   have HXM:=hid hxm.symm
   clear hxm
   go_wp2_with (first | (with_reducible refine at_load 61 _ rfl ?_;refine wpList_load_mid rfl 61 _ rfl b (o+k*64) rfl (x.map (Value.int .u8)) _ hrg Try.underlying61 rfl HI64.out ?_) | (with_reducible refine at_store 61 _ _ rfl ?_;refine wpList_store_cells rfl 61 _ _ rfl (x.map (Value.int .u8)) (ints_one x) rfl rfl _ _ (by rw [<-HXM.out];kernel_rfl) HI64.out ?_;intro wx hrow hbx hsx))
   have HDX:=hid (HD.out.below hbx)
   have q0:=(HD.out.below hbx).d0
   have q1:=(HD.out.below hbx).fd0
   have hlx:w.heap.size+1+1<wx.heap.size:=by have:=HDX.out.sz;omega
   have hbase:w.heap.size+1+1+1<=wx.heap.size:=HDX.out.sz
   have hcv:=hrow.drew.text (P:=Try.prog) x 0 64 64 hxl (fun i hi=>by simp [List.getD,show i<x.length by omega]) 22 5 9 Try.underlying22 Try.underlying5 Try.underlying9
   have HQX:Hid (wx.cell? ⟨w.heap.size,1,none⟩=some (.slice a' hs.length c')):=(hbx.cell (p:=⟨w.heap.size,1,none⟩) (by have:=HD.out.sz;show w.heap.size<wr.heap.size;omega)).trans HQ.out
   have HO:=hid (HDX.out.drew.own.alloc (.cells #[.string (strOfNums x)] 9))
   have HDA:=hid (HDX.out.drew.alloc (.cells #[.string (strOfNums x)] 9))
   clear hrow hbx hsx HD HQ hrg
   go_region_law (first | (refine step_append_lies _ (by rfl) _ _ _ (by rfl) (w.heap.size+1+1+1) 9 i0 (.string ByteArray.empty) 1 16 Try.underlying23 HI.out.1 HI.out.2.1 HI.out.2.2.1 HI.out.2.2.2 rfl (by omega) v (secs (ps.take k)).length ((secs (ps.take k)).map Value.string) (by rfl) HO.out ⟨wx.heap.size,0,none⟩ 1 1 [.string (strOfNums x)] (by rfl) rfl (World.news_of_block (heap_alloc_new wx.drew _)) (by intro u hu;simp at hu;subst hu;rfl) (by omega) (by rw [HL.out];unfold maxLen;omega) (by rw [HL.out];omega) (by simp<;>omega) (wx.heap.size+1) (by simp) ?_;intro g cap w3 hown hgrow hat hlt3;obtain ⟨q4,q5⟩:=HDA.out.grown hgrow;have HOW:=hid hown;have HGR:=hid hgrow;have HAT:=hid hat;clear hown hgrow hat))
   all_goals
    have hpush:=HDA.out.push HOW.out HGR.out HAT.out (by simp)
    have hfar:=(HDA.out.far HGR.out w.heap.size 1 0 (by omega) (by omega) (.slice (some ⟨g,0,none⟩) ((secs (ps.take k)).length+1) cap)).trans ((World.cell?_alloc_past (w:=wx.drew) _ w.heap.size 1 (by show w.heap.size<wx.heap.size;omega)).trans HQX.out)
    rw [HS.out,<-secs_take ps k hlt] at hpush
    have HP:=hid hpush
    have HF:=hid hfar
    clear hpush hfar
    go_wp2
    go_roundw
    case rel=>exact ⟨k+1,_,by omega,by go_num,HP.out,HF.out⟩
    case measure=>simp [intOf];omega
  ·have hkn:Hid (ps.take k=ps):=List.take_of_length_le (by omega)
   rw [hkn.out] at hd
   have hlt0:w.heap.size<wr.heap.size:=by have:=hd.sz;omega
   go_wp2
   go_loopw [7,26] (fun _ i wr=>∃ (k:Nat) (v':Value),k<=hs.length/\i=.int .i64 k/\Dsk w wr (w.heap.size+1) (w.heap.size+1+1) (w.heap.size+1+1+1) 9 46 v v' (secs ps) (held (hs.take k))) (fun _ i _=>hs.length-(intOf i).toNat)
   case atStart=>exact ⟨0,_,Nat.zero_le _,rfl,hd⟩
   case round =>
    clear hd hq hlt0
    obtain ⟨k2,v',hk2,rfl,hd⟩:=hrel
    by_cases hlt2:k2<hs.length
    ·obtain ⟨b,o,n,x,rfl,hlb,hrg,HS⟩:=(h'.below hd.bel).at hlt2
     have hxl:x.length=64:=by
      have:=h64' (n,x) (by rw [HS.out];simp [List.getD,hlt2])
      exact this
     have hxm:(Value.int .i64 n::x.map (Value.int .u8)).length=65:=by simp [hxl]
     have hsl:(held (hs.take k2)).length=k2:=by simp [held];omega
     have HL:=hid hsl
     have HD:=hid hd
     clear hd hsl
     have HI65:Hid ((Try.prog.info? 63).map (·.size)=some (Value.int .i64 n::x.map (Value.int .u8)).length):=by rw [hxm];show _=_;kernel_rfl
     have HXM:=hid hxm.symm
     clear hxm
     have hzh:=zeroHeld
     go_wp2_with (first | (with_reducible refine at_load 63 _ rfl ?_;refine wpList_load_mid rfl 63 _ rfl b (o+k2*65) rfl (Value.int .i64 n::x.map (Value.int .u8)) _ hrg Try.underlying63 rfl HI65.out ?_) | (with_reducible refine at_store 63 _ _ rfl ?_;refine wpList_store_cells rfl 63 _ _ rfl (Value.int .i64 n::x.map (Value.int .u8)) (held_one n x) rfl rfl _ _ (by rw [<-HXM.out];kernel_rfl) HI65.out ?_;intro wx hrow hbx hsx))
     have HDX:=hid (HD.out.below hbx)
     have q0:=(HD.out.below hbx).d1
     have q1:=(HD.out.below hbx).fd1
     have hlx:w.heap.size+1+1<wx.heap.size:=by have:=HDX.out.sz;omega
     have hlr:wr.heap.size<wx.heap.size:=by omega
     have hbase:w.heap.size+1+1+1<=wx.heap.size:=HDX.out.sz
     have hc0:wx.cell? ⟨wr.heap.size,0,none⟩=some (.int .i64 n):=hrow.cell 0 _ rfl
     have hcv:=hrow.drew.text (P:=Try.prog) x 1 64 64 hxl (fun i hi=>by rw [show 1+i=i+1 by omega];simp [List.getD,show i<x.length by omega]) 22 5 9 Try.underlying22 Try.underlying5 Try.underlying9
     have HO:=hid (HDX.out.drew.own'.alloc (.cells #[.int .i64 n,.string (strOfNums x)] 46))
     have HDA:=hid (HDX.out.drew.alloc (.cells #[.int .i64 n,.string (strOfNums x)] 46))
     clear hrow hbx hsx HD hrg
     go_region_law (first | (refine step_append_lies _ (by rfl) _ _ _ (by rfl) (w.heap.size+1+1+1) 46 i1 (.agg #[.int .i64 0,.string ByteArray.empty]) 2 24 Try.underlying24 HI1.out.1 HI1.out.2.1 HI1.out.2.2.1 HI1.out.2.2.2 rfl (by omega) v' (held (hs.take k2)).length (wcells (held (hs.take k2))) (by rfl) HO.out ⟨wx.heap.size,0,none⟩ 1 1 [.int .i64 n,.string (strOfNums x)] (by rfl) rfl (World.news_of_block (heap_alloc_new wx.drew _)) (by intro u hu;simp at hu;rcases hu with rfl | rfl<;>rfl) (by omega) (by rw [HL.out];unfold maxLen;omega) (by rw [HL.out];omega) (by simp<;>omega) (wx.heap.size+1) (by simp) ?_;intro g cap w3 hown hgrow hat hlt3;obtain ⟨q4,q5⟩:=HDA.out.grown2 hgrow;have HOW:=hid hown;have HGR:=hid hgrow;have HAT:=hid hat;clear hown hgrow hat))
     all_goals
      have hpush:=HDA.out.push2 (x:=(n,strOfNums x)) HOW.out HGR.out HAT.out (by simp)
      rw [show (n,strOfNums x)=((hs.getD k2 (0,[])).1,strOfNums (hs.getD k2 (0,[])).2) by rw [<-HS.out],<-held_take hs k2 hlt2] at hpush
      have HP:=hid hpush
      clear hpush
      go_wp2
      go_roundw
      case rel=>exact ⟨k2+1,_,by omega,by go_num,HP.out⟩
      case measure=>simp [intOf];omega
    ·have hkn2:Hid (hs.take k2=hs):=List.take_of_length_le (by omega)
     rw [hkn2.out] at hd
     have HD:=hid hd
     have q0:=hd.d0
     have q1:=hd.d1
     have q2:=hd.r0
     have q3:=hd.r1
     have q4:=hd.fr0
     have q5:=hd.fr1
     have o1:=hd.own
     have o2:=hd.own'
     obtain ⟨av,nv,cv,rfl⟩:∃ a n c,v=.slice a n c:=by rcases owns_forms hd.own with ⟨e,_⟩ | ⟨g,c,e,_⟩<;>exact ⟨_,_,_,e⟩
     obtain ⟨av',nv',cv',rfl⟩:∃ a n c,v'=.slice a n c:=by rcases owns_forms hd.own' with ⟨e,_⟩ | ⟨g,c,e,_⟩<;>exact ⟨_,_,_,e⟩
     clear hd o1 o2
     go_wp2
     have hsl:(secs ps).length=ps.length:=by simp [secs]
     have hsl':(held hs).length=hs.length:=by simp [held]
     have own1:=ownsRow_setCell_below (ownsRow_setCell_below HD.out.own (a:=⟨w.heap.size+1,0,none⟩) (by show w.heap.size+1<_;omega) (.slice av nv cv)) (a:=⟨w.heap.size+1,1,none⟩) (by show w.heap.size+1<_;omega) (.slice av' nv' cv')
     have own2:=ownsRow_setCell_below (ownsRow_setCell_below HD.out.own' (a:=⟨w.heap.size+1,0,none⟩) (by show w.heap.size+1<_;omega) (.slice av nv cv)) (a:=⟨w.heap.size+1,1,none⟩) (by show w.heap.size+1<_;omega) (.slice av' nv' cv')
     rw [hsl] at own1
     rw [hsl'] at own2
     refine bodyPost_ret (v:=.agg #[.slice av nv cv,.slice av' nv' cv']) (by simp [results,Try.results19,go_sem,q2,q3]) rfl ⟨_,_,rfl,own1.mono (by omega),own2.mono (by omega),HD.out.apart,?_⟩
     exact (HD.out.bel.setCell (by show w.heap.size<=w.heap.size+1;omega) _).setCell (by show w.heap.size<=w.heap.size+1;omega) _
end Go.Proofs.Ythdilmkbnpmdaaa
