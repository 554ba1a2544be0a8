import Derived.WalkKit
import Derived.WalkSpells
import Derived.WalkLawsBesides
import Derived.Outline
import Derived.Deep.RegionLaw
import Derived.Test.YtnmaknnnmjfhkagGreatDoorPrG34
import Derived.Test.YtnmaknnnmjfhkagGreatDoorProg
import Derived.Test.YtnmaknnnmjfhkagGreatDoorPrG35
import Derived.Deep.MidRow
import Derived.Lib.LazyBuf
set_option maxHeartbeats 16000000
set_option maxRecDepth 8000
set_option linter.unusedVariables false
set_option linter.unusedSimpArgs false
namespace Go.Proofs.YtnmaknnnmjfhkagGreatDoor
open Go.RowKit
theorem step_call {P:Program} {ops:Array Oper} {o:Oper} {a:Act} {w:World} {K:Act->World->Prop} {Q:Exit->Act->World->Prop} {E:Prop} (hgd:o.guard=none) (f:FuncId) (args:Array Value)
  (hrun:(execOp a.eval o).run P w=.ok (.enter f args) w) {C:Ending->World->Prop} (hc:Calls P f args w C) (h:∀ e w',C e w'->∃ v,e=.returned v/\K (a.put o.dst v) w') :
  if Region.wanted o (yielded ops a.tmps)=true then Oper.wp P o a w K Q else E:=by
 have hw:Region.wanted o (yielded ops a.tmps)=true:=by simp [Region.wanted,hgd]
 rw [if_pos hw]
 unfold Oper.wp
 rw [hrun,Oper.upon_enter]
 refine hc.mono fun e w'' hh=>?_
 obtain ⟨v,rfl,hk⟩:=h e w'' hh
 exact hk
theorem edit_i0 (k v:ByteArray) (w:World):Calls Tryz.prog 186 #[.agg #[.string k,.string v,.bool false]] w fun e w'=>e=.returned (.iface 298 (.agg #[.string k,.string v]))/\Below w.heap.size w w':=by
 go_enter Tryz.func186,Tryz.ntmps186
 go_wp2
 go_ret
 exact ⟨rfl,(Below.refl _ _).alloc (Nat.le_refl _) _⟩
theorem edit_i1 (k v:ByteArray) (w:World):Calls Tryz.prog 186 #[.agg #[.string k,.string v,.bool true]] w fun e w'=>e=.returned (.iface 296 (.agg #[.string k]))/\Below w.heap.size w w':=by
 go_enter Tryz.func186,Tryz.ntmps186
 go_wp2
 go_ret
 exact ⟨rfl,(Below.refl _ _).alloc (Nat.le_refl _) _⟩
def storeV (W S L T H F R U O:Int) (a:Option Addr) (n c:Nat):Value:=.agg #[.int .i64 W,.int .i64 S,.int .i64 L,.int .i64 T,.int .i64 H,.int .i64 F,.int .i64 R,.int .i64 U,.int .i64 O,.slice a n c]
end Go.Proofs.YtnmaknnnmjfhkagGreatDoor
namespace Go.Proofs.YtnmaknnnmjfhkagGreatDoor
open Go.RowKit
def spl (xs:List Int) (o:Nat) (ys:List Int):List Int:=xs.take o++ys++xs.drop (o+ys.length)
theorem spl_length (xs:List Int) (o:Nat) (ys:List Int) (h:o+ys.length<=xs.length):(spl xs o ys).length=xs.length:=by
 simp [spl];omega
theorem spl_in (xs:List Int) (o:Nat) (ys:List Int) (h:o+ys.length<=xs.length) (i:Nat) (hi:i<ys.length):(spl xs o ys).getD (o+i) 0=ys.getD i 0:=by
 have ho:(xs.take o).length=o:=by simp;omega
 unfold spl
 rw [List.getD_eq_getElem?_getD,List.append_assoc,List.getElem?_append_right (by omega),ho,show o+i-o=i by omega,List.getElem?_append_left hi,List.getD_eq_getElem?_getD]
theorem spl_out (xs:List Int) (o:Nat) (ys:List Int) (h:o+ys.length<=xs.length) (i:Nat) (hi:i<o\/o+ys.length<=i):(spl xs o ys).getD i 0=xs.getD i 0:=by
 have ho:(xs.take o).length=o:=by simp;omega
 unfold spl
 rcases hi with hi | hi
 ·rw [List.getD_eq_getElem?_getD,List.append_assoc,List.getElem?_append_left (by omega),List.getElem?_take_of_lt hi,List.getD_eq_getElem?_getD]
 ·rw [List.getD_eq_getElem?_getD,List.getElem?_append_right (by simp;omega),List.length_append,ho,List.getElem?_drop,show o+ys.length+(i-(o+ys.length))=i by omega,List.getD_eq_getElem?_getD]
structure Fm (w:World) (F:Nat) (xs:List Int):Prop where
 cell:∀ i,i<xs.length->w.cell? ⟨F,i,none⟩=some (.int .u8 (xs.getD i 0))
 froz:∀ i,i<xs.length->w.frozen? ⟨F,i,none⟩=false
theorem Fm.drew {w:World} {F:Nat} {xs:List Int} (h:Fm w F xs):Fm w.drew F xs:=⟨h.cell,h.froz⟩
theorem Fm.wrote {w w':World} {F o:Nat} {xs ys:List Int} (h:Fm w F xs) (hw:Wrote w w' F o ys) (hl:o+ys.length<=xs.length):Fm w' F (spl xs o ys):=by
 have hsl:=spl_length xs o ys hl
 refine ⟨fun i hi=>?_,fun i hi=>(hw.frozen _).trans (h.froz i (by omega))⟩
 by_cases hin:o<=i/\i<o+ys.length
 ·have:=hw.inside (i-o) (by omega)
  rw [show o+(i-o)=i by omega] at this
  rw [this]
  have e:=spl_in xs o ys hl (i-o) (by omega)
  rw [show o+(i-o)=i by omega] at e
  rw [e]
 ·rw [hw.outside i (by omega),h.cell i (by omega),spl_out xs o ys hl i (by omega)]
theorem Fm.below {w w':World} {F:Nat} {xs:List Int} (h:Fm w F xs) (hb:Below w.heap.size w w') (hF:F<w.heap.size):Fm w' F xs :=
 ⟨fun i hi=>(hb.cell (p:=⟨F,i,none⟩) hF).trans (h.cell i hi),fun i hi=>(hb.frozen (p:=⟨F,i,none⟩) hF).trans (h.froz i hi)⟩
theorem setCells_size (b:Nat):∀ (vs:List Value) (o:Nat) (w:World),(w.setCells b o vs).heap.size=w.heap.size
 | [],_,_=>rfl
 | v::r,o,w=>by rw [World.setCells,setCells_size b r];simp [World.setCell]
theorem setCells_other (b:Nat):∀ (vs:List Value) (o:Nat) (w:World) (k:Nat),k≠b->(w.setCells b o vs).heap[k]?=w.heap[k]?
 | [],_,_,_,_=>rfl
 | v::r,o,w,k,h=>by rw [World.setCells,setCells_other b r _ _ _ h,Below.heap_setCell _ _ _ _ h]
theorem setCells_os (b:Nat):∀ (vs:List Value) (o:Nat) (w:World),(w.setCells b o vs).os=w.os/\(w.setCells b o vs).tape=w.tape/\(w.setCells b o vs).output=w.output
 | [],_,_=>⟨rfl,rfl,rfl⟩
 | v::r,o,w=>by rw [World.setCells];exact setCells_os b r (o+1) _
theorem wrote_setCells (w:World) (b o:Nat) (t:ByteArray) (hc:∀ j,j<t.size->(w.cell? ⟨b,o+j,none⟩).isSome=true) :
  Wrote w (w.setCells b o (t.data.toList.map fun x=>Value.int .u8 (x.toNat:Int))) b o (nums t):=by
 have hl:(t.data.toList.map fun x=>Value.int .u8 (x.toNat:Int)).length=t.size:=by simp
 obtain ⟨h1,h2,h3⟩:=setCells_os b (t.data.toList.map fun x=>Value.int .u8 (x.toNat:Int)) o w
 refine ⟨h1,h2,h3,setCells_size _ _ _ _,fun k hk=>setCells_other _ _ _ _ _ hk,fun i hi=>?_,fun x hx=>?_,fun a=>World.frozen?_setCells _ _ _ _ _⟩
 ·rw [nums_length] at hi
  rw [World.cell?_setCells_in b _ o w (by rw [hl];exact hc) i (by rw [hl];exact hi)]
  have hd:i<t.data.toList.length:=by simpa using hi
  simp [nums,List.getD,List.getElem?_eq_getElem hd]
 ·rw [nums_length] at hx
  exact World.cell?_setCells_out b _ o w ⟨b,x,none⟩ (fun _ _=>by rw [hl];simpa using hx)
theorem Fm.text {P:Program} {w:World} {F:Nat} {xs:List Int} (h:Fm w F xs) (src e dst:TypeId) (hs:P.underlying src=some (.slice e)) (he:P.underlying e=some (.int .u8)) (hd:P.underlying dst=some .string) (o n cap:Nat) (hl:o+n<=xs.length) :
  (convert src dst (.slice (some ⟨F,o,none⟩) n cap)).run P w=.ok (.string (strOfNums ((xs.drop o).take n))) w :=
 run_convert_bytes_arg (P:=P) w src e hs he F o n cap ((xs.drop o).take n) (by simp;omega) (fun i hi=>by
  rw [h.cell (o+i) (by omega)]
  simp [List.getD,List.getElem?_take_of_lt hi,List.getElem?_drop]) dst hd
theorem Fm.step {w w':World} {F o:Nat} {xs ys:List Int} (h:Fm w F xs) (hx:xs.length=64) (hw:Wrote w w' F o ys) (hl:o+ys.length<=64) :
  ∃ xs',Hid (xs'=spl xs o ys)/\xs'.length=64/\Fm w' F xs' :=
 ⟨spl xs o ys,(rfl:spl xs o ys=spl xs o ys),by rw [spl_length _ _ _ (by omega),hx],h.wrote hw (by omega)⟩
theorem Fm.range {w:World} {F:Nat} {xs:List Int} (h:Fm w F xs):w.rangeAt F 0 (xs.map (Value.int .u8)):=fun j v hv=>by
 obtain ⟨hj,e⟩:=List.getElem?_eq_some_iff.1 hv
 simp at hj
 rw [Nat.zero_add,h.cell j hj]
 simp at e
 subst e
 simp [List.getD,List.getElem?_eq_getElem hj]
structure PI (W w:World) (c0 c1 c2 c3:Value):Prop where
 size:W.heap.size+3<=w.heap.size
 bel:Below W.heap.size W w
 b0:w.cell? ⟨W.heap.size,0,none⟩=some c0
 b1:w.cell? ⟨W.heap.size,1,none⟩=some c1
 b2:w.cell? ⟨W.heap.size,2,none⟩=some c2
 b3:w.cell? ⟨W.heap.size,3,none⟩=some c3
 there:w.there (W.heap.size+1) 0 64
section
variable {W w w':World} {c0 c1 c2 c3:Value}
theorem PI.drew (h:PI W w c0 c1 c2 c3):PI W w.drew c0 c1 c2 c3:=⟨h.size,h.bel.drew,h.b0,h.b1,h.b2,h.b3,h.there⟩
theorem PI.below (h:PI W w c0 c1 c2 c3) (hb:Below w.heap.size w w'):PI W w' c0 c1 c2 c3 :=
 have hs:=h.size
 ⟨Nat.le_trans hs hb.size,h.bel.trans (hb.mono (by omega)),(hb.cell (p:=⟨_,0,none⟩) (by show W.heap.size<_;omega)).trans h.b0,(hb.cell (p:=⟨_,1,none⟩) (by show W.heap.size<_;omega)).trans h.b1,
  (hb.cell (p:=⟨_,2,none⟩) (by show W.heap.size<_;omega)).trans h.b2,(hb.cell (p:=⟨_,3,none⟩) (by show W.heap.size<_;omega)).trans h.b3,
  fun j hj=>by rw [hb.cell (p:=⟨_,_,none⟩) (by show W.heap.size+1<_;omega),hb.frozen (p:=⟨_,_,none⟩) (by show W.heap.size+1<_;omega)];exact h.there j hj⟩
theorem PI.wrote {o:Nat} {ys:List Int} (h:PI W w c0 c1 c2 c3) (hw:Wrote w w' (W.heap.size+1+1) o ys):PI W w' c0 c1 c2 c3 :=
 have hs:=h.size
 have hb:Below (W.heap.size+1+1) w w':=hw.below (Nat.le_refl _)
 ⟨Nat.le_trans hs hb.size,h.bel.trans (hb.mono (by omega)),(hb.cell (p:=⟨_,0,none⟩) (by show W.heap.size<_;omega)).trans h.b0,(hb.cell (p:=⟨_,1,none⟩) (by show W.heap.size<_;omega)).trans h.b1,
  (hb.cell (p:=⟨_,2,none⟩) (by show W.heap.size<_;omega)).trans h.b2,(hb.cell (p:=⟨_,3,none⟩) (by show W.heap.size<_;omega)).trans h.b3,
  fun j hj=>by rw [hb.cell (p:=⟨_,_,none⟩) (by show W.heap.size+1<_;omega),hb.frozen (p:=⟨_,_,none⟩) (by show W.heap.size+1<_;omega)];exact h.there j hj⟩
theorem PI.toS (h:PI W w c0 c1 c2 c3):w.cell? ⟨W.heap.size,0,none⟩=some c0/\w.cell? ⟨W.heap.size,1,none⟩=some c1/\w.cell? ⟨W.heap.size,2,none⟩=some c2/\w.cell? ⟨W.heap.size,3,none⟩=some c3/\PI W w c0 c1 c2 c3:=⟨h.b0,h.b1,h.b2,h.b3,h⟩
theorem PI.ofS (h:w.cell? ⟨W.heap.size,0,none⟩=some c0/\w.cell? ⟨W.heap.size,1,none⟩=some c1/\w.cell? ⟨W.heap.size,2,none⟩=some c2/\w.cell? ⟨W.heap.size,3,none⟩=some c3/\PI W w c0 c1 c2 c3):PI W w c0 c1 c2 c3:=h.2.2.2.2
end
theorem frozen_past (w:World) (b o:Nat) (h:w.heap.size<=b):w.frozen? ⟨b,o,none⟩=false:=by
 have e:w.heap[b]?=none:=by simp [h]
 simp [World.frozen?,e]
theorem wp_start {P:Program} {c:Code} {Q:Exit->Act->World->Prop} {a:Act} (w:World) (c0 c1 c2 c3:Value) (t1 t2 t3:TypeId) (A B:Array Value) (hA:A=Array.replicate 64 (.int .u8 0)) (hB:B=Array.replicate 64 (.int .u8 0))
  (h:∀ wa,PI w wa c0 c1 c2 c3->Fm wa (w.heap.size+1+1) (List.replicate 64 0)->c.wp P Q a wa) :
  c.wp P Q a (((w.alloc (.cells #[c0,c1,c2,c3] t1)).alloc (.cells A t2)).alloc (.cells B t3)):=by
 subst hA hB
 have box:∀ (i:Nat) {v:Value},#[c0,c1,c2,c3][i]?=some v->(((w.alloc (.cells #[c0,c1,c2,c3] t1)).alloc (.cells (Array.replicate 64 (.int .u8 0)) t2)).alloc (.cells (Array.replicate 64 (.int .u8 0)) t3)).cell? ⟨w.heap.size,i,none⟩=some v:=fun i v hv=>by
  rw [World.cell?_alloc_past _ _ _ (by simp;omega),World.cell?_alloc_past _ _ _ (by simp),World.cell?_alloc_at _ _ _ _ rfl];exact hv
 refine h _ ⟨by simp,(((Below.refl _ _).alloc (Nat.le_refl _) _).alloc (by simp) _).alloc (by simp;omega) _,box _ rfl,box _ rfl,box _ rfl,box _ rfl,fun j hj=>?_⟩ ⟨fun i hi=>?_,fun i hi=>?_⟩
 ·rw [Nat.zero_add,World.cell?_alloc_past _ _ _ (by simp),World.cell?_alloc_at _ _ _ _ (by simp),frozen?_alloc_cells,frozen?_alloc_cells,frozen?_alloc_cells]
  simp [hj,frozen_past]
 ·rw [World.cell?_alloc_at _ _ _ _ (by simp)]
  have hi':i<64:=by simpa only [List.length_replicate] using hi
  rw [Array.getElem?_replicate,if_pos hi',List.getD_eq_getElem?_getD,List.getElem?_replicate,if_pos hi']
  rfl
 ·rw [frozen?_alloc_cells,frozen?_alloc_cells,frozen?_alloc_cells]
  exact frozen_past _ _ _ (by omega)
theorem results_cell1 {P:Program} {fn:Func} {p:Tmp} {ty:TypeId} (h:fn.results=#[.cell p ty]) (tmps:Array Value) (w:World) (b o:Nat) (hp:tmps.getD p undef=.pointer (some ⟨b,o,none⟩))
  (cs:List Value) (d:TypeDesc) (hc:w.rangeAt b o cs) (hu:P.underlying ty=some d) (hd:d.isRow=true) (hi:(P.info? ty).map (·.size)=some cs.length):(results fn tmps).run P w=.ok (.agg cs.toArray) w:=by
 have hl:=run_loadVar_mid (P:=P) w b o ty cs d hc hu hd hi
 simp only [results,h]
 rw [Array.getD_eq_getD_getElem?] at hp
 simp [hp,asAddr,hl]
theorem ints_one (xs:List Int):∀ v∈xs.map (Value.int .u8),v.oneCell'=true:=fun v hv=>by
 obtain ⟨x,_,rfl⟩:=List.mem_map.1 hv;rfl
theorem spl_drop (xs ys:List Int) (n:Nat) (hn:ys.length=n):(spl xs 0 ys).drop n=xs.drop n:=by
 unfold spl
 rw [List.take_zero,List.nil_append,Nat.zero_add,<-hn,List.drop_left]
theorem Fm.isSome {w:World} {F:Nat} {xs:List Int} (h:Fm w F xs) (o m:Nat) (hl:o+m<=xs.length):∀ j,j<m->(w.cell? ⟨F,o+j,none⟩).isSome=true:=fun j hj=>by
 rw [h.cell (o+j) (by omega)];rfl
theorem Fm.frozen {w:World} {F:Nat} {xs:List Int} (h:Fm w F xs) (o m:Nat) (hl:o+m<=xs.length):∀ j,j<m->w.frozen? ⟨F,o+j,none⟩=false:=fun j hj=>h.froz (o+j) (by omega)
theorem Fm.copied {w:World} {F:Nat} {xs:List Int} (h:Fm w F xs) (o:Nat) (t:ByteArray) (hl:o+t.size<=xs.length):Wrote w (w.setCells F o (t.data.toList.map fun x=>Value.int .u8 (x.toNat:Int))) F o (nums t) :=
 wrote_setCells w F o t (h.isSome o t.size hl)
theorem spl_end (A ys:List Int) (j o:Nat) (ho:A.length=o):spl (A++List.replicate j 0) o ys=A++ys++List.replicate (j-ys.length) 0:=by
 unfold spl
 rw [List.take_append_of_le_length (by omega),List.take_of_length_le (by omega),<-ho,List.drop_length_add_append,List.drop_replicate]
theorem fill_list (k l m:Int) (p:ByteArray) (n:Nat) (h:n<=64) {xs0 xs1 xs2 xs3 xs4 xs5:List Int} (h0:xs0=List.replicate 64 0) (h1:xs1=spl xs0 n (be 1 k)) (h2:xs2=spl xs1 (n+1) (be 2 l)) (h3:xs3=spl xs2 (n+3) (be 4 m))
  (h4:xs4=spl xs3 (n+7) (be 1 (p.size:Int))) (h5:xs5=spl xs4 (n+8) (nums p)):xs5=List.replicate n 0++pageBody k l m p n:=by
 have e0:xs0=List.replicate n 0++List.replicate (64-n) 0:=by rw [h0,List.replicate_append_replicate];congr 1;omega
 rw [e0,spl_end _ _ _ n (by simp)] at h1
 rw [h1,spl_end _ _ _ (n+1) (by simp [be_length])] at h2
 rw [h2,spl_end _ _ _ (n+3) (by simp [be_length])] at h3
 rw [h3,spl_end _ _ _ (n+7) (by simp [be_length])] at h4
 rw [h4] at h5
 rw [h5,spl_end _ _ _ (n+8) (by simp [be_length])]
 unfold pageBody pageHead
 simp only [List.append_assoc,be_length,nums_length]
 congr 7
 omega
theorem nums_append (a b:ByteArray):nums (a++b)=nums a++nums b:=by simp [nums]
theorem nums_strOfNums (xs:List Int) (h:∀ x∈xs,0<=x/\x<256):nums (strOfNums xs)=xs:=by
 unfold nums
 rw [strOfNums_data,List.map_map]
 conv=>rhs;rw [<-List.map_id xs]
 apply List.map_congr_left
 intro x hx
 have:=h x hx
 simp only [Function.comp,id]
 rw [UInt8.toNat_ofNat']
 omega
theorem be_bytes (n:Nat) (v:Int):∀ x∈be n v,0<=x/\x<256:=fun x hx=>by
 unfold be at hx
 obtain ⟨i,_,rfl⟩:=List.mem_map.1 hx
 omega
theorem nums_bytes (p:ByteArray):∀ x∈nums p,0<=x/\x<256:=fun x hx=>by
 unfold nums at hx
 obtain ⟨c,_,rfl⟩:=List.mem_map.1 hx
 have:=c.toNat_lt
 omega
theorem body_bytes (k l m:Int) (p:ByteArray) (n:Nat):∀ x∈pageBody k l m p n,0<=x/\x<256:=fun x hx=>by
 unfold pageBody pageHead at hx
 simp only [List.mem_append,List.mem_replicate] at hx
 rcases hx with ((((h | h) | h) | h) | h) | h
 ·exact be_bytes _ _ x h
 ·exact be_bytes _ _ x h
 ·exact be_bytes _ _ x h
 ·exact be_bytes _ _ x h
 ·exact nums_bytes _ x h
 ·omega
theorem form_list (k l m:Int) (p:ByteArray) (n:Nat) (h:p.size+n<=56) {xs5:List Int} {bt:ByteArray} {M:Nat} (hM:M=64-n) (h5:xs5=List.replicate n 0++pageBody k l m p n) (hb:bt=strOfNums ((xs5.drop n).take M)) :
  bt=strOfNums (pageBody k l m p n)/\spl xs5 0 (nums (sumN bt n))=nums (pageForm k l m p n):=by
 have hl:=pageBody_length k l m p n h
 have e1:bt=strOfNums (pageBody k l m p n):=by
  rw [hb,h5,List.drop_left' (by simp),List.take_of_length_le (by omega)]
 refine ⟨e1,?_⟩
 unfold spl pageForm
 rw [<-e1,nums_append,nums_length,sumN_size,h5,List.take_zero,List.nil_append,Nat.zero_add,List.drop_left' (by simp)]
 congr 1
 rw [e1,nums_strOfNums _ (body_bytes k l m p n)]
theorem there_new (w:World) (A:Array Value) (t:TypeId) (n:Nat) (v:Value) (hA:A=Array.replicate n v):(w.alloc (.cells A t)).there w.heap.size 0 n:=fun j hj=>by
 subst hA
 rw [Nat.zero_add,World.cell?_alloc_at _ _ _ _ rfl,frozen?_alloc_cells]
 exact ⟨by simp [hj],frozen_past _ _ _ (Nat.le_refl _)⟩
theorem wpList_store_new {P:Program} {ops:Array Oper} {rest:List Oper} {op:Oper} {a:Act} {w:World} {Q:Exit->Act->World->Prop} (hgd:op.guard=none) (ty:TypeId) (x y:Operand) (ho:op.op=.store ty x y)
  (xs:List Int) (hx:a.eval x=.pointer (some ⟨w.heap.size,0,none⟩)) (hy:a.eval y=.agg (xs.map (Value.int .u8)).toArray) (A:Array Value) (t:TypeId) (v:Value) (hA:A=Array.replicate xs.length v)
  (hi:(P.info? ty).map (·.size)=some xs.length)
  (h:∀ wx,Fm wx w.heap.size xs->Below w.heap.size w wx->wx.heap.size=w.heap.size+1->wpList P ops Q rest (a.put op.dst undef) wx):wpList P ops Q (op::rest) a (w.alloc (.cells A t)):=by
 have hth:=there_new w A t xs.length v hA
 have hz:(xs.map (Value.int .u8)).toArray.size=xs.length:=by simp
 refine wpList_store_mid hgd ty x y ho w.heap.size 0 _ hx hy (by rw [hz];exact hth) (by rw [hz];exact hi) (all_oneCell_toArray (ints_one xs)) ?_
 have hr:=World.rangeAt_setCells_same (w.alloc (.cells A t)) w.heap.size 0 (xs.map (Value.int .u8)) (by rw [List.length_map];exact hth)
 refine h _ ⟨fun i hi=>?_,fun i hi=>?_⟩ (Go.below_setCells (Nat.le_refl _) _ _ _ ((Below.refl _ _).alloc (Nat.le_refl _) _)) (by rw [setCells_size];simp)
 ·have:=hr i (.int .u8 (xs.getD i 0)) (by simp [List.getD,List.getElem?_eq_getElem hi])
  simpa using this
 ·rw [World.frozen?_setCells,frozen?_alloc_cells];exact frozen_past _ _ _ (Nat.le_refl _)
end Go.Proofs.YtnmaknnnmjfhkagGreatDoor
