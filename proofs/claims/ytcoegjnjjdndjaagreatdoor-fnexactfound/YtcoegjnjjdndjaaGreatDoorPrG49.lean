import Derived.WalkKit
import Derived.WalkSpells
import Derived.WalkLawsBesides
import Derived.Outline
import Derived.Deep.RegionLaw
import Derived.Test.YtcoegjnjjdndjaaGreatDoorPrG44
import Derived.Test.YtcoegjnjjdndjaaGreatDoorProg
import Derived.Test.YtcoegjnjjdndjaaGreatDoorPrG32
import Derived.Deep.MidRow
import Derived.Lib.LazyBuf
import Derived.BigQuiet
import Derived.Deep.QuietTactic
import Derived.Deep.RegionHeld3
set_option maxHeartbeats 16000000
set_option maxRecDepth 8000
set_option linter.unusedVariables false
set_option linter.unusedSimpArgs false
namespace Go.Proofs.YtcoegjnjjdndjaaGreatDoor
open Go.RowKit
theorem step_call {P:Program} {ops:Array Oper} {o:Oper} {a:Act} {w:World} {K:Act->World->Prop} {Q:Exit->Act->World->Prop} {E:Prop} (hgd:o.guard=none) (f:FuncId) (args:Array Value)
  (hrun:(execOp a.eval o).run P w=.ok (.enter f args) w) {C:Ending->World->Prop} (hc:Calls P f args w C) (h:∀ e w',C e w'->∃ v,e=.returned v/\K (a.put o.dst v) w') :
  if Region.wanted o (yielded ops a.tmps)=true then Oper.wp P o a w K Q else E:=by
 have hw:Region.wanted o (yielded ops a.tmps)=true:=by simp [Region.wanted,hgd]
 rw [if_pos hw]
 unfold Oper.wp
 rw [hrun,Oper.upon_enter]
 refine hc.mono fun e w'' hh=>?_
 obtain ⟨v,rfl,hk⟩:=h e w'' hh
 exact hk
theorem edit_i0 (k v:ByteArray) (w:World):Calls Tryz.prog 157 #[.agg #[.string k,.string v,.bool false]] w fun e w'=>e=.returned (.iface 236 (.agg #[.string k,.string v]))/\Below w.heap.size w w':=by
 go_enter Tryz.func157,Tryz.ntmps157
 go_wp2
 go_ret
 exact ⟨rfl,(Below.refl _ _).alloc (Nat.le_refl _) _⟩
theorem edit_i1 (k v:ByteArray) (w:World):Calls Tryz.prog 157 #[.agg #[.string k,.string v,.bool true]] w fun e w'=>e=.returned (.iface 234 (.agg #[.string k]))/\Below w.heap.size w w':=by
 go_enter Tryz.func157,Tryz.ntmps157
 go_wp2
 go_ret
 exact ⟨rfl,(Below.refl _ _).alloc (Nat.le_refl _) _⟩
def hv (n:Int):Int:=if 8<=n/\n<=200 then (n-2) / 2 else 0
theorem isize_i (n:Int) (w:World):Calls Tryz.prog 97 #[.int .i64 n] w fun e w'=>e=.returned (.bool (decide (8<=n/\n<=200)))/\w'=w:=by
 go_enter Tryz.func97,Tryz.ntmps97
 by_cases h1:8<=n<;>by_cases h2:n<=200<;>(go_wp2;go_ret;simp [h1,h2])
theorem halves_i (n:Int) (w:World):Calls Tryz.prog 65 #[.int .i64 n] w fun e w'=>e=.returned (.int .i64 (hv n))/\w'=w:=by
 by_cases h:8<=n/\n<=200
 ·have hd:decide (8<=n/\n<=200)=true:=by simp [h]
  have hh:hv n=(n-2) / 2:=by unfold hv;rw [if_pos h]
  obtain ⟨h1,h2⟩:=h
  go_enter Tryz.func65,Tryz.ntmps65
  go_wp2_with (go_at_call 97;refine (isize_i _ _).mono ?_;rw [hd];rintro e w2 ⟨rfl,rfl⟩)
  go_ret
  refine ⟨?_,rfl⟩
  rw [hh]
  rfl
 ·have hd:decide (8<=n/\n<=200)=false:=by simpa using h
  have hh:hv n=0:=by unfold hv;rw [if_neg h]
  rw [hh]
  go_enter Tryz.func65,Tryz.ntmps65
  go_wp2_with (go_at_call 97;refine (isize_i _ _).mono ?_;rw [hd];rintro e w2 ⟨rfl,rfl⟩)
  go_ret
  exact ⟨rfl,rfl⟩
theorem halves_s (n:Int) (w:World):Calls Tryz.prog 45 #[.int .i64 n] w fun e w'=>e=.returned (.int .i64 (hv n))/\w'=w:=by
 by_cases h1:8<=n
 ·by_cases h2:n<=200
  ·have hh:hv n=(n-2) / 2:=by unfold hv;rw [if_pos ⟨h1,h2⟩]
   go_enter Tryz.func45,Tryz.ntmps45
   go_wp2
   go_ret
   refine ⟨?_,rfl⟩
   rw [hh]
   rfl
  ·have hh:hv n=0:=by unfold hv;rw [if_neg (fun x=>h2 x.2)]
   rw [hh]
   go_enter Tryz.func45,Tryz.ntmps45
   go_wp2
   go_ret
   exact ⟨rfl,rfl⟩
 ·have hh:hv n=0:=by unfold hv;rw [if_neg (fun x=>h1 x.1)]
  rw [hh]
  go_enter Tryz.func45,Tryz.ntmps45
  go_wp2
  go_ret
  exact ⟨rfl,rfl⟩
def storeV (W S L T H F R U O:Int) (a:Option Addr) (n c:Nat):Value:=.agg #[.int .i64 W,.int .i64 S,.int .i64 L,.int .i64 T,.int .i64 H,.int .i64 F,.int .i64 R,.int .i64 U,.int .i64 O,.slice a n c]
end Go.Proofs.YtcoegjnjjdndjaaGreatDoor
namespace Go.Proofs.YtcoegjnjjdndjaaGreatDoor
open Go.RowKit
def spl (xs:List Int) (o:Nat) (ys:List Int):List Int:=xs.take o++ys++xs.drop (o+ys.length)
theorem spl_length (xs:List Int) (o:Nat) (ys:List Int) (h:o+ys.length<=xs.length):(spl xs o ys).length=xs.length:=by
 simp [spl];omega
theorem spl_in (xs:List Int) (o:Nat) (ys:List Int) (h:o+ys.length<=xs.length) (i:Nat) (hi:i<ys.length):(spl xs o ys).getD (o+i) 0=ys.getD i 0:=by
 have ho:(xs.take o).length=o:=by simp;omega
 unfold spl
 rw [List.getD_eq_getElem?_getD,List.append_assoc,List.getElem?_append_right (by omega),ho,show o+i-o=i by omega,List.getElem?_append_left hi,List.getD_eq_getElem?_getD]
theorem spl_out (xs:List Int) (o:Nat) (ys:List Int) (h:o+ys.length<=xs.length) (i:Nat) (hi:i<o\/o+ys.length<=i):(spl xs o ys).getD i 0=xs.getD i 0:=by
 have ho:(xs.take o).length=o:=by simp;omega
 unfold spl
 rcases hi with hi | hi
 ·rw [List.getD_eq_getElem?_getD,List.append_assoc,List.getElem?_append_left (by omega),List.getElem?_take_of_lt hi,List.getD_eq_getElem?_getD]
 ·rw [List.getD_eq_getElem?_getD,List.getElem?_append_right (by simp;omega),List.length_append,ho,List.getElem?_drop,show o+ys.length+(i-(o+ys.length))=i by omega,List.getD_eq_getElem?_getD]
structure Fm (w:World) (F:Nat) (xs:List Int):Prop where
 cell:∀ i,i<xs.length->w.cell? ⟨F,i,none⟩=some (.int .u8 (xs.getD i 0))
 froz:∀ i,i<xs.length->w.frozen? ⟨F,i,none⟩=false
theorem Fm.drew {w:World} {F:Nat} {xs:List Int} (h:Fm w F xs):Fm w.drew F xs:=⟨h.cell,h.froz⟩
theorem Fm.wrote {w w':World} {F o:Nat} {xs ys:List Int} (h:Fm w F xs) (hw:Wrote w w' F o ys) (hl:o+ys.length<=xs.length):Fm w' F (spl xs o ys):=by
 have hsl:=spl_length xs o ys hl
 refine ⟨fun i hi=>?_,fun i hi=>(hw.frozen _).trans (h.froz i (by omega))⟩
 by_cases hin:o<=i/\i<o+ys.length
 ·have:=hw.inside (i-o) (by omega)
  rw [show o+(i-o)=i by omega] at this
  rw [this]
  have e:=spl_in xs o ys hl (i-o) (by omega)
  rw [show o+(i-o)=i by omega] at e
  rw [e]
 ·rw [hw.outside i (by omega),h.cell i (by omega),spl_out xs o ys hl i (by omega)]
theorem Fm.below {w w':World} {F:Nat} {xs:List Int} (h:Fm w F xs) (hb:Below w.heap.size w w') (hF:F<w.heap.size):Fm w' F xs :=
 ⟨fun i hi=>(hb.cell (p:=⟨F,i,none⟩) hF).trans (h.cell i hi),fun i hi=>(hb.frozen (p:=⟨F,i,none⟩) hF).trans (h.froz i hi)⟩
theorem setCells_size (b:Nat):∀ (vs:List Value) (o:Nat) (w:World),(w.setCells b o vs).heap.size=w.heap.size
 | [],_,_=>rfl
 | v::r,o,w=>by rw [World.setCells,setCells_size b r];simp [World.setCell]
theorem setCells_other (b:Nat):∀ (vs:List Value) (o:Nat) (w:World) (k:Nat),k≠b->(w.setCells b o vs).heap[k]?=w.heap[k]?
 | [],_,_,_,_=>rfl
 | v::r,o,w,k,h=>by rw [World.setCells,setCells_other b r _ _ _ h,Below.heap_setCell _ _ _ _ h]
theorem setCells_os (b:Nat):∀ (vs:List Value) (o:Nat) (w:World),(w.setCells b o vs).os=w.os/\(w.setCells b o vs).tape=w.tape/\(w.setCells b o vs).output=w.output
 | [],_,_=>⟨rfl,rfl,rfl⟩
 | v::r,o,w=>by rw [World.setCells];exact setCells_os b r (o+1) _
theorem wrote_setCells (w:World) (b o:Nat) (t:ByteArray) (hc:∀ j,j<t.size->(w.cell? ⟨b,o+j,none⟩).isSome=true) :
  Wrote w (w.setCells b o (t.data.toList.map fun x=>Value.int .u8 (x.toNat:Int))) b o (nums t):=by
 have hl:(t.data.toList.map fun x=>Value.int .u8 (x.toNat:Int)).length=t.size:=by simp
 obtain ⟨h1,h2,h3⟩:=setCells_os b (t.data.toList.map fun x=>Value.int .u8 (x.toNat:Int)) o w
 refine ⟨h1,h2,h3,setCells_size _ _ _ _,fun k hk=>setCells_other _ _ _ _ _ hk,fun i hi=>?_,fun x hx=>?_,fun a=>World.frozen?_setCells _ _ _ _ _⟩
 ·rw [nums_length] at hi
  rw [World.cell?_setCells_in b _ o w (by rw [hl];exact hc) i (by rw [hl];exact hi)]
  have hd:i<t.data.toList.length:=by simpa using hi
  simp [nums,List.getD,List.getElem?_eq_getElem hd]
 ·rw [nums_length] at hx
  exact World.cell?_setCells_out b _ o w ⟨b,x,none⟩ (fun _ _=>by rw [hl];simpa using hx)
theorem Fm.text {P:Program} {w:World} {F:Nat} {xs:List Int} (h:Fm w F xs) (src e dst:TypeId) (hs:P.underlying src=some (.slice e)) (he:P.underlying e=some (.int .u8)) (hd:P.underlying dst=some .string) (o n cap:Nat) (hl:o+n<=xs.length) :
  (convert src dst (.slice (some ⟨F,o,none⟩) n cap)).run P w=.ok (.string (strOfNums ((xs.drop o).take n))) w :=
 run_convert_bytes_arg (P:=P) w src e hs he F o n cap ((xs.drop o).take n) (by simp;omega) (fun i hi=>by
  rw [h.cell (o+i) (by omega)]
  simp [List.getD,List.getElem?_take_of_lt hi,List.getElem?_drop]) dst hd
theorem Fm.step {w w':World} {F o:Nat} {xs ys:List Int} (h:Fm w F xs) (hx:xs.length=64) (hw:Wrote w w' F o ys) (hl:o+ys.length<=64) :
  ∃ xs',Hid (xs'=spl xs o ys)/\xs'.length=64/\Fm w' F xs' :=
 ⟨spl xs o ys,(rfl:spl xs o ys=spl xs o ys),by rw [spl_length _ _ _ (by omega),hx],h.wrote hw (by omega)⟩
theorem Fm.range {w:World} {F:Nat} {xs:List Int} (h:Fm w F xs):w.rangeAt F 0 (xs.map (Value.int .u8)):=fun j v hv=>by
 obtain ⟨hj,e⟩:=List.getElem?_eq_some_iff.1 hv
 simp at hj
 rw [Nat.zero_add,h.cell j hj]
 simp at e
 subst e
 simp [List.getD,List.getElem?_eq_getElem hj]
structure PI (W w:World) (c0 c1 c2 c3:Value):Prop where
 size:W.heap.size+3<=w.heap.size
 bel:Below W.heap.size W w
 b0:w.cell? ⟨W.heap.size,0,none⟩=some c0
 b1:w.cell? ⟨W.heap.size,1,none⟩=some c1
 b2:w.cell? ⟨W.heap.size,2,none⟩=some c2
 b3:w.cell? ⟨W.heap.size,3,none⟩=some c3
 there:w.there (W.heap.size+1) 0 64
section
variable {W w w':World} {c0 c1 c2 c3:Value}
theorem PI.drew (h:PI W w c0 c1 c2 c3):PI W w.drew c0 c1 c2 c3:=⟨h.size,h.bel.drew,h.b0,h.b1,h.b2,h.b3,h.there⟩
theorem PI.below (h:PI W w c0 c1 c2 c3) (hb:Below w.heap.size w w'):PI W w' c0 c1 c2 c3 :=
 have hs:=h.size
 ⟨Nat.le_trans hs hb.size,h.bel.trans (hb.mono (by omega)),(hb.cell (p:=⟨_,0,none⟩) (by show W.heap.size<_;omega)).trans h.b0,(hb.cell (p:=⟨_,1,none⟩) (by show W.heap.size<_;omega)).trans h.b1,
  (hb.cell (p:=⟨_,2,none⟩) (by show W.heap.size<_;omega)).trans h.b2,(hb.cell (p:=⟨_,3,none⟩) (by show W.heap.size<_;omega)).trans h.b3,
  fun j hj=>by rw [hb.cell (p:=⟨_,_,none⟩) (by show W.heap.size+1<_;omega),hb.frozen (p:=⟨_,_,none⟩) (by show W.heap.size+1<_;omega)];exact h.there j hj⟩
theorem PI.wrote {o:Nat} {ys:List Int} (h:PI W w c0 c1 c2 c3) (hw:Wrote w w' (W.heap.size+1+1) o ys):PI W w' c0 c1 c2 c3 :=
 have hs:=h.size
 have hb:Below (W.heap.size+1+1) w w':=hw.below (Nat.le_refl _)
 ⟨Nat.le_trans hs hb.size,h.bel.trans (hb.mono (by omega)),(hb.cell (p:=⟨_,0,none⟩) (by show W.heap.size<_;omega)).trans h.b0,(hb.cell (p:=⟨_,1,none⟩) (by show W.heap.size<_;omega)).trans h.b1,
  (hb.cell (p:=⟨_,2,none⟩) (by show W.heap.size<_;omega)).trans h.b2,(hb.cell (p:=⟨_,3,none⟩) (by show W.heap.size<_;omega)).trans h.b3,
  fun j hj=>by rw [hb.cell (p:=⟨_,_,none⟩) (by show W.heap.size+1<_;omega),hb.frozen (p:=⟨_,_,none⟩) (by show W.heap.size+1<_;omega)];exact h.there j hj⟩
theorem PI.toS (h:PI W w c0 c1 c2 c3):w.cell? ⟨W.heap.size,0,none⟩=some c0/\w.cell? ⟨W.heap.size,1,none⟩=some c1/\w.cell? ⟨W.heap.size,2,none⟩=some c2/\w.cell? ⟨W.heap.size,3,none⟩=some c3/\PI W w c0 c1 c2 c3:=⟨h.b0,h.b1,h.b2,h.b3,h⟩
theorem PI.ofS (h:w.cell? ⟨W.heap.size,0,none⟩=some c0/\w.cell? ⟨W.heap.size,1,none⟩=some c1/\w.cell? ⟨W.heap.size,2,none⟩=some c2/\w.cell? ⟨W.heap.size,3,none⟩=some c3/\PI W w c0 c1 c2 c3):PI W w c0 c1 c2 c3:=h.2.2.2.2
end
theorem frozen_past (w:World) (b o:Nat) (h:w.heap.size<=b):w.frozen? ⟨b,o,none⟩=false:=by
 have e:w.heap[b]?=none:=by simp [h]
 simp [World.frozen?,e]
theorem wp_start {P:Program} {c:Code} {Q:Exit->Act->World->Prop} {a:Act} (w:World) (c0 c1 c2 c3:Value) (t1 t2 t3:TypeId) (A B:Array Value) (hA:A=Array.replicate 64 (.int .u8 0)) (hB:B=Array.replicate 64 (.int .u8 0))
  (h:∀ wa,PI w wa c0 c1 c2 c3->Fm wa (w.heap.size+1+1) (List.replicate 64 0)->c.wp P Q a wa) :
  c.wp P Q a (((w.alloc (.cells #[c0,c1,c2,c3] t1)).alloc (.cells A t2)).alloc (.cells B t3)):=by
 subst hA hB
 have box:∀ (i:Nat) {v:Value},#[c0,c1,c2,c3][i]?=some v->(((w.alloc (.cells #[c0,c1,c2,c3] t1)).alloc (.cells (Array.replicate 64 (.int .u8 0)) t2)).alloc (.cells (Array.replicate 64 (.int .u8 0)) t3)).cell? ⟨w.heap.size,i,none⟩=some v:=fun i v hv=>by
  rw [World.cell?_alloc_past _ _ _ (by simp;omega),World.cell?_alloc_past _ _ _ (by simp),World.cell?_alloc_at _ _ _ _ rfl];exact hv
 refine h _ ⟨by simp,(((Below.refl _ _).alloc (Nat.le_refl _) _).alloc (by simp) _).alloc (by simp;omega) _,box _ rfl,box _ rfl,box _ rfl,box _ rfl,fun j hj=>?_⟩ ⟨fun i hi=>?_,fun i hi=>?_⟩
 ·rw [Nat.zero_add,World.cell?_alloc_past _ _ _ (by simp),World.cell?_alloc_at _ _ _ _ (by simp),frozen?_alloc_cells,frozen?_alloc_cells,frozen?_alloc_cells]
  simp [hj,frozen_past]
 ·rw [World.cell?_alloc_at _ _ _ _ (by simp)]
  have hi':i<64:=by simpa only [List.length_replicate] using hi
  rw [Array.getElem?_replicate,if_pos hi',List.getD_eq_getElem?_getD,List.getElem?_replicate,if_pos hi']
  rfl
 ·rw [frozen?_alloc_cells,frozen?_alloc_cells,frozen?_alloc_cells]
  exact frozen_past _ _ _ (by omega)
theorem results_cell1 {P:Program} {fn:Func} {p:Tmp} {ty:TypeId} (h:fn.results=#[.cell p ty]) (tmps:Array Value) (w:World) (b o:Nat) (hp:tmps.getD p undef=.pointer (some ⟨b,o,none⟩))
  (cs:List Value) (d:TypeDesc) (hc:w.rangeAt b o cs) (hu:P.underlying ty=some d) (hd:d.isRow=true) (hi:(P.info? ty).map (·.size)=some cs.length):(results fn tmps).run P w=.ok (.agg cs.toArray) w:=by
 have hl:=run_loadVar_mid (P:=P) w b o ty cs d hc hu hd hi
 simp only [results,h]
 rw [Array.getD_eq_getD_getElem?] at hp
 simp [hp,asAddr,hl]
theorem ints_one (xs:List Int):∀ v∈xs.map (Value.int .u8),v.oneCell'=true:=fun v hv=>by
 obtain ⟨x,_,rfl⟩:=List.mem_map.1 hv;rfl
theorem spl_drop (xs ys:List Int) (n:Nat) (hn:ys.length=n):(spl xs 0 ys).drop n=xs.drop n:=by
 unfold spl
 rw [List.take_zero,List.nil_append,Nat.zero_add,<-hn,List.drop_left]
theorem Fm.isSome {w:World} {F:Nat} {xs:List Int} (h:Fm w F xs) (o m:Nat) (hl:o+m<=xs.length):∀ j,j<m->(w.cell? ⟨F,o+j,none⟩).isSome=true:=fun j hj=>by
 rw [h.cell (o+j) (by omega)];rfl
theorem Fm.frozen {w:World} {F:Nat} {xs:List Int} (h:Fm w F xs) (o m:Nat) (hl:o+m<=xs.length):∀ j,j<m->w.frozen? ⟨F,o+j,none⟩=false:=fun j hj=>h.froz (o+j) (by omega)
theorem Fm.copied {w:World} {F:Nat} {xs:List Int} (h:Fm w F xs) (o:Nat) (t:ByteArray) (hl:o+t.size<=xs.length):Wrote w (w.setCells F o (t.data.toList.map fun x=>Value.int .u8 (x.toNat:Int))) F o (nums t) :=
 wrote_setCells w F o t (h.isSome o t.size hl)
theorem spl_end (A ys:List Int) (j o:Nat) (ho:A.length=o):spl (A++List.replicate j 0) o ys=A++ys++List.replicate (j-ys.length) 0:=by
 unfold spl
 rw [List.take_append_of_le_length (by omega),List.take_of_length_le (by omega),<-ho,List.drop_length_add_append,List.drop_replicate]
theorem fill_list (k l m:Int) (p:ByteArray) (n:Nat) (h:n<=64) {xs0 xs1 xs2 xs3 xs4 xs5:List Int} (h0:xs0=List.replicate 64 0) (h1:xs1=spl xs0 n (be 1 k)) (h2:xs2=spl xs1 (n+1) (be 2 l)) (h3:xs3=spl xs2 (n+3) (be 4 m))
  (h4:xs4=spl xs3 (n+7) (be 1 (p.size:Int))) (h5:xs5=spl xs4 (n+8) (nums p)):xs5=List.replicate n 0++pageBody k l m p n:=by
 have e0:xs0=List.replicate n 0++List.replicate (64-n) 0:=by rw [h0,List.replicate_append_replicate];congr 1;omega
 rw [e0,spl_end _ _ _ n (by simp)] at h1
 rw [h1,spl_end _ _ _ (n+1) (by simp [be_length])] at h2
 rw [h2,spl_end _ _ _ (n+3) (by simp [be_length])] at h3
 rw [h3,spl_end _ _ _ (n+7) (by simp [be_length])] at h4
 rw [h4] at h5
 rw [h5,spl_end _ _ _ (n+8) (by simp [be_length])]
 unfold pageBody pageHead
 simp only [List.append_assoc,be_length,nums_length]
 congr 7
 omega
theorem nums_append (a b:ByteArray):nums (a++b)=nums a++nums b:=by simp [nums]
theorem nums_strOfNums (xs:List Int) (h:∀ x∈xs,0<=x/\x<256):nums (strOfNums xs)=xs:=by
 unfold nums
 rw [strOfNums_data,List.map_map]
 conv=>rhs;rw [<-List.map_id xs]
 apply List.map_congr_left
 intro x hx
 have:=h x hx
 simp only [Function.comp,id]
 rw [UInt8.toNat_ofNat']
 omega
theorem be_bytes (n:Nat) (v:Int):∀ x∈be n v,0<=x/\x<256:=fun x hx=>by
 unfold be at hx
 obtain ⟨i,_,rfl⟩:=List.mem_map.1 hx
 omega
theorem nums_bytes (p:ByteArray):∀ x∈nums p,0<=x/\x<256:=fun x hx=>by
 unfold nums at hx
 obtain ⟨c,_,rfl⟩:=List.mem_map.1 hx
 have:=c.toNat_lt
 omega
theorem body_bytes (k l m:Int) (p:ByteArray) (n:Nat):∀ x∈pageBody k l m p n,0<=x/\x<256:=fun x hx=>by
 unfold pageBody pageHead at hx
 simp only [List.mem_append,List.mem_replicate] at hx
 rcases hx with ((((h | h) | h) | h) | h) | h
 ·exact be_bytes _ _ x h
 ·exact be_bytes _ _ x h
 ·exact be_bytes _ _ x h
 ·exact be_bytes _ _ x h
 ·exact nums_bytes _ x h
 ·omega
theorem form_list (k l m:Int) (p:ByteArray) (n:Nat) (h:p.size+n<=56) {xs5:List Int} {bt:ByteArray} {M:Nat} (hM:M=64-n) (h5:xs5=List.replicate n 0++pageBody k l m p n) (hb:bt=strOfNums ((xs5.drop n).take M)) :
  bt=strOfNums (pageBody k l m p n)/\spl xs5 0 (nums (sumN bt n))=nums (pageForm k l m p n):=by
 have hl:=pageBody_length k l m p n h
 have e1:bt=strOfNums (pageBody k l m p n):=by
  rw [hb,h5,List.drop_left' (by simp),List.take_of_length_le (by omega)]
 refine ⟨e1,?_⟩
 unfold spl pageForm
 rw [<-e1,nums_append,nums_length,sumN_size,h5,List.take_zero,List.nil_append,Nat.zero_add,List.drop_left' (by simp)]
 congr 1
 rw [e1,nums_strOfNums _ (body_bytes k l m p n)]
theorem there_new (w:World) (A:Array Value) (t:TypeId) (n:Nat) (v:Value) (hA:A=Array.replicate n v):(w.alloc (.cells A t)).there w.heap.size 0 n:=fun j hj=>by
 subst hA
 rw [Nat.zero_add,World.cell?_alloc_at _ _ _ _ rfl,frozen?_alloc_cells]
 exact ⟨by simp [hj],frozen_past _ _ _ (Nat.le_refl _)⟩
theorem wpList_store_new {P:Program} {ops:Array Oper} {rest:List Oper} {op:Oper} {a:Act} {w:World} {Q:Exit->Act->World->Prop} (hgd:op.guard=none) (ty:TypeId) (x y:Operand) (ho:op.op=.store ty x y)
  (xs:List Int) (hx:a.eval x=.pointer (some ⟨w.heap.size,0,none⟩)) (hy:a.eval y=.agg (xs.map (Value.int .u8)).toArray) (A:Array Value) (t:TypeId) (v:Value) (hA:A=Array.replicate xs.length v)
  (hi:(P.info? ty).map (·.size)=some xs.length)
  (h:∀ wx,Fm wx w.heap.size xs->Below w.heap.size w wx->wx.heap.size=w.heap.size+1->wpList P ops Q rest (a.put op.dst undef) wx):wpList P ops Q (op::rest) a (w.alloc (.cells A t)):=by
 have hth:=there_new w A t xs.length v hA
 have hz:(xs.map (Value.int .u8)).toArray.size=xs.length:=by simp
 refine wpList_store_mid hgd ty x y ho w.heap.size 0 _ hx hy (by rw [hz];exact hth) (by rw [hz];exact hi) (all_oneCell_toArray (ints_one xs)) ?_
 have hr:=World.rangeAt_setCells_same (w.alloc (.cells A t)) w.heap.size 0 (xs.map (Value.int .u8)) (by rw [List.length_map];exact hth)
 refine h _ ⟨fun i hi=>?_,fun i hi=>?_⟩ (Go.below_setCells (Nat.le_refl _) _ _ _ ((Below.refl _ _).alloc (Nat.le_refl _) _)) (by rw [setCells_size];simp)
 ·have:=hr i (.int .u8 (xs.getD i 0)) (by simp [List.getD,List.getElem?_eq_getElem hi])
  simpa using this
 ·rw [World.frozen?_setCells,frozen?_alloc_cells];exact frozen_past _ _ _ (Nat.le_refl _)
end Go.Proofs.YtcoegjnjjdndjaaGreatDoor
namespace Go.Proofs.YtcoegjnjjdndjaaGreatDoor
open Go.RowKit
theorem info_pr:(Tryz.prog.info? 111).map (fun i=>(i.zero,i.size,i.bytes))=some (some (.agg #[.string ByteArray.empty,.string ByteArray.empty]),2,32):=by kernel_rfl
set_option maxHeartbeats 16000000 in
theorem sz_pr (s0:ByteArray) (s1:ByteArray) (left:Int) (w:World) (h0:0<=left) (h1:left<=1048576) (hs0:s0.size<=9223372036854775807) (hs1:s1.size<=9223372036854775807) :
  Calls Tryz.prog 123 #[.agg #[.string s0,.string s1],.int .i64 left] w fun e w'=>e=.returned (.int .i64 (szL [s0.size,s1.size] left))/\Below w.heap.size w w':=by
 by_cases c0:left-(s0.size:Int)<0
 ·have HE:szL [s0.size,s1.size] left=-1:=by simp [szL,c0]
  go_enter Tryz.func123,Tryz.ntmps123
  go_wp2
  go_ret
  exact ⟨ret_int (by first | rfl | exact HE.symm),(Below.refl _ _).alloc (Nat.le_refl _) _⟩
 ·by_cases c1:left-(s0.size:Int)-(s1.size:Int)<0
  ·have HE:szL [s0.size,s1.size] left=-1:=by simp [szL,c0,c1]
   go_enter Tryz.func123,Tryz.ntmps123
   go_wp2
   go_ret
   exact ⟨ret_int (by first | rfl | exact HE.symm),(Below.refl _ _).alloc (Nat.le_refl _) _⟩
  ·have HE:szL [s0.size,s1.size] left=left-(s0.size:Int)-(s1.size:Int):=by simp [szL,c0,c1]
   go_enter Tryz.func123,Tryz.ntmps123
   go_wp2
   go_ret
   exact ⟨ret_int (by first | rfl | exact HE.symm),(Below.refl _ _).alloc (Nat.le_refl _) _⟩
set_option maxHeartbeats 16000000 in
theorem sz_prs (a:Option Addr) (rs:List (ByteArray×ByteArray)) (c:Nat) (left:Int) (w:World) (h:Prs w a rs) (h0:0<=left) (h1:left<=1048576) (hl:rs.length<=maxLen) (hs:∀ s∈rs,s.1.size<=maxLen/\s.2.size<=maxLen) :
  Calls Tryz.prog 77 #[.slice a rs.length c,.int .i64 left] w fun e w'=>e=.returned (.int .i64 (szL (rs.length::rs.flatMap prsz) left))/\Below w.heap.size w w':=by
 unfold maxLen at hl
 by_cases hn:left-(rs.length:Int)<0
 ·have HR:=hid (szL_cons_lt (rs.flatMap prsz) hn)
  go_enter Tryz.func77,Tryz.ntmps77
  go_wp2
  go_ret
  exact ⟨ret_int HR.out.symm,Below.refl _ _⟩
 ·have HR:=hid (szL_cons_ge (rs.flatMap prsz) hn)
  obtain ⟨R,HE⟩:∃ R,Hid (R=szL (rs.length::rs.flatMap prsz) left):=⟨_,hid rfl⟩
  rw [<-HE.out]
  go_enter Tryz.func77,Tryz.ntmps77
  go_wp2
  go_loopw [1,5] (fun x i wr=>∃ (k:Nat) (y:Int),k<=rs.length/\i=.int .i64 k/\x=.int .i64 y/\0<=y/\y<=1048576/\Hid (szL ((rs.drop k).flatMap prsz) y=R)/\Below w.heap.size w wr) (fun _ i _=>rs.length-(intOf i).toNat)
  case atStart=>exact ⟨0,_,Nat.zero_le _,rfl,rfl,by omega,by omega,by show _=_;rw [HE.out,HR.out,List.drop_zero],Below.refl _ _⟩
  case round =>
   obtain ⟨k,y,hk,rfl,rfl,hy0,hy1,HZ,hbel⟩:=hrel
   by_cases hlt:k<rs.length
   ·obtain ⟨b,o,s0,s1,rfl,hc0,hc1,HS⟩:=(h.below hbel).at hlt
    obtain ⟨q0,q1⟩:s0.size<=9223372036854775807/\s1.size<=9223372036854775807:=by
     have:=hs (s0,s1) (by rw [HS.out];simp [List.getD,hlt])
     unfold maxLen at this;exact this
    obtain ⟨y',HY⟩:∃ y',Hid (y'=szL [s0.size,s1.size] y):=⟨_,hid rfl⟩
    have hbd:=szL_bd [s0.size,s1.size] y hy0
    rw [<-HY.out] at hbd
    have HD:Hid (szL ((rs.drop k).flatMap prsz) y=szL ([s0.size,s1.size]++(rs.drop (k+1)).flatMap prsz) y):=by
     show _=_
     rw [drop_at rs k (ByteArray.empty,ByteArray.empty) hlt,<-HS.out]
     rfl
    by_cases hy:y'<0
    ·have hy2:y'=-1:=by omega
     have HN:=hid (szL_append_no [s0.size,s1.size] ((rs.drop (k+1)).flatMap prsz) y hy0 (by rw [<-HY.out];exact hy))
     clear hbd
     subst hy2
     go_wp2_with (go_at_call 123;refine (sz_pr s0 s1 y _ hy0 hy1 q0 q1).mono ?_;rw [<-HY.out];rintro e w2 ⟨rfl,hb2⟩)
     go_ret
     refine ⟨ret_int ?_,hbel.trans (hb2.mono hbel.size)⟩
     rw [<-HZ.out,HD.out,HN.out]
    ·have hy2:0<=y':=by omega
     have hy3:y'<=1048576:=by omega
     have HN:=hid (szL_append_yes [s0.size,s1.size] ((rs.drop (k+1)).flatMap prsz) y hy0 (by rw [<-HY.out];exact hy2))
     clear hbd
     go_wp2_with (go_at_call 123;refine (sz_pr s0 s1 y _ hy0 hy1 q0 q1).mono ?_;rw [<-HY.out];rintro e w2 ⟨rfl,hb2⟩)
     go_roundw
     case rel=>exact ⟨k+1,_,by omega,by go_num,rfl,by omega,by omega,by show _=_;rw [<-HZ.out,HD.out,HN.out,<-HY.out],hbel.trans (hb2.mono hbel.size)⟩
     case measure=>simp [intOf];omega
   ·go_wp2
    go_ret
    refine ⟨ret_int ?_,hbel⟩
    rw [<-HZ.out,List.drop_of_length_le (by omega)]
    rfl
set_option maxHeartbeats 16000000 in
theorem to_pr (s0:ByteArray) (s1:ByteArray) (w:World) :
  Calls Tryz.prog 130 #[.agg #[.string s0,.string s1]] w fun e w'=>e=.returned (.agg #[.string s0,.string s1])/\Below w.heap.size w w':=by
 go_enter Tryz.func130,Tryz.ntmps130
 go_wp2
 exact bodyPost_ret (v:=.agg #[.string s0,.string s1]) (by simp [results,Tryz.results130,go_sem]) rfl ⟨rfl,(((Below.refl _ _).alloc (Nat.le_refl _) _).alloc (by simp) _).alloc (by simp;omega) _⟩
set_option maxHeartbeats 16000000 in
theorem to_prs (a:Option Addr) (rs:List (ByteArray×ByteArray)) (c:Nat) (w:World) (h:Prs w a rs) (hl:rs.length<=1048576) :
  Calls Tryz.prog 96 #[.slice a rs.length c] w fun e w'=>∃ g,e=.returned (.slice (some ⟨g,0,none⟩) rs.length rs.length)/\w.heap.size<=g/\Row w' g (prcells rs)/\Below w.heap.size w w':=by
 go_enter Tryz.func96,Tryz.ntmps96
 go_wp2_with (at_make;refine wpList_make_new rfl _ _ 37 rfl 111 _ 2 _ Tryz.underlying37 info_pr rs.length rfl rfl (by omega) (by omega) ?_;intro wx hrow hbx hsx;rw [made_prs] at hrow)
 have hr0:Row wx w.heap.size (prupTo rs 0):=by simpa [prupTo,prcells_nil] using hrow
 clear hrow
 go_loopw [4] (fun i wr=>∃ k:Nat,k<=rs.length/\i=.int .i64 k/\Row wr w.heap.size (prupTo rs k)/\Below w.heap.size w wr) (fun i _=>rs.length-(intOf i).toNat)
 case atStart=>exact ⟨0,Nat.zero_le _,rfl,hr0,hbx⟩
 case round =>
  obtain ⟨k,hk,rfl,hrow,hbel⟩:=hrel
  by_cases hlt:k<rs.length
  ·obtain ⟨b,o,s0,s1,rfl,hc0,hc1,HS⟩:=(h.below hbel).at hlt
   have HB:=hid hbel
   have HR:=hid hrow
   clear hrow hbel
   go_wp2_with (go_at_call 130;refine (to_pr s0 s1 _).mono ?_;rintro e w2 ⟨rfl,hb2⟩;have hr2:=HR.out.below hb2;have hl2:=prupTo_length rs k hk;obtain ⟨u0,hu0⟩:∃ u,w2.cell? ⟨w.heap.size,k*2,none⟩=some u:=⟨_,hr2.cell (k*2) _ (List.getElem?_eq_getElem (by omega))⟩;obtain ⟨u1,hu1⟩:∃ u,w2.cell? ⟨w.heap.size,k*2+1,none⟩=some u:=⟨_,hr2.cell (k*2+1) _ (List.getElem?_eq_getElem (by omega))⟩;have hf0:=hr2.froz (k*2) (by omega);have hf1:=hr2.froz (k*2+1) (by omega);have HR2:=hid hr2;have HL2:=hid hl2;clear hr2 hl2)
   have hrs:=(HR2.out.set (k*2) (by rw [HL2.out];omega) (.string s0)).set (k*2+1) (by rw [List.length_set,HL2.out];omega) (.string s1)
   have hus:((prupTo rs k).set (k*2) (.string s0)).set (k*2+1) (.string s1)=prupTo rs (k+1):=by
    have e:=HS.out
    rw [show s0=(rs.getD k (ByteArray.empty,ByteArray.empty)).1 by rw [<-e],show s1=(rs.getD k (ByteArray.empty,ByteArray.empty)).2 by rw [<-e]]
    exact prupTo_set rs k hlt
   rw [hus] at hrs
   go_roundw
   case rel=>exact ⟨k+1,by omega,by go_num,hrs,((HB.out.trans (hb2.mono HB.out.size)).setCell (Nat.le_refl _) _).setCell (Nat.le_refl _) _⟩
   case measure=>simp [intOf];omega
  ·go_wp2
   go_ret
   exact ⟨w.heap.size,rfl,Nat.le_refl _,by rw [<-prupTo_all rs k (by omega)];exact hrow,hbel⟩
set_option maxHeartbeats 16000000 in
theorem eq_pr (s0:ByteArray) (s1:ByteArray) (w:World) :
  Calls Tryz.prog 71 #[.agg #[.string s0,.string s1],.agg #[.string s0,.string s1]] w fun e w'=>e=.returned (.bool true)/\Below w.heap.size w w':=by
 go_enter Tryz.func71,Tryz.ntmps71
 go_wp2
 go_ret
 exact ⟨rfl,((Below.refl _ _).alloc (Nat.le_refl _) _).alloc (by simp) _⟩
set_option maxHeartbeats 16000000 in
theorem eq_prs (a b:Option Addr) (rs:List (ByteArray×ByteArray)) (c c':Nat) (w:World) (h:Prs w a rs) (h':Prs w b rs) (hl:rs.length<=1048576) :
  Calls Tryz.prog 26 #[.slice a rs.length c,.slice b rs.length c'] w fun e w'=>e=.returned (.bool true)/\Below w.heap.size w w':=by
 go_enter Tryz.func26,Tryz.ntmps26
 go_wp2
 go_loopw [5] (fun i wr=>∃ k:Nat,k<=rs.length/\i=.int .i64 k/\Below w.heap.size w wr) (fun i _=>rs.length-(intOf i).toNat)
 case atStart=>exact ⟨0,Nat.zero_le _,rfl,Below.refl _ _⟩
 case round =>
  obtain ⟨k,hk,rfl,hbel⟩:=hrel
  by_cases hlt:k<rs.length
  ·obtain ⟨b1,o1,s0,s1,rfl,hc0,hc1,HS⟩:=(h.below hbel).at hlt
   obtain ⟨b2,o2,s0x,s1x,rfl,hd0,hd1,HS'⟩:=(h'.below hbel).at hlt
   obtain ⟨rfl,rfl⟩:s0=s0x/\s1=s1x:=by have:=HS.out.trans HS'.out.symm;simpa using this
   have hk1:(k:Int)<(rs.length:Int):=by omega
   have hk0:(0:Int)<=(k:Int):=by omega
   have lt1:b1<wr.heap.size:=by have:=World.block_lt_of_cell? wr _ hc0;simpa using this
   have lt2:b2<wr.heap.size:=by have:=World.block_lt_of_cell? wr _ hd0;simpa using this
   have HQ:Hid (wr.cell? ⟨b1,o1+k*2,none⟩=some (.string s0)/\wr.cell? ⟨b1,o1+k*2+1,none⟩=some (.string s1)/\wr.cell? ⟨b2,o2+k*2,none⟩=some (.string s0)/\wr.cell? ⟨b2,o2+k*2+1,none⟩=some (.string s1)):=⟨hc0,hc1,hd0,hd1⟩
   clear HS HS' hc0 hc1 hd0 hd1
   go_wp2_with fail
   go_region_held3 (fun w'=>w'.cell? ⟨b1,o1+k*2,none⟩=some (.string s0)/\w'.cell? ⟨b1,o1+k*2+1,none⟩=some (.string s1)/\w'.cell? ⟨b2,o2+k*2,none⟩=some (.string s0)/\w'.cell? ⟨b2,o2+k*2+1,none⟩=some (.string s1))
    (first | assumption | exact HQ.out | exact ⟨(hb2.cell (p:=⟨b1,_,none⟩) lt1).trans HQ.out.1,(hb2.cell (p:=⟨b1,_,none⟩) lt1).trans HQ.out.2.1,(hb2.cell (p:=⟨b2,_,none⟩) lt2).trans HQ.out.2.2.1,(hb2.cell (p:=⟨b2,_,none⟩) lt2).trans HQ.out.2.2.2⟩)
    (first | (go_at_call 71;refine (eq_pr s0 s1 _).mono ?_;rintro e w2 ⟨rfl,hb2⟩))
   go_wp2
   go_roundw
   case rel=>exact ⟨k+1,by omega,by go_num,hbel.drew.trans (hb2.mono hbel.size)⟩
   case measure=>simp [intOf];omega
  ·go_wp2
   go_ret
   exact ⟨rfl,hbel⟩
end Go.Proofs.YtcoegjnjjdndjaaGreatDoor
