import Derived.Test.YthdilmkbnpmdaaaPrG47
import Derived.Deep.MidRow
import Derived.Lib.LazyBuf
set_option maxHeartbeats 16000000
set_option maxRecDepth 8000
set_option linter.unusedVariables false
set_option linter.unusedSimpArgs false
namespace Go.Proofs.Ythdilmkbnpmdaaa
open Go.RowKit
theorem hide {p:Prop} (h:p):Hid p:=h
def strOf:Value->ByteArray
 | .string s=>s
 | _=>ByteArray.empty
theorem head_str (k l m:Int) (p:ByteArray):strOfNums (be 1 k)++strOfNums (be 2 l)++strOfNums (be 4 m)++strOfNums (be 1 (p.size:Int))++p=strOfNums (pageHead k l m p++List.replicate 0 0):=by
 rw [List.replicate_zero,List.append_nil]
 unfold pageHead
 rw [strOfNums_append,strOfNums_append,strOfNums_append,strOfNums_append,strOfNums_nums]
theorem zero_str (xs:List Int) (j:Nat):strOfNums (xs++List.replicate j 0)++⟨#[0]⟩=strOfNums (xs++List.replicate (j+1) 0):=by
 rw [List.replicate_succ',<-List.append_assoc,strOfNums_append _ [0]]
 rfl
theorem num_s' (v:Int) (c:Nat) (ci:Int) (hci:ci=(c:Int)) (w:World) (h0:0<=v) (h1:v<=9223372036854775807) (hc:c<=8) :
  Calls Try.prog 75 #[.int .i64 v,.int .i64 ci] w fun e w'=>e=.returned (.string (strOfNums (be c v)))/\Below w.heap.size w w':=by
 subst hci;exact num_s v c w h0 h1 hc
theorem keep4 {W:World} {v0 v1 v2 v3:Value} {w w':World} (hb:Below w.heap.size w w')
  (h:W.heap.size<w.heap.size/\w.cell? ⟨W.heap.size,0,none⟩=some v0/\w.cell? ⟨W.heap.size,1,none⟩=some v1/\w.cell? ⟨W.heap.size,2,none⟩=some v2/\w.cell? ⟨W.heap.size,3,none⟩=some v3/\Below W.heap.size W w) :
  W.heap.size<w'.heap.size/\w'.cell? ⟨W.heap.size,0,none⟩=some v0/\w'.cell? ⟨W.heap.size,1,none⟩=some v1/\w'.cell? ⟨W.heap.size,2,none⟩=some v2/\w'.cell? ⟨W.heap.size,3,none⟩=some v3/\Below W.heap.size W w' :=
 ⟨Nat.lt_of_lt_of_le h.1 hb.size,(hb.cell (p:=⟨_,0,none⟩) h.1).trans h.2.1,(hb.cell (p:=⟨_,1,none⟩) h.1).trans h.2.2.1,(hb.cell (p:=⟨_,2,none⟩) h.1).trans h.2.2.2.1,(hb.cell (p:=⟨_,3,none⟩) h.1).trans h.2.2.2.2.1,
  h.2.2.2.2.2.trans (hb.mono (Nat.le_of_lt h.1))⟩
theorem form_s (k l m:Int) (p:ByteArray) (n:Nat) (w:World) (hok:pageOk k l m p n=true) :
  Calls Try.prog 62 #[pageV k l m p,.int .i64 (n:Int)] w fun e w'=>e=.returned (.string (pageForm k l m p n))/\Below w.heap.size w w':=by
 have hok':=of_decide_eq_true (by unfold pageOk at hok;exact hok)
 obtain ⟨hn1,hn2,hk1,hk2,hl1,hl2,hm1,hm2,hp,_⟩:=hok'
 have z1:(strOfNums (be 1 k)).size=1:=by rw [strOfNums_size,be_length]
 have z2:(strOfNums (be 2 l)).size=2:=by rw [strOfNums_size,be_length]
 have z3:(strOfNums (be 4 m)).size=4:=by rw [strOfNums_size,be_length]
 have z4:(strOfNums (be 1 (p.size:Int))).size=1:=by rw [strOfNums_size,be_length]
 have z5:¬ (9223372036854775807<8+p.size):=by omega
 go_enter Try.func62,Try.ntmps62
 go_wp2_with (go_at_call 74;refine (ok_s k l m p n _ (by omega)).mono ?_;rw [hok];rintro e w1 ⟨rfl,hb1⟩)
 have hS:w.heap.size<w1.heap.size/\w1.cell? ⟨w.heap.size,0,none⟩=some (.int .i64 k)/\w1.cell? ⟨w.heap.size,1,none⟩=some (.int .i64 l)/\w1.cell? ⟨w.heap.size,2,none⟩=some (.int .i64 m)/\w1.cell? ⟨w.heap.size,3,none⟩=some (.string p)/\Below w.heap.size w w1 :=
  keep4 (v0:=.int .i64 k) (v1:=.int .i64 l) (v2:=.int .i64 m) (v3:=.string p) hb1 ⟨by simp,by simp,by simp,by simp,by simp,(Below.refl _ _).alloc (Nat.le_refl _) _⟩
 have HS:=hide hS
 clear hS hb1
 go_region_held3 (fun w'=>w.heap.size<w'.heap.size/\w'.cell? ⟨w.heap.size,0,none⟩=some (.int .i64 k)/\w'.cell? ⟨w.heap.size,1,none⟩=some (.int .i64 l)/\w'.cell? ⟨w.heap.size,2,none⟩=some (.int .i64 m)/\w'.cell? ⟨w.heap.size,3,none⟩=some (.string p)/\Below w.heap.size w w')
  (first | assumption | exact keep4 (below_drewN (Below.refl _ _) 1) HS.out | exact keep4 (by assumption) (by assumption))
  (first | (go_at_call_of 75 k;refine (num_s' k 1 _ rfl _ (by omega) (by omega) (by omega)).mono ?_;rintro e w2 ⟨rfl,hb2⟩) | (go_at_call_of 75 l;refine (num_s' l 2 _ rfl _ (by omega) (by omega) (by omega)).mono ?_;rintro e w3 ⟨rfl,hb3⟩) | (go_at_call_of 75 m;refine (num_s' m 4 _ rfl _ (by omega) (by omega) (by omega)).mono ?_;rintro e w4 ⟨rfl,hb4⟩) | (go_at_call_of 75 (p.size:Int);refine (num_s' (p.size:Int) 1 _ rfl _ (by omega) (by omega) (by omega)).mono ?_;rintro e w5 ⟨rfl,hb5⟩))
 clear HS
 rename_i hSl
 have hbl:=hSl.2.2.2.2.2
 clear hSl
 go_wp2
 go_loop [5] (fun b=>∃ j:Nat,j<=56-n-p.size/\b=.string (strOfNums (pageHead k l m p++List.replicate j 0))) (fun b=>64-(strOf b).size)
 case atStart=>exact ⟨0,Nat.zero_le _,by rw [head_str]⟩
 case round =>
  obtain ⟨j,hj,rfl⟩:=hrel
  have hsz:(strOfNums (pageHead k l m p++List.replicate j 0)).size=8+p.size+j:=by rw [strOfNums_size,List.length_append,pageHead_length,List.length_replicate]
  by_cases hlt:j<56-n-p.size
  ·go_wp2
   go_round
   case rel=>exact ⟨j+1,by omega,by rw [zero_str]⟩
   case measure =>
    rw [zero_str]
    simp only [strOf,strOfNums_size,List.length_append,pageHead_length,List.length_replicate]
    omega
  ·have hje:j=56-n-p.size:=by omega
   subst hje
   have hz6:(sumN (strOfNums (pageHead k l m p++List.replicate (56-n-p.size) 0)) n).size=n:=sumN_size _ _
   have hz7:¬ (9223372036854775807<n+(8+p.size+(56-n-p.size))):=by omega
   go_wp2_with (go_at_call 76;refine (sum_s _ _ n (by rw [hsz];omega) (by omega) (by omega)).mono ?_;rintro e w6 ⟨rfl,hb6⟩)
   go_ret
   exact ⟨rfl,hbl.trans (hb6.mono hbl.size)⟩
theorem form_s_no (k l m:Int) (p:ByteArray) (n:Int) (w:World) (hp:p.size<=1048576) (hok:pageOk k l m p n=false) :
  Calls Try.prog 62 #[pageV k l m p,.int .i64 n] w fun e w'=>e=.returned (.string ByteArray.empty)/\Below w.heap.size w w':=by
 go_enter Try.func62,Try.ntmps62
 go_wp2_with (go_at_call 74;refine (ok_s k l m p n _ hp).mono ?_;rw [hok];rintro e w1 ⟨rfl,hb1⟩)
 go_ret
 exact ⟨rfl,((Below.refl _ _).alloc (Nat.le_refl _) _).trans (hb1.mono (by simp))⟩
section
def spl (xs:List Int) (o:Nat) (ys:List Int):List Int:=xs.take o++ys++xs.drop (o+ys.length)
theorem spl_length (xs:List Int) (o:Nat) (ys:List Int) (h:o+ys.length<=xs.length):(spl xs o ys).length=xs.length:=by
 simp [spl];omega
theorem spl_in (xs:List Int) (o:Nat) (ys:List Int) (h:o+ys.length<=xs.length) (i:Nat) (hi:i<ys.length):(spl xs o ys).getD (o+i) 0=ys.getD i 0:=by
 have ho:(xs.take o).length=o:=by simp;omega
 unfold spl
 rw [List.getD_eq_getElem?_getD,List.append_assoc,List.getElem?_append_right (by omega),ho,show o+i-o=i by omega,List.getElem?_append_left hi,List.getD_eq_getElem?_getD]
theorem spl_out (xs:List Int) (o:Nat) (ys:List Int) (h:o+ys.length<=xs.length) (i:Nat) (hi:i<o\/o+ys.length<=i):(spl xs o ys).getD i 0=xs.getD i 0:=by
 have ho:(xs.take o).length=o:=by simp;omega
 unfold spl
 rcases hi with hi | hi
 ·rw [List.getD_eq_getElem?_getD,List.append_assoc,List.getElem?_append_left (by omega),List.getElem?_take_of_lt hi,List.getD_eq_getElem?_getD]
 ·rw [List.getD_eq_getElem?_getD,List.getElem?_append_right (by simp;omega),List.length_append,ho,List.getElem?_drop,show o+ys.length+(i-(o+ys.length))=i by omega,List.getD_eq_getElem?_getD]
structure Fm (w:World) (F:Nat) (xs:List Int):Prop where
 cell:∀ i,i<xs.length->w.cell? ⟨F,i,none⟩=some (.int .u8 (xs.getD i 0))
 froz:∀ i,i<xs.length->w.frozen? ⟨F,i,none⟩=false
theorem Fm.drew {w:World} {F:Nat} {xs:List Int} (h:Fm w F xs):Fm w.drew F xs:=⟨h.cell,h.froz⟩
theorem Fm.wrote {w w':World} {F o:Nat} {xs ys:List Int} (h:Fm w F xs) (hw:Wrote w w' F o ys) (hl:o+ys.length<=xs.length):Fm w' F (spl xs o ys):=by
 have hsl:=spl_length xs o ys hl
 refine ⟨fun i hi=>?_,fun i hi=>(hw.frozen _).trans (h.froz i (by omega))⟩
 by_cases hin:o<=i/\i<o+ys.length
 ·have:=hw.inside (i-o) (by omega)
  rw [show o+(i-o)=i by omega] at this
  rw [this]
  have e:=spl_in xs o ys hl (i-o) (by omega)
  rw [show o+(i-o)=i by omega] at e
  rw [e]
 ·rw [hw.outside i (by omega),h.cell i (by omega),spl_out xs o ys hl i (by omega)]
theorem Fm.below {w w':World} {F:Nat} {xs:List Int} (h:Fm w F xs) (hb:Below w.heap.size w w') (hF:F<w.heap.size):Fm w' F xs :=
 ⟨fun i hi=>(hb.cell (p:=⟨F,i,none⟩) hF).trans (h.cell i hi),fun i hi=>(hb.frozen (p:=⟨F,i,none⟩) hF).trans (h.froz i hi)⟩
theorem setCells_size (b:Nat):∀ (vs:List Value) (o:Nat) (w:World),(w.setCells b o vs).heap.size=w.heap.size
 | [],_,_=>rfl
 | v::r,o,w=>by rw [World.setCells,setCells_size b r];simp [World.setCell]
theorem setCells_other (b:Nat):∀ (vs:List Value) (o:Nat) (w:World) (k:Nat),k≠b->(w.setCells b o vs).heap[k]?=w.heap[k]?
 | [],_,_,_,_=>rfl
 | v::r,o,w,k,h=>by rw [World.setCells,setCells_other b r _ _ _ h,Below.heap_setCell _ _ _ _ h]
theorem setCells_os (b:Nat):∀ (vs:List Value) (o:Nat) (w:World),(w.setCells b o vs).os=w.os/\(w.setCells b o vs).tape=w.tape/\(w.setCells b o vs).output=w.output
 | [],_,_=>⟨rfl,rfl,rfl⟩
 | v::r,o,w=>by rw [World.setCells];exact setCells_os b r (o+1) _
theorem wrote_setCells (w:World) (b o:Nat) (t:ByteArray) (hc:∀ j,j<t.size->(w.cell? ⟨b,o+j,none⟩).isSome=true) :
  Wrote w (w.setCells b o (t.data.toList.map fun x=>Value.int .u8 (x.toNat:Int))) b o (nums t):=by
 have hl:(t.data.toList.map fun x=>Value.int .u8 (x.toNat:Int)).length=t.size:=by simp
 obtain ⟨h1,h2,h3⟩:=setCells_os b (t.data.toList.map fun x=>Value.int .u8 (x.toNat:Int)) o w
 refine ⟨h1,h2,h3,setCells_size _ _ _ _,fun k hk=>setCells_other _ _ _ _ _ hk,fun i hi=>?_,fun x hx=>?_,fun a=>World.frozen?_setCells _ _ _ _ _⟩
 ·rw [nums_length] at hi
  rw [World.cell?_setCells_in b _ o w (by rw [hl];exact hc) i (by rw [hl];exact hi)]
  have hd:i<t.data.toList.length:=by simpa using hi
  simp [nums,List.getD,List.getElem?_eq_getElem hd]
 ·rw [nums_length] at hx
  exact World.cell?_setCells_out b _ o w ⟨b,x,none⟩ (fun _ _=>by rw [hl];simpa using hx)
theorem Fm.text {P:Program} {w:World} {F:Nat} {xs:List Int} (h:Fm w F xs) (src e dst:TypeId) (hs:P.underlying src=some (.slice e)) (he:P.underlying e=some (.int .u8)) (hd:P.underlying dst=some .string) (o n cap:Nat) (hl:o+n<=xs.length) :
  (convert src dst (.slice (some ⟨F,o,none⟩) n cap)).run P w=.ok (.string (strOfNums ((xs.drop o).take n))) w :=
 run_convert_bytes_arg (P:=P) w src e hs he F o n cap ((xs.drop o).take n) (by simp;omega) (fun i hi=>by
  rw [h.cell (o+i) (by omega)]
  simp [List.getD,List.getElem?_take_of_lt hi,List.getElem?_drop]) dst hd
theorem Fm.step {w w':World} {F o:Nat} {xs ys:List Int} (h:Fm w F xs) (hx:xs.length=64) (hw:Wrote w w' F o ys) (hl:o+ys.length<=64) :
  ∃ xs',Hid (xs'=spl xs o ys)/\xs'.length=64/\Fm w' F xs' :=
 ⟨spl xs o ys,(rfl:spl xs o ys=spl xs o ys),by rw [spl_length _ _ _ (by omega),hx],h.wrote hw (by omega)⟩
theorem Fm.range {w:World} {F:Nat} {xs:List Int} (h:Fm w F xs):w.rangeAt F 0 (xs.map (Value.int .u8)):=fun j v hv=>by
 obtain ⟨hj,e⟩:=List.getElem?_eq_some_iff.1 hv
 simp at hj
 rw [Nat.zero_add,h.cell j hj]
 simp at e
 subst e
 simp [List.getD,List.getElem?_eq_getElem hj]
structure PI (W w:World) (c0 c1 c2 c3:Value):Prop where
 size:W.heap.size+3<=w.heap.size
 bel:Below W.heap.size W w
 b0:w.cell? ⟨W.heap.size,0,none⟩=some c0
 b1:w.cell? ⟨W.heap.size,1,none⟩=some c1
 b2:w.cell? ⟨W.heap.size,2,none⟩=some c2
 b3:w.cell? ⟨W.heap.size,3,none⟩=some c3
 there:w.there (W.heap.size+1) 0 64
section
variable {W w w':World} {c0 c1 c2 c3:Value}
theorem PI.drew (h:PI W w c0 c1 c2 c3):PI W w.drew c0 c1 c2 c3:=⟨h.size,h.bel.drew,h.b0,h.b1,h.b2,h.b3,h.there⟩
theorem PI.below (h:PI W w c0 c1 c2 c3) (hb:Below w.heap.size w w'):PI W w' c0 c1 c2 c3 :=
 have hs:=h.size
 ⟨Nat.le_trans hs hb.size,h.bel.trans (hb.mono (by omega)),(hb.cell (p:=⟨_,0,none⟩) (by show W.heap.size<_;omega)).trans h.b0,(hb.cell (p:=⟨_,1,none⟩) (by show W.heap.size<_;omega)).trans h.b1,
  (hb.cell (p:=⟨_,2,none⟩) (by show W.heap.size<_;omega)).trans h.b2,(hb.cell (p:=⟨_,3,none⟩) (by show W.heap.size<_;omega)).trans h.b3,
  fun j hj=>by rw [hb.cell (p:=⟨_,_,none⟩) (by show W.heap.size+1<_;omega),hb.frozen (p:=⟨_,_,none⟩) (by show W.heap.size+1<_;omega)];exact h.there j hj⟩
theorem PI.wrote {o:Nat} {ys:List Int} (h:PI W w c0 c1 c2 c3) (hw:Wrote w w' (W.heap.size+1+1) o ys):PI W w' c0 c1 c2 c3 :=
 have hs:=h.size
 have hb:Below (W.heap.size+1+1) w w':=hw.below (Nat.le_refl _)
 ⟨Nat.le_trans hs hb.size,h.bel.trans (hb.mono (by omega)),(hb.cell (p:=⟨_,0,none⟩) (by show W.heap.size<_;omega)).trans h.b0,(hb.cell (p:=⟨_,1,none⟩) (by show W.heap.size<_;omega)).trans h.b1,
  (hb.cell (p:=⟨_,2,none⟩) (by show W.heap.size<_;omega)).trans h.b2,(hb.cell (p:=⟨_,3,none⟩) (by show W.heap.size<_;omega)).trans h.b3,
  fun j hj=>by rw [hb.cell (p:=⟨_,_,none⟩) (by show W.heap.size+1<_;omega),hb.frozen (p:=⟨_,_,none⟩) (by show W.heap.size+1<_;omega)];exact h.there j hj⟩
end
theorem frozen_past (w:World) (b o:Nat) (h:w.heap.size<=b):w.frozen? ⟨b,o,none⟩=false:=by
 have e:w.heap[b]?=none:=by simp [h]
 simp [World.frozen?,e]
theorem results_cell1 {P:Program} {fn:Func} {p:Tmp} {ty:TypeId} (h:fn.results=#[.cell p ty]) (tmps:Array Value) (w:World) (b o:Nat) (hp:tmps.getD p undef=.pointer (some ⟨b,o,none⟩))
  (cs:List Value) (d:TypeDesc) (hc:w.rangeAt b o cs) (hu:P.underlying ty=some d) (hd:d.isRow=true) (hi:(P.info? ty).map (·.size)=some cs.length):(results fn tmps).run P w=.ok (.agg cs.toArray) w:=by
 have hl:=run_loadVar_mid (P:=P) w b o ty cs d hc hu hd hi
 simp only [results,h]
 rw [Array.getD_eq_getD_getElem?] at hp
 simp [hp,asAddr,hl]
theorem ints_one (xs:List Int):∀ v∈xs.map (Value.int .u8),v.oneCell'=true:=fun v hv=>by
 obtain ⟨x,_,rfl⟩:=List.mem_map.1 hv;rfl
theorem Fm.isSome {w:World} {F:Nat} {xs:List Int} (h:Fm w F xs) (o m:Nat) (hl:o+m<=xs.length):∀ j,j<m->(w.cell? ⟨F,o+j,none⟩).isSome=true:=fun j hj=>by
 rw [h.cell (o+j) (by omega)];rfl
theorem Fm.frozen {w:World} {F:Nat} {xs:List Int} (h:Fm w F xs) (o m:Nat) (hl:o+m<=xs.length):∀ j,j<m->w.frozen? ⟨F,o+j,none⟩=false:=fun j hj=>h.froz (o+j) (by omega)
theorem Fm.copied {w:World} {F:Nat} {xs:List Int} (h:Fm w F xs) (o:Nat) (t:ByteArray) (hl:o+t.size<=xs.length):Wrote w (w.setCells F o (t.data.toList.map fun x=>Value.int .u8 (x.toNat:Int))) F o (nums t) :=
 wrote_setCells w F o t (h.isSome o t.size hl)
theorem nums_append (a b:ByteArray):nums (a++b)=nums a++nums b:=by simp [nums]
end
def formOf (k l m:Int) (p:ByteArray) (n:Int):ByteArray:=if pageOk k l m p n=true then pageForm k l m p n.toNat else ByteArray.empty
theorem form_s_any (k l m:Int) (p:ByteArray) (n:Int) (w:World) (hp:p.size<=1048576) :
  Calls Try.prog 62 #[pageV k l m p,.int .i64 n] w fun e w'=>e=.returned (.string (formOf k l m p n))/\Below w.heap.size w w':=by
 unfold formOf
 cases h:pageOk k l m p n with
 | true =>
  have hd:=of_decide_eq_true (by unfold pageOk at h;exact h)
  have hn:1<=n:=hd.1
  obtain ⟨j,rfl⟩:∃ j:Nat,n=(j:Int):=⟨n.toNat,by omega⟩
  rw [if_pos rfl,Int.toNat_natCast]
  exact form_s k l m p j w h
 | false=>rw [if_neg (by simp)];exact form_s_no k l m p n w hp h
def cutAt (s:ByteArray) (l f:Int) (n m N i:Nat):ByteArray:=formOf (if i+1=N then 2 else 1) l (f+(i:Int)) (s.extract (i*m) (i*m+m)) (n:Int)
def cutOk (l f:Int) (N:Nat):Bool:=decide (1<=l/\l<=60000/\1<=f/\f+(N:Int)<=1000000001)
def cutList (s:ByteArray) (l f:Int) (n m N k:Nat):List ByteArray:=(List.range k).map (cutAt s l f n m N)
theorem cutList_succ (s:ByteArray) (l f:Int) (n m N k:Nat):cutList s l f n m N (k+1)=cutList s l f n m N k++[cutAt s l f n m N k]:=by simp [cutList,List.range_succ]
theorem cutList_length (s:ByteArray) (l f:Int) (n m N k:Nat):(cutList s l f n m N k).length=k:=by simp [cutList]
def cutAll (s:ByteArray) (l f:Int) (n m:Nat):List ByteArray:=if cutOk l f (nparts s.size m)=true then cutList s l f n m (nparts s.size m) (nparts s.size m) else []
theorem nparts_le (l m:Nat):nparts l m<=l+1:=by
 unfold nparts
 split
 ·omega
 ·have:=Nat.div_le_self (l-1) m;omega
theorem nparts_pos (l m:Nat):0<nparts l m:=by
 unfold nparts
 split
 ·omega
 ·exact Nat.succ_pos _
theorem piece_le (s:ByteArray) (a m:Nat):(s.extract a (a+m)).size<=m:=by simp only [ByteArray.size_extract];omega
theorem cutAll_yes {s:ByteArray} {l f:Int} {n m N:Nat} (hN:N=nparts s.size m) (h:1<=l/\l<=60000/\1<=f/\f+(N:Int)<=1000000001):cutAll s l f n m=cutList s l f n m N N:=by
 unfold cutAll cutOk;rw [<-hN,if_pos (by simpa using h)]
theorem cutAll_no {s:ByteArray} {l f:Int} {n m N:Nat} (hN:N=nparts s.size m) (h:¬ (1<=l/\l<=60000/\1<=f/\f+(N:Int)<=1000000001)):cutAll s l f n m=[]:=by
 unfold cutAll cutOk;rw [<-hN,if_neg (by simpa using h)]
def NewS (w w':World) (e:Ending) (ss:List ByteArray):Prop:=∃ a c,e=.returned (.slice a ss.length c)/\OwnS w' a (ss.map Value.string)/\(∀ g,blk a ss.length=some g->w.heap.size<=g)/\Below w.heap.size w w'
theorem newS_nil {w w':World} {v:Value} {a:Option Addr} {c:Nat} (hv:v=.slice a 0 c) (hb:Below w.heap.size w w'):NewS w w' (.returned v) []:=⟨a,c,by rw [hv];rfl,.inl rfl,fun g h=>(by cases h),hb⟩
theorem newS_of {w w':World} {v:Value} {k:Nat} {e:TypeId} {ss:List ByteArray} (h:w'.ownsRow w.heap.size e 1 v k (ss.map Value.string)) (hk:k=ss.length) (hb:Below w.heap.size w w'):NewS w w' (.returned v) ss:=by
 rcases owns_forms h with ⟨h1,h2⟩ | ⟨g,cap,h1,h2,_,h3⟩
 ·have:ss=[]:=List.eq_nil_of_length_eq_zero (by omega)
  subst this
  exact newS_nil h1 hb
 ·subst hk
  refine ⟨_,cap,by rw [h1],.inr ⟨g,rfl,h3⟩,fun g' hg'=>?_,hb⟩
  by_cases h0:ss.length=0
  ·rw [h0] at hg';cases hg'
  ·rw [blk_pos g 0 _ h0] at hg';cases hg';exact h2
set_option maxRecDepth 4000 in
theorem cut_s (s:ByteArray) (l f:Int) (n m:Nat) (w:World) (hs:s.size<=1048576) (hm:n+m=56) (h1:1<=n) (h2:n<=8) :
  Calls Try.prog 56 #[.string s,.int .i64 l,.int .i64 f,.int .i64 (n:Int)] w fun e w'=>NewS w w' e (cutAll s l f n m):=by
 have hd:decide (1<=(n:Int)/\(n:Int)<=8)=true:=by simp;omega
 have hb0:∀ o,Below w.heap.size w (w.alloc o):=fun o=>(Below.refl _ _).alloc (Nat.le_refl _) _
 obtain ⟨N,HN⟩:∃ N,Hid (N=nparts s.size m):=⟨_,hid rfl⟩
 have hN1:N<=1048577:=by have:=nparts_le s.size m;rw [HN.out];omega
 have hN0:0<N:=by rw [HN.out];exact nparts_pos _ _
 obtain ⟨R,HR⟩:∃ R,Hid (R=cutAll s l f n m):=⟨_,hid rfl⟩
 rw [<-HR.out]
 by_cases hl1:1<=l
 ·by_cases hl2:l<=60000
  ·by_cases hl3:1<=f
   ·by_cases hl4:f<=1000000000
    ·by_cases hN2:(N:Int)<=1000000000-f+1
     ·have HRR:Hid (R=cutList s l f n m N N):=by show _=_;rw [HR.out];exact cutAll_yes HN.out (by omega)
      clear HR
      obtain ⟨i0,hi0,hz0,hz1,hz2⟩:=info_parts infoStr'
      have HI:=hid (And.intro hi0 (And.intro hz0 (And.intro hz1 hz2)))
      clear hi0 hz0 hz1 hz2
      go_enter Try.func56,Try.ntmps56
      go_wp2_with (first | (go_at_call 50;refine (width_s _ _).mono ?_;rw [hd];rintro e w2 ⟨rfl,rfl⟩) | (go_at_call 73;refine (parts_s s n m _ hs hm h1 h2).mono ?_;rw [<-HN.out];rintro e w2 ⟨g,c,rfl,hg,hrow,hb⟩;have HROW:=hid hrow;clear hrow))
      simp only [World.size_alloc] at hg
      have hB2:Below w.heap.size w w2:=(hb0 _).trans (hb.mono (by simp))
      have hown0:w2.ownsRow w.heap.size 9 1 (.slice (some ⟨w.heap.size,0,none⟩) 0 0) 0 []:=owns_below (World.ownsRow_lit w #[] 0 (Nat.le_refl _) (by simp) (by simp)) hb
      clear hb
      go_loopw [9,11,12] (fun y i _ wr=>∃ k:Nat,k<=N/\i=.int .i64 k/\wr.ownsRow w.heap.size 9 1 y k ((cutList s l f n m N k).map Value.string)/\y.ownBlock≠some g/\Row wr g ((pieces s m N).map Value.string)/\Below w.heap.size w wr) (fun _ i _ _=>N-(intOf i).toNat)
      case atStart=>exact ⟨0,Nat.zero_le _,rfl,hown0,by simp [Value.ownBlock];omega,HROW.out,hB2⟩
      case round =>
       obtain ⟨k,hk,rfl,hown,hne,hrow,hbel⟩:=hrel
       by_cases hlt:k<N
       ·have hc:=hrow.cell k (.string (s.extract (k*m) (k*m+m))) (by simp [pieces,hlt])
        obtain ⟨p,HP⟩:∃ p,Hid (p=s.extract (k*m) (k*m+m)):=⟨_,hid rfl⟩
        rw [<-HP.out] at hc
        have hpz:p.size<=1048576:=by rw [HP.out];have:=piece_le s (k*m) m;omega
        have hsz:w.heap.size<=wr.heap.size:=hbel.size
        have hglt:=hrow.lt
        have HB:=hid hbel
        have HRW:=hid hrow
        have HOWN:=hid hown
        clear hbel hrow hown
        obtain ⟨F,HF⟩:∃ F,Hid (F=cutAt s l f n m N k):=⟨_,hid rfl⟩
        obtain ⟨kd,hkd⟩:∃ kd:Int,kd=if k+1=N then 2 else 1:=⟨_,rfl⟩
        have HFF:Hid (formOf kd l (f+(k:Int)) p (n:Int)=F):=by show _=_;rw [HF.out,HP.out,hkd];rfl
        have fin:∀ (w5:World),Below wr.heap.size wr w5->∀ (w7:World) (g' cap:Nat),w7.ownsRow w.heap.size 9 1 (.slice (some ⟨g',0,none⟩) (k+1) cap) (k+1) ((cutList s l f n m N k).map Value.string++[.string F])->(w5.alloc (.cells #[.string F] 9)).grownBy w7 u9.ownBlock->(u9.ownBlock=some g'\/g'=w5.heap.size+1)->(∃ k':Nat,k'<=N/\Value.int .i64 ((k:Int)+1)=.int .i64 k'/\w7.ownsRow w.heap.size 9 1 (.slice (some ⟨g',0,none⟩) (k+1) cap) k' ((cutList s l f n m N k').map Value.string)/\(Value.slice (some ⟨g',0,none⟩) (k+1) cap).ownBlock≠some g/\Row w7 g ((pieces s m N).map Value.string)/\Below w.heap.size w w7):=fun w5 hb5 w7 g' cap ho7 hg7 hat=>by
         have hs5:=hb5.size
         refine ⟨k+1,by omega,by go_num,?_,?_,?_,?_⟩
         ·rw [cutList_succ,List.map_append,<-HF.out];exact ho7
         ·rcases hat with hat | hat
          ·intro he;exact hne (hat.trans (by simpa [Value.ownBlock] using he))
          ·simp [Value.ownBlock];omega
         ·exact ((HRW.out.below hb5).alloc _).grown hg7 (fun he=>hne he.symm)
         ·exact below_grown ((HB.out.trans (hb5.mono hsz)).alloc (by omega) _) ((owns_below HOWN.out hb5).alloc _) hg7 (by simp;omega)
        have HFIN:=hid fin
        clear fin
        by_cases hkN:k+1=N
        ·have hq:((k:Int) == (N:Int)-1)=true:=by simp;omega
         rw [if_pos hkN] at hkd
         subst hkd
         clear hkN
         go_wp2_with (first | (go_at_call 62;refine (form_s_any 2 l (f+(k:Int)) p (n:Int) _ hpz).mono ?_;rw [HFF.out];rintro e w5 ⟨rfl,hb5⟩;have hs5:=hb5.size;have HO5:=hid ((owns_below HOWN.out hb5).alloc (.cells #[.string F] 9))) | (at_builtin;refine WAL _ rfl _ _ 23 rfl w.heap.size Try.underlying23 HI.out rfl (by omega) _ k _ rfl HO5.out ⟨w5.heap.size,0,none⟩ 1 1 [.string F] rfl rfl (World.news_of_block (heap_alloc_new w5 _)) (by intro u hu;simp at hu;subst hu;rfl) (by simp;omega) (w5.heap.size+1) (by simp) ?_;intro g' cap w7 hown7 hgrow7 hat7 hlt7;have HFI:=hid (HFIN.out w5 hb5 w7 g' cap hown7 hgrow7 hat7);clear hown7 hgrow7 hat7))
         exact ⟨HFI.out,by simp [intOf];omega⟩
        ·have hq:((k:Int) == (N:Int)-1)=false:=by simp;omega
         rw [if_neg hkN] at hkd
         subst hkd
         go_wp2_with (first | (go_at_call 62;refine (form_s_any 1 l (f+(k:Int)) p (n:Int) _ hpz).mono ?_;rw [HFF.out];rintro e w5 ⟨rfl,hb5⟩;have hs5:=hb5.size;have HO5:=hid ((owns_below HOWN.out hb5).alloc (.cells #[.string F] 9))) | (at_builtin;refine WAL _ rfl _ _ 23 rfl w.heap.size Try.underlying23 HI.out rfl (by omega) _ k _ rfl HO5.out ⟨w5.heap.size,0,none⟩ 1 1 [.string F] rfl rfl (World.news_of_block (heap_alloc_new w5 _)) (by intro u hu;simp at hu;subst hu;rfl) (by simp;omega) (w5.heap.size+1) (by simp) ?_;intro g' cap w7 hown7 hgrow7 hat7 hlt7;have HFI:=hid (HFIN.out w5 hb5 w7 g' cap hown7 hgrow7 hat7);clear hown7 hgrow7 hat7))
         exact ⟨HFI.out,by simp [intOf];omega⟩
       ·have hkN:k=N:=by omega
        subst hkN
        have HO:=hid hown
        clear hown hrow
        go_wp2
        go_ret
        rw [HRR.out]
        exact newS_of HO.out (cutList_length _ _ _ _ _ _ _).symm hbel
     ·have HRR:Hid (R=[]):=by show _=_;rw [HR.out];exact cutAll_no HN.out (by omega)
      clear HR
      go_enter Try.func56,Try.ntmps56
      go_wp2_with (first | (go_at_call 50;refine (width_s _ _).mono ?_;rw [hd];rintro e w2 ⟨rfl,rfl⟩) | (go_at_call 73;refine (parts_s s n m _ hs hm h1 h2).mono ?_;rw [<-HN.out];rintro e w2 ⟨g,c,rfl,hg,hrow,hb⟩;clear hrow))
      go_ret
      rw [HRR.out]
      exact newS_nil rfl ((hb0 _).trans (hb.mono (by simp)))
    ·have HRR:Hid (R=[]):=by show _=_;rw [HR.out];exact cutAll_no HN.out (by omega)
     clear HR
     go_enter Try.func56,Try.ntmps56
     go_wp2_with (first | (go_at_call 50;refine (width_s _ _).mono ?_;rw [hd];rintro e w2 ⟨rfl,rfl⟩))
     go_ret
     rw [HRR.out]
     exact newS_nil rfl (hb0 _)
   ·have HRR:Hid (R=[]):=by show _=_;rw [HR.out];exact cutAll_no HN.out (by omega)
    clear HR
    go_enter Try.func56,Try.ntmps56
    go_wp2_with (first | (go_at_call 50;refine (width_s _ _).mono ?_;rw [hd];rintro e w2 ⟨rfl,rfl⟩))
    go_ret
    rw [HRR.out]
    exact newS_nil rfl (hb0 _)
  ·have HRR:Hid (R=[]):=by show _=_;rw [HR.out];exact cutAll_no HN.out (by omega)
   clear HR
   go_enter Try.func56,Try.ntmps56
   go_wp2_with (first | (go_at_call 50;refine (width_s _ _).mono ?_;rw [hd];rintro e w2 ⟨rfl,rfl⟩))
   go_ret
   rw [HRR.out]
   exact newS_nil rfl (hb0 _)
 ·have HRR:Hid (R=[]):=by show _=_;rw [HR.out];exact cutAll_no HN.out (by omega)
  clear HR
  go_enter Try.func56,Try.ntmps56
  go_wp2_with (first | (go_at_call 50;refine (width_s _ _).mono ?_;rw [hd];rintro e w2 ⟨rfl,rfl⟩))
  go_ret
  rw [HRR.out]
  exact newS_nil rfl (hb0 _)
end Go.Proofs.Ythdilmkbnpmdaaa
