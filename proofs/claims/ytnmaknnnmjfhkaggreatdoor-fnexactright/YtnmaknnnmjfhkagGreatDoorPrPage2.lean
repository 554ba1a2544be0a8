import Derived.Test.YtnmaknnnmjfhkagGreatDoorPrG51
namespace Go.Proofs.YtnmaknnnmjfhkagGreatDoor
open Go.RowKit
set_option maxRecDepth 4000
theorem hide {p:Prop} (h:p):Hid p:=h
def strOf:Value->ByteArray
 | .string s=>s
 | _=>ByteArray.empty
theorem head_str (k l m:Int) (p:ByteArray):strOfNums (be 1 k)++strOfNums (be 2 l)++strOfNums (be 4 m)++strOfNums (be 1 (p.size:Int))++p=strOfNums (pageHead k l m p++List.replicate 0 0):=by
 rw [List.replicate_zero,List.append_nil]
 unfold pageHead
 rw [strOfNums_append,strOfNums_append,strOfNums_append,strOfNums_append,strOfNums_nums]
theorem zero_str (xs:List Int) (j:Nat):strOfNums (xs++List.replicate j 0)++⟨#[0]⟩=strOfNums (xs++List.replicate (j+1) 0):=by
 rw [List.replicate_succ',<-List.append_assoc,strOfNums_append _ [0]]
 rfl
theorem num_s' (v:Int) (c:Nat) (ci:Int) (hci:ci=(c:Int)) (w:World) (h0:0<=v) (h1:v<=9223372036854775807) (hc:c<=8) :
  Calls Tryz.prog 144 #[.int .i64 v,.int .i64 ci] w fun e w'=>e=.returned (.string (strOfNums (be c v)))/\Below w.heap.size w w':=by
 subst hci;exact num_s v c w h0 h1 hc
theorem keep4 {W:World} {v0 v1 v2 v3:Value} {w w':World} (hb:Below w.heap.size w w')
  (h:W.heap.size<w.heap.size/\w.cell? ⟨W.heap.size,0,none⟩=some v0/\w.cell? ⟨W.heap.size,1,none⟩=some v1/\w.cell? ⟨W.heap.size,2,none⟩=some v2/\w.cell? ⟨W.heap.size,3,none⟩=some v3/\Below W.heap.size W w) :
  W.heap.size<w'.heap.size/\w'.cell? ⟨W.heap.size,0,none⟩=some v0/\w'.cell? ⟨W.heap.size,1,none⟩=some v1/\w'.cell? ⟨W.heap.size,2,none⟩=some v2/\w'.cell? ⟨W.heap.size,3,none⟩=some v3/\Below W.heap.size W w' :=
 ⟨Nat.lt_of_lt_of_le h.1 hb.size,(hb.cell (p:=⟨_,0,none⟩) h.1).trans h.2.1,(hb.cell (p:=⟨_,1,none⟩) h.1).trans h.2.2.1,(hb.cell (p:=⟨_,2,none⟩) h.1).trans h.2.2.2.1,(hb.cell (p:=⟨_,3,none⟩) h.1).trans h.2.2.2.2.1,
  h.2.2.2.2.2.trans (hb.mono (Nat.le_of_lt h.1))⟩
set_option maxHeartbeats 1000000 in
theorem form_s (k l m:Int) (p:ByteArray) (n:Nat) (w:World) (hok:pageOk k l m p n=true) :
  Calls Tryz.prog 55 #[pageV k l m p,.int .i64 (n:Int)] w fun e w'=>e=.returned (.string (pageForm k l m p n))/\Below w.heap.size w w':=by
 have hok':=of_decide_eq_true (by unfold pageOk at hok;exact hok)
 obtain ⟨hn1,hn2,hk1,hk2,hl1,hl2,hm1,hm2,hp,_⟩:=hok'
 have z1:(strOfNums (be 1 k)).size=1:=by rw [strOfNums_size,be_length]
 have z2:(strOfNums (be 2 l)).size=2:=by rw [strOfNums_size,be_length]
 have z3:(strOfNums (be 4 m)).size=4:=by rw [strOfNums_size,be_length]
 have z4:(strOfNums (be 1 (p.size:Int))).size=1:=by rw [strOfNums_size,be_length]
 have z5:¬ (9223372036854775807<8+p.size):=by omega
 go_enter Tryz.func55,Tryz.ntmps55
 go_wp2_with (go_at_call 143;refine (ok_s k l m p n _ (by omega)).mono ?_;rw [hok];rintro e w1 ⟨rfl,hb1⟩)
 have hS:w.heap.size<w1.heap.size/\w1.cell? ⟨w.heap.size,0,none⟩=some (.int .i64 k)/\w1.cell? ⟨w.heap.size,1,none⟩=some (.int .i64 l)/\w1.cell? ⟨w.heap.size,2,none⟩=some (.int .i64 m)/\w1.cell? ⟨w.heap.size,3,none⟩=some (.string p)/\Below w.heap.size w w1 :=
  keep4 (v0:=.int .i64 k) (v1:=.int .i64 l) (v2:=.int .i64 m) (v3:=.string p) hb1 ⟨by simp,by simp,by simp,by simp,by simp,(Below.refl _ _).alloc (Nat.le_refl _) _⟩
 have HS:=hide hS
 clear hS hb1
 go_region_held3 (fun w'=>w.heap.size<w'.heap.size/\w'.cell? ⟨w.heap.size,0,none⟩=some (.int .i64 k)/\w'.cell? ⟨w.heap.size,1,none⟩=some (.int .i64 l)/\w'.cell? ⟨w.heap.size,2,none⟩=some (.int .i64 m)/\w'.cell? ⟨w.heap.size,3,none⟩=some (.string p)/\Below w.heap.size w w')
  (first | assumption | exact keep4 (below_drewN (Below.refl _ _) 1) HS.out | exact keep4 (by assumption) (by assumption))
  (first | (go_at_call_of 144 k;refine (num_s' k 1 _ rfl _ (by omega) (by omega) (by omega)).mono ?_;rintro e w2 ⟨rfl,hb2⟩) | (go_at_call_of 144 l;refine (num_s' l 2 _ rfl _ (by omega) (by omega) (by omega)).mono ?_;rintro e w3 ⟨rfl,hb3⟩) | (go_at_call_of 144 m;refine (num_s' m 4 _ rfl _ (by omega) (by omega) (by omega)).mono ?_;rintro e w4 ⟨rfl,hb4⟩) | (go_at_call_of 144 (p.size:Int);refine (num_s' (p.size:Int) 1 _ rfl _ (by omega) (by omega) (by omega)).mono ?_;rintro e w5 ⟨rfl,hb5⟩))
 clear HS
 rename_i hSl
 have hbl:=hSl.2.2.2.2.2
 clear hSl
 go_wp2
 go_loop [5] (fun b=>∃ j:Nat,j<=56-n-p.size/\b=.string (strOfNums (pageHead k l m p++List.replicate j 0))) (fun b=>64-(strOf b).size)
 case atStart=>exact ⟨0,Nat.zero_le _,by rw [head_str]⟩
 case round =>
  obtain ⟨j,hj,rfl⟩:=hrel
  have hsz:(strOfNums (pageHead k l m p++List.replicate j 0)).size=8+p.size+j:=by rw [strOfNums_size,List.length_append,pageHead_length,List.length_replicate]
  by_cases hlt:j<56-n-p.size
  ·go_wp2
   go_round
   case rel=>exact ⟨j+1,by omega,by rw [zero_str]⟩
   case measure =>
    rw [zero_str]
    simp only [strOf,strOfNums_size,List.length_append,pageHead_length,List.length_replicate]
    omega
  ·have hje:j=56-n-p.size:=by omega
   subst hje
   have hz6:(sumN (strOfNums (pageHead k l m p++List.replicate (56-n-p.size) 0)) n).size=n:=sumN_size _ _
   have hz7:¬ (9223372036854775807<n+(8+p.size+(56-n-p.size))):=by omega
   go_wp2_with (go_at_call 145;refine (sum_s _ _ n (by rw [hsz];omega) (by omega) (by omega)).mono ?_;rintro e w6 ⟨rfl,hb6⟩)
   go_ret
   exact ⟨rfl,hbl.trans (hb6.mono hbl.size)⟩
theorem form_s_no (k l m:Int) (p:ByteArray) (n:Int) (w:World) (hp:p.size<=1048576) (hok:pageOk k l m p n=false) :
  Calls Tryz.prog 55 #[pageV k l m p,.int .i64 n] w fun e w'=>e=.returned (.string ByteArray.empty)/\Below w.heap.size w w':=by
 go_enter Tryz.func55,Tryz.ntmps55
 go_wp2_with (go_at_call 143;refine (ok_s k l m p n _ hp).mono ?_;rw [hok];rintro e w1 ⟨rfl,hb1⟩)
 go_ret
 exact ⟨rfl,((Below.refl _ _).alloc (Nat.le_refl _) _).trans (hb1.mono (by simp))⟩
end Go.Proofs.YtnmaknnnmjfhkagGreatDoor
