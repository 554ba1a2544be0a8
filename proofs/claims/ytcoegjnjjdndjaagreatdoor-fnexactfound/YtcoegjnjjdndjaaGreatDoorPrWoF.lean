import Derived.Test.YtcoegjnjjdndjaaGreatDoorPrWoE
namespace Go.Proofs.YtcoegjnjjdndjaaGreatDoor
open Go.RowKit
set_option maxRecDepth 8000
set_option linter.unusedVariables false
set_option linter.unusedSimpArgs false
theorem pastOk_no {P:List (List (ByteArray×ByteArray))} (k:Nat) (hk:k<P.length) (hx:stateOk (P.getD k [])=false):pastOk P=false:=by
 unfold pastOk
 have:P.all stateOk=false:=List.all_eq_false.2 ⟨P.getD k [],by simp [List.getD,hk],by rw [hx];simp⟩
 rw [this,Bool.and_false]
theorem pastOk_yes {P:List (List (ByteArray×ByteArray))} (h:1<=P.length/\P.length<=200) (hx:∀ k,k<P.length->stateOk (P.getD k [])=true):pastOk P=true:=by
 unfold pastOk
 rw [decide_eq_true h,Bool.true_and]
 refine List.all_eq_true.2 fun rs hr=>?_
 obtain ⟨k,hk,rfl⟩:=List.getElem_of_mem hr
 have:=hx k hk
 simpa [List.getD,hk] using this
theorem wrtOk_no {ts:List ByteArray} (k:Nat) (hk:k<ts.length) (hx:¬ (ts.getD k ByteArray.empty).size=64):wrtOk ts=false:=by
 unfold wrtOk
 have:(ts.all fun s=>decide (s.size=64))=false:=List.all_eq_false.2 ⟨ts.getD k ByteArray.empty,by simp [List.getD,hk],by simpa using hx⟩
 rw [this,Bool.and_false]
theorem wrtOk_yes {ts:List ByteArray} (h:ts.length<=2000) (hx:∀ k,k<ts.length->(ts.getD k ByteArray.empty).size=64):wrtOk ts=true:=by
 unfold wrtOk
 rw [decide_eq_true h,Bool.true_and]
 refine List.all_eq_true.2 fun s hr=>?_
 obtain ⟨k,hk,rfl⟩:=List.getElem_of_mem hr
 have:=hx k hk
 simpa [List.getD,hk] using this
theorem worldOk_no1 {x:Wo} (h:decide (1<=x.w/\x.w<=8)=false):worldOk x=false:=by unfold worldOk;rw [h];rfl
theorem worldOk_no2 {x:Wo} (h:diskOk x.ss x.ws=false):worldOk x=false:=by unfold worldOk;rw [h];simp
theorem worldOk_no3 {x:Wo} (h:itsStore x=false):worldOk x=false:=by unfold worldOk;rw [h];simp
theorem worldOk_no4 {x:Wo} (h:pastOk x.P=false):worldOk x=false:=by unfold worldOk;rw [h];simp
theorem worldOk_no5 {x:Wo} (h:wrtOk x.ts=false):worldOk x=false:=by unfold worldOk;rw [h];simp
theorem worldOk_yes {x:Wo} (h1:decide (1<=x.w/\x.w<=8)=true) (h2:diskOk x.ss x.ws=true) (h3:itsStore x=true) (h4:pastOk x.P=true) (h5:wrtOk x.ts=true):worldOk x=true:=by unfold worldOk;rw [h1,h2,h3,h4,h5];rfl
theorem itsStore_up {x:Wo} (hu:x.up=true):itsStore x=(storeOk x.W x.S x.L x.T x.H x.F x.R x.U x.O x.rs && decide (x.W=x.w/\x.S=(x.ss.length:Int))):=by unfold itsStore;rw [if_pos hu]
theorem itsStore_down {x:Wo} (hu:x.up=false):itsStore x=noStore x:=by unfold itsStore;rw [if_neg (by rw [hu];simp)]
set_option maxHeartbeats 8000000 in
theorem vworld_s (x:Wo) (q:Wp) (w:World) (h:x.at w q) (hm:x.le 1048576) :
  Calls Tryz.prog 17 #[worldW x q] w fun e w'=>e=.returned (.bool (worldOk x))/\Below w.heap.size w w':=by
 have hl4:=hm.l4
 have hl5:=hm.l5
 have hl1:=hm.l1
 obtain ⟨d1,hd1⟩:∃ d,decide (1<=x.w/\x.w<=8)=d:=⟨_,rfl⟩
 obtain ⟨d2,hd2⟩:∃ d,diskOk x.ss x.ws=d:=⟨_,rfl⟩
 obtain ⟨d4,hd4⟩:∃ d,decide ((1:Int)<=(x.P.length:Int)/\(x.P.length:Int)<=200)=d:=⟨_,rfl⟩
 obtain ⟨ds,hds⟩:∃ d,storeOk x.W x.S x.L x.T x.H x.F x.R x.U x.O x.rs=d:=⟨_,rfl⟩
 obtain ⟨dn,hdn⟩:∃ d,noStore x=d:=⟨_,rfl⟩
 have C1:=hid (width_s x.w)
 have C2:=hid (fun w' k1 k2=>valid_s q.a x.ss q.c q.a' x.ws q.c' w' k1 k2 hm.l1 hm.l2 hm.s1 hm.s2)
 have C4:=hid (fun w'=>in_s (x.P.length:Int) 1 200 d4 hd4 w')
 have CN:=hid (fun w'=>nothing_s x q w' hm.l3)
 have CV:=hid (fun w' k=>vstore_s x.W x.S x.L x.T x.H x.F x.R x.U x.O q.s x.rs q.cs w' k hm.l3 hm.s3)
 unfold storeV at CN CV
 rw [hd1] at C1
 rw [hd2] at C2
 rw [hds] at CV
 rw [hdn] at CN
 unfold worldW
 have hE:Below w.heap.size w w:=Below.refl _ _
 cases d1 with
 | false =>
  rw [worldOk_no1 hd1]
  go_enter Tryz.func17,Tryz.ntmps17
  go_wp2_with fail
  generalize e_v1:w.alloc _=v1
  obtain ⟨hb,z_v1,bA⟩:=bx1 e_v1
  clear e_v1
  replace hE:=hE.trans (hb.mono hE.size)
  clear hb
  refine (C1.out _).mono ?_
  rintro e wz ⟨rfl,hwz⟩
  rw [hwz]
  clear hwz wz
  obtain ⟨q_bA_0,q_bA_1,q_bA_2,q_bA_3,q_bA_4,q_bA_5,q_bA_6,q_bA_7,q_bA_8,q_bA_9,q_bA_10,q_bA_11,q_bA_12,q_bA_13,q_bA_14,q_bA_15,q_bA_l⟩:=c16 bA.now
  go_wp2
  go_ret
  exact ⟨rfl,hE⟩
 | true =>
 cases d2 with
 | false =>
  rw [worldOk_no2 hd2]
  go_enter Tryz.func17,Tryz.ntmps17
  go_wp2_with fail
  generalize e_v1:w.alloc _=v1
  obtain ⟨hb,z_v1,bA⟩:=bx1 e_v1
  clear e_v1
  replace hE:=hE.trans (hb.mono hE.size)
  clear hb
  refine (C1.out _).mono ?_
  rintro e wz ⟨rfl,hwz⟩
  rw [hwz]
  clear hwz wz
  obtain ⟨q_bA_0,q_bA_1,q_bA_2,q_bA_3,q_bA_4,q_bA_5,q_bA_6,q_bA_7,q_bA_8,q_bA_9,q_bA_10,q_bA_11,q_bA_12,q_bA_13,q_bA_14,q_bA_15,q_bA_l⟩:=c16 bA.now
  go_wp2_with fail
  clear q_bA_0 q_bA_1 q_bA_2 q_bA_3 q_bA_4 q_bA_5 q_bA_6 q_bA_7 q_bA_8 q_bA_9 q_bA_10 q_bA_11 q_bA_12 q_bA_13 q_bA_14 q_bA_15 q_bA_l
  refine (C2.out _ (h.h1.below hE) (h.h2.below hE)).mono ?_
  rintro e v2 ⟨rfl,hb⟩
  have s_v2:v1.heap.size<=v2.heap.size:=hb.size
  replace bA:=bA.below hb
  replace hE:=hE.trans (hb.mono hE.size)
  clear hb
  obtain ⟨q_bA_0,q_bA_1,q_bA_2,q_bA_3,q_bA_4,q_bA_5,q_bA_6,q_bA_7,q_bA_8,q_bA_9,q_bA_10,q_bA_11,q_bA_12,q_bA_13,q_bA_14,q_bA_15,q_bA_l⟩:=c16 bA.now
  go_wp2
  go_ret
  exact ⟨rfl,hE⟩
 | true =>
 cases d4 with
 | false =>
  rw [worldOk_no4 (by unfold pastOk;rw [decide_eq_false (fun k=>of_decide_eq_false hd4 ⟨by omega,by omega⟩)];rfl)]
  go_enter Tryz.func17,Tryz.ntmps17
  go_wp2_with fail
  generalize e_v1:w.alloc _=v1
  obtain ⟨hb,z_v1,bA⟩:=bx1 e_v1
  clear e_v1
  replace hE:=hE.trans (hb.mono hE.size)
  clear hb
  refine (C1.out _).mono ?_
  rintro e wz ⟨rfl,hwz⟩
  rw [hwz]
  clear hwz wz
  obtain ⟨q_bA_0,q_bA_1,q_bA_2,q_bA_3,q_bA_4,q_bA_5,q_bA_6,q_bA_7,q_bA_8,q_bA_9,q_bA_10,q_bA_11,q_bA_12,q_bA_13,q_bA_14,q_bA_15,q_bA_l⟩:=c16 bA.now
  go_wp2_with fail
  clear q_bA_0 q_bA_1 q_bA_2 q_bA_3 q_bA_4 q_bA_5 q_bA_6 q_bA_7 q_bA_8 q_bA_9 q_bA_10 q_bA_11 q_bA_12 q_bA_13 q_bA_14 q_bA_15 q_bA_l
  refine (C2.out _ (h.h1.below hE) (h.h2.below hE)).mono ?_
  rintro e v2 ⟨rfl,hb⟩
  have s_v2:v1.heap.size<=v2.heap.size:=hb.size
  replace bA:=bA.below hb
  replace hE:=hE.trans (hb.mono hE.size)
  clear hb
  obtain ⟨q_bA_0,q_bA_1,q_bA_2,q_bA_3,q_bA_4,q_bA_5,q_bA_6,q_bA_7,q_bA_8,q_bA_9,q_bA_10,q_bA_11,q_bA_12,q_bA_13,q_bA_14,q_bA_15,q_bA_l⟩:=c16 bA.now
  go_wp2_with fail
  clear q_bA_0 q_bA_1 q_bA_2 q_bA_3 q_bA_4 q_bA_5 q_bA_6 q_bA_7 q_bA_8 q_bA_9 q_bA_10 q_bA_11 q_bA_12 q_bA_13 q_bA_14 q_bA_15 q_bA_l
  refine (C4.out _).mono ?_
  rintro e wz ⟨rfl,hwz⟩
  rw [hwz]
  clear hwz wz
  obtain ⟨q_bA_0,q_bA_1,q_bA_2,q_bA_3,q_bA_4,q_bA_5,q_bA_6,q_bA_7,q_bA_8,q_bA_9,q_bA_10,q_bA_11,q_bA_12,q_bA_13,q_bA_14,q_bA_15,q_bA_l⟩:=c16 bA.now
  go_wp2
  go_ret
  exact ⟨rfl,hE⟩
 | true =>
 have hP:1<=x.P.length/\x.P.length<=200:=by have:=of_decide_eq_true hd4;omega
 by_cases h20:2000<x.ts.length
 ·rw [worldOk_no5 (by unfold wrtOk;rw [decide_eq_false (by omega)];rfl)]
  have h20':(2000:Int)<(x.ts.length:Int):=by omega
  go_enter Tryz.func17,Tryz.ntmps17
  go_wp2_with fail
  generalize e_v1:w.alloc _=v1
  obtain ⟨hb,z_v1,bA⟩:=bx1 e_v1
  clear e_v1
  replace hE:=hE.trans (hb.mono hE.size)
  clear hb
  refine (C1.out _).mono ?_
  rintro e wz ⟨rfl,hwz⟩
  rw [hwz]
  clear hwz wz
  obtain ⟨q_bA_0,q_bA_1,q_bA_2,q_bA_3,q_bA_4,q_bA_5,q_bA_6,q_bA_7,q_bA_8,q_bA_9,q_bA_10,q_bA_11,q_bA_12,q_bA_13,q_bA_14,q_bA_15,q_bA_l⟩:=c16 bA.now
  go_wp2_with fail
  clear q_bA_0 q_bA_1 q_bA_2 q_bA_3 q_bA_4 q_bA_5 q_bA_6 q_bA_7 q_bA_8 q_bA_9 q_bA_10 q_bA_11 q_bA_12 q_bA_13 q_bA_14 q_bA_15 q_bA_l
  refine (C2.out _ (h.h1.below hE) (h.h2.below hE)).mono ?_
  rintro e v2 ⟨rfl,hb⟩
  have s_v2:v1.heap.size<=v2.heap.size:=hb.size
  replace bA:=bA.below hb
  replace hE:=hE.trans (hb.mono hE.size)
  clear hb
  obtain ⟨q_bA_0,q_bA_1,q_bA_2,q_bA_3,q_bA_4,q_bA_5,q_bA_6,q_bA_7,q_bA_8,q_bA_9,q_bA_10,q_bA_11,q_bA_12,q_bA_13,q_bA_14,q_bA_15,q_bA_l⟩:=c16 bA.now
  go_wp2_with fail
  clear q_bA_0 q_bA_1 q_bA_2 q_bA_3 q_bA_4 q_bA_5 q_bA_6 q_bA_7 q_bA_8 q_bA_9 q_bA_10 q_bA_11 q_bA_12 q_bA_13 q_bA_14 q_bA_15 q_bA_l
  refine (C4.out _).mono ?_
  rintro e wz ⟨rfl,hwz⟩
  rw [hwz]
  clear hwz wz
  obtain ⟨q_bA_0,q_bA_1,q_bA_2,q_bA_3,q_bA_4,q_bA_5,q_bA_6,q_bA_7,q_bA_8,q_bA_9,q_bA_10,q_bA_11,q_bA_12,q_bA_13,q_bA_14,q_bA_15,q_bA_l⟩:=c16 bA.now
  go_wp2
  go_ret
  exact ⟨rfl,hE⟩
 have h20':¬ (2000:Int)<(x.ts.length:Int):=by omega
 cases hup:x.up with
 | false =>
  cases dn with
  | false =>
   rw [worldOk_no3 (by rw [itsStore_down hup];exact hdn)]
   go_enter Tryz.func17,Tryz.ntmps17
   go_wp2_with fail
   generalize e_v1:w.alloc _=v1
   obtain ⟨hb,z_v1,bA⟩:=bx1 e_v1
   clear e_v1
   replace hE:=hE.trans (hb.mono hE.size)
   clear hb
   refine (C1.out _).mono ?_
   rintro e wz ⟨rfl,hwz⟩
   rw [hwz]
   clear hwz wz
   obtain ⟨q_bA_0,q_bA_1,q_bA_2,q_bA_3,q_bA_4,q_bA_5,q_bA_6,q_bA_7,q_bA_8,q_bA_9,q_bA_10,q_bA_11,q_bA_12,q_bA_13,q_bA_14,q_bA_15,q_bA_l⟩:=c16 bA.now
   go_wp2_with fail
   clear q_bA_0 q_bA_1 q_bA_2 q_bA_3 q_bA_4 q_bA_5 q_bA_6 q_bA_7 q_bA_8 q_bA_9 q_bA_10 q_bA_11 q_bA_12 q_bA_13 q_bA_14 q_bA_15 q_bA_l
   refine (C2.out _ (h.h1.below hE) (h.h2.below hE)).mono ?_
   rintro e v2 ⟨rfl,hb⟩
   have s_v2:v1.heap.size<=v2.heap.size:=hb.size
   replace bA:=bA.below hb
   replace hE:=hE.trans (hb.mono hE.size)
   clear hb
   obtain ⟨q_bA_0,q_bA_1,q_bA_2,q_bA_3,q_bA_4,q_bA_5,q_bA_6,q_bA_7,q_bA_8,q_bA_9,q_bA_10,q_bA_11,q_bA_12,q_bA_13,q_bA_14,q_bA_15,q_bA_l⟩:=c16 bA.now
   go_wp2_with fail
   clear q_bA_0 q_bA_1 q_bA_2 q_bA_3 q_bA_4 q_bA_5 q_bA_6 q_bA_7 q_bA_8 q_bA_9 q_bA_10 q_bA_11 q_bA_12 q_bA_13 q_bA_14 q_bA_15 q_bA_l
   refine (C4.out _).mono ?_
   rintro e wz ⟨rfl,hwz⟩
   rw [hwz]
   clear hwz wz
   obtain ⟨q_bA_0,q_bA_1,q_bA_2,q_bA_3,q_bA_4,q_bA_5,q_bA_6,q_bA_7,q_bA_8,q_bA_9,q_bA_10,q_bA_11,q_bA_12,q_bA_13,q_bA_14,q_bA_15,q_bA_l⟩:=c16 bA.now
   go_wp2_with fail
   clear q_bA_0 q_bA_1 q_bA_2 q_bA_3 q_bA_4 q_bA_5 q_bA_6 q_bA_7 q_bA_8 q_bA_9 q_bA_10 q_bA_11 q_bA_12 q_bA_13 q_bA_14 q_bA_15 q_bA_l
   refine (CN.out _).mono ?_
   rintro e v3 ⟨rfl,hb⟩
   have s_v3:v2.heap.size<=v3.heap.size:=hb.size
   replace bA:=bA.below hb
   replace hE:=hE.trans (hb.mono hE.size)
   clear hb
   obtain ⟨q_bA_0,q_bA_1,q_bA_2,q_bA_3,q_bA_4,q_bA_5,q_bA_6,q_bA_7,q_bA_8,q_bA_9,q_bA_10,q_bA_11,q_bA_12,q_bA_13,q_bA_14,q_bA_15,q_bA_l⟩:=c16 bA.now
   go_wp2
   go_ret
   exact ⟨rfl,hE⟩
  | true =>
   have hits:itsStore x=true:=by rw [itsStore_down hup];exact hdn
   go_enter Tryz.func17,Tryz.ntmps17
   go_wp2_with fail
   generalize e_v1:w.alloc _=v1
   obtain ⟨hb,z_v1,bA⟩:=bx1 e_v1
   clear e_v1
   replace hE:=hE.trans (hb.mono hE.size)
   clear hb
   refine (C1.out _).mono ?_
   rintro e wz ⟨rfl,hwz⟩
   rw [hwz]
   clear hwz wz
   obtain ⟨q_bA_0,q_bA_1,q_bA_2,q_bA_3,q_bA_4,q_bA_5,q_bA_6,q_bA_7,q_bA_8,q_bA_9,q_bA_10,q_bA_11,q_bA_12,q_bA_13,q_bA_14,q_bA_15,q_bA_l⟩:=c16 bA.now
   go_wp2_with fail
   clear q_bA_0 q_bA_1 q_bA_2 q_bA_3 q_bA_4 q_bA_5 q_bA_6 q_bA_7 q_bA_8 q_bA_9 q_bA_10 q_bA_11 q_bA_12 q_bA_13 q_bA_14 q_bA_15 q_bA_l
   refine (C2.out _ (h.h1.below hE) (h.h2.below hE)).mono ?_
   rintro e v2 ⟨rfl,hb⟩
   have s_v2:v1.heap.size<=v2.heap.size:=hb.size
   replace bA:=bA.below hb
   replace hE:=hE.trans (hb.mono hE.size)
   clear hb
   obtain ⟨q_bA_0,q_bA_1,q_bA_2,q_bA_3,q_bA_4,q_bA_5,q_bA_6,q_bA_7,q_bA_8,q_bA_9,q_bA_10,q_bA_11,q_bA_12,q_bA_13,q_bA_14,q_bA_15,q_bA_l⟩:=c16 bA.now
   go_wp2_with fail
   clear q_bA_0 q_bA_1 q_bA_2 q_bA_3 q_bA_4 q_bA_5 q_bA_6 q_bA_7 q_bA_8 q_bA_9 q_bA_10 q_bA_11 q_bA_12 q_bA_13 q_bA_14 q_bA_15 q_bA_l
   refine (C4.out _).mono ?_
   rintro e wz ⟨rfl,hwz⟩
   rw [hwz]
   clear hwz wz
   obtain ⟨q_bA_0,q_bA_1,q_bA_2,q_bA_3,q_bA_4,q_bA_5,q_bA_6,q_bA_7,q_bA_8,q_bA_9,q_bA_10,q_bA_11,q_bA_12,q_bA_13,q_bA_14,q_bA_15,q_bA_l⟩:=c16 bA.now
   go_wp2_with fail
   clear q_bA_0 q_bA_1 q_bA_2 q_bA_3 q_bA_4 q_bA_5 q_bA_6 q_bA_7 q_bA_8 q_bA_9 q_bA_10 q_bA_11 q_bA_12 q_bA_13 q_bA_14 q_bA_15 q_bA_l
   refine (CN.out _).mono ?_
   rintro e v3 ⟨rfl,hb⟩
   have s_v3:v2.heap.size<=v3.heap.size:=hb.size
   replace bA:=bA.below hb
   replace hE:=hE.trans (hb.mono hE.size)
   clear hb
   have HBA:=hid bA
   obtain ⟨q_bA_0,q_bA_1,q_bA_2,q_bA_3,q_bA_4,q_bA_5,q_bA_6,q_bA_7,q_bA_8,q_bA_9,q_bA_10,q_bA_11,q_bA_12,q_bA_13,q_bA_14,q_bA_15,q_bA_l⟩:=c16 bA.now
   go_wp2
   clear q_bA_0 q_bA_1 q_bA_2 q_bA_3 q_bA_4 q_bA_5 q_bA_6 q_bA_7 q_bA_8 q_bA_9 q_bA_10 q_bA_11 q_bA_12 q_bA_13 q_bA_14 q_bA_15 q_bA_l
   go_loopw [3] (fun i wr=>∃ k:Nat,k<=x.P.length/\i=.int .i64 (k:Int)/\Hid (∀ j,j<k->stateOk (x.P.getD j [])=true)/\Hid (Below v3.heap.size v3 wr)) (fun i _=>x.P.length-(intOf i).toNat)
   case atStart=>exact ⟨0,Nat.zero_le _,rfl,fun j hj=>absurd hj (by omega),Below.refl _ _⟩
   case round =>
    obtain ⟨k,hk,rfl,HA,HBW⟩:=hrel
    have hEw:=hE.trans (HBW.out.mono hE.size)
    by_cases hlt:k<x.P.length
    ·have hk1:(k:Int)<(x.P.length:Int):=by omega
     obtain ⟨b,o,p,cp,hpe,hb0,hc0,HP⟩:=(h.h4.below hEw).at hlt
     obtain ⟨rs,HRS⟩:∃ rs,Hid (rs=x.P.getD k []):=⟨_,hid rfl⟩
     rw [<-HRS.out] at hc0 HP
     have hmem:rs∈x.P:=by rw [HRS.out];simp [List.getD,hlt]
     have HV:=hid (vstate_s p rs cp wr HP.out (hm.s4 rs hmem).1 (hm.s4 rs hmem).2)
     have q14:=(HBA.out.below HBW.out).now.cell 14 _ rfl
     rw [hpe] at q14
     clear hpe
     cases hst:stateOk rs with
     | false =>
      rw [hst] at HV
      have e:=worldOk_no4 (x:=x) (pastOk_no k hlt (by rw [<-HRS.out];exact hst))
      go_wp2_with (go_at_call 44;refine HV.out.mono ?_;rintro e w2 ⟨rfl,hb2⟩)
      go_ret
      exact ⟨by first | rfl | (rw [e];rfl),hEw.trans (hb2.mono hEw.size)⟩
     | true =>
      rw [hst] at HV
      go_wp2_with (go_at_call 44;refine HV.out.mono ?_;rintro e w2 ⟨rfl,hb2⟩)
      go_roundw
      case rel=>exact ⟨k+1,by omega,by go_num,fun j hj=>by
       by_cases e:j=k
       ·subst e;rw [<-HRS.out];exact hst
       ·exact HA.out j (by omega),HBW.out.trans (hb2.mono HBW.out.size)⟩
      case measure=>simp [intOf];omega
    ·have hk1:¬ (k:Int)<(x.P.length:Int):=by omega
     have hp4:=pastOk_yes hP (fun j hj=>HA.out j (by omega))
     have q14:=(HBA.out.below HBW.out).now.cell 14 _ rfl
     go_wp2
     go_loopw [4] (fun i w5=>∃ k:Nat,k<=x.ts.length/\i=.int .i64 (k:Int)/\Hid (∀ j,j<k->(x.ts.getD j ByteArray.empty).size=64)/\w5=wr) (fun i _=>x.ts.length-(intOf i).toNat)
     case atStart=>exact ⟨0,Nat.zero_le _,rfl,fun j hj=>absurd hj (by omega),by first | rfl | trivial⟩
     case round =>
      obtain ⟨k5,hk5,rfl,HA5,hw5⟩:=hrel
      subst hw5
      have q15:=(HBA.out.below HBW.out).now.cell 15 _ rfl
      by_cases hlt5:k5<x.ts.length
      ·have hk51:(k5:Int)<(x.ts.length:Int):=by omega
       obtain ⟨b,o,s,hte,hc,HS⟩:=(h.h5.below hEw).at hlt5
       rw [hte] at q15
       clear hte
       have hsz:=hm.s5 s (by rw [HS.out];simp [List.getD,hlt5])
       by_cases h64:s.size=64
       ·have h64':(s.size:Int)=64:=by omega
        go_wp2
        go_roundw
        case rel=>exact ⟨k5+1,by omega,by go_num,fun j hj=>by
         by_cases e:j=k5
         ·subst e;rw [<-HS.out];exact h64
         ·exact HA5.out j (by omega),by first | rfl | trivial⟩
        case measure=>simp [intOf];omega
       ·have h64':¬ (s.size:Int)=64:=by omega
        have e:=worldOk_no5 (x:=x) (wrtOk_no k5 hlt5 (by rw [<-HS.out];exact h64))
        go_wp2
        go_ret
        exact ⟨by first | rfl | (rw [e];rfl),hEw⟩
      ·have hk51:¬ (k5:Int)<(x.ts.length:Int):=by omega
       have e:=worldOk_yes hd1 hd2 hits hp4 (wrtOk_yes (by omega) (fun j hj=>HA5.out j (by omega)))
       go_wp2
       go_ret
       exact ⟨by first | rfl | (rw [e];rfl),hEw⟩
 | true =>
  cases ds with
  | false =>
   rw [worldOk_no3 (by rw [itsStore_up hup,hds];rfl)]
   go_enter Tryz.func17,Tryz.ntmps17
   go_wp2_with fail
   generalize e_v1:w.alloc _=v1
   obtain ⟨hb,z_v1,bA⟩:=bx1 e_v1
   clear e_v1
   replace hE:=hE.trans (hb.mono hE.size)
   clear hb
   refine (C1.out _).mono ?_
   rintro e wz ⟨rfl,hwz⟩
   rw [hwz]
   clear hwz wz
   obtain ⟨q_bA_0,q_bA_1,q_bA_2,q_bA_3,q_bA_4,q_bA_5,q_bA_6,q_bA_7,q_bA_8,q_bA_9,q_bA_10,q_bA_11,q_bA_12,q_bA_13,q_bA_14,q_bA_15,q_bA_l⟩:=c16 bA.now
   go_wp2_with fail
   clear q_bA_0 q_bA_1 q_bA_2 q_bA_3 q_bA_4 q_bA_5 q_bA_6 q_bA_7 q_bA_8 q_bA_9 q_bA_10 q_bA_11 q_bA_12 q_bA_13 q_bA_14 q_bA_15 q_bA_l
   refine (C2.out _ (h.h1.below hE) (h.h2.below hE)).mono ?_
   rintro e v2 ⟨rfl,hb⟩
   have s_v2:v1.heap.size<=v2.heap.size:=hb.size
   replace bA:=bA.below hb
   replace hE:=hE.trans (hb.mono hE.size)
   clear hb
   obtain ⟨q_bA_0,q_bA_1,q_bA_2,q_bA_3,q_bA_4,q_bA_5,q_bA_6,q_bA_7,q_bA_8,q_bA_9,q_bA_10,q_bA_11,q_bA_12,q_bA_13,q_bA_14,q_bA_15,q_bA_l⟩:=c16 bA.now
   go_wp2_with fail
   clear q_bA_0 q_bA_1 q_bA_2 q_bA_3 q_bA_4 q_bA_5 q_bA_6 q_bA_7 q_bA_8 q_bA_9 q_bA_10 q_bA_11 q_bA_12 q_bA_13 q_bA_14 q_bA_15 q_bA_l
   refine (C4.out _).mono ?_
   rintro e wz ⟨rfl,hwz⟩
   rw [hwz]
   clear hwz wz
   obtain ⟨q_bA_0,q_bA_1,q_bA_2,q_bA_3,q_bA_4,q_bA_5,q_bA_6,q_bA_7,q_bA_8,q_bA_9,q_bA_10,q_bA_11,q_bA_12,q_bA_13,q_bA_14,q_bA_15,q_bA_l⟩:=c16 bA.now
   go_wp2_with fail
   clear q_bA_0 q_bA_1 q_bA_2 q_bA_3 q_bA_4 q_bA_5 q_bA_6 q_bA_7 q_bA_8 q_bA_9 q_bA_10 q_bA_11 q_bA_12 q_bA_13 q_bA_14 q_bA_15 q_bA_l
   refine (CV.out _ (h.h3.below hE)).mono ?_
   rintro e v3 ⟨rfl,hb⟩
   have s_v3:v2.heap.size<=v3.heap.size:=hb.size
   replace bA:=bA.below hb
   replace hE:=hE.trans (hb.mono hE.size)
   clear hb
   obtain ⟨q_bA_0,q_bA_1,q_bA_2,q_bA_3,q_bA_4,q_bA_5,q_bA_6,q_bA_7,q_bA_8,q_bA_9,q_bA_10,q_bA_11,q_bA_12,q_bA_13,q_bA_14,q_bA_15,q_bA_l⟩:=c16 bA.now
   go_wp2
   go_ret
   exact ⟨rfl,hE⟩
  | true =>
   by_cases hw:x.W=x.w
   rotate_left
   ·rw [worldOk_no3 (by rw [itsStore_up hup,hds,decide_eq_false (fun k=>hw k.1)];rfl)]
    go_enter Tryz.func17,Tryz.ntmps17
    go_wp2_with fail
    generalize e_v1:w.alloc _=v1
    obtain ⟨hb,z_v1,bA⟩:=bx1 e_v1
    clear e_v1
    replace hE:=hE.trans (hb.mono hE.size)
    clear hb
    refine (C1.out _).mono ?_
    rintro e wz ⟨rfl,hwz⟩
    rw [hwz]
    clear hwz wz
    obtain ⟨q_bA_0,q_bA_1,q_bA_2,q_bA_3,q_bA_4,q_bA_5,q_bA_6,q_bA_7,q_bA_8,q_bA_9,q_bA_10,q_bA_11,q_bA_12,q_bA_13,q_bA_14,q_bA_15,q_bA_l⟩:=c16 bA.now
    go_wp2_with fail
    clear q_bA_0 q_bA_1 q_bA_2 q_bA_3 q_bA_4 q_bA_5 q_bA_6 q_bA_7 q_bA_8 q_bA_9 q_bA_10 q_bA_11 q_bA_12 q_bA_13 q_bA_14 q_bA_15 q_bA_l
    refine (C2.out _ (h.h1.below hE) (h.h2.below hE)).mono ?_
    rintro e v2 ⟨rfl,hb⟩
    have s_v2:v1.heap.size<=v2.heap.size:=hb.size
    replace bA:=bA.below hb
    replace hE:=hE.trans (hb.mono hE.size)
    clear hb
    obtain ⟨q_bA_0,q_bA_1,q_bA_2,q_bA_3,q_bA_4,q_bA_5,q_bA_6,q_bA_7,q_bA_8,q_bA_9,q_bA_10,q_bA_11,q_bA_12,q_bA_13,q_bA_14,q_bA_15,q_bA_l⟩:=c16 bA.now
    go_wp2_with fail
    clear q_bA_0 q_bA_1 q_bA_2 q_bA_3 q_bA_4 q_bA_5 q_bA_6 q_bA_7 q_bA_8 q_bA_9 q_bA_10 q_bA_11 q_bA_12 q_bA_13 q_bA_14 q_bA_15 q_bA_l
    refine (C4.out _).mono ?_
    rintro e wz ⟨rfl,hwz⟩
    rw [hwz]
    clear hwz wz
    obtain ⟨q_bA_0,q_bA_1,q_bA_2,q_bA_3,q_bA_4,q_bA_5,q_bA_6,q_bA_7,q_bA_8,q_bA_9,q_bA_10,q_bA_11,q_bA_12,q_bA_13,q_bA_14,q_bA_15,q_bA_l⟩:=c16 bA.now
    go_wp2_with fail
    clear q_bA_0 q_bA_1 q_bA_2 q_bA_3 q_bA_4 q_bA_5 q_bA_6 q_bA_7 q_bA_8 q_bA_9 q_bA_10 q_bA_11 q_bA_12 q_bA_13 q_bA_14 q_bA_15 q_bA_l
    refine (CV.out _ (h.h3.below hE)).mono ?_
    rintro e v3 ⟨rfl,hb⟩
    have s_v3:v2.heap.size<=v3.heap.size:=hb.size
    replace bA:=bA.below hb
    replace hE:=hE.trans (hb.mono hE.size)
    clear hb
    obtain ⟨q_bA_0,q_bA_1,q_bA_2,q_bA_3,q_bA_4,q_bA_5,q_bA_6,q_bA_7,q_bA_8,q_bA_9,q_bA_10,q_bA_11,q_bA_12,q_bA_13,q_bA_14,q_bA_15,q_bA_l⟩:=c16 bA.now
    go_wp2
    go_ret
    exact ⟨rfl,hE⟩
   by_cases hs:x.S=(x.ss.length:Int)
   rotate_left
   ·rw [worldOk_no3 (by rw [itsStore_up hup,hds,decide_eq_false (fun k=>hs k.2)];rfl)]
    have H_hw:=hid hw
    clear hw
    go_enter Tryz.func17,Tryz.ntmps17
    go_wp2_with fail
    generalize e_v1:w.alloc _=v1
    obtain ⟨hb,z_v1,bA⟩:=bx1 e_v1
    clear e_v1
    replace hE:=hE.trans (hb.mono hE.size)
    clear hb
    refine (C1.out _).mono ?_
    rintro e wz ⟨rfl,hwz⟩
    rw [hwz]
    clear hwz wz
    obtain ⟨q_bA_0,q_bA_1,q_bA_2,q_bA_3,q_bA_4,q_bA_5,q_bA_6,q_bA_7,q_bA_8,q_bA_9,q_bA_10,q_bA_11,q_bA_12,q_bA_13,q_bA_14,q_bA_15,q_bA_l⟩:=c16 bA.now
    go_wp2_with fail
    clear q_bA_0 q_bA_1 q_bA_2 q_bA_3 q_bA_4 q_bA_5 q_bA_6 q_bA_7 q_bA_8 q_bA_9 q_bA_10 q_bA_11 q_bA_12 q_bA_13 q_bA_14 q_bA_15 q_bA_l
    refine (C2.out _ (h.h1.below hE) (h.h2.below hE)).mono ?_
    rintro e v2 ⟨rfl,hb⟩
    have s_v2:v1.heap.size<=v2.heap.size:=hb.size
    replace bA:=bA.below hb
    replace hE:=hE.trans (hb.mono hE.size)
    clear hb
    obtain ⟨q_bA_0,q_bA_1,q_bA_2,q_bA_3,q_bA_4,q_bA_5,q_bA_6,q_bA_7,q_bA_8,q_bA_9,q_bA_10,q_bA_11,q_bA_12,q_bA_13,q_bA_14,q_bA_15,q_bA_l⟩:=c16 bA.now
    go_wp2_with fail
    clear q_bA_0 q_bA_1 q_bA_2 q_bA_3 q_bA_4 q_bA_5 q_bA_6 q_bA_7 q_bA_8 q_bA_9 q_bA_10 q_bA_11 q_bA_12 q_bA_13 q_bA_14 q_bA_15 q_bA_l
    refine (C4.out _).mono ?_
    rintro e wz ⟨rfl,hwz⟩
    rw [hwz]
    clear hwz wz
    obtain ⟨q_bA_0,q_bA_1,q_bA_2,q_bA_3,q_bA_4,q_bA_5,q_bA_6,q_bA_7,q_bA_8,q_bA_9,q_bA_10,q_bA_11,q_bA_12,q_bA_13,q_bA_14,q_bA_15,q_bA_l⟩:=c16 bA.now
    go_wp2_with fail
    clear q_bA_0 q_bA_1 q_bA_2 q_bA_3 q_bA_4 q_bA_5 q_bA_6 q_bA_7 q_bA_8 q_bA_9 q_bA_10 q_bA_11 q_bA_12 q_bA_13 q_bA_14 q_bA_15 q_bA_l
    refine (CV.out _ (h.h3.below hE)).mono ?_
    rintro e v3 ⟨rfl,hb⟩
    have s_v3:v2.heap.size<=v3.heap.size:=hb.size
    replace bA:=bA.below hb
    replace hE:=hE.trans (hb.mono hE.size)
    clear hb
    have hw:=H_hw.out
    obtain ⟨q_bA_0,q_bA_1,q_bA_2,q_bA_3,q_bA_4,q_bA_5,q_bA_6,q_bA_7,q_bA_8,q_bA_9,q_bA_10,q_bA_11,q_bA_12,q_bA_13,q_bA_14,q_bA_15,q_bA_l⟩:=c16 bA.now
    go_wp2
    go_ret
    exact ⟨rfl,hE⟩
   have hits:itsStore x=true:=by rw [itsStore_up hup,hds,decide_eq_true ⟨hw,hs⟩];rfl
   have H_hw:=hid hw
   have H_hs:=hid hs
   clear hw hs
   go_enter Tryz.func17,Tryz.ntmps17
   go_wp2_with fail
   generalize e_v1:w.alloc _=v1
   obtain ⟨hb,z_v1,bA⟩:=bx1 e_v1
   clear e_v1
   replace hE:=hE.trans (hb.mono hE.size)
   clear hb
   refine (C1.out _).mono ?_
   rintro e wz ⟨rfl,hwz⟩
   rw [hwz]
   clear hwz wz
   obtain ⟨q_bA_0,q_bA_1,q_bA_2,q_bA_3,q_bA_4,q_bA_5,q_bA_6,q_bA_7,q_bA_8,q_bA_9,q_bA_10,q_bA_11,q_bA_12,q_bA_13,q_bA_14,q_bA_15,q_bA_l⟩:=c16 bA.now
   go_wp2_with fail
   clear q_bA_0 q_bA_1 q_bA_2 q_bA_3 q_bA_4 q_bA_5 q_bA_6 q_bA_7 q_bA_8 q_bA_9 q_bA_10 q_bA_11 q_bA_12 q_bA_13 q_bA_14 q_bA_15 q_bA_l
   refine (C2.out _ (h.h1.below hE) (h.h2.below hE)).mono ?_
   rintro e v2 ⟨rfl,hb⟩
   have s_v2:v1.heap.size<=v2.heap.size:=hb.size
   replace bA:=bA.below hb
   replace hE:=hE.trans (hb.mono hE.size)
   clear hb
   obtain ⟨q_bA_0,q_bA_1,q_bA_2,q_bA_3,q_bA_4,q_bA_5,q_bA_6,q_bA_7,q_bA_8,q_bA_9,q_bA_10,q_bA_11,q_bA_12,q_bA_13,q_bA_14,q_bA_15,q_bA_l⟩:=c16 bA.now
   go_wp2_with fail
   clear q_bA_0 q_bA_1 q_bA_2 q_bA_3 q_bA_4 q_bA_5 q_bA_6 q_bA_7 q_bA_8 q_bA_9 q_bA_10 q_bA_11 q_bA_12 q_bA_13 q_bA_14 q_bA_15 q_bA_l
   refine (C4.out _).mono ?_
   rintro e wz ⟨rfl,hwz⟩
   rw [hwz]
   clear hwz wz
   obtain ⟨q_bA_0,q_bA_1,q_bA_2,q_bA_3,q_bA_4,q_bA_5,q_bA_6,q_bA_7,q_bA_8,q_bA_9,q_bA_10,q_bA_11,q_bA_12,q_bA_13,q_bA_14,q_bA_15,q_bA_l⟩:=c16 bA.now
   go_wp2_with fail
   clear q_bA_0 q_bA_1 q_bA_2 q_bA_3 q_bA_4 q_bA_5 q_bA_6 q_bA_7 q_bA_8 q_bA_9 q_bA_10 q_bA_11 q_bA_12 q_bA_13 q_bA_14 q_bA_15 q_bA_l
   refine (CV.out _ (h.h3.below hE)).mono ?_
   rintro e v3 ⟨rfl,hb⟩
   have s_v3:v2.heap.size<=v3.heap.size:=hb.size
   replace bA:=bA.below hb
   replace hE:=hE.trans (hb.mono hE.size)
   clear hb
   have hw:=H_hw.out
   have hs:=H_hs.out
   have HBA:=hid bA
   obtain ⟨q_bA_0,q_bA_1,q_bA_2,q_bA_3,q_bA_4,q_bA_5,q_bA_6,q_bA_7,q_bA_8,q_bA_9,q_bA_10,q_bA_11,q_bA_12,q_bA_13,q_bA_14,q_bA_15,q_bA_l⟩:=c16 bA.now
   go_wp2
   clear q_bA_0 q_bA_1 q_bA_2 q_bA_3 q_bA_4 q_bA_5 q_bA_6 q_bA_7 q_bA_8 q_bA_9 q_bA_10 q_bA_11 q_bA_12 q_bA_13 q_bA_14 q_bA_15 q_bA_l
   go_loopw [3] (fun i wr=>∃ k:Nat,k<=x.P.length/\i=.int .i64 (k:Int)/\Hid (∀ j,j<k->stateOk (x.P.getD j [])=true)/\Hid (Below v3.heap.size v3 wr)) (fun i _=>x.P.length-(intOf i).toNat)
   case atStart=>exact ⟨0,Nat.zero_le _,rfl,fun j hj=>absurd hj (by omega),Below.refl _ _⟩
   case round =>
    obtain ⟨k,hk,rfl,HA,HBW⟩:=hrel
    have hEw:=hE.trans (HBW.out.mono hE.size)
    by_cases hlt:k<x.P.length
    ·have hk1:(k:Int)<(x.P.length:Int):=by omega
     obtain ⟨b,o,p,cp,hpe,hb0,hc0,HP⟩:=(h.h4.below hEw).at hlt
     obtain ⟨rs,HRS⟩:∃ rs,Hid (rs=x.P.getD k []):=⟨_,hid rfl⟩
     rw [<-HRS.out] at hc0 HP
     have hmem:rs∈x.P:=by rw [HRS.out];simp [List.getD,hlt]
     have HV:=hid (vstate_s p rs cp wr HP.out (hm.s4 rs hmem).1 (hm.s4 rs hmem).2)
     have q14:=(HBA.out.below HBW.out).now.cell 14 _ rfl
     rw [hpe] at q14
     clear hpe
     cases hst:stateOk rs with
     | false =>
      rw [hst] at HV
      have e:=worldOk_no4 (x:=x) (pastOk_no k hlt (by rw [<-HRS.out];exact hst))
      go_wp2_with (go_at_call 44;refine HV.out.mono ?_;rintro e w2 ⟨rfl,hb2⟩)
      go_ret
      exact ⟨by first | rfl | (rw [e];rfl),hEw.trans (hb2.mono hEw.size)⟩
     | true =>
      rw [hst] at HV
      go_wp2_with (go_at_call 44;refine HV.out.mono ?_;rintro e w2 ⟨rfl,hb2⟩)
      go_roundw
      case rel=>exact ⟨k+1,by omega,by go_num,fun j hj=>by
       by_cases e:j=k
       ·subst e;rw [<-HRS.out];exact hst
       ·exact HA.out j (by omega),HBW.out.trans (hb2.mono HBW.out.size)⟩
      case measure=>simp [intOf];omega
    ·have hk1:¬ (k:Int)<(x.P.length:Int):=by omega
     have hp4:=pastOk_yes hP (fun j hj=>HA.out j (by omega))
     have q14:=(HBA.out.below HBW.out).now.cell 14 _ rfl
     go_wp2
     go_loopw [4] (fun i w5=>∃ k:Nat,k<=x.ts.length/\i=.int .i64 (k:Int)/\Hid (∀ j,j<k->(x.ts.getD j ByteArray.empty).size=64)/\w5=wr) (fun i _=>x.ts.length-(intOf i).toNat)
     case atStart=>exact ⟨0,Nat.zero_le _,rfl,fun j hj=>absurd hj (by omega),by first | rfl | trivial⟩
     case round =>
      obtain ⟨k5,hk5,rfl,HA5,hw5⟩:=hrel
      subst hw5
      have q15:=(HBA.out.below HBW.out).now.cell 15 _ rfl
      by_cases hlt5:k5<x.ts.length
      ·have hk51:(k5:Int)<(x.ts.length:Int):=by omega
       obtain ⟨b,o,s,hte,hc,HS⟩:=(h.h5.below hEw).at hlt5
       rw [hte] at q15
       clear hte
       have hsz:=hm.s5 s (by rw [HS.out];simp [List.getD,hlt5])
       by_cases h64:s.size=64
       ·have h64':(s.size:Int)=64:=by omega
        go_wp2
        go_roundw
        case rel=>exact ⟨k5+1,by omega,by go_num,fun j hj=>by
         by_cases e:j=k5
         ·subst e;rw [<-HS.out];exact h64
         ·exact HA5.out j (by omega),by first | rfl | trivial⟩
        case measure=>simp [intOf];omega
       ·have h64':¬ (s.size:Int)=64:=by omega
        have e:=worldOk_no5 (x:=x) (wrtOk_no k5 hlt5 (by rw [<-HS.out];exact h64))
        go_wp2
        go_ret
        exact ⟨by first | rfl | (rw [e];rfl),hEw⟩
      ·have hk51:¬ (k5:Int)<(x.ts.length:Int):=by omega
       have e:=worldOk_yes hd1 hd2 hits hp4 (wrtOk_yes (by omega) (fun j hj=>HA5.out j (by omega)))
       go_wp2
       go_ret
       exact ⟨by first | rfl | (rw [e];rfl),hEw⟩
end Go.Proofs.YtcoegjnjjdndjaaGreatDoor
