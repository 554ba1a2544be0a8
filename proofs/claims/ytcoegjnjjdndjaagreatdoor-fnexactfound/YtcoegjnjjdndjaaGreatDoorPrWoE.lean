import Derived.Test.YtcoegjnjjdndjaaGreatDoorPrG27
namespace Go.Proofs.YtcoegjnjjdndjaaGreatDoor
open Go.RowKit
set_option maxRecDepth 8000
set_option linter.unusedVariables false
set_option linter.unusedSimpArgs false
theorem beq_no {a b:Int} (h:¬ a=b):(a == b)=false:=beq_eq_false_iff_ne.2 h
set_option maxHeartbeats 4000000 in
theorem has_i (x:Wo) (q:Wp) (w:World) (h:x.at w q) (hc:x.rs.length<=q.cs) (hm:x.le 1048576) :
  Calls Tryz.prog 59 #[worldW x q] w fun e w'=>e=.returned (.bool (itsStore x))/\Below w.heap.size w w':=by
 unfold worldW
 have hE:Below w.heap.size w w:=Below.refl _ _
 have CN:=hid (fun w'=>nothing_i x q w' hm.l3)
 have CV:=hid (fun w' k=>vstore_i x.W x.S x.L x.T x.H x.F x.R x.U x.O q.s x.rs q.cs w' k hc hm.l3 hm.s3)
 unfold storeV at CN CV
 have hl1:=hm.l1
 cases hup:x.up with
 | false =>
  have e:itsStore x=noStore x:=by simp [itsStore,hup]
  rw [e]
  clear e
  go_enter Tryz.func59,Tryz.ntmps59
  go_wp2_with fail
  generalize e_v1:w.alloc _=v1
  obtain ⟨hb,z_v1,bA⟩:=bx1 e_v1
  clear e_v1
  replace hE:=hE.trans (hb.mono hE.size)
  clear hb
  refine (CN.out _).mono ?_
  rintro e v2 ⟨rfl,hb⟩
  have s_v2:v1.heap.size<=v2.heap.size:=hb.size
  replace bA:=bA.below hb
  replace hE:=hE.trans (hb.mono hE.size)
  clear hb
  go_wp2
  go_ret
  exact ⟨rfl,hE⟩
 | true =>
  cases hst:storeOk x.W x.S x.L x.T x.H x.F x.R x.U x.O x.rs with
  | false =>
   have e:itsStore x=false:=by simp [itsStore,hup,hst]
   rw [e]
   rw [hst] at CV
   clear e
   go_enter Tryz.func59,Tryz.ntmps59
   go_wp2_with fail
   generalize e_v1:w.alloc _=v1
   obtain ⟨hb,z_v1,bA⟩:=bx1 e_v1
   clear e_v1
   replace hE:=hE.trans (hb.mono hE.size)
   clear hb
   refine (CV.out _ (h.h3.below hE)).mono ?_
   rintro e v2 ⟨rfl,hb⟩
   have s_v2:v1.heap.size<=v2.heap.size:=hb.size
   replace bA:=bA.below hb
   replace hE:=hE.trans (hb.mono hE.size)
   clear hb
   obtain ⟨q_bA_0,q_bA_1,q_bA_2,q_bA_3,q_bA_4,q_bA_5,q_bA_6,q_bA_7,q_bA_8,q_bA_9,q_bA_10,q_bA_11,q_bA_12,q_bA_13,q_bA_14,q_bA_15,q_bA_l⟩:=c16 bA.now
   go_wp2
   go_ret
   exact ⟨rfl,hE⟩
  | true =>
   rw [hst] at CV
   by_cases hw:x.W=x.w
   rotate_left
   ·have e:itsStore x=false:=by simp [itsStore,hup,hst,hw]
    rw [e]
    clear e
    go_enter Tryz.func59,Tryz.ntmps59
    go_wp2_with fail
    generalize e_v1:w.alloc _=v1
    obtain ⟨hb,z_v1,bA⟩:=bx1 e_v1
    clear e_v1
    replace hE:=hE.trans (hb.mono hE.size)
    clear hb
    refine (CV.out _ (h.h3.below hE)).mono ?_
    rintro e v2 ⟨rfl,hb⟩
    have s_v2:v1.heap.size<=v2.heap.size:=hb.size
    replace bA:=bA.below hb
    replace hE:=hE.trans (hb.mono hE.size)
    clear hb
    obtain ⟨q_bA_0,q_bA_1,q_bA_2,q_bA_3,q_bA_4,q_bA_5,q_bA_6,q_bA_7,q_bA_8,q_bA_9,q_bA_10,q_bA_11,q_bA_12,q_bA_13,q_bA_14,q_bA_15,q_bA_l⟩:=c16 bA.now
    go_wp2
    go_ret
    exact ⟨rfl,hE⟩
   by_cases hs:x.S=(x.ss.length:Int)
   rotate_left
   ·have e:itsStore x=false:=by unfold itsStore;rw [if_pos hup,hst,decide_eq_false (fun k=>hs k.2)];rfl
    rw [e]
    clear e
    have H_hw:=hid hw
    clear hw
    have H_hs:=hid hs
    clear hs
    go_enter Tryz.func59,Tryz.ntmps59
    go_wp2_with fail
    generalize e_v1:w.alloc _=v1
    obtain ⟨hb,z_v1,bA⟩:=bx1 e_v1
    clear e_v1
    replace hE:=hE.trans (hb.mono hE.size)
    clear hb
    refine (CV.out _ (h.h3.below hE)).mono ?_
    rintro e v2 ⟨rfl,hb⟩
    have s_v2:v1.heap.size<=v2.heap.size:=hb.size
    replace bA:=bA.below hb
    replace hE:=hE.trans (hb.mono hE.size)
    clear hb
    have hw:=H_hw.out
    have hs:=H_hs.out
    obtain ⟨q_bA_0,q_bA_1,q_bA_2,q_bA_3,q_bA_4,q_bA_5,q_bA_6,q_bA_7,q_bA_8,q_bA_9,q_bA_10,q_bA_11,q_bA_12,q_bA_13,q_bA_14,q_bA_15,q_bA_l⟩:=c16 bA.now
    go_wp2
    go_ret
    have e6:(x.S == (x.ss.length:Int))=false:=beq_no hs
    exact ⟨by show Ending.returned (Value.bool (x.S == (x.ss.length:Int)))=_;rw [e6],hE⟩
   have e:itsStore x=true:=by unfold itsStore;rw [if_pos hup,hst,decide_eq_true ⟨hw,hs⟩];rfl
   rw [e]
   clear e
   have H_hw:=hid hw
   clear hw
   have H_hs:=hid hs
   clear hs
   go_enter Tryz.func59,Tryz.ntmps59
   go_wp2_with fail
   generalize e_v1:w.alloc _=v1
   obtain ⟨hb,z_v1,bA⟩:=bx1 e_v1
   clear e_v1
   replace hE:=hE.trans (hb.mono hE.size)
   clear hb
   refine (CV.out _ (h.h3.below hE)).mono ?_
   rintro e v2 ⟨rfl,hb⟩
   have s_v2:v1.heap.size<=v2.heap.size:=hb.size
   replace bA:=bA.below hb
   replace hE:=hE.trans (hb.mono hE.size)
   clear hb
   have hw:=H_hw.out
   have hs:=H_hs.out
   obtain ⟨q_bA_0,q_bA_1,q_bA_2,q_bA_3,q_bA_4,q_bA_5,q_bA_6,q_bA_7,q_bA_8,q_bA_9,q_bA_10,q_bA_11,q_bA_12,q_bA_13,q_bA_14,q_bA_15,q_bA_l⟩:=c16 bA.now
   go_wp2
   go_ret
   exact ⟨rfl,hE⟩
set_option maxHeartbeats 8000000 in
theorem vworld_i (x:Wo) (q:Wp) (w:World) (h:x.at w q) (hc:x.rs.length<=q.cs) (hm:x.le 1048576) :
  Calls Tryz.prog 24 #[worldW x q] w fun e w'=>e=.returned (.bool (worldOk x))/\Below w.heap.size w w':=by
 have C1:=hid (width_i x.w)
 have C2:=hid (fun w' k1 k2=>valid_i q.a x.ss q.c q.a' x.ws q.c' w' k1 k2 hm.l1 hm.l2 hm.s1 hm.s2)
 have C3:=hid (fun w' k=>has_i x q w' k hc hm)
 have C4:=hid (fun w' k=>past_i q.p x.P q.cp w' k hm.l4 hm.s4)
 have C5:=hid (fun w' k=>wrt_i q.t x.ts q.ct w' k hm.l5 hm.s5)
 unfold worldW at C3 ⊢
 have hE:Below w.heap.size w w:=Below.refl _ _
 by_cases b1:(decide (1<=x.w/\x.w<=8))=true
 rotate_left
 ·have b1':=Bool.eq_false_iff.2 b1
  have e:worldOk x=false:=by unfold worldOk;rw [b1'];rfl
  rw [e]
  rw [b1'] at C1
  clear e
  go_enter Tryz.func24,Tryz.ntmps24
  go_wp2_with fail
  generalize e_v1:w.alloc _=v1
  obtain ⟨hb,z_v1,bA⟩:=bx1 e_v1
  clear e_v1
  replace hE:=hE.trans (hb.mono hE.size)
  clear hb
  refine (C1.out _).mono ?_
  rintro e wz ⟨rfl,hwz⟩
  rw [hwz]
  clear hwz wz
  obtain ⟨q_bA_0,q_bA_1,q_bA_2,q_bA_3,q_bA_4,q_bA_5,q_bA_6,q_bA_7,q_bA_8,q_bA_9,q_bA_10,q_bA_11,q_bA_12,q_bA_13,q_bA_14,q_bA_15,q_bA_l⟩:=c16 bA.now
  go_wp2
  go_ret
  exact ⟨rfl,hE⟩
 rw [b1] at C1
 by_cases b2:(diskOk x.ss x.ws)=true
 rotate_left
 ·have b2':=Bool.eq_false_iff.2 b2
  have e:worldOk x=false:=by unfold worldOk;rw [b1,b2'];rfl
  rw [e]
  rw [b2'] at C2
  clear e
  go_enter Tryz.func24,Tryz.ntmps24
  go_wp2_with fail
  generalize e_v1:w.alloc _=v1
  obtain ⟨hb,z_v1,bA⟩:=bx1 e_v1
  clear e_v1
  replace hE:=hE.trans (hb.mono hE.size)
  clear hb
  refine (C1.out _).mono ?_
  rintro e wz ⟨rfl,hwz⟩
  rw [hwz]
  clear hwz wz
  obtain ⟨q_bA_0,q_bA_1,q_bA_2,q_bA_3,q_bA_4,q_bA_5,q_bA_6,q_bA_7,q_bA_8,q_bA_9,q_bA_10,q_bA_11,q_bA_12,q_bA_13,q_bA_14,q_bA_15,q_bA_l⟩:=c16 bA.now
  go_wp2_with fail
  clear q_bA_0 q_bA_1 q_bA_2 q_bA_3 q_bA_4 q_bA_5 q_bA_6 q_bA_7 q_bA_8 q_bA_9 q_bA_10 q_bA_11 q_bA_12 q_bA_13 q_bA_14 q_bA_15 q_bA_l
  refine (C2.out _ (h.h1.below hE) (h.h2.below hE)).mono ?_
  rintro e v2 ⟨rfl,hb⟩
  have s_v2:v1.heap.size<=v2.heap.size:=hb.size
  replace bA:=bA.below hb
  replace hE:=hE.trans (hb.mono hE.size)
  clear hb
  obtain ⟨q_bA_0,q_bA_1,q_bA_2,q_bA_3,q_bA_4,q_bA_5,q_bA_6,q_bA_7,q_bA_8,q_bA_9,q_bA_10,q_bA_11,q_bA_12,q_bA_13,q_bA_14,q_bA_15,q_bA_l⟩:=c16 bA.now
  go_wp2
  go_ret
  exact ⟨rfl,hE⟩
 rw [b2] at C2
 by_cases b3:(itsStore x)=true
 rotate_left
 ·have b3':=Bool.eq_false_iff.2 b3
  have e:worldOk x=false:=by unfold worldOk;rw [b1,b2,b3'];rfl
  rw [e]
  rw [b3'] at C3
  clear e
  go_enter Tryz.func24,Tryz.ntmps24
  go_wp2_with fail
  generalize e_v1:w.alloc _=v1
  obtain ⟨hb,z_v1,bA⟩:=bx1 e_v1
  clear e_v1
  replace hE:=hE.trans (hb.mono hE.size)
  clear hb
  refine (C1.out _).mono ?_
  rintro e wz ⟨rfl,hwz⟩
  rw [hwz]
  clear hwz wz
  obtain ⟨q_bA_0,q_bA_1,q_bA_2,q_bA_3,q_bA_4,q_bA_5,q_bA_6,q_bA_7,q_bA_8,q_bA_9,q_bA_10,q_bA_11,q_bA_12,q_bA_13,q_bA_14,q_bA_15,q_bA_l⟩:=c16 bA.now
  go_wp2_with fail
  clear q_bA_0 q_bA_1 q_bA_2 q_bA_3 q_bA_4 q_bA_5 q_bA_6 q_bA_7 q_bA_8 q_bA_9 q_bA_10 q_bA_11 q_bA_12 q_bA_13 q_bA_14 q_bA_15 q_bA_l
  refine (C2.out _ (h.h1.below hE) (h.h2.below hE)).mono ?_
  rintro e v2 ⟨rfl,hb⟩
  have s_v2:v1.heap.size<=v2.heap.size:=hb.size
  replace bA:=bA.below hb
  replace hE:=hE.trans (hb.mono hE.size)
  clear hb
  obtain ⟨q_bA_0,q_bA_1,q_bA_2,q_bA_3,q_bA_4,q_bA_5,q_bA_6,q_bA_7,q_bA_8,q_bA_9,q_bA_10,q_bA_11,q_bA_12,q_bA_13,q_bA_14,q_bA_15,q_bA_l⟩:=c16 bA.now
  go_wp2_with fail
  clear q_bA_0 q_bA_1 q_bA_2 q_bA_3 q_bA_4 q_bA_5 q_bA_6 q_bA_7 q_bA_8 q_bA_9 q_bA_10 q_bA_11 q_bA_12 q_bA_13 q_bA_14 q_bA_15 q_bA_l
  refine (C3.out _ (h.below hE)).mono ?_
  rintro e v3 ⟨rfl,hb⟩
  have s_v3:v2.heap.size<=v3.heap.size:=hb.size
  replace bA:=bA.below hb
  replace hE:=hE.trans (hb.mono hE.size)
  clear hb
  obtain ⟨q_bA_0,q_bA_1,q_bA_2,q_bA_3,q_bA_4,q_bA_5,q_bA_6,q_bA_7,q_bA_8,q_bA_9,q_bA_10,q_bA_11,q_bA_12,q_bA_13,q_bA_14,q_bA_15,q_bA_l⟩:=c16 bA.now
  go_wp2
  go_ret
  exact ⟨rfl,hE⟩
 rw [b3] at C3
 by_cases b4:(pastOk x.P)=true
 rotate_left
 ·have b4':=Bool.eq_false_iff.2 b4
  have e:worldOk x=false:=by unfold worldOk;rw [b1,b2,b3,b4'];rfl
  rw [e]
  rw [b4'] at C4
  clear e
  go_enter Tryz.func24,Tryz.ntmps24
  go_wp2_with fail
  generalize e_v1:w.alloc _=v1
  obtain ⟨hb,z_v1,bA⟩:=bx1 e_v1
  clear e_v1
  replace hE:=hE.trans (hb.mono hE.size)
  clear hb
  refine (C1.out _).mono ?_
  rintro e wz ⟨rfl,hwz⟩
  rw [hwz]
  clear hwz wz
  obtain ⟨q_bA_0,q_bA_1,q_bA_2,q_bA_3,q_bA_4,q_bA_5,q_bA_6,q_bA_7,q_bA_8,q_bA_9,q_bA_10,q_bA_11,q_bA_12,q_bA_13,q_bA_14,q_bA_15,q_bA_l⟩:=c16 bA.now
  go_wp2_with fail
  clear q_bA_0 q_bA_1 q_bA_2 q_bA_3 q_bA_4 q_bA_5 q_bA_6 q_bA_7 q_bA_8 q_bA_9 q_bA_10 q_bA_11 q_bA_12 q_bA_13 q_bA_14 q_bA_15 q_bA_l
  refine (C2.out _ (h.h1.below hE) (h.h2.below hE)).mono ?_
  rintro e v2 ⟨rfl,hb⟩
  have s_v2:v1.heap.size<=v2.heap.size:=hb.size
  replace bA:=bA.below hb
  replace hE:=hE.trans (hb.mono hE.size)
  clear hb
  obtain ⟨q_bA_0,q_bA_1,q_bA_2,q_bA_3,q_bA_4,q_bA_5,q_bA_6,q_bA_7,q_bA_8,q_bA_9,q_bA_10,q_bA_11,q_bA_12,q_bA_13,q_bA_14,q_bA_15,q_bA_l⟩:=c16 bA.now
  go_wp2_with fail
  clear q_bA_0 q_bA_1 q_bA_2 q_bA_3 q_bA_4 q_bA_5 q_bA_6 q_bA_7 q_bA_8 q_bA_9 q_bA_10 q_bA_11 q_bA_12 q_bA_13 q_bA_14 q_bA_15 q_bA_l
  refine (C3.out _ (h.below hE)).mono ?_
  rintro e v3 ⟨rfl,hb⟩
  have s_v3:v2.heap.size<=v3.heap.size:=hb.size
  replace bA:=bA.below hb
  replace hE:=hE.trans (hb.mono hE.size)
  clear hb
  obtain ⟨q_bA_0,q_bA_1,q_bA_2,q_bA_3,q_bA_4,q_bA_5,q_bA_6,q_bA_7,q_bA_8,q_bA_9,q_bA_10,q_bA_11,q_bA_12,q_bA_13,q_bA_14,q_bA_15,q_bA_l⟩:=c16 bA.now
  go_wp2_with fail
  clear q_bA_0 q_bA_1 q_bA_2 q_bA_3 q_bA_4 q_bA_5 q_bA_6 q_bA_7 q_bA_8 q_bA_9 q_bA_10 q_bA_11 q_bA_12 q_bA_13 q_bA_14 q_bA_15 q_bA_l
  refine (C4.out _ (h.h4.below hE)).mono ?_
  rintro e v4 ⟨rfl,hb⟩
  have s_v4:v3.heap.size<=v4.heap.size:=hb.size
  replace bA:=bA.below hb
  replace hE:=hE.trans (hb.mono hE.size)
  clear hb
  obtain ⟨q_bA_0,q_bA_1,q_bA_2,q_bA_3,q_bA_4,q_bA_5,q_bA_6,q_bA_7,q_bA_8,q_bA_9,q_bA_10,q_bA_11,q_bA_12,q_bA_13,q_bA_14,q_bA_15,q_bA_l⟩:=c16 bA.now
  go_wp2
  go_ret
  exact ⟨rfl,hE⟩
 rw [b4] at C4
 by_cases b5:(wrtOk x.ts)=true
 rotate_left
 ·have b5':=Bool.eq_false_iff.2 b5
  have e:worldOk x=false:=by unfold worldOk;rw [b1,b2,b3,b4,b5'];rfl
  rw [e]
  rw [b5'] at C5
  clear e
  go_enter Tryz.func24,Tryz.ntmps24
  go_wp2_with fail
  generalize e_v1:w.alloc _=v1
  obtain ⟨hb,z_v1,bA⟩:=bx1 e_v1
  clear e_v1
  replace hE:=hE.trans (hb.mono hE.size)
  clear hb
  refine (C1.out _).mono ?_
  rintro e wz ⟨rfl,hwz⟩
  rw [hwz]
  clear hwz wz
  obtain ⟨q_bA_0,q_bA_1,q_bA_2,q_bA_3,q_bA_4,q_bA_5,q_bA_6,q_bA_7,q_bA_8,q_bA_9,q_bA_10,q_bA_11,q_bA_12,q_bA_13,q_bA_14,q_bA_15,q_bA_l⟩:=c16 bA.now
  go_wp2_with fail
  clear q_bA_0 q_bA_1 q_bA_2 q_bA_3 q_bA_4 q_bA_5 q_bA_6 q_bA_7 q_bA_8 q_bA_9 q_bA_10 q_bA_11 q_bA_12 q_bA_13 q_bA_14 q_bA_15 q_bA_l
  refine (C2.out _ (h.h1.below hE) (h.h2.below hE)).mono ?_
  rintro e v2 ⟨rfl,hb⟩
  have s_v2:v1.heap.size<=v2.heap.size:=hb.size
  replace bA:=bA.below hb
  replace hE:=hE.trans (hb.mono hE.size)
  clear hb
  obtain ⟨q_bA_0,q_bA_1,q_bA_2,q_bA_3,q_bA_4,q_bA_5,q_bA_6,q_bA_7,q_bA_8,q_bA_9,q_bA_10,q_bA_11,q_bA_12,q_bA_13,q_bA_14,q_bA_15,q_bA_l⟩:=c16 bA.now
  go_wp2_with fail
  clear q_bA_0 q_bA_1 q_bA_2 q_bA_3 q_bA_4 q_bA_5 q_bA_6 q_bA_7 q_bA_8 q_bA_9 q_bA_10 q_bA_11 q_bA_12 q_bA_13 q_bA_14 q_bA_15 q_bA_l
  refine (C3.out _ (h.below hE)).mono ?_
  rintro e v3 ⟨rfl,hb⟩
  have s_v3:v2.heap.size<=v3.heap.size:=hb.size
  replace bA:=bA.below hb
  replace hE:=hE.trans (hb.mono hE.size)
  clear hb
  obtain ⟨q_bA_0,q_bA_1,q_bA_2,q_bA_3,q_bA_4,q_bA_5,q_bA_6,q_bA_7,q_bA_8,q_bA_9,q_bA_10,q_bA_11,q_bA_12,q_bA_13,q_bA_14,q_bA_15,q_bA_l⟩:=c16 bA.now
  go_wp2_with fail
  clear q_bA_0 q_bA_1 q_bA_2 q_bA_3 q_bA_4 q_bA_5 q_bA_6 q_bA_7 q_bA_8 q_bA_9 q_bA_10 q_bA_11 q_bA_12 q_bA_13 q_bA_14 q_bA_15 q_bA_l
  refine (C4.out _ (h.h4.below hE)).mono ?_
  rintro e v4 ⟨rfl,hb⟩
  have s_v4:v3.heap.size<=v4.heap.size:=hb.size
  replace bA:=bA.below hb
  replace hE:=hE.trans (hb.mono hE.size)
  clear hb
  obtain ⟨q_bA_0,q_bA_1,q_bA_2,q_bA_3,q_bA_4,q_bA_5,q_bA_6,q_bA_7,q_bA_8,q_bA_9,q_bA_10,q_bA_11,q_bA_12,q_bA_13,q_bA_14,q_bA_15,q_bA_l⟩:=c16 bA.now
  go_wp2_with fail
  clear q_bA_0 q_bA_1 q_bA_2 q_bA_3 q_bA_4 q_bA_5 q_bA_6 q_bA_7 q_bA_8 q_bA_9 q_bA_10 q_bA_11 q_bA_12 q_bA_13 q_bA_14 q_bA_15 q_bA_l
  refine (C5.out _ (h.h5.below hE)).mono ?_
  rintro e v5 ⟨rfl,hb⟩
  have s_v5:v4.heap.size<=v5.heap.size:=hb.size
  replace bA:=bA.below hb
  replace hE:=hE.trans (hb.mono hE.size)
  clear hb
  obtain ⟨q_bA_0,q_bA_1,q_bA_2,q_bA_3,q_bA_4,q_bA_5,q_bA_6,q_bA_7,q_bA_8,q_bA_9,q_bA_10,q_bA_11,q_bA_12,q_bA_13,q_bA_14,q_bA_15,q_bA_l⟩:=c16 bA.now
  go_wp2
  go_ret
  exact ⟨rfl,hE⟩
 rw [b5] at C5
 have e:worldOk x=true:=by unfold worldOk;rw [b1,b2,b3,b4,b5];rfl
 rw [e]
 clear e
 go_enter Tryz.func24,Tryz.ntmps24
 go_wp2_with fail
 generalize e_v1:w.alloc _=v1
 obtain ⟨hb,z_v1,bA⟩:=bx1 e_v1
 clear e_v1
 replace hE:=hE.trans (hb.mono hE.size)
 clear hb
 refine (C1.out _).mono ?_
 rintro e wz ⟨rfl,hwz⟩
 rw [hwz]
 clear hwz wz
 obtain ⟨q_bA_0,q_bA_1,q_bA_2,q_bA_3,q_bA_4,q_bA_5,q_bA_6,q_bA_7,q_bA_8,q_bA_9,q_bA_10,q_bA_11,q_bA_12,q_bA_13,q_bA_14,q_bA_15,q_bA_l⟩:=c16 bA.now
 go_wp2_with fail
 clear q_bA_0 q_bA_1 q_bA_2 q_bA_3 q_bA_4 q_bA_5 q_bA_6 q_bA_7 q_bA_8 q_bA_9 q_bA_10 q_bA_11 q_bA_12 q_bA_13 q_bA_14 q_bA_15 q_bA_l
 refine (C2.out _ (h.h1.below hE) (h.h2.below hE)).mono ?_
 rintro e v2 ⟨rfl,hb⟩
 have s_v2:v1.heap.size<=v2.heap.size:=hb.size
 replace bA:=bA.below hb
 replace hE:=hE.trans (hb.mono hE.size)
 clear hb
 obtain ⟨q_bA_0,q_bA_1,q_bA_2,q_bA_3,q_bA_4,q_bA_5,q_bA_6,q_bA_7,q_bA_8,q_bA_9,q_bA_10,q_bA_11,q_bA_12,q_bA_13,q_bA_14,q_bA_15,q_bA_l⟩:=c16 bA.now
 go_wp2_with fail
 clear q_bA_0 q_bA_1 q_bA_2 q_bA_3 q_bA_4 q_bA_5 q_bA_6 q_bA_7 q_bA_8 q_bA_9 q_bA_10 q_bA_11 q_bA_12 q_bA_13 q_bA_14 q_bA_15 q_bA_l
 refine (C3.out _ (h.below hE)).mono ?_
 rintro e v3 ⟨rfl,hb⟩
 have s_v3:v2.heap.size<=v3.heap.size:=hb.size
 replace bA:=bA.below hb
 replace hE:=hE.trans (hb.mono hE.size)
 clear hb
 obtain ⟨q_bA_0,q_bA_1,q_bA_2,q_bA_3,q_bA_4,q_bA_5,q_bA_6,q_bA_7,q_bA_8,q_bA_9,q_bA_10,q_bA_11,q_bA_12,q_bA_13,q_bA_14,q_bA_15,q_bA_l⟩:=c16 bA.now
 go_wp2_with fail
 clear q_bA_0 q_bA_1 q_bA_2 q_bA_3 q_bA_4 q_bA_5 q_bA_6 q_bA_7 q_bA_8 q_bA_9 q_bA_10 q_bA_11 q_bA_12 q_bA_13 q_bA_14 q_bA_15 q_bA_l
 refine (C4.out _ (h.h4.below hE)).mono ?_
 rintro e v4 ⟨rfl,hb⟩
 have s_v4:v3.heap.size<=v4.heap.size:=hb.size
 replace bA:=bA.below hb
 replace hE:=hE.trans (hb.mono hE.size)
 clear hb
 obtain ⟨q_bA_0,q_bA_1,q_bA_2,q_bA_3,q_bA_4,q_bA_5,q_bA_6,q_bA_7,q_bA_8,q_bA_9,q_bA_10,q_bA_11,q_bA_12,q_bA_13,q_bA_14,q_bA_15,q_bA_l⟩:=c16 bA.now
 go_wp2_with fail
 clear q_bA_0 q_bA_1 q_bA_2 q_bA_3 q_bA_4 q_bA_5 q_bA_6 q_bA_7 q_bA_8 q_bA_9 q_bA_10 q_bA_11 q_bA_12 q_bA_13 q_bA_14 q_bA_15 q_bA_l
 refine (C5.out _ (h.h5.below hE)).mono ?_
 rintro e v5 ⟨rfl,hb⟩
 have s_v5:v4.heap.size<=v5.heap.size:=hb.size
 replace bA:=bA.below hb
 replace hE:=hE.trans (hb.mono hE.size)
 clear hb
 obtain ⟨q_bA_0,q_bA_1,q_bA_2,q_bA_3,q_bA_4,q_bA_5,q_bA_6,q_bA_7,q_bA_8,q_bA_9,q_bA_10,q_bA_11,q_bA_12,q_bA_13,q_bA_14,q_bA_15,q_bA_l⟩:=c16 bA.now
 go_wp2
 go_ret
 exact ⟨rfl,hE⟩
end Go.Proofs.YtcoegjnjjdndjaaGreatDoor
