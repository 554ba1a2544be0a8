import Derived.Test.YtcoegjnjjdndjaaGreatDoorPrVStS
namespace Go.Proofs.YtcoegjnjjdndjaaGreatDoor
open Go.RowKit
set_option linter.unusedVariables false
set_option linter.unusedSimpArgs false
set_option maxRecDepth 4000
theorem half_iV (n:Int) (w:World):Calls Tryz.prog 144 #[.int .i64 n] w fun e w'=>e=.returned (.bool (decide (0<=n/\n<=1)))/\w'=w:=by
 go_enter Tryz.func144,Tryz.ntmps144
 by_cases h1:n=0
 ·subst h1;go_wp2;go_ret;simp
 ·by_cases h2:n=1
  ·subst h2;go_wp2;go_ret;simp
  ·have h3:decide (0<=n/\n<=1)=false:=by simp;omega
   rw [h3];go_wp2;go_ret;simp [h1,h2]
theorem first_iV (n:Int) (w:World):Calls Tryz.prog 145 #[.int .i64 n] w fun e w'=>e=.returned (.bool (decide (1<=n/\n<=999999000)))/\w'=w:=by
 go_enter Tryz.func145,Tryz.ntmps145
 by_cases h1:1<=n<;>by_cases h2:n<=999999000<;>(go_wp2;go_ret;simp [h1,h2])
theorem root_i (T H F R:Int) (w:World):Calls Tryz.prog 115 #[.agg #[.int .i64 T,.int .i64 H,.int .i64 F,.int .i64 R]] w fun e w'=>e=.returned (.bool (rootOk T H F R))/\Below w.heap.size w w':=by
 have hb0:∀ o,Below w.heap.size w (w.alloc o):=fun o=>(Below.refl _ _).alloc (Nat.le_refl _) _
 obtain ⟨E,HE⟩:∃ E,Hid (E=rootOk T H F R):=⟨_,hid rfl⟩
 rw [<-HE.out]
 unfold rootOk at HE
 by_cases c1:0<=T
 case neg =>
  have he:E=false:=by rw [HE.out];simp;omega
  subst he
  go_enter Tryz.func115,Tryz.ntmps115;go_wp2;go_ret;exact ⟨rfl,hb0 _⟩
 by_cases c2:T<=1000000000
 case neg =>
  have he:E=false:=by rw [HE.out];simp;omega
  subst he
  go_enter Tryz.func115,Tryz.ntmps115;go_wp2;go_ret;exact ⟨rfl,hb0 _⟩
 by_cases c3:0<=R
 case neg =>
  have he:E=false:=by rw [HE.out];simp;omega
  subst he
  go_enter Tryz.func115,Tryz.ntmps115;go_wp2;go_ret;exact ⟨rfl,hb0 _⟩
 by_cases c4:R<=60000
 case neg =>
  have he:E=false:=by rw [HE.out];simp;omega
  subst he
  go_enter Tryz.func115,Tryz.ntmps115;go_wp2;go_ret;exact ⟨rfl,hb0 _⟩
 by_cases c5:0<=H/\H<=1
 case neg =>
  have d5:decide (0<=H/\H<=1)=false:=decide_eq_false c5
  have he:E=false:=by rw [HE.out,d5];simp
  subst he
  go_enter Tryz.func115,Tryz.ntmps115
  go_wp2_with (first | (go_at_call 144;refine (half_iV _ _).mono ?_;rw [d5];rintro e wz ⟨rfl,hwz⟩;rw [hwz];clear hwz wz))
  go_ret;exact ⟨rfl,hb0 _⟩
 have d5:decide (0<=H/\H<=1)=true:=decide_eq_true c5
 by_cases c6:1<=F/\F<=999999000
 case neg =>
  have d6:decide (1<=F/\F<=999999000)=false:=decide_eq_false c6
  have he:E=false:=by rw [HE.out,d6];simp
  subst he
  go_enter Tryz.func115,Tryz.ntmps115
  go_wp2_with (first | (go_at_call 144;refine (half_iV _ _).mono ?_;rw [d5];rintro e wz ⟨rfl,hwz⟩;rw [hwz];clear hwz wz) | (go_at_call 145;refine (first_iV _ _).mono ?_;rw [d6];rintro e wz ⟨rfl,hwz⟩;rw [hwz];clear hwz wz))
  go_ret;exact ⟨rfl,hb0 _⟩
 have d6:decide (1<=F/\F<=999999000)=true:=decide_eq_true c6
 have he:E=true:=by rw [HE.out,d5,d6];simp;omega
 subst he
 go_enter Tryz.func115,Tryz.ntmps115
 go_wp2_with (first | (go_at_call 144;refine (half_iV _ _).mono ?_;rw [d5];rintro e wz ⟨rfl,hwz⟩;rw [hwz];clear hwz wz) | (go_at_call 145;refine (first_iV _ _).mono ?_;rw [d6];rintro e wz ⟨rfl,hwz⟩;rw [hwz];clear hwz wz))
 go_ret;exact ⟨rfl,hb0 _⟩
theorem halvesq_i (n Q:Int) (h:Q=hv n) (w:World):Calls Tryz.prog 65 #[.int .i64 n] w fun e w'=>e=.returned (.int .i64 Q)/\w'=w:=by rw [h];exact halves_i n w
set_option maxHeartbeats 4000000 in
theorem hasroom_i (W S L T H F R U O:Int) (a:Option Addr) (rs:List Pr) (c:Nat) (w:World) (h:Prs w a rs) (hc:rs.length<=c) (hl:rs.length<=1048576) (hs:∀ x∈rs,x.1.size<=1048576/\x.2.size<=1048576) :
  Calls Tryz.prog 67 #[storeV W S L T H F R U O a rs.length c] w fun e w'=>e=.returned (.bool (decide (roomOf (snapOf rs) W<=hv S-1)))/\Below w.heap.size w w':=by
 unfold storeV
 obtain ⟨wb,HWB⟩:∃ wb,wb=w.alloc (.cells #[.int .i64 W,.int .i64 S,.int .i64 L,.int .i64 T,.int .i64 H,.int .i64 F,.int .i64 R,.int .i64 U,.int .i64 O,.slice a rs.length c] 47):=⟨_,rfl⟩
 have q0:wb.cell? ⟨w.heap.size,0,none⟩=some (.int .i64 W):=by rw [HWB];go_simp
 have q1:wb.cell? ⟨w.heap.size,1,none⟩=some (.int .i64 S):=by rw [HWB];go_simp
 have q9:wb.cell? ⟨w.heap.size,9,none⟩=some (.slice a rs.length c):=by rw [HWB];go_simp
 have hbb:Below w.heap.size w wb:=by rw [HWB];exact (Below.refl _ _).alloc (Nat.le_refl _) _
 have hsz:w.heap.size<wb.heap.size:=by rw [HWB];simp
 have HT:Hid (∀ w',Below wb.heap.size wb w'->w'.cell? ⟨w.heap.size,0,none⟩=some (.int .i64 W)/\w'.cell? ⟨w.heap.size,1,none⟩=some (.int .i64 S)/\w'.cell? ⟨w.heap.size,9,none⟩=some (.slice a rs.length c)/\Below wb.heap.size wb w'):=fun w' hb=>⟨(hb.cell (p:=⟨w.heap.size,0,none⟩) hsz).trans q0,(hb.cell (p:=⟨w.heap.size,1,none⟩) hsz).trans q1,(hb.cell (p:=⟨w.heap.size,9,none⟩) hsz).trans q9,hb⟩
 have HRM:=hid (room_i a rs c W wb.drew (h.below hbb.drew) hc hl hs)
 have hR:=roomOf_bound (snapOf rs) W
 have hRl:=snapOf_len rs
 have hQ:0<=hv S/\hv S<=99:=by by_cases h:8<=S/\S<=200;have:=hv_yes h;omega;rw [hv_no h];omega
 obtain ⟨G,HG⟩:∃ G,Hid (G=roomOf (snapOf rs) W):=⟨_,hid rfl⟩
 obtain ⟨Q,HQ⟩:∃ Q,Hid (Q=hv S):=⟨_,hid rfl⟩
 rw [<-HG.out] at hR HRM ⊢
 rw [<-HQ.out] at hQ ⊢
 have hw1:IntKind.i64.wrap (Q-1)=Q-1:=by simp [IntKind.wrap,IntKind.bits,IntKind.signed];omega
 have HBB:=hid hbb
 clear hbb
 go_enter Tryz.func67,Tryz.ntmps67
 go_wp2_with fail
 rw [<-HWB]
 clear HWB
 go_region_held3 (fun w'=>w'.cell? ⟨w.heap.size,0,none⟩=some (.int .i64 W)/\w'.cell? ⟨w.heap.size,1,none⟩=some (.int .i64 S)/\w'.cell? ⟨w.heap.size,9,none⟩=some (.slice a rs.length c)/\Below wb.heap.size wb w')
  (first | assumption | exact HT.out _ ((Below.refl _ _).drew) | exact HT.out _ ((Below.refl _ _).drew.trans hb3))
  (first | (go_at_call 113;refine HRM.out.mono ?_;rintro e w3 ⟨rfl,hb3⟩) | (go_at_call 65;refine (halves_i _ _).mono ?_;rw [<-HQ.out];rintro e wz ⟨rfl,rfl⟩))
 all_goals
  go_wp2
  go_ret
  exact ⟨rfl,HBB.out.trans (((Below.refl _ _).drew.trans hb3).mono HBB.out.size)⟩
set_option maxHeartbeats 8000000 in
theorem vstore_i (W S L T H F R U O:Int) (a:Option Addr) (rs:List Pr) (c:Nat) (w:World) (h:Prs w a rs) (hc:rs.length<=c) (hl:rs.length<=1048576) (hs:∀ x∈rs,x.1.size<=1048576/\x.2.size<=1048576) :
  Calls Tryz.prog 100 #[storeV W S L T H F R U O a rs.length c] w fun e w'=>e=.returned (.bool (storeOk W S L T H F R U O rs))/\Below w.heap.size w w':=by
 unfold storeV
 have hb0:∀ o,Below w.heap.size w (w.alloc o):=fun o=>(Below.refl _ _).alloc (Nat.le_refl _) _
 have HVS:=hid (fun w2 (h2:Below w.heap.size w w2)=>vstate_i a rs c w2 (h.below h2) hl hs)
 have HRM:=hid (fun w2 (h2:Below w.heap.size w w2)=>hasroom_i W S L T H F R U O a rs c w2 (h.below h2) hc hl hs)
 unfold storeV at HRM
 have HB0:=hid hb0
 clear h hs
 obtain ⟨E,HE⟩:∃ E,Hid (E=storeOk W S L T H F R U O rs):=⟨_,hid rfl⟩
 rw [<-HE.out]
 obtain ⟨Q,hQ⟩:∃ Q,Q=hv S:=⟨_,rfl⟩
 have HQ:=hid hQ
 have no:=store_no W S L T H F R U O rs
 rw [<-HE.out,<-hQ] at no
 rw [<-hQ] at HRM
 have NO:=hid no
 clear no hQ
 by_cases c1:1<=W/\W<=8
 case neg =>
  have d1:decide (1<=W/\W<=8)=false:=decide_eq_false c1
  have he:E=false:=NO.out (.inl (c1))
  subst he
  go_enter Tryz.func100,Tryz.ntmps100
  go_wp2_with (first | (go_at_call 57;refine (width_i _ _).mono ?_;rw [d1];rintro e wz ⟨rfl,hwz⟩;rw [hwz];clear hwz wz) | (go_at_call 97;refine (isize_i _ _).mono ?_;rw [d2];rintro e wz ⟨rfl,hwz⟩;rw [hwz];clear hwz wz) | (go_at_call 65;refine (halves_i _ _).mono ?_;rw [<-HQ.out];rintro e wz ⟨rfl,hwz⟩;rw [hwz];clear hwz wz))
  go_ret
  exact ⟨rfl,HB0.out _⟩
 have d1:decide (1<=W/\W<=8)=true:=decide_eq_true c1
 by_cases c2:8<=S/\S<=200
 case neg =>
  have d2:decide (8<=S/\S<=200)=false:=decide_eq_false c2
  have he:E=false:=NO.out (.inr (.inl (c2)))
  subst he
  go_enter Tryz.func100,Tryz.ntmps100
  go_wp2_with (first | (go_at_call 57;refine (width_i _ _).mono ?_;rw [d1];rintro e wz ⟨rfl,hwz⟩;rw [hwz];clear hwz wz) | (go_at_call 97;refine (isize_i _ _).mono ?_;rw [d2];rintro e wz ⟨rfl,hwz⟩;rw [hwz];clear hwz wz) | (go_at_call 65;refine (halves_i _ _).mono ?_;rw [<-HQ.out];rintro e wz ⟨rfl,hwz⟩;rw [hwz];clear hwz wz))
  go_ret
  exact ⟨rfl,HB0.out _⟩
 have d2:decide (8<=S/\S<=200)=true:=decide_eq_true c2
 have hqb:3<=Q/\Q<=99:=by rw [HQ.out];exact hv_yes c2
 by_cases c3:1<=L
 case neg =>
  have he:E=false:=NO.out (.inr (.inr (.inl (fun hh=>c3 hh.1))))
  subst he
  go_enter Tryz.func100,Tryz.ntmps100
  go_wp2_with (first | (go_at_call 57;refine (width_i _ _).mono ?_;rw [d1];rintro e wz ⟨rfl,hwz⟩;rw [hwz];clear hwz wz) | (go_at_call 97;refine (isize_i _ _).mono ?_;rw [d2];rintro e wz ⟨rfl,hwz⟩;rw [hwz];clear hwz wz) | (go_at_call 65;refine (halves_i _ _).mono ?_;rw [<-HQ.out];rintro e wz ⟨rfl,hwz⟩;rw [hwz];clear hwz wz))
  go_ret
  exact ⟨rfl,HB0.out _⟩
 by_cases c3b:L<=60000
 case neg =>
  have he:E=false:=NO.out (.inr (.inr (.inl (fun hh=>c3b hh.2))))
  subst he
  go_enter Tryz.func100,Tryz.ntmps100
  go_wp2_with (first | (go_at_call 57;refine (width_i _ _).mono ?_;rw [d1];rintro e wz ⟨rfl,hwz⟩;rw [hwz];clear hwz wz) | (go_at_call 97;refine (isize_i _ _).mono ?_;rw [d2];rintro e wz ⟨rfl,hwz⟩;rw [hwz];clear hwz wz) | (go_at_call 65;refine (halves_i _ _).mono ?_;rw [<-HQ.out];rintro e wz ⟨rfl,hwz⟩;rw [hwz];clear hwz wz))
  go_ret
  exact ⟨rfl,HB0.out _⟩
 cases d4:rootOk T H F R with
 | false =>
  have he:E=false:=NO.out (.inr (.inr (.inr (.inl (d4)))))
  subst he
  go_enter Tryz.func100,Tryz.ntmps100
  go_wp2_with (first | (go_at_call 57;refine (width_i _ _).mono ?_;rw [d1];rintro e wz ⟨rfl,hwz⟩;rw [hwz];clear hwz wz) | (go_at_call 97;refine (isize_i _ _).mono ?_;rw [d2];rintro e wz ⟨rfl,hwz⟩;rw [hwz];clear hwz wz) | (go_at_call 65;refine (halves_i _ _).mono ?_;rw [<-HQ.out];rintro e wz ⟨rfl,hwz⟩;rw [hwz];clear hwz wz) | (go_at_call 115;refine (root_i _ _ _ _ _).mono ?_;rw [d4];rintro e w2 ⟨rfl,hb2⟩;have HB2:=hid ((HB0.out _).trans (hb2.mono (by simp)));have w2q0:w2.cell? ⟨w.heap.size,0,none⟩=some (.int .i64 W):=(hb2.cell (p:=⟨w.heap.size,0,none⟩) (by simp)).trans (by go_simp);have w2q1:w2.cell? ⟨w.heap.size,1,none⟩=some (.int .i64 S):=(hb2.cell (p:=⟨w.heap.size,1,none⟩) (by simp)).trans (by go_simp);have w2q2:w2.cell? ⟨w.heap.size,2,none⟩=some (.int .i64 L):=(hb2.cell (p:=⟨w.heap.size,2,none⟩) (by simp)).trans (by go_simp);have w2q3:w2.cell? ⟨w.heap.size,3,none⟩=some (.int .i64 T):=(hb2.cell (p:=⟨w.heap.size,3,none⟩) (by simp)).trans (by go_simp);have w2q4:w2.cell? ⟨w.heap.size,4,none⟩=some (.int .i64 H):=(hb2.cell (p:=⟨w.heap.size,4,none⟩) (by simp)).trans (by go_simp);have w2q5:w2.cell? ⟨w.heap.size,5,none⟩=some (.int .i64 F):=(hb2.cell (p:=⟨w.heap.size,5,none⟩) (by simp)).trans (by go_simp);have w2q6:w2.cell? ⟨w.heap.size,6,none⟩=some (.int .i64 R):=(hb2.cell (p:=⟨w.heap.size,6,none⟩) (by simp)).trans (by go_simp);have w2q7:w2.cell? ⟨w.heap.size,7,none⟩=some (.int .i64 U):=(hb2.cell (p:=⟨w.heap.size,7,none⟩) (by simp)).trans (by go_simp);have w2q8:w2.cell? ⟨w.heap.size,8,none⟩=some (.int .i64 O):=(hb2.cell (p:=⟨w.heap.size,8,none⟩) (by simp)).trans (by go_simp);have w2q9:w2.cell? ⟨w.heap.size,9,none⟩=some (.slice a rs.length c):=(hb2.cell (p:=⟨w.heap.size,9,none⟩) (by simp)).trans (by go_simp);have hl2:w.heap.size<w2.heap.size:=Nat.lt_of_lt_of_le (by simp) hb2.size;clear hb2))
  go_ret
  exact ⟨rfl,HB2.out⟩
 | true =>
  by_cases c5:0<=U
  case neg =>
   have he:E=false:=NO.out (.inr (.inr (.inr (.inr (.inl (fun hh=>c5 hh.1))))))
   subst he
   go_enter Tryz.func100,Tryz.ntmps100
   go_wp2_with (first | (go_at_call 57;refine (width_i _ _).mono ?_;rw [d1];rintro e wz ⟨rfl,hwz⟩;rw [hwz];clear hwz wz) | (go_at_call 97;refine (isize_i _ _).mono ?_;rw [d2];rintro e wz ⟨rfl,hwz⟩;rw [hwz];clear hwz wz) | (go_at_call 65;refine (halves_i _ _).mono ?_;rw [<-HQ.out];rintro e wz ⟨rfl,hwz⟩;rw [hwz];clear hwz wz) | (go_at_call 115;refine (root_i _ _ _ _ _).mono ?_;rw [d4];rintro e w2 ⟨rfl,hb2⟩;have HB2:=hid ((HB0.out _).trans (hb2.mono (by simp)));have w2q0:w2.cell? ⟨w.heap.size,0,none⟩=some (.int .i64 W):=(hb2.cell (p:=⟨w.heap.size,0,none⟩) (by simp)).trans (by go_simp);have w2q1:w2.cell? ⟨w.heap.size,1,none⟩=some (.int .i64 S):=(hb2.cell (p:=⟨w.heap.size,1,none⟩) (by simp)).trans (by go_simp);have w2q2:w2.cell? ⟨w.heap.size,2,none⟩=some (.int .i64 L):=(hb2.cell (p:=⟨w.heap.size,2,none⟩) (by simp)).trans (by go_simp);have w2q3:w2.cell? ⟨w.heap.size,3,none⟩=some (.int .i64 T):=(hb2.cell (p:=⟨w.heap.size,3,none⟩) (by simp)).trans (by go_simp);have w2q4:w2.cell? ⟨w.heap.size,4,none⟩=some (.int .i64 H):=(hb2.cell (p:=⟨w.heap.size,4,none⟩) (by simp)).trans (by go_simp);have w2q5:w2.cell? ⟨w.heap.size,5,none⟩=some (.int .i64 F):=(hb2.cell (p:=⟨w.heap.size,5,none⟩) (by simp)).trans (by go_simp);have w2q6:w2.cell? ⟨w.heap.size,6,none⟩=some (.int .i64 R):=(hb2.cell (p:=⟨w.heap.size,6,none⟩) (by simp)).trans (by go_simp);have w2q7:w2.cell? ⟨w.heap.size,7,none⟩=some (.int .i64 U):=(hb2.cell (p:=⟨w.heap.size,7,none⟩) (by simp)).trans (by go_simp);have w2q8:w2.cell? ⟨w.heap.size,8,none⟩=some (.int .i64 O):=(hb2.cell (p:=⟨w.heap.size,8,none⟩) (by simp)).trans (by go_simp);have w2q9:w2.cell? ⟨w.heap.size,9,none⟩=some (.slice a rs.length c):=(hb2.cell (p:=⟨w.heap.size,9,none⟩) (by simp)).trans (by go_simp);have hl2:w.heap.size<w2.heap.size:=Nat.lt_of_lt_of_le (by simp) hb2.size;clear hb2))
   go_quiet ((go_at_call 65;exact Calls.quiet_of_same (halvesq_i _ _ HQ.out _)))
   go_wp2_with fail
   go_ret
   exact ⟨rfl,below_drewN HB2.out nq⟩
  by_cases c5b:U<=Q
  case neg =>
   have he:E=false:=NO.out (.inr (.inr (.inr (.inr (.inl (fun hh=>c5b hh.2))))))
   subst he
   go_enter Tryz.func100,Tryz.ntmps100
   go_wp2_with (first | (go_at_call 57;refine (width_i _ _).mono ?_;rw [d1];rintro e wz ⟨rfl,hwz⟩;rw [hwz];clear hwz wz) | (go_at_call 97;refine (isize_i _ _).mono ?_;rw [d2];rintro e wz ⟨rfl,hwz⟩;rw [hwz];clear hwz wz) | (go_at_call 65;refine (halves_i _ _).mono ?_;rw [<-HQ.out];rintro e wz ⟨rfl,hwz⟩;rw [hwz];clear hwz wz) | (go_at_call 115;refine (root_i _ _ _ _ _).mono ?_;rw [d4];rintro e w2 ⟨rfl,hb2⟩;have HB2:=hid ((HB0.out _).trans (hb2.mono (by simp)));have w2q0:w2.cell? ⟨w.heap.size,0,none⟩=some (.int .i64 W):=(hb2.cell (p:=⟨w.heap.size,0,none⟩) (by simp)).trans (by go_simp);have w2q1:w2.cell? ⟨w.heap.size,1,none⟩=some (.int .i64 S):=(hb2.cell (p:=⟨w.heap.size,1,none⟩) (by simp)).trans (by go_simp);have w2q2:w2.cell? ⟨w.heap.size,2,none⟩=some (.int .i64 L):=(hb2.cell (p:=⟨w.heap.size,2,none⟩) (by simp)).trans (by go_simp);have w2q3:w2.cell? ⟨w.heap.size,3,none⟩=some (.int .i64 T):=(hb2.cell (p:=⟨w.heap.size,3,none⟩) (by simp)).trans (by go_simp);have w2q4:w2.cell? ⟨w.heap.size,4,none⟩=some (.int .i64 H):=(hb2.cell (p:=⟨w.heap.size,4,none⟩) (by simp)).trans (by go_simp);have w2q5:w2.cell? ⟨w.heap.size,5,none⟩=some (.int .i64 F):=(hb2.cell (p:=⟨w.heap.size,5,none⟩) (by simp)).trans (by go_simp);have w2q6:w2.cell? ⟨w.heap.size,6,none⟩=some (.int .i64 R):=(hb2.cell (p:=⟨w.heap.size,6,none⟩) (by simp)).trans (by go_simp);have w2q7:w2.cell? ⟨w.heap.size,7,none⟩=some (.int .i64 U):=(hb2.cell (p:=⟨w.heap.size,7,none⟩) (by simp)).trans (by go_simp);have w2q8:w2.cell? ⟨w.heap.size,8,none⟩=some (.int .i64 O):=(hb2.cell (p:=⟨w.heap.size,8,none⟩) (by simp)).trans (by go_simp);have w2q9:w2.cell? ⟨w.heap.size,9,none⟩=some (.slice a rs.length c):=(hb2.cell (p:=⟨w.heap.size,9,none⟩) (by simp)).trans (by go_simp);have hl2:w.heap.size<w2.heap.size:=Nat.lt_of_lt_of_le (by simp) hb2.size;clear hb2))
   go_quiet ((go_at_call 65;exact Calls.quiet_of_same (halvesq_i _ _ HQ.out _)))
   go_wp2_with fail
   go_ret
   exact ⟨rfl,below_drewN HB2.out nq⟩
  by_cases c6:0<=O
  case neg =>
   have he:E=false:=NO.out (.inr (.inr (.inr (.inr (.inr (.inl (fun hh=>c6 hh.1)))))))
   subst he
   go_enter Tryz.func100,Tryz.ntmps100
   go_wp2_with (first | (go_at_call 57;refine (width_i _ _).mono ?_;rw [d1];rintro e wz ⟨rfl,hwz⟩;rw [hwz];clear hwz wz) | (go_at_call 97;refine (isize_i _ _).mono ?_;rw [d2];rintro e wz ⟨rfl,hwz⟩;rw [hwz];clear hwz wz) | (go_at_call 65;refine (halves_i _ _).mono ?_;rw [<-HQ.out];rintro e wz ⟨rfl,hwz⟩;rw [hwz];clear hwz wz) | (go_at_call 115;refine (root_i _ _ _ _ _).mono ?_;rw [d4];rintro e w2 ⟨rfl,hb2⟩;have HB2:=hid ((HB0.out _).trans (hb2.mono (by simp)));have w2q0:w2.cell? ⟨w.heap.size,0,none⟩=some (.int .i64 W):=(hb2.cell (p:=⟨w.heap.size,0,none⟩) (by simp)).trans (by go_simp);have w2q1:w2.cell? ⟨w.heap.size,1,none⟩=some (.int .i64 S):=(hb2.cell (p:=⟨w.heap.size,1,none⟩) (by simp)).trans (by go_simp);have w2q2:w2.cell? ⟨w.heap.size,2,none⟩=some (.int .i64 L):=(hb2.cell (p:=⟨w.heap.size,2,none⟩) (by simp)).trans (by go_simp);have w2q3:w2.cell? ⟨w.heap.size,3,none⟩=some (.int .i64 T):=(hb2.cell (p:=⟨w.heap.size,3,none⟩) (by simp)).trans (by go_simp);have w2q4:w2.cell? ⟨w.heap.size,4,none⟩=some (.int .i64 H):=(hb2.cell (p:=⟨w.heap.size,4,none⟩) (by simp)).trans (by go_simp);have w2q5:w2.cell? ⟨w.heap.size,5,none⟩=some (.int .i64 F):=(hb2.cell (p:=⟨w.heap.size,5,none⟩) (by simp)).trans (by go_simp);have w2q6:w2.cell? ⟨w.heap.size,6,none⟩=some (.int .i64 R):=(hb2.cell (p:=⟨w.heap.size,6,none⟩) (by simp)).trans (by go_simp);have w2q7:w2.cell? ⟨w.heap.size,7,none⟩=some (.int .i64 U):=(hb2.cell (p:=⟨w.heap.size,7,none⟩) (by simp)).trans (by go_simp);have w2q8:w2.cell? ⟨w.heap.size,8,none⟩=some (.int .i64 O):=(hb2.cell (p:=⟨w.heap.size,8,none⟩) (by simp)).trans (by go_simp);have w2q9:w2.cell? ⟨w.heap.size,9,none⟩=some (.slice a rs.length c):=(hb2.cell (p:=⟨w.heap.size,9,none⟩) (by simp)).trans (by go_simp);have hl2:w.heap.size<w2.heap.size:=Nat.lt_of_lt_of_le (by simp) hb2.size;clear hb2))
   go_quiet ((go_at_call 65;exact Calls.quiet_of_same (halvesq_i _ _ HQ.out _)))
   go_wp2_with fail
   go_ret
   exact ⟨rfl,below_drewN HB2.out nq⟩
  by_cases c6b:O<=U
  case neg =>
   have he:E=false:=NO.out (.inr (.inr (.inr (.inr (.inr (.inl (fun hh=>c6b hh.2)))))))
   subst he
   go_enter Tryz.func100,Tryz.ntmps100
   go_wp2_with (first | (go_at_call 57;refine (width_i _ _).mono ?_;rw [d1];rintro e wz ⟨rfl,hwz⟩;rw [hwz];clear hwz wz) | (go_at_call 97;refine (isize_i _ _).mono ?_;rw [d2];rintro e wz ⟨rfl,hwz⟩;rw [hwz];clear hwz wz) | (go_at_call 65;refine (halves_i _ _).mono ?_;rw [<-HQ.out];rintro e wz ⟨rfl,hwz⟩;rw [hwz];clear hwz wz) | (go_at_call 115;refine (root_i _ _ _ _ _).mono ?_;rw [d4];rintro e w2 ⟨rfl,hb2⟩;have HB2:=hid ((HB0.out _).trans (hb2.mono (by simp)));have w2q0:w2.cell? ⟨w.heap.size,0,none⟩=some (.int .i64 W):=(hb2.cell (p:=⟨w.heap.size,0,none⟩) (by simp)).trans (by go_simp);have w2q1:w2.cell? ⟨w.heap.size,1,none⟩=some (.int .i64 S):=(hb2.cell (p:=⟨w.heap.size,1,none⟩) (by simp)).trans (by go_simp);have w2q2:w2.cell? ⟨w.heap.size,2,none⟩=some (.int .i64 L):=(hb2.cell (p:=⟨w.heap.size,2,none⟩) (by simp)).trans (by go_simp);have w2q3:w2.cell? ⟨w.heap.size,3,none⟩=some (.int .i64 T):=(hb2.cell (p:=⟨w.heap.size,3,none⟩) (by simp)).trans (by go_simp);have w2q4:w2.cell? ⟨w.heap.size,4,none⟩=some (.int .i64 H):=(hb2.cell (p:=⟨w.heap.size,4,none⟩) (by simp)).trans (by go_simp);have w2q5:w2.cell? ⟨w.heap.size,5,none⟩=some (.int .i64 F):=(hb2.cell (p:=⟨w.heap.size,5,none⟩) (by simp)).trans (by go_simp);have w2q6:w2.cell? ⟨w.heap.size,6,none⟩=some (.int .i64 R):=(hb2.cell (p:=⟨w.heap.size,6,none⟩) (by simp)).trans (by go_simp);have w2q7:w2.cell? ⟨w.heap.size,7,none⟩=some (.int .i64 U):=(hb2.cell (p:=⟨w.heap.size,7,none⟩) (by simp)).trans (by go_simp);have w2q8:w2.cell? ⟨w.heap.size,8,none⟩=some (.int .i64 O):=(hb2.cell (p:=⟨w.heap.size,8,none⟩) (by simp)).trans (by go_simp);have w2q9:w2.cell? ⟨w.heap.size,9,none⟩=some (.slice a rs.length c):=(hb2.cell (p:=⟨w.heap.size,9,none⟩) (by simp)).trans (by go_simp);have hl2:w.heap.size<w2.heap.size:=Nat.lt_of_lt_of_le (by simp) hb2.size;clear hb2))
   go_quiet ((go_at_call 65;exact Calls.quiet_of_same (halvesq_i _ _ HQ.out _)))
   go_wp2_with fail
   go_ret
   exact ⟨rfl,below_drewN HB2.out nq⟩
  cases dS:stateOk rs with
  | false =>
   have he:E=false:=NO.out (.inr (.inr (.inr (.inr (.inr (.inr (.inl (dS))))))))
   subst he
   go_enter Tryz.func100,Tryz.ntmps100
   go_wp2_with (first | (go_at_call 57;refine (width_i _ _).mono ?_;rw [d1];rintro e wz ⟨rfl,hwz⟩;rw [hwz];clear hwz wz) | (go_at_call 97;refine (isize_i _ _).mono ?_;rw [d2];rintro e wz ⟨rfl,hwz⟩;rw [hwz];clear hwz wz) | (go_at_call 65;refine (halves_i _ _).mono ?_;rw [<-HQ.out];rintro e wz ⟨rfl,hwz⟩;rw [hwz];clear hwz wz) | (go_at_call 115;refine (root_i _ _ _ _ _).mono ?_;rw [d4];rintro e w2 ⟨rfl,hb2⟩;have HB2:=hid ((HB0.out _).trans (hb2.mono (by simp)));have w2q0:w2.cell? ⟨w.heap.size,0,none⟩=some (.int .i64 W):=(hb2.cell (p:=⟨w.heap.size,0,none⟩) (by simp)).trans (by go_simp);have w2q1:w2.cell? ⟨w.heap.size,1,none⟩=some (.int .i64 S):=(hb2.cell (p:=⟨w.heap.size,1,none⟩) (by simp)).trans (by go_simp);have w2q2:w2.cell? ⟨w.heap.size,2,none⟩=some (.int .i64 L):=(hb2.cell (p:=⟨w.heap.size,2,none⟩) (by simp)).trans (by go_simp);have w2q3:w2.cell? ⟨w.heap.size,3,none⟩=some (.int .i64 T):=(hb2.cell (p:=⟨w.heap.size,3,none⟩) (by simp)).trans (by go_simp);have w2q4:w2.cell? ⟨w.heap.size,4,none⟩=some (.int .i64 H):=(hb2.cell (p:=⟨w.heap.size,4,none⟩) (by simp)).trans (by go_simp);have w2q5:w2.cell? ⟨w.heap.size,5,none⟩=some (.int .i64 F):=(hb2.cell (p:=⟨w.heap.size,5,none⟩) (by simp)).trans (by go_simp);have w2q6:w2.cell? ⟨w.heap.size,6,none⟩=some (.int .i64 R):=(hb2.cell (p:=⟨w.heap.size,6,none⟩) (by simp)).trans (by go_simp);have w2q7:w2.cell? ⟨w.heap.size,7,none⟩=some (.int .i64 U):=(hb2.cell (p:=⟨w.heap.size,7,none⟩) (by simp)).trans (by go_simp);have w2q8:w2.cell? ⟨w.heap.size,8,none⟩=some (.int .i64 O):=(hb2.cell (p:=⟨w.heap.size,8,none⟩) (by simp)).trans (by go_simp);have w2q9:w2.cell? ⟨w.heap.size,9,none⟩=some (.slice a rs.length c):=(hb2.cell (p:=⟨w.heap.size,9,none⟩) (by simp)).trans (by go_simp);have hl2:w.heap.size<w2.heap.size:=Nat.lt_of_lt_of_le (by simp) hb2.size;clear hb2))
   go_quiet ((go_at_call 65;exact Calls.quiet_of_same (halvesq_i _ _ HQ.out _)))
   go_wp2_with (first  | (go_at_call 101;refine (HVS.out _ (below_drewN HB2.out nq)).mono ?_;rw [dS];rintro e w3 ⟨rfl,hb3⟩;have HB3:=hid ((below_drewN HB2.out nq).trans (hb3.mono HB2.out.size));have w3q0:w3.cell? ⟨w.heap.size,0,none⟩=some (.int .i64 W):=(hb3.cell (p:=⟨w.heap.size,0,none⟩) hl2).trans w2q0;have w3q1:w3.cell? ⟨w.heap.size,1,none⟩=some (.int .i64 S):=(hb3.cell (p:=⟨w.heap.size,1,none⟩) hl2).trans w2q1;have w3q2:w3.cell? ⟨w.heap.size,2,none⟩=some (.int .i64 L):=(hb3.cell (p:=⟨w.heap.size,2,none⟩) hl2).trans w2q2;have w3q3:w3.cell? ⟨w.heap.size,3,none⟩=some (.int .i64 T):=(hb3.cell (p:=⟨w.heap.size,3,none⟩) hl2).trans w2q3;have w3q4:w3.cell? ⟨w.heap.size,4,none⟩=some (.int .i64 H):=(hb3.cell (p:=⟨w.heap.size,4,none⟩) hl2).trans w2q4;have w3q5:w3.cell? ⟨w.heap.size,5,none⟩=some (.int .i64 F):=(hb3.cell (p:=⟨w.heap.size,5,none⟩) hl2).trans w2q5;have w3q6:w3.cell? ⟨w.heap.size,6,none⟩=some (.int .i64 R):=(hb3.cell (p:=⟨w.heap.size,6,none⟩) hl2).trans w2q6;have w3q7:w3.cell? ⟨w.heap.size,7,none⟩=some (.int .i64 U):=(hb3.cell (p:=⟨w.heap.size,7,none⟩) hl2).trans w2q7;have w3q8:w3.cell? ⟨w.heap.size,8,none⟩=some (.int .i64 O):=(hb3.cell (p:=⟨w.heap.size,8,none⟩) hl2).trans w2q8;have w3q9:w3.cell? ⟨w.heap.size,9,none⟩=some (.slice a rs.length c):=(hb3.cell (p:=⟨w.heap.size,9,none⟩) hl2).trans w2q9;clear hb3))
   go_ret
   exact ⟨rfl,HB3.out⟩
  | true =>
   obtain ⟨D,HD⟩:∃ D,Hid (D=decide (roomOf (snapOf rs) W<=Q-1)):=⟨_,hid rfl⟩
   have he:E=D:=by
    rw [HE.out,HD.out,HQ.out]
    rw [HQ.out] at c5b
    unfold storeOk
    simp [c1,c2,c3,c3b,d4,c5,c5b,c6,c6b,dS]
   rw [<-HD.out] at HRM
   clear NO HE
   subst he
   go_enter Tryz.func100,Tryz.ntmps100
   go_wp2_with (first | (go_at_call 57;refine (width_i _ _).mono ?_;rw [d1];rintro e wz ⟨rfl,hwz⟩;rw [hwz];clear hwz wz) | (go_at_call 97;refine (isize_i _ _).mono ?_;rw [d2];rintro e wz ⟨rfl,hwz⟩;rw [hwz];clear hwz wz) | (go_at_call 65;refine (halves_i _ _).mono ?_;rw [<-HQ.out];rintro e wz ⟨rfl,hwz⟩;rw [hwz];clear hwz wz) | (go_at_call 115;refine (root_i _ _ _ _ _).mono ?_;rw [d4];rintro e w2 ⟨rfl,hb2⟩;have HB2:=hid ((HB0.out _).trans (hb2.mono (by simp)));have w2q0:w2.cell? ⟨w.heap.size,0,none⟩=some (.int .i64 W):=(hb2.cell (p:=⟨w.heap.size,0,none⟩) (by simp)).trans (by go_simp);have w2q1:w2.cell? ⟨w.heap.size,1,none⟩=some (.int .i64 S):=(hb2.cell (p:=⟨w.heap.size,1,none⟩) (by simp)).trans (by go_simp);have w2q2:w2.cell? ⟨w.heap.size,2,none⟩=some (.int .i64 L):=(hb2.cell (p:=⟨w.heap.size,2,none⟩) (by simp)).trans (by go_simp);have w2q3:w2.cell? ⟨w.heap.size,3,none⟩=some (.int .i64 T):=(hb2.cell (p:=⟨w.heap.size,3,none⟩) (by simp)).trans (by go_simp);have w2q4:w2.cell? ⟨w.heap.size,4,none⟩=some (.int .i64 H):=(hb2.cell (p:=⟨w.heap.size,4,none⟩) (by simp)).trans (by go_simp);have w2q5:w2.cell? ⟨w.heap.size,5,none⟩=some (.int .i64 F):=(hb2.cell (p:=⟨w.heap.size,5,none⟩) (by simp)).trans (by go_simp);have w2q6:w2.cell? ⟨w.heap.size,6,none⟩=some (.int .i64 R):=(hb2.cell (p:=⟨w.heap.size,6,none⟩) (by simp)).trans (by go_simp);have w2q7:w2.cell? ⟨w.heap.size,7,none⟩=some (.int .i64 U):=(hb2.cell (p:=⟨w.heap.size,7,none⟩) (by simp)).trans (by go_simp);have w2q8:w2.cell? ⟨w.heap.size,8,none⟩=some (.int .i64 O):=(hb2.cell (p:=⟨w.heap.size,8,none⟩) (by simp)).trans (by go_simp);have w2q9:w2.cell? ⟨w.heap.size,9,none⟩=some (.slice a rs.length c):=(hb2.cell (p:=⟨w.heap.size,9,none⟩) (by simp)).trans (by go_simp);have hl2:w.heap.size<w2.heap.size:=Nat.lt_of_lt_of_le (by simp) hb2.size;clear hb2))
   go_quiet ((go_at_call 65;exact Calls.quiet_of_same (halvesq_i _ _ HQ.out _)))
   go_wp2_with (first  | (go_at_call 101;refine (HVS.out _ (below_drewN HB2.out nq)).mono ?_;rw [dS];rintro e w3 ⟨rfl,hb3⟩;have HB3:=hid ((below_drewN HB2.out nq).trans (hb3.mono HB2.out.size));have w3q0:w3.cell? ⟨w.heap.size,0,none⟩=some (.int .i64 W):=(hb3.cell (p:=⟨w.heap.size,0,none⟩) hl2).trans w2q0;have w3q1:w3.cell? ⟨w.heap.size,1,none⟩=some (.int .i64 S):=(hb3.cell (p:=⟨w.heap.size,1,none⟩) hl2).trans w2q1;have w3q2:w3.cell? ⟨w.heap.size,2,none⟩=some (.int .i64 L):=(hb3.cell (p:=⟨w.heap.size,2,none⟩) hl2).trans w2q2;have w3q3:w3.cell? ⟨w.heap.size,3,none⟩=some (.int .i64 T):=(hb3.cell (p:=⟨w.heap.size,3,none⟩) hl2).trans w2q3;have w3q4:w3.cell? ⟨w.heap.size,4,none⟩=some (.int .i64 H):=(hb3.cell (p:=⟨w.heap.size,4,none⟩) hl2).trans w2q4;have w3q5:w3.cell? ⟨w.heap.size,5,none⟩=some (.int .i64 F):=(hb3.cell (p:=⟨w.heap.size,5,none⟩) hl2).trans w2q5;have w3q6:w3.cell? ⟨w.heap.size,6,none⟩=some (.int .i64 R):=(hb3.cell (p:=⟨w.heap.size,6,none⟩) hl2).trans w2q6;have w3q7:w3.cell? ⟨w.heap.size,7,none⟩=some (.int .i64 U):=(hb3.cell (p:=⟨w.heap.size,7,none⟩) hl2).trans w2q7;have w3q8:w3.cell? ⟨w.heap.size,8,none⟩=some (.int .i64 O):=(hb3.cell (p:=⟨w.heap.size,8,none⟩) hl2).trans w2q8;have w3q9:w3.cell? ⟨w.heap.size,9,none⟩=some (.slice a rs.length c):=(hb3.cell (p:=⟨w.heap.size,9,none⟩) hl2).trans w2q9;clear hb3) | (go_at_call 67;refine (HRM.out _ HB3.out).mono ?_;rintro e w4 ⟨rfl,hb4⟩))
   go_ret
   exact ⟨rfl,HB3.out.trans (hb4.mono HB3.out.size)⟩
end Go.Proofs.YtcoegjnjjdndjaaGreatDoor
