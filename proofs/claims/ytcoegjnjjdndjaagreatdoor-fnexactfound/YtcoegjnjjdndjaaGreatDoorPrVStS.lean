import Derived.Test.YtcoegjnjjdndjaaGreatDoorPrG52
import Derived.Test.YtcoegjnjjdndjaaGreatDoorPrG49
namespace Go.Proofs.YtcoegjnjjdndjaaGreatDoor
open Go.RowKit
set_option linter.unusedVariables false
set_option linter.unusedSimpArgs false
set_option maxRecDepth 4000
def rootOk (T H F R:Int):Bool:=decide (0<=T/\T<=1000000000) && decide (0<=R/\R<=60000) && decide (0<=H/\H<=1) && decide (1<=F/\F<=999999000)
def storeOk (W S L T H F R U O:Int) (rs:List Pr):Bool:=decide (1<=W/\W<=8) && decide (8<=S/\S<=200) && decide (1<=L/\L<=60000) && rootOk T H F R && decide (0<=U/\U<=hv S) && decide (0<=O/\O<=U) && stateOk rs && decide (roomOf (snapOf rs) W<=hv S-1)
theorem in_s (n lo hi:Int) (b:Bool) (h:decide (lo<=n/\n<=hi)=b) (w:World):Calls Tryz.prog 41 #[.int .i64 n,.int .i64 lo,.int .i64 hi] w fun e w'=>e=.returned (.bool b)/\w'=w:=by
 subst h
 by_cases h1:lo<=n<;>by_cases h2:n<=hi<;>(go_enter Tryz.func41,Tryz.ntmps41;go_wp2;go_ret;simp [h1,h2])
theorem hv_yes {S:Int} (h:8<=S/\S<=200):3<=hv S/\hv S<=99:=by unfold hv;rw [if_pos h];omega
theorem hv_no {S:Int} (h:¬ (8<=S/\S<=200)):hv S=0:=by unfold hv;rw [if_neg h]
theorem store_no (W S L T H F R U O:Int) (rs:List Pr) (h:¬ (1<=W/\W<=8)\/¬ (8<=S/\S<=200)\/¬ (1<=L/\L<=60000)\/rootOk T H F R=false\/¬ (0<=U/\U<=hv S)\/¬ (0<=O/\O<=U)\/stateOk rs=false\/¬ (roomOf (snapOf rs) W<=hv S-1)):storeOk W S L T H F R U O rs=false:=by
 unfold storeOk
 rcases h with h | h | h | h | h | h | h | h<;>simp [h]
theorem root_no (T H F R:Int) (h:¬ (0<=T/\T<=1000000000)\/¬ (0<=R/\R<=60000)\/¬ (0<=H/\H<=1)\/¬ (1<=F/\F<=999999000)):rootOk T H F R=false:=by
 unfold rootOk
 rcases h with h | h | h | h<;>simp [h]
set_option maxHeartbeats 8000000 in
theorem vstore_s (W S L T H F R U O:Int) (a:Option Addr) (rs:List Pr) (c:Nat) (w:World) (h:Prs w a rs) (hl:rs.length<=1048576) (hs:∀ x∈rs,x.1.size<=1048576/\x.2.size<=1048576) :
  Calls Tryz.prog 42 #[storeV W S L T H F R U O a rs.length c] w fun e w'=>e=.returned (.bool (storeOk W S L T H F R U O rs))/\Below w.heap.size w w':=by
 unfold storeV
 have hb0:∀ o,Below w.heap.size w (w.alloc o):=fun o=>(Below.refl _ _).alloc (Nat.le_refl _) _
 have hb1:∀ o p,Below w.heap.size w ((w.alloc o).alloc p):=fun o p=>((Below.refl _ _).alloc (Nat.le_refl _) _).alloc (by simp) _
 have HVS:=hid (fun o p=>vstate_s a rs c ((w.alloc o).alloc p) (h.below (hb1 o p)) hl hs)
 have HRM:=hid (fun w2 (h2:Below w.heap.size w w2)=>room_s a rs c W w2 (h.below h2) hl hs)
 obtain ⟨E,HE⟩:∃ E,Hid (E=storeOk W S L T H F R U O rs):=⟨_,hid rfl⟩
 rw [<-HE.out]
 obtain ⟨Q,hQ⟩:∃ Q,Q=hv S:=⟨_,rfl⟩
 have HQ:=hid hQ
 have no:=store_no W S L T H F R U O rs
 rw [<-HE.out,<-hQ] at no
 have NO:=hid no
 clear no hQ
 by_cases c1:1<=W/\W<=8
 case neg =>
  have d1:decide (1<=W/\W<=8)=false:=decide_eq_false c1
  have he:E=false:=NO.out (.inl (c1))
  subst he
  go_enter Tryz.func42,Tryz.ntmps42
  go_wp2_with (first | (go_at_call 45;refine (halves_s _ _).mono ?_;rw [<-HQ.out];rintro e wz ⟨rfl,hwz⟩;rw [hwz];clear hwz wz) | (go_at_call 39;refine (width_s _ _).mono ?_;rw [d1];rintro e wz ⟨rfl,hwz⟩;rw [hwz];clear hwz wz) | (go_at_call 41;refine (in_s _ _ _ _ (by assumption) _).mono ?_;rintro e wz ⟨rfl,hwz⟩;rw [hwz];clear hwz wz))
  go_ret
  exact ⟨rfl,hb0 _⟩
 have d1:decide (1<=W/\W<=8)=true:=decide_eq_true c1
 by_cases c2:8<=S/\S<=200
 case neg =>
  have d2:decide (8<=S/\S<=200)=false:=decide_eq_false c2
  have hq0:Q=0:=by rw [HQ.out];exact hv_no c2
  subst hq0
  have he:E=false:=NO.out (.inr (.inl (c2)))
  subst he
  go_enter Tryz.func42,Tryz.ntmps42
  go_wp2_with (first | (go_at_call 45;refine (halves_s _ _).mono ?_;rw [<-HQ.out];rintro e wz ⟨rfl,hwz⟩;rw [hwz];clear hwz wz) | (go_at_call 39;refine (width_s _ _).mono ?_;rw [d1];rintro e wz ⟨rfl,hwz⟩;rw [hwz];clear hwz wz) | (go_at_call 41;refine (in_s _ _ _ _ (by assumption) _).mono ?_;rintro e wz ⟨rfl,hwz⟩;rw [hwz];clear hwz wz))
  go_ret
  exact ⟨rfl,hb0 _⟩
 have d2:decide (8<=S/\S<=200)=true:=decide_eq_true c2
 have hqb:3<=Q/\Q<=99:=by rw [HQ.out];exact hv_yes c2
 have hq0:¬ Q=0:=by omega
 by_cases c3:1<=L/\L<=60000
 case neg =>
  have d3:decide (1<=L/\L<=60000)=false:=decide_eq_false c3
  have he:E=false:=NO.out (.inr (.inr (.inl (c3))))
  subst he
  go_enter Tryz.func42,Tryz.ntmps42
  go_wp2_with (first | (go_at_call 45;refine (halves_s _ _).mono ?_;rw [<-HQ.out];rintro e wz ⟨rfl,hwz⟩;rw [hwz];clear hwz wz) | (go_at_call 39;refine (width_s _ _).mono ?_;rw [d1];rintro e wz ⟨rfl,hwz⟩;rw [hwz];clear hwz wz) | (go_at_call 41;refine (in_s _ _ _ _ (by assumption) _).mono ?_;rintro e wz ⟨rfl,hwz⟩;rw [hwz];clear hwz wz))
  go_ret
  exact ⟨rfl,hb0 _⟩
 have d3:decide (1<=L/\L<=60000)=true:=decide_eq_true c3
 by_cases c4:0<=T/\T<=1000000000
 case neg =>
  have d4:decide (0<=T/\T<=1000000000)=false:=decide_eq_false c4
  have he:E=false:=NO.out (.inr (.inr (.inr (.inl (root_no T H F R (.inl (c4)))))))
  subst he
  go_enter Tryz.func42,Tryz.ntmps42
  go_wp2_with (first | (go_at_call 45;refine (halves_s _ _).mono ?_;rw [<-HQ.out];rintro e wz ⟨rfl,hwz⟩;rw [hwz];clear hwz wz) | (go_at_call 39;refine (width_s _ _).mono ?_;rw [d1];rintro e wz ⟨rfl,hwz⟩;rw [hwz];clear hwz wz) | (go_at_call 41;refine (in_s _ _ _ _ (by assumption) _).mono ?_;rintro e wz ⟨rfl,hwz⟩;rw [hwz];clear hwz wz))
  go_ret
  exact ⟨rfl,hb1 _ _⟩
 have d4:decide (0<=T/\T<=1000000000)=true:=decide_eq_true c4
 by_cases c5:0<=H/\H<=1
 case neg =>
  have d5:decide (0<=H/\H<=1)=false:=decide_eq_false c5
  have he:E=false:=NO.out (.inr (.inr (.inr (.inl (root_no T H F R (.inr (.inr (.inl (c5)))))))))
  subst he
  go_enter Tryz.func42,Tryz.ntmps42
  go_wp2_with (first | (go_at_call 45;refine (halves_s _ _).mono ?_;rw [<-HQ.out];rintro e wz ⟨rfl,hwz⟩;rw [hwz];clear hwz wz) | (go_at_call 39;refine (width_s _ _).mono ?_;rw [d1];rintro e wz ⟨rfl,hwz⟩;rw [hwz];clear hwz wz) | (go_at_call 41;refine (in_s _ _ _ _ (by assumption) _).mono ?_;rintro e wz ⟨rfl,hwz⟩;rw [hwz];clear hwz wz))
  go_ret
  exact ⟨rfl,hb1 _ _⟩
 have d5:decide (0<=H/\H<=1)=true:=decide_eq_true c5
 by_cases c6:1<=F/\F<=999999000
 case neg =>
  have d6:decide (1<=F/\F<=999999000)=false:=decide_eq_false c6
  have he:E=false:=NO.out (.inr (.inr (.inr (.inl (root_no T H F R (.inr (.inr (.inr (c6)))))))))
  subst he
  go_enter Tryz.func42,Tryz.ntmps42
  go_wp2_with (first | (go_at_call 45;refine (halves_s _ _).mono ?_;rw [<-HQ.out];rintro e wz ⟨rfl,hwz⟩;rw [hwz];clear hwz wz) | (go_at_call 39;refine (width_s _ _).mono ?_;rw [d1];rintro e wz ⟨rfl,hwz⟩;rw [hwz];clear hwz wz) | (go_at_call 41;refine (in_s _ _ _ _ (by assumption) _).mono ?_;rintro e wz ⟨rfl,hwz⟩;rw [hwz];clear hwz wz))
  go_ret
  exact ⟨rfl,hb1 _ _⟩
 have d6:decide (1<=F/\F<=999999000)=true:=decide_eq_true c6
 by_cases c7:0<=R/\R<=60000
 case neg =>
  have d7:decide (0<=R/\R<=60000)=false:=decide_eq_false c7
  have he:E=false:=NO.out (.inr (.inr (.inr (.inl (root_no T H F R (.inr (.inl (c7))))))))
  subst he
  go_enter Tryz.func42,Tryz.ntmps42
  go_wp2_with (first | (go_at_call 45;refine (halves_s _ _).mono ?_;rw [<-HQ.out];rintro e wz ⟨rfl,hwz⟩;rw [hwz];clear hwz wz) | (go_at_call 39;refine (width_s _ _).mono ?_;rw [d1];rintro e wz ⟨rfl,hwz⟩;rw [hwz];clear hwz wz) | (go_at_call 41;refine (in_s _ _ _ _ (by assumption) _).mono ?_;rintro e wz ⟨rfl,hwz⟩;rw [hwz];clear hwz wz))
  go_ret
  exact ⟨rfl,hb1 _ _⟩
 have d7:decide (0<=R/\R<=60000)=true:=decide_eq_true c7
 by_cases c8:0<=U/\U<=Q
 case neg =>
  have d8:decide (0<=U/\U<=Q)=false:=decide_eq_false c8
  have he:E=false:=NO.out (.inr (.inr (.inr (.inr (.inl (c8))))))
  subst he
  go_enter Tryz.func42,Tryz.ntmps42
  go_wp2_with (first | (go_at_call 45;refine (halves_s _ _).mono ?_;rw [<-HQ.out];rintro e wz ⟨rfl,hwz⟩;rw [hwz];clear hwz wz) | (go_at_call 39;refine (width_s _ _).mono ?_;rw [d1];rintro e wz ⟨rfl,hwz⟩;rw [hwz];clear hwz wz) | (go_at_call 41;refine (in_s _ _ _ _ (by assumption) _).mono ?_;rintro e wz ⟨rfl,hwz⟩;rw [hwz];clear hwz wz))
  go_ret
  exact ⟨rfl,hb1 _ _⟩
 have d8:decide (0<=U/\U<=Q)=true:=decide_eq_true c8
 by_cases c9:0<=O/\O<=U
 case neg =>
  have d9:decide (0<=O/\O<=U)=false:=decide_eq_false c9
  have he:E=false:=NO.out (.inr (.inr (.inr (.inr (.inr (.inl (c9)))))))
  subst he
  go_enter Tryz.func42,Tryz.ntmps42
  go_wp2_with (first | (go_at_call 45;refine (halves_s _ _).mono ?_;rw [<-HQ.out];rintro e wz ⟨rfl,hwz⟩;rw [hwz];clear hwz wz) | (go_at_call 39;refine (width_s _ _).mono ?_;rw [d1];rintro e wz ⟨rfl,hwz⟩;rw [hwz];clear hwz wz) | (go_at_call 41;refine (in_s _ _ _ _ (by assumption) _).mono ?_;rintro e wz ⟨rfl,hwz⟩;rw [hwz];clear hwz wz))
  go_ret
  exact ⟨rfl,hb1 _ _⟩
 have d9:decide (0<=O/\O<=U)=true:=decide_eq_true c9
 cases dS:stateOk rs with
 | false =>
  have he:E=false:=NO.out (.inr (.inr (.inr (.inr (.inr (.inr (.inl (dS))))))))
  subst he
  go_enter Tryz.func42,Tryz.ntmps42
  go_wp2_with (first | (go_at_call 45;refine (halves_s _ _).mono ?_;rw [<-HQ.out];rintro e wz ⟨rfl,hwz⟩;rw [hwz];clear hwz wz) | (go_at_call 39;refine (width_s _ _).mono ?_;rw [d1];rintro e wz ⟨rfl,hwz⟩;rw [hwz];clear hwz wz) | (go_at_call 41;refine (in_s _ _ _ _ (by assumption) _).mono ?_;rintro e wz ⟨rfl,hwz⟩;rw [hwz];clear hwz wz) | (go_at_call 44;refine (HVS.out _ _).mono ?_;rw [dS];rintro e w2 ⟨rfl,hb2⟩))
  go_ret
  exact ⟨rfl,(hb1 _ _).trans (hb2.mono (by simp<;>omega))⟩
 | true =>
  have hR:=roomOf_bound (snapOf rs) W
  have hRl:=snapOf_len rs
  obtain ⟨G,HG⟩:∃ G,Hid (G=roomOf (snapOf rs) W):=⟨_,hid rfl⟩
  rw [<-HG.out] at hR HRM NO
  have he:E=decide (G<=Q-1):=by
   rw [HE.out,HG.out,HQ.out]
   rw [HQ.out] at c8
   unfold storeOk rootOk
   simp [c1,c2,c3,c4,c5,c6,c7,c8,c9,dS]
  have hw1:IntKind.i64.wrap (Q-1)=Q-1:=by simp [IntKind.wrap,IntKind.bits,IntKind.signed];omega
  clear NO HE
  by_cases cG:G<=Q-1
  ·have dG:decide (G<=Q-1)=true:=decide_eq_true cG
   rw [dG] at he
   subst he
   go_enter Tryz.func42,Tryz.ntmps42
   go_wp2_with (first | (go_at_call 45;refine (halves_s _ _).mono ?_;rw [<-HQ.out];rintro e wz ⟨rfl,hwz⟩;rw [hwz];clear hwz wz) | (go_at_call 39;refine (width_s _ _).mono ?_;rw [d1];rintro e wz ⟨rfl,hwz⟩;rw [hwz];clear hwz wz) | (go_at_call 41;refine (in_s _ _ _ _ (by assumption) _).mono ?_;rintro e wz ⟨rfl,hwz⟩;rw [hwz];clear hwz wz) | (go_at_call 44;refine (HVS.out _ _).mono ?_;rw [dS];rintro e w2 ⟨rfl,hb2⟩;have q20:w2.cell? ⟨w.heap.size,0,none⟩=some (.int .i64 W):=(hb2.cell (p:=⟨w.heap.size,0,none⟩) (by simp<;>omega)).trans (by go_simp);have q29:w2.cell? ⟨w.heap.size,9,none⟩=some (.slice a rs.length c):=(hb2.cell (p:=⟨w.heap.size,9,none⟩) (by simp<;>omega)).trans (by go_simp);have HB2:=hid ((hb1 _ _).trans (hb2.mono (by simp<;>omega)))) | (go_at_call 50;refine (HRM.out _ HB2.out).mono ?_;rintro e w3 ⟨rfl,hb3⟩))
   go_ret
   exact ⟨rfl,HB2.out.trans (hb3.mono HB2.out.size)⟩
  ·have dG:decide (G<=Q-1)=false:=decide_eq_false cG
   rw [dG] at he
   subst he
   go_enter Tryz.func42,Tryz.ntmps42
   go_wp2_with (first | (go_at_call 45;refine (halves_s _ _).mono ?_;rw [<-HQ.out];rintro e wz ⟨rfl,hwz⟩;rw [hwz];clear hwz wz) | (go_at_call 39;refine (width_s _ _).mono ?_;rw [d1];rintro e wz ⟨rfl,hwz⟩;rw [hwz];clear hwz wz) | (go_at_call 41;refine (in_s _ _ _ _ (by assumption) _).mono ?_;rintro e wz ⟨rfl,hwz⟩;rw [hwz];clear hwz wz) | (go_at_call 44;refine (HVS.out _ _).mono ?_;rw [dS];rintro e w2 ⟨rfl,hb2⟩;have q20:w2.cell? ⟨w.heap.size,0,none⟩=some (.int .i64 W):=(hb2.cell (p:=⟨w.heap.size,0,none⟩) (by simp<;>omega)).trans (by go_simp);have q29:w2.cell? ⟨w.heap.size,9,none⟩=some (.slice a rs.length c):=(hb2.cell (p:=⟨w.heap.size,9,none⟩) (by simp<;>omega)).trans (by go_simp);have HB2:=hid ((hb1 _ _).trans (hb2.mono (by simp<;>omega)))) | (go_at_call 50;refine (HRM.out _ HB2.out).mono ?_;rintro e w3 ⟨rfl,hb3⟩))
   go_ret
   exact ⟨rfl,HB2.out.trans (hb3.mono HB2.out.size)⟩
end Go.Proofs.YtcoegjnjjdndjaaGreatDoor
