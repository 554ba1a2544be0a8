import Derived.Test.YtnmaknnnmjfhkadProg
import Derived.Test.YtnmaknnnmjfhkadDsk
import Derived.WalkKit
import Derived.WalkSpells
import Derived.WalkLawsBesides
import Derived.Outline
import Derived.Deep.RegionLaw
import Derived.Test.YtnmaknnnmjfhkadBytes
import Derived.Test.YtnmaknnnmjfhkadMhFnStates3
import Derived.Test.YtnmaknnnmjfhkadFbS
import Derived.Test.YtnmaknnnmjfhkadMhFnStates4

set_option maxHeartbeats 16000000
set_option maxRecDepth 8000
namespace Go.Proofs.Ytnmaknnnmjfhkad
open Go.RowKit
set_option maxRecDepth 4000
set_option linter.unusedVariables false

theorem infoStr' : (Try.prog.info? 9).map (fun i => (i.zero, i.size, i.bytes)) = some (some (.string ByteArray.empty), 1, 16) := by kernel_rfl
theorem partw_s (n m : Nat) (w : World) (h : n + m = 56) (h1 : 1 ≤ n) (h2 : n ≤ 8) : Calls Try.prog 139 #[.int .i64 (n : Int)] w fun e w' => e = .returned (.int .i64 (m : Int)) ∧ w' = w := by
  have hm : (64 - (n : Int) - 8) = (m : Int) := by omega
  go_enter Try.func139, Try.ntmps139
  go_wp2
  go_ret
  exact ⟨by first | rfl | exact congrArg _ (congrArg _ hm), rfl⟩

theorem below_grown {W w w1 : World} {e : TypeId} {size : Nat} {v : Value} {n B : Nat} {xs : List Value} (hb : Below B W w) (own : w.ownsRow B e size v n xs) (hg : w.grownBy w1 v.ownBlock) (hB : B ≤ w.heap.size) : Below B W w1 :=
  hb.trans ⟨hg.os, hg.tape, hg.output, hg.size, fun k hk => hg.block k (by omega) (fun he => by have := (own.lt k he.symm).1; omega)⟩
theorem own_alloc_size {w : World} {B : Nat} (h : B ≤ w.heap.size) (o : Obj) : B ≤ (w.alloc o).heap.size := by simp; omega

/-- The first k parts of a text, of m bytes each. -/
def pieces (s : ByteArray) (m k : Nat) : List ByteArray := (List.range k).map fun i => s.extract (i * m) (i * m + m)
theorem pieces_succ (s : ByteArray) (m k : Nat) : pieces s m (k + 1) = pieces s m k ++ [s.extract (k * m) (k * m + m)] := by simp [pieces, List.range_succ]
theorem pieces_length (s : ByteArray) (m k : Nat) : (pieces s m k).length = k := by simp [pieces]
/-- How many parts a text of so many bytes has. -/
def nparts (l m : Nat) : Nat := if l = 0 then 1 else (l - 1) / m + 1

theorem extract_eq_right (s : ByteArray) {a b c : Nat} (h : min (b - a) (s.size - a) = min (c - a) (s.size - a)) : s.extract a b = s.extract a c := by
  apply ByteArray.ext
  simp only [ByteArray.data_extract]
  exact Array.extract_eq_extract_right.2 h
theorem extract_rest (s r : ByteArray) (a m : Nat) (h : r = s.extract a s.size) : r.extract m r.size = s.extract (a + m) s.size := by
  subst h
  rw [ByteArray.extract_extract]
  apply extract_eq_right
  simp only [ByteArray.size_extract]
  omega
theorem extract_part (s r : ByteArray) (a m : Nat) (h : r = s.extract a s.size) : r.extract 0 m = s.extract a (a + m) := by
  subst h
  rw [ByteArray.extract_extract, Nat.add_zero]
  apply extract_eq_right
  omega
theorem extract_all (s r : ByteArray) (a m : Nat) (h : r = s.extract a s.size) (hm : r.size ≤ m) : r = s.extract a (a + m) := by
  subst h
  simp only [ByteArray.size_extract] at hm
  apply extract_eq_right
  omega
theorem nparts_eq (l m k r : Nat) (hm : 0 < m) (hr : k * m + r = l) (h0 : k = 0 ∨ 0 < r) (h1 : r ≤ m) : nparts l m = k + 1 := by
  unfold nparts
  by_cases hl : l = 0
  · rw [if_pos hl]
    rcases h0 with h0 | h0
    · omega
    · omega
  · rw [if_neg hl]
    have : (l - 1) / m = k := by
      rw [Nat.div_eq_iff hm]
      rcases h0 with h0 | h0
      · subst h0; omega
      · omega
    omega

set_option maxHeartbeats 16000000 in
theorem parts_s (s : ByteArray) (n m : Nat) (w : World) (hs : s.size ≤ 1048576) (h : n + m = 56) (h1 : 1 ≤ n) (h2 : n ≤ 8) :
    Calls Try.prog 126 #[.string s, .int .i64 (n : Int)] w fun e w' => ∃ g c, e = .returned (.slice (some ⟨g, 0, none⟩) (nparts s.size m) c) ∧ w.heap.size ≤ g ∧ Row w' g ((pieces s m (nparts s.size m)).map Value.string) ∧ Below w.heap.size w w' := by
  obtain ⟨i0, hi0, hz0, hz1, hz2⟩ := info_parts infoStr'
  have HI := hid (And.intro hi0 (And.intro hz0 (And.intro hz1 hz2)))
  clear hi0 hz0 hz1 hz2
  go_enter Try.func126, Try.ntmps126
  go_wp2_with (go_at_call 139; refine (partw_s n m _ h h1 h2).mono ?_; rintro e w' ⟨rfl, rfl⟩)
  go_loopw [0, 5] (fun x y wr => ∃ (k : Nat) (r : ByteArray), x = .string r ∧ Hid (r = s.extract (k * m) s.size) ∧ k * m + r.size = s.size ∧ Hid (k = 0 ∨ 0 < r.size) ∧ wr.ownsRow w.heap.size 9 1 y k ((pieces s m k).map Value.string) ∧ Below w.heap.size w wr) (fun x _ _ => match x with | .string r => r.size | _ => 0)
  case atStart => exact ⟨0, s, rfl, by show s = _; simp, by simp, .inl rfl, World.ownsRow_lit _ #[] 0 (Nat.le_refl _) (by simp) (by simp), (Below.refl _ _).alloc (Nat.le_refl _) _⟩
  case round =>
    obtain ⟨k, r, rfl, HR, hr, H0, hown, hbel⟩ := hrel
    by_cases hlt : m < r.size
    · have hlt' : (m : Int) < (r.size : Int) := by omega
      have hk1 : k ≤ 1048576 := by have : k * 1 ≤ k * m := Nat.mul_le_mul_left k (by omega); omega
      have hsz : w.heap.size ≤ wr.heap.size := hbel.size
      have HB := hid hbel
      have HO := hid (hown.alloc (.cells #[.string (r.extract 0 m)] 9))
      clear hbel hown
      go_wp2_with (at_builtin; refine wpList_append_lies _ rfl _ _ 49 rfl w.heap.size 9 i0 (.string ByteArray.empty) 1 16 Try.underlying49 HI.out.1 HI.out.2.1 HI.out.2.2.1 HI.out.2.2.2 rfl (by omega) _ k _ rfl HO.out ⟨wr.heap.size, 0, none⟩ 1 1 [.string (r.extract 0 m)] rfl rfl (World.news_of_block (heap_alloc_new wr _)) (by intro u hu; simp at hu; subst hu; rfl) (by omega) (by unfold maxLen; omega) (by omega) (own_alloc_size hsz _) (wr.heap.size + 1) (by simp) ?_; intro g cap w3 hown3 hgrow hat hlt3; have HO3 := hid hown3; have HB3 := hid (below_grown (HB.out.alloc hsz _) HO.out hgrow (own_alloc_size hsz _)); clear hown3 hgrow hat)
      refine ⟨⟨k + 1, r.extract m r.size, rfl, ?_, ?_, ?_, ?_, HB3.out⟩, ?_⟩
      · show _ = _
        rw [extract_rest s r _ m HR.out, Nat.add_mul, Nat.one_mul]
      · rw [Nat.add_mul, Nat.one_mul]; simp only [ByteArray.size_extract]; omega
      · exact .inr (by simp only [ByteArray.size_extract]; omega)
      · have e := HO3.out
        rw [extract_part s r _ m HR.out] at e
        rw [pieces_succ, List.map_append]
        exact e
      · simp only [ByteArray.size_extract]; omega
    · have hk1 : k ≤ 1048576 := by have : k * 1 ≤ k * m := Nat.mul_le_mul_left k (by omega); omega
      have hsz : w.heap.size ≤ wr.heap.size := hbel.size
      have HB := hid hbel
      have HN := hid (nparts_eq s.size m k r.size (by omega) hr H0.out (by omega))
      have HO := hid (hown.alloc (.cells #[.string r] 9))
      clear hbel hown H0
      go_wp2_with (at_builtin; refine wpList_append_lies _ rfl _ _ 49 rfl w.heap.size 9 i0 (.string ByteArray.empty) 1 16 Try.underlying49 HI.out.1 HI.out.2.1 HI.out.2.2.1 HI.out.2.2.2 rfl (by omega) _ k _ rfl HO.out ⟨wr.heap.size, 0, none⟩ 1 1 [.string r] rfl rfl (World.news_of_block (heap_alloc_new wr _)) (by intro u hu; simp at hu; subst hu; rfl) (by omega) (by unfold maxLen; omega) (by omega) (own_alloc_size hsz _) (wr.heap.size + 1) (by simp) ?_; intro g cap w3 hown3 hgrow hat hlt3; have HO3 := hid hown3; have HB3 := hid (below_grown (HB.out.alloc hsz _) HO.out hgrow (own_alloc_size hsz _)); clear hown3 hgrow hat)
      go_ret
      refine ⟨g, cap, by rw [HN.out]; rfl, (HO3.out.lt g rfl).1, ?_, HB3.out⟩
      have e := owns_row HO3.out
      rw [HN.out, pieces_succ, List.map_append]
      rw [extract_all s r _ m HR.out (by omega)] at e
      exact e

end Go.Proofs.Ytnmaknnnmjfhkad

namespace Go.Proofs.Ytnmaknnnmjfhkad
open Go.RowKit
set_option maxRecDepth 4000

theorem width_s (n : Int) (w : World) : Calls Try.prog 106 #[.int .i64 n] w fun e w' => e = .returned (.bool (decide (1 ≤ n ∧ n ≤ 8))) ∧ w' = w := by
  by_cases h1 : 1 ≤ n
  · by_cases h2 : n ≤ 8
    · go_enter Try.func106, Try.ntmps106
      go_wp2
      go_ret
      exact ⟨by simp [h1, h2], rfl⟩
    · go_enter Try.func106, Try.ntmps106
      go_wp2
      go_ret
      exact ⟨by simp [h2], rfl⟩
  · go_enter Try.func106, Try.ntmps106
    go_wp2
    go_ret
    exact ⟨by simp; omega, rfl⟩

theorem width_i (n : Int) (w : World) : Calls Try.prog 63 #[.int .i64 n] w fun e w' => e = .returned (.bool (decide (1 ≤ n ∧ n ≤ 8))) ∧ w' = w := by
  by_cases h1 : 1 ≤ n
  · by_cases h2 : n ≤ 8
    · go_enter Try.func63, Try.ntmps63
      go_wp2
      go_ret
      exact ⟨by simp [h1, h2], rfl⟩
    · go_enter Try.func63, Try.ntmps63
      go_wp2
      go_ret
      exact ⟨by simp [h2], rfl⟩
  · go_enter Try.func63, Try.ntmps63
    go_wp2
    go_ret
    exact ⟨by simp; omega, rfl⟩

end Go.Proofs.Ytnmaknnnmjfhkad

namespace Go.Proofs.Ytnmaknnnmjfhkad
open Go.RowKit
set_option maxRecDepth 4000
set_option linter.unusedVariables false

/-- How many pages an entry has. -/
def npages (l : Nat) (n : Int) : Int := if 1 ≤ n ∧ n ≤ 8 then (nparts l (56 - n).toNat : Int) else 0

theorem partw_i (n m : Nat) (w : World) (h : n + m = 56) (h1 : 1 ≤ n) (h2 : n ≤ 8) : Calls Try.prog 64 #[.int .i64 (n : Int)] w fun e w' => e = .returned (.int .i64 (m : Int)) ∧ w' = w := by
  have hm : (64 - (n : Int) - 8) = (m : Int) := by omega
  go_enter Try.func64, Try.ntmps64
  go_wp2
  go_ret
  exact ⟨by first | rfl | exact congrArg _ (congrArg _ hm), rfl⟩

theorem pages_i (s : ByteArray) (n : Int) (w : World) (hs : s.size ≤ 1048576) :
    Calls Try.prog 15 #[.string s, .int .i64 n] w fun e w' => e = .returned (.int .i64 (npages s.size n)) ∧ Below w.heap.size w w' := by
  obtain ⟨R, HR⟩ : ∃ R, Hid (R = npages s.size n) := ⟨_, hid rfl⟩
  rw [← HR.out]
  by_cases hn : 1 ≤ n ∧ n ≤ 8
  · obtain ⟨m, rfl⟩ : ∃ m : Nat, n = (m : Int) := ⟨n.toNat, by omega⟩
    obtain ⟨q, hq⟩ : ∃ q : Nat, m + q = 56 := ⟨56 - m, by omega⟩
    have hd : decide (1 ≤ (m : Int) ∧ (m : Int) ≤ 8) = true := by simp; omega
    by_cases hz : s.size = 0
    · have hz' : s = ByteArray.empty := by apply ByteArray.ext; exact Array.eq_empty_of_size_eq_zero hz
      subst hz'
      have hR : R = 1 := by rw [HR.out]; unfold npages nparts; rw [if_pos hn]; simp
      clear HR
      subst hR
      go_enter Try.func15, Try.ntmps15
      go_wp2_with (first | (go_at_call 63; refine (width_i _ _).mono ?_; rw [hd]; rintro e w' ⟨rfl, rfl⟩))
      go_ret
      exact ⟨rfl, Below.refl _ _⟩
    · obtain ⟨l, hl⟩ : ∃ l : Nat, s.size = l + 1 := ⟨s.size - 1, by omega⟩
      have hR : R = ((l / q : Nat) : Int) + 1 := by
        rw [HR.out]; unfold npages nparts
        rw [if_pos hn, if_neg hz, show (56 - (m : Int)).toNat = q by omega, hl]
        simp
      obtain ⟨d, hdq⟩ : ∃ d : Nat, d = l / q := ⟨_, rfl⟩
      have hq1 : d ≤ l := by rw [hdq]; exact Nat.div_le_self _ _
      have hq2 : (l : Int) / (q : Int) = (d : Int) := by rw [hdq]; simp
      rw [← hdq] at hR
      clear HR hdq
      subst hR
      have hne : s.toList.isEmpty = false := by rw [isEmpty_size]; simp [hz]
      go_enter Try.func15, Try.ntmps15
      go_wp2_with (first | (go_at_call 63; refine (width_i _ _).mono ?_; rw [hd]; rintro e w' ⟨rfl, rfl⟩) | (go_at_call 64; refine (partw_i m q _ hq (by omega) (by omega)).mono ?_; rintro e w' ⟨rfl, rfl⟩))
      go_ret
      exact ⟨rfl, Below.refl _ _⟩
  · have hR : R = 0 := by rw [HR.out]; unfold npages; exact if_neg hn
    clear HR
    subst hR
    have hd : decide (1 ≤ n ∧ n ≤ 8) = false := by simp; omega
    go_enter Try.func15, Try.ntmps15
    go_wp2_with (first | (go_at_call 63; refine (width_i _ _).mono ?_; rw [hd]; rintro e w' ⟨rfl, rfl⟩))
    go_ret
    exact ⟨rfl, Below.refl _ _⟩
end Go.Proofs.Ytnmaknnnmjfhkad

namespace Go.Proofs.Ytnmaknnnmjfhkad
open Go.RowKit
set_option maxRecDepth 4000
set_option linter.unusedVariables false

theorem pages_s (s : ByteArray) (n : Int) (w : World) (hs : s.size ≤ 1048576) :
    Calls Try.prog 72 #[.string s, .int .i64 n] w fun e w' => e = .returned (.int .i64 (npages s.size n)) ∧ Below w.heap.size w w' := by
  unfold npages
  by_cases hn : 1 ≤ n ∧ n ≤ 8
  · rw [if_pos hn]
    obtain ⟨m, rfl⟩ : ∃ m : Nat, n = (m : Int) := ⟨n.toNat, by omega⟩
    obtain ⟨q, hq⟩ : ∃ q : Nat, m + q = 56 := ⟨56 - m, by omega⟩
    rw [show (56 - (m : Int)).toNat = q by omega]
    have hd : decide (1 ≤ (m : Int) ∧ (m : Int) ≤ 8) = true := by simp; omega
    go_enter Try.func72, Try.ntmps72
    go_wp2_with (first | (go_at_call 106; refine (width_s _ _).mono ?_; rw [hd]; rintro e w' ⟨rfl, rfl⟩) | (go_at_call 126; refine (parts_s s m q _ hs hq (by omega) (by omega)).mono ?_; rintro e w2 ⟨g, c, rfl, hg, hrow, hb⟩; clear hrow))
    go_ret
    exact ⟨rfl, hb⟩
  · rw [if_neg hn]
    have hd : decide (1 ≤ n ∧ n ≤ 8) = false := by simp; omega
    go_enter Try.func72, Try.ntmps72
    go_wp2_with (first | (go_at_call 106; refine (width_s _ _).mono ?_; rw [hd]; rintro e w' ⟨rfl, rfl⟩))
    go_ret
    exact ⟨rfl, Below.refl _ _⟩

end Go.Proofs.Ytnmaknnnmjfhkad

namespace Go.Proofs.Ytnmaknnnmjfhkad
open Go.RowKit
set_option linter.unusedVariables false
set_option linter.unusedSimpArgs false
set_option maxRecDepth 4000

/-- How many pages batches have together. -/
def roomOf (bss : List (List Ch)) (n : Int) : Int := (bss.map fun b => npages (bOut b).size n).sum
theorem npages_bound (l : Nat) (n : Int) : 0 ≤ npages l n ∧ npages l n ≤ (l : Int) + 1 := by
  unfold npages nparts
  split
  · split
    · omega
    · have h := Nat.div_le_self (l - 1) (56 - n).toNat
      obtain ⟨q, hq⟩ : ∃ q, q = (l - 1) / (56 - n).toNat := ⟨_, rfl⟩
      rw [← hq] at h ⊢
      omega
  · omega
theorem bOut_bound (b : List Ch) : (bOut b).size ≤ 2460 := by
  unfold bOut
  split
  · rename_i h
    obtain ⟨h1, h2⟩ := batchOk_of h
    have := bForm_size b h2
    omega
  · simp
theorem roomOf_nil (n : Int) : roomOf [] n = 0 := rfl
theorem roomOf_snoc (bss : List (List Ch)) (b : List Ch) (n : Int) : roomOf (bss ++ [b]) n = roomOf bss n + npages (bOut b).size n := by simp [roomOf]
theorem roomOf_bound (bss : List (List Ch)) (n : Int) : 0 ≤ roomOf bss n ∧ roomOf bss n ≤ 2461 * (bss.length : Int) := by
  induction bss with
  | nil => exact ⟨Int.le_refl _, by simp [roomOf]⟩
  | cons b r ih =>
    have e : roomOf (b :: r) n = npages (bOut b).size n + roomOf r n := by simp [roomOf]
    have h1 := npages_bound (bOut b).size n
    have h2 := bOut_bound b
    rw [e, List.length_cons]
    omega
theorem takeR_snoc {α : Type} (l : List α) (k : Nat) (d : α) (h : k < l.length) : l.take (k + 1) = l.take k ++ [l.getD k d] := by
  rw [List.take_succ_eq_append_getElem h]
  simp [List.getD, h]

set_option maxHeartbeats 16000000 in
theorem room_s (a : Option Addr) (rs : List Pr) (c : Nat) (n : Int) (w : World) (h : Prs w a rs) (hl : rs.length ≤ 1048576) (hs : ∀ x ∈ rs, x.1.size ≤ 1048576 ∧ x.2.size ≤ 1048576) :
    Calls Try.prog 20 #[.agg #[.slice a rs.length c], .int .i64 n] w fun e w' => e = .returned (.int .i64 (roomOf (snapOf rs) n)) ∧ Below w.heap.size w w' := by
  have hb0 : Below w.heap.size w (w.alloc (.cells #[.slice a rs.length c] 25)) := (Below.refl _ _).alloc (Nat.le_refl _) _
  have hv := snap_s a rs c (w.alloc (.cells #[.slice a rs.length c] 25)) (h.below hb0) hl hs
  have HV := hid hv
  have HB0 := hid hb0
  clear hv hb0
  obtain ⟨bss, hbss⟩ : ∃ bss, bss = snapOf rs := ⟨_, rfl⟩
  have hbl := snapOf_len rs
  have HMB : Hid (∀ b ∈ bss, b.length ≤ 1048576 ∧ ∀ x ∈ b, x.1.size ≤ 1048576 ∧ x.2.1.size ≤ 1048576) := by
    intro b hb
    rw [hbss] at hb
    obtain ⟨h1, h2⟩ := snapOf_mem hb
    exact ⟨by omega, fun x hx => hs _ (h2 x hx)⟩
  rw [← hbss] at HV hbl ⊢
  clear hbss
  go_enter Try.func20, Try.ntmps20
  go_wp2_with (go_at_call 71; refine HV.out.mono ?_; rintro e w2 ⟨v, rfl, hbat, hb2⟩)
  obtain ⟨va, vc, rfl, hbt⟩ := hbat.bts
  have HBT := hid hbt
  have HBW := hid (HB0.out.trans (hb2.mono HB0.out.size))
  clear hbat hb2 hbt HV HB0
  go_loopw [5, 7] (fun y i wr => ∃ k : Nat, k ≤ bss.length ∧ i = .int .i64 (k : Int) ∧ y = .int .i64 (roomOf (bss.take k) n) ∧ Below w2.heap.size w2 wr) (fun _ i _ => bss.length - (intOf i).toNat)
  case atStart => exact ⟨0, Nat.zero_le _, rfl, rfl, Below.refl _ _⟩
  case round =>
    obtain ⟨k, hk, rfl, rfl, hbel⟩ := hrel
    by_cases hlt : k < bss.length
    · obtain ⟨g, p, cc, rfl, hg, hc, hch⟩ := (HBT.out.below hbel).at hlt
      have hlt' : (k : Int) < (bss.length : Int) := by omega
      have hk0 : (0 : Int) ≤ (k : Int) := by omega
      have hmem := HMB.out (bss.getD k []) (by simp [List.getD, hlt])
      have HST := hid (roomOf_snoc (bss.take k) (bss.getD k []) n)
      rw [← takeR_snoc bss k [] hlt] at HST
      have hR := roomOf_bound (bss.take k) n
      have hRl : (bss.take k).length ≤ 5 := by rw [List.length_take]; omega
      have hP := npages_bound (bOut (bss.getD k [])).size n
      have hO := bOut_bound (bss.getD k [])
      obtain ⟨b, hb⟩ : ∃ b, b = bss.getD k [] := ⟨_, rfl⟩
      rw [← hb] at hc hch hmem HST hP hO
      obtain ⟨r, hr⟩ : ∃ r, r = roomOf (bss.take k) n := ⟨_, rfl⟩
      rw [← hr] at HST hR ⊢
      have HF := hid (fun W (hW : Chs W p b) => formbatch_s p b cc W hW hmem.1 hmem.2)
      have HG := hid (fun W => pages_s (bOut b) n W (by omega))
      have HCH := hid hch
      have HBL := hid hbel
      obtain ⟨q, hq⟩ : ∃ q, q = npages (bOut b).size n := ⟨_, rfl⟩
      rw [← hq] at HG hP HST
      obtain ⟨bo, hbo⟩ : ∃ bo, bo = bOut b := ⟨_, rfl⟩
      rw [← hbo] at HF HG hP hO
      have hw0 : IntKind.i64.wrap (r + q) = r + q := by simp [IntKind.wrap, IntKind.bits, IntKind.signed]; omega
      clear hb hr hq hbo hmem hch hbel
      go_wp2_with (first | (go_at_call 73; refine (HF.out _ HCH.out).mono ?_; rintro e w3 ⟨rfl, hb3⟩) | (go_at_call 72; refine (HG.out _).mono ?_; rintro e w4 ⟨rfl, hb4⟩))
      refine ⟨⟨k + 1, by omega, by go_num, ?_, ?_⟩, by simp [intOf]; omega⟩
      · rw [HST.out]
      · exact HBL.out.trans ((hb3.trans (hb4.mono hb3.size)).mono HBL.out.size)
    · have hkl : k = bss.length := by omega
      subst hkl
      go_wp2
      go_ret
      exact ⟨by simp, HBW.out.trans (hbel.mono HBW.out.size)⟩
set_option maxHeartbeats 16000000 in
theorem room_i (a : Option Addr) (rs : List Pr) (c : Nat) (n : Int) (w : World) (h : Prs w a rs) (hc0 : rs.length ≤ c) (hl : rs.length ≤ 1048576) (hs : ∀ x ∈ rs, x.1.size ≤ 1048576 ∧ x.2.size ≤ 1048576) :
    Calls Try.prog 17 #[.agg #[.slice a rs.length c], .int .i64 n] w fun e w' => e = .returned (.int .i64 (roomOf (snapOf rs) n)) ∧ Below w.heap.size w w' := by
  have hb0 : Below w.heap.size w (w.alloc (.cells #[.slice a rs.length c] 25)) := (Below.refl _ _).alloc (Nat.le_refl _) _
  have hv := snap_i a rs c (w.alloc (.cells #[.slice a rs.length c] 25)) (h.below hb0) hc0 hl hs
  have HV := hid hv
  have HB0 := hid hb0
  clear hv hb0
  obtain ⟨bss, hbss⟩ : ∃ bss, bss = snapOf rs := ⟨_, rfl⟩
  have hbl := snapOf_len rs
  have HMB : Hid (∀ b ∈ bss, b.length ≤ 1048576 ∧ ∀ x ∈ b, x.1.size ≤ 1048576 ∧ x.2.1.size ≤ 1048576) := by
    intro b hb
    rw [hbss] at hb
    obtain ⟨h1, h2⟩ := snapOf_mem hb
    exact ⟨by omega, fun x hx => hs _ (h2 x hx)⟩
  rw [← hbss] at HV hbl ⊢
  clear hbss
  go_enter Try.func17, Try.ntmps17
  go_wp2_with (go_at_call 14; refine HV.out.mono ?_; rintro e w2 ⟨v, rfl, hbat, hb2⟩; obtain ⟨va, vc, rfl, hbt⟩ := hbat.bts)
  have HBT := hid hbt
  have HBW := hid (HB0.out.trans (hb2.mono HB0.out.size))
  clear hbat hb2 hbt HV HB0
  go_loopw [5, 11] (fun y i wr => ∃ k : Nat, k ≤ bss.length ∧ i = .int .i64 (k : Int) ∧ y = .int .i64 (roomOf (bss.take k) n) ∧ Below w2.heap.size w2 wr) (fun _ i _ => bss.length - (intOf i).toNat)
  case atStart => exact ⟨0, Nat.zero_le _, rfl, rfl, Below.refl _ _⟩
  case round =>
    obtain ⟨k, hk, rfl, rfl, hbel⟩ := hrel
    by_cases hlt : k < bss.length
    · obtain ⟨g, p, cc, rfl, hg, hc, hch⟩ := (HBT.out.below hbel).at hlt
      have hlt' : (k : Int) < (bss.length : Int) := by omega
      have hk0 : (0 : Int) ≤ (k : Int) := by omega
      have hmem := HMB.out (bss.getD k []) (by simp [List.getD, hlt])
      have HST := hid (roomOf_snoc (bss.take k) (bss.getD k []) n)
      rw [← takeR_snoc bss k [] hlt] at HST
      have hR := roomOf_bound (bss.take k) n
      have hRl : (bss.take k).length ≤ 5 := by rw [List.length_take]; omega
      have hP := npages_bound (bOut (bss.getD k [])).size n
      have hO := bOut_bound (bss.getD k [])
      obtain ⟨b, hb⟩ : ∃ b, b = bss.getD k [] := ⟨_, rfl⟩
      rw [← hb] at hc hch hmem HST hP hO
      obtain ⟨r, hr⟩ : ∃ r, r = roomOf (bss.take k) n := ⟨_, rfl⟩
      rw [← hr] at HST hR ⊢
      have HF := hid (fun W (hW : Chs W p b) => formbatch_i p b cc W hW hmem.1 hmem.2)
      have HG := hid (fun W => pages_i (bOut b) n W (by omega))
      have HCH := hid hch
      have HBL := hid hbel
      obtain ⟨q, hq⟩ : ∃ q, q = npages (bOut b).size n := ⟨_, rfl⟩
      rw [← hq] at HG hP HST
      obtain ⟨bo, hbo⟩ : ∃ bo, bo = bOut b := ⟨_, rfl⟩
      rw [← hbo] at HF HG hP hO
      have hw0 : IntKind.i64.wrap (r + q) = r + q := by simp [IntKind.wrap, IntKind.bits, IntKind.signed]; omega
      clear hb hr hq hbo hmem hch hbel
      go_wp2_with (first | (go_at_call 16; refine (HF.out _ HCH.out).mono ?_; rintro e w3 ⟨rfl, hb3⟩) | (go_at_call 15; refine (HG.out _).mono ?_; rintro e w4 ⟨rfl, hb4⟩))
      refine ⟨⟨k + 1, by omega, by go_num, ?_, ?_⟩, by simp [intOf]; omega⟩
      · rw [HST.out]
      · exact HBL.out.trans ((hb3.trans (hb4.mono hb3.size)).mono HBL.out.size)
    · have hkl : k = bss.length := by omega
      subst hkl
      go_wp2
      go_ret
      exact ⟨by simp, HBW.out.trans (hbel.mono HBW.out.size)⟩
end Go.Proofs.Ytnmaknnnmjfhkad
