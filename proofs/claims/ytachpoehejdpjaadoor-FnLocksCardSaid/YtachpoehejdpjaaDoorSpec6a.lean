/-
  The model's questions on queues and locks. No conditions beyond that the lists can be read.
-/
import Derived.Test.YtachpoehejdpjaaDoorMath6
import Derived.Test.YtachpoehejdpjaaDoorSpec1
import Derived.Test.YtachpoehejdpjaaDoorOwn4
import Derived.Test.YtachpoehejdpjaaDoorCut6
import Derived.Deep.RegionHeld3
import Derived.Deep.RegionWith
namespace Go.Proofs.YtachpoehejdpjaaDoor
open Go.RowKit
set_option maxRecDepth 100000

theorem l5Id_any (v : Int) (w : World) :
    Calls Tryd.prog 44 #[.int .i64 v] w fun e w' => e = .returned (.bool (id6 v)) ∧ w = w' := by
  have e : inR 0 4 v = id6 v := by unfold inR id6; first | rfl | (congr 1) | (simp; rfl)
  go_enter Tryd.func44, Tryd.ntmps44
  go_wp2_with (go_at_call 59; refine (l1In_any _ _ _ _).mono ?_; rintro e9 w9 ⟨rfl, rfl⟩)
  go_ret
  exact ⟨ret_bool e, rfl⟩
theorem l1Has_any (lo hi : Nat) (A : Option Addr) (n c : Nat) (xs : List Int) (v : Int) (w : World) (hn : n * 8 ≤ 140737488351232) (ex : xs.length = n) (h : Sl w lo hi A n (fun k => .int .i64 (gi xs k))) :
    Calls Tryd.prog 39 #[.slice A n c, .int .i64 v] w fun e w' => e = .returned (.bool (decide (v ∈ xs))) ∧ w = w' := by
  have H := Lib.hid h
  have EX := Lib.hid ex
  clear h ex
  go_enter Tryd.func39, Tryd.ntmps39
  go_wp2
  go_loop [5] (fun i => ∃ k : Nat, k ≤ n ∧ i = .int .i64 k ∧ ∀ j, j < k → gi xs j ≠ v) (fun i => n - (intOf i).toNat)
  case atStart => exact ⟨0, Nat.zero_le _, rfl, fun j hj => absurd hj (Nat.not_lt_zero _)⟩
  case round =>
    obtain ⟨k, hk, rfl, hs⟩ := hrel
    have HS := Lib.hid hs
    clear hs
    by_cases hlt : k < n
    · obtain ⟨b, off, rfl, h1, h2, hc⟩ := H.out.at_ hlt
      have hck := hc k hlt
      clear hc H
      by_cases he : gi xs k = v
      · have HE := Lib.hid he
        rw [he] at hck
        clear he
        go_wp2
        go_ret
        exact ⟨ret_true (by rw [← HE.out, gi_lt xs k (by rw [EX.out]; exact hlt)]; exact List.getElem_mem _), rfl⟩
      · go_wp2
        go_round
        case rel => exact ⟨k + 1, by omega, by go_num, upto_succ HS.out he⟩
        case measure => simp [intOf]; omega
    · go_wp2
      go_ret
      refine ⟨ret_false (fun hm => ?_), rfl⟩
      obtain ⟨j, hj, e⟩ := List.mem_iff_getElem.1 hm
      exact HS.out j (by rw [EX.out] at hj; omega) (by rw [gi_lt xs j hj]; exact e)

set_option maxHeartbeats 1000000 in
theorem specQueueFault_any (lo hi : Nat) (A : Option Addr) (n c : Nat) (xs : List Int) (w : World) (hn : n * 8 ≤ 140737488351232) (hnc : n ≤ c) (ex : xs.length = n) (h : Sl w lo hi A n (fun k => .int .i64 (gi xs k))) :
    Calls Tryd.prog 27 #[.slice A n c] w fun e w' => e = .returned (.int .i64 (qf6 xs)) ∧ Below w.heap.size w w' := by
  have H := Lib.hid h
  have EX := Lib.hid ex
  have NC := Lib.hid hnc
  clear h ex hnc
  by_cases hn5 : 5 < n
  · go_enter Tryd.func27, Tryd.ntmps27
    go_wp2
    go_ret
    exact ⟨ret_i64 (qf6_many (by rw [EX.out]; exact hn5)).symm, Below.refl _ _⟩
  go_enter Tryd.func27, Tryd.ntmps27
  go_wp2
  go_loop [3] (fun i => ∃ k : Nat, k ≤ n ∧ i = .int .i64 k ∧ ∀ j, j < k → id6 (gi xs j) = true) (fun i => n - (intOf i).toNat)
  case atStart => exact ⟨0, Nat.zero_le _, rfl, fun j hj => absurd hj (Nat.not_lt_zero _)⟩
  case round =>
    obtain ⟨k, hk, rfl, hs⟩ := hrel
    have HS := Lib.hid hs
    clear hs
    by_cases hlt : k < n
    · obtain ⟨b, off, rfl, h1, h2, hc⟩ := H.out.at_ hlt
      have hck := hc k hlt
      clear hc H
      rcases hb : id6 (gi xs k) with _ | _
      · go_wp2_with (go_at_call 44; refine (l5Id_any _ _).mono ?_; rintro e9 w9 ⟨rfl, rfl⟩)
        go_ret
        exact ⟨ret_i64 (qf6_range (by rw [EX.out]; exact hn5) (by rw [EX.out]; exact hlt) hb).symm, Below.refl _ _⟩
      · go_wp2_with (go_at_call 44; refine (l5Id_any _ _).mono ?_; rintro e9 w9 ⟨rfl, rfl⟩)
        go_round
        case rel => exact ⟨k + 1, by omega, by go_num, upto_succ HS.out hb⟩
        case measure => simp [intOf]; omega
    · have e0 : k = n := by omega
      subst e0
      go_wp2
      go_loopw [4] (fun i wr => ∃ j : Nat, j ≤ k ∧ i = .int .i64 j ∧ Below w.heap.size w wr ∧ ∀ m, m < j → gi xs m ∉ xs.take m) (fun i _ => k - (intOf i).toNat)
      case atStart => exact ⟨0, Nat.zero_le _, rfl, Below.refl _ _, fun j hj => absurd hj (Nat.not_lt_zero _)⟩
      case round =>
        obtain ⟨j, hj, rfl, hb, hs2⟩ := hrel
        have HS2 := Lib.hid hs2
        have HB := Lib.hid hb
        clear hs2
        by_cases hlt2 : j < k
        · obtain ⟨b, off, rfl, h1, h2, hc⟩ := H.out.lt.at_ hlt2
          have hck := (hb.cell (p := ⟨b, off + j, none⟩) (by simp; omega)).trans (hc j hlt2)
          have HT : Hid (∀ W, Below wr.heap.size wr W → ∀ d : Nat, Calls Tryd.prog 39 #[.slice (some ⟨b, off, none⟩) j d, .int .i64 (gi xs j)] W fun e w' => e = .returned (.bool (decide (gi xs j ∈ xs.take j))) ∧ W = w') := fun W hW d =>
            l1Has_any lo (min hi w.heap.size) _ j d (xs.take j) (gi xs j) W (by omega) (by have := EX.out; simp; omega) (((H.out.lt.below (HB.out.trans (hW.mono HB.out.size)) (by omega)).take (by omega)).congr (fun m hm => by simp [gi, hm]))
          clear hc hb
          have hcut := run_cut b off k c j (by have := NC.out; omega)
          by_cases hm : gi xs j ∈ xs.take j
          · have HM := Lib.hid hm
            have hd : decide (gi xs j ∈ xs.take j) = true := by simpa using hm
            rw [hd] at HT
            clear hm hd
            go_wp2_with fail
            go_region_with (refine (HT.out _ (by first | exact Below.refl _ _ | exact Below.drew (Below.refl _ _)) _).mono ?_; rintro e9 w9 ⟨rfl, rfl⟩)
            all_goals
              go_wp2
              go_ret
              exact ⟨ret_i64 (qf6_twice (by rw [EX.out]; exact hn5) (fun m hm => HS.out m (by rw [← EX.out]; exact hm)) (by rw [EX.out]; exact hlt2) HM.out).symm, by first | exact HB.out | exact HB.out.drew⟩
          · have hd : decide (gi xs j ∈ xs.take j) = false := by simpa using hm
            have HM := Lib.hid hm
            rw [hd] at HT
            clear hd hm
            go_wp2_with fail
            go_region_with (refine (HT.out _ (by first | exact Below.refl _ _ | exact Below.drew (Below.refl _ _)) _).mono ?_; rintro e9 w9 ⟨rfl, rfl⟩)
            all_goals
              go_wp2
              go_roundw
              case rel => exact ⟨j + 1, by omega, by go_num, by first | exact HB.out | exact HB.out.drew, upto_succ HS2.out HM.out⟩
              case measure => simp [intOf]; omega
        · go_wp2
          go_ret
          exact ⟨ret_i64 (qf6_ok (by rw [EX.out]; exact hn5) (fun m hm => HS.out m (by rw [← EX.out]; exact hm)) (fun m hm => HS2.out m (by rw [EX.out] at hm; omega))).symm, HB.out⟩

end Go.Proofs.YtachpoehejdpjaaDoor
