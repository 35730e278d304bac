/-
  The program's questions on queues and locks. No conditions beyond that the lists can be read and that the sentinels lie where they were laid.
-/
import Derived.Test.YtachpoehejdpjaaDoorErr6
import Derived.Test.YtachpoehejdpjaaDoorCut6
import Derived.Deep.RegionHeld3
import Derived.Deep.RegionWith
namespace Go.Proofs.YtachpoehejdpjaaDoor
open Go.RowKit
set_option maxRecDepth 100000

theorem isThread6_any (i : Int) (w : World) : Calls Tryd.prog 54 #[.int .i64 i] w fun e w' => e = .returned (.bool (id6 i)) ∧ w = w' := by
  by_cases h : 0 ≤ i
  · by_cases h2 : i < 5
    · go_enter Tryd.func54, Tryd.ntmps54
      go_wp2
      go_ret
      exact ⟨ret_bool (by simp [id6, h]; omega), rfl⟩
    · go_enter Tryd.func54, Tryd.ntmps54
      go_wp2
      go_ret
      exact ⟨ret_bool (by simp [id6, h]; omega), rfl⟩
  · go_enter Tryd.func54, Tryd.ntmps54
    go_wp2
    go_ret
    exact ⟨ret_bool (by simp [id6]; omega), rfl⟩
/-- the place of a number, or -1 -/
theorem index6_any (lo hi : Nat) (A : Option Addr) (n c : Nat) (xs : List Int) (v : Int) (w : World) (hn : n * 8 ≤ 140737488351232) (ex : xs.length = n) (h : Sl w lo hi A n (fun k => .int .i64 (gi xs k))) :
    Calls Tryd.prog 60 #[.slice A n c, .int .i64 v] w fun e w' => ∃ j : Int, e = .returned (.int .i64 j) ∧ (decide (0 ≤ j) = decide (v ∈ xs)) ∧ w = w' := by
  have H := Lib.hid h
  have EX := Lib.hid ex
  clear h ex
  go_enter Tryd.func60, Tryd.ntmps60
  go_wp2
  go_loop [8] (fun i => ∃ k : Nat, k ≤ n ∧ i = .int .i64 k ∧ ∀ j, j < k → gi xs j ≠ v) (fun i => n - (intOf i).toNat)
  case atStart => exact ⟨0, Nat.zero_le _, rfl, fun j hj => absurd hj (Nat.not_lt_zero _)⟩
  case round =>
    obtain ⟨k, hk, rfl, hs⟩ := hrel
    have HS := Lib.hid hs
    clear hs
    by_cases hlt : k < n
    · obtain ⟨b, off, rfl, h1, h2, hc⟩ := H.out.at_ hlt
      have hck := hc k hlt
      clear hc H
      by_cases he : v = gi xs k
      · have HE := Lib.hid he
        rw [← he] at hck
        clear he
        go_wp2
        go_ret
        refine ⟨(k : Int), rfl, ?_, rfl⟩
        have hm : v ∈ xs := by rw [HE.out, gi_lt xs k (by rw [EX.out]; exact hlt)]; exact List.getElem_mem _
        simp [hm]
      · go_wp2
        go_round
        case rel => exact ⟨k + 1, by omega, by go_num, upto_succ HS.out (fun e => he e.symm)⟩
        case measure => simp [intOf]; omega
    · go_wp2
      go_ret
      refine ⟨-1, rfl, ?_, rfl⟩
      have hm : v ∉ xs := fun hm => by
        obtain ⟨j, hj, e⟩ := List.mem_iff_getElem.1 hm
        exact HS.out j (by rw [EX.out] at hj; omega) (by rw [gi_lt xs j hj]; exact e)
      simp [hm]
theorem contains6_any (lo hi : Nat) (A : Option Addr) (n c : Nat) (xs : List Int) (v : Int) (w : World) (hn : n * 8 ≤ 140737488351232) (ex : xs.length = n) (h : Sl w lo hi A n (fun k => .int .i64 (gi xs k))) :
    Calls Tryd.prog 55 #[.slice A n c, .int .i64 v] w fun e w' => e = .returned (.bool (decide (v ∈ xs))) ∧ w = w' := by
  have IX := Lib.hid (index6_any lo hi A n c xs v w hn ex h)
  clear hn ex h
  go_enter Tryd.func55, Tryd.ntmps55
  go_wp2_with fail
  refine IX.out.mono ?_
  rintro e9 w9 ⟨j, rfl, hj, rfl⟩
  have HJ := Lib.hid hj
  clear hj
  go_wp2
  go_ret
  exact ⟨ret_bool HJ.out, rfl⟩

set_option maxHeartbeats 2000000 in
theorem queueError_any (E : E6) (lo hi : Nat) (A : Option Addr) (n c : Nat) (xs : List Int) (w : World) (hE : Errs E w) (hn : n * 8 ≤ 140737488351232) (hnc : n ≤ c) (ex : xs.length = n) (h : Sl w lo hi A n (fun k => .int .i64 (gi xs k))) :
    Calls Tryd.prog 50 #[.slice A n c] w fun e w' => e = .returned (er6 E (qf6 xs)) ∧ Below w.heap.size w w' := by
  have H := Lib.hid h
  have EX := Lib.hid ex
  have NC := Lib.hid hnc
  have GE : Hid (∀ W, Below w.heap.size w W → W.cell? ⟨4, 0, none⟩ = some (.iface 92 (.pointer (some E.many))) ∧ W.cell? ⟨0, 0, none⟩ = some (.iface 92 (.pointer (some E.range))) ∧ W.cell? ⟨2, 0, none⟩ = some (.iface 92 (.pointer (some E.taken)))) := fun W hW =>
    ⟨(hE.below hW).many.1, (hE.below hW).range.1, (hE.below hW).taken.1⟩
  have FIN : Hid (∀ q W, Below w.heap.size w W → qf6 xs = q → Ending.returned (er6 E q) = .returned (er6 E (qf6 xs)) ∧ Below w.heap.size w W) := fun q W hW hq => ⟨by rw [hq], hW⟩
  clear h ex hnc hE
  obtain ⟨g0, g1, g2⟩ := GE.out w (Below.refl _ _)
  by_cases hn5 : 5 < n
  · go_enter Tryd.func50, Tryd.ntmps50
    go_wp2
    go_ret
    exact FIN.out 2 _ (Below.refl _ _) (qf6_many (by rw [EX.out]; exact hn5))
  go_enter Tryd.func50, Tryd.ntmps50
  go_wp2
  go_loop [13] (fun i => ∃ k : Nat, k ≤ n ∧ i = .int .i64 k ∧ ∀ j, j < k → id6 (gi xs j) = true) (fun i => n - (intOf i).toNat)
  case atStart => exact ⟨0, Nat.zero_le _, rfl, fun j hj => absurd hj (Nat.not_lt_zero _)⟩
  case round =>
    obtain ⟨k, hk, rfl, hs⟩ := hrel
    have HS := Lib.hid hs
    clear hs
    by_cases hlt : k < n
    · obtain ⟨b, off, rfl, h1, h2, hc⟩ := H.out.at_ hlt
      have hck := hc k hlt
      clear hc H
      rcases hb : id6 (gi xs k) with _ | _
      · go_wp2_with (go_at_call 54; refine (isThread6_any _ _).mono ?_; rintro e9 w9 ⟨rfl, rfl⟩)
        go_ret
        exact FIN.out 3 _ (Below.refl _ _) (qf6_range (by rw [EX.out]; exact hn5) (by rw [EX.out]; exact hlt) hb)
      · go_wp2_with (go_at_call 54; refine (isThread6_any _ _).mono ?_; rintro e9 w9 ⟨rfl, rfl⟩)
        go_round
        case rel => exact ⟨k + 1, by omega, by go_num, upto_succ HS.out hb⟩
        case measure => simp [intOf]; omega
    · have e0 : k = n := by omega
      subst e0
      clear g0 g1 g2
      go_wp2
      go_loopw [24] (fun i wr => ∃ j : Nat, j ≤ k ∧ i = .int .i64 j ∧ Below w.heap.size w wr ∧ ∀ m, m < j → gi xs m ∉ xs.take m) (fun i _ => k - (intOf i).toNat)
      case atStart => exact ⟨0, Nat.zero_le _, rfl, Below.refl _ _, fun j hj => absurd hj (Nat.not_lt_zero _)⟩
      case round =>
        obtain ⟨j, hj, rfl, hb, hs2⟩ := hrel
        have HS2 := Lib.hid hs2
        have HB := Lib.hid hb
        clear hs2
        obtain ⟨g0, g1, g2⟩ := GE.out wr HB.out
        by_cases hlt2 : j < k
        · obtain ⟨b, off, rfl, h1, h2, hc⟩ := H.out.lt.at_ hlt2
          have hck := (hb.cell (p := ⟨b, off + j, none⟩) (by simp; omega)).trans (hc j hlt2)
          have HT : Hid (∀ W, Below wr.heap.size wr W → ∀ d : Nat, Calls Tryd.prog 55 #[.slice (some ⟨b, off, none⟩) j d, .int .i64 (gi xs j)] W fun e w' => e = .returned (.bool (decide (gi xs j ∈ xs.take j))) ∧ W = w') := fun W hW d =>
            contains6_any lo (min hi w.heap.size) _ j d (xs.take j) (gi xs j) W (by omega) (by have := EX.out; simp; omega) (((H.out.lt.below (HB.out.trans (hW.mono HB.out.size)) (by omega)).take (by omega)).congr (fun m hm => by simp [gi, hm]))
          clear hc hb
          have hcut := run_cut b off k c j (by have := NC.out; omega)
          by_cases hm : gi xs j ∈ xs.take j
          · have HM := Lib.hid hm
            have hd : decide (gi xs j ∈ xs.take j) = true := by simpa using hm
            rw [hd] at HT
            clear hm hd
            go_wp2_with fail
            (try go_region_with (refine (HT.out _ (by first | exact Below.refl _ _ | exact Below.drew (Below.refl _ _)) _).mono ?_; rintro e9 w9 ⟨rfl, rfl⟩))
            all_goals
              (try (refine (HT.out _ (Below.refl _ _) _).mono ?_; rintro e9 w9 ⟨rfl, rfl⟩))
              go_wp2
              go_ret
              exact FIN.out 6 _ (by first | exact HB.out | exact HB.out.drew) (qf6_twice (by rw [EX.out]; exact hn5) (fun m hm => HS.out m (by rw [← EX.out]; exact hm)) (by rw [EX.out]; exact hlt2) HM.out)
          · have hd : decide (gi xs j ∈ xs.take j) = false := by simpa using hm
            have HM := Lib.hid hm
            rw [hd] at HT
            clear hd hm
            go_wp2_with fail
            (try go_region_with (refine (HT.out _ (by first | exact Below.refl _ _ | exact Below.drew (Below.refl _ _)) _).mono ?_; rintro e9 w9 ⟨rfl, rfl⟩))
            all_goals
              (try (refine (HT.out _ (Below.refl _ _) _).mono ?_; rintro e9 w9 ⟨rfl, rfl⟩))
              go_wp2
              go_roundw
              case rel => exact ⟨j + 1, by omega, by go_num, by first | exact HB.out | exact HB.out.drew, upto_succ HS2.out HM.out⟩
              case measure => simp [intOf]; omega
        · go_wp2
          go_ret
          exact FIN.out 0 _ HB.out (qf6_ok (by rw [EX.out]; exact hn5) (fun m hm => HS.out m (by rw [← EX.out]; exact hm)) (fun m hm => HS2.out m (by rw [EX.out] at hm; omega)))

end Go.Proofs.YtachpoehejdpjaaDoor
