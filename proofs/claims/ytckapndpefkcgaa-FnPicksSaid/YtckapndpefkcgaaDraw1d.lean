/-
  The draws of chapter 1, the others (DrawMoveSlot, DrawDropSlots, DrawSameInts): each returns lists in memory of its own and numbers, and turns nothing that was there. For codes of at most 2^20 bytes.
-/
import Derived.Test.YtckapndpefkcgaaDraw1c
set_option maxHeartbeats 1000000
namespace Go.Proofs.Ytckapndpefkcgaa
open Go.RowKit

theorem Own1.after {w w' w2 : World} {B : Option Addr} {n c' : Nat} {xs : List Int} (h : Own1 w w' B n c' xs) (hb : Below w'.heap.size w' w2) : Own1 w w2 B n c' xs := by
  obtain ⟨h1, h2, h3, h4, h5, h6⟩ := h
  exact ⟨h1, h2, h3, (h4.below hb (Nat.le_refl _)).wide (Nat.le_refl _) hb.size, h5, h6.trans (hb.mono h6.size)⟩

theorem lwBig_any (A : Option Addr) (k c : Nat) (w : World) :
    Calls Try.prog 7 #[.slice A k c] w fun e w' => e = .returned (.bool (decide ((1048576 : Int) < (k : Int)))) ∧ w = w' := by
  go_enter Try.func7, Try.ntmps7
  go_wp2
  go_ret
  exact ⟨rfl, rfl⟩

theorem lwNums_any (lo hi lo' hi' : Nat) (A A' : Option Addr) (xs ys : List Int) (n n' c c' : Nat) (w : World) (hn : n * 8 ≤ 140737488351232) (ex : xs.length = n) (ey : ys.length = n')
    (h : Sl w lo hi A n (fun k => .int .i64 (gi xs k))) (h' : Sl w lo' hi' A' n' (fun k => .int .i64 (gi ys k))) :
    Calls Try.prog 48 #[.slice A n c, .slice A' n' c'] w fun e w' => e = .returned (.bool (decide (xs = ys))) ∧ Below w.heap.size w w' := by
  have H := Lib.hid h
  have H' := Lib.hid h'
  have EX := Lib.hid ex
  have EY := Lib.hid ey
  clear h h' ex ey
  by_cases hne : n = n'
  · subst hne
    go_enter Try.func48, Try.ntmps48
    go_wp2
    go_loopw [5] (fun i wr => ∃ k : Nat, k ≤ n ∧ i = .int .i64 k ∧ Below w.heap.size w wr ∧ ∀ j, j < k → gi xs j = gi ys j) (fun i _ => n - (intOf i).toNat)
    case atStart => exact ⟨0, Nat.zero_le _, rfl, Below.refl _ _, fun j hj => absurd hj (Nat.not_lt_zero _)⟩
    case round =>
      obtain ⟨k, hk, rfl, hb, hs⟩ := hrel
      by_cases hlt : k < n
      · obtain ⟨b, off, rfl, h1, h2, hc⟩ := H.out.lt.at_ hlt
        obtain ⟨b', off', rfl, h1', h2', hc'⟩ := H'.out.lt.at_ hlt
        have hck := (hb.cell (p := ⟨b, off + k, none⟩) (by simp; omega)).trans (hc k hlt)
        have hck' := (hb.cell (p := ⟨b', off' + k, none⟩) (by simp; omega)).trans (hc' k hlt)
        have HB := Lib.hid hb
        have HS := Lib.hid hs
        clear hb hc hc' hs H H'
        go_wp2_with fail
        go_quiet (fail)
        by_cases he : gi xs k = gi ys k
        · go_wp2
          go_roundw
          case rel => exact ⟨k + 1, by omega, by go_num, below_drewN HB.out _, upto_succ HS.out he⟩
          case measure => simp [intOf]; omega
        · go_wp2
          go_ret
          exact ⟨ret_false (fun h => he (by rw [h])), below_drewN HB.out _⟩
      · go_wp2
        go_ret
        exact ⟨ret_true (same_lists EX.out EY.out fun j hj => hs j (by omega)), hb⟩
  · go_enter Try.func48, Try.ntmps48
    go_wp2
    go_ret
    exact ⟨ret_false (fun h => hne (by rw [← EX.out, ← EY.out, h])), Below.refl _ _⟩

end Go.Proofs.Ytckapndpefkcgaa
