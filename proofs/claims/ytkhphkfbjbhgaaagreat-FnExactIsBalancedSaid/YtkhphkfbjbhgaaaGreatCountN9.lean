/-
  CountNotes, the model's and the program's: how many notes are of env and of this kind. No conditions beyond that the list can be read.
-/
import Derived.Test.YtkhphkfbjbhgaaaGreatNotes9
namespace Go.Proofs.YtkhphkfbjbhgaaaGreat
open Go.RowKit
set_option maxRecDepth 100000

def nct (x : Nat → Int) (ev kd : Int) : Nat → Nat
  | 0 => 0
  | i + 1 => nct x ev kd i + (if x (i * 3 + 1) = ev ∧ x (i * 3 + 2) = kd then 1 else 0)
set_option maxHeartbeats 1000000 in
theorem nct_le (x : Nat → Int) (ev kd : Int) : ∀ n, nct x ev kd n ≤ n
  | 0 => Nat.le_refl _
  | i + 1 => by
    have := nct_le x ev kd i
    unfold nct
    split <;> omega

set_option maxHeartbeats 1000000 in
theorem specCountNotes_any (lo hi : Nat) (A : Option Addr) (n c : Nat) (x : Nat → Int) (ev kd : Int) (w : World) (hn : n ≤ 1048576) (h : Sl w lo hi A (n * 3) (fun k => .int .i64 (x k))) :
    Calls Tryz.prog 79 #[.slice A n c, .int .i64 ev, .int .i64 kd] w fun e w' => e = .returned (.int .i64 (nct x ev kd n)) ∧ Below w.heap.size w w' := by
  have H := Lib.hid h.lt
  clear h
  go_enter Tryz.func79, Tryz.ntmps79
  go_wp2_with fail
  go_loopw [7, 8] (fun q i wr => ∃ k : Nat, k ≤ n ∧ i = .int .i64 (k : Int) ∧ q = .int .i64 (nct x ev kd k : Int) ∧ Below w.heap.size w wr) (fun _ i _ => n - (intOf i).toNat)
  case atStart => exact ⟨0, Nat.zero_le _, rfl, rfl, Below.refl _ _⟩
  case round =>
    obtain ⟨k, hk, rfl, rfl, hb⟩ := hrel
    have BR := Lib.hid hb
    by_cases hlt : k < n
    · obtain ⟨b, off, rfl, h1, h2, hc⟩ := H.out.at_ (show k * 3 < n * 3 by omega)
      have c0 : wr.cell? ⟨b, off + k * 3, none⟩ = some (.int .i64 (x (k * 3))) := (hb.cell (p := ⟨b, off + (k * 3), none⟩) (by simp; omega)).trans (hc (k * 3) (by omega))
      have c1 : wr.cell? ⟨b, off + k * 3 + 1, none⟩ = some (.int .i64 (x (k * 3 + 1))) := (hb.cell (p := ⟨b, off + (k * 3 + 1), none⟩) (by simp; omega)).trans (hc (k * 3 + 1) (by omega))
      have c2 : wr.cell? ⟨b, off + k * 3 + 2, none⟩ = some (.int .i64 (x (k * 3 + 2))) := (hb.cell (p := ⟨b, off + (k * 3 + 2), none⟩) (by simp; omega)).trans (hc (k * 3 + 2) (by omega))
      have NX := Lib.hid (show nct x ev kd (k + 1) = nct x ev kd k + (if x (k * 3 + 1) = ev ∧ x (k * 3 + 2) = kd then 1 else 0) from rfl)
      have NL := nct_le x ev kd k
      have z0 : (0 : Int) ≤ (k : Int) := by omega
      have z1 : (k : Int) < (n : Int) := by omega
      generalize x (k * 3 + 1) = a1 at *
      generalize x (k * 3 + 2) = a2 at *
      clear hb hc c0
      by_cases e1 : a1 = ev
      · have y1 : (a1 == ev) = true := by simp [e1]
        by_cases e2 : a2 = kd
        · have y2 : (a2 == kd) = true := by simp [e2]
          have E := Lib.hid (And.intro e1 e2)
          clear e1 e2
          go_wp2
          go_roundw
          case rel => exact ⟨k + 1, by omega, by go_num, by rw [NX.out, if_pos E.out]; go_num, BR.out⟩
          case measure => simp [intOf]; omega
        · have y2 : (a2 == kd) = false := by simp [e2]
          have E : Hid (¬ (a1 = ev ∧ a2 = kd)) := fun hh => e2 hh.2
          clear e1 e2
          go_wp2
          go_roundw
          case rel => exact ⟨k + 1, by omega, by go_num, by rw [NX.out, if_neg E.out]; go_num, BR.out⟩
          case measure => simp [intOf]; omega
      · have y1 : (a1 == ev) = false := by simp [e1]
        have E : Hid (¬ (a1 = ev ∧ a2 = kd)) := fun hh => e1 hh.1
        clear e1
        go_wp2
        go_roundw
        case rel => exact ⟨k + 1, by omega, by go_num, by rw [NX.out, if_neg E.out]; go_num, BR.out⟩
        case measure => simp [intOf]; omega
    · obtain rfl : k = n := by omega
      go_wp2
      go_ret
      exact ⟨rfl, BR.out⟩


set_option maxHeartbeats 1000000 in
theorem implCountNotes_any (lo hi : Nat) (A : Option Addr) (n c : Nat) (x : Nat → Int) (ev kd : Int) (w : World) (hn : n ≤ 1048576) (h : Sl w lo hi A (n * 3) (fun k => .int .i64 (x k))) :
    Calls Tryz.prog 81 #[.slice A n c, .int .i64 ev, .int .i64 kd] w fun e w' => e = .returned (.int .i64 (nct x ev kd n)) ∧ Below w.heap.size w w' := by
  have H := Lib.hid h.lt
  clear h
  go_enter Tryz.func81, Tryz.ntmps81
  go_wp2_with fail
  go_loopw [7, 12] (fun q i wr => ∃ k : Nat, k ≤ n ∧ i = .int .i64 (k : Int) ∧ q = .int .i64 (nct x ev kd k : Int) ∧ Below w.heap.size w wr) (fun _ i _ => n - (intOf i).toNat)
  case atStart => exact ⟨0, Nat.zero_le _, rfl, rfl, Below.refl _ _⟩
  case round =>
    obtain ⟨k, hk, rfl, rfl, hb⟩ := hrel
    have BR := Lib.hid hb
    by_cases hlt : k < n
    · obtain ⟨b, off, rfl, h1, h2, hc⟩ := H.out.at_ (show k * 3 < n * 3 by omega)
      have c0 : wr.cell? ⟨b, off + k * 3, none⟩ = some (.int .i64 (x (k * 3))) := (hb.cell (p := ⟨b, off + (k * 3), none⟩) (by simp; omega)).trans (hc (k * 3) (by omega))
      have c1 : wr.cell? ⟨b, off + k * 3 + 1, none⟩ = some (.int .i64 (x (k * 3 + 1))) := (hb.cell (p := ⟨b, off + (k * 3 + 1), none⟩) (by simp; omega)).trans (hc (k * 3 + 1) (by omega))
      have c2 : wr.cell? ⟨b, off + k * 3 + 2, none⟩ = some (.int .i64 (x (k * 3 + 2))) := (hb.cell (p := ⟨b, off + (k * 3 + 2), none⟩) (by simp; omega)).trans (hc (k * 3 + 2) (by omega))
      have NX := Lib.hid (show nct x ev kd (k + 1) = nct x ev kd k + (if x (k * 3 + 1) = ev ∧ x (k * 3 + 2) = kd then 1 else 0) from rfl)
      have NL := nct_le x ev kd k
      have z0 : (0 : Int) ≤ (k : Int) := by omega
      have z1 : (k : Int) < (n : Int) := by omega
      obtain ⟨w9, hw9⟩ : ∃ V, V = wr.alloc (.cells #[.int .i64 (x (k * 3)), .int .i64 (x (k * 3 + 1)), .int .i64 (x (k * 3 + 2))] 65) := ⟨_, rfl⟩
      have K9 : w9.heap[wr.heap.size]? = some (.cells #[.int .i64 (x (k * 3)), .int .i64 (x (k * 3 + 1)), .int .i64 (x (k * 3 + 2))] 65 (0, 0)) := by rw [hw9]; exact heap_alloc_new wr _
      have B9 : Hid (Below w.heap.size w w9) := by rw [hw9]; exact BR.out.trans ((below_new wr _).mono BR.out.size)
      have u1 := cell_of_row w9 _ 1 _ _ _ K9; have u2 := cell_of_row w9 _ 2 _ _ _ K9
      simp at u1 u2
      have HW9 := Lib.hid hw9
      clear hw9 K9 hb hc
      go_upto_region 5 with (fail)
      rw [← HW9.out]
      clear HW9 c0 c1 c2
      generalize x (k * 3 + 1) = a1 at *
      generalize x (k * 3 + 2) = a2 at *
      by_cases e1 : a1 = ev
      · have y1 : (a1 == ev) = true := by simp [e1]
        by_cases e2 : a2 = kd
        · have y2 : (a2 == kd) = true := by simp [e2]
          have E := Lib.hid (And.intro e1 e2)
          clear e1 e2
          go_wp2
          go_roundw
          case rel => exact ⟨k + 1, by omega, by go_num, by rw [NX.out, if_pos E.out]; go_num, B9.out⟩
          case measure => simp [intOf]; omega
        · have y2 : (a2 == kd) = false := by simp [e2]
          have E : Hid (¬ (a1 = ev ∧ a2 = kd)) := fun hh => e2 hh.2
          clear e1 e2
          go_wp2
          go_roundw
          case rel => exact ⟨k + 1, by omega, by go_num, by rw [NX.out, if_neg E.out]; go_num, B9.out⟩
          case measure => simp [intOf]; omega
      · have y1 : (a1 == ev) = false := by simp [e1]
        have E : Hid (¬ (a1 = ev ∧ a2 = kd)) := fun hh => e1 hh.1
        clear e1
        go_wp2
        go_roundw
        case rel => exact ⟨k + 1, by omega, by go_num, by rw [NX.out, if_neg E.out]; go_num, B9.out⟩
        case measure => simp [intOf]; omega
    · obtain rfl : k = n := by omega
      go_wp2
      go_ret
      exact ⟨rfl, BR.out⟩


end Go.Proofs.YtkhphkfbjbhgaaaGreat
