/-
  The laws' small functions on an answer of a code and a list of events. No conditions.
-/
import Derived.Test.YtkhphkfbjbhgaaaGreatMuteI9
import Derived.Test.YtkhphkfbjbhgaaaGreatKit3e
namespace Go.Proofs.YtkhphkfbjbhgaaaGreat
open Go.RowKit
set_option maxRecDepth 100000

set_option maxHeartbeats 8000000 in
theorem heldEventS_any (lo hi : Nat) (A : Option Addr) (n c : Nat) (m : Nat) (w : World) (hn : n * 56 ≤ 140737488351232) (hm : m ≤ 1000000000000)
    (h : Sl w lo hi A (n * 7) (fun k => .int .i64 ((m + k : Nat) : Int))) :
    Calls Tryz.prog 78 #[.slice A n c, .int .i64 m] w fun e w' => e = .returned (.int .i64 ((m + n * 7 : Nat) : Int)) ∧ Below w.heap.size w w' := by
  have H := Lib.hid h
  clear h
  go_enter Tryz.func78, Tryz.ntmps78
  go_wp2
  go_loopw [1, 5] (fun q i wr => ∃ k : Nat, k ≤ n ∧ i = .int .i64 k ∧ q = .int .i64 ((m + k * 7 : Nat) : Int) ∧ Below w.heap.size w wr) (fun _ i _ => n - (intOf i).toNat)
  case atStart => exact ⟨0, Nat.zero_le _, rfl, by go_num, Below.refl _ _⟩
  case round =>
    obtain ⟨k, hk, rfl, rfl, hb⟩ := hrel
    by_cases hlt : k < n
    · obtain ⟨b, off, rfl, h1, h2, hc⟩ := H.out.lt.at_ (show k * 7 < n * 7 by omega)
      have c0 : wr.cell? ⟨b, off + k * 7, none⟩ = some (.int .i64 ((m : Int) + k * 7)) := by
        rw [show ((m : Int) + k * 7 : Int) = ((m + (k * 7) : Nat) : Int) by omega]
        exact (hb.cell (p := ⟨b, off + (k * 7), none⟩) (by simp; omega)).trans (hc (k * 7) (by omega))
      have c1 : wr.cell? ⟨b, off + k * 7 + 1, none⟩ = some (.int .i64 ((m : Int) + k * 7 + 1)) := by
        rw [show ((m : Int) + k * 7 + 1 : Int) = ((m + (k * 7 + 1) : Nat) : Int) by omega]
        exact (hb.cell (p := ⟨b, off + (k * 7 + 1), none⟩) (by simp; omega)).trans (hc (k * 7 + 1) (by omega))
      have c2 : wr.cell? ⟨b, off + k * 7 + 2, none⟩ = some (.int .i64 ((m : Int) + k * 7 + 1 + 1)) := by
        rw [show ((m : Int) + k * 7 + 1 + 1 : Int) = ((m + (k * 7 + 2) : Nat) : Int) by omega]
        exact (hb.cell (p := ⟨b, off + (k * 7 + 2), none⟩) (by simp; omega)).trans (hc (k * 7 + 2) (by omega))
      have c3 : wr.cell? ⟨b, off + k * 7 + 3, none⟩ = some (.int .i64 ((m : Int) + k * 7 + 1 + 1 + 1)) := by
        rw [show ((m : Int) + k * 7 + 1 + 1 + 1 : Int) = ((m + (k * 7 + 3) : Nat) : Int) by omega]
        exact (hb.cell (p := ⟨b, off + (k * 7 + 3), none⟩) (by simp; omega)).trans (hc (k * 7 + 3) (by omega))
      have c4 : wr.cell? ⟨b, off + k * 7 + 4, none⟩ = some (.int .i64 ((m : Int) + k * 7 + 1 + 1 + 1 + 1)) := by
        rw [show ((m : Int) + k * 7 + 1 + 1 + 1 + 1 : Int) = ((m + (k * 7 + 4) : Nat) : Int) by omega]
        exact (hb.cell (p := ⟨b, off + (k * 7 + 4), none⟩) (by simp; omega)).trans (hc (k * 7 + 4) (by omega))
      have c5 : wr.cell? ⟨b, off + k * 7 + 5, none⟩ = some (.int .i64 ((m : Int) + k * 7 + 1 + 1 + 1 + 1 + 1)) := by
        rw [show ((m : Int) + k * 7 + 1 + 1 + 1 + 1 + 1 : Int) = ((m + (k * 7 + 5) : Nat) : Int) by omega]
        exact (hb.cell (p := ⟨b, off + (k * 7 + 5), none⟩) (by simp; omega)).trans (hc (k * 7 + 5) (by omega))
      have c6 : wr.cell? ⟨b, off + k * 7 + 6, none⟩ = some (.int .i64 ((m : Int) + k * 7 + 1 + 1 + 1 + 1 + 1 + 1)) := by
        rw [show ((m : Int) + k * 7 + 1 + 1 + 1 + 1 + 1 + 1 : Int) = ((m + (k * 7 + 6) : Nat) : Int) by omega]
        exact (hb.cell (p := ⟨b, off + (k * 7 + 6), none⟩) (by simp; omega)).trans (hc (k * 7 + 6) (by omega))
      have HB := Lib.hid hb
      have e0 : ((m + k * 7 : Nat) : Int) = (m : Int) + k * 7 := by omega
      rw [e0]
      clear e0 hb hc H
      go_wp2
      go_roundw
      case rel => exact ⟨k + 1, by omega, by go_num, by go_num, HB.out⟩
      case measure => simp [intOf]; omega
    · have e0 : k = n := by omega
      subst e0
      go_wp2
      go_ret
      exact ⟨rfl, hb⟩

set_option maxHeartbeats 1000000 in
/-- eqMutedResult of two answers that read alike: true. -/
theorem eqMutedResult_same (lo hi lo' hi' : Nat) (A A' : Option Addr) (n c c' : Nat) (q : Int) (x : Nat → Int) (w : World) (hn : n * 56 ≤ 140737488351232)
    (h : Sl w lo hi A (n * 7) (fun k => .int .i64 (x k))) (h' : Sl w lo' hi' A' (n * 7) (fun k => .int .i64 (x k))) :
    Calls Tryz.prog 25 #[.agg #[.int .i64 q, .slice A n c], .agg #[.int .i64 q, .slice A' n c']] w fun e w' => e = .returned (.bool true) ∧ Below w.heap.size w w' := by
  have H := Lib.hid h
  have H' := Lib.hid h'
  clear h h'
  go_enter Tryz.func25, Tryz.ntmps25
  go_wp2_with fail
  have B2 : ∀ o o', Below w.heap.size w ((w.alloc o).alloc o') := fun o o' => ((Below.refl _ _).alloc (Nat.le_refl _) o).alloc (by simp) o'
  refine (eqEventS_same lo (min hi w.heap.size) lo' (min hi' w.heap.size) A A' n c c' x _ hn (H.out.lt.below (B2 _ _) (by omega)) (H'.out.lt.below (B2 _ _) (by omega))).mono ?_
  rintro e w' ⟨rfl, hb⟩
  have HB := Lib.hid ((B2 _ _).trans (hb.mono (by simp; omega)))
  clear hb B2
  go_wp2
  go_ret
  exact ⟨rfl, HB.out⟩

set_option maxHeartbeats 1000000 in
/-- markMutedResult of an answer whose list is one's own. -/
theorem markMutedResult_any (lo hi : Nat) (A : Option Addr) (n c : Nat) (q : Int) (x : Nat → Value) (m : Nat) (w : World) (hn : n * 56 ≤ 140737488351232) (hm : m ≤ 1000000000000) (hlo : lo ≤ w.heap.size)
    (hx : ∀ k, k < n * 7 → ∃ y, x k = .int .i64 y) (h : Mine w lo hi 78 A (n * 7) x) (hhi : hi ≤ w.heap.size) :
    Calls Tryz.prog 26 #[.agg #[.int .i64 q, .slice A n c], .int .i64 m] w fun e w' =>
      e = .returned (.int .i64 ((m + n * 7 : Nat) : Int)) ∧ Mine w' lo hi 78 A (n * 7) (fun k => .int .i64 ((m + k : Nat) : Int)) ∧ Only lo hi w w' := by
  have H := Lib.hid h
  have X := Lib.hid hx
  clear h hx
  go_enter Tryz.func26, Tryz.ntmps26
  go_wp2_with fail
  have B1 : ∀ o, Below w.heap.size w (w.alloc o) := fun o => (Below.refl _ _).alloc (Nat.le_refl _) o
  refine (markEventS_any lo hi A n c x m _ hn hm X.out (H.out.below (B1 _) hhi)).mono ?_
  rintro e w' ⟨rfl, hmine, hb⟩
  have HB := Lib.hid ((Only.of_below (B1 _) hlo).trans hb)
  have HM := Lib.hid hmine
  clear hb B1 hmine
  go_wp2
  go_ret
  exact ⟨rfl, HM.out, HB.out⟩

set_option maxHeartbeats 1000000 in
/-- heldMutedResult of an answer whose list reads m, m + 1, .. -/
theorem heldMutedResult_any (lo hi : Nat) (A : Option Addr) (n c : Nat) (q : Int) (m : Nat) (w : World) (hn : n * 56 ≤ 140737488351232) (hm : m ≤ 1000000000000)
    (h : Sl w lo hi A (n * 7) (fun k => .int .i64 ((m + k : Nat) : Int))) :
    Calls Tryz.prog 27 #[.agg #[.int .i64 q, .slice A n c], .int .i64 m] w fun e w' => e = .returned (.int .i64 ((m + n * 7 : Nat) : Int)) ∧ Below w.heap.size w w' := by
  have H := Lib.hid h
  clear h
  go_enter Tryz.func27, Tryz.ntmps27
  go_wp2_with fail
  have B1 : ∀ o, Below w.heap.size w (w.alloc o) := fun o => (Below.refl _ _).alloc (Nat.le_refl _) o
  refine (heldEventS_any lo (min hi w.heap.size) A n c m _ hn hm (H.out.lt.below (B1 _) (by omega))).mono ?_
  rintro e w' ⟨rfl, hb⟩
  have HB := Lib.hid ((B1 _).trans (hb.mono (by simp)))
  clear hb B1
  go_wp2
  go_ret
  exact ⟨rfl, HB.out⟩

set_option maxHeartbeats 1000000 in
theorem mut9_len (mm : Int) (x : Nat → Int) (n : Nat) (ev kd : Int) : (mut9 mm x n ev kd).2.length ≤ 2800 := by
  unfold mut9
  by_cases h0 : ask9 mm n ev = 0
  · rw [if_neg (by simp [h0])]
    by_cases h1 : kd ≠ 1 ∧ kd ≠ 2
    · rw [if_pos h1]; exact Nat.zero_le _
    · rw [if_neg h1]
      obtain ⟨_, hm0, hn4⟩ := rk3_good (x := x) (ask9_zero h0).1
      obtain ⟨sk0, hlen, hm1, hm2⟩ := sk_new hm0
      obtain ⟨_, _, hl, _⟩ := mu9_all (x := x) (ev := ev) (kd := kd) sk0 rfl n hn4
      show (mu9 x ev kd (new3 mm) n).2.1.length ≤ 2800
      omega
  · rw [if_pos h0]; exact Nat.zero_le _

end Go.Proofs.YtkhphkfbjbhgaaaGreat
