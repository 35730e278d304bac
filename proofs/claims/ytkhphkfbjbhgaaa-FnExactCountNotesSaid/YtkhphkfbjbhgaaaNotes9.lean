/-
  The law's helpers on lists of notes that came in: size, copy; how such a list is opened. No conditions beyond that the lists can be read.
-/
import Derived.Test.YtkhphkfbjbhgaaaBase3
import Derived.Test.YtkhphkfbjbhgaaaKit3c
namespace Go.Proofs.Ytkhphkfbjbhgaaa
open Go.RowKit
set_option maxRecDepth 100000

theorem toNote_any (a b c : Int) (w : World) :
    Calls Try.prog 15 #[.agg #[.int .i64 a, .int .i64 b, .int .i64 c]] w fun e w' => e = .returned (.agg #[.int .i64 a, .int .i64 b, .int .i64 c]) ∧ Below w.heap.size w w' := by
  have B3 : Hid (∀ o o' o'', Below w.heap.size w (((w.alloc o).alloc o').alloc o'')) := fun o o' o'' => (((Below.refl _ _).alloc (Nat.le_refl _) o).alloc (by simp) o').alloc (by simp; omega) o''
  go_enter Try.func15, Try.ntmps15
  go_wp2
  go_returns
  exact ⟨rfl, B3.out _ _ _⟩
theorem Try.info_Note9 : (Try.prog.info? 41).map (fun i => (i.zero, i.size, i.bytes)) = some (some (.agg #[.int .i64 0, .int .i64 0, .int .i64 0]), 3, 24) := by kernel_rfl
theorem szNoteS_any (A : Option Addr) (n c : Nat) (w : World) (hn : n ≤ 9223372036854775807) :
    Calls Try.prog 5 #[.slice A n c, .int .i64 1048576] w fun e w' => e = .returned (.int .i64 (if n ≤ 1048576 then 1048576 - (n : Int) else -1)) ∧ w = w' := by
  have wn : IntKind.i64.wrap (1048576 - (n : Int)) = 1048576 - (n : Int) := IntWalk.i64_in _ (by omega)
  by_cases h : n ≤ 1048576
  · have h1 : ¬ (1048576 - (n : Int) < 0) := by omega
    go_enter Try.func5, Try.ntmps5
    go_wp2
    go_ret
    exact ⟨ret_i64 (by first | rfl | exact (if_pos h).symm | simp [h]), rfl⟩
  · have h1 : 1048576 - (n : Int) < 0 := by omega
    go_enter Try.func5, Try.ntmps5
    go_wp2
    go_ret
    exact ⟨ret_i64 (by first | rfl | exact (if_neg h).symm | simp [h]), rfl⟩

set_option maxHeartbeats 4000000 in
theorem toNoteS_any (lo hi : Nat) (A : Option Addr) (n c : Nat) (x : Nat → Int) (w : World) (hn : n * 24 ≤ 140737488351232) (h : Sl w lo hi A (n * 3) (fun k => .int .i64 (x k))) (hhi : hi ≤ w.heap.size) :
    Calls Try.prog 7 #[.slice A n c] w fun e w' =>
      e = .returned (.slice (some ⟨w.heap.size, 0, none⟩) n n) ∧ Row w' w.heap.size 0 41 (n * 3) (fun k => .int .i64 (x k)) ∧ Below w.heap.size w w' := by
  have hmk := run_make_rows (P := Try.prog) 25 41 _ 3 24 Try.underlying25 Try.info_Note9 .i64 .i64 n (by omega) (by omega)
  have H := Lib.hid h
  clear h
  go_enter Try.func7, Try.ntmps7
  go_wp2
  go_loopw [4] (fun i wr => ∃ k : Nat, k ≤ n ∧ i = .int .i64 k ∧ Row wr w.heap.size 0 41 (n * 3) (fun j => if j < k * 3 then .int .i64 (x j) else .int .i64 0) ∧ Below w.heap.size w wr) (fun i _ => n - (intOf i).toNat)
  case atStart => exact ⟨0, Nat.zero_le _, rfl, (Row.mades w _ (.int .i64 0) (n * 3) _ (by decide) (by intro r hr; match r, hr with | 0, _ => rfl | 1, _ => rfl | 2, _ => rfl)).congr (fun k hk => by simp), (Below.refl _ _).alloc (Nat.le_refl _) _⟩
  case round =>
    obtain ⟨k, hk, rfl, hrow, hb⟩ := hrel
    by_cases hlt : k < n
    · obtain ⟨b, off, rfl, h1, h2, hc⟩ := H.out.at_ (show k * 3 < n * 3 by omega)
      have c0 : wr.cell? ⟨b, off + k * 3, none⟩ = some (.int .i64 (x (k * 3))) := (hb.cell (p := ⟨b, off + (k * 3), none⟩) (by simp; omega)).trans (hc (k * 3) (by omega))
      have c1 : wr.cell? ⟨b, off + k * 3 + 1, none⟩ = some (.int .i64 (x (k * 3 + 1))) := (hb.cell (p := ⟨b, off + (k * 3 + 1), none⟩) (by simp; omega)).trans (hc (k * 3 + 1) (by omega))
      have c2 : wr.cell? ⟨b, off + k * 3 + 2, none⟩ = some (.int .i64 (x (k * 3 + 2))) := (hb.cell (p := ⟨b, off + (k * 3 + 2), none⟩) (by simp; omega)).trans (hc (k * 3 + 2) (by omega))
      have HR := Lib.hid hrow
      have HB := Lib.hid hb
      clear hc hrow hb H
      go_wp2_with fail
      refine (toNote_any _ _ _ _).mono ?_
      rintro e w1 ⟨rfl, hb1⟩
      have hrow := HR.out.below hb1 HR.out.lt
      have o0 := hrow.cell (show k * 3 + 0 < n * 3 by omega)
      have f0 := hrow.frozen (0 + (k * 3 + 0))
      have o1 := hrow.cell (show k * 3 + 1 < n * 3 by omega)
      have f1 := hrow.frozen (0 + (k * 3 + 1))
      have o2 := hrow.cell (show k * 3 + 2 < n * 3 by omega)
      have f2 := hrow.frozen (0 + (k * 3 + 2))
      simp only [Nat.zero_add, Nat.add_zero] at o0 f0 o1 f1 o2 f2
      have HB2 := Lib.hid (HB.out.trans (hb1.mono HB.out.size))
      have HR2 := Lib.hid hrow
      clear hrow hb1 HR HB
      go_wp2
      go_roundw
      case rel => exact ⟨k + 1, by omega, by go_num, (HR2.out.set3 (by omega) (.int .i64 (x (k * 3))) (.int .i64 (x (k * 3 + 1))) (.int .i64 (x (k * 3 + 2)))).congr (next3 k x), below_set3 HB2.out (Nat.le_refl _) _ _ _⟩
      case measure => simp [intOf]; omega
    · go_wp2
      go_ret
      exact ⟨rfl, hrow.congr (fun j hj => by rw [if_pos (by omega)]), hb⟩

end Go.Proofs.Ytkhphkfbjbhgaaa
