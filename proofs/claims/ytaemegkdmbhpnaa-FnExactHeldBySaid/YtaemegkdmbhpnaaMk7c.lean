/-
  The marks of a row of threads of one's own. No conditions beyond that.
-/
import Derived.Test.YtaemegkdmbhpnaaMk7b
namespace Go.Proofs.Ytaemegkdmbhpnaa
open Go.RowKit
set_option maxRecDepth 100000

theorem row_int_set {w : World} {g N i : Nat} {t : TypeId} {x : Nat → Int} (h : Row w g 0 t N (fun j => .int .i64 (x j))) (hi : i < N) (u : Int) :
    ∃ y : Nat → Int, Row (w.setCell ⟨g, i, none⟩ (.int .i64 u)) g 0 t N (fun j => .int .i64 (y j)) := by
  have r := Row.set h hi (.int .i64 u)
  rw [Nat.zero_add] at r
  refine ⟨fun j => if j = i then u else x j, r.congr fun j _ => ?_⟩
  by_cases e : j = i
  · simp [e]
  · simp [e]

set_option maxHeartbeats 2000000 in
theorem markThreadS_any (g n c : Nat) (x : Nat → Int) (M0 : Nat) (w : World) (hn : n ≤ 1048576) (hM : M0 ≤ 10000000000000) (h : Row w g 0 200 (n * 5) (fun k => .int .i64 (x k))) :
    Calls Try.prog 100 #[.slice (some ⟨g, 0, none⟩) n c, .int .i64 M0] w fun e w' => ∃ M : Nat, e = .returned (.int .i64 M) ∧ M ≤ M0 + n * 5 ∧ Only g (g + 1) w w' := by
  have H := Lib.hid h
  clear h
  go_enter Try.func100, Try.ntmps100
  go_wp2
  go_loopw [1, 5] (fun q i wr => ∃ k M : Nat, k ≤ n ∧ i = .int .i64 k ∧ q = .int .i64 M ∧ M ≤ M0 + k * 5 ∧ (∃ y : Nat → Int, Row wr g 0 200 (n * 5) (fun k => .int .i64 (y k))) ∧ Only g (g + 1) w wr) (fun _ i _ => n - (intOf i).toNat)
  case atStart => exact ⟨0, M0, Nat.zero_le _, rfl, rfl, by omega, ⟨x, H.out⟩, Only.refl _ _ _⟩
  case round =>
    obtain ⟨k, M, hk, rfl, rfl, hmk, ⟨y, hrow⟩, hb⟩ := hrel
    by_cases hlt : k < n
    · have rz := hrow
      have o0 : wr.cell? ⟨g, k * 5, none⟩ = some (.int .i64 (y (k * 5))) := by have := hrow.cell (show k * 5 < n * 5 by omega); rw [Nat.zero_add] at this; exact this
      have f0 := hrow.frozen (k * 5)
      have o1 : wr.cell? ⟨g, k * 5 + 1, none⟩ = some (.int .i64 (y (k * 5 + 1))) := by have := hrow.cell (show k * 5 + 1 < n * 5 by omega); rw [Nat.zero_add] at this; exact this
      have f1 := hrow.frozen (k * 5 + 1)
      have o2 : wr.cell? ⟨g, k * 5 + 2, none⟩ = some (.int .i64 (y (k * 5 + 2))) := by have := hrow.cell (show k * 5 + 2 < n * 5 by omega); rw [Nat.zero_add] at this; exact this
      have f2 := hrow.frozen (k * 5 + 2)
      have o3 : wr.cell? ⟨g, k * 5 + 3, none⟩ = some (.int .i64 (y (k * 5 + 3))) := by have := hrow.cell (show k * 5 + 3 < n * 5 by omega); rw [Nat.zero_add] at this; exact this
      have f3 := hrow.frozen (k * 5 + 3)
      have o4 : wr.cell? ⟨g, k * 5 + 4, none⟩ = some (.int .i64 (y (k * 5 + 4))) := by have := hrow.cell (show k * 5 + 4 < n * 5 by omega); rw [Nat.zero_add] at this; exact this
      have f4 := hrow.frozen (k * 5 + 4)
      obtain ⟨y0, r0⟩ := row_int_set rz (show k * 5 < n * 5 by omega) ((M : Int))
      obtain ⟨y1, r1⟩ := row_int_set r0 (show k * 5 + 1 < n * 5 by omega) ((M : Int) + 1)
      obtain ⟨y2, r2⟩ := row_int_set r1 (show k * 5 + 2 < n * 5 by omega) ((M : Int) + 1 + 1)
      obtain ⟨y3, r3⟩ := row_int_set r2 (show k * 5 + 3 < n * 5 by omega) ((M : Int) + 1 + 1 + 1)
      obtain ⟨y4, r4⟩ := row_int_set r3 (show k * 5 + 4 < n * 5 by omega) ((M : Int) + 1 + 1 + 1 + 1)
      have HR := Lib.hid r4
      have HB := Lib.hid (((((hb.setCell (p := ⟨g, k * 5, none⟩) (Nat.le_refl _) (Nat.lt_succ_self _) (.int .i64 ((M : Int)))).setCell (p := ⟨g, k * 5 + 1, none⟩) (Nat.le_refl _) (Nat.lt_succ_self _) (.int .i64 ((M : Int) + 1))).setCell (p := ⟨g, k * 5 + 2, none⟩) (Nat.le_refl _) (Nat.lt_succ_self _) (.int .i64 ((M : Int) + 1 + 1))).setCell (p := ⟨g, k * 5 + 3, none⟩) (Nat.le_refl _) (Nat.lt_succ_self _) (.int .i64 ((M : Int) + 1 + 1 + 1))).setCell (p := ⟨g, k * 5 + 4, none⟩) (Nat.le_refl _) (Nat.lt_succ_self _) (.int .i64 ((M : Int) + 1 + 1 + 1 + 1)))
      clear hb hrow H rz r0 r1 r2 r3 r4
      go_wp2
      go_roundw
      case rel => exact ⟨k + 1, M + 5, by omega, by go_num, by go_num, by omega, ⟨y4, HR.out⟩, HB.out⟩
      case measure => simp [intOf]; omega
    · obtain rfl : n = k := by omega
      have HB := Lib.hid hb
      clear hb hrow
      go_wp2
      go_ret
      exact ⟨M, rfl, hmk, HB.out⟩

end Go.Proofs.Ytaemegkdmbhpnaa
