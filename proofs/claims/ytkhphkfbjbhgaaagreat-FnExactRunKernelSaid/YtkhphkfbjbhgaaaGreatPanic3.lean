/-
  How the program refuses: a panic that carries a code. No conditions.
-/
import Derived.WalkLawsBesides
import Derived.Test.YtkhphkfbjbhgaaaGreatMach3
namespace Go.Proofs.YtkhphkfbjbhgaaaGreat
open Go.RowKit
set_option maxRecDepth 100000

set_option maxHeartbeats 1000000 in
theorem refuseIf_no (c : Int) (w : World) : Calls Tryz.prog 126 #[.bool false, .int .i64 c] w fun e w' => e = .returned (.tuple #[]) ∧ w = w' := by
  go_enter Tryz.func126, Tryz.ntmps126
  go_wp2
  go_end0
  exact ⟨rfl, rfl⟩
set_option maxHeartbeats 1000000 in
theorem refuseIf_yes (c : Int) (w : World) : Calls Tryz.prog 126 #[.bool true, .int .i64 c] w fun e w' => e = .panicked [{ v := .iface 201 (.int .i64 c), recovered := false }] ∧ w = w' := by
  go_enter Tryz.func126, Tryz.ntmps126
  go_wp2
  exact ⟨rfl, rfl, rfl⟩
set_option maxHeartbeats 1000000 in
theorem must_no (w : World) : Calls Tryz.prog 103 #[.int .i64 0] w fun e w' => e = .returned (.tuple #[]) ∧ w = w' := by
  go_enter Tryz.func103, Tryz.ntmps103
  go_wp2_with fail
  refine (refuseIf_no 0 w).mono ?_
  rintro e w' ⟨rfl, rfl⟩
  go_wp2
  go_end0
  exact ⟨rfl, rfl⟩
set_option maxHeartbeats 1000000 in
theorem must_yes (c : Int) (hc : (c != 0) = true) (w : World) : Calls Tryz.prog 103 #[.int .i64 c] w fun e w' => e = .panicked [{ v := .iface 201 (.int .i64 c), recovered := false }] ∧ w = w' := by
  go_enter Tryz.func103, Tryz.ntmps103
  go_wp2_with fail
  refine (refuseIf_yes c w).mono ?_
  rintro e w' ⟨rfl, rfl⟩
  go_wp2
  exact ⟨rfl, rfl, rfl⟩
set_option maxHeartbeats 1000000 in
theorem mustLive_yes {g : Nat} {p : Kp} {K : Ker} {q : Value} {w : World} (h : MB w g p K q) {e : Nat} (he : e < 4) (ha : gb K.al e = true) :
    Calls Tryz.prog 182 #[.pointer (some ⟨g, 0, none⟩), .int .i64 (e : Int)] w fun r w' => r = .returned (.tuple #[]) ∧ w = w' := by
  obtain ⟨off, hA, hr⟩ := h.alive
  have q1 := h.cells.2.1
  rw [hA] at q1
  have a0 := hr.cell (k := e) he
  rw [ha] at a0
  have h0 : (0 : Int) ≤ (e : Int) := by omega
  have h1 : (e : Int) < 4 := by omega
  clear h hr hA ha
  go_enter Tryz.func182, Tryz.ntmps182
  go_wp2_with fail
  refine (refuseIf_no 4 w).mono ?_
  rintro e w' ⟨rfl, rfl⟩
  go_wp2
  go_end0
  exact ⟨rfl, rfl⟩
set_option maxHeartbeats 1000000 in
theorem mustLive_no {g : Nat} {p : Kp} {K : Ker} {q : Value} {w : World} (h : MB w g p K q) {e : Nat} (he : e < 4) (ha : gb K.al e = false) :
    Calls Tryz.prog 182 #[.pointer (some ⟨g, 0, none⟩), .int .i64 (e : Int)] w fun r w' => r = .panicked [{ v := .iface 201 (.int .i64 4), recovered := false }] ∧ w = w' := by
  obtain ⟨off, hA, hr⟩ := h.alive
  have q1 := h.cells.2.1
  rw [hA] at q1
  have a0 := hr.cell (k := e) he
  rw [ha] at a0
  have h0 : (0 : Int) ≤ (e : Int) := by omega
  have h1 : (e : Int) < 4 := by omega
  clear h hr hA ha
  go_enter Tryz.func182, Tryz.ntmps182
  go_wp2_with fail
  refine (refuseIf_yes 4 w).mono ?_
  rintro e w' ⟨rfl, rfl⟩
  go_wp2
  exact ⟨rfl, rfl, rfl⟩
set_option maxHeartbeats 1000000 in
theorem own_yes {g : Nat} {p : Kp} {K : Ker} {q : Value} {w : World} (h : MB w g p K q) (A : Option Addr) (n c : Nat) :
    Calls Tryz.prog 183 #[.pointer (some ⟨g, 0, none⟩), .agg #[.int .i64 0, .slice A n c]] w fun r w' => r = .returned (.tuple #[]) ∧ w' = (w.alloc (.cells #[.int .i64 0, .slice A n c] 34)).setCell ⟨g, 0, none⟩ (.slice A n c) := by
  have q0 : (w.alloc (.cells #[.int .i64 0, .slice A n c] 34)).cell? ⟨g, 0, none⟩ = _ := ((below_new w _).cell (p := ⟨g, 0, none⟩) h.lt).trans h.cells.1
  have f0 : (w.alloc (.cells #[.int .i64 0, .slice A n c] 34)).frozen? ⟨g, 0, none⟩ = false := ((below_new w _).frozen (p := ⟨g, 0, none⟩) h.lt).trans (h.froz 0)
  clear h
  go_enter Tryz.func183, Tryz.ntmps183
  go_wp2_with fail
  refine (must_no _).mono ?_
  rintro e w' ⟨rfl, rfl⟩
  go_wp2
  go_end0
  exact ⟨rfl, rfl⟩
set_option maxHeartbeats 1000000 in
theorem own_no (a : Value) {w : World} (d : Int) (hd : (d != 0) = true) (A : Option Addr) (n c : Nat) :
    Calls Tryz.prog 183 #[a, .agg #[.int .i64 d, .slice A n c]] w fun r w' => r = .panicked [{ v := .iface 201 (.int .i64 d), recovered := false }] ∧ w' = w.alloc (.cells #[.int .i64 d, .slice A n c] 34) := by
  go_enter Tryz.func183, Tryz.ntmps183
  go_wp2_with fail
  refine (must_yes d hd _).mono ?_
  rintro e w' ⟨rfl, rfl⟩
  go_wp2
  exact ⟨rfl, rfl, rfl⟩

end Go.Proofs.YtkhphkfbjbhgaaaGreat
