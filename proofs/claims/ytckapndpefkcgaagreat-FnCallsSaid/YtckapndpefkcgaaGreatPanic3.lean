/-
  How the program refuses: a panic that carries a code. No conditions.
  Ahead of it:
  A machine of the program: a kernel in a box of six cells, the notes behind it; three lists, each in a block of its own. Every step that turns it.
-/
import Derived.WalkLawsBesides
import Derived.Test.YtckapndpefkcgaaGreatKans3
set_option maxHeartbeats 1000000
namespace Go.Proofs.YtckapndpefkcgaaGreat
open Go.RowKit

structure MB (w : World) (g : Nat) (p : Kp) (K : Ker) (q : Value) : Prop where
  box : w.heap[g]? = some (.cells #[.slice p.A1 p.n1 p.c1, .slice p.A2 4 p.c2, .slice p.A3 4 p.c3, .int .i64 K.tick, .int .i64 K.run, q] 116 (0, 0))
  own : KOwn w p K
  e1 : g ≠ p.g1
  e2 : g ≠ p.g2
  e3 : g ≠ p.g3
theorem MB.kept {gs : List Nat} {w w' : World} {g : Nat} {p : Kp} {K : Ker} {q : Value} (h : MB w g p K q) (k : Kept gs w w') (h0 : g ∉ gs) (h1 : p.g1 ∉ gs) (h2 : p.g2 ∉ gs) (h3 : p.g3 ∉ gs) : MB w' g p K q :=
  ⟨(k.2 g (Array.getElem?_eq_some_iff.1 h.box).1 h0).trans h.box, h.own.kept k h1 h2 h3, h.e1, h.e2, h.e3⟩
theorem MB.lt {w : World} {g : Nat} {p : Kp} {K : Ker} {q : Value} (h : MB w g p K q) : g < w.heap.size := (Array.getElem?_eq_some_iff.1 h.box).1
theorem MB.cells {w : World} {g : Nat} {p : Kp} {K : Ker} {q : Value} (h : MB w g p K q) : w.cell? ⟨g, 0, none⟩ = some (.slice p.A1 p.n1 p.c1) ∧ w.cell? ⟨g, 1, none⟩ = some (.slice p.A2 4 p.c2) ∧ w.cell? ⟨g, 2, none⟩ = some (.slice p.A3 4 p.c3) ∧ w.cell? ⟨g, 3, none⟩ = some (.int .i64 K.tick) ∧ w.cell? ⟨g, 4, none⟩ = some (.int .i64 K.run) :=
  ⟨cell_of_row w g 0 _ _ _ h.box, cell_of_row w g 1 _ _ _ h.box, cell_of_row w g 2 _ _ _ h.box, cell_of_row w g 3 _ _ _ h.box, cell_of_row w g 4 _ _ _ h.box⟩
theorem MB.alive {w : World} {g : Nat} {p : Kp} {K : Ker} {q : Value} (h : MB w g p K q) : ∃ off, p.A2 = some ⟨p.g2, off, none⟩ ∧ Row w p.g2 off 4 4 (fun k => .bool (gb K.al k)) := by
  rcases h.own.m2 with h | ⟨g', off, hA, h1, h2, hr⟩
  · omega
  · obtain rfl : g' = p.g2 := by omega
    exact ⟨off, hA, hr⟩
theorem MB.accs {w : World} {g : Nat} {p : Kp} {K : Ker} {q : Value} (h : MB w g p K q) : ∃ off, p.A3 = some ⟨p.g3, off, none⟩ ∧ Row w p.g3 off 68 16 (fun k => .int .i64 (gi K.ac k)) := by
  rcases h.own.m3 with h | ⟨g', off, hA, h1, h2, hr⟩
  · omega
  · obtain rfl : g' = p.g3 := by omega
    exact ⟨off, hA, hr⟩
theorem MB.drew {w : World} {g : Nat} {p : Kp} {K : Ker} {q : Value} (h : MB w g p K q) : MB w.drew g p K q := ⟨h.box, ⟨h.own.l1, h.own.l2, h.own.l3, h.own.nil1, h.own.m1, h.own.m2, h.own.m3, h.own.d12, h.own.d13, h.own.d23⟩, h.e1, h.e2, h.e3⟩
theorem MB.lt2 {w : World} {g : Nat} {p : Kp} {K : Ker} {q : Value} (h : MB w g p K q) : p.g2 < w.heap.size ∧ p.g3 < w.heap.size := by
  obtain ⟨_, _, r2⟩ := h.alive
  obtain ⟨_, _, r3⟩ := h.accs
  exact ⟨r2.lt, r3.lt⟩
theorem MB.lt1 {w : World} {g : Nat} {p : Kp} {K : Ker} {q : Value} (h : MB w g p K q) (hn : 1 ≤ p.n1) : p.g1 < w.heap.size := by
  rcases h.own.m1 with h | ⟨g', off, hA, h1, h2, hr⟩
  · omega
  · obtain rfl : g' = p.g1 := by omega
    exact hr.lt
theorem MB.setAlive {w : World} {g : Nat} {p : Kp} {K : Ker} {q : Value} (h : MB w g p K q) {off e : Nat} (hA : p.A2 = some ⟨p.g2, off, none⟩) (he : e < 4) (v : Bool) :
    MB (w.setCell ⟨p.g2, off + e, none⟩ (.bool v)) g p { K with al := K.al.set e v } q := by
  have hr := row_of_mine h.own.m2 (by omega) hA
  refine ⟨(Below.heap_setCell w ⟨p.g2, off + e, none⟩ _ g h.e2).trans h.box, ⟨h.own.l1, by simp [h.own.l2], h.own.l3, h.own.nil1, ?_, ?_, ?_, h.own.d12, h.own.d13, h.own.d23⟩, h.e1, h.e2, h.e3⟩
  · exact h.own.m1.keep fun b h1 h2 => Below.heap_setCell w ⟨p.g2, off + e, none⟩ _ b (by have := h.own.d12; simp; omega)
  · refine .inr ⟨p.g2, off, hA, Nat.le_refl _, Nat.lt_succ_self _, (hr.set he (.bool v)).congr fun k hk => ?_⟩
    show _ = Value.bool (gb (K.al.set e v) k)
    rw [gb_set]
    by_cases e1 : k = e
    · rw [if_pos e1, if_pos ⟨e1, by rw [h.own.l2]; exact he⟩]
    · rw [if_neg e1, if_neg (fun hh => e1 hh.1)]
  · exact h.own.m3.keep fun b h1 h2 => Below.heap_setCell w ⟨p.g2, off + e, none⟩ _ b (by have := h.own.d23; simp; omega)
theorem MB.setRun {w : World} {g : Nat} {p : Kp} {K : Ker} {q : Value} (h : MB w g p K q) (v : Int) : MB (w.setCell ⟨g, 4, none⟩ (.int .i64 v)) g p { K with run := v } q := by
  have far : ∀ b, b ≠ g → (w.setCell ⟨g, 4, none⟩ (.int .i64 v)).heap[b]? = w.heap[b]? := fun b hb => Below.heap_setCell w ⟨g, 4, none⟩ _ b hb
  exact ⟨heap_setCell_same w g 4 _ _ _ h.box, ⟨h.own.l1, h.own.l2, h.own.l3, h.own.nil1, h.own.m1.keep fun b h1 h2 => far b (by have := h.e1; omega), h.own.m2.keep fun b h1 h2 => far b (by have := h.e2; omega),
    h.own.m3.keep fun b h1 h2 => far b (by have := h.e3; omega), h.own.d12, h.own.d13, h.own.d23⟩, h.e1, h.e2, h.e3⟩
theorem MB.setTick {w : World} {g : Nat} {p : Kp} {K : Ker} {q : Value} (h : MB w g p K q) (v : Int) : MB (w.setCell ⟨g, 3, none⟩ (.int .i64 v)) g p { K with tick := v } q := by
  have far : ∀ b, b ≠ g → (w.setCell ⟨g, 3, none⟩ (.int .i64 v)).heap[b]? = w.heap[b]? := fun b hb => Below.heap_setCell w ⟨g, 3, none⟩ _ b hb
  exact ⟨heap_setCell_same w g 3 _ _ _ h.box, ⟨h.own.l1, h.own.l2, h.own.l3, h.own.nil1, h.own.m1.keep fun b h1 h2 => far b (by have := h.e1; omega), h.own.m2.keep fun b h1 h2 => far b (by have := h.e2; omega),
    h.own.m3.keep fun b h1 h2 => far b (by have := h.e3; omega), h.own.d12, h.own.d13, h.own.d23⟩, h.e1, h.e2, h.e3⟩
theorem MB.setOwners {w : World} {g : Nat} {p : Kp} {K : Ker} {q : Value} (h : MB w g p K q) {A : Option Addr} {n c g1 : Nat} {xs : List Int} (hl : xs.length = n) (hn : A = none → c = 0) (hm : Mine w g1 (g1 + 1) 2 A n (fun k => .int .i64 (gi xs k)))
    (d0 : g ≠ g1) (d2 : g1 ≠ p.g2) (d3 : g1 ≠ p.g3) : MB (w.setCell ⟨g, 0, none⟩ (.slice A n c)) g (p.withOwners A n c g1) { K with os := xs } q := by
  have far : ∀ b, b ≠ g → (w.setCell ⟨g, 0, none⟩ (.slice A n c)).heap[b]? = w.heap[b]? := fun b hb => Below.heap_setCell w ⟨g, 0, none⟩ _ b hb
  exact ⟨heap_setCell_same w g 0 _ _ _ h.box, ⟨hl, h.own.l2, h.own.l3, hn, hm.keep fun b h1 h2 => far b (by omega), h.own.m2.keep fun b h1 h2 => far b (by have := h.e2; omega),
    h.own.m3.keep fun b h1 h2 => far b (by have := h.e3; omega), d2, d3, h.own.d23⟩, d0, h.e2, h.e3⟩
theorem MB.setAccount {w : World} {g : Nat} {p : Kp} {K : Ker} {q : Value} (h : MB w g p K q) {off e : Nat} (hA : p.A3 = some ⟨p.g3, off, none⟩) (he : e < 4) (u x y d : Int) :
    MB ((((w.setCell ⟨p.g3, off + e * 4, none⟩ (.int .i64 u)).setCell ⟨p.g3, off + e * 4 + 1, none⟩ (.int .i64 x)).setCell ⟨p.g3, off + e * 4 + 2, none⟩ (.int .i64 y)).setCell ⟨p.g3, off + e * 4 + 3, none⟩ (.int .i64 d)) g p { K with ac := setAcc K.ac e u x y d } q := by
  have hr := row_of_mine h.own.m3 (by omega) hA
  have r1 := hr.setInt (i := e * 4) (by omega) h.own.l3 u
  have r2 := r1.setInt (i := e * 4 + 1) (by omega) (by simp [h.own.l3]) x
  have r3 := r2.setInt (i := e * 4 + 2) (by omega) (by simp [h.own.l3]) y
  have r4 := r3.setInt (i := e * 4 + 3) (by omega) (by simp [h.own.l3]) d
  have far : ∀ b, b ≠ p.g3 → ((((w.setCell ⟨p.g3, off + e * 4, none⟩ (.int .i64 u)).setCell ⟨p.g3, off + e * 4 + 1, none⟩ (.int .i64 x)).setCell ⟨p.g3, off + e * 4 + 2, none⟩ (.int .i64 y)).setCell ⟨p.g3, off + e * 4 + 3, none⟩ (.int .i64 d)).heap[b]? = w.heap[b]? := fun b hb =>
    (Below.heap_setCell _ ⟨p.g3, _, none⟩ _ b hb).trans ((Below.heap_setCell _ ⟨p.g3, _, none⟩ _ b hb).trans ((Below.heap_setCell _ ⟨p.g3, _, none⟩ _ b hb).trans (Below.heap_setCell _ ⟨p.g3, _, none⟩ _ b hb)))
  exact ⟨(far g h.e3).trans h.box, ⟨h.own.l1, h.own.l2, (setAcc_len _ _ _ _ _ _).trans h.own.l3, h.own.nil1, h.own.m1.keep fun b h1 h2 => far b (by have := h.own.d13; omega), h.own.m2.keep fun b h1 h2 => far b (by have := h.own.d23; omega),
    .inr ⟨p.g3, off, hA, Nat.le_refl _, Nat.lt_succ_self _, r4⟩, h.own.d12, h.own.d13, h.own.d23⟩, h.e1, h.e2, h.e3⟩
theorem MB.note {w : World} {g : Nat} {p : Kp} {K : Ker} {q : Value} (h : MB w g p K q) : w.cell? ⟨g, 5, none⟩ = some q := cell_of_row w g 5 _ _ _ h.box
theorem MB.setNote {w : World} {g : Nat} {p : Kp} {K : Ker} {q : Value} (h : MB w g p K q) (v : Value) : MB (w.setCell ⟨g, 5, none⟩ v) g p K v := by
  have far : ∀ b, b ≠ g → (w.setCell ⟨g, 5, none⟩ v).heap[b]? = w.heap[b]? := fun b hb => Below.heap_setCell w ⟨g, 5, none⟩ _ b hb
  exact ⟨heap_setCell_same w g 5 _ _ _ h.box, ⟨h.own.l1, h.own.l2, h.own.l3, h.own.nil1, h.own.m1.keep fun b h1 h2 => far b (by have := h.e1; omega), h.own.m2.keep fun b h1 h2 => far b (by have := h.e2; omega),
    h.own.m3.keep fun b h1 h2 => far b (by have := h.e3; omega), h.own.d12, h.own.d13, h.own.d23⟩, h.e1, h.e2, h.e3⟩
theorem MB.froz {w : World} {g : Nat} {p : Kp} {K : Ker} {q : Value} (h : MB w g p K q) (j : Nat) : w.frozen? ⟨g, j, none⟩ = false := frozen_of_row w g j _ _ h.box


set_option maxRecDepth 100000

theorem refuseIf_no (c : Int) (w : World) : Calls Tryz.prog 72 #[.bool false, .int .i64 c] w fun e w' => e = .returned (.tuple #[]) ∧ w = w' := by
  go_enter Tryz.func72, Tryz.ntmps72
  go_wp2
  go_end0
  exact ⟨rfl, rfl⟩
theorem refuseIf_yes (c : Int) (w : World) : Calls Tryz.prog 72 #[.bool true, .int .i64 c] w fun e w' => e = .panicked [{ v := .iface 154 (.int .i64 c), recovered := false }] ∧ w = w' := by
  go_enter Tryz.func72, Tryz.ntmps72
  go_wp2
  exact ⟨rfl, rfl, rfl⟩
theorem must_no (w : World) : Calls Tryz.prog 71 #[.int .i64 0] w fun e w' => e = .returned (.tuple #[]) ∧ w = w' := by
  go_enter Tryz.func71, Tryz.ntmps71
  go_wp2_with fail
  refine (refuseIf_no 0 w).mono ?_
  rintro e w' ⟨rfl, rfl⟩
  go_wp2
  go_end0
  exact ⟨rfl, rfl⟩
theorem must_yes (c : Int) (hc : (c != 0) = true) (w : World) : Calls Tryz.prog 71 #[.int .i64 c] w fun e w' => e = .panicked [{ v := .iface 154 (.int .i64 c), recovered := false }] ∧ w = w' := by
  go_enter Tryz.func71, Tryz.ntmps71
  go_wp2_with fail
  refine (refuseIf_yes c w).mono ?_
  rintro e w' ⟨rfl, rfl⟩
  go_wp2
  exact ⟨rfl, rfl, rfl⟩
theorem mustLive_yes {g : Nat} {p : Kp} {K : Ker} {q : Value} {w : World} (h : MB w g p K q) {e : Nat} (he : e < 4) (ha : gb K.al e = true) :
    Calls Tryz.prog 156 #[.pointer (some ⟨g, 0, none⟩), .int .i64 (e : Int)] w fun r w' => r = .returned (.tuple #[]) ∧ w = w' := by
  obtain ⟨off, hA, hr⟩ := h.alive
  have q1 := h.cells.2.1
  rw [hA] at q1
  have a0 := hr.cell (k := e) he
  rw [ha] at a0
  have h0 : (0 : Int) ≤ (e : Int) := by omega
  have h1 : (e : Int) < 4 := by omega
  clear h hr hA ha
  go_enter Tryz.func156, Tryz.ntmps156
  go_wp2_with fail
  refine (refuseIf_no 4 w).mono ?_
  rintro e w' ⟨rfl, rfl⟩
  go_wp2
  go_end0
  exact ⟨rfl, rfl⟩
theorem mustLive_no {g : Nat} {p : Kp} {K : Ker} {q : Value} {w : World} (h : MB w g p K q) {e : Nat} (he : e < 4) (ha : gb K.al e = false) :
    Calls Tryz.prog 156 #[.pointer (some ⟨g, 0, none⟩), .int .i64 (e : Int)] w fun r w' => r = .panicked [{ v := .iface 154 (.int .i64 4), recovered := false }] ∧ w = w' := by
  obtain ⟨off, hA, hr⟩ := h.alive
  have q1 := h.cells.2.1
  rw [hA] at q1
  have a0 := hr.cell (k := e) he
  rw [ha] at a0
  have h0 : (0 : Int) ≤ (e : Int) := by omega
  have h1 : (e : Int) < 4 := by omega
  clear h hr hA ha
  go_enter Tryz.func156, Tryz.ntmps156
  go_wp2_with fail
  refine (refuseIf_yes 4 w).mono ?_
  rintro e w' ⟨rfl, rfl⟩
  go_wp2
  exact ⟨rfl, rfl, rfl⟩
theorem own_yes {g : Nat} {p : Kp} {K : Ker} {q : Value} {w : World} (h : MB w g p K q) (A : Option Addr) (n c : Nat) :
    Calls Tryz.prog 157 #[.pointer (some ⟨g, 0, none⟩), .agg #[.int .i64 0, .slice A n c]] w fun r w' => r = .returned (.tuple #[]) ∧ w' = (w.alloc (.cells #[.int .i64 0, .slice A n c] 49)).setCell ⟨g, 0, none⟩ (.slice A n c) := by
  have q0 : (w.alloc (.cells #[.int .i64 0, .slice A n c] 49)).cell? ⟨g, 0, none⟩ = _ := ((below_new w _).cell (p := ⟨g, 0, none⟩) h.lt).trans h.cells.1
  have f0 : (w.alloc (.cells #[.int .i64 0, .slice A n c] 49)).frozen? ⟨g, 0, none⟩ = false := ((below_new w _).frozen (p := ⟨g, 0, none⟩) h.lt).trans (h.froz 0)
  clear h
  go_enter Tryz.func157, Tryz.ntmps157
  go_wp2_with fail
  refine (must_no _).mono ?_
  rintro e w' ⟨rfl, rfl⟩
  go_wp2
  go_end0
  exact ⟨rfl, rfl⟩
theorem own_no (a : Value) {w : World} (d : Int) (hd : (d != 0) = true) (A : Option Addr) (n c : Nat) :
    Calls Tryz.prog 157 #[a, .agg #[.int .i64 d, .slice A n c]] w fun r w' => r = .panicked [{ v := .iface 154 (.int .i64 d), recovered := false }] ∧ w' = w.alloc (.cells #[.int .i64 d, .slice A n c] 49) := by
  go_enter Tryz.func157, Tryz.ntmps157
  go_wp2_with fail
  refine (must_yes d hd _).mono ?_
  rintro e w' ⟨rfl, rfl⟩
  go_wp2
  exact ⟨rfl, rfl, rfl⟩

end Go.Proofs.YtckapndpefkcgaaGreat
