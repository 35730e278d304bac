/-
  The model's l3New and NewKernel.
-/
import Derived.Deep.RegionHeld3
import Derived.Test.YtckapndpefkcgaaGreatSpec1c
import Derived.Test.YtckapndpefkcgaaGreatImpl3a
import Derived.Test.YtckapndpefkcgaaGreatOwn4
import Derived.Test.YtckapndpefkcgaaGreatKans3
set_option maxHeartbeats 1000000
namespace Go.Proofs.YtckapndpefkcgaaGreat
open Go.RowKit
set_option maxRecDepth 100000

theorem run_fr0 (q : Int) (A : Option Addr) (n c : Nat) (W : World) : (Instr.field 49 (.agg #[.int .i64 q, .slice A n c]) 0).run Tryz.prog W = .ok (.int .i64 q) W := by kernel_rfl
theorem run_fr1 (q : Int) (A : Option Addr) (n c : Nat) (W : World) : (Instr.field 49 (.agg #[.int .i64 q, .slice A n c]) 1).run Tryz.prog W = .ok (.slice A n c) W := by kernel_rfl
def b4c : Array Value := madeCells #[.bool false] 4
def a4c : Array Value := madeCells #[.int .i64 0, .int .i64 0, .int .i64 0, .int .i64 0] 16
theorem run_make_b4 (W : World) : (Instr.makeSlice 36 (.int .i64 4) (.int .i64 4)).run Tryz.prog W = .ok (.slice (some ⟨W.heap.size, 0, none⟩) 4 4) (W.alloc (.cells b4c 4)) :=
  run_make_row' (P := Tryz.prog) 36 4 (.bool false) 1 Tryz.underlying36 Tryz.info_bool rfl .i64 .i64 4 (by omega) (by omega) W
theorem run_make_a4 (W : World) : (Instr.makeSlice 37 (.int .i64 4) (.int .i64 4)).run Tryz.prog W = .ok (.slice (some ⟨W.heap.size, 0, none⟩) 4 4) (W.alloc (.cells a4c 68)) :=
  run_make_rows (P := Tryz.prog) 37 68 _ 4 32 Tryz.underlying37 Tryz.info_Account .i64 .i64 4 (by omega) (by omega) W
theorem row_b4_of {w : World} {g : Nat} (h : w.heap[g]? = some (.cells b4c 4 (0, 0))) : Row w g 0 4 4 (fun k => .bool (gb [false, false, false, false] k)) :=
  Row.congr (f := fun _ => .bool false) ⟨_, h, fun k hk => by rw [Nat.zero_add]; simp [b4c, madeCells, hk, Nat.mod_one]⟩ fun k hk => by
    match k, hk with
    | 0, _ => rfl
    | 1, _ => rfl
    | 2, _ => rfl
    | 3, _ => rfl
theorem gi_rep0 (n k : Nat) : gi (List.replicate n 0) k = 0 := by
  unfold gi
  rw [List.getD_eq_getElem?_getD, List.getElem?_replicate]
  split <;> rfl
theorem row_a4_of {w : World} {g : Nat} (h : w.heap[g]? = some (.cells a4c 68 (0, 0))) : Row w g 0 68 16 (fun k => .int .i64 (gi (List.replicate 16 0) k)) :=
  Row.congr (f := fun _ => .int .i64 0) ⟨_, h, fun k hk => by
    have hz : ∀ r, r < 4 → (#[Value.int .i64 0, .int .i64 0, .int .i64 0, .int .i64 0] : Array Value)[r]! = .int .i64 0 := fun r hr => by
      match r, hr with
      | 0, _ => rfl
      | 1, _ => rfl
      | 2, _ => rfl
      | 3, _ => rfl
    obtain ⟨cur, h1, h2⟩ := Row.mades w #[Value.int .i64 0, .int .i64 0, .int .i64 0, .int .i64 0] (.int .i64 0) 16 68 (by decide) hz
    have e := h1.symm.trans (heap_alloc_new w _)
    injection e with e
    injection e with e
    subst e
    exact h2 k hk⟩ fun k hk => by rw [gi_rep0]
theorem Mine.one' {w : World} {lo hi n : Nat} {t : TypeId} {A : Option Addr} {f : Nat → Value} (h : Mine w lo hi t A n f) (h0 : 1 ≤ n) : ∃ g, lo ≤ g ∧ g < hi ∧ Mine w g (g + 1) t A n f := by
  rcases h with h | ⟨g, off, hA, h1, h2, hr⟩
  · omega
  · exact ⟨g, h1, h2, .inr ⟨g, off, hA, Nat.le_refl _, Nat.lt_succ_self _, hr⟩⟩
def NewK (m : Int) (w W : World) : Prop := ∃ p : Kp, W.heap[w.heap.size]? = some (.cells #[.slice p.A1 p.n1 p.c1, .slice p.A2 4 p.c2, .slice p.A3 4 p.c3, .int .i64 0, .int .i64 (-1)] 39 (0, 0)) ∧ KOwn W p ⟨(new1 m).2, [false, false, false, false], List.replicate 16 0, 0, -1⟩ ∧
  (w.heap.size ≤ p.g1 ∧ w.heap.size ≤ p.g2 ∧ w.heap.size ≤ p.g3 ∧ p.g1 < W.heap.size ∧ p.g2 < W.heap.size ∧ p.g3 < W.heap.size) ∧ Below w.heap.size w W

set_option maxHeartbeats 4000000 in
theorem l3New_any (m : Int) (w : World) (hm : 1 ≤ m ∧ m ≤ 12) :
    Calls Tryz.prog 62 #[.int .i64 m] w fun e w' => ∃ p : Kp, e = .returned (.agg #[.slice p.A1 p.n1 p.c1, .slice p.A2 4 p.c2, .slice p.A3 4 p.c3, .int .i64 0, .int .i64 (-1)]) ∧ KOwn w' p ⟨(new1 m).2, [false, false, false, false], List.replicate 16 0, 0, -1⟩ ∧
      (w.heap.size ≤ p.g1 ∧ w.heap.size ≤ p.g2 ∧ w.heap.size ≤ p.g3 ∧ p.g1 < w'.heap.size ∧ p.g2 < w'.heap.size ∧ p.g3 < w'.heap.size) ∧ Below w.heap.size w w' := by
  obtain ⟨w1, hW1⟩ : ∃ w1, w1 = w.alloc (.cells #[.slice none 0 0, .slice none 0 0, .slice none 0 0, .int .i64 0, .int .i64 0] 39) := ⟨_, rfl⟩
  have X0 : Hid (BoxN 5 w.heap.size 39 w w1) := by rw [hW1]; exact BoxN.new w #[.slice none 0 0, .slice none 0 0, .slice none 0 0, .int .i64 0, .int .i64 0] _
  have KS : Hid (∀ W, BoxN 5 w.heap.size 39 w W → (W.cell? ⟨w.heap.size, 0, none⟩ = some (cval W ⟨w.heap.size, 0, none⟩) ∧ W.frozen? ⟨w.heap.size, 0, none⟩ = false ∧ W.cell? ⟨w.heap.size, 1, none⟩ = some (cval W ⟨w.heap.size, 1, none⟩) ∧ W.frozen? ⟨w.heap.size, 1, none⟩ = false ∧ W.cell? ⟨w.heap.size, 2, none⟩ = some (cval W ⟨w.heap.size, 2, none⟩) ∧ W.frozen? ⟨w.heap.size, 2, none⟩ = false ∧ W.cell? ⟨w.heap.size, 3, none⟩ = some (cval W ⟨w.heap.size, 3, none⟩) ∧ W.frozen? ⟨w.heap.size, 3, none⟩ = false ∧ W.cell? ⟨w.heap.size, 4, none⟩ = some (cval W ⟨w.heap.size, 4, none⟩) ∧ W.frozen? ⟨w.heap.size, 4, none⟩ = false ∧ BoxN 5 w.heap.size 39 w W)) := fun W h => ⟨h.cell 0 (by omega), h.frozen 0, h.cell 1 (by omega), h.frozen 1, h.cell 2 (by omega), h.frozen 2, h.cell 3 (by omega), h.frozen 3, h.cell 4 (by omega), h.frozen 4, h⟩
  have PS : Hid (∀ W, (W.cell? ⟨w.heap.size, 0, none⟩ = some (cval W ⟨w.heap.size, 0, none⟩) ∧ W.frozen? ⟨w.heap.size, 0, none⟩ = false ∧ W.cell? ⟨w.heap.size, 1, none⟩ = some (cval W ⟨w.heap.size, 1, none⟩) ∧ W.frozen? ⟨w.heap.size, 1, none⟩ = false ∧ W.cell? ⟨w.heap.size, 2, none⟩ = some (cval W ⟨w.heap.size, 2, none⟩) ∧ W.frozen? ⟨w.heap.size, 2, none⟩ = false ∧ W.cell? ⟨w.heap.size, 3, none⟩ = some (cval W ⟨w.heap.size, 3, none⟩) ∧ W.frozen? ⟨w.heap.size, 3, none⟩ = false ∧ W.cell? ⟨w.heap.size, 4, none⟩ = some (cval W ⟨w.heap.size, 4, none⟩) ∧ W.frozen? ⟨w.heap.size, 4, none⟩ = false ∧ BoxN 5 w.heap.size 39 w W) → BoxN 5 w.heap.size 39 w W) := fun W h => h.2.2.2.2.2.2.2.2.2.2
  have fl1 := run_fr1
  have hmk2 := run_make_b4
  have hmk3 := run_make_a4
  have FIN : Hid (∀ (W w0 w2 : World) (A1 : Option Addr) (n1 c1 g2 g3 : Nat), BoxN 5 w.heap.size 39 w W → Below w2.heap.size w2 W → w.heap.size < w0.heap.size → (new1 m).2.length = n1 → (A1 = none → c1 = 0) → Mine w2 w0.heap.size w2.heap.size 2 A1 n1 (fun k => .int .i64 (gi (new1 m).2 k)) →
      W.heap[g2]? = some (.cells b4c 4 (0, 0)) → W.heap[g3]? = some (.cells a4c 68 (0, 0)) → w.heap.size < g2 → w.heap.size < g3 → g2 ≠ g3 → (g2 < w0.heap.size ∨ w2.heap.size ≤ g2) → (g3 < w0.heap.size ∨ w2.heap.size ≤ g3) → g2 < W.heap.size → g3 < W.heap.size →
      NewK m w (((((W.setCell ⟨w.heap.size, 0, none⟩ (.slice A1 n1 c1)).setCell ⟨w.heap.size, 1, none⟩ (.slice (some ⟨g2, 0, none⟩) 4 4)).setCell ⟨w.heap.size, 2, none⟩ (.slice (some ⟨g3, 0, none⟩) 4 4)).setCell ⟨w.heap.size, 3, none⟩ (.int .i64 0)).setCell ⟨w.heap.size, 4, none⟩ (.int .i64 (-1)))) := by
    intro W w0 w2 A1 n1 c1 g2 g3 hx hb h0 hl hn hmm k2 k3 l2 l3 d23 o2 o3 s2 s3
    have hpos : 1 ≤ n1 := by rw [← hl]; have := hm; unfold new1; rw [if_neg (by omega)]; simp; omega
    obtain ⟨g1, u1, u2, hm1⟩ := hmm.one' hpos
    have hm1 := hm1.below hb (by omega)
    have z := hb.size
    obtain ⟨cs, e, k⟩ := hx.of
    obtain ⟨a0, a1, a2, a3, a4, rfl⟩ := arr5 e
    refine ⟨⟨A1, n1, c1, some ⟨g2, 0, none⟩, 4, some ⟨g3, 0, none⟩, 4, g1, g2, g3⟩, blk5_set k _ _ _ _ _, ⟨hl, rfl, by simp, hn, far5 hm1 (by omega) _ _ _ _ _, .inr ⟨g2, 0, rfl, Nat.le_refl _, Nat.lt_succ_self _, rfar5 (f := fun k => .bool (gb [false, false, false, false] k)) ?_ (by omega) _ _ _ _ _⟩, .inr ⟨g3, 0, rfl, Nat.le_refl _, Nat.lt_succ_self _, rfar5 (f := fun k => .int .i64 (gi (List.replicate 16 0) k)) ?_ (by omega) _ _ _ _ _⟩, by show g1 ≠ g2; omega, by show g1 ≠ g3; omega, d23⟩, ⟨by show w.heap.size ≤ g1; omega, by show w.heap.size ≤ g2; omega, by show w.heap.size ≤ g3; omega, by simp; omega, by simp; omega, by simp; omega⟩, below5 hx.fst (Nat.le_refl _) _ _ _ _ _⟩
    · exact row_b4_of k2
    · exact row_a4_of k3
  go_enter Tryz.func62, Tryz.ntmps62
  go_wp2_with fail
  rw [← hW1]
  have SZ : Hid (w1.heap.size = w.heap.size + 1) := by show _ = _; rw [hW1]; simp
  clear hW1
  go_cut [2] from 3 (fun x wx => x = .pointer (some ⟨w.heap.size, 0, none⟩) ∧ NewK m w wx)
  case first => as_aux_lemma =>
    go_region_held3 (fun W => (W.cell? ⟨w.heap.size, 0, none⟩ = some (cval W ⟨w.heap.size, 0, none⟩) ∧ W.frozen? ⟨w.heap.size, 0, none⟩ = false ∧ W.cell? ⟨w.heap.size, 1, none⟩ = some (cval W ⟨w.heap.size, 1, none⟩) ∧ W.frozen? ⟨w.heap.size, 1, none⟩ = false ∧ W.cell? ⟨w.heap.size, 2, none⟩ = some (cval W ⟨w.heap.size, 2, none⟩) ∧ W.frozen? ⟨w.heap.size, 2, none⟩ = false ∧ W.cell? ⟨w.heap.size, 3, none⟩ = some (cval W ⟨w.heap.size, 3, none⟩) ∧ W.frozen? ⟨w.heap.size, 3, none⟩ = false ∧ W.cell? ⟨w.heap.size, 4, none⟩ = some (cval W ⟨w.heap.size, 4, none⟩) ∧ W.frozen? ⟨w.heap.size, 4, none⟩ = false ∧ BoxN 5 w.heap.size 39 w W)) (first | with_reducible exact KS.out _ (by repeat (first | with_reducible exact X0.out | with_reducible assumption | with_reducible apply BoxN.drew | with_reducible apply BoxN.alloc | with_reducible apply BoxN.set))) (first | (go_at_call 96; refine (specNewVector_any m _).mono ?_; rintro e9 w2 ⟨A1, n1, c1, rfl, hl, hn, hmm, hb⟩; have hx2 := (PS.out _ (by assumption)).below hb))
    all_goals
      go_wp2_with fail
      go_meet
      have hz2 := hb.size
      have sz := SZ.out
      have sd : ∀ W : World, W.drew.heap.size = W.heap.size := fun _ => rfl
      simp only [sd, World.size_alloc] at hz2
      refine ⟨rfl, FIN.out _ _ w2 A1 n1 c1 _ _ (by repeat (first | with_reducible assumption | with_reducible apply BoxN.drew | with_reducible apply BoxN.alloc)) (by repeat (first | exact Below.refl _ _ | with_reducible apply Below.drew | with_reducible apply Below.grow)) ?_ hl hn hmm ?_ ?_ ?_ ?_ ?_ ?_ ?_ ?_ ?_⟩
      all_goals first
        | exact heap_alloc_new _ _
        | exact heap_first _ _ _
        | exact heap_second _ _ _
        | exact (hb.block _ (by first | (simp [sd]; done) | (simp [sd]; omega))).trans (heap_alloc_new _ _)
        | exact (hb.block _ (by first | (simp [sd]; done) | (simp [sd]; omega))).trans (heap_first _ _ _)
        | exact (hb.block _ (by first | (simp [sd]; done) | (simp [sd]; omega))).trans (heap_second _ _ _)
        | exact (Below.heap_alloc _ _ _ (by omega)).trans ((hb.block _ (by first | (simp [sd]; done) | (simp [sd]; omega))).trans (heap_alloc_new _ _))
        | (simp [sd]; omega)
        | (simp [sd]; done)
        | omega
  case rest =>
    obtain ⟨rfl, p, hk, ho, hbd, hb⟩ := hcut
    go_wp2
    exact bodyPost_ret (results_cell_row rfl _ _ w.heap.size _ _ (0, 0) _ rfl hk Tryz.underlying39 rfl (by kernel_rfl)) rfl ⟨p, rfl, ho, hbd, hb⟩

end Go.Proofs.YtckapndpefkcgaaGreat
