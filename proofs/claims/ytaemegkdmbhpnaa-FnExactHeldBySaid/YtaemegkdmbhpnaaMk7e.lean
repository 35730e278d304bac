/-
  markLib of a library of one's own: nothing outside its blocks turns. No conditions beyond that.
-/
import Derived.Test.YtaemegkdmbhpnaaMk7d
namespace Go.Proofs.Ytaemegkdmbhpnaa
open Go.RowKit
set_option maxRecDepth 100000

theorem Kept.only7 {g lo hi : Nat} {w w' : World} (k : Kept [g] w w') (h1 : lo ≤ g) (h2 : g < hi) (h3 : lo ≤ w.heap.size) : Only lo hi w w' :=
  ⟨⟨k.1.os, k.1.tape, k.1.output, k.1.size, fun b hb => k.2 b (by omega) (by simp; omega)⟩, fun b hb hs => k.2 b hs (by simp; omega)⟩
theorem Only.wide7 {lo hi lo' hi' : Nat} {w w' : World} (h : Only lo hi w w') (h1 : lo' ≤ lo) (h2 : hi ≤ hi') : Only lo' hi' w w' := ⟨h.1.mono h1, fun b hb hs => h.2 b (by omega) hs⟩
theorem LM.keep7 {W W' : World} {lo hi g n : Nat} {t : Nat → Int} {U m : Nat → Nat} {x : Nat → Nat → Int} (h : LM W lo hi g n t U m x) (k : ∀ b, lo ≤ b → b < hi → b < W.heap.size → W'.heap[b]? = W.heap[b]?) : LM W' lo hi g n t U m x :=
  ⟨h.row.keep (k g h.gl.1 h.gl.2 h.row.lt), h.gl, fun i hi => ⟨(h.qs i hi).1, (h.qs i hi).2.keep (k _ (by have := (h.qs i hi).1; have := h.gl; omega) (h.qs i hi).1.2 (h.qs i hi).2.lt)⟩, h.up⟩
theorem CM.keep7 {W W' : World} {lo hi g n : Nat} {U m : Nat → Nat} {x : Nat → Nat → Int} (h : CM W lo hi g n U m x) (k : ∀ b, lo ≤ b → b < hi → b < W.heap.size → W'.heap[b]? = W.heap[b]?) : CM W' lo hi g n U m x :=
  ⟨h.row.keep (k g h.gl.1 h.gl.2 h.row.lt), h.gl, fun i hi => ⟨(h.qs i hi).1, (h.qs i hi).2.keep (k _ (by have := (h.qs i hi).1; have := h.gl; omega) (h.qs i hi).1.2 (h.qs i hi).2.lt)⟩, h.up⟩

set_option maxHeartbeats 2000000 in
theorem markLib_any (lo hi : Nat) (b : Int) (rc tc lc cc u1 rn : Nat) (rx : Nat → Int) (u2 tn : Nat) (tx : Nat → Int) (u3 ln : Nat) (lo7 : Nat → Int) (lU lm : Nat → Nat) (lx : Nat → Nat → Int) (u4 cn : Nat) (cU cm : Nat → Nat) (cx : Nat → Nat → Int) (w : World) (hr : rn ≤ 1048576) (ht : tn ≤ 1048576) (hl : ln ≤ 1048576) (hlm : ∀ i, i < ln → lm i ≤ 1048576) (hc : cn ≤ 1048576) (hcm : ∀ i, i < cn → cm i ≤ 1048576)
    (h1 : Row w u1 0 166 (rn * 3) (fun k => .int .i64 (rx k))) (h2 : Row w u2 0 200 (tn * 5) (fun k => .int .i64 (tx k))) (h3 : LM w u3 u4 u3 ln lo7 lU lm lx) (h4 : CM w u4 hi u4 cn cU cm cx) (ho : lo ≤ u1 ∧ u1 < u2 ∧ u2 < u3) (hh : hi ≤ w.heap.size) :
    Calls Try.prog 23 #[.agg #[.int .i64 b, .slice (some ⟨u1, 0, none⟩) rn rc, .slice (some ⟨u2, 0, none⟩) tn tc, .slice (some ⟨u3, 0, none⟩) ln lc, .slice (some ⟨u4, 0, none⟩) cn cc], .int .i64 1] w fun e w' => ∃ M : Nat, e = .returned (.int .i64 M) ∧ Only lo hi w w' := by
  obtain ⟨w1, hw1⟩ : ∃ w1, w1 = w.alloc (.cells #[.int .i64 b, .slice (some ⟨u1, 0, none⟩) rn rc, .slice (some ⟨u2, 0, none⟩) tn tc, .slice (some ⟨u3, 0, none⟩) ln lc, .slice (some ⟨u4, 0, none⟩) cn cc] 54) := ⟨_, rfl⟩
  have KB : Hid (w1.heap[w.heap.size]? = some (.cells #[.int .i64 b, .slice (some ⟨u1, 0, none⟩) rn rc, .slice (some ⟨u2, 0, none⟩) tn tc, .slice (some ⟨u3, 0, none⟩) ln lc, .slice (some ⟨u4, 0, none⟩) cn cc] 54 (0, 0))) := by show _ = _; rw [hw1]; exact heap_alloc_new w _
  have B1 : Hid (Below w.heap.size w w1) := by rw [hw1]; exact below_new w _
  have Z1 : Hid (w1.heap.size = w.heap.size + 1) := by show _ = _; rw [hw1]; simp
  have O : Hid (lo ≤ u1 ∧ u1 < u2 ∧ u2 < u3 ∧ u3 < u4 ∧ u4 < hi ∧ hi ≤ w.heap.size) := ⟨ho.1, ho.2.1, ho.2.2, h3.gl.2, h4.gl.2, hh⟩
  have L3 := Lib.hid (h3.keep7 (W' := w1) (fun b _ hb _ => B1.out.block b (by have := O.out; omega)))
  have L4 := Lib.hid (h4.keep7 (W' := w1) (fun b _ hb _ => B1.out.block b (by have := O.out; omega)))
  have L1 := Lib.hid (h1.keep (w' := w1) (B1.out.block u1 (by have := O.out; omega)))
  have L2 := Lib.hid (h2.keep (w' := w1) (B1.out.block u2 (by have := O.out; omega)))
  have HR := Lib.hid hr; have HT := Lib.hid ht; have HL := Lib.hid hl; have HLM := Lib.hid hlm; have HC := Lib.hid hc; have HCM := Lib.hid hcm
  have W1 := Lib.hid hw1
  have W01 : Hid (Only lo hi w w1) := Only.of_below B1.out (by have := O.out; omega)
  have q0 := cell_of_row w1 _ 0 _ _ _ KB.out; have q1 := cell_of_row w1 _ 1 _ _ _ KB.out
  simp at q0 q1
  clear h1 h2 h3 h4 ho hh hr ht hl hlm hc hcm hw1
  go_enter Try.func23, Try.ntmps23
  go_upto_region 1 with (fail)
  rw [← W1.out]
  clear W1
  go_wp2_with fail
  refine (markSched_any u1 _ rn rc 1 b rx w1 HR.out (by omega) (.inr ⟨u1, 0, rfl, Nat.le_refl _, Nat.lt_succ_self _, L1.out⟩) L1.out.lt).mono ?_
  rintro e w2 ⟨rfl, _, hk⟩
  have O2 := Lib.hid (Kept.only7 hk (Nat.le_refl u1) (Nat.lt_succ_self _) (by have := L1.out.lt; omega))
  have KB2 := Lib.hid ((O2.out.block (by rw [Z1.out]; omega) (.inr (by have := O.out; omega))).trans KB.out)
  have Z2 := Lib.hid (show w.heap.size + 1 ≤ w2.heap.size by have := O2.out.1.size; have := Z1.out; omega)
  have L2 := Lib.hid (L2.out.keep (O2.out.block L2.out.lt (.inr (by have := O.out; omega))))
  have L3 := Lib.hid (L3.out.keep7 (W' := w2) (fun b hb _ hs => O2.out.block hs (.inr (by have := O.out; omega))))
  have L4 := Lib.hid (L4.out.keep7 (W' := w2) (fun b hb _ hs => O2.out.block hs (.inr (by have := O.out; omega))))
  obtain ⟨M2, hM2⟩ : ∃ M2 : Nat, M2 = 1 + rn * 3 := ⟨_, rfl⟩
  have HM2 := Lib.hid (show M2 ≤ 10000000 by have := HR.out; omega)
  rw [← hM2]
  have p2 := cell_of_row w2 _ 2 _ _ _ KB2.out
  simp at p2
  clear hk q0 q1 hM2 L1
  go_wp2_with fail
  refine (markThreadS_any u2 tn tc tx M2 w2 HT.out (by have := HM2.out; omega) L2.out).mono ?_
  rintro e w3 ⟨M3, rfl, hm3, ho3⟩
  have O3 := Lib.hid ho3
  have HM3 := Lib.hid (show M3 ≤ 100000000 by have := HM2.out; have := HT.out; omega)
  have KB3 := Lib.hid ((O3.out.block (b := w.heap.size) (by have := Z2.out; omega) (.inr (by have := O.out; omega))).trans KB2.out)
  have Z3 := Lib.hid (show w.heap.size + 1 ≤ w3.heap.size by have := O3.out.1.size; have := Z2.out; omega)
  have L3 := Lib.hid (L3.out.keep7 (W' := w3) (fun b hb _ hs => O3.out.block hs (.inr (by have := O.out; omega))))
  have L4 := Lib.hid (L4.out.keep7 (W' := w3) (fun b hb _ hs => O3.out.block hs (.inr (by have := O.out; omega))))
  have p3 := cell_of_row w3 _ 3 _ _ _ KB3.out
  simp at p3
  clear hm3 ho3 p2
  go_wp2_with fail
  refine (markLockS_any u3 u4 u3 ln lc lo7 lU lm lx M3 w3 HL.out HLM.out (by have := HM3.out; omega) L3.out).mono ?_
  rintro e w4 ⟨M4, rfl, hm4, ho4⟩
  have O4 := Lib.hid ho4
  have HM4 := Lib.hid (show M4 ≤ 9999999999999 by
    have := HM3.out
    have : ln * 1048577 ≤ 1048576 * 1048577 := Nat.mul_le_mul_right _ HL.out
    omega)
  have KB4 := Lib.hid ((O4.out.block (b := w.heap.size) (by have := Z3.out; omega) (.inr (by have := O.out; omega))).trans KB3.out)
  have L4 := Lib.hid (L4.out.keep7 (W' := w4) (fun b hb _ hs => O4.out.block hs (.inr (by have := O.out; omega))))
  have p4 := cell_of_row w4 _ 4 _ _ _ KB4.out
  simp at p4
  clear hm4 ho4 p3
  go_wp2_with fail
  refine (markInt64SS_any u4 hi u4 cn cc cU cm cx M4 w4 HC.out HCM.out (by have := HM4.out; omega) L4.out).mono ?_
  rintro e w5 ⟨M5, rfl, _, ho5⟩
  have O5 := Lib.hid ho5
  clear ho5 p4
  go_wp2
  go_ret
  have := O.out
  exact ⟨M5, rfl, (((W01.out.trans (O2.out.wide7 (by omega) (by omega))).trans (O3.out.wide7 (by omega) (by omega))).trans (O4.out.wide7 (by omega) (by omega))).trans (O5.out.wide7 (by omega) (by omega))⟩

end Go.Proofs.Ytaemegkdmbhpnaa
