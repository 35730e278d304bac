/-
  IsFair, the model's. No conditions beyond that the schedule can be read.
-/
import Derived.Test.YtckapndpefkcgaaFair9a
set_option maxHeartbeats 1000000
namespace Go.Proofs.Ytckapndpefkcgaa
open Go.RowKit
set_option maxRecDepth 100000

structure FF9 (b : Int) (xs : List R3) (t : Int) (n : Nat) (ids hs : List Int) : Prop where
  n5 : n ≤ 5
  tk : ∀ i, i < n → 1 ≤ gi hs (i * 3 + 1) ∧ gi hs (i * 3 + 1) ≤ 10
  t0 : 0 ≤ t ∧ t ≤ 200
  il : ids.length ≤ 200
  eq : fair9 b xs t = !(anyf (farAt ids hs t (tka hs n) n) n)
theorem ff9_of {b : Int} {xs : List R3} {t : Int} (h : (picks5 b xs t).1 = 0) : FF9 b xs t xs.length (picks5 b xs t).2.1 (fl xs) := by
  obtain ⟨h1, h2⟩ := picks5_ok h
  obtain ⟨_, hb, _, _⟩ := sf5_zero h1
  have h5 : ¬ 5 < xs.length := fun hh => by
    unfold sf5 at h1
    split at h1
    · omega
    · first | omega | (rw [if_pos hh] at h1; omega)
  refine ⟨by omega, fun i hi => ?_, h2, (picks5_len b xs t).1, by unfold fair9; rw [if_neg (by simp [h])]⟩
  have hm : g3 xs i ∈ xs := by unfold g3; rw [List.getD_eq_getElem?_getD, List.getElem?_eq_getElem hi]; exact List.getElem_mem hi
  have := (okR_parts (okR_mem hb hm)).2.1
  rw [(fl_get xs i hi).2.1]
  unfold okT at this
  simpa using this
theorem ff9_num {b : Int} {xs : List R3} {t : Int} {n : Nat} {ids hs : List Int} (h : FF9 b xs t n ids hs) (tm : Nat) (hm : tm ≤ ids.length) (tk : Int) (hk : 1 ≤ tk ∧ tk ≤ 10) (all : Int) (ha : 0 ≤ all ∧ all ≤ 50) :
    (0 ≤ (tm : Int) * all ∧ (tm : Int) * all ≤ 10000) ∧ (0 ≤ t * tk ∧ t * tk ≤ 2000) ∧ (0 ≤ max ((n : Int) - 2) 0 ∧ max ((n : Int) - 2) 0 ≤ 3) ∧ (0 ≤ max ((n : Int) - 2) 0 * tk ∧ max ((n : Int) - 2) 0 * tk ≤ 30) := by
  have h1 := h.n5; have h2 := h.il
  have h3 : 0 ≤ max ((n : Int) - 2) 0 ∧ max ((n : Int) - 2) 0 ≤ 3 := by omega
  exact ⟨mul_box (A := 200) (B := 50) (by omega) ha, mul_box (A := 200) (B := 10) h.t0 (by omega), h3, mul_box (A := 3) (B := 10) h3 (by omega)⟩

end Go.Proofs.Ytckapndpefkcgaa
