/-
  What a call makes of a kernel: plain mathematics. No program is named here.
-/
import Derived.Test.YtckapndpefkcgaaGreatKer2
import Derived.Test.YtckapndpefkcgaaGreatMath3
set_option maxHeartbeats 1000000

namespace Go.Proofs.YtckapndpefkcgaaGreat
open Go.RowKit

theorem cnt_set (xs : List Int) (k : Nat) (v e : Int) (h : k < xs.length) : cnt (xs.set k v) e + (if gi xs k = e then 1 else 0) = cnt xs e + (if v = e then 1 else 0) := by
  induction xs generalizing k with
  | nil => simp at h
  | cons x r ih =>
    cases k with
    | zero => simp only [List.set_cons_zero, cnt, gi, List.getD_cons_zero]; omega
    | succ k =>
      have := ih k (by simpa using h)
      simp only [List.set_cons_succ, cnt]
      have e1 : gi (x :: r) (k + 1) = gi r k := rfl
      rw [e1]
      omega
theorem vf_set {xs : List Int} (h : vf xs = 0) {k : Nat} {v : Int} (hv : bad v = false) (hc : ∀ e : Int, 0 ≤ e → e < 4 → cnt (xs.set k v) e ≤ 6) : vf (xs.set k v) = 0 := by
  obtain ⟨h1, h2, h3, _⟩ := vf_zero h
  refine vf_ok (by simpa using h1) (by simpa using h2) (fun j hj => ?_) hc
  rw [gi_set]
  split
  · exact hv
  · exact h3 j (by simpa using hj)
theorem ef_of {xs es : List Int} (h : vf xs = 0) (he : ∀ e ∈ es, 0 ≤ e ∧ e < 4) : ef xs es = 0 := by
  rw [ef_ok h]
  have : es.any (fun e => !inEnv e) = false := by
    rw [List.any_eq_false]
    intro e hx
    rw [inEnv_true (he e hx)]
    simp
  rw [this]; rfl

theorem take1_done {xs : List Int} {e s : Int} (h : (take1 xs e s).1 = 0) : ∃ k : Nat, s = (k : Int) ∧ k < xs.length ∧ vf xs = 0 ∧ (0 ≤ e ∧ e < 4) ∧ gi xs k = -1 ∧ cnt xs e < 6 ∧ (take1 xs e s).2 = xs.set k e := by
  unfold take1 at h ⊢
  by_cases h1 : sf xs s [e] ≠ 0
  · rw [if_pos h1] at h; exact absurd h h1
  rw [if_neg h1] at h ⊢
  by_cases h2 : gi xs s.toNat ≠ -1
  · rw [if_pos h2] at h; exact absurd h (by decide)
  rw [if_neg h2] at h ⊢
  by_cases h3 : 6 ≤ cnt xs e
  · rw [if_pos h3] at h; exact absurd h (by decide)
  rw [if_neg h3]
  have h1' : sf xs s [e] = 0 := by omega
  obtain ⟨a, b, c, d⟩ := sf_zero h1'
  exact ⟨s.toNat, by omega, by omega, a, b e (by simp), by omega, by omega, rfl⟩
theorem free1_done {xs : List Int} {e s : Int} (h : (free1 xs e s).1 = 0) : ∃ k : Nat, s = (k : Int) ∧ k < xs.length ∧ vf xs = 0 ∧ (0 ≤ e ∧ e < 4) ∧ gi xs k = e ∧ (free1 xs e s).2 = xs.set k (-1) := by
  unfold free1 at h ⊢
  by_cases h1 : sf xs s [e] ≠ 0
  · rw [if_pos h1] at h; exact absurd h h1
  rw [if_neg h1] at h ⊢
  by_cases h2 : gi xs s.toNat ≠ e
  · rw [if_pos h2] at h; exact absurd h (by decide)
  rw [if_neg h2]
  have h1' : sf xs s [e] = 0 := by omega
  obtain ⟨a, b, c, d⟩ := sf_zero h1'
  exact ⟨s.toNat, by omega, by omega, a, b e (by simp), by omega, rfl⟩
theorem move1_done {xs : List Int} {e s t : Int} (h : (move1 xs e s t).1 = 0) : ∃ k : Nat, s = (k : Int) ∧ k < xs.length ∧ vf xs = 0 ∧ (0 ≤ e ∧ e < 4) ∧ (0 ≤ t ∧ t < 4) ∧ gi xs k = e ∧ (t = e ∨ cnt xs t < 6) ∧ (move1 xs e s t).2 = xs.set k t := by
  unfold move1 at h ⊢
  by_cases h1 : sf xs s [e, t] ≠ 0
  · rw [if_pos h1] at h; exact absurd h h1
  rw [if_neg h1] at h ⊢
  by_cases h2 : gi xs s.toNat ≠ e
  · rw [if_pos h2] at h; exact absurd h (by decide)
  rw [if_neg h2] at h ⊢
  by_cases h3 : t ≠ e ∧ 6 ≤ cnt xs t
  · rw [if_pos h3] at h; exact absurd h (by decide)
  rw [if_neg h3]
  have h1' : sf xs s [e, t] = 0 := by omega
  obtain ⟨a, b, c, d⟩ := sf_zero h1'
  exact ⟨s.toNat, by omega, by omega, a, b e (by simp), b t (by simp), by omega, by omega, rfl⟩

theorem cnt_drop (xs : List Int) (e e' : Int) (he : e ≠ -1) (he' : e' ≠ -1) : cnt (xs.map fun x => if x = e then -1 else x) e' = if e' = e then 0 else cnt xs e' := by
  induction xs with
  | nil => simp [cnt]
  | cons x r ih =>
    simp only [List.map_cons, cnt, ih]
    by_cases h : x = e
    · subst h
      simp only [if_true]
      rw [if_neg (by omega)]
      by_cases h2 : e' = x
      · simp [h2]
      · have : ¬ x = e' := fun q => h2 q.symm
        simp [h2, this]
    · simp only [if_neg h]
      by_cases h2 : e' = e
      · subst h2; simp [h]
      · simp [h2]


theorem gb_set (xs : List Bool) (k j : Nat) (v : Bool) : gb (xs.set k v) j = if j = k ∧ k < xs.length then v else gb xs j := by
  unfold gb
  simp only [List.getD_eq_getElem?_getD, List.getElem?_set]
  by_cases e : k = j
  · subst e
    by_cases h : k < xs.length
    · simp [h]
    · simp [h]
  · rw [if_neg e, if_neg (by omega)]
def zac (ac : List Int) (e : Nat) : List Int := (((ac.set (e * 4) 0).set (e * 4 + 1) 0).set (e * 4 + 2) 0).set (e * 4 + 3) 0
theorem zac_len (ac : List Int) (e : Nat) : (zac ac e).length = ac.length := by simp [zac]
theorem gi_zac {ac : List Int} {e : Nat} (h : e * 4 + 3 < ac.length) (j : Nat) : gi (zac ac e) j = if e * 4 ≤ j ∧ j < e * 4 + 4 then 0 else gi ac j := by
  unfold zac
  simp only [gi_set, List.length_set]
  by_cases h0 : e * 4 ≤ j ∧ j < e * 4 + 4
  · rw [if_pos h0]
    have : j = e * 4 ∨ j = e * 4 + 1 ∨ j = e * 4 + 2 ∨ j = e * 4 + 3 := by omega
    rcases this with rfl | rfl | rfl | rfl
    · rw [if_neg (by omega), if_neg (by omega), if_neg (by omega), if_pos (by omega)]
    · rw [if_neg (by omega), if_neg (by omega), if_pos (by omega)]
    · rw [if_neg (by omega), if_pos (by omega)]
    · rw [if_pos (by omega)]
  · rw [if_neg h0, if_neg (by omega), if_neg (by omega), if_neg (by omega), if_neg (by omega)]

theorem take1_same {xs : List Int} {e s : Int} (h : (take1 xs e s).1 = 0) : 1 ≤ xs.length ∧ (take1 xs e s).2.length = xs.length := by
  unfold take1 at h ⊢
  split at h
  · rename_i h1; exact absurd h h1
  · rename_i h1
    rw [if_neg h1]
    split at h
    · omega
    · rename_i h2
      rw [if_neg h2]
      split at h
      · omega
      · rename_i h3
        rw [if_neg h3]
        have := (vf_zero (sf_zero (by omega : sf xs s [e] = 0)).1).1
        simp
        omega
theorem free1_same {xs : List Int} {e s : Int} (h : (free1 xs e s).1 = 0) : 1 ≤ xs.length ∧ (free1 xs e s).2.length = xs.length := by
  unfold free1 at h ⊢
  split at h
  · rename_i h1; exact absurd h h1
  · rename_i h1
    rw [if_neg h1]
    split at h
    · omega
    · rename_i h2
      rw [if_neg h2]
      have := (vf_zero (sf_zero (by omega : sf xs s [e] = 0)).1).1
      simp
      omega
theorem move1_same {xs : List Int} {e s t : Int} (h : (move1 xs e s t).1 = 0) : 1 ≤ xs.length ∧ (move1 xs e s t).2.length = xs.length := by
  unfold move1 at h ⊢
  split at h
  · rename_i h1; exact absurd h h1
  · rename_i h1
    rw [if_neg h1]
    split at h
    · omega
    · rename_i h2
      rw [if_neg h2]
      split at h
      · omega
      · rename_i h3
        rw [if_neg h3]
        have := (vf_zero (sf_zero (by omega : sf xs s [e, t] = 0)).1).1
        simp
        omega

def lists (K : Ker) (r : Int × List Int) : Int × Ker := if r.1 ≠ 0 then (r.1, K) else (0, { K with os := r.2 })
def call3 (K : Ker) (k e s t : Int) : Int × Ker :=
  if k = 1 then (if gb K.al e.toNat = true then (6, K) else (0, { K with al := K.al.set e.toNat true }))
  else if gb K.al e.toNat = false then (4, K)
  else if k = 2 then (0, { K with os := (drop1 K.os e).2, al := K.al.set e.toNat false, ac := zac K.ac e.toNat, run := if K.run = e then -1 else K.run })
  else if k = 3 then lists K (take1 K.os e s)
  else if k = 4 then lists K (free1 K.os e s)
  else if gb K.al t.toNat = false then (4, K) else lists K (move1 K.os e s t)

end Go.Proofs.YtckapndpefkcgaaGreat
