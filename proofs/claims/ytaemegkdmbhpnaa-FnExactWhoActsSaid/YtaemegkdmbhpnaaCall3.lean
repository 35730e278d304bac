/-
  What a call makes of a kernel: plain mathematics. No program is named here.
-/
import Derived.Test.YtaemegkdmbhpnaaKer
import Derived.Test.YtaemegkdmbhpnaaMath1b
namespace Go.Proofs.Ytaemegkdmbhpnaa
open Go.RowKit

theorem gb_set (xs : List Bool) (k j : Nat) (v : Bool) : gb (xs.set k v) j = if j = k ∧ k < xs.length then v else gb xs j := by
  unfold gb
  simp only [List.getD_eq_getElem?_getD, List.getElem?_set]
  by_cases e : k = j
  · subst e
    by_cases h : k < xs.length
    · simp [h]
    · simp [h]
  · rw [if_neg e, if_neg (by omega)]
/-- the account of e is zero -/
def zac (ac : List Int) (e : Nat) : List Int := (((ac.set (e * 4) 0).set (e * 4 + 1) 0).set (e * 4 + 2) 0).set (e * 4 + 3) 0
theorem zac_len (ac : List Int) (e : Nat) : (zac ac e).length = ac.length := by simp [zac]
theorem gi_zac {ac : List Int} {e : Nat} (h : e * 4 + 3 < ac.length) (j : Nat) : gi (zac ac e) j = if e * 4 ≤ j ∧ j < e * 4 + 4 then 0 else gi ac j := by
  unfold zac
  simp only [gi_set, List.length_set]
  by_cases h0 : e * 4 ≤ j ∧ j < e * 4 + 4
  · rw [if_pos h0]
    have : j = e * 4 ∨ j = e * 4 + 1 ∨ j = e * 4 + 2 ∨ j = e * 4 + 3 := by omega
    rcases this with rfl | rfl | rfl | rfl
    · rw [if_neg (by omega), if_neg (by omega), if_neg (by omega), if_pos (by omega)]
    · rw [if_neg (by omega), if_neg (by omega), if_pos (by omega)]
    · rw [if_neg (by omega), if_pos (by omega)]
    · rw [if_pos (by omega)]
  · rw [if_neg h0, if_neg (by omega), if_neg (by omega), if_neg (by omega), if_neg (by omega)]

/-- what was done has as many slots as were there -/
theorem take1_same {xs : List Int} {e s : Int} (h : (take1 xs e s).1 = 0) : 1 ≤ xs.length ∧ (take1 xs e s).2.length = xs.length := by
  unfold take1 at h ⊢
  split at h
  · rename_i h1; exact absurd h h1
  · rename_i h1
    rw [if_neg h1]
    split at h
    · omega
    · rename_i h2
      rw [if_neg h2]
      split at h
      · omega
      · rename_i h3
        rw [if_neg h3]
        have := (vf_zero (sf_zero (by omega : sf xs s [e] = 0)).1).1
        simp
        omega
theorem free1_same {xs : List Int} {e s : Int} (h : (free1 xs e s).1 = 0) : 1 ≤ xs.length ∧ (free1 xs e s).2.length = xs.length := by
  unfold free1 at h ⊢
  split at h
  · rename_i h1; exact absurd h h1
  · rename_i h1
    rw [if_neg h1]
    split at h
    · omega
    · rename_i h2
      rw [if_neg h2]
      have := (vf_zero (sf_zero (by omega : sf xs s [e] = 0)).1).1
      simp
      omega
theorem move1_same {xs : List Int} {e s t : Int} (h : (move1 xs e s t).1 = 0) : 1 ≤ xs.length ∧ (move1 xs e s t).2.length = xs.length := by
  unfold move1 at h ⊢
  split at h
  · rename_i h1; exact absurd h h1
  · rename_i h1
    rw [if_neg h1]
    split at h
    · omega
    · rename_i h2
      rw [if_neg h2]
      split at h
      · omega
      · rename_i h3
        rw [if_neg h3]
        have := (vf_zero (sf_zero (by omega : sf xs s [e, t] = 0)).1).1
        simp
        omega

def lists (K : Ker) (r : Int × List Int) : Int × Ker := if r.1 ≠ 0 then (r.1, K) else (0, { K with os := r.2 })
/-- what a right call does to a right kernel: a code, the kernel -/
def call3 (K : Ker) (k e s t : Int) : Int × Ker :=
  if k = 1 then (if gb K.al e.toNat = true then (6, K) else (0, { K with al := K.al.set e.toNat true }))
  else if gb K.al e.toNat = false then (4, K)
  else if k = 2 then (0, { K with os := (drop1 K.os e).2, al := K.al.set e.toNat false, ac := zac K.ac e.toNat, run := if K.run = e then -1 else K.run })
  else if k = 3 then lists K (take1 K.os e s)
  else if k = 4 then lists K (free1 K.os e s)
  else if gb K.al t.toNat = false then (4, K) else lists K (move1 K.os e s t)

end Go.Proofs.Ytaemegkdmbhpnaa
