/-
  What a call makes of a kernel: plain mathematics. No program is named here.
-/
import Derived.Test.YtkhphkfbjbhgaaaMath1
import Derived.Test.YtkhphkfbjbhgaaaKer2

-- Math1b
namespace Go.Proofs.Ytkhphkfbjbhgaaa
open Go.RowKit

theorem cnt_set (xs : List Int) (k : Nat) (v e : Int) (h : k < xs.length) : cnt (xs.set k v) e + (if gi xs k = e then 1 else 0) = cnt xs e + (if v = e then 1 else 0) := by
  induction xs generalizing k with
  | nil => simp at h
  | cons x r ih =>
    cases k with
    | zero => simp only [List.set_cons_zero, cnt, gi, List.getD_cons_zero]; omega
    | succ k =>
      have := ih k (by simpa using h)
      simp only [List.set_cons_succ, cnt]
      have e1 : gi (x :: r) (k + 1) = gi r k := rfl
      rw [e1]
      omega
theorem set_back (xs : List Int) (k : Nat) (v : Int) : (xs.set k v).set k (gi xs k) = xs := by
  rw [List.set_set]
  by_cases h : k < xs.length
  · rw [gi_lt xs k h]; simp
  · rw [List.set_eq_of_length_le (by omega)]
theorem vf_set {xs : List Int} (h : vf xs = 0) {k : Nat} {v : Int} (hv : bad v = false) (hc : ∀ e : Int, 0 ≤ e → e < 4 → cnt (xs.set k v) e ≤ 6) : vf (xs.set k v) = 0 := by
  obtain ⟨h1, h2, h3, _⟩ := vf_zero h
  refine vf_ok (by simpa using h1) (by simpa using h2) (fun j hj => ?_) hc
  rw [gi_set]
  split
  · exact hv
  · exact h3 j (by simpa using hj)
theorem sf_of {xs es : List Int} {s : Int} (h : vf xs = 0) (he : ∀ e ∈ es, 0 ≤ e ∧ e < 4) (h0 : 0 ≤ s) (h1 : s < xs.length) : sf xs s es = 0 := by
  have : ef xs es = 0 := by
    rw [ef_ok h]
    have : es.any (fun e => !inEnv e) = false := by
      rw [List.any_eq_false]
      intro e hx
      rw [inEnv_true (he e hx)]
      simp
    rw [this]; rfl
  rw [sf_ok this, if_neg (by omega)]
theorem ef_of {xs es : List Int} (h : vf xs = 0) (he : ∀ e ∈ es, 0 ≤ e ∧ e < 4) : ef xs es = 0 := by
  rw [ef_ok h]
  have : es.any (fun e => !inEnv e) = false := by
    rw [List.any_eq_false]
    intro e hx
    rw [inEnv_true (he e hx)]
    simp
  rw [this]; rfl

/-- what a taking that is done means -/
theorem take1_done {xs : List Int} {e s : Int} (h : (take1 xs e s).1 = 0) : ∃ k : Nat, s = (k : Int) ∧ k < xs.length ∧ vf xs = 0 ∧ (0 ≤ e ∧ e < 4) ∧ gi xs k = -1 ∧ cnt xs e < 6 ∧ (take1 xs e s).2 = xs.set k e := by
  unfold take1 at h ⊢
  by_cases h1 : sf xs s [e] ≠ 0
  · rw [if_pos h1] at h; exact absurd h h1
  rw [if_neg h1] at h ⊢
  by_cases h2 : gi xs s.toNat ≠ -1
  · rw [if_pos h2] at h; exact absurd h (by decide)
  rw [if_neg h2] at h ⊢
  by_cases h3 : 6 ≤ cnt xs e
  · rw [if_pos h3] at h; exact absurd h (by decide)
  rw [if_neg h3]
  have h1' : sf xs s [e] = 0 := by omega
  obtain ⟨a, b, c, d⟩ := sf_zero h1'
  exact ⟨s.toNat, by omega, by omega, a, b e (by simp), by omega, by omega, rfl⟩
theorem free1_done {xs : List Int} {e s : Int} (h : (free1 xs e s).1 = 0) : ∃ k : Nat, s = (k : Int) ∧ k < xs.length ∧ vf xs = 0 ∧ (0 ≤ e ∧ e < 4) ∧ gi xs k = e ∧ (free1 xs e s).2 = xs.set k (-1) := by
  unfold free1 at h ⊢
  by_cases h1 : sf xs s [e] ≠ 0
  · rw [if_pos h1] at h; exact absurd h h1
  rw [if_neg h1] at h ⊢
  by_cases h2 : gi xs s.toNat ≠ e
  · rw [if_pos h2] at h; exact absurd h (by decide)
  rw [if_neg h2]
  have h1' : sf xs s [e] = 0 := by omega
  obtain ⟨a, b, c, d⟩ := sf_zero h1'
  exact ⟨s.toNat, by omega, by omega, a, b e (by simp), by omega, rfl⟩
theorem move1_done {xs : List Int} {e s t : Int} (h : (move1 xs e s t).1 = 0) : ∃ k : Nat, s = (k : Int) ∧ k < xs.length ∧ vf xs = 0 ∧ (0 ≤ e ∧ e < 4) ∧ (0 ≤ t ∧ t < 4) ∧ gi xs k = e ∧ (t = e ∨ cnt xs t < 6) ∧ (move1 xs e s t).2 = xs.set k t := by
  unfold move1 at h ⊢
  by_cases h1 : sf xs s [e, t] ≠ 0
  · rw [if_pos h1] at h; exact absurd h h1
  rw [if_neg h1] at h ⊢
  by_cases h2 : gi xs s.toNat ≠ e
  · rw [if_pos h2] at h; exact absurd h (by decide)
  rw [if_neg h2] at h ⊢
  by_cases h3 : t ≠ e ∧ 6 ≤ cnt xs t
  · rw [if_pos h3] at h; exact absurd h (by decide)
  rw [if_neg h3]
  have h1' : sf xs s [e, t] = 0 := by omega
  obtain ⟨a, b, c, d⟩ := sf_zero h1'
  exact ⟨s.toNat, by omega, by omega, a, b e (by simp), b t (by simp), by omega, by omega, rfl⟩

theorem after_take {xs : List Int} {e s : Int} (h : (take1 xs e s).1 = 0) :
    vf (take1 xs e s).2 = 0 ∧ free1 (take1 xs e s).2 e s = (0, xs) ∧ (take1 (take1 xs e s).2 e s).1 = 6 ∧ (count1 (take1 xs e s).2 e).2 = (count1 xs e).2 + 1 := by
  obtain ⟨k, rfl, hk, hv, he, hg, hc, hy⟩ := take1_done h
  rw [hy]
  have hcs := fun e' => cnt_set xs k e e' hk
  have hvy : vf (xs.set k e) = 0 := vf_set hv (bad_ok (.inr he)) fun e' h0 h4 => by
    have h1 := hcs e'
    have h2 := (vf_zero hv).2.2.2 e' h0 h4
    rw [hg, if_neg (by omega)] at h1
    by_cases hq : e = e'
    · subst hq; rw [if_pos rfl] at h1; omega
    · rw [if_neg hq] at h1; omega
  have hsf : sf (xs.set k e) (k : Int) [e] = 0 := sf_of hvy (by simpa using he) (by omega) (by simpa using hk)
  have hgk : gi (xs.set k e) k = e := by rw [gi_set, if_pos ⟨rfl, hk⟩]
  refine ⟨hvy, ?_, ?_, ?_⟩
  · unfold free1
    rw [if_neg (by omega), if_neg (by simp [hgk]), Int.toNat_natCast, ← hg, set_back]
  · unfold take1
    rw [if_neg (by omega), if_pos (by rw [Int.toNat_natCast, hgk]; omega)]
  · have h1 := hcs e
    rw [hg, if_neg (by omega), if_pos rfl] at h1
    unfold count1
    rw [if_neg (by rw [ef_of hvy (by simpa using he)]; simp), if_neg (by rw [ef_of hv (by simpa using he)]; simp)]
    show ((cnt (xs.set k e) e : Nat) : Int) = (cnt xs e : Int) + 1
    omega
theorem after_move {xs : List Int} {e s t : Int} (h : (move1 xs e s t).1 = 0) :
    vf (move1 xs e s t).2 = 0 ∧ move1 (move1 xs e s t).2 t s e = (0, xs) ∧ ∃ k : Nat, s = (k : Int) ∧ k < xs.length ∧ (move1 xs e s t).2.length = xs.length ∧ gi (move1 xs e s t).2 k = t := by
  obtain ⟨k, rfl, hk, hv, he, ht, hg, hc, hy⟩ := move1_done h
  rw [hy]
  have hcs := fun e' => cnt_set xs k t e' hk
  have hvy : vf (xs.set k t) = 0 := vf_set hv (bad_ok (.inr ht)) fun e' h0 h4 => by
    have h1 := hcs e'
    have h2 := (vf_zero hv).2.2.2 e' h0 h4
    rw [hg] at h1
    by_cases hq : t = e'
    · subst hq
      rw [if_pos rfl] at h1
      by_cases hq2 : e = t
      · rw [if_pos hq2] at h1; omega
      · rw [if_neg hq2] at h1; omega
    · rw [if_neg hq] at h1; split at h1 <;> omega
  have hgk : gi (xs.set k t) k = t := by rw [gi_set, if_pos ⟨rfl, hk⟩]
  have hsf : sf (xs.set k t) (k : Int) [t, e] = 0 := sf_of hvy (by simp; omega) (by omega) (by simpa using hk)
  refine ⟨hvy, ?_, k, rfl, hk, by simp, hgk⟩
  unfold move1
  rw [if_neg (by omega), if_neg (by simp [hgk]), if_neg, Int.toNat_natCast]
  · have := set_back xs k t
    rw [hg] at this
    rw [this]
  · intro ⟨h1, h2⟩
    have h3 := hcs e
    have h4 := (vf_zero hv).2.2.2 e he.1 he.2
    rw [hg, if_pos rfl, if_neg (fun q => h1 q.symm)] at h3
    omega
theorem after_free {xs : List Int} {e s : Int} (h : (free1 xs e s).1 = 0) : take1 (free1 xs e s).2 e s = (0, xs) := by
  obtain ⟨k, rfl, hk, hv, he, hg, hy⟩ := free1_done h
  rw [hy]
  have hcs := fun e' => cnt_set xs k (-1) e' hk
  have hvy : vf (xs.set k (-1)) = 0 := vf_set hv (bad_ok (.inl rfl)) fun e' h0 h4 => by
    have h1 := hcs e'
    have h2 := (vf_zero hv).2.2.2 e' h0 h4
    rw [if_neg (show ¬ (-1 : Int) = e' by omega)] at h1
    split at h1 <;> omega
  have hgk : gi (xs.set k (-1)) k = -1 := by rw [gi_set, if_pos ⟨rfl, hk⟩]
  have hsf : sf (xs.set k (-1)) (k : Int) [e] = 0 := sf_of hvy (by simpa using he) (by omega) (by simpa using hk)
  have h3 := hcs e
  have h4 := (vf_zero hv).2.2.2 e he.1 he.2
  rw [hg, if_pos rfl, if_neg (by omega)] at h3
  unfold take1
  rw [if_neg (by omega), if_neg (by rw [Int.toNat_natCast, hgk]; simp), if_neg (by omega), Int.toNat_natCast]
  have := set_back xs k (-1)
  rw [hg] at this
  rw [this]
theorem after_new {n : Int} (h : (new1 n).1 = 0) : ((new1 n).2.length : Int) = n := by
  unfold new1 at h ⊢
  by_cases h1 : n < 1 ∨ 12 < n
  · rw [if_pos h1] at h; exact absurd h (by decide)
  · rw [if_neg h1]; simp; omega
theorem cnt_drop (xs : List Int) (e e' : Int) (he : e ≠ -1) (he' : e' ≠ -1) : cnt (xs.map fun x => if x = e then -1 else x) e' = if e' = e then 0 else cnt xs e' := by
  induction xs with
  | nil => simp [cnt]
  | cons x r ih =>
    simp only [List.map_cons, cnt, ih]
    by_cases h : x = e
    · subst h
      simp only [if_true]
      rw [if_neg (by omega)]
      by_cases h2 : e' = x
      · simp [h2]
      · have : ¬ x = e' := fun q => h2 q.symm
        simp [h2, this]
    · simp only [if_neg h]
      by_cases h2 : e' = e
      · subst h2; simp [h]
      · simp [h2]
theorem after_drop {xs : List Int} {e : Int} (h : (drop1 xs e).1 = 0) : (drop1 xs e).2.length = xs.length ∧ count1 (drop1 xs e).2 e = (0, 0) := by
  unfold drop1 at h ⊢
  by_cases h1 : ef xs [e] ≠ 0
  · rw [if_pos h1] at h; exact absurd h h1
  rw [if_neg h1]
  have h1' : ef xs [e] = 0 := by omega
  obtain ⟨hv, he⟩ := ef_zero h1'
  have he := he e (by simp)
  have hm : ∀ k, k < xs.length → gi (xs.map fun x => if x = e then -1 else x) k = if gi xs k = e then -1 else gi xs k := fun k hk => by
    rw [gi_lt _ k (by simpa using hk), gi_lt xs k hk]; simp
  have hvy : vf (xs.map fun x => if x = e then -1 else x) = 0 := by
    obtain ⟨a, b, c, d⟩ := vf_zero hv
    refine vf_ok (by simpa using a) (by simpa using b) (fun k hk => ?_) fun e' h0 h4 => ?_
    · have hk' : k < xs.length := by simpa using hk
      rw [hm k hk']
      split
      · exact bad_ok (.inl rfl)
      · exact c k hk'
    · rw [cnt_drop xs e e' (by omega) (by omega)]
      split
      · omega
      · exact d e' h0 h4
  refine ⟨by simp, ?_⟩
  unfold count1
  rw [if_neg (by rw [ef_of hvy (by simpa using he)]; simp)]
  show ((0 : Int), ((cnt (xs.map fun x => if x = e then -1 else x) e : Nat) : Int)) = (0, 0)
  rw [cnt_drop xs e e (by omega) (by omega)]
  simp

end Go.Proofs.Ytkhphkfbjbhgaaa

-- Call3
namespace Go.Proofs.Ytkhphkfbjbhgaaa
open Go.RowKit

theorem gb_set (xs : List Bool) (k j : Nat) (v : Bool) : gb (xs.set k v) j = if j = k ∧ k < xs.length then v else gb xs j := by
  unfold gb
  simp only [List.getD_eq_getElem?_getD, List.getElem?_set]
  by_cases e : k = j
  · subst e
    by_cases h : k < xs.length
    · simp [h]
    · simp [h]
  · rw [if_neg e, if_neg (by omega)]
/-- the account of e is zero -/
def zac (ac : List Int) (e : Nat) : List Int := (((ac.set (e * 4) 0).set (e * 4 + 1) 0).set (e * 4 + 2) 0).set (e * 4 + 3) 0
theorem zac_len (ac : List Int) (e : Nat) : (zac ac e).length = ac.length := by simp [zac]
theorem gi_zac {ac : List Int} {e : Nat} (h : e * 4 + 3 < ac.length) (j : Nat) : gi (zac ac e) j = if e * 4 ≤ j ∧ j < e * 4 + 4 then 0 else gi ac j := by
  unfold zac
  simp only [gi_set, List.length_set]
  by_cases h0 : e * 4 ≤ j ∧ j < e * 4 + 4
  · rw [if_pos h0]
    have : j = e * 4 ∨ j = e * 4 + 1 ∨ j = e * 4 + 2 ∨ j = e * 4 + 3 := by omega
    rcases this with rfl | rfl | rfl | rfl
    · rw [if_neg (by omega), if_neg (by omega), if_neg (by omega), if_pos (by omega)]
    · rw [if_neg (by omega), if_neg (by omega), if_pos (by omega)]
    · rw [if_neg (by omega), if_pos (by omega)]
    · rw [if_pos (by omega)]
  · rw [if_neg h0, if_neg (by omega), if_neg (by omega), if_neg (by omega), if_neg (by omega)]

/-- what was done has as many slots as were there -/
theorem take1_same {xs : List Int} {e s : Int} (h : (take1 xs e s).1 = 0) : 1 ≤ xs.length ∧ (take1 xs e s).2.length = xs.length := by
  unfold take1 at h ⊢
  split at h
  · rename_i h1; exact absurd h h1
  · rename_i h1
    rw [if_neg h1]
    split at h
    · omega
    · rename_i h2
      rw [if_neg h2]
      split at h
      · omega
      · rename_i h3
        rw [if_neg h3]
        have := (vf_zero (sf_zero (by omega : sf xs s [e] = 0)).1).1
        simp
        omega
theorem free1_same {xs : List Int} {e s : Int} (h : (free1 xs e s).1 = 0) : 1 ≤ xs.length ∧ (free1 xs e s).2.length = xs.length := by
  unfold free1 at h ⊢
  split at h
  · rename_i h1; exact absurd h h1
  · rename_i h1
    rw [if_neg h1]
    split at h
    · omega
    · rename_i h2
      rw [if_neg h2]
      have := (vf_zero (sf_zero (by omega : sf xs s [e] = 0)).1).1
      simp
      omega
theorem move1_same {xs : List Int} {e s t : Int} (h : (move1 xs e s t).1 = 0) : 1 ≤ xs.length ∧ (move1 xs e s t).2.length = xs.length := by
  unfold move1 at h ⊢
  split at h
  · rename_i h1; exact absurd h h1
  · rename_i h1
    rw [if_neg h1]
    split at h
    · omega
    · rename_i h2
      rw [if_neg h2]
      split at h
      · omega
      · rename_i h3
        rw [if_neg h3]
        have := (vf_zero (sf_zero (by omega : sf xs s [e, t] = 0)).1).1
        simp
        omega

def lists (K : Ker) (r : Int × List Int) : Int × Ker := if r.1 ≠ 0 then (r.1, K) else (0, { K with os := r.2 })
/-- what a right call does to a right kernel: a code, the kernel -/
def call3 (K : Ker) (k e s t : Int) : Int × Ker :=
  if k = 1 then (if gb K.al e.toNat = true then (6, K) else (0, { K with al := K.al.set e.toNat true }))
  else if gb K.al e.toNat = false then (4, K)
  else if k = 2 then (0, { K with os := (drop1 K.os e).2, al := K.al.set e.toNat false, ac := zac K.ac e.toNat, run := if K.run = e then -1 else K.run })
  else if k = 3 then lists K (take1 K.os e s)
  else if k = 4 then lists K (free1 K.os e s)
  else if gb K.al t.toNat = false then (4, K) else lists K (move1 K.os e s t)

end Go.Proofs.Ytkhphkfbjbhgaaa
