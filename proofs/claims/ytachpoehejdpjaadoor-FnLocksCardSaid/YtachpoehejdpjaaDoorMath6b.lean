/-
  Waking all, one behind the other: a step, and what stays. No program is named here.
-/
import Derived.Test.YtachpoehejdpjaaDoorMath6
namespace Go.Proofs.YtachpoehejdpjaaDoor
open Go.RowKit

theorem drop_gi (ys : List Int) (k : Nat) (h : k < ys.length) : ys.drop k = gi ys k :: ys.drop (k + 1) := by
  rw [gi_lt ys k h]
  exact List.drop_eq_getElem_cons h
theorem go6_err (ys : List Int) (k : Nat) (h : k < ys.length) (g : Bool) (n o : Int) (xs : List Int) (hq : (tk6 o xs (gi ys k)).1 ≠ 0) :
    go6 (ys.drop k) (0, g, n, o, xs, []) = z6 (tk6 o xs (gi ys k)).1 := by
  rw [drop_gi ys k h]
  exact if_pos hq
theorem go6_got (ys : List Int) (k : Nat) (h : k < ys.length) (g : Bool) (n o : Int) (xs : List Int) (hq : (tk6 o xs (gi ys k)).1 = 0) (hg : (tk6 o xs (gi ys k)).2.1 = true) :
    go6 (ys.drop k) (0, g, n, o, xs, []) = go6 (ys.drop (k + 1)) (0, true, gi ys k, (tk6 o xs (gi ys k)).2.2.2.1, (tk6 o xs (gi ys k)).2.2.2.2.1, []) := by
  rw [drop_gi ys k h]
  show (if (tk6 o xs (gi ys k)).1 ≠ 0 then _ else go6 _ (0, g || (tk6 o xs (gi ys k)).2.1, (if (tk6 o xs (gi ys k)).2.1 = true then gi ys k else n), _, _, [])) = _
  rw [if_neg (by simp [hq]), hg, if_pos rfl]
  simp
theorem go6_not (ys : List Int) (k : Nat) (h : k < ys.length) (g : Bool) (n o : Int) (xs : List Int) (hq : (tk6 o xs (gi ys k)).1 = 0) (hg : (tk6 o xs (gi ys k)).2.1 = false) :
    go6 (ys.drop k) (0, g, n, o, xs, []) = go6 (ys.drop (k + 1)) (0, g, n, (tk6 o xs (gi ys k)).2.2.2.1, (tk6 o xs (gi ys k)).2.2.2.2.1, []) := by
  rw [drop_gi ys k h]
  show (if (tk6 o xs (gi ys k)).1 ≠ 0 then _ else go6 _ (0, g || (tk6 o xs (gi ys k)).2.1, (if (tk6 o xs (gi ys k)).2.1 = true then gi ys k else n), _, _, [])) = _
  rw [if_neg (by simp [hq]), hg, if_neg (by simp)]
  simp
theorem go6_end (ys : List Int) (k : Nat) (h : ys.length ≤ k) (a : A6) : go6 (ys.drop k) a = a := by
  rw [List.drop_eq_nil_of_le h]
  rfl
theorem lf6_few {o : Int} {xs : List Int} (h : lf6 o xs = 0) : xs.length ≤ 5 := (qf6_zero (lf6_zero h).2.1).1
theorem wf6_zero {ys : List Int} {o : Int} {xs : List Int} (h : wf6 ys o xs = 0) : ys.length ≤ 5 ∧ lf6 o xs = 0 := by
  unfold wf6 at h
  by_cases h1 : qf6 ys ≠ 0
  · rw [if_pos h1] at h; exact absurd h h1
  · rw [if_neg h1] at h
    exact ⟨(qf6_zero (by simpa using h1)).1, h⟩
/-- the answer's lists: the lock's has at most five, the other none; no other code than a taking's -/
theorem go6_few : ∀ (ys : List Int) (g : Bool) (n o : Int) (xs : List Int), lf6 o xs = 0 → (go6 ys (0, g, n, o, xs, [])).2.2.2.2.1.length ≤ 5 ∧ (go6 ys (0, g, n, o, xs, [])).2.2.2.2.2 = []
  | [], _, _, _, xs, h => ⟨lf6_few h, rfl⟩
  | y :: ys, g, n, o, xs, h => by
    show (if (tk6 o xs y).1 ≠ 0 then _ else go6 ys (0, g || (tk6 o xs y).2.1, (if (tk6 o xs y).2.1 = true then y else n), (tk6 o xs y).2.2.2.1, (tk6 o xs y).2.2.2.2.1, []) : A6).2.2.2.2.1.length ≤ 5 ∧ (if (tk6 o xs y).1 ≠ 0 then z6 (tk6 o xs y).1 else go6 ys (0, g || (tk6 o xs y).2.1, (if (tk6 o xs y).2.1 = true then y else n), (tk6 o xs y).2.2.2.1, (tk6 o xs y).2.2.2.2.1, []) : A6).2.2.2.2.2 = []
    by_cases hq : (tk6 o xs y).1 ≠ 0
    · rw [if_pos hq]; exact ⟨Nat.zero_le _, rfl⟩
    · rw [if_neg hq]
      exact go6_few ys _ _ _ _ (tk6_ok h (by simpa using hq))

end Go.Proofs.YtachpoehejdpjaaDoor
