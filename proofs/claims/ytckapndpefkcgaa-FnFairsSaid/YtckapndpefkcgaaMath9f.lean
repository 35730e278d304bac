/-
  Whether picks were fair: how often each one is among the ids. No program is named here.
-/
import Derived.Test.YtckapndpefkcgaaMath5d
import Derived.Test.YtckapndpefkcgaaAnsP5
set_option maxHeartbeats 1000000
namespace Go.Proofs.Ytckapndpefkcgaa
open Go.RowKit
set_option maxRecDepth 100000

def tmi (ids : List Int) (id : Int) : Nat → Nat
  | 0 => 0
  | i + 1 => tmi ids id i + (if gi ids i = id then 1 else 0)
theorem tmi_le (ids : List Int) (id : Int) : ∀ n, tmi ids id n ≤ n
  | 0 => Nat.le_refl _
  | i + 1 => by
    have := tmi_le ids id i
    unfold tmi
    split <;> omega
def tka (hs : List Int) : Nat → Int
  | 0 => 0
  | i + 1 => tka hs i + gi hs (i * 3 + 1)
theorem tka_le {hs : List Int} : ∀ n, (∀ i, i < n → 1 ≤ gi hs (i * 3 + 1) ∧ gi hs (i * 3 + 1) ≤ 10) → 0 ≤ tka hs n ∧ tka hs n ≤ 10 * n
  | 0, _ => ⟨Int.le_refl _, Int.le_refl _⟩
  | i + 1, h => by
    obtain ⟨h1, h2⟩ := tka_le i fun j hj => h j (by omega)
    have h3 := h i (by omega)
    unfold tka
    omega
def far9 (tm : Nat) (all t tk : Int) (n : Nat) : Bool := decide ((tm : Int) * all - t * tk > all + max ((n : Int) - 2) 0 * tk ∨ (tm : Int) * all - t * tk < -(all + max ((n : Int) - 2) 0 * tk))
def farAt (ids hs : List Int) (t all : Int) (n i : Nat) : Bool := far9 (tmi ids (gi hs (i * 3)) ids.length) all t (gi hs (i * 3 + 1)) n
def anyf (f : Nat → Bool) : Nat → Bool
  | 0 => false
  | i + 1 => anyf f i || f i
theorem anyf_true {f : Nat → Bool} {n i : Nat} (h : f i = true) (hi : i < n) : anyf f n = true := by
  induction n with
  | zero => omega
  | succ n ih =>
    unfold anyf
    by_cases e : i < n
    · rw [ih e]; rfl
    · obtain rfl : i = n := by omega
      rw [h, Bool.or_true]
noncomputable def fair9 (b : Int) (xs : List R3) (t : Int) : Bool :=
  if (picks5 b xs t).1 ≠ 0 then false else !(anyf (farAt (picks5 b xs t).2.1 (fl xs) t (tka (fl xs) xs.length) xs.length) xs.length)
theorem picks5_ok {b : Int} {xs : List R3} {t : Int} (h : (picks5 b xs t).1 = 0) : sf5 b xs = 0 ∧ 0 ≤ t ∧ t ≤ 200 := by
  unfold picks5 at h
  by_cases h1 : sf5 b xs = 0
  · rw [if_neg (by simp [h1])] at h
    by_cases h2 : t < 0 ∨ 200 < t
    · rw [if_pos h2] at h
      exact absurd h (by decide)
    · exact ⟨h1, by omega, by omega⟩
  · rw [if_pos h1] at h
    exact absurd h h1
theorem mul_box {a b A B : Int} (h1 : 0 ≤ a ∧ a ≤ A) (h2 : 0 ≤ b ∧ b ≤ B) : 0 ≤ a * b ∧ a * b ≤ A * B :=
  ⟨Int.mul_nonneg h1.1 h2.1, Int.mul_le_mul h1.2 h2.2 h2.1 (Int.le_trans h1.1 h1.2)⟩

end Go.Proofs.Ytckapndpefkcgaa
