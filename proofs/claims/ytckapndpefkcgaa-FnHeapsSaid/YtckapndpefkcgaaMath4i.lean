/-
  What a heap holds stays in it: put in, taken out; and sorted, it rises. No program's function is named here.
-/
import Derived.Test.YtckapndpefkcgaaMath4h
set_option maxHeartbeats 1000000
namespace Go.Proofs.Ytckapndpefkcgaa
open Go.RowKit
set_option maxRecDepth 100000

def DI (hs : List Int) (n : Nat) : Prop := ∀ i j, i < n → j < n → i ≠ j → (en hs i).2 ≠ (en hs j).2
def PM (hs hs' : List Int) (n : Nat) : Prop := (∀ P : Int × Int → Prop, (∀ i, i < n → P (en hs i)) ↔ (∀ i, i < n → P (en hs' i))) ∧ (DI hs n → DI hs' n)
theorem PM.refl (hs : List Int) (n : Nat) : PM hs hs n := ⟨fun _ => Iff.rfl, id⟩
theorem PM.trans {a b c : List Int} {n : Nat} (h : PM a b n) (k : PM b c n) : PM a c n := ⟨fun P => (h.1 P).trans (k.1 P), fun hh => k.2 (h.2 hh)⟩
theorem swp_pm {hs : List Int} {n i j : Nat} (hl : hs.length = n * 2) (hi : i < n) (hj : j < n) : PM hs (swp hs i j) n := by
  have S := swp_en hl hi hj
  refine ⟨fun P => ⟨fun h k hk => ?_, fun h k hk => ?_⟩, fun h a b ha hb hab => ?_⟩
  · rw [S k]
    split
    · exact h i hi
    · split
      · exact h j hj
      · exact h k hk
  · by_cases e1 : k = i
    · have := h j hj
      rw [S j, if_pos rfl] at this
      rw [e1]; exact this
    · by_cases e2 : k = j
      · have := h i hi
        rw [S i] at this
        by_cases e3 : i = j
        · exact absurd (e2.trans e3.symm) e1
        · rw [if_neg e3, if_pos rfl] at this
          rw [e2]; exact this
      · have := h k hk
        rw [S k, if_neg e2, if_neg e1] at this
        exact this
  · rw [S a, S b]
    by_cases a1 : a = j
    · rw [if_pos a1, if_neg (show ¬ b = j by omega)]
      by_cases b1 : b = i
      · rw [if_pos b1]; exact h i j hi hj (by omega)
      · rw [if_neg b1]; exact h i b hi hb (by omega)
    · rw [if_neg a1]
      by_cases a2 : a = i
      · rw [if_pos a2]
        by_cases b1 : b = j
        · rw [if_pos b1]; exact h j i hj hi (by omega)
        · rw [if_neg b1, if_neg (show ¬ b = i by omega)]; exact h j b hj hb (by omega)
      · rw [if_neg a2]
        by_cases b1 : b = j
        · rw [if_pos b1]; exact h a i ha hi (by omega)
        · rw [if_neg b1]
          by_cases b2 : b = i
          · rw [if_pos b2]; exact h a j ha hj (by omega)
          · rw [if_neg b2]; exact h a b ha hb hab
theorem up4_pm {n : Nat} : ∀ (a : Nat) (hs : List Int), hs.length = n * 2 → a < n → PM hs (up4 hs a) n := by
  intro a
  induction a using Nat.strongRecOn with
  | ind a ih =>
    intro hs hl ha
    by_cases h : 0 < a ∧ less4 hs a ((a - 1) / 2) = true
    · rw [up4_go h.1 h.2]
      exact (swp_pm hl ha (by omega)).trans (ih _ (by omega) _ (by rw [swp_len, hl]) (by omega))
    · rw [up4_end h]
      exact PM.refl _ _
theorem down4_pm {n : Nat} : ∀ (m a : Nat) (hs : List Int), n - a = m → hs.length = n * 2 → PM hs (down4 hs n a) n := by
  intro m
  induction m using Nat.strongRecOn with
  | ind m ih =>
    intro a hs hm hl
    rcases lf4_cases hs n a with e | ⟨k1, k2⟩
    · rw [down4_end e]
      exact PM.refl _ _
    · rw [down4_go (by omega)]
      generalize lf4 hs n a = k at *
      exact (swp_pm hl (by omega) k2).trans (ih (n - k) (by omega) k _ rfl (by rw [swp_len, hl]))
theorem hf_iff {hs : List Int} {n : Nat} : hf hs n = 0 ↔ n ≤ 12 ∧ (∀ i, i < n → okE (en hs i).1 (en hs i).2 = true) ∧ DI hs n ∧ HP hs n := by
  unfold hf
  constructor
  · intro h
    split at h
    · omega
    split at h
    · omega
    split at h
    · omega
    split at h
    · omega
    rename_i h1 h2 h3 h4
    refine ⟨by omega, fun i hi => ?_, fun i j hi hj hij => ?_, fun i i1 i2 => ?_⟩
    · have := anyTo_false.1 (by simpa using h2) i hi
      unfold badE at this
      simpa [en] using this
    · have key : ∀ a b, a < b → b < n → (en hs a).2 ≠ (en hs b).2 := fun a b hab hb => by
        have h5 := anyTo_false.1 (by simpa using h3) b hb
        unfold dupE hasE at h5
        have h6 := anyTo_false.1 h5 a hab
        exact of_decide_eq_false h6
      rcases Nat.lt_or_ge i j with h7 | h7
      · exact key i j h7 hj
      · exact (key j i (by omega) hi).symm
    · have h5 := anyTo_false.1 (by simpa using h4) (i - 1) (by omega)
      unfold upE at h5
      rw [show i - 1 + 1 = i by omega] at h5
      exact less_no.1 h5
  · rintro ⟨h1, h2, h3, h4⟩
    have a1 : anyTo n (badE hs) = false := anyTo_false.2 fun i hi => by
      unfold badE
      have := h2 i hi
      simpa [en] using this
    have a2 : anyTo n (dupE hs) = false := anyTo_false.2 fun i hi => by
      unfold dupE hasE
      exact anyTo_false.2 fun j hj => decide_eq_false (h3 j i (by omega) hi (by omega))
    have a3 : anyTo (n - 1) (upE hs) = false := anyTo_false.2 fun i hi => by
      unfold upE
      have := h4 (i + 1) (by omega) (by omega)
      rw [show i + 1 - 1 = i by omega] at this
      exact less_no.2 this
    rw [if_neg (by omega), a1, a2, a3]
    rfl

end Go.Proofs.Ytckapndpefkcgaa
