/-
  A heap stays a heap: put in, taken out. No program's function is named here.
-/
import Derived.Test.YtckapndpefkcgaaMath4
set_option maxHeartbeats 1000000
namespace Go.Proofs.Ytckapndpefkcgaa
open Go.RowKit
set_option maxRecDepth 100000

def en (hs : List Int) (i : Nat) : Int × Int := (gi hs (i * 2), gi hs (i * 2 + 1))
def Ls (a b : Int × Int) : Prop := a.1 < b.1 ∨ (a.1 = b.1 ∧ a.2 < b.2)
theorem less_iff {hs : List Int} {i j : Nat} : less4 hs i j = true ↔ Ls (en hs i) (en hs j) := by
  unfold less4 lt4 Ls en
  simp
theorem less_no {hs : List Int} {i j : Nat} : less4 hs i j = false ↔ ¬ Ls (en hs i) (en hs j) := by
  rw [← less_iff]
  cases less4 hs i j <;> simp
def HP (hs : List Int) (n : Nat) : Prop := ∀ i, 1 ≤ i → i < n → ¬ Ls (en hs i) (en hs ((i - 1) / 2))
theorem se_en {hs : List Int} {n i : Nat} (hl : hs.length = n * 2) (hi : i < n) (p d : Int) (k : Nat) : en (se hs i p d) k = if k = i then (p, d) else en hs k := by
  unfold en se
  rw [gi_set4 _ _ _ _ (by rw [List.length_set]; omega), gi_set4 _ _ _ _ (by omega), gi_set4 _ _ _ _ (by rw [List.length_set]; omega), gi_set4 _ _ _ _ (by omega)]
  by_cases e : k = i
  · subst e
    rw [if_neg (by omega), if_pos rfl, if_pos rfl, if_pos rfl]
  · rw [if_neg (by omega), if_neg (by omega), if_neg (by omega), if_neg (by omega), if_neg e]
theorem swp_en {hs : List Int} {n i j : Nat} (hl : hs.length = n * 2) (hi : i < n) (hj : j < n) (k : Nat) : en (swp hs i j) k = if k = j then en hs i else if k = i then en hs j else en hs k := by
  unfold swp
  rw [se_en (n := n) (by rw [se_len]; exact hl) hj, se_en hl hi]
  rfl
theorem Ls.asymm {a b : Int × Int} (h : Ls a b) : ¬ Ls b a := by unfold Ls at *; omega
theorem Ls.co {a b c : Int × Int} (h : Ls a b) (h' : ¬ Ls c b) : Ls a c := by unfold Ls at *; omega
theorem Ls.ge {a b c : Int × Int} (h : ¬ Ls a b) (h' : ¬ Ls b c) : ¬ Ls a c := by unfold Ls at *; omega
theorem Ls.le {a b c : Int × Int} (h : Ls a b) (h' : ¬ Ls c b) : ¬ Ls c a := by unfold Ls at *; omega
theorem up4_heap {n : Nat} : ∀ (a : Nat) (hs : List Int), hs.length = n * 2 → a < n → (∀ i, 1 ≤ i → i < n → i ≠ a → ¬ Ls (en hs i) (en hs ((i - 1) / 2))) → (0 < a → ∀ i, 1 ≤ i → i < n → (i - 1) / 2 = a → ¬ Ls (en hs i) (en hs ((a - 1) / 2))) → HP (up4 hs a) n := by
  intro a
  induction a using Nat.strongRecOn with
  | ind a ih =>
    intro hs hl ha c1 c2
    by_cases h : 0 < a ∧ less4 hs a ((a - 1) / 2) = true
    · rw [up4_go h.1 h.2]
      have hL := less_iff.1 h.2
      have c2 := c2 h.1
      obtain ⟨p, hp⟩ : ∃ p, p = (a - 1) / 2 := ⟨_, rfl⟩
      rw [← hp] at hL c2 ⊢
      have S := swp_en hl ha (show p < n by omega)
      refine ih p (by omega) _ (by rw [swp_len, hl]) (by omega) ?_ ?_
      · intro i h1 h2 hne
        rw [S i, S ((i - 1) / 2), if_neg hne]
        by_cases e1 : i = a
        · subst e1
          rw [if_pos rfl, if_pos hp.symm]
          exact hL.asymm
        rw [if_neg e1]
        by_cases e2 : (i - 1) / 2 = p
        · rw [if_pos e2]
          have := c1 i h1 h2 e1
          rw [e2] at this
          exact hL.le this
        rw [if_neg e2]
        by_cases e3 : (i - 1) / 2 = a
        · rw [if_pos e3]
          exact c2 i h1 h2 e3
        · rw [if_neg e3]
          exact c1 i h1 h2 e1
      · intro hp0 i h1 h2 e2
        have cp := c1 p hp0 (by omega) (by omega)
        rw [S i, S ((p - 1) / 2), if_neg (show ¬ (p - 1) / 2 = p by omega), if_neg (show ¬ (p - 1) / 2 = a by omega), if_neg (show ¬ i = p by omega)]
        by_cases e1 : i = a
        · rw [if_pos e1]
          exact cp
        · rw [if_neg e1]
          have := c1 i h1 h2 e1
          rw [e2] at this
          exact Ls.ge this cp
    · rw [up4_end h]
      intro i h1 h2
      by_cases e : i = a
      · subst e
        exact less_no.1 (by
          cases hh : less4 hs i ((i - 1) / 2)
          · rfl
          · exact absurd ⟨by omega, hh⟩ h)
      · exact c1 i h1 h2 e
theorem lf4_least {hs : List Int} {n a : Nat} : (lf4 hs n a = a ∧ (∀ i, 1 ≤ i → i < n → (i - 1) / 2 = a → ¬ Ls (en hs i) (en hs a))) ∨ ((1 ≤ lf4 hs n a ∧ lf4 hs n a < n ∧ (lf4 hs n a - 1) / 2 = a) ∧ Ls (en hs (lf4 hs n a)) (en hs a) ∧ ∀ i, 1 ≤ i → i < n → (i - 1) / 2 = a → ¬ Ls (en hs i) (en hs (lf4 hs n a))) := by
  have cs : ∀ i, 1 ≤ i → (i - 1) / 2 = a → i = 2 * a + 1 ∨ i = 2 * a + 2 := fun i h1 h2 => by omega
  unfold lf4
  by_cases h1 : 2 * a + 1 < n ∧ less4 hs (2 * a + 1) a = true
  · rw [lfa, if_pos h1]
    have l1 := less_iff.1 h1.2
    by_cases h2 : 2 * a + 2 < n ∧ less4 hs (2 * a + 2) (2 * a + 1) = true
    · rw [if_pos h2]
      have l2 := less_iff.1 h2.2
      refine .inr ⟨⟨by omega, h2.1, by omega⟩, ?_, fun i i1 i2 i3 => ?_⟩
      · unfold Ls at *; omega
      · rcases cs i i1 i3 with rfl | rfl
        · exact l2.asymm
        · unfold Ls; omega
    · rw [if_neg h2]
      refine .inr ⟨⟨by omega, h1.1, by omega⟩, l1, fun i i1 i2 i3 => ?_⟩
      rcases cs i i1 i3 with rfl | rfl
      · unfold Ls; omega
      · exact less_no.1 (by
          cases hh : less4 hs (2 * a + 2) (2 * a + 1)
          · rfl
          · exact absurd ⟨i2, hh⟩ h2)
  · rw [lfa, if_neg h1]
    have n1 : 2 * a + 1 < n → ¬ Ls (en hs (2 * a + 1)) (en hs a) := fun hn => less_no.1 (by
      cases hh : less4 hs (2 * a + 1) a
      · rfl
      · exact absurd ⟨hn, hh⟩ h1)
    by_cases h2 : 2 * a + 2 < n ∧ less4 hs (2 * a + 2) a = true
    · rw [if_pos h2]
      have l2 := less_iff.1 h2.2
      refine .inr ⟨⟨by omega, h2.1, by omega⟩, l2, fun i i1 i2 i3 => ?_⟩
      rcases cs i i1 i3 with rfl | rfl
      · exact l2.le (n1 i2)
      · unfold Ls; omega
    · rw [if_neg h2]
      refine .inl ⟨rfl, fun i i1 i2 i3 => ?_⟩
      rcases cs i i1 i3 with rfl | rfl
      · exact n1 i2
      · exact less_no.1 (by
          cases hh : less4 hs (2 * a + 2) a
          · rfl
          · exact absurd ⟨i2, hh⟩ h2)
theorem down4_heap {n : Nat} : ∀ (m a : Nat) (hs : List Int), n - a = m → hs.length = n * 2 → (a < n ∨ n = 0) → (∀ i, 1 ≤ i → i < n → (i - 1) / 2 ≠ a → ¬ Ls (en hs i) (en hs ((i - 1) / 2))) → (0 < a → ∀ i, 1 ≤ i → i < n → (i - 1) / 2 = a → ¬ Ls (en hs i) (en hs ((a - 1) / 2))) → HP (down4 hs n a) n := by
  intro m
  induction m using Nat.strongRecOn with
  | ind m ih =>
    intro a hs hm hl ha c1 c2
    rcases lf4_least (hs := hs) (n := n) (a := a) with ⟨e, hc⟩ | ⟨⟨k1, k2, k3⟩, hL, hc⟩
    · rw [down4_end e]
      intro i h1 h2
      by_cases e1 : (i - 1) / 2 = a
      · rw [e1]; exact hc i h1 h2 e1
      · exact c1 i h1 h2 e1
    · have hne : lf4 hs n a ≠ a := by omega
      rw [down4_go hne]
      generalize lf4 hs n a = k at *
      have han : a < n := by omega
      have S := swp_en hl han k2
      refine ih (n - k) (by omega) k _ rfl (by rw [swp_len, hl]) (.inl k2) ?_ ?_
      · intro i h1 h2 e2
        rw [S i, S ((i - 1) / 2), if_neg e2]
        by_cases e1 : i = k
        · rw [if_pos e1, if_pos (by rw [e1]; exact k3)]
          exact hL.asymm
        rw [if_neg e1]
        by_cases e3 : (i - 1) / 2 = a
        · rw [if_pos e3, if_neg (show ¬ i = a by omega)]
          exact hc i h1 h2 e3
        rw [if_neg e3]
        by_cases e4 : i = a
        · rw [if_pos e4]
          have := c2 (by omega) k k1 k2 k3
          rw [e4]
          exact this
        · rw [if_neg e4]
          exact c1 i h1 h2 e3
      · intro _ i h1 h2 e2
        rw [S i, S ((k - 1) / 2), k3, if_neg (show ¬ a = k by omega), if_pos rfl, if_neg (show ¬ i = k by omega), if_neg (show ¬ i = a by omega)]
        have := c1 i h1 h2 (by omega)
        rw [e2] at this
        exact this
theorem HP.first {hs : List Int} {n : Nat} (h : HP hs n) : ∀ i, i < n → ¬ Ls (en hs i) (en hs 0) := by
  intro i
  induction i using Nat.strongRecOn with
  | ind i ih =>
    intro hi
    by_cases h0 : i = 0
    · subst h0
      unfold Ls; omega
    · exact Ls.ge (h i (by omega) hi) (ih ((i - 1) / 2) (by omega) (by omega))

end Go.Proofs.Ytckapndpefkcgaa
