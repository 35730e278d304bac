/-
  Heaps as lists of numbers, two for each entry: what is less, what has a fault, how one goes up and how one goes down. No program is named here.
-/
import Derived.Test.YtckapndpefkcgaaBase3
set_option maxHeartbeats 1000000
namespace Go.Proofs.Ytckapndpefkcgaa
open Go.RowKit

def lt4 (p d p' d' : Int) : Bool := decide (p < p') || (decide (p = p') && decide (d < d'))
def less4 (hs : List Int) (i j : Nat) : Bool := lt4 (gi hs (i * 2)) (gi hs (i * 2 + 1)) (gi hs (j * 2)) (gi hs (j * 2 + 1))
def okE (p d : Int) : Bool := (decide (0 ≤ p) && decide (p ≤ 100000000)) && (decide (0 ≤ d) && decide (d ≤ 99))
def anyTo (n : Nat) (p : Nat → Bool) : Bool := (List.range n).any p
theorem anyTo_false {n : Nat} {p : Nat → Bool} : anyTo n p = false ↔ ∀ i, i < n → p i = false := by
  unfold anyTo; simp [List.any_eq_false]
theorem anyTo_true {n i : Nat} {p : Nat → Bool} (hi : i < n) (h : p i = true) : anyTo n p = true := by
  unfold anyTo; simp only [List.any_eq_true]; exact ⟨i, List.mem_range.2 hi, h⟩
theorem anyTo_succ (n : Nat) (p : Nat → Bool) : anyTo (n + 1) p = (anyTo n p || p n) := by
  unfold anyTo; simp [List.range_succ]
theorem anyTo_ex {n : Nat} {p : Nat → Bool} (h : anyTo n p = true) : ∃ i, i < n ∧ p i = true := by
  unfold anyTo at h; simp only [List.any_eq_true] at h
  obtain ⟨i, hi, hp⟩ := h
  exact ⟨i, List.mem_range.1 hi, hp⟩
def badE (hs : List Int) (i : Nat) : Bool := !okE (gi hs (i * 2)) (gi hs (i * 2 + 1))
def hasE (hs : List Int) (n : Nat) (id : Int) : Bool := anyTo n (fun j => decide (gi hs (j * 2 + 1) = id))
def dupE (hs : List Int) (i : Nat) : Bool := hasE hs i (gi hs (i * 2 + 1))
def upE (hs : List Int) (i : Nat) : Bool := less4 hs (i + 1) (i / 2)
def hf (hs : List Int) (n : Nat) : Int := if 12 < n then 2 else if anyTo n (badE hs) then 3 else if anyTo n (dupE hs) then 6 else if anyTo (n - 1) (upE hs) then 1 else 0

def se (hs : List Int) (i : Nat) (p d : Int) : List Int := (hs.set (i * 2) p).set (i * 2 + 1) d
def swp (hs : List Int) (i j : Nat) : List Int := se (se hs i (gi hs (j * 2)) (gi hs (j * 2 + 1))) j (gi hs (i * 2)) (gi hs (i * 2 + 1))
theorem se_len (hs : List Int) (i : Nat) (p d : Int) : (se hs i p d).length = hs.length := by simp [se]
theorem swp_len (hs : List Int) (i j : Nat) : (swp hs i j).length = hs.length := by simp [swp, se_len]
theorem gi_set4 (hs : List Int) (i k : Nat) (v : Int) (hk : i < hs.length) : gi (hs.set i v) k = if k = i then v else gi hs k := by
  unfold gi
  by_cases h : k = i
  · subst h; simp [hk]
  · rw [if_neg h]; simp [List.getElem?_set, Ne.symm h]
def up4 (hs : List Int) (at_ : Nat) : List Int :=
  if h : 0 < at_ ∧ less4 hs at_ ((at_ - 1) / 2) = true then up4 (swp hs at_ ((at_ - 1) / 2)) ((at_ - 1) / 2) else hs
termination_by at_
decreasing_by omega
def lfa (hs : List Int) (n at_ : Nat) : Nat := if 2 * at_ + 1 < n ∧ less4 hs (2 * at_ + 1) at_ = true then 2 * at_ + 1 else at_
def lf4 (hs : List Int) (n at_ : Nat) : Nat := if 2 * at_ + 2 < n ∧ less4 hs (2 * at_ + 2) (lfa hs n at_) = true then 2 * at_ + 2 else lfa hs n at_
theorem lf4_cases (hs : List Int) (n at_ : Nat) : lf4 hs n at_ = at_ ∨ (at_ < lf4 hs n at_ ∧ lf4 hs n at_ < n) := by
  unfold lf4 lfa
  repeat' split
  all_goals omega
def down4 (hs : List Int) (n at_ : Nat) : List Int :=
  if h : lf4 hs n at_ ≠ at_ then down4 (swp hs at_ (lf4 hs n at_)) n (lf4 hs n at_) else hs
termination_by n - at_
decreasing_by have := lf4_cases hs n at_; omega
theorem up4_len (hs : List Int) (at_ : Nat) : (up4 hs at_).length = hs.length := by
  fun_induction up4 hs at_ with
  | case1 hs at_ h ih => rw [ih, swp_len]
  | case2 => rfl
theorem down4_len (hs : List Int) (n at_ : Nat) : (down4 hs n at_).length = hs.length := by
  fun_induction down4 hs n at_ with
  | case1 hs at_ h ih => rw [ih, swp_len]
  | case2 => rfl
theorem up4_go {hs : List Int} {i : Nat} (h : 0 < i) (hl : less4 hs i ((i - 1) / 2) = true) : up4 hs i = up4 (swp hs i ((i - 1) / 2)) ((i - 1) / 2) := by
  rw [up4, dif_pos ⟨h, hl⟩]
theorem up4_end {hs : List Int} {i : Nat} (h : ¬ (0 < i ∧ less4 hs i ((i - 1) / 2) = true)) : up4 hs i = hs := by
  rw [up4, dif_neg h]
theorem down4_go {hs : List Int} {n i : Nat} (h : lf4 hs n i ≠ i) : down4 hs n i = down4 (swp hs i (lf4 hs n i)) n (lf4 hs n i) := by
  rw [down4, dif_pos h]
theorem down4_end {hs : List Int} {n i : Nat} (h : lf4 hs n i = i) : down4 hs n i = hs := by
  rw [down4, dif_neg (by simp [h])]
def pop4 (hs : List Int) (n : Nat) : List Int := down4 ((se hs 0 (gi hs (n * 2)) (gi hs (n * 2 + 1))).take (n * 2)) n 0
theorem pop4_len {hs : List Int} {n : Nat} (h : hs.length = (n + 1) * 2) : (pop4 hs n).length = n * 2 := by
  simp [pop4, down4_len, se_len, h]
def push4 (hs : List Int) (n : Nat) (p d : Int) : List Int := up4 (hs ++ [p, d]) n
theorem push4_len {hs : List Int} {n : Nat} (p d : Int) (h : hs.length = n * 2) : (push4 hs n p d).length = (n + 1) * 2 := by
  simp [push4, up4_len, h]; omega
def srt4 : Nat → List Int → List Int
  | 0, _ => []
  | n + 1, hs => gi hs 0 :: gi hs 1 :: srt4 n (pop4 hs n)
theorem srt4_len : ∀ (n : Nat) (hs : List Int), (srt4 n hs).length = n * 2
  | 0, _ => rfl
  | n + 1, hs => by simp [srt4, srt4_len n]; omega
def pushH (hs : List Int) (n : Nat) (p d : Int) : Int × List Int :=
  if hf hs n ≠ 0 then (hf hs n, []) else if okE p d = false then (3, []) else if hasE hs n d then (6, []) else if n = 12 then (8, []) else (0, push4 hs n p d)
def popH (hs : List Int) (n : Nat) : Int × Int × Int × List Int :=
  if hf hs n ≠ 0 then (hf hs n, 0, 0, []) else if n = 0 then (4, 0, 0, []) else (0, gi hs 0, gi hs 1, pop4 hs (n - 1))
def hof (ls : List Int) : Nat → Nat → List Int → Int × List Int
  | 0, _, out => (0, out)
  | k + 1, i, out => if (pushH out (out.length / 2) (gi ls (i * 2)) (gi ls (i * 2 + 1))).1 ≠ 0 then ((pushH out (out.length / 2) (gi ls (i * 2)) (gi ls (i * 2 + 1))).1, []) else hof ls k (i + 1) (pushH out (out.length / 2) (gi ls (i * 2)) (gi ls (i * 2 + 1))).2
def heapOf4 (ls : List Int) (n : Nat) : Int × List Int := if 12 < n then (2, []) else hof ls n 0 []
def sorted4 (hs : List Int) (n : Nat) : Int × List Int := if hf hs n ≠ 0 then (hf hs n, []) else (0, srt4 n hs)
theorem hf_small {hs : List Int} {n : Nat} (h : hf hs n = 0) : n ≤ 12 := by
  unfold hf at h
  split at h
  · omega
  · omega
theorem pushH_len (hs : List Int) (n : Nat) (p d : Int) (h : hs.length = n * 2) : ∃ k, (pushH hs n p d).2.length = k * 2 ∧ k ≤ 12 ∧ ((pushH hs n p d).1 = 0 → k = n + 1) := by
  unfold pushH
  split
  · exact ⟨0, rfl, by omega, fun h => absurd h (by assumption)⟩
  · rename_i h0
    have := hf_small (Decidable.not_not.1 h0)
    split
    · exact ⟨0, rfl, by omega, fun h => by simp at h⟩
    · split
      · exact ⟨0, rfl, by omega, fun h => by simp at h⟩
      · split
        · exact ⟨0, rfl, by omega, fun h => by simp at h⟩
        · exact ⟨n + 1, push4_len p d h, by omega, fun _ => rfl⟩
theorem popH_len (hs : List Int) (n : Nat) (h : hs.length = n * 2) : ∃ k, (popH hs n).2.2.2.length = k * 2 ∧ k ≤ 12 := by
  unfold popH
  split
  · exact ⟨0, rfl, by omega⟩
  · rename_i h0
    have := hf_small (Decidable.not_not.1 h0)
    split
    · exact ⟨0, rfl, by omega⟩
    · exact ⟨n - 1, pop4_len (by omega), by omega⟩
theorem hof_len (ls : List Int) : ∀ (k i m : Nat) (out : List Int), out.length = m * 2 → m ≤ 12 → ∃ j, (hof ls k i out).2.length = j * 2 ∧ j ≤ 12
  | 0, _, m, out, h, hm => ⟨m, h, hm⟩
  | k + 1, i, m, out, h, _ => by
    unfold hof
    split
    · exact ⟨0, rfl, by omega⟩
    · obtain ⟨j, hj, hj2, _⟩ := pushH_len out (out.length / 2) (gi ls (i * 2)) (gi ls (i * 2 + 1)) (by omega)
      exact hof_len ls k (i + 1) j _ hj hj2
theorem heapOf4_len (ls : List Int) (n : Nat) : ∃ j, (heapOf4 ls n).2.length = j * 2 ∧ j ≤ 12 := by
  unfold heapOf4
  split
  · exact ⟨0, rfl, by omega⟩
  · exact hof_len ls n 0 0 [] rfl (by omega)
theorem sorted4_len (hs : List Int) (n : Nat) : ∃ j, (sorted4 hs n).2.length = j * 2 ∧ j ≤ 12 := by
  unfold sorted4
  split
  · exact ⟨0, rfl, by omega⟩
  · rename_i h0
    exact ⟨n, srt4_len n hs, hf_small (Decidable.not_not.1 h0)⟩

def chl (hs : List Int) (n at_ : Nat) : Int := if n ≤ 2 * at_ + 1 then -1 else if 2 * at_ + 2 < n ∧ less4 hs (2 * at_ + 2) (2 * at_ + 1) = true then ((2 * at_ + 2 : Nat) : Int) else ((2 * at_ + 1 : Nat) : Int)
theorem lt4_trans {a b c d e f : Int} (h1 : lt4 a b c d = true) (h2 : lt4 c d e f = true) : lt4 a b e f = true := by
  simp [lt4] at *; omega
theorem lt4_co {a b c d e f : Int} (h1 : lt4 a b c d = true) (h2 : lt4 e f c d = false) : lt4 a b e f = true := by
  simp [lt4] at *; omega
theorem lfa_yes {hs : List Int} {n i : Nat} (h : 2 * i + 1 < n) (h4 : less4 hs (2 * i + 1) i = true) : lfa hs n i = 2 * i + 1 := by unfold lfa; exact if_pos ⟨h, h4⟩
theorem lfa_no {hs : List Int} {n i : Nat} (h4 : ¬ (2 * i + 1 < n ∧ less4 hs (2 * i + 1) i = true)) : lfa hs n i = i := by unfold lfa; exact if_neg h4
theorem chl_none {hs : List Int} {n i : Nat} (h : chl hs n i < 0 ∨ (0 ≤ chl hs n i ∧ less4 hs (chl hs n i).toNat i = false)) : lf4 hs n i = i := by
  unfold chl at h
  by_cases h1 : n ≤ 2 * i + 1
  · have la : lfa hs n i = i := lfa_no (by omega)
    unfold lf4; rw [la]; exact if_neg (by omega)
  · rw [if_neg h1] at h
    by_cases h2 : 2 * i + 2 < n ∧ less4 hs (2 * i + 2) (2 * i + 1) = true
    · rw [if_pos h2] at h
      have h3 : less4 hs (2 * i + 2) i = false := by
        rcases h with h | ⟨_, h⟩
        · omega
        · exact h
      have h4 : less4 hs (2 * i + 1) i = false := by
        cases e : less4 hs (2 * i + 1) i
        · rfl
        · have := lt4_trans h2.2 e; unfold less4 at h3; rw [this] at h3; cases h3
      have la : lfa hs n i = i := lfa_no (by simp [h4])
      unfold lf4; rw [la]; exact if_neg (by simp [h3])
    · rw [if_neg h2] at h
      have h4 : less4 hs (2 * i + 1) i = false := by
        rcases h with h | ⟨_, h⟩
        · omega
        · exact h
      have la : lfa hs n i = i := lfa_no (by simp [h4])
      unfold lf4; rw [la]
      refine if_neg ?_
      rintro ⟨h5, h6⟩
      exact h2 ⟨h5, lt4_co h6 h4⟩
theorem chl_some {hs : List Int} {n i : Nat} (h0 : 0 ≤ chl hs n i) (h : less4 hs (chl hs n i).toNat i = true) : lf4 hs n i = (chl hs n i).toNat := by
  unfold chl at h h0 ⊢
  by_cases h1 : n ≤ 2 * i + 1
  · rw [if_pos h1] at h0; omega
  · rw [if_neg h1] at h h0 ⊢
    by_cases h2 : 2 * i + 2 < n ∧ less4 hs (2 * i + 2) (2 * i + 1) = true
    · rw [if_pos h2] at h h0 ⊢
      have h : less4 hs (2 * i + 2) i = true := h
      by_cases h4 : less4 hs (2 * i + 1) i = true
      · have la := lfa_yes (n := n) (by omega) h4
        unfold lf4; rw [la]; exact if_pos h2
      · have la : lfa hs n i = i := lfa_no (by simp [h4])
        unfold lf4; rw [la]; exact if_pos ⟨h2.1, h⟩
    · rw [if_neg h2] at h h0 ⊢
      have h : less4 hs (2 * i + 1) i = true := h
      have la := lfa_yes (n := n) (by omega) h
      unfold lf4; rw [la]; exact if_neg h2
theorem chl_range (hs : List Int) (n i : Nat) (hi : i < n) : chl hs n i = -1 ∨ (∃ k : Nat, chl hs n i = (k : Int) ∧ k < n ∧ i < k) := by
  unfold chl
  split
  · exact .inl rfl
  · split
    · rename_i h1 h2; exact .inr ⟨_, rfl, by omega, by omega⟩
    · rename_i h1 h2; exact .inr ⟨_, rfl, by omega, by omega⟩

end Go.Proofs.Ytckapndpefkcgaa
