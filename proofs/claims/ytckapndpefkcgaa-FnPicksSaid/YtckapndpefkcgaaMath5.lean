/-
  Schedules as lists of those that are ready: what has a fault, who is first, who joins, leaves, is picked. No program is named here.
-/
import Derived.Test.YtckapndpefkcgaaColl5
import Derived.Test.YtckapndpefkcgaaMath4
set_option maxHeartbeats 1000000
namespace Go.Proofs.Ytckapndpefkcgaa
open Go.RowKit

def g3 (xs : List R3) (i : Nat) : R3 := xs.getD i (0, 0, 0)
theorem fl_get (xs : List R3) (i : Nat) (h : i < xs.length) : gi (fl xs) (i * 3) = (g3 xs i).1 ∧ gi (fl xs) (i * 3 + 1) = (g3 xs i).2.1 ∧ gi (fl xs) (i * 3 + 2) = (g3 xs i).2.2 := by
  induction xs generalizing i with
  | nil => simp at h
  | cons x xs ih =>
    cases i with
    | zero => simp [fl, gi, g3]
    | succ i =>
      have h' : i < xs.length := by simp at h; omega
      obtain ⟨h1, h2, h3⟩ := ih i h'
      have e : ∀ k, gi (fl (x :: xs)) (k + 3) = gi (fl xs) k := fun k => by simp [fl, gi]
      rw [show (i + 1) * 3 = i * 3 + 3 by omega, show i * 3 + 3 + 1 = (i * 3 + 1) + 3 by omega, show i * 3 + 3 + 2 = (i * 3 + 2) + 3 by omega, e, e, e, h1, h2, h3]
      simp [g3]
theorem take_snoc (xs : List R3) (i : Nat) (h : i < xs.length) : xs.take (i + 1) = xs.take i ++ [g3 xs i] := by
  rw [List.take_add_one]
  simp [g3, List.getElem?_eq_getElem h]
def strd (t : Int) : Int := 2520 / t
def okId (i : Int) : Bool := decide (0 ≤ i) && decide (i < 5)
def okT (t : Int) : Bool := decide (1 ≤ t) && decide (t ≤ 10)
def okR (b : Int) (x : R3) : Bool := okId x.1 && okT x.2.1 && (decide (b ≤ x.2.2) && decide (x.2.2 ≤ b + strd x.2.1))
def badR (b : Int) (xs : List R3) (i : Nat) : Bool := !okR b (g3 xs i)
def noRise (xs : List R3) (i : Nat) : Bool := decide ((g3 xs (i + 1)).1 ≤ (g3 xs i).1)
def bas (xs : List R3) (b : Int) : Int := if (lst xs).2 = true then (lst xs).1.2.2 else b
def sf5 (b : Int) (xs : List R3) : Int :=
  if ¬ (0 ≤ b ∧ b ≤ 10000000) then 3 else if 5 < xs.length then 2 else if anyTo xs.length (badR b xs) = true then 3 else if anyTo (xs.length - 1) (noRise xs) = true then 1 else if bas xs b ≠ b then 9 else 0
theorem lst_true {xs : List R3} (h : xs ≠ []) : (lst xs).2 = true := by
  rcases List.eq_nil_or_concat xs with rfl | ⟨ys, y, rfl⟩
  · exact absurd rfl h
  · rw [List.concat_eq_append, lst_snoc]
    by_cases e : (lst ys).2 = false ∨ y.2.2 < (lst ys).1.2.2
    · rw [if_pos e]
    · rw [if_neg e]
      rcases hb : (lst ys).2 with _ | _
      · exact absurd (.inl hb) e
      · rfl

structure Ris (xs : List R3) : Prop where
  up : xs.Pairwise fun a b => a.1 < b.1
  id : ∀ x, x ∈ xs → 0 ≤ x.1 ∧ x.1 < 5
def mth (xs : List R3) (k : Int) : Option R3 := xs.find? fun x => x.1 == k
theorem mth_snoc (xs : List R3) (x : R3) (h : ∀ y, y ∈ xs → y.1 ≠ x.1) (j : Int) : mth (xs ++ [x]) j = if j = x.1 then some x else mth xs j := by
  unfold mth
  rw [List.find?_append]
  by_cases e : j = x.1
  · subst e
    rw [if_pos rfl]
    have : xs.find? (fun y => y.1 == x.1) = none := by
      rw [List.find?_eq_none]
      intro y hy
      simpa using h y hy
    rw [this]; simp
  · rw [if_neg e]
    have : [x].find? (fun y => y.1 == j) = none := by
      simp; exact fun q => e q.symm
    rw [this]; simp
theorem mth_cons (x : R3) (xs : List R3) (j : Int) : mth (x :: xs) j = if x.1 = j then some x else mth xs j := by
  unfold mth
  rw [List.find?_cons]
  by_cases e : x.1 = j
  · simp [e]
  · have : (x.1 == j) = false := by simpa using e
    rw [this, if_neg e]
theorem Ris.tail {x : R3} {xs : List R3} (h : Ris (x :: xs)) : Ris xs := ⟨(List.pairwise_cons.1 h.up).2, fun y hy => h.id y (.tail _ hy)⟩
theorem filter_step (xs : List R3) (h : xs.Pairwise fun a b => a.1 < b.1) (k : Int) : xs.filter (fun x => decide (x.1 < k + 1)) = xs.filter (fun x => decide (x.1 < k)) ++ (mth xs k).toList := by
  induction xs with
  | nil => rfl
  | cons x xs ih =>
    obtain ⟨h1, h2⟩ := List.pairwise_cons.1 h
    have ih := ih h2
    rw [mth_cons]
    rcases Int.lt_trichotomy x.1 k with e | e | e
    · rw [List.filter_cons_of_pos (by simp; omega), List.filter_cons_of_pos (by simp; omega), if_neg (by omega), ih]; rfl
    · have z : xs.filter (fun y => decide (y.1 < k + 1)) = [] := by
        rw [List.filter_eq_nil_iff]; intro y hy; have := h1 y hy; simp; omega
      have z2 : xs.filter (fun y => decide (y.1 < k)) = [] := by
        rw [List.filter_eq_nil_iff]; intro y hy; have := h1 y hy; simp; omega
      rw [List.filter_cons_of_pos (by simp; omega), List.filter_cons_of_neg (by simp; omega), if_pos e, z, z2]; rfl
    · have z : xs.filter (fun y => decide (y.1 < k + 1)) = [] := by
        rw [List.filter_eq_nil_iff]; intro y hy; have := h1 y hy; simp; omega
      have z2 : xs.filter (fun y => decide (y.1 < k)) = [] := by
        rw [List.filter_eq_nil_iff]; intro y hy; have := h1 y hy; simp; omega
      have z3 : mth xs k = none := by
        unfold mth; rw [List.find?_eq_none]; intro y hy; have := h1 y hy; simp; omega
      rw [List.filter_cons_of_neg (by simp; omega), List.filter_cons_of_neg (by simp; omega), if_neg (by omega), z, z2, z3]; rfl
theorem upTo_mth (xs : List R3) (h : xs.Pairwise fun a b => a.1 < b.1) (h0 : ∀ x, x ∈ xs → 0 ≤ x.1) (k : Nat) : upTo (mth xs) k = xs.filter (fun x => decide (x.1 < (k : Int))) := by
  induction k with
  | zero =>
    have : xs.filter (fun x => decide (x.1 < ((0 : Nat) : Int))) = [] := by
      rw [List.filter_eq_nil_iff]; intro y hy; have := h0 y hy; simp; omega
    rw [this]; rfl
  | succ k ih =>
    rw [show ((k + 1 : Nat) : Int) = (k : Int) + 1 by omega, filter_step xs h k, ← ih]
    cases e : mth xs (k : Int) with
    | none => rw [upTo_none e]; simp
    | some x => rw [upTo_some e]; rfl
theorem Ris.all {xs : List R3} (h : Ris xs) : upTo (mth xs) 5 = xs := by
  rw [upTo_mth xs h.up (fun x hx => (h.id x hx).1)]
  rw [List.filter_eq_self]
  intro x hx
  have := (h.id x hx).2
  simpa using this
theorem Ris.len {xs : List R3} (h : Ris xs) : xs.length ≤ 5 := by
  have := upTo_len (mth xs) 5
  rw [h.all] at this
  exact this
theorem g3_mem {xs : List R3} {i : Nat} (h : i < xs.length) : g3 xs i ∈ xs := by
  unfold g3; rw [List.getD_eq_getElem?_getD, List.getElem?_eq_getElem h]; exact List.getElem_mem h
theorem mem_g3 {xs : List R3} {x : R3} (h : x ∈ xs) : ∃ i, i < xs.length ∧ g3 xs i = x := by
  obtain ⟨i, hi, e⟩ := List.getElem_of_mem h
  exact ⟨i, hi, by unfold g3; rw [List.getD_eq_getElem?_getD, List.getElem?_eq_getElem hi]; exact e⟩
theorem ris_of {xs : List R3} {b : Int} (h1 : anyTo xs.length (badR b xs) = false) (h2 : anyTo (xs.length - 1) (noRise xs) = false) : Ris xs := by
  have hs : ∀ d i, i + (d + 1) < xs.length → (g3 xs i).1 < (g3 xs (i + (d + 1))).1 := by
    intro d
    induction d with
    | zero => intro i hi; have := anyTo_false.1 h2 i (by omega); unfold noRise at this; simp at this; exact this
    | succ d ih =>
      intro i hi
      have a := ih i (by omega)
      have c := anyTo_false.1 h2 (i + (d + 1)) (by omega)
      unfold noRise at c; simp at c
      rw [show i + (d + 1 + 1) = i + (d + 1) + 1 by omega]
      omega
  refine ⟨?_, fun x hx => ?_⟩
  · rw [List.pairwise_iff_getElem]
    intro i j hi hj hij
    have := hs (j - i - 1) i (by omega)
    rw [show i + (j - i - 1 + 1) = j by omega] at this
    unfold g3 at this
    rw [List.getD_eq_getElem?_getD, List.getD_eq_getElem?_getD, List.getElem?_eq_getElem hi, List.getElem?_eq_getElem hj] at this
    exact this
  · obtain ⟨i, hi, rfl⟩ := mem_g3 hx
    have := anyTo_false.1 h1 i hi
    unfold badR okR okId at this
    simp at this
    omega
theorem sf5_zero {b : Int} {xs : List R3} (h : sf5 b xs = 0) : (0 ≤ b ∧ b ≤ 10000000) ∧ anyTo xs.length (badR b xs) = false ∧ Ris xs ∧ bas xs b = b := by
  unfold sf5 at h
  split at h
  · omega
  · rename_i h0
    split at h
    · omega
    · split at h
      · omega
      · rename_i h1
        split at h
        · omega
        · rename_i h2
          split at h
          · omega
          · rename_i h3
            have h1 : anyTo xs.length (badR b xs) = false := by simpa using h1
            have h2 : anyTo (xs.length - 1) (noRise xs) = false := by simpa using h2
            exact ⟨by omega, h1, ris_of h1 h2, by omega⟩

end Go.Proofs.Ytckapndpefkcgaa
