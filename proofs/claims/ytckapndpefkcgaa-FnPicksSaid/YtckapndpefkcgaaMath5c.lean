/-
  Many picks one behind the other: on lists. What a pick leaves has no fault. No program is named here.
-/
import Derived.Test.YtckapndpefkcgaaSpec5f
set_option maxHeartbeats 1000000
namespace Go.Proofs.Ytckapndpefkcgaa
open Go.RowKit

abbrev AP := Int × List Int × Int × List R3
def ep5 (q : Int) : AP := (q, [], 0, [])
def ny5 (xs : List R3) : List R3 := pk5 xs (nxt5 (lst xs).1)
def nb5 (b : Int) (xs : List R3) : Int := bas (ny5 xs) b
def pks5 : Nat → List Int → Int → List R3 → AP
  | 0, is, b, xs => (0, is, b, xs)
  | n + 1, is, b, xs => if pq5 b xs = 0 then pks5 n (is ++ [(lst xs).1.1]) (nb5 b xs) (ny5 xs) else ep5 (pq5 b xs)
def picks5 (b : Int) (xs : List R3) (n : Int) : AP := if sf5 b xs ≠ 0 then ep5 (sf5 b xs) else if n < 0 ∨ 200 < n then ep5 3 else pks5 n.toNat [] b xs

theorem lst_fold_le (xs : List R3) : ∀ acc : R3 × Bool, (acc.2 = true → (xs.foldl (fun acc x => if acc.2 = false ∨ x.2.2 < acc.1.2.2 then (x, true) else acc) acc).1.2.2 ≤ acc.1.2.2) ∧ ∀ x, x ∈ xs → (xs.foldl (fun acc x => if acc.2 = false ∨ x.2.2 < acc.1.2.2 then (x, true) else acc) acc).1.2.2 ≤ x.2.2 := by
  induction xs with
  | nil => intro acc; exact ⟨fun _ => Int.le_refl _, fun x hx => by cases hx⟩
  | cons y t ih =>
    intro acc
    rw [List.foldl_cons]
    by_cases e : acc.2 = false ∨ y.2.2 < acc.1.2.2
    · rw [if_pos e]
      obtain ⟨i1, i2⟩ := ih (y, true)
      have i1 := i1 rfl
      refine ⟨fun h => ?_, fun x hx => ?_⟩
      · rcases e with e | e
        · rw [h] at e; cases e
        · exact Int.le_trans i1 (Int.le_of_lt e)
      · rcases List.mem_cons.1 hx with rfl | hx
        · exact i1
        · exact i2 x hx
    · rw [if_neg e]
      obtain ⟨i1, i2⟩ := ih acc
      have ht : acc.2 = true := by
        rcases hb : acc.2 with _ | _
        · exact absurd (.inl hb) e
        · rfl
      have hy : ¬ y.2.2 < acc.1.2.2 := fun h => e (.inr h)
      have i1 := i1 ht
      refine ⟨fun _ => i1, fun x hx => ?_⟩
      rcases List.mem_cons.1 hx with rfl | hx
      · omega
      · exact i2 x hx
theorem lst_le {xs : List R3} {x : R3} (h : x ∈ xs) : (lst xs).1.2.2 ≤ x.2.2 := (lst_fold_le xs ((0, 0, 0), false)).2 x h
theorem sf5_of {b : Int} {xs : List R3} (h1 : 0 ≤ b ∧ b ≤ 10000000) (h2 : ∀ x, x ∈ xs → okR b x = true) (h3 : Ris xs) (h4 : bas xs b = b) : sf5 b xs = 0 := by
  have a1 : anyTo xs.length (badR b xs) = false := anyTo_false.2 fun i hi => by
    unfold badR
    rw [h2 _ (g3_mem hi)]
    rfl
  have a2 : anyTo (xs.length - 1) (noRise xs) = false := anyTo_false.2 fun i hi => by
    have := List.pairwise_iff_getElem.1 h3.up i (i + 1) (by omega) (by omega) (by omega)
    unfold noRise g3
    rw [List.getD_eq_getElem?_getD, List.getD_eq_getElem?_getD, List.getElem?_eq_getElem (by omega : i < xs.length), List.getElem?_eq_getElem (by omega : i + 1 < xs.length)]
    simp
    omega
  have := h3.len
  unfold sf5
  rw [if_neg (by simpa using h1), if_neg (by omega), a1, a2, if_neg (by decide), if_neg (by decide), if_neg (by simpa using h4)]
theorem ny5_len (xs : List R3) : (ny5 xs).length = xs.length := by unfold ny5 pk5; simp
theorem pick_next {b : Int} {xs : List R3} (h : sf5 b xs = 0) (hp : pq5 b xs = 0) : sf5 (nb5 b xs) (ny5 xs) = 0 := by
  obtain ⟨h1, h2, h3, h4⟩ := sf5_zero h
  have hne : xs ≠ [] := fun e => by unfold pq5 at hp; rw [if_pos e] at hp; exact absurd hp (by decide)
  have hb : b + 2520 ≤ 10000000 := by
    unfold pq5 at hp
    rw [if_neg hne] at hp
    by_cases e : 10000000 < b + 2520
    · rw [if_pos e] at hp; exact absurd hp (by decide)
    · omega
  have hm := lst_mem hne
  have hmb : (lst xs).1.2.2 = b := by
    unfold bas at h4
    rw [if_pos (lst_true hne)] at h4
    exact h4
  have okx : ∀ x, x ∈ xs → okR b x = true := fun x hx => okR_mem h2 hx
  have hy : ∀ y, y ∈ ny5 xs → okId y.1 = true ∧ okT y.2.1 = true ∧ b ≤ y.2.2 ∧ y.2.2 ≤ b + strd y.2.1 := by
    intro y hy
    unfold ny5 pk5 at hy
    obtain ⟨x, hx, e⟩ := List.mem_map.1 hy
    by_cases e1 : x.1 = (nxt5 (lst xs).1).1
    · rw [if_pos e1] at e
      have o := okx _ hm
      subst e
      unfold okR at o
      simp at o
      have := strd_in o.1.2
      unfold nxt5
      show okId (lst xs).1.1 = true ∧ okT (lst xs).1.2.1 = true ∧ b ≤ (lst xs).1.2.2 + strd (lst xs).1.2.1 ∧ (lst xs).1.2.2 + strd (lst xs).1.2.1 ≤ b + strd (lst xs).1.2.1
      exact ⟨o.1.1, o.1.2, by omega, by omega⟩
    · rw [if_neg e1] at e
      subst e
      have o := okx _ hx
      unfold okR at o
      simp at o
      exact ⟨o.1.1, o.1.2, o.2.1, o.2.2⟩
  have hyne : ny5 xs ≠ [] := fun e => hne (List.length_eq_zero_iff.1 (by rw [← ny5_len, e]; rfl))
  have hnb : nb5 b xs = (lst (ny5 xs)).1.2.2 := by unfold nb5 bas; rw [if_pos (lst_true hyne)]
  obtain ⟨m1, m2, m3, m4⟩ := hy _ (lst_mem hyne)
  have ms := strd_in m2
  refine sf5_of (by rw [hnb]; omega) (fun y hyy => ?_) (h3.pk _) (by unfold bas; rw [if_pos (lst_true hyne), hnb])
  obtain ⟨o1, o2, o3, o4⟩ := hy y hyy
  have := lst_le hyy
  unfold okR
  rw [o1, o2]
  simp
  rw [hnb]
  omega
theorem pick5_eq {b : Int} {xs : List R3} (h : sf5 b xs = 0) : pick5 b xs = if pq5 b xs = 0 then (0, (lst xs).1.1, 0, nb5 b xs, ny5 xs) else e5 (pq5 b xs) := by
  unfold pick5 pq5
  rw [if_neg (fun h' => h' h)]
  by_cases h1 : xs = []
  · rw [if_pos h1, if_pos h1, if_neg (by decide)]
  · rw [if_neg h1, if_neg h1]
    by_cases h2 : 10000000 < b + 2520
    · rw [if_pos h2, if_pos h2, if_neg (by decide)]
    · rw [if_neg h2, if_neg h2, if_pos rfl]; rfl
theorem pks5_len (n : Nat) : ∀ (is : List Int) (b : Int) (xs : List R3), xs.length ≤ 6 → (pks5 n is b xs).2.1.length ≤ is.length + n ∧ (pks5 n is b xs).2.2.2.length ≤ 6 := by
  induction n with
  | zero => intro is b xs h; exact ⟨Nat.le_refl _, h⟩
  | succ n ih =>
    intro is b xs h
    unfold pks5
    by_cases e : pq5 b xs = 0
    · rw [if_pos e]
      obtain ⟨i1, i2⟩ := ih (is ++ [(lst xs).1.1]) (nb5 b xs) (ny5 xs) (by rw [ny5_len]; exact h)
      simp at i1
      exact ⟨by omega, i2⟩
    · rw [if_neg e]
      exact ⟨by simp [ep5], by simp [ep5]⟩
theorem picks5_len (b : Int) (xs : List R3) (n : Int) : (picks5 b xs n).2.1.length ≤ 200 ∧ (picks5 b xs n).2.2.2.length ≤ 6 := by
  unfold picks5
  by_cases h : sf5 b xs = 0
  · rw [if_neg (fun hh => hh h)]
    by_cases e : n < 0 ∨ 200 < n
    · rw [if_pos e]; exact ⟨by simp [ep5], by simp [ep5]⟩
    · rw [if_neg e]
      have hl := (sf5_zero h).2.2.1.len
      obtain ⟨i1, i2⟩ := pks5_len n.toNat [] b xs (by omega)
      simp at i1
      exact ⟨by omega, i2⟩
  · rw [if_pos h]; exact ⟨by simp [ep5], by simp [ep5]⟩

end Go.Proofs.Ytckapndpefkcgaa
