/-
  Picking by parts is picking by the whole; another base picks the same ones. No program is named here.
-/
import Derived.Test.YtckapndpefkcgaaMath5d
set_option maxHeartbeats 1000000
namespace Go.Proofs.Ytckapndpefkcgaa
open Go.RowKit

theorem ep5_ne {b : Int} {xs : List R3} (h : pq5 b xs ≠ 0) : (ep5 (pq5 b xs)).1 ≠ 0 := h
theorem pks5_ids (n : Nat) : ∀ (is : List Int) (b : Int) (xs : List R3), (pks5 n is b xs).1 = (pks5 n [] b xs).1 ∧ ((pks5 n [] b xs).1 = 0 → pks5 n is b xs = (0, is ++ (pks5 n [] b xs).2.1, (pks5 n [] b xs).2.2)) := by
  induction n with
  | zero => intro is b xs; exact ⟨rfl, fun _ => by simp [pks5]⟩
  | succ n ih =>
    intro is b xs
    unfold pks5
    by_cases e : pq5 b xs = 0
    · rw [if_pos e, if_pos e]
      obtain ⟨a1, a2⟩ := ih (is ++ [(lst xs).1.1]) (nb5 b xs) (ny5 xs)
      obtain ⟨c1, c2⟩ := ih ([] ++ [(lst xs).1.1]) (nb5 b xs) (ny5 xs)
      refine ⟨by rw [a1, c1], fun h => ?_⟩
      rw [c1] at h
      rw [a2 h, c2 h]
      simp
    · rw [if_neg e, if_neg e]
      exact ⟨rfl, fun h => absurd h e⟩
theorem pks5_add (m n : Nat) : ∀ (is : List Int) (b : Int) (xs : List R3), (pks5 (n + m) is b xs).1 = 0 → (pks5 n is b xs).1 = 0 ∧ pks5 m (pks5 n is b xs).2.1 (pks5 n is b xs).2.2.1 (pks5 n is b xs).2.2.2 = pks5 (n + m) is b xs := by
  induction n with
  | zero => intro is b xs h; rw [Nat.zero_add] at h ⊢; exact ⟨rfl, rfl⟩
  | succ n ih =>
    intro is b xs h
    rw [show n + 1 + m = (n + m) + 1 by omega] at h ⊢
    unfold pks5 at h
    by_cases e : pq5 b xs = 0
    · rw [if_pos e] at h
      have h1 : pks5 (n + 1) is b xs = pks5 n (is ++ [(lst xs).1.1]) (nb5 b xs) (ny5 xs) := by
        show (if pq5 b xs = 0 then _ else _) = _
        rw [if_pos e]
      have h2 : pks5 (n + m + 1) is b xs = pks5 (n + m) (is ++ [(lst xs).1.1]) (nb5 b xs) (ny5 xs) := by
        show (if pq5 b xs = 0 then _ else _) = _
        rw [if_pos e]
      rw [h1, h2]
      exact ih _ _ _ h
    · rw [if_neg e] at h
      exact absurd h e
theorem pks5_sf (n : Nat) : ∀ (is : List Int) (b : Int) (xs : List R3), sf5 b xs = 0 → (pks5 n is b xs).1 = 0 → sf5 (pks5 n is b xs).2.2.1 (pks5 n is b xs).2.2.2 = 0 := by
  induction n with
  | zero => intro is b xs h _; exact h
  | succ n ih =>
    intro is b xs h h1
    unfold pks5 at h1 ⊢
    by_cases e : pq5 b xs = 0
    · rw [if_pos e] at h1 ⊢
      exact ih _ _ _ (pick_next h e) h1
    · rw [if_neg e] at h1
      exact absurd h1 e
theorem picks5_parts {b : Int} {xs : List R3} {n cut : Int} (h : (picks5 b xs n).1 = 0) (hc : 0 ≤ cut ∧ cut ≤ n) :
    sf5 (picks5 b xs n).2.2.1 (picks5 b xs n).2.2.2 = 0 ∧ (picks5 b xs cut).1 = 0 ∧
      picks5 (picks5 b xs cut).2.2.1 (picks5 b xs cut).2.2.2 (n - cut) = (0, (picks5 (picks5 b xs cut).2.2.1 (picks5 b xs cut).2.2.2 (n - cut)).2.1, (picks5 b xs n).2.2) ∧
      (picks5 b xs cut).2.1 ++ (picks5 (picks5 b xs cut).2.2.1 (picks5 b xs cut).2.2.2 (n - cut)).2.1 = (picks5 b xs n).2.1 := by
  have h0 : sf5 b xs = 0 := by
    unfold picks5 at h
    by_cases e : sf5 b xs = 0
    · exact e
    · rw [if_pos e] at h; exact absurd h e
  have hn : ¬ (n < 0 ∨ 200 < n) := fun e => by
    unfold picks5 at h
    rw [if_neg (fun q => q h0), if_pos e] at h
    exact absurd h (by decide)
  have e1 : picks5 b xs n = pks5 n.toNat [] b xs := by unfold picks5; rw [if_neg (fun q => q h0), if_neg hn]
  have e2 : picks5 b xs cut = pks5 cut.toNat [] b xs := by unfold picks5; rw [if_neg (fun q => q h0), if_neg (by omega)]
  rw [e1] at h
  have es : n.toNat = cut.toNat + (n - cut).toNat := by omega
  rw [es] at h
  obtain ⟨a1, a2⟩ := pks5_add (n - cut).toNat cut.toNat [] b xs h
  have s1 := pks5_sf cut.toNat [] b xs h0 a1
  have e3 : picks5 (pks5 cut.toNat [] b xs).2.2.1 (pks5 cut.toNat [] b xs).2.2.2 (n - cut) = pks5 (n - cut).toNat [] (pks5 cut.toNat [] b xs).2.2.1 (pks5 cut.toNat [] b xs).2.2.2 := by
    unfold picks5
    rw [if_neg (fun q => q s1), if_neg (by omega)]
  obtain ⟨b1, b2⟩ := pks5_ids (n - cut).toNat (pks5 cut.toNat [] b xs).2.1 (pks5 cut.toNat [] b xs).2.2.1 (pks5 cut.toNat [] b xs).2.2.2
  have hz : (pks5 (n - cut).toNat [] (pks5 cut.toNat [] b xs).2.2.1 (pks5 cut.toNat [] b xs).2.2.2).1 = 0 := by rw [← b1, a2]; exact h
  have b3 := b2 hz
  rw [a2] at b3
  rw [e1, e2, e3, es]
  refine ⟨pks5_sf _ [] b xs h0 h, a1, ?_, by rw [b3]⟩
  rw [b3]
  generalize pks5 (n - cut).toNat [] (pks5 cut.toNat [] b xs).2.2.1 (pks5 cut.toNat [] b xs).2.2.2 = r at hz ⊢
  obtain ⟨q, is, bb, ys⟩ := r
  have hz : q = 0 := hz
  rw [hz]

theorem lst_map (c : Int) (xs : List R3) : ∀ acc : R3 × Bool, (xs.map (sh5 c)).foldl (fun acc x => if acc.2 = false ∨ x.2.2 < acc.1.2.2 then (x, true) else acc) (sh5 c acc.1, acc.2) =
    (sh5 c (xs.foldl (fun acc x => if acc.2 = false ∨ x.2.2 < acc.1.2.2 then (x, true) else acc) acc).1, (xs.foldl (fun acc x => if acc.2 = false ∨ x.2.2 < acc.1.2.2 then (x, true) else acc) acc).2) := by
  induction xs with
  | nil => intro acc; rfl
  | cons y t ih =>
    intro acc
    simp only [List.map_cons, List.foldl_cons]
    by_cases e : acc.2 = false ∨ y.2.2 < acc.1.2.2
    · rw [if_pos e, if_pos (by rcases e with e | e; exact .inl e; exact .inr (by show y.2.2 - c < acc.1.2.2 - c; omega))]
      exact ih (y, true)
    · rw [if_neg e, if_neg (by
        intro q
        rcases q with q | q
        · exact e (.inl q)
        · exact e (.inr (by have q : y.2.2 - c < acc.1.2.2 - c := q; omega)))]
      exact ih acc
theorem lst_sh5e (c : Int) {xs : List R3} (h : xs ≠ []) : lst (xs.map (sh5 c)) = (sh5 c (lst xs).1, (lst xs).2) := by
  cases xs with
  | nil => exact absurd rfl h
  | cons y t =>
    unfold lst
    simp only [List.map_cons, List.foldl_cons]
    rw [if_pos (.inl (by first | rfl | trivial)), if_pos (.inl (by first | rfl | trivial))]
    exact lst_map c t (y, true)
theorem map_ne {c : Int} {xs : List R3} (h : xs ≠ []) : xs.map (sh5 c) ≠ [] := fun e => h (List.map_eq_nil_iff.1 e)
theorem bas_sh5e (c b : Int) {xs : List R3} (h : xs ≠ []) : bas (xs.map (sh5 c)) (b - c) = bas xs b - c := by
  rw [bas_ne (map_ne h), bas_ne h, lst_sh5e c h]
  rfl
theorem ny5_sh (c : Int) {xs : List R3} (h : xs ≠ []) : ny5 (xs.map (sh5 c)) = (ny5 xs).map (sh5 c) := by
  unfold ny5 pk5
  rw [lst_sh5e c h, List.map_map, List.map_map]
  apply List.map_congr_left
  intro x _
  show (if (sh5 c x).1 = (nxt5 (sh5 c (lst xs).1)).1 then nxt5 (sh5 c (lst xs).1) else sh5 c x) = sh5 c (if x.1 = (nxt5 (lst xs).1).1 then nxt5 (lst xs).1 else x)
  by_cases e : x.1 = (nxt5 (lst xs).1).1
  · rw [if_pos e, if_pos (show (sh5 c x).1 = (nxt5 (sh5 c (lst xs).1)).1 from e)]
    unfold nxt5 sh5
    simp
    omega
  · rw [if_neg e, if_neg (show ¬ (sh5 c x).1 = (nxt5 (sh5 c (lst xs).1)).1 from e)]
theorem ny5_ne {xs : List R3} (h : xs ≠ []) : ny5 xs ≠ [] := fun e => h (List.length_eq_zero_iff.1 (by rw [← ny5_len, e]; rfl))
theorem pks5_sh (c : Int) (hc : 0 ≤ c) (n : Nat) : ∀ (is : List Int) (b : Int) (xs : List R3), (pks5 n is b xs).1 = 0 → (pks5 n is (b - c) (xs.map (sh5 c))).1 = 0 ∧ (pks5 n is (b - c) (xs.map (sh5 c))).2.1 = (pks5 n is b xs).2.1 := by
  induction n with
  | zero => intro is b xs _; exact ⟨rfl, rfl⟩
  | succ n ih =>
    intro is b xs h
    unfold pks5 at h ⊢
    by_cases e : pq5 b xs = 0
    · have hne : xs ≠ [] := fun q => by unfold pq5 at e; rw [if_pos q] at e; exact absurd e (by decide)
      have hb : ¬ 10000000 < b + 2520 := fun q => by unfold pq5 at e; rw [if_neg hne, if_pos q] at e; exact absurd e (by decide)
      have e2 : pq5 (b - c) (xs.map (sh5 c)) = 0 := by unfold pq5; rw [if_neg (map_ne hne), if_neg (by omega)]
      rw [if_pos e] at h ⊢
      rw [if_pos e2]
      have e3 : nb5 (b - c) (xs.map (sh5 c)) = nb5 b xs - c := by
        unfold nb5
        rw [ny5_sh c hne, bas_sh5e c b (ny5_ne hne)]
      have e4 : (lst (xs.map (sh5 c))).1.1 = (lst xs).1.1 := by rw [lst_sh5e c hne]; rfl
      rw [e3, e4, ny5_sh c hne]
      exact ih _ _ _ h
    · rw [if_neg e] at h
      exact absurd h e
theorem sf5_sh {b : Int} {xs : List R3} (h : sf5 b xs = 0) : sf5 0 (xs.map (sh5 b)) = 0 := by
  obtain ⟨h1, h2, h3, h4⟩ := sf5_zero h
  refine sf5_of (by omega) (fun y hy => ?_) (h3.map _ (fun _ => rfl)) ?_
  · obtain ⟨x, hx, rfl⟩ := List.mem_map.1 hy
    obtain ⟨o1, o2, o3, o4⟩ := okR_parts (okR_mem h2 hx)
    exact okR_mk o1 o2 (by show 0 ≤ x.2.2 - b; omega) (by show x.2.2 - b ≤ 0 + strd x.2.1; omega)
  · by_cases hn : xs = []
    · subst hn; rfl
    · have := bas_sh5e b b hn
      rw [h4] at this
      rw [bas_ne (map_ne hn)] at this ⊢
      omega
theorem picks5_base {b : Int} {xs : List R3} {n : Int} (h : (picks5 b xs n).1 = 0) :
    (picks5 0 (xs.map (sh5 b)) n).1 = 0 ∧ (picks5 0 (xs.map (sh5 b)) n).2.1 = (picks5 b xs n).2.1 := by
  have h0 : sf5 b xs = 0 := by
    unfold picks5 at h
    by_cases e : sf5 b xs = 0
    · exact e
    · rw [if_pos e] at h; exact absurd h e
  have hn : ¬ (n < 0 ∨ 200 < n) := fun e => by
    unfold picks5 at h
    rw [if_neg (fun q => q h0), if_pos e] at h
    exact absurd h (by decide)
  have e1 : picks5 b xs n = pks5 n.toNat [] b xs := by unfold picks5; rw [if_neg (fun q => q h0), if_neg hn]
  have e2 : picks5 0 (xs.map (sh5 b)) n = pks5 n.toNat [] 0 (xs.map (sh5 b)) := by unfold picks5; rw [if_neg (fun q => q (sf5_sh h0)), if_neg hn]
  rw [e1] at h ⊢
  rw [e2]
  have := pks5_sh b (sf5_zero h0).1.1 n.toNat [] b xs h
  rwa [Int.sub_self] at this

end Go.Proofs.Ytckapndpefkcgaa
