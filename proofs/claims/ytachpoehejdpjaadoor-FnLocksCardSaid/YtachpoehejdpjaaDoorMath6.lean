/-
  Queues and locks as lists: what has a fault, who takes, who passes, who waits, who is woken. No program is named here.
-/
import Derived.Test.YtachpoehejdpjaaDoorMath1
namespace Go.Proofs.YtachpoehejdpjaaDoor
open Go.RowKit

/-- a thread -/
def id6 (v : Int) : Bool := decide (0 ≤ v ∧ v ≤ 4)
/-- QueueFault's answer -/
def qf6 (xs : List Int) : Int := if 5 < xs.length then 2 else if xs.any (fun v => !id6 v) = true then 3 else if xs.Nodup then 0 else 6
/-- LockFault's answer -/
def lf6 (o : Int) (xs : List Int) : Int := if o ≠ -1 ∧ id6 o = false then 3 else if qf6 xs ≠ 0 then qf6 xs else if (o = -1 ∧ 0 < xs.length) ∨ o ∈ xs then 9 else 0
/-- an answer: code, got, next, owner, who waits for the lock, who waits -/
abbrev A6 := Int × Bool × Int × Int × List Int × List Int
def z6 (q : Int) : A6 := (q, false, 0, 0, [], [])
/-- taking, where the lock has no fault -/
def tk6 (o : Int) (xs : List Int) (id : Int) : A6 :=
  if id6 id = false then z6 3 else if o = id ∨ id ∈ xs then z6 6 else if o = -1 then (0, true, -1, id, [], []) else (0, false, -1, o, xs ++ [id], [])
def take6 (o : Int) (xs : List Int) (id : Int) : A6 := if lf6 o xs ≠ 0 then z6 (lf6 o xs) else tk6 o xs id
/-- passing, where the lock has no fault -/
def ps6 (o : Int) (xs : List Int) (id : Int) : A6 :=
  if id6 id = false then z6 3 else if o ≠ id then z6 7 else if xs.length = 0 then (0, false, -1, -1, [], []) else (0, false, gi xs 0, gi xs 0, xs.drop 1, [])
def pass6 (o : Int) (xs : List Int) (id : Int) : A6 := if lf6 o xs ≠ 0 then z6 (lf6 o xs) else ps6 o xs id
/-- waiting, where the queue has no fault -/
def wt6 (xs : List Int) (id : Int) : A6 := if id6 id = false then z6 3 else if id ∈ xs then z6 6 else (0, false, -1, 0, [], xs ++ [id])
def wait6 (xs : List Int) (id : Int) : A6 := if qf6 xs ≠ 0 then z6 (qf6 xs) else wt6 xs id
/-- the fault of waking -/
def wf6 (ys : List Int) (o : Int) (xs : List Int) : Int := if qf6 ys ≠ 0 then qf6 ys else lf6 o xs
def wn6 (ys : List Int) (o : Int) (xs : List Int) : A6 :=
  if ys.length = 0 then z6 4 else if (tk6 o xs (gi ys 0)).1 ≠ 0 then z6 (tk6 o xs (gi ys 0)).1
  else (0, (tk6 o xs (gi ys 0)).2.1, gi ys 0, (tk6 o xs (gi ys 0)).2.2.2.1, (tk6 o xs (gi ys 0)).2.2.2.2.1, ys.drop 1)
def one6 (ys : List Int) (o : Int) (xs : List Int) : A6 := if wf6 ys o xs ≠ 0 then z6 (wf6 ys o xs) else wn6 ys o xs
/-- waking all, one behind the other; told is the answer so far -/
def go6 : List Int → A6 → A6
  | [], a => a
  | y :: ys, a =>
    if (tk6 a.2.2.2.1 a.2.2.2.2.1 y).1 ≠ 0 then z6 (tk6 a.2.2.2.1 a.2.2.2.2.1 y).1
    else go6 ys (0, a.2.1 || (tk6 a.2.2.2.1 a.2.2.2.2.1 y).2.1, (if (tk6 a.2.2.2.1 a.2.2.2.2.1 y).2.1 = true then y else a.2.2.1), (tk6 a.2.2.2.1 a.2.2.2.2.1 y).2.2.2.1, (tk6 a.2.2.2.1 a.2.2.2.2.1 y).2.2.2.2.1, [])
def wa6 (ys : List Int) (o : Int) (xs : List Int) : A6 := go6 ys (0, false, -1, o, xs, [])
def all6 (ys : List Int) (o : Int) (xs : List Int) : A6 := if wf6 ys o xs ≠ 0 then z6 (wf6 ys o xs) else wa6 ys o xs

theorem qf6_many {xs : List Int} (h : 5 < xs.length) : qf6 xs = 2 := by unfold qf6; rw [if_pos h]
theorem qf6_range {xs : List Int} (h : ¬ 5 < xs.length) {k : Nat} (hk : k < xs.length) (hb : id6 (gi xs k) = false) : qf6 xs = 3 := by
  unfold qf6; rw [if_neg h, if_pos (any_gi xs _ k hk (by simp [hb]))]
theorem mem_take_gi {xs : List Int} {i j : Nat} (hj : j < i) (hi : i < xs.length) : gi xs j ∈ xs.take i := by
  rw [gi_lt xs j (by omega)]
  exact List.mem_iff_getElem.2 ⟨j, by simp; omega, by simp⟩
theorem take_mem_gi {xs : List Int} {i : Nat} {v : Int} (h : v ∈ xs.take i) : ∃ j, j < i ∧ j < xs.length ∧ gi xs j = v := by
  obtain ⟨j, hj, e⟩ := List.mem_iff_getElem.1 h
  simp at hj
  exact ⟨j, by omega, by omega, by rw [gi_lt xs j (by omega), ← e]; simp⟩
theorem nodup_gi {xs : List Int} : xs.Nodup ↔ ∀ i, i < xs.length → gi xs i ∉ xs.take i := by
  unfold List.Nodup
  rw [List.pairwise_iff_getElem]
  constructor
  · intro h i hi hm
    obtain ⟨j, h1, h2, e⟩ := take_mem_gi hm
    refine h j i h2 hi h1 ?_
    rw [← gi_lt xs j h2, ← gi_lt xs i hi, e]
  · intro h i j hi hj hij e
    refine h j hj ?_
    have : gi xs j = gi xs i := by rw [gi_lt xs j hj, gi_lt xs i hi, e]
    rw [this]
    exact mem_take_gi hij hj
theorem qf6_twice {xs : List Int} (h : ¬ 5 < xs.length) (hr : ∀ k, k < xs.length → id6 (gi xs k) = true) {k : Nat} (hk : k < xs.length) (hb : gi xs k ∈ xs.take k) : qf6 xs = 6 := by
  unfold qf6
  rw [if_neg h, if_neg (by rw [none_gi xs _ (fun k hk => by simp [hr k hk])]; simp), if_neg (fun hn => nodup_gi.1 hn k hk hb)]
theorem qf6_ok {xs : List Int} (h : ¬ 5 < xs.length) (hr : ∀ k, k < xs.length → id6 (gi xs k) = true) (hn : ∀ k, k < xs.length → gi xs k ∉ xs.take k) : qf6 xs = 0 := by
  unfold qf6
  rw [if_neg h, if_neg (by rw [none_gi xs _ (fun k hk => by simp [hr k hk])]; simp), if_pos (nodup_gi.2 hn)]
/-- what a queue without a fault is -/
theorem qf6_zero {xs : List Int} (h : qf6 xs = 0) : xs.length ≤ 5 ∧ (∀ v, v ∈ xs → 0 ≤ v ∧ v ≤ 4) ∧ xs.Nodup := by
  unfold qf6 at h
  split at h
  · cases h
  split at h
  · cases h
  rename_i h1 h2
  split at h
  · refine ⟨by omega, fun v hv => ?_, by assumption⟩
    rw [Bool.not_eq_true, List.any_eq_false] at h2
    have := h2 v hv
    simpa [id6] using this
  · cases h
theorem qf6_of {xs : List Int} (h1 : xs.length ≤ 5) (h2 : ∀ v, v ∈ xs → 0 ≤ v ∧ v ≤ 4) (h3 : xs.Nodup) : qf6 xs = 0 := by
  unfold qf6
  rw [if_neg (by omega), if_neg, if_pos h3]
  rw [Bool.not_eq_true, List.any_eq_false]
  intro v hv
  simpa [id6] using h2 v hv
/-- numbers below a bound, none twice, are not more than that -/
theorem nodup_few : ∀ (n : Nat) (xs : List Int), xs.Nodup → (∀ v, v ∈ xs → 0 ≤ v ∧ v < n) → xs.length ≤ n := by
  intro n
  induction n with
  | zero =>
    intro xs _ h
    cases xs with
    | nil => simp
    | cons x r => have := h x (.head _); omega
  | succ n ih =>
    intro xs hn h
    by_cases hm : ((n : Nat) : Int) ∈ xs
    · have h1 := ih (xs.erase ((n : Nat) : Int)) (hn.erase _) (fun v hv => by
        obtain ⟨hne, hv'⟩ := (List.Nodup.mem_erase_iff hn).1 hv
        have := h v hv'
        omega)
      rw [List.length_erase_of_mem hm] at h1
      have : 0 < xs.length := List.length_pos_of_mem hm
      omega
    · have h1 := ih xs hn (fun v hv => by
        have := h v hv
        have : v ≠ n := fun e => hm (e ▸ hv)
        omega)
      omega
theorem lf6_zero {o : Int} {xs : List Int} (h : lf6 o xs = 0) : (o = -1 ∨ (0 ≤ o ∧ o ≤ 4)) ∧ qf6 xs = 0 ∧ (o = -1 → xs = []) ∧ o ∉ xs := by
  unfold lf6 at h
  split at h
  · cases h
  rename_i h1
  split at h
  · contradiction
  rename_i h2
  split at h
  · cases h
  rename_i h3
  refine ⟨?_, by simpa using h2, fun e => ?_, fun hm => h3 (.inr hm)⟩
  · rcases Decidable.em (o = -1) with e | e
    · exact .inl e
    · right
      rcases hi : id6 o with _ | _
      · exact absurd ⟨e, hi⟩ h1
      · simpa [id6] using hi
  · rcases xs with _ | ⟨x, r⟩
    · rfl
    · exact absurd (.inl ⟨e, by simp⟩) h3
theorem lf6_of {o : Int} {xs : List Int} (h1 : o = -1 ∨ (0 ≤ o ∧ o ≤ 4)) (h2 : qf6 xs = 0) (h3 : o = -1 → xs = []) (h4 : o ∉ xs) : lf6 o xs = 0 := by
  unfold lf6
  rw [if_neg, if_neg (by simp [h2]), if_neg]
  · rintro (⟨e, hp⟩ | hm)
    · rw [h3 e] at hp; simp at hp
    · exact h4 hm
  · rintro ⟨hne, hi⟩
    rcases h1 with h | h
    · exact hne h
    · simp [id6] at hi; omega
/-- a lock that was taken has no fault -/
theorem tk6_ok {o id : Int} {xs : List Int} (h : lf6 o xs = 0) (h0 : (tk6 o xs id).1 = 0) : lf6 (tk6 o xs id).2.2.2.1 (tk6 o xs id).2.2.2.2.1 = 0 := by
  obtain ⟨ho, hq, he, hm⟩ := lf6_zero h
  obtain ⟨hl, hr, hn⟩ := qf6_zero hq
  unfold tk6 at h0 ⊢
  by_cases h1 : id6 id = false
  · rw [if_pos h1] at h0; cases h0
  rw [if_neg h1] at h0 ⊢
  by_cases h2 : o = id ∨ id ∈ xs
  · rw [if_pos h2] at h0; cases h0
  rw [if_neg h2] at h0 ⊢
  have hid : 0 ≤ id ∧ id ≤ 4 := by simpa [id6] using h1
  by_cases h3 : o = -1
  · rw [if_pos h3]
    exact lf6_of (.inr hid) rfl (fun e => rfl) (by simp)
  · rw [if_neg h3]
    have ho' : 0 ≤ o ∧ o ≤ 4 := by rcases ho with h' | h'; exact absurd h' h3; exact h'
    have hnd : (o :: (xs ++ [id])).Nodup := by
      rw [List.nodup_cons]
      refine ⟨fun hmm => ?_, ?_⟩
      · rw [List.mem_append] at hmm
        rcases hmm with h' | h'
        · exact hm h'
        · simp at h'; exact h2 (.inl h')
      · rw [List.nodup_append]
        refine ⟨hn, by simp, fun a ha b hb => ?_⟩
        simp at hb
        rintro rfl
        exact h2 (.inr (hb ▸ ha))
    have hall : ∀ v, v ∈ o :: (xs ++ [id]) → 0 ≤ v ∧ v ≤ 4 := fun v hv => by
      simp only [List.mem_cons, List.mem_append, List.not_mem_nil, or_false] at hv
      rcases hv with rfl | h' | rfl
      · exact ho'
      · exact hr v h'
      · exact hid
    have hlen := nodup_few 5 _ hnd (fun v hv => by have := hall v hv; omega)
    refine lf6_of (.inr ho') (qf6_of ?_ (fun v hv => hall v (.tail _ hv)) (List.nodup_cons.1 hnd).2) (fun e => absurd e h3) (List.nodup_cons.1 hnd).1
    simp only [List.length_cons] at hlen
    show (xs ++ [id]).length ≤ 5
    omega
/-- the model's way of taking: at a lock without a fault -/
theorem take6_ok {o id : Int} {xs : List Int} (h : lf6 o xs = 0) : take6 o xs id = tk6 o xs id := by unfold take6; rw [if_neg (by simp [h])]
theorem tk6_len {o id : Int} {xs : List Int} : (tk6 o xs id).2.2.2.2.1.length ≤ xs.length + 1 ∧ (tk6 o xs id).2.2.2.2.2 = [] := by
  unfold tk6 z6
  split
  · simp
  split
  · simp
  split <;> simp

end Go.Proofs.YtachpoehejdpjaaDoor
