/-
  What the two laws of chapter 6 ask of the functions on lists: who takes, passes, waits, is woken; waking one over and over is waking all. No program is named here.
-/
import Derived.Test.YtachpoehejdpjaaDoorMath6b
namespace Go.Proofs.YtachpoehejdpjaaDoor
open Go.RowKit

theorem qf6_drop {xs : List Int} (h : qf6 xs = 0) (i : Nat) : qf6 (xs.drop i) = 0 := by
  obtain ⟨h1, h2, h3⟩ := qf6_zero h
  exact qf6_of (by simp; omega) (fun v hv => h2 v (List.mem_of_mem_drop hv)) (h3.sublist (List.drop_sublist i xs))
theorem wf6_of {ys : List Int} {o : Int} {xs : List Int} (h1 : qf6 ys = 0) (h2 : lf6 o xs = 0) : wf6 ys o xs = 0 := by
  unfold wf6
  rw [if_neg (by simp [h1])]
  exact h2
theorem wf6_parts {ys : List Int} {o : Int} {xs : List Int} (h : wf6 ys o xs = 0) : qf6 ys = 0 ∧ lf6 o xs = 0 := by
  refine ⟨?_, (wf6_zero h).2⟩
  unfold wf6 at h
  by_cases h1 : qf6 ys ≠ 0
  · rw [if_pos h1] at h; exact absurd h h1
  · simpa using h1
/-- waking all succeeds: no fault, and it goes step by step -/
theorem all6_ok {ys : List Int} {o : Int} {xs : List Int} (h : (all6 ys o xs).1 = 0) : wf6 ys o xs = 0 ∧ all6 ys o xs = wa6 ys o xs := by
  by_cases e : wf6 ys o xs = 0
  · refine ⟨e, ?_⟩
    unfold all6
    rw [if_neg (by simp [e])]
  · unfold all6 at h
    rw [if_pos e] at h
    exact absurd h e
/-- one step of it: the one at the front takes the lock -/
theorem go6_step {ys : List Int} {i : Nat} (hi : i < ys.length) {g : Bool} {n o : Int} {xs : List Int} (h : (go6 (ys.drop i) (0, g, n, o, xs, [])).1 = 0) :
    (tk6 o xs (gi ys i)).1 = 0 ∧ ∃ g' n', go6 (ys.drop (i + 1)) (0, g', n', (tk6 o xs (gi ys i)).2.2.2.1, (tk6 o xs (gi ys i)).2.2.2.2.1, []) = go6 (ys.drop i) (0, g, n, o, xs, []) := by
  by_cases hq : (tk6 o xs (gi ys i)).1 = 0
  · refine ⟨hq, ?_⟩
    cases hg : (tk6 o xs (gi ys i)).2.1 with
    | true => exact ⟨true, gi ys i, (go6_got ys i hi g n o xs hq hg).symm⟩
    | false => exact ⟨g, n, (go6_not ys i hi g n o xs hq hg).symm⟩
  · rw [go6_err ys i hi g n o xs hq] at h
    exact absurd h hq
/-- waking one of what is left: the same step -/
theorem one6_step {ys : List Int} {i : Nat} (hi : i < ys.length) {o : Int} {xs : List Int} (hf : wf6 (ys.drop i) o xs = 0) (hq : (tk6 o xs (gi ys i)).1 = 0) :
    one6 (ys.drop i) o xs = (0, (tk6 o xs (gi ys i)).2.1, gi ys i, (tk6 o xs (gi ys i)).2.2.2.1, (tk6 o xs (gi ys i)).2.2.2.2.1, ys.drop (i + 1)) := by
  have e0 : gi (ys.drop i) 0 = gi ys i := by rw [drop_gi ys i hi]; rfl
  have e1 : (ys.drop i).drop 1 = ys.drop (i + 1) := by rw [List.drop_drop]
  unfold one6
  rw [if_neg (by simp [hf])]
  unfold wn6
  rw [if_neg (by simp; omega), e0, if_neg (by simp [hq]), e1]
/-- a round of the law's loop: what is left, the lock now, and that it still leads to waking all -/
def Woken (ys : List Int) (tot : A6) (i : Nat) (o : Int) (xs : List Int) : Prop :=
  qf6 ys = 0 ∧ lf6 o xs = 0 ∧ tot.1 = 0 ∧ ∃ g n, go6 (ys.drop i) (0, g, n, o, xs, []) = tot
theorem Woken.start {ys : List Int} {o : Int} {xs : List Int} (h : (all6 ys o xs).1 = 0) : Woken ys (all6 ys o xs) 0 o xs := by
  obtain ⟨h1, h2⟩ := all6_ok h
  obtain ⟨h3, h4⟩ := wf6_parts h1
  exact ⟨h3, h4, h, false, -1, by rw [h2, List.drop_zero]; rfl⟩
theorem Woken.next {ys : List Int} {tot : A6} {i : Nat} {o : Int} {xs : List Int} (h : Woken ys tot i o xs) (hi : i < ys.length) :
    ∃ g o' xs', one6 (ys.drop i) o xs = (0, g, gi ys i, o', xs', ys.drop (i + 1)) ∧ Woken ys tot (i + 1) o' xs' := by
  obtain ⟨h1, h2, h3, g, n, h4⟩ := h
  obtain ⟨hq, g', n', h5⟩ := go6_step hi (by rw [h4]; exact h3)
  exact ⟨_, _, _, one6_step hi (wf6_of (qf6_drop h1 i) h2) hq, h1, tk6_ok h2 hq, h3, g', n', by rw [h5, h4]⟩
theorem Woken.last {ys : List Int} {tot : A6} {o : Int} {xs : List Int} (h : Woken ys tot ys.length o xs) : tot.2.2.2.1 = o ∧ tot.2.2.2.2.1 = xs ∧ lf6 o xs = 0 := by
  obtain ⟨_, h2, _, g, n, h4⟩ := h
  rw [go6_end ys ys.length (Nat.le_refl _)] at h4
  subst h4
  exact ⟨rfl, rfl, h2⟩
theorem Woken.few {ys : List Int} {tot : A6} {i : Nat} {o : Int} {xs : List Int} (h : Woken ys tot i o xs) : ys.length ≤ 5 ∧ xs.length ≤ 5 := ⟨(qf6_zero h.1).1, lf6_few h.2.1⟩
/-- waiting: who waits is behind the others, and the queue has no fault -/
theorem wait6_ok {xs : List Int} {id : Int} (h : (wait6 xs id).1 = 0) : wait6 xs id = (0, false, -1, 0, [], xs ++ [id]) ∧ qf6 (xs ++ [id]) = 0 := by
  unfold wait6 at h ⊢
  by_cases h0 : qf6 xs = 0
  · rw [if_neg (by simp [h0])] at h ⊢
    unfold wt6 at h ⊢
    by_cases h1 : id6 id = false
    · rw [if_pos h1] at h; cases h
    rw [if_neg h1] at h ⊢
    by_cases h2 : id ∈ xs
    · rw [if_pos h2] at h; cases h
    rw [if_neg h2]
    obtain ⟨hl, hr, hn⟩ := qf6_zero h0
    have hid : 0 ≤ id ∧ id ≤ 4 := by simpa [id6] using h1
    have hnd : (xs ++ [id]).Nodup := by
      rw [List.nodup_append]
      refine ⟨hn, by simp, fun a ha b hb => ?_⟩
      simp at hb
      rintro rfl
      exact h2 (hb ▸ ha)
    have hall : ∀ v, v ∈ xs ++ [id] → 0 ≤ v ∧ v ≤ 4 := fun v hv => by
      simp only [List.mem_append, List.mem_cons, List.not_mem_nil, or_false] at hv
      rcases hv with h' | rfl
      · exact hr v h'
      · exact hid
    exact ⟨rfl, qf6_of (nodup_few 5 _ hnd (fun v hv => by have := hall v hv; omega)) hall hnd⟩
  · rw [if_pos h0] at h
    exact absurd h h0
/-- taking succeeds: no fault before and none after; it got the lock where that was free; the same one again is told that it has it -/
theorem take6_succ {o id : Int} {xs : List Int} (h : (take6 o xs id).1 = 0) :
    lf6 o xs = 0 ∧ take6 o xs id = tk6 o xs id ∧ lf6 (take6 o xs id).2.2.2.1 (take6 o xs id).2.2.2.2.1 = 0 ∧ (take6 o xs id).2.1 = decide (o = -1) ∧
      (take6 (take6 o xs id).2.2.2.1 (take6 o xs id).2.2.2.2.1 id).1 = 6 := by
  have h0 : lf6 o xs = 0 := by
    unfold take6 at h
    by_cases e : lf6 o xs = 0
    · exact e
    · rw [if_pos e] at h
      exact absurd h e
  have e1 := take6_ok (id := id) h0
  rw [e1] at h ⊢
  have h2 := tk6_ok h0 h
  refine ⟨h0, rfl, h2, ?_, ?_⟩
  · unfold tk6 at h ⊢
    by_cases a1 : id6 id = false
    · rw [if_pos a1] at h; cases h
    rw [if_neg a1] at h ⊢
    by_cases a2 : o = id ∨ id ∈ xs
    · rw [if_pos a2] at h; cases h
    rw [if_neg a2]
    by_cases a3 : o = -1
    · rw [if_pos a3]; simp [a3]
    · rw [if_neg a3]; simp [a3]
  · rw [take6_ok h2]
    unfold tk6 at h ⊢
    by_cases a1 : id6 id = false
    · rw [if_pos a1] at h; cases h
    simp only [if_neg a1] at h ⊢
    by_cases a2 : o = id ∨ id ∈ xs
    · rw [if_pos a2] at h; cases h
    simp only [if_neg a2] at h ⊢
    by_cases a3 : o = -1
    · simp only [if_pos a3]
      rw [if_pos (by simp)]
      rfl
    · simp only [if_neg a3]
      rw [if_pos (by simp)]
      rfl

/-- the first of a queue without a fault takes over -/
theorem lf6_front {o : Int} {xs : List Int} (h : lf6 o xs = 0) (h0 : 0 < xs.length) : lf6 (gi xs 0) (xs.drop 1) = 0 := by
  obtain ⟨_, hq, _, _⟩ := lf6_zero h
  obtain ⟨hl, hr, hn⟩ := qf6_zero hq
  cases xs with
  | nil => simp at h0
  | cons x t =>
    show lf6 x t = 0
    obtain ⟨n1, n2⟩ := List.nodup_cons.1 hn
    have hx := hr x (.head _)
    exact lf6_of (.inr hx) (qf6_of (by simp at hl; omega) (fun v hv => hr v (.tail _ hv)) n2) (fun e => by omega) n1
/-- passing succeeds: no fault before and none after; the next one has the lock; who passed has it no more -/
theorem pass6_succ {o id : Int} {xs : List Int} (h : (pass6 o xs id).1 = 0) :
    lf6 o xs = 0 ∧ o = id ∧ id6 id = true ∧ lf6 (pass6 o xs id).2.2.2.1 (pass6 o xs id).2.2.2.2.1 = 0 ∧ (pass6 o xs id).2.2.2.1 = (pass6 o xs id).2.2.1 ∧
      (pass6 (pass6 o xs id).2.2.2.1 (pass6 o xs id).2.2.2.2.1 id).1 = 7 := by
  have h0 : lf6 o xs = 0 := by
    unfold pass6 at h
    by_cases e : lf6 o xs = 0
    · exact e
    · rw [if_pos e] at h
      exact absurd h e
  have e1 : pass6 o xs id = ps6 o xs id := by unfold pass6; rw [if_neg (by simp [h0])]
  obtain ⟨ho, hq, he, hm⟩ := lf6_zero h0
  rw [e1] at h ⊢
  by_cases a1 : id6 id = false
  · unfold ps6 at h; rw [if_pos a1] at h; cases h
  by_cases a2 : o = id
  rotate_left
  · unfold ps6 at h; rw [if_neg a1, if_pos a2] at h; cases h
  subst a2
  have hid : 0 ≤ o ∧ o ≤ 4 := by simpa [id6] using a1
  refine ⟨h0, rfl, by simpa using a1, ?_⟩
  by_cases a3 : xs.length = 0
  · have e2 : ps6 o xs o = (0, false, -1, -1, [], []) := by unfold ps6; rw [if_neg a1, if_neg (by simp), if_pos a3]
    rw [e2]
    refine ⟨rfl, rfl, ?_⟩
    show (pass6 (-1) [] o).1 = 7
    unfold pass6
    rw [if_neg (by decide)]
    unfold ps6
    rw [if_neg a1, if_pos (by omega)]
    rfl
  · have e2 : ps6 o xs o = (0, false, gi xs 0, gi xs 0, xs.drop 1, []) := by unfold ps6; rw [if_neg a1, if_neg (by simp), if_neg a3]
    have hf := lf6_front h0 (by omega)
    rw [e2]
    refine ⟨hf, rfl, ?_⟩
    show (pass6 (gi xs 0) (xs.drop 1) o).1 = 7
    have hne : gi xs 0 ≠ o := fun e => hm (by rw [← e, gi_lt xs 0 (by omega)]; exact List.getElem_mem _)
    unfold pass6
    rw [if_neg (fun e => e hf)]
    unfold ps6
    rw [if_neg a1, if_pos hne]
    rfl
/-- a round of the law's loop of passing -/
theorem pass6_step {o : Int} {xs : List Int} {i : Nat} (hi : i < xs.length) (h : lf6 o (xs.drop i) = 0) :
    pass6 o (xs.drop i) o = (0, false, gi xs i, gi xs i, xs.drop (i + 1), []) ∧ lf6 (gi xs i) (xs.drop (i + 1)) = 0 := by
  obtain ⟨ho, hq, he, hm⟩ := lf6_zero h
  have hl : 0 < (xs.drop i).length := by simp; omega
  have e0 : gi (xs.drop i) 0 = gi xs i := by rw [drop_gi xs i hi]; rfl
  have e1 : (xs.drop i).drop 1 = xs.drop (i + 1) := by rw [List.drop_drop]
  have ho' : 0 ≤ o ∧ o ≤ 4 := by
    rcases ho with h' | h'
    · rw [he h'] at hl; simp at hl
    · exact h'
  have hid : ¬ id6 o = false := by simp [id6]; omega
  have hf := lf6_front h hl
  rw [e0, e1] at hf
  refine ⟨?_, hf⟩
  unfold pass6
  rw [if_neg (by simp [h])]
  unfold ps6
  rw [if_neg hid, if_neg (by simp), if_neg (by omega), e0, e1]

end Go.Proofs.YtachpoehejdpjaaDoor
