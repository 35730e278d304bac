/-
  Who leaves, who joins: the schedule behind it has no fault; who joins and leaves at once is where it was. No program is named here.
-/
import Derived.Test.YtckapndpefkcgaaMath5c
set_option maxHeartbeats 1000000
namespace Go.Proofs.Ytckapndpefkcgaa
open Go.RowKit

theorem bas_nil (b : Int) : bas [] b = b := rfl
theorem bas_ne {xs : List R3} (h : xs ≠ []) (b : Int) : bas xs b = (lst xs).1.2.2 := by unfold bas; rw [if_pos (lst_true h)]
theorem okR_parts {b : Int} {x : R3} (h : okR b x = true) : okId x.1 = true ∧ okT x.2.1 = true ∧ b ≤ x.2.2 ∧ x.2.2 ≤ b + strd x.2.1 := by
  unfold okR at h
  simp at h
  exact ⟨h.1.1, h.1.2, h.2.1, h.2.2⟩
theorem okR_mk {b : Int} {x : R3} (h1 : okId x.1 = true) (h2 : okT x.2.1 = true) (h3 : b ≤ x.2.2) (h4 : x.2.2 ≤ b + strd x.2.1) : okR b x = true := by
  unfold okR
  rw [h1, h2]
  simp
  exact ⟨h3, h4⟩
theorem lv5_none {xs : List R3} {i : Int} (h : mth xs i = none) : lv5 xs i = xs := by
  unfold lv5
  rw [List.filter_eq_self]
  intro x hx
  simpa using mth_none.1 h x hx
theorem lv5_len {xs : List R3} (hr : Ris xs) {i : Int} (h : mth xs i ≠ none) : (lv5 xs i).length + 1 = xs.length := by
  induction xs with
  | nil => exact absurd (mth_nil i) h
  | cons y t ih =>
    by_cases e : y.1 = i
    · have hn : mth t i = none := mth_none.2 fun x hx => by
        have := (List.pairwise_cons.1 hr.up).1 x hx
        omega
      have e1 : lv5 (y :: t) i = lv5 t i := by
        unfold lv5
        rw [List.filter_cons_of_neg (by simpa using e)]
      rw [e1, lv5_none hn]
      simp
    · have h' : mth t i ≠ none := by
        rw [mth_cons, if_neg e] at h
        exact h
      have e1 : lv5 (y :: t) i = y :: lv5 t i := by
        unfold lv5
        rw [List.filter_cons_of_pos (by simpa using e)]
      rw [e1]
      have := ih hr.tail h'
      simp
      omega
theorem leave5_succ {b : Int} {xs : List R3} {i : Int} (h : (leave5 b xs i).1 = 0) :
    leave5 b xs i = (0, 0, pass5 xs i - b, bas (lv5 xs i) b, lv5 xs i) ∧ sf5 b xs = 0 ∧ sf5 (bas (lv5 xs i) b) (lv5 xs i) = 0 ∧ (lv5 xs i).length + 1 = xs.length ∧ b ≤ bas (lv5 xs i) b := by
  have h0 : sf5 b xs = 0 := by
    unfold leave5 at h
    by_cases e : sf5 b xs = 0
    · exact e
    · rw [if_pos e] at h
      exact absurd h e
  unfold leave5 at h ⊢
  rw [if_neg (fun e => e h0)] at h ⊢
  by_cases h1 : mth xs i = none
  · rw [if_pos h1] at h; exact absurd h (by decide)
  rw [if_neg h1] at h ⊢
  by_cases h2 : 10000000 < bas (lv5 xs i) b
  · rw [if_pos h2] at h; exact absurd h (by decide)
  rw [if_neg h2]
  obtain ⟨a1, a2, a3, a4⟩ := sf5_zero h0
  have hm : ∀ x, x ∈ lv5 xs i → x ∈ xs := fun x hx => (List.mem_filter.1 hx).1
  refine ⟨rfl, h0, ?_, lv5_len a3 h1, ?_⟩
  · by_cases hn : lv5 xs i = []
    · rw [hn, bas_nil]
      exact sf5_of a1 (fun x hx => by cases hx) ⟨List.Pairwise.nil, fun x hx => by cases hx⟩ (bas_nil b)
    · have hb := bas_ne hn b
      have o := okR_parts (okR_mem a2 (hm _ (lst_mem hn)))
      refine sf5_of (by rw [hb] at h2 ⊢; omega) (fun x hx => ?_) (a3.lv i) (by rw [bas_ne hn, hb])
      obtain ⟨o1, o2, o3, o4⟩ := okR_parts (okR_mem a2 (hm x hx))
      have := lst_le hx
      rw [hb]
      exact okR_mk o1 o2 this (by omega)
  · by_cases hn : lv5 xs i = []
    · rw [hn, bas_nil]; exact Int.le_refl _
    · rw [bas_ne hn]
      exact (okR_parts (okR_mem a2 (hm _ (lst_mem hn)))).2.2.1
theorem ins5_ne (xs : List R3) (v : R3) : ins5 xs v ≠ [] := fun e => by
  have := ins5_len xs v
  rw [e] at this
  simp at this
theorem mem_ins_old {xs : List R3} {v x : R3} (h : x ∈ xs) : x ∈ ins5 xs v := by
  induction xs with
  | nil => cases h
  | cons y t ih =>
    unfold ins5
    by_cases e : v.1 < y.1
    · rw [if_pos e]; exact .tail _ h
    · rw [if_neg e]
      rcases List.mem_cons.1 h with rfl | h'
      · exact .head _
      · exact .tail _ (ih h')
theorem mem_ins_new (xs : List R3) (v : R3) : v ∈ ins5 xs v := by
  induction xs with
  | nil => exact .head _
  | cons y t ih =>
    unfold ins5
    by_cases e : v.1 < y.1
    · rw [if_pos e]; exact .head _
    · rw [if_neg e]; exact .tail _ ih
theorem lv5_ins {xs : List R3} {v : R3} (h : mth xs v.1 = none) : lv5 (ins5 xs v) v.1 = xs := by
  induction xs with
  | nil => unfold lv5 ins5; simp
  | cons y t ih =>
    have hy : y.1 ≠ v.1 := mth_none.1 h y (.head _)
    have ht : mth t v.1 = none := mth_none.2 fun x hx => mth_none.1 h x (.tail _ hx)
    unfold ins5
    by_cases e : v.1 < y.1
    · rw [if_pos e]
      have : lv5 (v :: y :: t) v.1 = lv5 (y :: t) v.1 := by
        unfold lv5
        rw [List.filter_cons_of_neg (by simp)]
      rw [this, lv5_none h]
    · rw [if_neg e]
      have : lv5 (y :: ins5 t v) v.1 = y :: lv5 (ins5 t v) v.1 := by
        unfold lv5
        rw [List.filter_cons_of_pos (by simpa using hy)]
      rw [this, ih ht]
theorem join5_succ {b : Int} {xs : List R3} {i t r : Int} (h : (join5 b xs i t r).1 = 0) :
    join5 b xs i t r = (0, 0, 0, bas (ins5 xs (i, t, b + r)) b, ins5 xs (i, t, b + r)) ∧ sf5 b xs = 0 ∧ sf5 (bas (ins5 xs (i, t, b + r)) b) (ins5 xs (i, t, b + r)) = 0 ∧
      (leave5 (bas (ins5 xs (i, t, b + r)) b) (ins5 xs (i, t, b + r)) i).1 = 0 ∧ (xs ≠ [] → (leave5 (bas (ins5 xs (i, t, b + r)) b) (ins5 xs (i, t, b + r)) i).2.2.2 = (b, xs)) := by
  have h0 : sf5 b xs = 0 := by
    unfold join5 at h
    by_cases e : sf5 b xs = 0
    · exact e
    · rw [if_pos e] at h
      exact absurd h e
  unfold join5 at h ⊢
  rw [if_neg (fun e => e h0)] at h ⊢
  by_cases h1 : ¬ (okId i = true ∧ okT t = true ∧ 0 ≤ r ∧ r ≤ strd t)
  · rw [if_pos h1] at h; exact absurd h (by decide)
  rw [if_neg h1] at h ⊢
  by_cases h2 : mth xs i ≠ none
  · rw [if_pos h2] at h; exact absurd h (by decide)
  rw [if_neg h2] at h ⊢
  by_cases h3 : 10000000 < b + r
  · rw [if_pos h3] at h; exact absurd h (by decide)
  rw [if_neg h3]
  obtain ⟨a1, a2, a3, a4⟩ := sf5_zero h0
  obtain ⟨hi, ht, hr0, hr1⟩ := Decidable.not_not.1 h1
  have hn : mth xs i = none := Decidable.not_not.1 h2
  have hid : 0 ≤ i ∧ i < 5 := by unfold okId at hi; simp at hi; exact hi
  obtain ⟨v, hv⟩ : ∃ v : R3, v = (i, t, b + r) := ⟨_, rfl⟩
  have v1 : v.1 = i := by rw [hv]
  have v2 : v.2.1 = t := by rw [hv]
  have v3 : v.2.2 = b + r := by rw [hv]
  rw [← hv]
  have hris : Ris (ins5 xs v) := a3.ins (by rw [v1]; exact hid) (by rw [v1]; exact hn)
  have hne := ins5_ne xs v
  have hbase : bas (ins5 xs v) b = if xs = [] then b + r else b := by
    rw [bas_ne hne]
    by_cases e : xs = []
    · subst e
      rw [if_pos rfl]
      have := lst_mem hne
      have e1 : (lst (ins5 [] v)).1 = v := by simpa [ins5] using this
      rw [e1, v3]
    · rw [if_neg e]
      have hl := lst_le (mem_ins_old (v := v) (lst_mem e))
      rw [bas_ne e] at a4
      have hge : b ≤ (lst (ins5 xs v)).1.2.2 := by
        rcases mem_ins (lst_mem hne) with e1 | e1
        · rw [e1, v3]; omega
        · exact (okR_parts (okR_mem a2 e1)).2.2.1
      omega
  have hsf : sf5 (bas (ins5 xs v) b) (ins5 xs v) = 0 := by
    have hb : bas (ins5 xs v) (bas (ins5 xs v) b) = bas (ins5 xs v) b := by rw [bas_ne hne, bas_ne hne]
    refine sf5_of ?_ (fun x hx => ?_) hris hb
    · rw [hbase]
      by_cases e : xs = []
      · rw [if_pos e]; omega
      · rw [if_neg e]; exact a1
    · rw [hbase]
      rcases mem_ins hx with e1 | e1
      · subst e1
        by_cases e : xs = []
        · rw [if_pos e]
          have := strd_in ht
          exact okR_mk (by rw [v1]; exact hi) (by rw [v2]; exact ht) (by omega) (by rw [v2]; omega)
        · rw [if_neg e]
          exact okR_mk (by rw [v1]; exact hi) (by rw [v2]; exact ht) (by omega) (by rw [v2]; omega)
      · have e : xs ≠ [] := fun e => by rw [e] at e1; cases e1
        rw [if_neg e]
        exact okR_mem a2 e1
  have hmth : mth (ins5 xs v) i ≠ none := fun e => mth_none.1 e v (mem_ins_new xs v) v1
  have hlv : lv5 (ins5 xs v) i = xs := by
    have := lv5_ins (xs := xs) (v := v) (by rw [v1]; exact hn)
    rwa [v1] at this
  have hlim : ¬ 10000000 < bas xs (bas (ins5 xs v) b) := by
    by_cases e : xs = []
    · rw [hbase, if_pos e, e, bas_nil]; omega
    · rw [bas_ne e]
      rw [bas_ne e] at a4
      omega
  have hle : leave5 (bas (ins5 xs v) b) (ins5 xs v) i = (0, 0, pass5 (ins5 xs v) i - bas (ins5 xs v) b, bas xs (bas (ins5 xs v) b), xs) := by
    unfold leave5
    rw [if_neg (fun e => e hsf), if_neg hmth, hlv, if_neg hlim]
  refine ⟨rfl, h0, hsf, by rw [hle], fun e => ?_⟩
  rw [hle]
  show (bas xs (bas (ins5 xs v) b), xs) = (b, xs)
  rw [bas_ne e]
  rw [bas_ne e] at a4
  rw [a4]

end Go.Proofs.Ytckapndpefkcgaa
