/-
  A schedule that is right but for the bound of its base stays so: who leaves, who joins, who is picked. No program is named here.
-/
import Derived.Test.YtckapndpefkcgaaMath5d
set_option maxHeartbeats 1000000
namespace Go.Proofs.Ytckapndpefkcgaa
open Go.RowKit

structure In5 (b : Int) (xs : List R3) : Prop where
  ok : ∀ x, x ∈ xs → okR b x = true
  ri : Ris xs
  ba : bas xs b = b
theorem In5.nil (b : Int) : In5 b [] := ⟨fun x hx => (by cases hx), ⟨List.Pairwise.nil, fun x hx => (by cases hx)⟩, bas_nil b⟩
theorem In5.any {b : Int} {xs : List R3} (h : In5 b xs) : anyTo xs.length (badR b xs) = false := anyTo_false.2 fun i hi => by
  unfold badR
  rw [h.ok _ (g3_mem hi)]
  rfl
theorem In5.lv {b : Int} {xs : List R3} (h : In5 b xs) (i : Int) : In5 (bas (lv5 xs i) b) (lv5 xs i) ∧ b ≤ bas (lv5 xs i) b ∧ bas (lv5 xs i) b ≤ b + 2520 := by
  have hm : ∀ x, x ∈ lv5 xs i → x ∈ xs := fun x hx => (List.mem_filter.1 hx).1
  by_cases hn : lv5 xs i = []
  · rw [hn, bas_nil]
    exact ⟨In5.nil b, Int.le_refl _, by omega⟩
  · have hb := bas_ne hn b
    obtain ⟨o1, o2, o3, o4⟩ := okR_parts (h.ok _ (hm _ (lst_mem hn)))
    have hs := strd_in o2
    refine ⟨⟨fun x hx => ?_, h.ri.lv i, by rw [bas_ne hn, hb]⟩, by rw [hb]; exact o3, by rw [hb]; omega⟩
    obtain ⟨p1, p2, p3, p4⟩ := okR_parts (h.ok x (hm x hx))
    have := lst_le hx
    rw [hb]
    exact okR_mk p1 p2 this (by omega)
theorem In5.ins {b : Int} {xs : List R3} (h : In5 b xs) {i t r : Int} (hi : okId i = true) (ht : okT t = true) (hr0 : 0 ≤ r) (hr1 : r ≤ strd t) (hn : mth xs i = none) :
    In5 (bas (ins5 xs (i, t, b + r)) b) (ins5 xs (i, t, b + r)) ∧ b ≤ bas (ins5 xs (i, t, b + r)) b ∧ bas (ins5 xs (i, t, b + r)) b ≤ b + 2520 := by
  have hid : 0 ≤ i ∧ i < 5 := by unfold okId at hi; simp at hi; exact hi
  obtain ⟨v, hv⟩ : ∃ v : R3, v = (i, t, b + r) := ⟨_, rfl⟩
  have v1 : v.1 = i := by rw [hv]
  have v2 : v.2.1 = t := by rw [hv]
  have v3 : v.2.2 = b + r := by rw [hv]
  have hs := strd_in ht
  rw [← hv]
  have hris : Ris (ins5 xs v) := h.ri.ins (by rw [v1]; exact hid) (by rw [v1]; exact hn)
  have hne := ins5_ne xs v
  have a4 := h.ba
  have hbase : bas (ins5 xs v) b = if xs = [] then b + r else b := by
    rw [bas_ne hne]
    by_cases e : xs = []
    · subst e
      rw [if_pos rfl]
      have := lst_mem hne
      have e1 : (lst (ins5 [] v)).1 = v := by simpa [ins5] using this
      rw [e1, v3]
    · rw [if_neg e]
      have hl := lst_le (mem_ins_old (v := v) (lst_mem e))
      rw [bas_ne e] at a4
      have hge : b ≤ (lst (ins5 xs v)).1.2.2 := by
        rcases mem_ins (lst_mem hne) with e1 | e1
        · rw [e1, v3]; omega
        · exact (okR_parts (h.ok _ e1)).2.2.1
      omega
  have hb : bas (ins5 xs v) (bas (ins5 xs v) b) = bas (ins5 xs v) b := by rw [bas_ne hne, bas_ne hne]
  refine ⟨⟨fun x hx => ?_, hris, hb⟩, ?_, ?_⟩
  · rw [hbase]
    rcases mem_ins hx with e1 | e1
    · subst e1
      by_cases e : xs = []
      · rw [if_pos e]
        exact okR_mk (by rw [v1]; exact hi) (by rw [v2]; exact ht) (by omega) (by rw [v2]; omega)
      · rw [if_neg e]
        exact okR_mk (by rw [v1]; exact hi) (by rw [v2]; exact ht) (by omega) (by rw [v2]; omega)
    · have e : xs ≠ [] := fun e => by rw [e] at e1; cases e1
      rw [if_neg e]
      exact h.ok _ e1
  · rw [hbase]
    by_cases e : xs = []
    · rw [if_pos e]; omega
    · rw [if_neg e]; omega
  · rw [hbase]
    by_cases e : xs = []
    · rw [if_pos e]; omega
    · rw [if_neg e]; omega
theorem In5.pk {b : Int} {xs : List R3} (h : In5 b xs) (hne : xs ≠ []) : In5 (nb5 b xs) (ny5 xs) ∧ b ≤ nb5 b xs ∧ nb5 b xs ≤ b + 2520 := by
  have hm := lst_mem hne
  have hmb : (lst xs).1.2.2 = b := by
    have h4 := h.ba
    rw [bas_ne hne] at h4
    exact h4
  have hy : ∀ y, y ∈ ny5 xs → okId y.1 = true ∧ okT y.2.1 = true ∧ b ≤ y.2.2 ∧ y.2.2 ≤ b + strd y.2.1 := by
    intro y hy
    unfold ny5 pk5 at hy
    obtain ⟨x, hx, e⟩ := List.mem_map.1 hy
    by_cases e1 : x.1 = (nxt5 (lst xs).1).1
    · rw [if_pos e1] at e
      have o := okR_parts (h.ok _ hm)
      subst e
      have := strd_in o.2.1
      unfold nxt5
      show okId (lst xs).1.1 = true ∧ okT (lst xs).1.2.1 = true ∧ b ≤ (lst xs).1.2.2 + strd (lst xs).1.2.1 ∧ (lst xs).1.2.2 + strd (lst xs).1.2.1 ≤ b + strd (lst xs).1.2.1
      exact ⟨o.1, o.2.1, by omega, by omega⟩
    · rw [if_neg e1] at e
      subst e
      exact okR_parts (h.ok _ hx)
  have hyne : ny5 xs ≠ [] := fun e => hne (List.length_eq_zero_iff.1 (by rw [← ny5_len, e]; rfl))
  have hnb : nb5 b xs = (lst (ny5 xs)).1.2.2 := by unfold nb5 bas; rw [if_pos (lst_true hyne)]
  obtain ⟨m1, m2, m3, m4⟩ := hy _ (lst_mem hyne)
  have ms := strd_in m2
  refine ⟨⟨fun y hyy => ?_, h.ri.pk _, by unfold bas; rw [if_pos (lst_true hyne), hnb]⟩, by rw [hnb]; exact m3, by rw [hnb]; omega⟩
  obtain ⟨o1, o2, o3, o4⟩ := hy y hyy
  have := lst_le hyy
  rw [hnb]
  exact okR_mk o1 o2 this (by omega)
theorem In5.sf {b : Int} {xs : List R3} (h : In5 b xs) (hb : 0 ≤ b ∧ b ≤ 10000000) : sf5 b xs = 0 := sf5_of hb h.ok h.ri h.ba
theorem In5.of {b : Int} {xs : List R3} (h : sf5 b xs = 0) : In5 b xs := by
  obtain ⟨h1, h2, h3, h4⟩ := sf5_zero h
  exact ⟨fun x hx => okR_mem h2 hx, h3, h4⟩
end Go.Proofs.Ytckapndpefkcgaa
