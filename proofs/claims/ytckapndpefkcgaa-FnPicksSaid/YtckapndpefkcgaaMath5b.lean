/-
  Who joins, leaves, is picked; schedules from another base: on lists. No program is named here.
-/
import Derived.Test.YtckapndpefkcgaaMath5
set_option maxHeartbeats 1000000
namespace Go.Proofs.Ytckapndpefkcgaa
open Go.RowKit

abbrev A5 := Int × Int × Int × Int × List R3
def e5 (q : Int) : A5 := (q, 0, 0, 0, [])
def lv5 (xs : List R3) (i : Int) : List R3 := xs.filter fun x => decide (x.1 ≠ i)
def pass5 (xs : List R3) (i : Int) : Int := ((mth xs i).getD (0, 0, 0)).2.2
def ins5 : List R3 → R3 → List R3
  | [], x => [x]
  | y :: t, x => if x.1 < y.1 then x :: y :: t else y :: ins5 t x
def pk5 (xs : List R3) (v : R3) : List R3 := xs.map fun x => if x.1 = v.1 then v else x
def nxt5 (x : R3) : R3 := (x.1, x.2.1, x.2.2 + strd x.2.1)
def pick5 (b : Int) (xs : List R3) : A5 :=
  if sf5 b xs ≠ 0 then e5 (sf5 b xs) else if xs = [] then e5 4 else if 10000000 < b + 2520 then e5 8
  else (0, (lst xs).1.1, 0, bas (pk5 xs (nxt5 (lst xs).1)) b, pk5 xs (nxt5 (lst xs).1))
def sh5 (b : Int) (x : R3) : R3 := (x.1, x.2.1, x.2.2 - b)
def rebase5 (b : Int) (xs : List R3) : A5 := if sf5 b xs ≠ 0 then e5 (sf5 b xs) else (0, 0, b, 0, xs.map (sh5 b))

theorem mth_mem {xs : List R3} {j : Int} {x : R3} (h : mth xs j = some x) : x ∈ xs ∧ x.1 = j := by
  unfold mth at h
  exact ⟨List.mem_of_find?_eq_some h, by have := List.find?_some h; simpa using this⟩
theorem mth_none {xs : List R3} {j : Int} : mth xs j = none ↔ ∀ x, x ∈ xs → x.1 ≠ j := by
  unfold mth; rw [List.find?_eq_none]; simp
theorem Ris.lv {xs : List R3} (h : Ris xs) (i : Int) : Ris (lv5 xs i) := ⟨h.up.filter _, fun x hx => h.id x ((List.mem_filter.1 hx).1)⟩
theorem mem_ins {xs : List R3} {x y : R3} (h : y ∈ ins5 xs x) : y = x ∨ y ∈ xs := by
  induction xs with
  | nil => unfold ins5 at h; simpa using h
  | cons z t ih =>
    unfold ins5 at h
    by_cases e : x.1 < z.1
    · rw [if_pos e] at h
      simp at h ⊢
      rcases h with h | h | h
      · exact .inl h
      · exact .inr (.inl h)
      · exact .inr (.inr h)
    · rw [if_neg e] at h
      simp at h ⊢
      rcases h with h | h
      · exact .inr (.inl h)
      · rcases ih h with h | h
        · exact .inl h
        · exact .inr (.inr h)
theorem Ris.ins {xs : List R3} (h : Ris xs) {x : R3} (hx : 0 ≤ x.1 ∧ x.1 < 5) (hn : mth xs x.1 = none) : Ris (ins5 xs x) := by
  refine ⟨?_, fun y hy => ?_⟩
  · have hu := h.up
    clear h hx
    induction xs with
    | nil => unfold ins5; simp
    | cons z t ih =>
      obtain ⟨h1, h2⟩ := List.pairwise_cons.1 hu
      have hz := mth_none.1 hn z (.head _)
      unfold ins5
      by_cases e : x.1 < z.1
      · rw [if_pos e]
        refine List.pairwise_cons.2 ⟨fun y hy => ?_, hu⟩
        rcases List.mem_cons.1 hy with rfl | hy
        · exact e
        · have := h1 y hy; omega
      · rw [if_neg e]
        refine List.pairwise_cons.2 ⟨fun y hy => ?_, ih (mth_none.2 fun y hy => mth_none.1 hn y (.tail _ hy)) h2⟩
        rcases mem_ins hy with rfl | hy
        · omega
        · exact h1 y hy
  · rcases mem_ins hy with rfl | hy
    · exact hx
    · exact h.id y hy
theorem mth_map (xs : List R3) (f : R3 → R3) (hf : ∀ x, (f x).1 = x.1) (j : Int) : mth (xs.map f) j = (mth xs j).map f := by
  induction xs with
  | nil => rfl
  | cons x xs ih =>
    rw [List.map_cons, mth_cons, mth_cons, ih, hf]
    by_cases e : x.1 = j
    · rw [if_pos e, if_pos e]; rfl
    · rw [if_neg e, if_neg e]
theorem Ris.map {xs : List R3} (h : Ris xs) (f : R3 → R3) (hf : ∀ x, (f x).1 = x.1) : Ris (xs.map f) := by
  refine ⟨?_, fun y hy => ?_⟩
  · rw [List.pairwise_map]
    exact h.up.imp fun {a b} hab => by rw [hf, hf]; exact hab
  · obtain ⟨x, hx, rfl⟩ := List.mem_map.1 hy
    rw [hf]; exact h.id x hx
theorem pk_id (v x : R3) : (if x.1 = v.1 then v else x).1 = x.1 := by
  by_cases e : x.1 = v.1
  · rw [if_pos e, e]
  · rw [if_neg e]
theorem mth_pk (xs : List R3) (v : R3) (h : mth xs v.1 ≠ none) (j : Int) : mth (pk5 xs v) j = if j = v.1 then some v else mth xs j := by
  unfold pk5
  rw [mth_map xs _ (pk_id v)]
  by_cases e : j = v.1
  · rw [if_pos e]
    cases hm : mth xs j with
    | none => rw [e] at hm; exact absurd hm h
    | some x => simp [(mth_mem hm).2, e]
  · rw [if_neg e]
    cases hm : mth xs j with
    | none => rfl
    | some x => simp [(mth_mem hm).2, e]
theorem Ris.pk {xs : List R3} (h : Ris xs) (v : R3) : Ris (pk5 xs v) := h.map _ (pk_id v)
theorem lst_fold (xs : List R3) : ∀ acc : R3 × Bool, xs.foldl (fun acc x => if acc.2 = false ∨ x.2.2 < acc.1.2.2 then (x, true) else acc) acc = acc ∨ (xs.foldl (fun acc x => if acc.2 = false ∨ x.2.2 < acc.1.2.2 then (x, true) else acc) acc).1 ∈ xs := by
  induction xs with
  | nil => intro acc; exact .inl rfl
  | cons x xs ih =>
    intro acc
    rw [List.foldl_cons]
    by_cases e : acc.2 = false ∨ x.2.2 < acc.1.2.2
    · rw [if_pos e]
      rcases ih (x, true) with h | h
      · rw [h]; exact .inr (.head _)
      · exact .inr (.tail _ h)
    · rw [if_neg e]
      rcases ih acc with h | h
      · exact .inl h
      · exact .inr (.tail _ h)
theorem lst_mem {xs : List R3} (h : xs ≠ []) : (lst xs).1 ∈ xs := by
  rcases lst_fold xs ((0, 0, 0), false) with e | e
  · have := lst_true h
    unfold lst at this
    rw [e] at this
    cases this
  · exact e
theorem mth_of_mem {xs : List R3} (h : Ris xs) {x : R3} (hx : x ∈ xs) : mth xs x.1 = some x := by
  have hu := h.up
  clear h
  induction xs with
  | nil => cases hx
  | cons y t ih =>
    obtain ⟨h1, h2⟩ := List.pairwise_cons.1 hu
    rw [mth_cons]
    rcases List.mem_cons.1 hx with rfl | hx
    · rw [if_pos rfl]
    · rw [if_neg (by have := h1 x hx; omega)]
      exact ih hx h2
theorem okR_mem {b : Int} {xs : List R3} (h : anyTo xs.length (badR b xs) = false) {x : R3} (hx : x ∈ xs) : okR b x = true := by
  obtain ⟨i, hi, rfl⟩ := mem_g3 hx
  have := anyTo_false.1 h i hi
  unfold badR at this
  simpa using this

theorem pick5_len (b : Int) (xs : List R3) : (pick5 b xs).2.2.2.2.length ≤ 6 := by
  unfold pick5
  by_cases h : sf5 b xs = 0
  · have hl := (sf5_zero h).2.2.1.len
    rw [if_neg (fun hh => hh h)]
    repeat' split
    all_goals first | (simp [e5]; done) | (show (pk5 xs _).length ≤ 6
                                           unfold pk5
                                           rw [List.length_map]
                                           omega)
  · rw [if_pos h]; simp [e5]
theorem ins5_len (xs : List R3) (x : R3) : (ins5 xs x).length = xs.length + 1 := by
  induction xs with
  | nil => rfl
  | cons y t ih =>
    unfold ins5
    split
    · simp
    · simp [ih]
end Go.Proofs.Ytckapndpefkcgaa
