/-
  Many picks one behind the other: on lists. What a pick leaves has no fault. No program is named here.
-/
import Derived.Test.YtckapndpefkcgaaSpec5f
set_option maxHeartbeats 1000000
namespace Go.Proofs.Ytckapndpefkcgaa
open Go.RowKit

def ny5 (xs : List R3) : List R3 := pk5 xs (nxt5 (lst xs).1)
def nb5 (b : Int) (xs : List R3) : Int := bas (ny5 xs) b
theorem lst_fold_le (xs : List R3) : ∀ acc : R3 × Bool, (acc.2 = true → (xs.foldl (fun acc x => if acc.2 = false ∨ x.2.2 < acc.1.2.2 then (x, true) else acc) acc).1.2.2 ≤ acc.1.2.2) ∧ ∀ x, x ∈ xs → (xs.foldl (fun acc x => if acc.2 = false ∨ x.2.2 < acc.1.2.2 then (x, true) else acc) acc).1.2.2 ≤ x.2.2 := by
  induction xs with
  | nil => intro acc; exact ⟨fun _ => Int.le_refl _, fun x hx => by cases hx⟩
  | cons y t ih =>
    intro acc
    rw [List.foldl_cons]
    by_cases e : acc.2 = false ∨ y.2.2 < acc.1.2.2
    · rw [if_pos e]
      obtain ⟨i1, i2⟩ := ih (y, true)
      have i1 := i1 rfl
      refine ⟨fun h => ?_, fun x hx => ?_⟩
      · rcases e with e | e
        · rw [h] at e; cases e
        · exact Int.le_trans i1 (Int.le_of_lt e)
      · rcases List.mem_cons.1 hx with rfl | hx
        · exact i1
        · exact i2 x hx
    · rw [if_neg e]
      obtain ⟨i1, i2⟩ := ih acc
      have ht : acc.2 = true := by
        rcases hb : acc.2 with _ | _
        · exact absurd (.inl hb) e
        · rfl
      have hy : ¬ y.2.2 < acc.1.2.2 := fun h => e (.inr h)
      have i1 := i1 ht
      refine ⟨fun _ => i1, fun x hx => ?_⟩
      rcases List.mem_cons.1 hx with rfl | hx
      · omega
      · exact i2 x hx
theorem lst_le {xs : List R3} {x : R3} (h : x ∈ xs) : (lst xs).1.2.2 ≤ x.2.2 := (lst_fold_le xs ((0, 0, 0), false)).2 x h
theorem sf5_of {b : Int} {xs : List R3} (h1 : 0 ≤ b ∧ b ≤ 10000000) (h2 : ∀ x, x ∈ xs → okR b x = true) (h3 : Ris xs) (h4 : bas xs b = b) : sf5 b xs = 0 := by
  have a1 : anyTo xs.length (badR b xs) = false := anyTo_false.2 fun i hi => by
    unfold badR
    rw [h2 _ (g3_mem hi)]
    rfl
  have a2 : anyTo (xs.length - 1) (noRise xs) = false := anyTo_false.2 fun i hi => by
    have := List.pairwise_iff_getElem.1 h3.up i (i + 1) (by omega) (by omega) (by omega)
    unfold noRise g3
    rw [List.getD_eq_getElem?_getD, List.getD_eq_getElem?_getD, List.getElem?_eq_getElem (by omega : i < xs.length), List.getElem?_eq_getElem (by omega : i + 1 < xs.length)]
    simp
    omega
  have := h3.len
  unfold sf5
  rw [if_neg (by simpa using h1), if_neg (by omega), a1, a2, if_neg (by decide), if_neg (by decide), if_neg (by simpa using h4)]
theorem ny5_len (xs : List R3) : (ny5 xs).length = xs.length := by unfold ny5 pk5; simp
end Go.Proofs.Ytckapndpefkcgaa
