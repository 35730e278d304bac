/-
  Who leaves, who joins: the schedule behind it has no fault; who joins and leaves at once is where it was. No program is named here.
-/
import Derived.Test.YtckapndpefkcgaaMath5c
set_option maxHeartbeats 1000000
namespace Go.Proofs.Ytckapndpefkcgaa
open Go.RowKit

theorem bas_nil (b : Int) : bas [] b = b := rfl
theorem bas_ne {xs : List R3} (h : xs ≠ []) (b : Int) : bas xs b = (lst xs).1.2.2 := by unfold bas; rw [if_pos (lst_true h)]
theorem okR_parts {b : Int} {x : R3} (h : okR b x = true) : okId x.1 = true ∧ okT x.2.1 = true ∧ b ≤ x.2.2 ∧ x.2.2 ≤ b + strd x.2.1 := by
  unfold okR at h
  simp at h
  exact ⟨h.1.1, h.1.2, h.2.1, h.2.2⟩
theorem okR_mk {b : Int} {x : R3} (h1 : okId x.1 = true) (h2 : okT x.2.1 = true) (h3 : b ≤ x.2.2) (h4 : x.2.2 ≤ b + strd x.2.1) : okR b x = true := by
  unfold okR
  rw [h1, h2]
  simp
  exact ⟨h3, h4⟩
theorem ins5_ne (xs : List R3) (v : R3) : ins5 xs v ≠ [] := fun e => by
  have := ins5_len xs v
  rw [e] at this
  simp at this
theorem mem_ins_old {xs : List R3} {v x : R3} (h : x ∈ xs) : x ∈ ins5 xs v := by
  induction xs with
  | nil => cases h
  | cons y t ih =>
    unfold ins5
    by_cases e : v.1 < y.1
    · rw [if_pos e]; exact .tail _ h
    · rw [if_neg e]
      rcases List.mem_cons.1 h with rfl | h'
      · exact .head _
      · exact .tail _ (ih h')
end Go.Proofs.Ytckapndpefkcgaa
