/-
  What an audit's balance asks: the codes of a run, one by one; whether one was destroyed. No program's function is named here.
-/
import Derived.Test.YtkhphkfbjbhgaaaGreatMath9
namespace Go.Proofs.YtkhphkfbjbhgaaaGreat
open Go.RowKit
set_option maxRecDepth 100000

set_option maxHeartbeats 1000000 in
theorem run3_code (K0 : Ker) (x : Nat → Int) : ∀ n i, i < n → n ≤ 400 → SK K0 → K0.tick = 0 → gi (run3 K0 x n).2.1 i = (stp x i (run3 K0 x i).1).1
  | n + 1, i, hi, hn, h, h0 => by
    have e : (run3 K0 x (n + 1)).2.1 = (run3 K0 x n).2.1 ++ [(stp x n (run3 K0 x n).1).1] := rfl
    have l := (run3_all (x := x) h h0 n (by omega)).2.2.1
    rw [e]
    by_cases hin : i < n
    · rw [← run3_code K0 x n i hin (by omega) h h0]
      unfold gi
      simp [List.getD_eq_getElem?_getD, List.getElem?_append_left (show i < (run3 K0 x n).2.1.length by omega)]
    · obtain rfl : i = n := by omega
      unfold gi
      simp [List.getD_eq_getElem?_getD, List.getElem?_append_right (show (run3 K0 x i).2.1.length ≤ i by omega), l]
/-- the event at i is a CallDestroy of ev that was done -/
def dst9 (x : Nat → Int) (cs : List Int) (ev : Int) (i : Nat) : Prop := gi cs i = 0 ∧ x (i * 7 + 3) = 2 ∧ x (i * 7 + 4) = ev
set_option maxHeartbeats 1000000 in
/-- what was done and has a call in it is a call -/
theorem stp_kind {x : Nat → Int} {i : Nat} {K : Ker} (h : (stp x i K).1 = 0) (hc : x (i * 7 + 3) = 2) : x (i * 7) = 2 := by
  unfold stp step3 at h
  by_cases h0 : evf (x (i * 7)) (x (i * 7 + 1)) (x (i * 7 + 2)) (x (i * 7 + 3)) (x (i * 7 + 4)) (x (i * 7 + 5)) (x (i * 7 + 6)) = 0
  · rcases evf_z h0 with ⟨k1, _, _⟩ | ⟨k2, _⟩
    · exfalso
      unfold evf at h0
      rw [if_pos k1] at h0
      by_cases hz : ¬ (x (i * 7 + 1) = 1 ∨ x (i * 7 + 1) = 2 ∨ x (i * 7 + 1) = 3)
      · first
        | (rw [if_pos (by omega)] at h0; omega)
        | (split at h0 <;> omega)
      · first
        | (rw [if_pos (by omega)] at h0; omega)
        | (split at h0 <;> omega)
    · exact k2
  · rw [if_pos h0] at h
    exact absurd h h0
end Go.Proofs.YtkhphkfbjbhgaaaGreat
