/-
  The model's functions of chapter 1: what each answers, for every list that can be read and is at most 2^20 long. Stated with the lists of Math1.
-/
import Derived.Test.YtckapndpefkcgaaChecked
import Derived.Laws.AppendOwnNone
import Derived.Test.YtckapndpefkcgaaMath1
import Derived.Test.YtckapndpefkcgaaInts
set_option maxHeartbeats 1000000
namespace Go.Proofs.Ytckapndpefkcgaa
open Go.RowKit
set_option maxRecDepth 100000

theorem l1In_any (v lo hi : Int) (w : World) :
    Calls Try.prog 73 #[.int .i64 v, .int .i64 lo, .int .i64 hi] w fun e w' => e = .returned (.bool (inR lo hi v)) ∧ w = w' := by
  by_cases h1 : lo ≤ v
  · by_cases h2 : v ≤ hi
    · go_enter Try.func73, Try.ntmps73
      go_wp2
      go_ret
      exact ⟨ret_bool (inR_true ⟨h1, h2⟩).symm, rfl⟩
    · go_enter Try.func73, Try.ntmps73
      go_wp2
      go_ret
      exact ⟨ret_bool (inR_false (by omega)).symm, rfl⟩
  · go_enter Try.func73, Try.ntmps73
    go_wp2
    go_ret
    exact ⟨ret_bool (inR_false (by omega)).symm, rfl⟩

def vals (xs : List Int) : List Value := xs.map (Value.int .i64)
theorem vals_get (xs : List Int) (k : Nat) (h : k < xs.length) : (vals xs)[k]? = some (.int .i64 (gi xs k)) := by
  simp [vals, h, gi_lt xs k h]
end Go.Proofs.Ytckapndpefkcgaa
