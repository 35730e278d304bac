/-
  When one acts does not hang on what others do in their own time: the muted events as events, and when one acts in them. No program's function is named here.
-/
import Derived.Test.YtckapndpefkcgaaGreatMath3k
set_option maxHeartbeats 1000000
namespace Go.Proofs.YtckapndpefkcgaaGreat
open Go.RowKit
set_option maxRecDepth 100000

theorem call_tick (K : Ker) (k a s t : Int) : (call3 K k a s t).2.tick = K.tick := by
  have l : ∀ r : Int × List Int, (lists K r).2.tick = K.tick := fun r => by unfold lists; split <;> rfl
  unfold call3
  split
  · split <;> rfl
  · split
    · rfl
    · split
      · rfl
      · split
        · exact l _
        · split
          · exact l _
          · split
            · rfl
            · exact l _
end Go.Proofs.YtckapndpefkcgaaGreat
