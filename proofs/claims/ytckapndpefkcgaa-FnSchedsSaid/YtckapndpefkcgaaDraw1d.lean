/-
  The draws of chapter 1, the others (DrawMoveSlot, DrawDropSlots, DrawSameInts): each returns lists in memory of its own and numbers, and turns nothing that was there. For codes of at most 2^20 bytes.
-/
import Derived.Test.YtckapndpefkcgaaDraw1c
set_option maxHeartbeats 1000000
namespace Go.Proofs.Ytckapndpefkcgaa
open Go.RowKit

theorem Own1.after {w w' w2 : World} {B : Option Addr} {n c' : Nat} {xs : List Int} (h : Own1 w w' B n c' xs) (hb : Below w'.heap.size w' w2) : Own1 w w2 B n c' xs := by
  obtain ⟨h1, h2, h3, h4, h5, h6⟩ := h
  exact ⟨h1, h2, h3, (h4.below hb (Nat.le_refl _)).wide (Nat.le_refl _) hb.size, h5, h6.trans (hb.mono h6.size)⟩

theorem lwBig_any (A : Option Addr) (k c : Nat) (w : World) :
    Calls Try.prog 7 #[.slice A k c] w fun e w' => e = .returned (.bool (decide ((1048576 : Int) < (k : Int)))) ∧ w = w' := by
  go_enter Try.func7, Try.ntmps7
  go_wp2
  go_ret
  exact ⟨rfl, rfl⟩

end Go.Proofs.Ytckapndpefkcgaa
