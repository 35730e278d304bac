/-
  The draws of chapter 1 (DrawTakeSlot, DrawFreeSlot, DrawMoveSlot, DrawNewVector, DrawDropSlots, DrawSameInts): each returns lists in memory of its own and numbers, and turns nothing that was there. For codes of at most 2^20 bytes.
-/
import Derived.Test.YtachpoehejdpjaaDoorDraw1b
namespace Go.Proofs.YtachpoehejdpjaaDoor
open Go.RowKit

/-- a list of one's own that was drawn between w and w' -/
def Own1 (w w' : World) (B : Option Addr) (n c' : Nat) (xs : List Int) : Prop :=
  xs.length = n ∧ n ≤ 13 ∧ (B = none → c' = 0) ∧ Mine w' w.heap.size w'.heap.size 2 B n (fun j => .int .i64 (gi xs j)) ∧ (∀ j, -2 ≤ gi xs j ∧ gi xs j ≤ 4) ∧ Below w.heap.size w w'

def Owners3 (w : World) (e : Ending) (w' : World) : Prop :=
  ∃ B n c' xs x y, e = .returned (.tuple #[.slice B n c', .int .i64 x, .int .i64 y]) ∧ Own1 w w' B n c' xs
def Owners4 (w : World) (e : Ending) (w' : World) : Prop :=
  ∃ B n c' xs x y z, e = .returned (.tuple #[.slice B n c', .int .i64 x, .int .i64 y, .int .i64 z]) ∧ Own1 w w' B n c' xs
def Owners2 (w : World) (e : Ending) (w' : World) : Prop :=
  ∃ B n c' xs x, e = .returned (.tuple #[.slice B n c', .int .i64 x]) ∧ Own1 w w' B n c' xs
theorem own1_of {w w1 w' : World} {g : Nat} {B : Option Addr} {n c' lo : Nat} {xs : List Int} (ex : xs.length = n) (hn : n ≤ 13) (hB : B = none → c' = 0) (hm : Mine w' lo w'.heap.size 2 B n (fun j => .int .i64 (gi xs j)))
    (hx : ∀ j, -2 ≤ gi xs j ∧ gi xs j ≤ 4) (h1 : Below w.heap.size w w1) (ho : Only g (g + 1) w1 w') (hg : g = w.heap.size) (hlo : w.heap.size ≤ lo) : Own1 w w' B n c' xs :=
  ⟨ex, hn, hB, hm.wide hlo (Nat.le_refl _), hx, h1.trans (ho.1.mono (by omega))⟩

end Go.Proofs.YtachpoehejdpjaaDoor
