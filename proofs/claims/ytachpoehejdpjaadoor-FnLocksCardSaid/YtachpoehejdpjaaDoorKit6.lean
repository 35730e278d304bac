/-
  The laws' helpers on locks and on answers of chapter 6: size, copy, compare, mark, look again. No conditions beyond that the lists can be read.
-/
import Derived.Test.YtachpoehejdpjaaDoorInts
import Derived.Test.YtachpoehejdpjaaDoorBase3
namespace Go.Proofs.YtachpoehejdpjaaDoor
open Go.RowKit
theorem Kept.of_only6 {g : Nat} {w w' : World} (h : Only g (g + 1) w w') : Kept [g] w w' :=
  ⟨h.1.mono (Nat.zero_le _), fun b hb hn => by
    simp at hn
    rcases Nat.lt_or_ge b g with h1 | h1
    · exact h.1.block b h1
    · exact h.2 b (by omega) hb⟩
theorem Kept.pre_below6 {gs : List Nat} {a b c : World} (h : Below a.heap.size a b) (k : Kept gs b c) : Kept gs a c := (Kept.of_below h gs).trans k
end Go.Proofs.YtachpoehejdpjaaDoor
