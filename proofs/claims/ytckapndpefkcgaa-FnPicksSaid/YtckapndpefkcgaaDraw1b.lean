/-
  The model's draw of a list of owners (l1Draw): it returns a list of at most 13 small numbers in memory of its own, and writes nothing but its source. For codes of at most 2^20 bytes.
-/
import Derived.Test.YtckapndpefkcgaaPick
set_option maxHeartbeats 1000000
namespace Go.Proofs.Ytckapndpefkcgaa
open Go.RowKit

theorem hm2 {w wr w2 : World} {g n : Nat} {t : TypeId} {B : Option Addr} {f : Nat → Value} (h : Mine wr w.heap.size wr.heap.size t B n f) (ho : Only g (g + 1) wr w2) (hg : g < w.heap.size) : Mine w2 w.heap.size wr.heap.size t B n f :=
  h.only ho (Nat.le_refl _) (.inr (by omega))

end Go.Proofs.Ytckapndpefkcgaa
