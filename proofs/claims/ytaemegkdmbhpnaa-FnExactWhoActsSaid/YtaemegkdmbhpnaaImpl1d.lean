/-
  The program's CountSlots, DropSlots and NewVector: each answers as Math1 says.
-/
import Derived.Test.YtaemegkdmbhpnaaImpl1b
import Derived.Deep.WholeRow
namespace Go.Proofs.Ytaemegkdmbhpnaa
open Go.RowKit

theorem gi_mapi (xs : List Int) (f : Int → Int) (k : Nat) (h : k < xs.length) : gi (xs.map f) k = f (gi xs k) := by
  rw [gi_lt _ k (by simpa using h), gi_lt xs k h]; simp

theorem gi_rep (n j : Nat) (v : Int) (h : j < n) : gi (List.replicate n v) j = v := by rw [gi_lt _ j (by simpa using h)]; simp
theorem vec_rep0 (n : Nat) (h : n ≤ 12) : VecIs (zv n).toArray (List.replicate n 0) := by
  refine ⟨rfl, by simpa using h, fun k hk => ?_, ?_⟩
  · rw [List.getElem?_toArray, zv_get n k hk]
    by_cases e : k < n
    · rw [gi_rep n k 0 e]
    · rw [gi_ge _ k (by simp; omega)]
  · simp [zv]

end Go.Proofs.Ytaemegkdmbhpnaa
