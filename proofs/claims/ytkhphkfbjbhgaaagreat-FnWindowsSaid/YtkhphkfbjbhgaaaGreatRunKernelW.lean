/-
  The walk of FnExactRunKernel: whatever came in, it returns true.
  Ahead of it:
  The law's helpers on lists of events: size, copy, compare, mark. No conditions beyond that the lists can be read.
-/
import Derived.Test.YtkhphkfbjbhgaaaGreatRun9
import Derived.Test.YtkhphkfbjbhgaaaGreatBase3
import Derived.Test.YtkhphkfbjbhgaaaGreatSpec3a
import Derived.Test.YtkhphkfbjbhgaaaGreatAnsAt3
namespace Go.Proofs.YtkhphkfbjbhgaaaGreat
open Go.RowKit
set_option maxRecDepth 100000

set_option maxHeartbeats 1000000 in
theorem Row.set7 {w : World} {g : Nat} {t : TypeId} {n i : Nat} {f : Nat → Value} (h : Row w g 0 t n f) (hi : i + 6 < n) (u0 u1 u2 u3 u4 u5 u6 : Value) :
    Row (((((((w.setCell ⟨g, i, none⟩ u0).setCell ⟨g, i + 1, none⟩ u1).setCell ⟨g, i + 2, none⟩ u2).setCell ⟨g, i + 3, none⟩ u3).setCell ⟨g, i + 4, none⟩ u4).setCell ⟨g, i + 5, none⟩ u5).setCell ⟨g, i + 6, none⟩ u6) g 0 t n (fun k => (if k = i + 6 then u6 else (if k = i + 5 then u5 else (if k = i + 4 then u4 else (if k = i + 3 then u3 else (if k = i + 2 then u2 else (if k = i + 1 then u1 else (if k = i then u0 else f k)))))))) := by
  have h0 := Row.set h (show i < n by omega) u0
  rw [Nat.zero_add] at h0
  have h1 := Row.set h0 (show i + 1 < n by omega) u1
  rw [Nat.zero_add] at h1
  have h2 := Row.set h1 (show i + 2 < n by omega) u2
  rw [Nat.zero_add] at h2
  have h3 := Row.set h2 (show i + 3 < n by omega) u3
  rw [Nat.zero_add] at h3
  have h4 := Row.set h3 (show i + 4 < n by omega) u4
  rw [Nat.zero_add] at h4
  have h5 := Row.set h4 (show i + 5 < n by omega) u5
  rw [Nat.zero_add] at h5
  have h6 := Row.set h5 (show i + 6 < n by omega) u6
  rw [Nat.zero_add] at h6
  exact h6
set_option maxHeartbeats 1000000 in
theorem Only.set7 {lo hi : Nat} {w w' : World} {g i : Nat} (h : Only lo hi w w') (h1 : lo ≤ g) (h2 : g < hi) (u0 u1 u2 u3 u4 u5 u6 : Value) : Only lo hi w (((((((w'.setCell ⟨g, i, none⟩ u0).setCell ⟨g, i + 1, none⟩ u1).setCell ⟨g, i + 2, none⟩ u2).setCell ⟨g, i + 3, none⟩ u3).setCell ⟨g, i + 4, none⟩ u4).setCell ⟨g, i + 5, none⟩ u5).setCell ⟨g, i + 6, none⟩ u6) :=
  (((((((h.setCell (p := ⟨g, i, none⟩) h1 h2 u0).setCell (p := ⟨g, i + 1, none⟩) h1 h2 u1).setCell (p := ⟨g, i + 2, none⟩) h1 h2 u2).setCell (p := ⟨g, i + 3, none⟩) h1 h2 u3).setCell (p := ⟨g, i + 4, none⟩) h1 h2 u4).setCell (p := ⟨g, i + 5, none⟩) h1 h2 u5).setCell (p := ⟨g, i + 6, none⟩) h1 h2 u6)

set_option maxHeartbeats 1000000 in
theorem Tryz.info_Event7 : (Tryz.prog.info? 78).map (fun i => (i.zero, i.size, i.bytes)) = some (some (.agg #[.int .i64 0, .int .i64 0, .int .i64 0, .int .i64 0, .int .i64 0, .int .i64 0, .int .i64 0]), 7, 56) := by kernel_rfl
end Go.Proofs.YtkhphkfbjbhgaaaGreat

namespace Go.Proofs.YtkhphkfbjbhgaaaGreat
open Go.RowKit
set_option maxRecDepth 100000

set_option maxHeartbeats 1000000 in
theorem rk3_small (m : Int) (x : Nat → Int) (n : Nat) : (rk3 m x n).2.1.os.length ≤ 12 ∧ (rk3 m x n).2.1.al.length ≤ 4 ∧ (rk3 m x n).2.1.ac.length ≤ 16 ∧ (rk3 m x n).2.2.1.length ≤ 400 ∧ (rk3 m x n).2.2.2.length ≤ 3600 := by
  unfold rk3
  by_cases h1 : (new1 m).1 = 0
  · rw [if_neg (by simp [h1])]
    by_cases h4 : 400 < n
    · rw [if_pos h4]; simp
    · rw [if_neg h4]
      obtain ⟨a, _, c, d⟩ := run3_all (x := x) (sk_new h1).1 rfl n (by omega)
      have v := (vf_zero a.v).2.1
      have l2 := a.l2; have l3 := a.l3
      show (run3 (new3 m) x n).1.os.length ≤ 12 ∧ (run3 (new3 m) x n).1.al.length ≤ 4 ∧ (run3 (new3 m) x n).1.ac.length ≤ 16 ∧ (run3 (new3 m) x n).2.1.length ≤ 400 ∧ (run3 (new3 m) x n).2.2.length ≤ 3600
      omega
  · rw [if_pos h1]; simp

end Go.Proofs.YtkhphkfbjbhgaaaGreat
