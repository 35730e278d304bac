/-
  Cutting a slice of numbers at a number and behind its first element. No conditions.
-/
import Derived.Test.YtkhphkfbjbhgaaaInts
namespace Go.Proofs.Ytkhphkfbjbhgaaa
open Go.RowKit
set_option maxRecDepth 100000

theorem Try.elem_sl : Try.prog.underlying 46 = some (.slice (Try.prog.elem 46)) := by kernel_rfl
theorem Try.el_sl : Try.prog.elem 46 = 2 := by kernel_rfl
theorem size_i64 (W : World) : (sizeOf 2).run Try.prog W = .ok 1 W := by
  obtain ⟨i0, hi0, hz0, hz1, hz2⟩ := info_parts Try.info_i64
  simp [sizeOf, typeInfo, hi0, hz1]
/-- q[:j] -/
theorem run_cut (b off n c j : Nat) (hj : j ≤ c) (W : World) :
    (Instr.sliceAt 46 (.slice (some ⟨b, off, none⟩) n c) none (some (.int .i64 (j : Int))) none).run Try.prog W = .ok (.slice (some ⟨b, off, none⟩) j c) W := by
  rw [run_sliceAt_slice _ _ _ _ _ _ Try.elem_sl, run_slice_h _ _ _ _ _ Try.elem_sl .i64 (j : Int) (by omega) (by omega), Try.el_sl, size_i64]
  have e0 : (⟨b, off, none⟩ : Addr).add 0 = ⟨b, off, none⟩ := by simp [Addr.add]
  simp [Result.andThen, sliced, e0]
/-- where q[1:] begins -/
def nextA (b off c : Nat) : Addr := if c = 1 then ⟨b, off, none⟩ else ⟨b, off + 1, none⟩
/-- q[1:] -/
theorem run_tail (b off n c : Nat) (hn : 1 ≤ n) (W : World) :
    (Instr.sliceAt 46 (.slice (some ⟨b, off, none⟩) n c) (some (.int .i64 1)) none none).run Try.prog W = .ok (.slice (some (nextA b off c)) (n - 1) (c - 1)) W := by
  rw [run_sliceAt_slice _ _ _ _ _ _ Try.elem_sl, run_slice_l _ _ _ _ _ Try.elem_sl .i64 1 (by omega) (by omega), Try.el_sl, size_i64]
  have e0 : (⟨b, off, none⟩ : Addr).add 1 = ⟨b, off + 1, none⟩ := by simp [Addr.add]
  unfold nextA
  by_cases h : c = 1 <;> simp [Result.andThen, sliced, e0, h]
theorem sl_tail {W : World} {lo hi b off n c : Nat} {xs : List Int} (ex : xs.length = n) (hc : n ≤ c) (h : Sl W lo hi (some ⟨b, off, none⟩) n (fun k => .int .i64 (gi xs k))) :
    Sl W lo hi (some (nextA b off c)) (n - 1) (fun k => .int .i64 (gi (xs.drop 1) k)) := fun k hk => by
  obtain ⟨b', off', e, h1, h2, hcell⟩ := h.at_ (show 0 < n by omega)
  injection e with e
  injection e with e1 e2
  subst e1; subst e2
  have e3 : nextA b off c = ⟨b, off + 1, none⟩ := if_neg (by omega)
  refine ⟨b, off + 1, by rw [e3], h1, h2, ?_⟩
  have := hcell (k + 1) (by omega)
  rw [show off + 1 + k = off + (k + 1) by omega, this]
  congr 2
  unfold gi
  simp [List.getD_eq_getElem?_getD, Nat.add_comm]

end Go.Proofs.Ytkhphkfbjbhgaaa
