/-
  For every slice of int64, FnExactVectorFault returns true and leaves its arguments as they were. No conditions.
-/
import Derived.Test.YtdinhehcbbmpbaaImpl1c
import Derived.Test.YtdinhehcbbmpbaaImpl1d
import Derived.Test.YtdinhehcbbmpbaaSpec1b
import Derived.Test.YtdinhehcbbmpbaaSpec1c
import Derived.Test.YtdinhehcbbmpbaaLaw
namespace Go.Proofs.Ytdinhehcbbmpbaa
open Go.ChangeShapes Go.WideShapes Go.ChangeAt Go.RowKit

theorem walkVectorFault (A : Option Addr) (xs : List Int) (n c : Nat) (w : World) (ex : xs.length = n) (h : Sl w 0 w.heap.size A n (fun k => .int .i64 (gi xs k))) (_ : ∀ k, -9223372036854775808 ≤ gi xs k ∧ gi xs k ≤ 9223372036854775807) :
    Calls Try.prog 4 #[.slice A n c] w fun e w' => e = .returned (.bool true) ∧ Below w.heap.size w w' := by
  have H := Lib.hid h
  have EX := Lib.hid ex
  clear h ex
  by_cases hn : 1048576 < n
  · go_enter Try.func4, Try.ntmps4
    go_wp2
    go_ret
    exact ⟨rfl, Below.refl _ _⟩
  go_enter Try.func4, Try.ntmps4
  go_wp2_with fail
  refine (toInt64S_any 0 w.heap.size A n c (gi xs) _ (by omega) H.out (Nat.le_refl _)).mono ?_
  rintro e w1 ⟨rfl, r1, b1⟩
  have R1 := Lib.hid (r1.sl (Nat.zero_le _) r1.lt)
  have B1 := Lib.hid b1
  clear r1 b1
  go_wp2_with fail
  refine (specVectorFault_any _ _ _ n _ xs _ (by omega) EX.out R1.out).mono ?_
  rintro e w2 ⟨rfl, rfl⟩
  have B2 := B1
  clear R1
  go_wp2_with fail
  refine (toInt64S_any 0 w.heap.size A n c (gi xs) _ (by omega) (H.out.below B2.out (Nat.le_refl _)) B2.out.size).mono ?_
  rintro e w3 ⟨rfl, r3, b3⟩
  have R3 := Lib.hid (r3.sl (Nat.zero_le _) r3.lt)
  have B3 := Lib.hid (B2.out.trans (b3.mono B2.out.size))
  clear r3 b3 B2
  go_wp2_with fail
  refine (implVectorFault_any _ _ _ n _ xs _ (by omega) EX.out R3.out).mono ?_
  rintro e w4 ⟨rfl, b4⟩
  have hz4 : w3.heap.size ≤ w4.heap.size := b4.size
  have R4 := Lib.hid (R3.out.below b4 (Nat.le_refl _))
  have B4 := Lib.hid (B3.out.trans (b4.mono B3.out.size))
  clear b4 R3 B3
  go_wp2_with fail
  refine (toInt64S_any 0 w.heap.size A n c (gi xs) _ (by omega) (H.out.below B4.out (Nat.le_refl _)) B4.out.size).mono ?_
  rintro e w6 ⟨rfl, r6, b6⟩
  have R6 := Lib.hid (r6.sl (Nat.zero_le _) r6.lt)
  have R7 := Lib.hid (R4.out.below b6 (by first | exact Nat.le_refl _ | omega | (have := b6.size; omega)))
  have B6 := Lib.hid (B4.out.trans (b6.mono B4.out.size))
  clear r6 b6 B4 R4
  go_wp2_with fail
  refine (eqInt64S_same _ _ _ _ _ _ n _ _ (gi xs) _ (by omega) R7.out R6.out).mono ?_
  rintro e w8 ⟨rfl, b8⟩
  have B8 := Lib.hid (B6.out.trans (b8.mono B6.out.size))
  clear b8 R6 R7 B6
  go_wp2
  go_ret
  exact ⟨rfl, B8.out⟩

set_option maxRecDepth 100000 in
theorem liftedVectorFault (os : Os) (started : os.Started) (H : Type) (enc : TypeId × Value → H) :
    ReturnsInHanded {} Try.checked os 4 .any (Rows.fnExactVectorFaultSpec.pre6 enc Try.prog Try.f4 Rows.fnExactVectorFaultRow.domain false) (Rows.fnExactVectorFaultSpec.post enc Try.prog Try.f4 false true false false) := by
  refine returnsInHanded_of_change (C := Try.checked) own started (by kernel_rfl) Try.func4
    (ChangeSpec.witness6 (enc := enc) (C := Try.checked) false ⟨#[], #[.slice none 0 0], []⟩ 8 (by kernel_rfl) (by kernel_rfl) (by kernel_rfl) (by kernel_rfl)) ?_
  intro W base args ds gs before hval0 hW _ _
  have hval : ∀ (j : Nat) t v, Try.f4.params[j]? = some t → args[j]? = some v → Value.okWide Try.prog W .any base t v := hval0
  have hW' := hW
  obtain ⟨p, q, hA0, hV, rfl, _, _⟩ := hW
  have hA : DataW.TrodAll enc Try.prog W 0 (fun _ => true) true Try.f4.params.toList args.toList ds p := hA0
  rw [Try.params4] at hA hval
  obtain ⟨v0, vs0, d0, ds0, p0, q0, hargs, rfl, rfl, h0, r0⟩ := trodAll_cons hA
  obtain ⟨rfl, rfl, rfl⟩ := trodAll_nil r0
  obtain rfl : args = #[v0] := by cases args; simp_all
  obtain ⟨rfl, rfl⟩ := trodVars_none hV
  obtain ⟨A0, n0, c0, xs0, rfl, _, e0, s0, b0⟩ := open_i64s (hval 0 _ v0 rfl rfl) h0
  exact law_post hW' rfl rfl (by kernel_rfl) (by kernel_rfl) (walkVectorFault A0 xs0 n0 c0 W e0 s0 b0)

theorem fnExactVectorFault_holds : Rows.FnExactVectorFaultSaid :=
  OpenClaim.holds_of_wide 4 Try.f4 rfl rfl rfl rfl rfl rfl rfl ⟨rfl, rfl, rfl, rfl, rfl⟩ rfl rfl rfl rfl rfl (by kernel_rfl) Try.func4 (by kernel_rfl)
    (of_decide_eq_true (by kernel_rfl)) (by unfold Func.isWrapper; first | (rw [if_pos (by decide +kernel)]; kernel_rfl) | (rw [if_neg (by decide +kernel)]; exact ⟨rfl, rfl⟩))
    (fun os started H enc _ => liftedVectorFault os started H enc)
#print axioms fnExactVectorFault_holds

end Go.Proofs.Ytdinhehcbbmpbaa
