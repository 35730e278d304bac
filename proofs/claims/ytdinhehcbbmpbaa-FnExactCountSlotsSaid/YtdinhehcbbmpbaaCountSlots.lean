/-
  For every slice of int64 and every number, FnExactCountSlots returns true and leaves its arguments as they were. No conditions.
-/
import Derived.Test.YtdinhehcbbmpbaaImpl1c
import Derived.Test.YtdinhehcbbmpbaaImpl1d
import Derived.Test.YtdinhehcbbmpbaaSpec1b
import Derived.Test.YtdinhehcbbmpbaaSpec1c
import Derived.Test.YtdinhehcbbmpbaaLaw
namespace Go.Proofs.Ytdinhehcbbmpbaa
open Go.ChangeShapes Go.WideShapes Go.ChangeAt Go.RowKit

theorem walkCountSlots (A : Option Addr) (xs : List Int) (n c : Nat) (x1 : Int) (w : World) (ex : xs.length = n) (h : Sl w 0 w.heap.size A n (fun k => .int .i64 (gi xs k))) (_ : ∀ k, -9223372036854775808 ≤ gi xs k ∧ gi xs k ≤ 9223372036854775807) :
    Calls Try.prog 10 #[.slice A n c, .int .i64 x1] w fun e w' => e = .returned (.bool true) ∧ Below w.heap.size w w' := by
  have H := Lib.hid h
  have EX := Lib.hid ex
  clear h ex
  by_cases hn : 1048576 < n
  · go_enter Try.func10, Try.ntmps10
    go_wp2
    go_ret
    exact ⟨rfl, Below.refl _ _⟩
  go_enter Try.func10, Try.ntmps10
  go_wp2_with fail
  refine (toInt64S_any 0 w.heap.size A n c (gi xs) _ (by omega) H.out (Nat.le_refl _)).mono ?_
  rintro e w1 ⟨rfl, r1, b1⟩
  have R1 := Lib.hid (r1.sl (Nat.zero_le _) r1.lt)
  have B1 := Lib.hid b1
  clear r1 b1
  go_wp2_with fail
  refine (specCountSlots_any _ _ _ n _ xs x1 _ (by omega) EX.out R1.out).mono ?_
  rintro e w2 ⟨rfl, b2⟩
  have B2 := Lib.hid ((B1.out.trans (b2.mono B1.out.size)).trans ((below_new w2 (.cells #[.int .i64 (count1 xs x1).1, .int .i64 (count1 xs x1).2] 43)).mono (by have := b2.size; have := B1.out.size; omega)))
  have sz2 : w.heap.size ≤ w2.heap.size := Nat.le_trans B1.out.size b2.size
  have BA2 := Lib.hid (heap_alloc_new w2 (.cells #[.int .i64 (count1 xs x1).1, .int .i64 (count1 xs x1).2] 43))
  clear b2 R1
  go_wp2_with fail
  refine (toInt64S_any 0 w.heap.size A n c (gi xs) (w2.alloc (.cells #[.int .i64 (count1 xs x1).1, .int .i64 (count1 xs x1).2] 43)) (by omega) (H.out.below B2.out (Nat.le_refl _)) B2.out.size).mono ?_
  rintro e w3 ⟨rfl, r3, b3⟩
  simp only [World.size_alloc] at r3
  have R3 := Lib.hid (r3.sl (Nat.zero_le _) r3.lt)
  have B3 := Lib.hid (B2.out.trans (b3.mono B2.out.size))
  have BA3 := Lib.hid ((b3.block w2.heap.size (by simp)).trans BA2.out)
  have hz3 : w2.heap.size < w3.heap.size := by have := b3.size; simp at this; omega
  clear r3 b3 B2
  go_wp2_with fail
  refine (implCountSlots_any _ _ _ n _ xs x1 _ (by omega) EX.out R3.out).mono ?_
  rintro e w4 ⟨rfl, b4⟩
  have R4 := Lib.hid (R3.out.below b4 (Nat.le_refl _))
  have B4 := Lib.hid (B3.out.trans (b4.mono B3.out.size))
  have BA4 := Lib.hid ((b4.block w2.heap.size hz3).trans BA3.out)
  have hz4 : w3.heap.size ≤ w4.heap.size := b4.size
  clear b4 R3 B3
  have BA5 := Lib.hid ((Below.heap_alloc w4 (.cells #[.int .i64 (count1 xs x1).1, .int .i64 (count1 xs x1).2] 43) _ (by omega)).trans BA4.out)
  have q0 := cell_of_row _ _ 0 _ _ _ BA5.out
  have q1 := cell_of_row _ _ 1 _ _ _ BA5.out
  simp at q0 q1
  go_wp2_with fail
  clear q0 q1
  refine (eqIntResult_same (count1 xs x1).1 (count1 xs x1).2 _).mono ?_
  rintro e w5 ⟨rfl, b5⟩
  have hz5 : w4.heap.size + 1 ≤ w5.heap.size := by have := b5.size; simp at this; omega
  have R5 := Lib.hid ((R4.out.below (below_new w4 (.cells #[.int .i64 (count1 xs x1).1, .int .i64 (count1 xs x1).2] 43)) (by omega)).below b5 (by simp; omega))
  have B5 := Lib.hid ((B4.out.trans ((below_new w4 (.cells #[.int .i64 (count1 xs x1).1, .int .i64 (count1 xs x1).2] 43)).mono (by omega))).trans (b5.mono (by simp; omega)))
  clear b5 R4 B4
  go_wp2_with fail
  refine (toInt64S_any 0 w.heap.size A n c (gi xs) _ (by omega) (H.out.below B5.out (Nat.le_refl _)) B5.out.size).mono ?_
  rintro e w6 ⟨rfl, r6, b6⟩
  have R6 := Lib.hid (r6.sl (Nat.zero_le _) r6.lt)
  have R7 := Lib.hid (R5.out.below b6 (by first | exact Nat.le_refl _ | omega | (have := b6.size; omega)))
  have B6 := Lib.hid (B5.out.trans (b6.mono B5.out.size))
  clear r6 b6 B5 R5
  go_wp2_with fail
  refine (eqInt64S_same _ _ _ _ _ _ n _ _ (gi xs) _ (by omega) R7.out R6.out).mono ?_
  rintro e w8 ⟨rfl, b8⟩
  have B8 := Lib.hid (B6.out.trans (b8.mono B6.out.size))
  clear b8 R6 R7 B6
  go_wp2
  go_ret
  exact ⟨rfl, B8.out⟩

set_option maxRecDepth 100000 in
theorem liftedCountSlots (os : Os) (started : os.Started) (H : Type) (enc : TypeId × Value → H) :
    ReturnsInHanded {} Try.checked os 10 .any (Rows.fnExactCountSlotsSpec.pre6 enc Try.prog Try.f10 Rows.fnExactCountSlotsRow.domain false) (Rows.fnExactCountSlotsSpec.post enc Try.prog Try.f10 false true false false) := by
  refine returnsInHanded_of_change (C := Try.checked) own started (by kernel_rfl) Try.func10
    (ChangeSpec.witness6 (enc := enc) (C := Try.checked) false ⟨#[], #[.slice none 0 0, .int .i64 0], []⟩ 8 (by kernel_rfl) (by kernel_rfl) (by kernel_rfl) (by kernel_rfl)) ?_
  intro W base args ds gs before hval0 hW _ _
  have hval : ∀ (j : Nat) t v, Try.f10.params[j]? = some t → args[j]? = some v → Value.okWide Try.prog W .any base t v := hval0
  have hW' := hW
  obtain ⟨p, q, hA0, hV, rfl, _, _⟩ := hW
  have hA : DataW.TrodAll enc Try.prog W 0 (fun _ => true) true Try.f10.params.toList args.toList ds p := hA0
  rw [Try.params10] at hA hval
  obtain ⟨v0, vs0, d0, ds0, p0, q0, hargs, rfl, rfl, h0, r0⟩ := trodAll_cons hA
  obtain ⟨v1, vs1, d1, ds1, p1, q1, rfl, rfl, rfl, h1, r1⟩ := trodAll_cons r0
  obtain ⟨rfl, rfl, rfl⟩ := trodAll_nil r1
  obtain rfl : args = #[v0, v1] := by cases args; simp_all
  obtain ⟨rfl, rfl⟩ := trodVars_none hV
  obtain ⟨A0, n0, c0, xs0, rfl, _, e0, s0, b0⟩ := open_i64s (hval 0 _ v0 rfl rfl) h0
  obtain ⟨x1, rfl, _, _⟩ := open_i64 (hval 1 _ v1 rfl rfl) h1
  exact law_post hW' rfl rfl (by kernel_rfl) (by kernel_rfl) (walkCountSlots A0 xs0 n0 c0 x1 W e0 s0 b0)

theorem fnExactCountSlots_holds : Rows.FnExactCountSlotsSaid :=
  OpenClaim.holds_of_wide 10 Try.f10 rfl rfl rfl rfl rfl rfl rfl ⟨rfl, rfl, rfl, rfl, rfl⟩ rfl rfl rfl rfl rfl (by kernel_rfl) Try.func10 (by kernel_rfl)
    (of_decide_eq_true (by kernel_rfl)) (by unfold Func.isWrapper; first | (rw [if_pos (by decide +kernel)]; kernel_rfl) | (rw [if_neg (by decide +kernel)]; exact ⟨rfl, rfl⟩))
    (fun os started H enc _ => liftedCountSlots os started H enc)
#print axioms fnExactCountSlots_holds

end Go.Proofs.Ytdinhehcbbmpbaa
