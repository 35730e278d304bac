/-
  For every number, FnExactNewVector returns true and leaves its arguments as they were. No conditions.
-/
import Derived.Test.YtdinhehcbbmpbaaImpl1c
import Derived.Test.YtdinhehcbbmpbaaImpl1d
import Derived.Test.YtdinhehcbbmpbaaSpec1b
import Derived.Test.YtdinhehcbbmpbaaSpec1c
import Derived.Test.YtdinhehcbbmpbaaLaw
namespace Go.Proofs.Ytdinhehcbbmpbaa
open Go.ChangeShapes Go.WideShapes Go.ChangeAt Go.RowKit

set_option maxHeartbeats 2000000 in
theorem walkNewVector (x0 : Int) (w : World) :
    Calls Try.prog 5 #[.int .i64 x0] w fun e w' => e = .returned (.bool true) ∧ Below w.heap.size w w' := by
  go_enter Try.func5, Try.ntmps5
  go_wp2_with fail
  have BW0 : Hid (Below w.heap.size w w) := Below.refl _ _
  refine (specNewVector_any x0 _).mono ?_
  rintro e w1 ⟨A2, n2, c2, rfl, hl2, hA2, hm2, hb⟩
  have sz1 : w.heap.size ≤ w1.heap.size := hb.size
  have BW1 := Lib.hid (BW0.out.trans (hb.mono (by first | omega | (simp only [World.size_alloc]; omega))))
  clear hb BW0
  have WL1 := Lib.hid hm2.sl
  have HL2 := Lib.hid hl2
  clear hm2 hl2 hA2
  have hn2 : n2 ≤ 1048576 := by rw [← HL2.out]; have := new1_len x0; omega
  have hb := below_new w1 (.cells #[.int .i64 (new1 x0).1, .slice A2 n2 c2] 28)
  have sz2 : w1.heap.size + 1 = (w1.alloc (.cells #[.int .i64 (new1 x0).1, .slice A2 n2 c2] 28)).heap.size := by simp
  have BW2 := Lib.hid (BW1.out.trans (hb.mono (by omega)))
  have WL2 := Lib.hid (WL1.out.below hb (by omega))
  clear hb BW1 WL1
  rw [World.size_alloc] at sz2
  have BA2 := Lib.hid (heap_alloc_new w1 (.cells #[.int .i64 (new1 x0).1, .slice A2 n2 c2] 28))
  go_wp2_with fail
  refine (implNewVector_any x0 _).mono ?_
  rintro e w3 ⟨A4, n4, c4, rfl, hl4, hA4, hm4, hb⟩
  have sz3 : (w1.alloc (.cells #[.int .i64 (new1 x0).1, .slice A2 n2 c2] 28)).heap.size ≤ w3.heap.size := hb.size
  simp only [World.size_alloc] at sz3
  have BW3 := Lib.hid (BW2.out.trans (hb.mono (by first | omega | (simp only [World.size_alloc]; omega))))
  have WL3 := Lib.hid (WL2.out.below hb (by first | omega | (simp only [World.size_alloc]; omega)))
  have BA3 := Lib.hid ((hb.block _ (by first | omega | (simp only [World.size_alloc]; omega))).trans BA2.out)
  clear hb BW2 WL2 BA2
  obtain rfl : n2 = n4 := HL2.out.symm.trans hl4
  have GM3 := Lib.hid hm4
  clear hm4 hl4 hA4
  have hb := below_new w3 (.cells #[.int .i64 (new1 x0).1, .slice A4 n2 c4] 28)
  have sz4 : w3.heap.size + 1 = (w3.alloc (.cells #[.int .i64 (new1 x0).1, .slice A4 n2 c4] 28)).heap.size := by simp
  have BW4 := Lib.hid (BW3.out.trans (hb.mono (by omega)))
  have WL4 := Lib.hid (WL3.out.below hb (by omega))
  have BA4 := Lib.hid ((hb.block _ (by omega)).trans BA3.out)
  have GM4 := Lib.hid (GM3.out.below hb (by omega))
  clear hb BW3 WL3 BA3 GM3
  rw [World.size_alloc] at sz4
  have BB4 := Lib.hid (heap_alloc_new w3 (.cells #[.int .i64 (new1 x0).1, .slice A4 n2 c4] 28))
  have q0BA := cell_of_row (w3.alloc (.cells #[.int .i64 (new1 x0).1, .slice A4 n2 c4] 28)) _ 0 _ _ _ BA4.out
  have q1BA := cell_of_row (w3.alloc (.cells #[.int .i64 (new1 x0).1, .slice A4 n2 c4] 28)) _ 1 _ _ _ BA4.out
  simp at q0BA q1BA
  have q0BB := cell_of_row (w3.alloc (.cells #[.int .i64 (new1 x0).1, .slice A4 n2 c4] 28)) _ 0 _ _ _ BB4.out
  have q1BB := cell_of_row (w3.alloc (.cells #[.int .i64 (new1 x0).1, .slice A4 n2 c4] 28)) _ 1 _ _ _ BB4.out
  simp at q0BB q1BB
  go_wp2_with fail
  clear q0BA q1BA
  clear q0BB q1BB
  refine (eqIntsResult_same _ _ _ _ _ _ n2 _ _ _ _ _ (by omega) GM4.out.sl WL4.out).mono ?_
  rintro e w5 ⟨rfl, hb⟩
  have sz5 : (w3.alloc (.cells #[.int .i64 (new1 x0).1, .slice A4 n2 c4] 28)).heap.size ≤ w5.heap.size := hb.size
  simp only [World.size_alloc] at sz5
  have BW5 := Lib.hid (BW4.out.trans (hb.mono (by first | omega | (simp only [World.size_alloc]; omega))))
  have WL5 := Lib.hid (WL4.out.below hb (by first | omega | (simp only [World.size_alloc]; omega)))
  have BA5 := Lib.hid ((hb.block _ (by first | omega | (simp only [World.size_alloc]; omega))).trans BA4.out)
  have GM5 := Lib.hid (GM4.out.below hb (by first | omega | (simp only [World.size_alloc]; omega)))
  have BB5 := Lib.hid ((hb.block _ (by first | omega | (simp only [World.size_alloc]; omega))).trans BB4.out)
  clear hb BW4 WL4 BA4 GM4 BB4
  have q0BB := cell_of_row w5 _ 0 _ _ _ BB5.out
  have q1BB := cell_of_row w5 _ 1 _ _ _ BB5.out
  simp at q0BB q1BB
  go_wp2_with fail
  clear q0BB q1BB
  refine (markIntsResult_any ((w1.alloc (.cells #[.int .i64 (new1 x0).1, .slice A2 n2 c2] 28)).heap.size) (w3.heap.size) A4 n2 c4 _ _ 1 _ (by omega) (by omega) (by first | omega | (simp only [World.size_alloc]; omega)) (fun k _ => ⟨_, rfl⟩) GM5.out (by first | omega | (simp only [World.size_alloc]; omega))).mono ?_
  rintro e w6 ⟨rfl, hm, ho⟩
  clear GM5
  have sz6 : w5.heap.size ≤ w6.heap.size := ho.1.size
  have BW6 := Lib.hid (BW5.out.trans (ho.1.mono (by first | omega | (simp only [World.size_alloc]; omega))))
  have WL6 := Lib.hid (WL5.out.only ho (by first | omega | (simp only [World.size_alloc]; omega)) (by first | omega | (simp only [World.size_alloc]; omega)))
  have BA6 := Lib.hid ((ho.block (by first | omega | (simp only [World.size_alloc]; omega)) (by first | omega | (simp only [World.size_alloc]; omega))).trans BA5.out)
  have BB6 := Lib.hid ((ho.block (by first | omega | (simp only [World.size_alloc]; omega)) (by first | omega | (simp only [World.size_alloc]; omega))).trans BB5.out)
  clear ho BW5 WL5 BA5 BB5
  have GK6 := Lib.hid hm.sl
  clear hm
  have hk2 : ¬ (((1 + n2 : Nat) : Int) < 0) := by omega
  have q0BB := cell_of_row w6 _ 0 _ _ _ BB6.out
  have q1BB := cell_of_row w6 _ 1 _ _ _ BB6.out
  simp at q0BB q1BB
  go_wp2_with fail
  clear q0BB q1BB
  refine (heldIntsResult_any _ _ A4 n2 c4 _ 1 _ (by omega) (by omega) GK6.out).mono ?_
  rintro e w7 ⟨rfl, hb⟩
  have sz7 : w6.heap.size ≤ w7.heap.size := hb.size
  have BW7 := Lib.hid (BW6.out.trans (hb.mono (by first | omega | (simp only [World.size_alloc]; omega))))
  have WL7 := Lib.hid (WL6.out.below hb (by first | omega | (simp only [World.size_alloc]; omega)))
  have BA7 := Lib.hid ((hb.block _ (by first | omega | (simp only [World.size_alloc]; omega))).trans BA6.out)
  have BB7 := Lib.hid ((hb.block _ (by first | omega | (simp only [World.size_alloc]; omega))).trans BB6.out)
  have GK7 := Lib.hid (GK6.out.below hb (by first | omega | (simp only [World.size_alloc]; omega)))
  clear hb BW6 WL6 BA6 BB6 GK6
  go_wp2_with fail
  refine (implNewVector_any x0 _).mono ?_
  rintro e w8 ⟨A6, n6, c6, rfl, hl6, hA6, hm6, hb⟩
  have sz8 : w7.heap.size ≤ w8.heap.size := hb.size
  have BW8 := Lib.hid (BW7.out.trans (hb.mono (by first | omega | (simp only [World.size_alloc]; omega))))
  have WL8 := Lib.hid (WL7.out.below hb (by first | omega | (simp only [World.size_alloc]; omega)))
  have BA8 := Lib.hid ((hb.block _ (by first | omega | (simp only [World.size_alloc]; omega))).trans BA7.out)
  have BB8 := Lib.hid ((hb.block _ (by first | omega | (simp only [World.size_alloc]; omega))).trans BB7.out)
  have GK8 := Lib.hid (GK7.out.below hb (by first | omega | (simp only [World.size_alloc]; omega)))
  clear hb BW7 WL7 BA7 BB7 GK7
  obtain rfl : n2 = n6 := HL2.out.symm.trans hl6
  have HM8 := Lib.hid hm6.sl
  clear hm6 hl6 hA6
  have hb := below_new w8 (.cells #[.int .i64 (new1 x0).1, .slice A6 n2 c6] 28)
  have sz9 : w8.heap.size + 1 = (w8.alloc (.cells #[.int .i64 (new1 x0).1, .slice A6 n2 c6] 28)).heap.size := by simp
  have BW9 := Lib.hid (BW8.out.trans (hb.mono (by omega)))
  have WL9 := Lib.hid (WL8.out.below hb (by omega))
  have BA9 := Lib.hid ((hb.block _ (by omega)).trans BA8.out)
  have BB9 := Lib.hid ((hb.block _ (by omega)).trans BB8.out)
  have GK9 := Lib.hid (GK8.out.below hb (by omega))
  have HM9 := Lib.hid (HM8.out.below hb (by omega))
  clear hb BW8 WL8 BA8 BB8 GK8 HM8
  rw [World.size_alloc] at sz9
  have BC9 := Lib.hid (heap_alloc_new w8 (.cells #[.int .i64 (new1 x0).1, .slice A6 n2 c6] 28))
  have q0BA := cell_of_row (w8.alloc (.cells #[.int .i64 (new1 x0).1, .slice A6 n2 c6] 28)) _ 0 _ _ _ BA9.out
  have q1BA := cell_of_row (w8.alloc (.cells #[.int .i64 (new1 x0).1, .slice A6 n2 c6] 28)) _ 1 _ _ _ BA9.out
  simp at q0BA q1BA
  have q0BC := cell_of_row (w8.alloc (.cells #[.int .i64 (new1 x0).1, .slice A6 n2 c6] 28)) _ 0 _ _ _ BC9.out
  have q1BC := cell_of_row (w8.alloc (.cells #[.int .i64 (new1 x0).1, .slice A6 n2 c6] 28)) _ 1 _ _ _ BC9.out
  simp at q0BC q1BC
  go_wp2_with fail
  clear q0BA q1BA
  clear q0BC q1BC BC9
  refine (eqIntsResult_same _ _ _ _ _ _ n2 _ _ _ _ _ (by omega) HM9.out WL9.out).mono ?_
  rintro e w10 ⟨rfl, hb⟩
  have sz10 : (w8.alloc (.cells #[.int .i64 (new1 x0).1, .slice A6 n2 c6] 28)).heap.size ≤ w10.heap.size := hb.size
  simp only [World.size_alloc] at sz10
  have BW10 := Lib.hid (BW9.out.trans (hb.mono (by first | omega | (simp only [World.size_alloc]; omega))))
  have WL10 := Lib.hid (WL9.out.below hb (by first | omega | (simp only [World.size_alloc]; omega)))
  have BA10 := Lib.hid ((hb.block _ (by first | omega | (simp only [World.size_alloc]; omega))).trans BA9.out)
  have BB10 := Lib.hid ((hb.block _ (by first | omega | (simp only [World.size_alloc]; omega))).trans BB9.out)
  have GK10 := Lib.hid (GK9.out.below hb (by first | omega | (simp only [World.size_alloc]; omega)))
  have HM10 := Lib.hid (HM9.out.below hb (by first | omega | (simp only [World.size_alloc]; omega)))
  clear hb BW9 WL9 BA9 BB9 GK9 HM9
  have q0BB := cell_of_row w10 _ 0 _ _ _ BB10.out
  have q1BB := cell_of_row w10 _ 1 _ _ _ BB10.out
  simp at q0BB q1BB
  go_wp2_with fail
  clear q0BB q1BB
  refine (heldIntsResult_any _ _ A4 n2 c4 _ 1 _ (by omega) (by omega) GK10.out).mono ?_
  rintro e w11 ⟨rfl, hb⟩
  have sz11 : w10.heap.size ≤ w11.heap.size := hb.size
  have BW11 := Lib.hid (BW10.out.trans (hb.mono (by first | omega | (simp only [World.size_alloc]; omega))))
  have WL11 := Lib.hid (WL10.out.below hb (by first | omega | (simp only [World.size_alloc]; omega)))
  have BA11 := Lib.hid ((hb.block _ (by first | omega | (simp only [World.size_alloc]; omega))).trans BA10.out)
  have BB11 := Lib.hid ((hb.block _ (by first | omega | (simp only [World.size_alloc]; omega))).trans BB10.out)
  have GK11 := Lib.hid (GK10.out.below hb (by first | omega | (simp only [World.size_alloc]; omega)))
  have HM11 := Lib.hid (HM10.out.below hb (by first | omega | (simp only [World.size_alloc]; omega)))
  clear hb BW10 WL10 BA10 BB10 GK10 HM10
  have hk3 : ¬ (((1 + n2 : Nat) : Int) < 0) := by omega
  go_wp2
  go_ret
  exact ⟨rfl, BW11.out⟩

set_option maxRecDepth 100000 in
theorem liftedNewVector (os : Os) (started : os.Started) (H : Type) (enc : TypeId × Value → H) :
    ReturnsInHanded {} Try.checked os 5 .any (Rows.fnExactNewVectorSpec.pre6 enc Try.prog Try.f5 Rows.fnExactNewVectorRow.domain false) (Rows.fnExactNewVectorSpec.post enc Try.prog Try.f5 false true false false) := by
  refine returnsInHanded_of_change (C := Try.checked) own started (by kernel_rfl) Try.func5
    (ChangeSpec.witness6 (enc := enc) (C := Try.checked) false ⟨#[], #[.int .i64 0], []⟩ 8 (by kernel_rfl) (by kernel_rfl) (by kernel_rfl) (by kernel_rfl)) ?_
  intro W base args ds gs before hval0 hW _ _
  have hval : ∀ (j : Nat) t v, Try.f5.params[j]? = some t → args[j]? = some v → Value.okWide Try.prog W .any base t v := hval0
  have hW' := hW
  obtain ⟨p, q, hA0, hV, rfl, _, _⟩ := hW
  have hA : DataW.TrodAll enc Try.prog W 0 (fun _ => true) true Try.f5.params.toList args.toList ds p := hA0
  rw [Try.params5] at hA hval
  obtain ⟨v0, vs0, d0, ds0, p0, q0, hargs, rfl, rfl, h0, r0⟩ := trodAll_cons hA
  obtain ⟨rfl, rfl, rfl⟩ := trodAll_nil r0
  obtain rfl : args = #[v0] := by cases args; simp_all
  obtain ⟨rfl, rfl⟩ := trodVars_none hV
  obtain ⟨x0, rfl, _, _⟩ := open_i64 (hval 0 _ v0 rfl rfl) h0
  exact law_post hW' rfl rfl (by kernel_rfl) (by kernel_rfl) (walkNewVector x0 W)

theorem fnExactNewVector_holds : Rows.FnExactNewVectorSaid :=
  OpenClaim.holds_of_wide 5 Try.f5 rfl rfl rfl rfl rfl rfl rfl ⟨rfl, rfl, rfl, rfl, rfl⟩ rfl rfl rfl rfl rfl (by kernel_rfl) Try.func5 (by kernel_rfl)
    (of_decide_eq_true (by kernel_rfl)) (by unfold Func.isWrapper; first | (rw [if_pos (by decide +kernel)]; kernel_rfl) | (rw [if_neg (by decide +kernel)]; exact ⟨rfl, rfl⟩))
    (fun os started H enc _ => liftedNewVector os started H enc)
#print axioms fnExactNewVector_holds

end Go.Proofs.Ytdinhehcbbmpbaa
