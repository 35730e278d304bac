/-
  The walk of FnExactPlansFault: whatever came in, it returns true.
-/
import Derived.Test.YtachpoehejdpjaaPf7
namespace Go.Proofs.Ytachpoehejdpjaa
open Go.RowKit
set_option maxRecDepth 100000

set_option maxHeartbeats 2000000 in
theorem walkPlansFault (A : Option Addr) (n c : Nat) (t : Nat → Int) (B : Nat → Option Addr) (m d : Nat → Nat) (x : Nat → Nat → Int) (w : World) (hn : n ≤ 9223372036854775807) (hm : ∀ i, i < n → m i ≤ 9223372036854775807) (h : PL w 0 w.heap.size A n t B m d x) :
    Calls Try.prog 4 #[.slice A n c] w fun e w' => e = .returned (.bool true) ∧ Below w.heap.size w w' := by
  have SZ := Lib.hid (szPlanS_any 0 w.heap.size A n c t B m d x w hn hm h)
  have HP := Lib.hid h
  clear h hn hm
  go_enter Try.func4, Try.ntmps4
  go_wp2_with fail
  refine SZ.out.mono ?_
  rintro e w1 ⟨v, rfl, hv, hb1⟩
  have B1 := Lib.hid hb1
  clear SZ hb1
  rcases hv with rfl | ⟨h0, hn, hm⟩
  · go_wp2
    go_ret
    exact ⟨rfl, B1.out⟩
  have h0' : ¬ v < 0 := by omega
  have HN := Lib.hid hn
  have HM := Lib.hid hm
  clear h0 hn hm
  have TP : Hid (∀ W, Below w.heap.size w W → Calls Try.prog 12 #[.slice A n c] W fun e w' => ∃ B' : Nat → Option Addr, e = .returned (.slice (some ⟨W.heap.size, 0, none⟩) n n) ∧ PL w' W.heap.size w'.heap.size (some ⟨W.heap.size, 0, none⟩) n t B' m m x ∧ Below W.heap.size W w') := fun W hW =>
    toPlanS_any 0 w.heap.size A n c t B m d x W HN.out HM.out (HP.out.below hW (Nat.le_refl _))
  go_wp2_with fail
  refine (TP.out w1 B1.out).mono ?_
  rintro e w2 ⟨B2, rfl, hp, hb⟩
  have P2 := Lib.hid hp
  have R2 : Hid (Below w.heap.size w w2) := B1.out.trans (hb.mono B1.out.size)
  clear hp hb
  go_wp2_with fail
  refine (specPlansFault_any _ _ _ n n t B2 m m x w2 HN.out HM.out P2.out).mono ?_
  rintro e w3 ⟨rfl, hb⟩
  have R3 : Hid (Below w.heap.size w w3) := R2.out.trans (hb.mono R2.out.size)
  clear hb P2
  obtain ⟨q, hq⟩ : ∃ q, q = pls7 n t m x := ⟨_, rfl⟩
  rw [← hq]
  have HQ := Lib.hid hq
  clear hq
  go_wp2_with fail
  refine (TP.out w3 R3.out).mono ?_
  rintro e w4 ⟨B4, rfl, hp, hb⟩
  have P4 := Lib.hid hp
  have R4 : Hid (Below w.heap.size w w4) := R3.out.trans (hb.mono R3.out.size)
  obtain ⟨a4, ha4⟩ : ∃ a4, a4 = w3.heap.size := ⟨_, rfl⟩
  rw [← ha4] at P4 ⊢
  clear hp hb ha4
  go_wp2_with fail
  have C := implPlansFault_any _ _ _ n n t B4 m m x w4 HN.out HM.out P4.out
  rw [← HQ.out] at C
  refine C.mono ?_
  rintro e w5 ⟨rfl, hb⟩
  have R5 : Hid (Below w.heap.size w w5) := R4.out.trans (hb.mono R4.out.size)
  have P5 : Hid (PL w5 a4 w4.heap.size (some ⟨a4, 0, none⟩) n t B4 m m x) := P4.out.below hb (Nat.le_refl _)
  clear hb P4 C
  go_wp2_with fail
  refine (TP.out w5 R5.out).mono ?_
  rintro e w6 ⟨B6, rfl, hp, hb⟩
  have R6 : Hid (Below w.heap.size w w6) := R5.out.trans (hb.mono R5.out.size)
  have P6 : Hid (PL w6 a4 (min w4.heap.size w5.heap.size) (some ⟨a4, 0, none⟩) n t B4 m m x) := P5.out.lt.below hb (Nat.min_le_right _ _)
  have C := eqPlanS_same _ _ _ _ _ _ n n n t B4 B6 m m m x w6 HN.out HM.out P6.out hp
  clear hp hb TP
  go_wp2_with fail
  refine C.mono ?_
  rintro e w7 ⟨rfl, hb⟩
  have R7 : Hid (Below w.heap.size w w7) := R6.out.trans (hb.mono R6.out.size)
  clear hb C
  go_wp2
  go_ret
  exact ⟨rfl, R7.out⟩

end Go.Proofs.Ytachpoehejdpjaa
