/-
  The face of the program's chapter 3: what is refused is recovered, and answered as a code. No conditions.
-/
import Derived.Test.YtlallklfilmcnaaGreatBox3
import Derived.Test.YtlallklfilmcnaaGreatKer3
import Derived.Defers
import Derived.Recover
import Derived.WalkLawsBesides
namespace Go.Proofs.YtlallklfilmcnaaGreat
open Go.RowKit
set_option maxRecDepth 100000

theorem run_ta (c : Int) (w : World) : (Instr.typeAssert (.iface 181 (.int .i64 c)) 20 181 true).run Tryz.prog w = .ok (.tuple #[.int .i64 c, .bool true]) w := by kernel_rfl
theorem run_ne1 (c : Int) (w : World) : (binOp .neq 20 (.iface 181 (.int .i64 c)) .nilIface).run Tryz.prog w = .ok (.bool true) w := by kernel_rfl
theorem run_ne0 (w : World) : (binOp .neq 20 .nilIface .nilIface).run Tryz.prog w = .ok (.bool false) w := by kernel_rfl
theorem codeOf_any (c : Int) (w : World) : Calls Tryz.prog 115 #[.iface 181 (.int .i64 c)] w fun e w' => e = .returned (.int .i64 c) ∧ w = w' := by
  have hta := run_ta c
  go_enter Tryz.func115, Tryz.ntmps115
  go_wp2
  go_ret
  exact ⟨by simp, rfl⟩

theorem catch_idle (p : Addr) (w : World) :
    CallsD Tryz.prog 114 #[.pointer (some p)] .returning w fun e u' w' => e = .returned (.tuple #[]) ∧ u' = .returning ∧ w' = w := by
  refine callsD_of_wpS Tryz.func114 rfl fun c₀ cs hu => ?_
  apply wpS_seq
  apply wpS_region
  simp [wpOpsS, go_sem, recoverD, hu, Tryz.ntmps114, Exit.thenS]
  refine wpS_of_wp (show Code.wp Tryz.prog _ _ { tmps := #[.pointer (some p), .nilIface, .nilIface, undef, undef, undef, undef, undef], defers := [] } w from ?_)
  have h0 := run_ne0
  go_wp2
  cases c₀
  simp_all [bodyPostS, results, Tryz.results114]

theorem catch_panicking (s : Nat) (c : Int) (older : List PanicEntry) {w w0 : World} (hx : BoxN 7 s 35 w0 w) :
    CallsD Tryz.prog 114 #[.pointer (some ⟨s, 0, none⟩)] (.panicking ({ v := .iface 181 (.int .i64 c), recovered := false } :: older)) w fun e u' w' =>
      e = .returned (.tuple #[]) ∧ u' = .panicking ({ v := .iface 181 (.int .i64 c), recovered := true } :: older) ∧ w' = (((((((w.setCell ⟨s, 0, none⟩ (.int .i64 c)).setCell ⟨s, 1, none⟩ (.slice none 0 0)).setCell ⟨s, 2, none⟩ (.slice none 0 0)).setCell ⟨s, 3, none⟩ (.slice none 0 0)).setCell ⟨s, 4, none⟩ (.int .i64 0)).setCell ⟨s, 5, none⟩ (.int .i64 0)).setCell ⟨s, 6, none⟩ (.slice none 0 0)) := by
  refine callsD_of_wpS Tryz.func114 rfl fun c₀ cs hu => ?_
  apply wpS_seq
  apply wpS_region
  simp [wpOpsS, go_sem, recoverD, hu, Tryz.ntmps114, Exit.thenS]
  refine wpS_of_wp (show Code.wp Tryz.prog _ _ { tmps := #[.pointer (some ⟨s, 0, none⟩), .iface 181 (.int .i64 c), .iface 181 (.int .i64 c), undef, undef, undef, undef, undef], defers := [] } w from ?_)
  have h0 := run_ne1 c
  have cc := fun j (hj : j < 7) => hx.cell j hj
  have f := fun j => hx.frozen j
  have c0 := cc 0 (by omega); have c1' := cc 1 (by omega); have c2 := cc 2 (by omega); have c3 := cc 3 (by omega); have c4 := cc 4 (by omega); have c5 := cc 5 (by omega); have c6 := cc 6 (by omega)
  have f0 := f 0; have f1 := f 1; have f2 := f 2; have f3 := f 3; have f4 := f 4; have f5 := f 5; have f6 := f 6
  clear cc f
  go_wp2_with fail
  refine (codeOf_any c _).mono ?_
  rintro e9 w9 ⟨rfl, rfl⟩
  go_wp2
  simp [bodyPostS, results, Tryz.results114]

end Go.Proofs.YtlallklfilmcnaaGreat
