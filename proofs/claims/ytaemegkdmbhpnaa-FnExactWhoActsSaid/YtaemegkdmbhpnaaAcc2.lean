/-
  The laws' helpers on accounts, and the model's functions of chapter 2: what each answers, for every account. No conditions.
-/
import Derived.Test.YtaemegkdmbhpnaaMath2
import Derived.Test.YtaemegkdmbhpnaaSpec1
namespace Go.Proofs.Ytaemegkdmbhpnaa
open Go.RowKit

theorem toAccount_any (u x g d : Int) (w : World) :
    Calls Try.prog 152 #[.agg #[.int .i64 u, .int .i64 x, .int .i64 g, .int .i64 d]] w fun e w' => e = .returned (.agg #[.int .i64 u, .int .i64 x, .int .i64 g, .int .i64 d]) ∧ Below w.heap.size w w' := by
  have B3 : Hid (∀ o o' o'', Below w.heap.size w (((w.alloc o).alloc o').alloc o'')) := fun o o' o'' => (((Below.refl _ _).alloc (Nat.le_refl _) o).alloc (by simp) o').alloc (by simp; omega) o''
  go_enter Try.func152, Try.ntmps152
  go_wp2
  go_returns
  exact ⟨rfl, B3.out _ _ _⟩

theorem eqAccount_same (u x g d : Int) (w : World) :
    Calls Try.prog 159 #[.agg #[.int .i64 u, .int .i64 x, .int .i64 g, .int .i64 d], .agg #[.int .i64 u, .int .i64 x, .int .i64 g, .int .i64 d]] w fun e w' => e = .returned (.bool true) ∧ Below w.heap.size w w' := by
  have B2 : Hid (∀ o o', Below w.heap.size w ((w.alloc o).alloc o')) := fun o o' => ((Below.refl _ _).alloc (Nat.le_refl _) o).alloc (by simp) o'
  go_enter Try.func159, Try.ntmps159
  go_wp2
  go_ret
  exact ⟨rfl, B2.out _ _⟩

theorem specAccountFault_any (u x g d : Int) (w : World) :
    Calls Try.prog 147 #[.agg #[.int .i64 u, .int .i64 x, .int .i64 g, .int .i64 d]] w fun e w' => e = .returned (.int .i64 (af u x g d)) ∧ Below w.heap.size w w' := by
  have B1 := Lib.hid (below_new w (.cells #[.int .i64 u, .int .i64 x, .int .i64 g, .int .i64 d] 190))
  by_cases h0 : 0 ≤ u ∧ u ≤ 1000000
  case neg =>
    have i0 : inR 0 1000000 u = false := inR_false h0
    have HA := Lib.hid (af_bad (u := u) (x := x) (g := g) (d := d) (by omega))
    clear h0
    go_enter Try.func147, Try.ntmps147
    go_wp2_with (go_at_call 133; refine (l1In_any _ _ _ _).mono ?_; rintro e w' ⟨rfl, rfl⟩)
    go_ret
    exact ⟨ret_i64 HA.out.symm, B1.out⟩
  have i0 : inR 0 1000000 u = true := inR_true h0
  by_cases h1 : 0 ≤ x ∧ x ≤ 1000000
  case neg =>
    have i1 : inR 0 1000000 x = false := inR_false h1
    have HA := Lib.hid (af_bad (u := u) (x := x) (g := g) (d := d) (by omega))
    clear h0 h1
    go_enter Try.func147, Try.ntmps147
    go_wp2_with (go_at_call 133; refine (l1In_any _ _ _ _).mono ?_; rintro e w' ⟨rfl, rfl⟩)
    go_ret
    exact ⟨ret_i64 HA.out.symm, B1.out⟩
  have i1 : inR 0 1000000 x = true := inR_true h1
  by_cases h2 : 0 ≤ g ∧ g ≤ 1000000
  case neg =>
    have i2 : inR 0 1000000 g = false := inR_false h2
    have HA := Lib.hid (af_bad (u := u) (x := x) (g := g) (d := d) (by omega))
    clear h0 h1 h2
    go_enter Try.func147, Try.ntmps147
    go_wp2_with (go_at_call 133; refine (l1In_any _ _ _ _).mono ?_; rintro e w' ⟨rfl, rfl⟩)
    go_ret
    exact ⟨ret_i64 HA.out.symm, B1.out⟩
  have i2 : inR 0 1000000 g = true := inR_true h2
  by_cases h3 : 0 ≤ d ∧ d ≤ 3
  case neg =>
    have i3 : inR 0 3 d = false := inR_false h3
    have HA := Lib.hid (af_bad (u := u) (x := x) (g := g) (d := d) (by omega))
    clear h0 h1 h2 h3
    go_enter Try.func147, Try.ntmps147
    go_wp2_with (go_at_call 133; refine (l1In_any _ _ _ _).mono ?_; rintro e w' ⟨rfl, rfl⟩)
    go_ret
    exact ⟨ret_i64 HA.out.symm, B1.out⟩
  have i3 : inR 0 3 d = true := inR_true h3
  have HA := Lib.hid (af_ok (u := u) (x := x) (g := g) (d := d) (by omega))
  clear h0 h1 h2 h3
  go_enter Try.func147, Try.ntmps147
  go_wp2_with (go_at_call 133; refine (l1In_any _ _ _ _).mono ?_; rintro e w' ⟨rfl, rfl⟩)
  go_ret
  exact ⟨ret_i64 HA.out.symm, B1.out⟩

end Go.Proofs.Ytaemegkdmbhpnaa
