/-
  Those that are ready, collected in a slice of the call's own. No conditions beyond that the map can be read.
-/
import Derived.Test.YtachpoehejdpjaaFirst5
import Derived.Test.YtachpoehejdpjaaOwn4
namespace Go.Proofs.Ytachpoehejdpjaa
open Go.RowKit Go.Shelf
set_option maxRecDepth 100000
attribute [local go_sem] Oper.semAt_some

/-- a list of those that are ready, number by number -/
def fl (xs : List R3) : List Int := xs.flatMap fun x => [x.1, x.2.1, x.2.2]
theorem fl_snoc (xs : List R3) (x : R3) : fl (xs ++ [x]) = fl xs ++ [x.1, x.2.1, x.2.2] := by simp [fl]
theorem fl_len (xs : List R3) : (fl xs).length = xs.length * 3 := by
  induction xs with
  | nil => rfl
  | cons x xs ih => simp [fl] at ih ⊢; omega
theorem infoReady : (Try.prog.info? 131).map (fun i => (i.zero, i.size, i.bytes)) = some (some (.agg #[.int .i64 0, .int .i64 0, .int .i64 0]), 3, 24) := by kernel_rfl
theorem upTo_len (M : Int → Option R3) (k : Nat) : (upTo M k).length ≤ k := by
  induction k with
  | zero => simp [upTo]
  | succ k ih =>
    cases h : M (k : Int) with
    | none => rw [upTo_none h]; omega
    | some x => rw [upTo_some h]; simp; omega

theorem cell_three_new (W : World) (a b c : Value) (t : TypeId) (j : Nat) (u : Value) (h : [a, b, c][j]? = some u) : (W.alloc (.cells #[a, b, c] t)).cell? ((⟨W.heap.size, 0, none⟩ : Addr).add j) = some u := by
  match j, h with
  | 0, h => simp at h; subst h; simp [Addr.add]
  | 1, h => simp at h; subst h; simp [Addr.add]
  | 2, h => simp at h; subst h; simp [Addr.add]
  | n + 3, h => simp at h

end Go.Proofs.Ytachpoehejdpjaa
