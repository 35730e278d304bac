/-
  How a kernel of the call's own turns: one cell of who is alive, one account, who runs, the owners.
-/
import Derived.Test.YtkhphkfbjbhgaaaKer2
import Derived.Test.YtkhphkfbjbhgaaaCall3
namespace Go.Proofs.Ytkhphkfbjbhgaaa
open Go.RowKit

theorem row_of_mine {w : World} {g n off : Nat} {t : TypeId} {A : Option Addr} {f : Nat → Value} (h : Mine w g (g + 1) t A n f) (h0 : n ≠ 0) (hA : A = some ⟨g, off, none⟩) : Row w g off t n f := by
  rcases h with h | ⟨g', off', hA', _, _, hr⟩
  · exact absurd h h0
  · rw [hA] at hA'
    injection hA' with hA'
    injection hA' with e1 e2
    subst e1 e2
    exact hr
/-- where the kernel's lists lie, with other owners -/
def Kp.withOwners (p : Kp) (A : Option Addr) (n c g1 : Nat) : Kp := { p with A1 := A, n1 := n, c1 := c, g1 := g1 }
/-- an account's four cells written -/
def setAcc (ac : List Int) (e : Nat) (u x g d : Int) : List Int := (((ac.set (e * 4) u).set (e * 4 + 1) x).set (e * 4 + 2) g).set (e * 4 + 3) d
theorem zac_eq (ac : List Int) (e : Nat) : zac ac e = setAcc ac e 0 0 0 0 := rfl
theorem setAcc_len (ac : List Int) (e : Nat) (u x g d : Int) : (setAcc ac e u x g d).length = ac.length := by simp [setAcc]
theorem Row.setInt {w : World} {g off : Nat} {t : TypeId} {n i : Nat} {xs : List Int} (h : Row w g off t n (fun k => .int .i64 (gi xs k))) (hi : i < n) (hl : xs.length = n) (v : Int) :
    Row (w.setCell ⟨g, off + i, none⟩ (.int .i64 v)) g off t n (fun k => .int .i64 (gi (xs.set i v) k)) :=
  (h.set hi (.int .i64 v)).congr fun k hk => by
    rw [gi_set]
    by_cases e1 : k = i
    · rw [if_pos e1, if_pos ⟨e1, by omega⟩]
    · rw [if_neg e1, if_neg (fun hh => e1 hh.1)]
theorem Kept.set4 {gs : List Nat} {w w' : World} {g i : Nat} (h : Kept gs w w') (hg : g ∈ gs) (a b c d : Value) : Kept gs w ((((w'.setCell ⟨g, i, none⟩ a).setCell ⟨g, i + 1, none⟩ b).setCell ⟨g, i + 2, none⟩ c).setCell ⟨g, i + 3, none⟩ d) :=
  (((h.setCell (p := ⟨g, i, none⟩) hg a).setCell (p := ⟨g, i + 1, none⟩) hg b).setCell (p := ⟨g, i + 2, none⟩) hg c).setCell (p := ⟨g, i + 3, none⟩) hg d

/-- the kernel that stands beside a code -/
def zeroKer : Ker := ⟨[], [], [], 0, 0⟩
/-- a kernel beside a code: nothing unless it is 0 -/
def orZero (r : Int × Ker) : Int × Ker := if r.1 ≠ 0 then (r.1, zeroKer) else r
/-- where an answer's lists lie -/
structure Rp where
  A1 : Option Addr
  n1 : Nat
  c1 : Nat
  A2 : Option Addr
  n2 : Nat
  c2 : Nat
  A3 : Option Addr
  n3 : Nat
  c3 : Nat
  A4 : Option Addr
  n4 : Nat
  c4 : Nat
  g1 : Nat
  g2 : Nat
  g3 : Nat
  g4 : Nat
def Rp.val (p : Rp) (q : Int) (K : Ker) : Value := .agg #[.int .i64 q, .slice p.A1 p.n1 p.c1, .slice p.A2 p.n2 p.c2, .slice p.A3 p.n3 p.c3, .int .i64 K.tick, .int .i64 K.run, .slice p.A4 p.n4 p.c4]
end Go.Proofs.Ytkhphkfbjbhgaaa
