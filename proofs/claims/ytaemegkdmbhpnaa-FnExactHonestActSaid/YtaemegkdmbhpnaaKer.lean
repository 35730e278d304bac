/-
  Kernels: three lists and two numbers; where they lie. No program is named here.
-/
import Derived.Test.YtaemegkdmbhpnaaMath3
import Derived.Test.YtaemegkdmbhpnaaBase3
namespace Go.Proofs.Ytaemegkdmbhpnaa
open Go.RowKit

/-- the k-th bool of a list, false beyond -/
def gb (bs : List Bool) (k : Nat) : Bool := bs.getD k false
theorem gb_lt (bs : List Bool) (k : Nat) (h : k < bs.length) : gb bs k = bs[k] := by unfold gb; simp [h]
theorem same_bools {xs ys : List Bool} {n : Nat} (ex : xs.length = n) (ey : ys.length = n) (h : ∀ j, j < n → gb xs j = gb ys j) : xs = ys := by
  apply List.ext_getElem (by omega)
  intro i h1 h2
  have := h i (by omega)
  rwa [gb_lt _ _ h1, gb_lt _ _ h2] at this

/-- a kernel's content: owners, who is alive, the accounts' numbers one behind the other, the tick, who runs -/
structure Ker where
  os : List Int
  al : List Bool
  ac : List Int
  tick : Int
  run : Int
  deriving DecidableEq

/-- the three lists of K read from the three slices, in blocks lo ≤ b < hi -/
def KRead (w : World) (lo hi : Nat) (A1 : Option Addr) (n1 : Nat) (A2 : Option Addr) (n2 : Nat) (A3 : Option Addr) (n3 : Nat) (K : Ker) : Prop :=
  (K.os.length = n1 ∧ K.al.length = n2 ∧ K.ac.length = n3 * 4) ∧ Sl w lo hi A1 n1 (fun k => .int .i64 (gi K.os k)) ∧ Sl w lo hi A2 n2 (fun k => .bool (gb K.al k)) ∧ Sl w lo hi A3 (n3 * 4) (fun k => .int .i64 (gi K.ac k))
theorem KRead.keep {w w' : World} {lo hi : Nat} {A1 A2 A3 : Option Addr} {n1 n2 n3 : Nat} {K : Ker} (h : KRead w lo hi A1 n1 A2 n2 A3 n3 K) (hw : ∀ b, lo ≤ b → b < hi → w'.heap[b]? = w.heap[b]?) : KRead w' lo hi A1 n1 A2 n2 A3 n3 K :=
  ⟨h.1, h.2.1.keep hw, h.2.2.1.keep hw, h.2.2.2.keep hw⟩
theorem KRead.below {w w' : World} {lo hi : Nat} {A1 A2 A3 : Option Addr} {n1 n2 n3 : Nat} {K : Ker} (h : KRead w lo hi A1 n1 A2 n2 A3 n3 K) {B : Nat} (hb : Below B w w') (hB : hi ≤ B) : KRead w' lo hi A1 n1 A2 n2 A3 n3 K :=
  h.keep fun b _ h2 => hb.block b (by omega)
theorem KRead.lt {w : World} {lo hi : Nat} {A1 A2 A3 : Option Addr} {n1 n2 n3 : Nat} {K : Ker} (h : KRead w lo hi A1 n1 A2 n2 A3 n3 K) : KRead w lo (min hi w.heap.size) A1 n1 A2 n2 A3 n3 K :=
  ⟨h.1, h.2.1.lt, h.2.2.1.lt, h.2.2.2.lt⟩
theorem KRead.wide {w : World} {lo hi lo' hi' : Nat} {A1 A2 A3 : Option Addr} {n1 n2 n3 : Nat} {K : Ker} (h : KRead w lo hi A1 n1 A2 n2 A3 n3 K) (h1 : lo' ≤ lo) (h2 : hi ≤ hi') : KRead w lo' hi' A1 n1 A2 n2 A3 n3 K :=
  ⟨h.1, h.2.1.wide h1 h2, h.2.2.1.wide h1 h2, h.2.2.2.wide h1 h2⟩

/-- the account of e: its four numbers -/
def acs (K : Ker) (e : Nat) : Int × Int × Int × Int := (gi K.ac (e * 4), gi K.ac (e * 4 + 1), gi K.ac (e * 4 + 2), gi K.ac (e * 4 + 3))
def afk (K : Ker) (e : Nat) : Int := af (gi K.ac (e * 4)) (gi K.ac (e * 4 + 1)) (gi K.ac (e * 4 + 2)) (gi K.ac (e * 4 + 3))
/-- what a kernel's state is asked: owners alive, who runs alive and not at the phase 0, no account of one that is not alive -/
def badOwner (K : Ker) (i : Nat) : Bool := gi K.os i != -1 && !gb K.al (gi K.os i).toNat
def badRun (K : Ker) : Bool := K.run != -1 && (!gb K.al K.run.toNat || K.tick % 9 == 0)
def badAcc (K : Ker) (e : Nat) : Bool := !gb K.al e && !(gi K.ac (e * 4) == 0 && gi K.ac (e * 4 + 1) == 0 && gi K.ac (e * 4 + 2) == 0 && gi K.ac (e * 4 + 3) == 0)
/-- the first n of p hold at none -/
def noneTo (n : Nat) (p : Nat → Bool) : Prop := ∀ i, i < n → p i = false
open Classical in
noncomputable def st (K : Ker) : Int := if noneTo K.os.length (badOwner K) ∧ badRun K = false ∧ noneTo 4 (badAcc K) then 0 else 9
open Classical in
/-- KernelFault's answer -/
noncomputable def kf (K : Ker) : Int :=
  if vf K.os ≠ 0 then vf K.os else if K.al.length ≠ 4 ∨ K.ac.length ≠ 16 then 2 else if ¬ (∀ e, e < 4 → afk K e = 0) then 3
  else if ¬ (0 ≤ K.tick ∧ K.tick ≤ 100000) ∨ (K.run ≠ -1 ∧ inEnv K.run = false) then 3 else st K

theorem kf_zero {K : Ker} (h : kf K = 0) : vf K.os = 0 ∧ K.al.length = 4 ∧ K.ac.length = 16 := by
  unfold kf at h
  by_cases h1 : vf K.os = 0
  · rw [if_neg (by simp [h1])] at h
    by_cases h2 : K.al.length ≠ 4 ∨ K.ac.length ≠ 16
    · rw [if_pos h2] at h; omega
    · exact ⟨h1, by omega, by omega⟩
  · rw [if_pos h1] at h; exact absurd h h1

end Go.Proofs.Ytaemegkdmbhpnaa
