/-
  A kernel of the call's own: a box of five cells, and three lists, each in a block of its own.
-/
import Derived.Test.YtckapndpefkcgaaGreatChecked
import Derived.Test.YtckapndpefkcgaaGreatMath3
import Derived.Test.YtckapndpefkcgaaGreatOwn4
set_option maxHeartbeats 1000000

namespace Go.Proofs.YtckapndpefkcgaaGreat
open Go.RowKit

def gb (bs : List Bool) (k : Nat) : Bool := bs.getD k false
theorem gb_lt (bs : List Bool) (k : Nat) (h : k < bs.length) : gb bs k = bs[k] := by unfold gb; simp [h]
theorem same_bools {xs ys : List Bool} {n : Nat} (ex : xs.length = n) (ey : ys.length = n) (h : ∀ j, j < n → gb xs j = gb ys j) : xs = ys := by
  apply List.ext_getElem (by omega)
  intro i h1 h2
  have := h i (by omega)
  rwa [gb_lt _ _ h1, gb_lt _ _ h2] at this

structure Ker where
  os : List Int
  al : List Bool
  ac : List Int
  tick : Int
  run : Int
  deriving DecidableEq

def KRead (w : World) (lo hi : Nat) (A1 : Option Addr) (n1 : Nat) (A2 : Option Addr) (n2 : Nat) (A3 : Option Addr) (n3 : Nat) (K : Ker) : Prop :=
  (K.os.length = n1 ∧ K.al.length = n2 ∧ K.ac.length = n3 * 4) ∧ Sl w lo hi A1 n1 (fun k => .int .i64 (gi K.os k)) ∧ Sl w lo hi A2 n2 (fun k => .bool (gb K.al k)) ∧ Sl w lo hi A3 (n3 * 4) (fun k => .int .i64 (gi K.ac k))
theorem KRead.keep {w w' : World} {lo hi : Nat} {A1 A2 A3 : Option Addr} {n1 n2 n3 : Nat} {K : Ker} (h : KRead w lo hi A1 n1 A2 n2 A3 n3 K) (hw : ∀ b, lo ≤ b → b < hi → w'.heap[b]? = w.heap[b]?) : KRead w' lo hi A1 n1 A2 n2 A3 n3 K :=
  ⟨h.1, h.2.1.keep hw, h.2.2.1.keep hw, h.2.2.2.keep hw⟩
theorem KRead.below {w w' : World} {lo hi : Nat} {A1 A2 A3 : Option Addr} {n1 n2 n3 : Nat} {K : Ker} (h : KRead w lo hi A1 n1 A2 n2 A3 n3 K) {B : Nat} (hb : Below B w w') (hB : hi ≤ B) : KRead w' lo hi A1 n1 A2 n2 A3 n3 K :=
  h.keep fun b _ h2 => hb.block b (by omega)
theorem KRead.lt {w : World} {lo hi : Nat} {A1 A2 A3 : Option Addr} {n1 n2 n3 : Nat} {K : Ker} (h : KRead w lo hi A1 n1 A2 n2 A3 n3 K) : KRead w lo (min hi w.heap.size) A1 n1 A2 n2 A3 n3 K :=
  ⟨h.1, h.2.1.lt, h.2.2.1.lt, h.2.2.2.lt⟩
theorem KRead.wide {w : World} {lo hi lo' hi' : Nat} {A1 A2 A3 : Option Addr} {n1 n2 n3 : Nat} {K : Ker} (h : KRead w lo hi A1 n1 A2 n2 A3 n3 K) (h1 : lo' ≤ lo) (h2 : hi ≤ hi') : KRead w lo' hi' A1 n1 A2 n2 A3 n3 K :=
  ⟨h.1, h.2.1.wide h1 h2, h.2.2.1.wide h1 h2, h.2.2.2.wide h1 h2⟩

def afk (K : Ker) (e : Nat) : Int := af (gi K.ac (e * 4)) (gi K.ac (e * 4 + 1)) (gi K.ac (e * 4 + 2)) (gi K.ac (e * 4 + 3))
def badOwner (K : Ker) (i : Nat) : Bool := gi K.os i != -1 && !gb K.al (gi K.os i).toNat
def badRun (K : Ker) : Bool := K.run != -1 && (!gb K.al K.run.toNat || K.tick % 9 == 0)
def badAcc (K : Ker) (e : Nat) : Bool := !gb K.al e && !(gi K.ac (e * 4) == 0 && gi K.ac (e * 4 + 1) == 0 && gi K.ac (e * 4 + 2) == 0 && gi K.ac (e * 4 + 3) == 0)
def noneTo (n : Nat) (p : Nat → Bool) : Prop := ∀ i, i < n → p i = false
open Classical in
noncomputable def st (K : Ker) : Int := if noneTo K.os.length (badOwner K) ∧ badRun K = false ∧ noneTo 4 (badAcc K) then 0 else 9
open Classical in
noncomputable def kf (K : Ker) : Int :=
  if vf K.os ≠ 0 then vf K.os else if K.al.length ≠ 4 ∨ K.ac.length ≠ 16 then 2 else if ¬ (∀ e, e < 4 → afk K e = 0) then 3
  else if ¬ (0 ≤ K.tick ∧ K.tick ≤ 100000) ∨ (K.run ≠ -1 ∧ inEnv K.run = false) then 3 else st K

theorem kf_zero {K : Ker} (h : kf K = 0) : vf K.os = 0 ∧ K.al.length = 4 ∧ K.ac.length = 16 := by
  unfold kf at h
  by_cases h1 : vf K.os = 0
  · rw [if_neg (by simp [h1])] at h
    by_cases h2 : K.al.length ≠ 4 ∨ K.ac.length ≠ 16
    · rw [if_pos h2] at h; omega
    · exact ⟨h1, by omega, by omega⟩
  · rw [if_pos h1] at h; exact absurd h h1



structure Kp where
  A1 : Option Addr
  n1 : Nat
  c1 : Nat
  A2 : Option Addr
  c2 : Nat
  A3 : Option Addr
  c3 : Nat
  g1 : Nat
  g2 : Nat
  g3 : Nat

structure KOwn (w : World) (p : Kp) (K : Ker) : Prop where
  l1 : K.os.length = p.n1
  l2 : K.al.length = 4
  l3 : K.ac.length = 16
  nil1 : p.A1 = none → p.c1 = 0
  m1 : Mine w p.g1 (p.g1 + 1) 2 p.A1 p.n1 (fun k => .int .i64 (gi K.os k))
  m2 : Mine w p.g2 (p.g2 + 1) 4 p.A2 4 (fun k => .bool (gb K.al k))
  m3 : Mine w p.g3 (p.g3 + 1) 68 p.A3 16 (fun k => .int .i64 (gi K.ac k))
  d12 : p.g1 ≠ p.g2
  d13 : p.g1 ≠ p.g3
  d23 : p.g2 ≠ p.g3
structure KB (w : World) (g : Nat) (p : Kp) (K : Ker) : Prop where
  box : w.heap[g]? = some (.cells #[.slice p.A1 p.n1 p.c1, .slice p.A2 4 p.c2, .slice p.A3 4 p.c3, .int .i64 K.tick, .int .i64 K.run] 39 (0, 0))
  own : KOwn w p K
  e1 : g ≠ p.g1
  e2 : g ≠ p.g2
  e3 : g ≠ p.g3
theorem KOwn.kept {gs : List Nat} {w w' : World} {p : Kp} {K : Ker} (h : KOwn w p K) (k : Kept gs w w') (h1 : p.g1 ∉ gs) (h2 : p.g2 ∉ gs) (h3 : p.g3 ∉ gs) : KOwn w' p K :=
  ⟨h.l1, h.l2, h.l3, h.nil1, h.m1.kept k h1, h.m2.kept k h2, h.m3.kept k h3, h.d12, h.d13, h.d23⟩
theorem KB.kept {gs : List Nat} {w w' : World} {g : Nat} {p : Kp} {K : Ker} (h : KB w g p K) (k : Kept gs w w') (h0 : g ∉ gs) (h1 : p.g1 ∉ gs) (h2 : p.g2 ∉ gs) (h3 : p.g3 ∉ gs) : KB w' g p K :=
  ⟨(k.2 g (Array.getElem?_eq_some_iff.1 h.box).1 h0).trans h.box, h.own.kept k h1 h2 h3, h.e1, h.e2, h.e3⟩
theorem KB.lt {w : World} {g : Nat} {p : Kp} {K : Ker} (h : KB w g p K) : g < w.heap.size := (Array.getElem?_eq_some_iff.1 h.box).1
theorem KB.cells {w : World} {g : Nat} {p : Kp} {K : Ker} (h : KB w g p K) : w.cell? ⟨g, 0, none⟩ = some (.slice p.A1 p.n1 p.c1) ∧ w.cell? ⟨g, 1, none⟩ = some (.slice p.A2 4 p.c2) ∧ w.cell? ⟨g, 2, none⟩ = some (.slice p.A3 4 p.c3) ∧ w.cell? ⟨g, 3, none⟩ = some (.int .i64 K.tick) ∧ w.cell? ⟨g, 4, none⟩ = some (.int .i64 K.run) :=
  ⟨cell_of_row w g 0 _ _ _ h.box, cell_of_row w g 1 _ _ _ h.box, cell_of_row w g 2 _ _ _ h.box, cell_of_row w g 3 _ _ _ h.box, cell_of_row w g 4 _ _ _ h.box⟩
theorem KB.alive {w : World} {g : Nat} {p : Kp} {K : Ker} (h : KB w g p K) : ∃ off, p.A2 = some ⟨p.g2, off, none⟩ ∧ Row w p.g2 off 4 4 (fun k => .bool (gb K.al k)) := by
  rcases h.own.m2 with h | ⟨g', off, hA, h1, h2, hr⟩
  · omega
  · obtain rfl : g' = p.g2 := by omega
    exact ⟨off, hA, hr⟩
theorem KB.accs {w : World} {g : Nat} {p : Kp} {K : Ker} (h : KB w g p K) : ∃ off, p.A3 = some ⟨p.g3, off, none⟩ ∧ Row w p.g3 off 68 16 (fun k => .int .i64 (gi K.ac k)) := by
  rcases h.own.m3 with h | ⟨g', off, hA, h1, h2, hr⟩
  · omega
  · obtain rfl : g' = p.g3 := by omega
    exact ⟨off, hA, hr⟩

theorem blk5_set {w : World} {g : Nat} {a0 a1 a2 a3 a4 : Value} {t : TypeId} (h : w.heap[g]? = some (.cells #[a0, a1, a2, a3, a4] t (0, 0))) (b0 b1 b2 b3 b4 : Value) :
    (((((w.setCell ⟨g, 0, none⟩ b0).setCell ⟨g, 1, none⟩ b1).setCell ⟨g, 2, none⟩ b2).setCell ⟨g, 3, none⟩ b3).setCell ⟨g, 4, none⟩ b4).heap[g]? = some (.cells #[b0, b1, b2, b3, b4] t (0, 0)) := by
  have h0 : (w.setCell ⟨g, 0, none⟩ b0).heap[g]? = some (.cells #[b0, a1, a2, a3, a4] t (0, 0)) := heap_setCell_same w g 0 _ t b0 h
  have h1 : ((w.setCell ⟨g, 0, none⟩ b0).setCell ⟨g, 1, none⟩ b1).heap[g]? = some (.cells #[b0, b1, a2, a3, a4] t (0, 0)) := heap_setCell_same (w.setCell ⟨g, 0, none⟩ b0) g 1 _ t b1 h0
  have h2 : (((w.setCell ⟨g, 0, none⟩ b0).setCell ⟨g, 1, none⟩ b1).setCell ⟨g, 2, none⟩ b2).heap[g]? = some (.cells #[b0, b1, b2, a3, a4] t (0, 0)) := heap_setCell_same ((w.setCell ⟨g, 0, none⟩ b0).setCell ⟨g, 1, none⟩ b1) g 2 _ t b2 h1
  have h3 : ((((w.setCell ⟨g, 0, none⟩ b0).setCell ⟨g, 1, none⟩ b1).setCell ⟨g, 2, none⟩ b2).setCell ⟨g, 3, none⟩ b3).heap[g]? = some (.cells #[b0, b1, b2, b3, a4] t (0, 0)) := heap_setCell_same (((w.setCell ⟨g, 0, none⟩ b0).setCell ⟨g, 1, none⟩ b1).setCell ⟨g, 2, none⟩ b2) g 3 _ t b3 h2
  have h4 : (((((w.setCell ⟨g, 0, none⟩ b0).setCell ⟨g, 1, none⟩ b1).setCell ⟨g, 2, none⟩ b2).setCell ⟨g, 3, none⟩ b3).setCell ⟨g, 4, none⟩ b4).heap[g]? = some (.cells #[b0, b1, b2, b3, b4] t (0, 0)) := heap_setCell_same ((((w.setCell ⟨g, 0, none⟩ b0).setCell ⟨g, 1, none⟩ b1).setCell ⟨g, 2, none⟩ b2).setCell ⟨g, 3, none⟩ b3) g 4 _ t b4 h3
  exact h4
theorem below5 {B g : Nat} {o a : World} (h : Below B o a) (hg : B ≤ g) (b0 b1 b2 b3 b4 : Value) : Below B o (((((a.setCell ⟨g, 0, none⟩ b0).setCell ⟨g, 1, none⟩ b1).setCell ⟨g, 2, none⟩ b2).setCell ⟨g, 3, none⟩ b3).setCell ⟨g, 4, none⟩ b4) :=
  ((((h.setCell (p := ⟨g, 0, none⟩) hg b0).setCell (p := ⟨g, 1, none⟩) hg b1).setCell (p := ⟨g, 2, none⟩) hg b2).setCell (p := ⟨g, 3, none⟩) hg b3).setCell (p := ⟨g, 4, none⟩) hg b4
theorem far5 {a : World} {g lo hi n : Nat} {t : TypeId} {A : Option Addr} {f : Nat → Value} (h : Mine a lo hi t A n f) (hg : g < lo) (b0 b1 b2 b3 b4 : Value) : Mine (((((a.setCell ⟨g, 0, none⟩ b0).setCell ⟨g, 1, none⟩ b1).setCell ⟨g, 2, none⟩ b2).setCell ⟨g, 3, none⟩ b3).setCell ⟨g, 4, none⟩ b4) lo hi t A n f :=
  ((((h.far (p := ⟨g, 0, none⟩) hg b0).far (p := ⟨g, 1, none⟩) hg b1).far (p := ⟨g, 2, none⟩) hg b2).far (p := ⟨g, 3, none⟩) hg b3).far (p := ⟨g, 4, none⟩) hg b4

theorem KB.drew {w : World} {g : Nat} {p : Kp} {K : Ker} (h : KB w g p K) : KB w.drew g p K := ⟨h.box, ⟨h.own.l1, h.own.l2, h.own.l3, h.own.nil1, h.own.m1, h.own.m2, h.own.m3, h.own.d12, h.own.d13, h.own.d23⟩, h.e1, h.e2, h.e3⟩
theorem Kept.drew {gs : List Nat} {w w' : World} (h : Kept gs w w') : Kept gs w w'.drew := ⟨h.1.drew, h.2⟩
theorem KB.lt2 {w : World} {g : Nat} {p : Kp} {K : Ker} (h : KB w g p K) : p.g2 < w.heap.size ∧ p.g3 < w.heap.size := by
  obtain ⟨_, _, r2⟩ := h.alive
  obtain ⟨_, _, r3⟩ := h.accs
  exact ⟨r2.lt, r3.lt⟩
theorem KB.lt1 {w : World} {g : Nat} {p : Kp} {K : Ker} (h : KB w g p K) (hn : 1 ≤ p.n1) : p.g1 < w.heap.size := by
  rcases h.own.m1 with h | ⟨g', off, hA, h1, h2, hr⟩
  · omega
  · obtain rfl : g' = p.g1 := by omega
    exact hr.lt

def cval (W : World) (p : Addr) : Value := (W.cell? p).getD (.bool false)
theorem cval_eq {W : World} {p : Addr} {v : Value} (h : W.cell? p = some v) : W.cell? p = some (cval W p) := by unfold cval; rw [h]; rfl
inductive Box2 (s : Nat) (t : TypeId) (W0 W : World) : Prop where
  | intro (h : Below s W0 W) (a b : Value) (k : W.heap[s]? = some (.cells #[a, b] t (0, 0))) : Box2 s t W0 W
theorem Box2.fst {s : Nat} {t : TypeId} {W0 W : World} (h : Box2 s t W0 W) : Below s W0 W := by cases h; assumption
theorem Box2.facts {s : Nat} {t : TypeId} {W0 W : World} (h : Box2 s t W0 W) : W.cell? ⟨s, 0, none⟩ = some (cval W ⟨s, 0, none⟩) ∧ W.frozen? ⟨s, 0, none⟩ = false ∧ W.cell? ⟨s, 1, none⟩ = some (cval W ⟨s, 1, none⟩) ∧ W.frozen? ⟨s, 1, none⟩ = false := by
  cases h with
  | intro h a b k => exact ⟨cval_eq (cell_of_row W s 0 _ _ _ k), frozen_of_row W s 0 _ _ k, cval_eq (cell_of_row W s 1 _ _ _ k), frozen_of_row W s 1 _ _ k⟩
theorem Box2.below {s : Nat} {t : TypeId} {W0 W W' : World} (h : Box2 s t W0 W) (hb : Below W.heap.size W W') : Box2 s t W0 W' := by
  cases h with
  | intro h a b k =>
    have hl : s < W.heap.size := (Array.getElem?_eq_some_iff.1 k).1
    exact ⟨h.trans (hb.mono (by omega)), a, b, (hb.block s hl).trans k⟩
theorem Box2.store {s : Nat} {t : TypeId} {W0 W : World} (h : Box2 s t W0 W) (u v : Value) : Box2 s t W0 ((W.setCell ⟨s, 0, none⟩ u).setCell ⟨s, 1, none⟩ v) := by
  cases h with
  | intro h a b k => exact ⟨(h.setCell (p := ⟨s, 0, none⟩) (Nat.le_refl _) u).setCell (p := ⟨s, 1, none⟩) (Nat.le_refl _) v, u, v, heap_setCell_same _ s 1 _ t v (heap_setCell_same W s 0 _ t u k)⟩
theorem Box2.lt {s : Nat} {t : TypeId} {W0 W : World} (h : Box2 s t W0 W) : s < W.heap.size := by
  cases h with | intro h a b k => exact (Array.getElem?_eq_some_iff.1 k).1
theorem Box2.row {s : Nat} {t : TypeId} {W0 W : World} (h : Box2 s t W0 W) (u v : Value) : ((W.setCell ⟨s, 0, none⟩ u).setCell ⟨s, 1, none⟩ v).heap[s]? = some (.cells #[u, v] t (0, 0)) := by
  cases h with
  | intro h a b k => exact heap_setCell_same _ s 1 _ t v (heap_setCell_same W s 0 _ t u k)

theorem blk7_set {w : World} {g : Nat} {a0 a1 a2 a3 a4 a5 a6 : Value} {t : TypeId} (h : w.heap[g]? = some (.cells #[a0, a1, a2, a3, a4, a5, a6] t (0, 0))) (b0 b1 b2 b3 b4 b5 b6 : Value) :
    (((((((w.setCell ⟨g, 0, none⟩ b0).setCell ⟨g, 1, none⟩ b1).setCell ⟨g, 2, none⟩ b2).setCell ⟨g, 3, none⟩ b3).setCell ⟨g, 4, none⟩ b4).setCell ⟨g, 5, none⟩ b5).setCell ⟨g, 6, none⟩ b6).heap[g]? = some (.cells #[b0, b1, b2, b3, b4, b5, b6] t (0, 0)) := by
  have h0 : (w.setCell ⟨g, 0, none⟩ b0).heap[g]? = some (.cells #[b0, a1, a2, a3, a4, a5, a6] t (0, 0)) := heap_setCell_same w g 0 _ t b0 h
  have h1 : ((w.setCell ⟨g, 0, none⟩ b0).setCell ⟨g, 1, none⟩ b1).heap[g]? = some (.cells #[b0, b1, a2, a3, a4, a5, a6] t (0, 0)) := heap_setCell_same (w.setCell ⟨g, 0, none⟩ b0) g 1 _ t b1 h0
  have h2 : (((w.setCell ⟨g, 0, none⟩ b0).setCell ⟨g, 1, none⟩ b1).setCell ⟨g, 2, none⟩ b2).heap[g]? = some (.cells #[b0, b1, b2, a3, a4, a5, a6] t (0, 0)) := heap_setCell_same ((w.setCell ⟨g, 0, none⟩ b0).setCell ⟨g, 1, none⟩ b1) g 2 _ t b2 h1
  have h3 : ((((w.setCell ⟨g, 0, none⟩ b0).setCell ⟨g, 1, none⟩ b1).setCell ⟨g, 2, none⟩ b2).setCell ⟨g, 3, none⟩ b3).heap[g]? = some (.cells #[b0, b1, b2, b3, a4, a5, a6] t (0, 0)) := heap_setCell_same (((w.setCell ⟨g, 0, none⟩ b0).setCell ⟨g, 1, none⟩ b1).setCell ⟨g, 2, none⟩ b2) g 3 _ t b3 h2
  have h4 : (((((w.setCell ⟨g, 0, none⟩ b0).setCell ⟨g, 1, none⟩ b1).setCell ⟨g, 2, none⟩ b2).setCell ⟨g, 3, none⟩ b3).setCell ⟨g, 4, none⟩ b4).heap[g]? = some (.cells #[b0, b1, b2, b3, b4, a5, a6] t (0, 0)) := heap_setCell_same ((((w.setCell ⟨g, 0, none⟩ b0).setCell ⟨g, 1, none⟩ b1).setCell ⟨g, 2, none⟩ b2).setCell ⟨g, 3, none⟩ b3) g 4 _ t b4 h3
  have h5 : ((((((w.setCell ⟨g, 0, none⟩ b0).setCell ⟨g, 1, none⟩ b1).setCell ⟨g, 2, none⟩ b2).setCell ⟨g, 3, none⟩ b3).setCell ⟨g, 4, none⟩ b4).setCell ⟨g, 5, none⟩ b5).heap[g]? = some (.cells #[b0, b1, b2, b3, b4, b5, a6] t (0, 0)) := heap_setCell_same (((((w.setCell ⟨g, 0, none⟩ b0).setCell ⟨g, 1, none⟩ b1).setCell ⟨g, 2, none⟩ b2).setCell ⟨g, 3, none⟩ b3).setCell ⟨g, 4, none⟩ b4) g 5 _ t b5 h4
  have h6 : (((((((w.setCell ⟨g, 0, none⟩ b0).setCell ⟨g, 1, none⟩ b1).setCell ⟨g, 2, none⟩ b2).setCell ⟨g, 3, none⟩ b3).setCell ⟨g, 4, none⟩ b4).setCell ⟨g, 5, none⟩ b5).setCell ⟨g, 6, none⟩ b6).heap[g]? = some (.cells #[b0, b1, b2, b3, b4, b5, b6] t (0, 0)) := heap_setCell_same ((((((w.setCell ⟨g, 0, none⟩ b0).setCell ⟨g, 1, none⟩ b1).setCell ⟨g, 2, none⟩ b2).setCell ⟨g, 3, none⟩ b3).setCell ⟨g, 4, none⟩ b4).setCell ⟨g, 5, none⟩ b5) g 6 _ t b6 h5
  exact h6
theorem below7 {B g : Nat} {o a : World} (h : Below B o a) (hg : B ≤ g) (b0 b1 b2 b3 b4 b5 b6 : Value) : Below B o (((((((a.setCell ⟨g, 0, none⟩ b0).setCell ⟨g, 1, none⟩ b1).setCell ⟨g, 2, none⟩ b2).setCell ⟨g, 3, none⟩ b3).setCell ⟨g, 4, none⟩ b4).setCell ⟨g, 5, none⟩ b5).setCell ⟨g, 6, none⟩ b6) :=
  ((((((h.setCell (p := ⟨g, 0, none⟩) hg b0).setCell (p := ⟨g, 1, none⟩) hg b1).setCell (p := ⟨g, 2, none⟩) hg b2).setCell (p := ⟨g, 3, none⟩) hg b3).setCell (p := ⟨g, 4, none⟩) hg b4).setCell (p := ⟨g, 5, none⟩) hg b5).setCell (p := ⟨g, 6, none⟩) hg b6
theorem far7 {a : World} {g lo hi n : Nat} {t : TypeId} {A : Option Addr} {f : Nat → Value} (h : Mine a lo hi t A n f) (hg : g < lo) (b0 b1 b2 b3 b4 b5 b6 : Value) : Mine (((((((a.setCell ⟨g, 0, none⟩ b0).setCell ⟨g, 1, none⟩ b1).setCell ⟨g, 2, none⟩ b2).setCell ⟨g, 3, none⟩ b3).setCell ⟨g, 4, none⟩ b4).setCell ⟨g, 5, none⟩ b5).setCell ⟨g, 6, none⟩ b6) lo hi t A n f :=
  ((((((h.far (p := ⟨g, 0, none⟩) hg b0).far (p := ⟨g, 1, none⟩) hg b1).far (p := ⟨g, 2, none⟩) hg b2).far (p := ⟨g, 3, none⟩) hg b3).far (p := ⟨g, 4, none⟩) hg b4).far (p := ⟨g, 5, none⟩) hg b5).far (p := ⟨g, 6, none⟩) hg b6

theorem rfar5 {a : World} {g u off n : Nat} {t : TypeId} {f : Nat → Value} (h : Row a u off t n f) (hg : u ≠ g) (b0 b1 b2 b3 b4 : Value) : Row (((((a.setCell ⟨g, 0, none⟩ b0).setCell ⟨g, 1, none⟩ b1).setCell ⟨g, 2, none⟩ b2).setCell ⟨g, 3, none⟩ b3).setCell ⟨g, 4, none⟩ b4) u off t n f :=
  ((((h.far (p := ⟨g, 0, none⟩) hg b0).far (p := ⟨g, 1, none⟩) hg b1).far (p := ⟨g, 2, none⟩) hg b2).far (p := ⟨g, 3, none⟩) hg b3).far (p := ⟨g, 4, none⟩) hg b4

end Go.Proofs.YtckapndpefkcgaaGreat
