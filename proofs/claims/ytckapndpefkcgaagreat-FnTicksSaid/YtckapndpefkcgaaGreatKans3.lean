/-
  An answer's box: a code, or a kernel of the call's own written into it. No program is named here.
  Ahead of it:
  A block of n cells that a region writes at its end. No program is named here.
  Ahead of it:
  How a kernel of the call's own turns: one cell of who is alive, one account, who runs, the owners.
-/
import Derived.Test.YtckapndpefkcgaaGreatKer2
import Derived.Test.YtckapndpefkcgaaGreatCall3
set_option maxHeartbeats 1000000
namespace Go.Proofs.YtckapndpefkcgaaGreat
open Go.RowKit

theorem row_of_mine {w : World} {g n off : Nat} {t : TypeId} {A : Option Addr} {f : Nat → Value} (h : Mine w g (g + 1) t A n f) (h0 : n ≠ 0) (hA : A = some ⟨g, off, none⟩) : Row w g off t n f := by
  rcases h with h | ⟨g', off', hA', _, _, hr⟩
  · exact absurd h h0
  · rw [hA] at hA'
    injection hA' with hA'
    injection hA' with e1 e2
    subst e1 e2
    exact hr
theorem KB.setAlive {w : World} {g : Nat} {p : Kp} {K : Ker} (h : KB w g p K) {off e : Nat} (hA : p.A2 = some ⟨p.g2, off, none⟩) (he : e < 4) (v : Bool) :
    KB (w.setCell ⟨p.g2, off + e, none⟩ (.bool v)) g p { K with al := K.al.set e v } := by
  have hr := row_of_mine h.own.m2 (by omega) hA
  refine ⟨(Below.heap_setCell w ⟨p.g2, off + e, none⟩ _ g h.e2).trans h.box, ⟨h.own.l1, by simp [h.own.l2], h.own.l3, h.own.nil1, ?_, ?_, ?_, h.own.d12, h.own.d13, h.own.d23⟩, h.e1, h.e2, h.e3⟩
  · exact h.own.m1.keep fun b h1 h2 => Below.heap_setCell w ⟨p.g2, off + e, none⟩ _ b (by have := h.own.d12; simp; omega)
  · refine .inr ⟨p.g2, off, hA, Nat.le_refl _, Nat.lt_succ_self _, (hr.set he (.bool v)).congr fun k hk => ?_⟩
    show _ = Value.bool (gb (K.al.set e v) k)
    rw [gb_set]
    by_cases e1 : k = e
    · rw [if_pos e1, if_pos ⟨e1, by rw [h.own.l2]; exact he⟩]
    · rw [if_neg e1, if_neg (fun hh => e1 hh.1)]
  · exact h.own.m3.keep fun b h1 h2 => Below.heap_setCell w ⟨p.g2, off + e, none⟩ _ b (by have := h.own.d23; simp; omega)
theorem KB.setRun {w : World} {g : Nat} {p : Kp} {K : Ker} (h : KB w g p K) (v : Int) : KB (w.setCell ⟨g, 4, none⟩ (.int .i64 v)) g p { K with run := v } := by
  have far : ∀ b, b ≠ g → (w.setCell ⟨g, 4, none⟩ (.int .i64 v)).heap[b]? = w.heap[b]? := fun b hb => Below.heap_setCell w ⟨g, 4, none⟩ _ b hb
  exact ⟨heap_setCell_same w g 4 _ _ _ h.box, ⟨h.own.l1, h.own.l2, h.own.l3, h.own.nil1, h.own.m1.keep fun b h1 h2 => far b (by have := h.e1; omega), h.own.m2.keep fun b h1 h2 => far b (by have := h.e2; omega),
    h.own.m3.keep fun b h1 h2 => far b (by have := h.e3; omega), h.own.d12, h.own.d13, h.own.d23⟩, h.e1, h.e2, h.e3⟩
theorem KB.setTick {w : World} {g : Nat} {p : Kp} {K : Ker} (h : KB w g p K) (v : Int) : KB (w.setCell ⟨g, 3, none⟩ (.int .i64 v)) g p { K with tick := v } := by
  have far : ∀ b, b ≠ g → (w.setCell ⟨g, 3, none⟩ (.int .i64 v)).heap[b]? = w.heap[b]? := fun b hb => Below.heap_setCell w ⟨g, 3, none⟩ _ b hb
  exact ⟨heap_setCell_same w g 3 _ _ _ h.box, ⟨h.own.l1, h.own.l2, h.own.l3, h.own.nil1, h.own.m1.keep fun b h1 h2 => far b (by have := h.e1; omega), h.own.m2.keep fun b h1 h2 => far b (by have := h.e2; omega),
    h.own.m3.keep fun b h1 h2 => far b (by have := h.e3; omega), h.own.d12, h.own.d13, h.own.d23⟩, h.e1, h.e2, h.e3⟩
def Kp.withOwners (p : Kp) (A : Option Addr) (n c g1 : Nat) : Kp := { p with A1 := A, n1 := n, c1 := c, g1 := g1 }
theorem KB.setOwners {w : World} {g : Nat} {p : Kp} {K : Ker} (h : KB w g p K) {A : Option Addr} {n c g1 : Nat} {xs : List Int} (hl : xs.length = n) (hn : A = none → c = 0) (hm : Mine w g1 (g1 + 1) 2 A n (fun k => .int .i64 (gi xs k)))
    (d0 : g ≠ g1) (d2 : g1 ≠ p.g2) (d3 : g1 ≠ p.g3) : KB (w.setCell ⟨g, 0, none⟩ (.slice A n c)) g (p.withOwners A n c g1) { K with os := xs } := by
  have far : ∀ b, b ≠ g → (w.setCell ⟨g, 0, none⟩ (.slice A n c)).heap[b]? = w.heap[b]? := fun b hb => Below.heap_setCell w ⟨g, 0, none⟩ _ b hb
  exact ⟨heap_setCell_same w g 0 _ _ _ h.box, ⟨hl, h.own.l2, h.own.l3, hn, hm.keep fun b h1 h2 => far b (by omega), h.own.m2.keep fun b h1 h2 => far b (by have := h.e2; omega),
    h.own.m3.keep fun b h1 h2 => far b (by have := h.e3; omega), d2, d3, h.own.d23⟩, d0, h.e2, h.e3⟩
def setAcc (ac : List Int) (e : Nat) (u x g d : Int) : List Int := (((ac.set (e * 4) u).set (e * 4 + 1) x).set (e * 4 + 2) g).set (e * 4 + 3) d
theorem zac_eq (ac : List Int) (e : Nat) : zac ac e = setAcc ac e 0 0 0 0 := rfl
theorem setAcc_len (ac : List Int) (e : Nat) (u x g d : Int) : (setAcc ac e u x g d).length = ac.length := by simp [setAcc]
theorem Row.setInt {w : World} {g off : Nat} {t : TypeId} {n i : Nat} {xs : List Int} (h : Row w g off t n (fun k => .int .i64 (gi xs k))) (hi : i < n) (hl : xs.length = n) (v : Int) :
    Row (w.setCell ⟨g, off + i, none⟩ (.int .i64 v)) g off t n (fun k => .int .i64 (gi (xs.set i v) k)) :=
  (h.set hi (.int .i64 v)).congr fun k hk => by
    rw [gi_set]
    by_cases e1 : k = i
    · rw [if_pos e1, if_pos ⟨e1, by omega⟩]
    · rw [if_neg e1, if_neg (fun hh => e1 hh.1)]
theorem KB.setAccount {w : World} {g : Nat} {p : Kp} {K : Ker} (h : KB w g p K) {off e : Nat} (hA : p.A3 = some ⟨p.g3, off, none⟩) (he : e < 4) (u x y d : Int) :
    KB ((((w.setCell ⟨p.g3, off + e * 4, none⟩ (.int .i64 u)).setCell ⟨p.g3, off + e * 4 + 1, none⟩ (.int .i64 x)).setCell ⟨p.g3, off + e * 4 + 2, none⟩ (.int .i64 y)).setCell ⟨p.g3, off + e * 4 + 3, none⟩ (.int .i64 d)) g p { K with ac := setAcc K.ac e u x y d } := by
  have hr := row_of_mine h.own.m3 (by omega) hA
  have r1 := hr.setInt (i := e * 4) (by omega) h.own.l3 u
  have r2 := r1.setInt (i := e * 4 + 1) (by omega) (by simp [h.own.l3]) x
  have r3 := r2.setInt (i := e * 4 + 2) (by omega) (by simp [h.own.l3]) y
  have r4 := r3.setInt (i := e * 4 + 3) (by omega) (by simp [h.own.l3]) d
  have far : ∀ b, b ≠ p.g3 → ((((w.setCell ⟨p.g3, off + e * 4, none⟩ (.int .i64 u)).setCell ⟨p.g3, off + e * 4 + 1, none⟩ (.int .i64 x)).setCell ⟨p.g3, off + e * 4 + 2, none⟩ (.int .i64 y)).setCell ⟨p.g3, off + e * 4 + 3, none⟩ (.int .i64 d)).heap[b]? = w.heap[b]? := fun b hb =>
    (Below.heap_setCell _ ⟨p.g3, _, none⟩ _ b hb).trans ((Below.heap_setCell _ ⟨p.g3, _, none⟩ _ b hb).trans ((Below.heap_setCell _ ⟨p.g3, _, none⟩ _ b hb).trans (Below.heap_setCell _ ⟨p.g3, _, none⟩ _ b hb)))
  exact ⟨(far g h.e3).trans h.box, ⟨h.own.l1, h.own.l2, (setAcc_len _ _ _ _ _ _).trans h.own.l3, h.own.nil1, h.own.m1.keep fun b h1 h2 => far b (by have := h.own.d13; omega), h.own.m2.keep fun b h1 h2 => far b (by have := h.own.d23; omega),
    .inr ⟨p.g3, off, hA, Nat.le_refl _, Nat.lt_succ_self _, r4⟩, h.own.d12, h.own.d13, h.own.d23⟩, h.e1, h.e2, h.e3⟩
theorem Kept.set4 {gs : List Nat} {w w' : World} {g i : Nat} (h : Kept gs w w') (hg : g ∈ gs) (a b c d : Value) : Kept gs w ((((w'.setCell ⟨g, i, none⟩ a).setCell ⟨g, i + 1, none⟩ b).setCell ⟨g, i + 2, none⟩ c).setCell ⟨g, i + 3, none⟩ d) :=
  (((h.setCell (p := ⟨g, i, none⟩) hg a).setCell (p := ⟨g, i + 1, none⟩) hg b).setCell (p := ⟨g, i + 2, none⟩) hg c).setCell (p := ⟨g, i + 3, none⟩) hg d

def zeroKer : Ker := ⟨[], [], [], 0, 0⟩
def orZero (r : Int × Ker) : Int × Ker := if r.1 ≠ 0 then (r.1, zeroKer) else r
structure Rp where
  A1 : Option Addr
  n1 : Nat
  c1 : Nat
  A2 : Option Addr
  n2 : Nat
  c2 : Nat
  A3 : Option Addr
  n3 : Nat
  c3 : Nat
  A4 : Option Addr
  n4 : Nat
  c4 : Nat
  g1 : Nat
  g2 : Nat
  g3 : Nat
  g4 : Nat
def Rp.val (p : Rp) (q : Int) (K : Ker) : Value := .agg #[.int .i64 q, .slice p.A1 p.n1 p.c1, .slice p.A2 p.n2 p.c2, .slice p.A3 p.n3 p.c3, .int .i64 K.tick, .int .i64 K.run, .slice p.A4 p.n4 p.c4]
structure ROwn (w : World) (lo hi : Nat) (p : Rp) (K : Ker) (ns : List Int) : Prop where
  l1 : K.os.length = p.n1
  l2 : K.al.length = p.n2
  l3 : K.ac.length = p.n3 * 4
  l4 : ns.length = p.n4 * 3
  nil1 : p.A1 = none → p.c1 = 0
  m1 : Mine w p.g1 (p.g1 + 1) 2 p.A1 p.n1 (fun k => .int .i64 (gi K.os k))
  m2 : Mine w p.g2 (p.g2 + 1) 4 p.A2 p.n2 (fun k => .bool (gb K.al k))
  m3 : Mine w p.g3 (p.g3 + 1) 68 p.A3 (p.n3 * 4) (fun k => .int .i64 (gi K.ac k))
  m4 : Mine w p.g4 (p.g4 + 1) 96 p.A4 (p.n4 * 3) (fun k => .int .i64 (gi ns k))
  d12 : p.n1 ≠ 0 → p.n2 ≠ 0 → p.g1 ≠ p.g2
  d13 : p.n1 ≠ 0 → p.n3 ≠ 0 → p.g1 ≠ p.g3
  d14 : p.n1 ≠ 0 → p.n4 ≠ 0 → p.g1 ≠ p.g4
  d23 : p.n2 ≠ 0 → p.n3 ≠ 0 → p.g2 ≠ p.g3
  d24 : p.n2 ≠ 0 → p.n4 ≠ 0 → p.g2 ≠ p.g4
  d34 : p.n3 ≠ 0 → p.n4 ≠ 0 → p.g3 ≠ p.g4
  b1 : lo ≤ p.g1 ∧ p.g1 < hi
  b2 : lo ≤ p.g2 ∧ p.g2 < hi
  b3 : lo ≤ p.g3 ∧ p.g3 < hi
  b4 : lo ≤ p.g4 ∧ p.g4 < hi
def KAns (q : Int) (K : Ker) (ns : List Int) (w : World) (e : Ending) (w' : World) : Prop :=
  ∃ p : Rp, e = .returned (p.val q K) ∧ ROwn w' w.heap.size w'.heap.size p K ns ∧ Below w.heap.size w w'
theorem kans_code {q : Int} {w : World} {w' : World} (hb : Below w.heap.size w w') (hs : w.heap.size < w'.heap.size) : KAns q zeroKer [] w (.returned (.agg #[.int .i64 q, .slice none 0 0, .slice none 0 0, .slice none 0 0, .int .i64 0, .int .i64 0, .slice none 0 0])) w' :=
  ⟨⟨none, 0, 0, none, 0, 0, none, 0, 0, none, 0, 0, w.heap.size, w.heap.size, w.heap.size, w.heap.size⟩, rfl,
    ⟨rfl, rfl, rfl, rfl, fun _ => rfl, .inl rfl, .inl rfl, .inl rfl, .inl rfl, fun h => absurd rfl h, fun h => absurd rfl h, fun h => absurd rfl h, fun h => absurd rfl h, fun h => absurd rfl h, fun h => absurd rfl h, ⟨Nat.le_refl _, hs⟩, ⟨Nat.le_refl _, hs⟩, ⟨Nat.le_refl _, hs⟩, ⟨Nat.le_refl _, hs⟩⟩, hb⟩
theorem kans_ker {K : Ker} {w w' : World} {p : Kp} (h : KOwn w' p K) (h1 : w.heap.size ≤ p.g1 ∧ p.g1 < w'.heap.size) (h2 : w.heap.size ≤ p.g2 ∧ p.g2 < w'.heap.size) (h3 : w.heap.size ≤ p.g3 ∧ p.g3 < w'.heap.size) (hb : Below w.heap.size w w') :
    KAns 0 K [] w (.returned (.agg #[.int .i64 0, .slice p.A1 p.n1 p.c1, .slice p.A2 4 p.c2, .slice p.A3 4 p.c3, .int .i64 K.tick, .int .i64 K.run, .slice none 0 0])) w' :=
  ⟨⟨p.A1, p.n1, p.c1, p.A2, 4, p.c2, p.A3, 4, p.c3, none, 0, 0, p.g1, p.g2, p.g3, w.heap.size⟩, rfl,
    ⟨h.l1, h.l2, h.l3, rfl, h.nil1, h.m1, h.m2, h.m3, .inl rfl, fun _ _ => h.d12, fun _ _ => h.d13, fun _ h => absurd rfl h, fun _ _ => h.d23, fun _ h => absurd rfl h, fun _ h => absurd rfl h, h1, h2, h3, ⟨Nat.le_refl _, Nat.lt_of_le_of_lt h1.1 h1.2⟩⟩, hb⟩



inductive BoxN (n s : Nat) (t : TypeId) (W0 W : World) : Prop where
  | intro (h : Below s W0 W) (cs : Array Value) (e : cs.size = n) (k : W.heap[s]? = some (.cells cs t (0, 0))) : BoxN n s t W0 W
section
variable {n s : Nat} {t : TypeId} {W0 W W' : World}
theorem BoxN.fst (h : BoxN n s t W0 W) : Below s W0 W := by cases h; assumption
theorem BoxN.lt (h : BoxN n s t W0 W) : s < W.heap.size := by cases h with | intro h cs e k => exact (Array.getElem?_eq_some_iff.1 k).1
theorem BoxN.cell (h : BoxN n s t W0 W) (j : Nat) (hj : j < n) : W.cell? ⟨s, j, none⟩ = some (cval W ⟨s, j, none⟩) := by
  cases h with
  | intro h cs e k => exact cval_eq (v := cs[j]'(by omega)) (by rw [cell_of_row W s j _ _ _ k]; simp)
theorem BoxN.frozen (h : BoxN n s t W0 W) (j : Nat) : W.frozen? ⟨s, j, none⟩ = false := by
  cases h with | intro h cs e k => exact frozen_of_row W s j _ _ k
theorem BoxN.below (h : BoxN n s t W0 W) (hb : Below W.heap.size W W') : BoxN n s t W0 W' := by
  have hl := h.lt
  cases h with
  | intro h cs e k => exact ⟨h.trans (hb.mono (by omega)), cs, e, (hb.block s hl).trans k⟩
theorem BoxN.drew (h : BoxN n s t W0 W) : BoxN n s t W0 W.drew := by
  cases h with | intro h cs e k => exact ⟨h.drew, cs, e, k⟩
theorem BoxN.alloc (h : BoxN n s t W0 W) (o : Obj) : BoxN n s t W0 (W.alloc o) := h.below (below_new W o)
theorem BoxN.set (h : BoxN n s t W0 W) (j : Nat) (v : Value) : BoxN n s t W0 (W.setCell ⟨s, j, none⟩ v) := by
  cases h with
  | intro h cs e k => exact ⟨h.setCell (p := ⟨s, j, none⟩) (Nat.le_refl _) v, cs.setIfInBounds j v, by simp [e], heap_setCell_same W s j _ t v k⟩
theorem BoxN.far (h : BoxN n s t W0 W) (g j : Nat) (v : Value) (hg : s < g) : BoxN n s t W0 (W.setCell ⟨g, j, none⟩ v) := by
  cases h with
  | intro h cs e k => exact ⟨h.setCell (p := ⟨g, j, none⟩) (Nat.le_of_lt hg) v, cs, e, (Below.heap_setCell W ⟨g, j, none⟩ _ s (by simp; omega)).trans k⟩
theorem BoxN.new (w : World) (cs : Array Value) (t : TypeId) : BoxN cs.size w.heap.size t w (w.alloc (.cells cs t)) := ⟨below_new w _, cs, rfl, heap_alloc_new w _⟩
theorem BoxN.of (h : BoxN n s t W0 W) : ∃ cs : Array Value, cs.size = n ∧ W.heap[s]? = some (.cells cs t (0, 0)) := by cases h; exact ⟨_, by assumption, by assumption⟩
end
theorem arr5 {α : Type} {cs : Array α} (h : cs.size = 5) : ∃ c0 c1 c2 c3 c4, cs = #[c0, c1, c2, c3, c4] := by
  obtain ⟨l⟩ := cs
  match l, h with
  | [c0, c1, c2, c3, c4], _ => exact ⟨c0, c1, c2, c3, c4, rfl⟩
theorem arr7 {α : Type} {cs : Array α} (h : cs.size = 7) : ∃ c0 c1 c2 c3 c4 c5 c6, cs = #[c0, c1, c2, c3, c4, c5, c6] := by
  obtain ⟨l⟩ := cs
  match l, h with
  | [c0, c1, c2, c3, c4, c5, c6], _ => exact ⟨c0, c1, c2, c3, c4, c5, c6, rfl⟩


set_option maxRecDepth 100000

theorem Kept.set7 {gs : List Nat} {w w' : World} {s : Nat} (h : Kept gs w w') (hs : s ∈ gs) (v0 v1 v2 v3 v4 v5 v6 : Value) : Kept gs w (((((((w'.setCell ⟨s, 0, none⟩ v0).setCell ⟨s, 1, none⟩ v1).setCell ⟨s, 2, none⟩ v2).setCell ⟨s, 3, none⟩ v3).setCell ⟨s, 4, none⟩ v4).setCell ⟨s, 5, none⟩ v5).setCell ⟨s, 6, none⟩ v6) :=
  (((((((h.setCell (p := ⟨s, 0, none⟩) hs (v0)).setCell (p := ⟨s, 1, none⟩) hs (v1)).setCell (p := ⟨s, 2, none⟩) hs (v2)).setCell (p := ⟨s, 3, none⟩) hs (v3)).setCell (p := ⟨s, 4, none⟩) hs (v4)).setCell (p := ⟨s, 5, none⟩) hs (v5)).setCell (p := ⟨s, 6, none⟩) hs (v6))
theorem kans_box {w W : World} {K : Ker} {p : Kp} (hx : BoxN 7 w.heap.size 61 w W) (ho : KOwn W p K) (h1 : w.heap.size < p.g1 ∧ p.g1 < W.heap.size) (h2 : w.heap.size < p.g2 ∧ p.g2 < W.heap.size) (h3 : w.heap.size < p.g3 ∧ p.g3 < W.heap.size) :
    let W7 := (((((((W.setCell ⟨w.heap.size, 0, none⟩ (.int .i64 0)).setCell ⟨w.heap.size, 1, none⟩ (.slice p.A1 p.n1 p.c1)).setCell ⟨w.heap.size, 2, none⟩ (.slice p.A2 4 p.c2)).setCell ⟨w.heap.size, 3, none⟩ (.slice p.A3 4 p.c3)).setCell ⟨w.heap.size, 4, none⟩ (.int .i64 K.tick)).setCell ⟨w.heap.size, 5, none⟩ (.int .i64 K.run)).setCell ⟨w.heap.size, 6, none⟩ (.slice none 0 0))
    W7.heap[w.heap.size]? = some (.cells #[.int .i64 0, .slice p.A1 p.n1 p.c1, .slice p.A2 4 p.c2, .slice p.A3 4 p.c3, .int .i64 K.tick, .int .i64 K.run, .slice none 0 0] 61 (0, 0)) ∧
    KAns 0 K [] w (.returned (.agg #[.int .i64 0, .slice p.A1 p.n1 p.c1, .slice p.A2 4 p.c2, .slice p.A3 4 p.c3, .int .i64 K.tick, .int .i64 K.run, .slice none 0 0])) W7 := by
  intro W7
  obtain ⟨cs, e, k⟩ := hx.of
  obtain ⟨a0, a1, a2, a3, a4, a5, a6, rfl⟩ := arr7 e
  have kp : Kept [w.heap.size] W W7 := Kept.set7 (Kept.refl _ _) (List.mem_singleton.2 rfl) _ _ _ _ _ _ _
  have hsz : W7.heap.size = W.heap.size := by simp [W7]
  refine ⟨blk7_set k _ _ _ _ _ _ _, kans_ker (ho.kept kp (by simp; omega) (by simp; omega) (by simp; omega)) ⟨by omega, by omega⟩ ⟨by omega, by omega⟩ ⟨by omega, by omega⟩ (below7 hx.fst (Nat.le_refl _) _ _ _ _ _ _ _)⟩
theorem kans_code_box {w W : World} (q : Int) (hx : BoxN 7 w.heap.size 61 w W) :
    let W7 := (((((((W.setCell ⟨w.heap.size, 0, none⟩ (.int .i64 q)).setCell ⟨w.heap.size, 1, none⟩ (.slice none 0 0)).setCell ⟨w.heap.size, 2, none⟩ (.slice none 0 0)).setCell ⟨w.heap.size, 3, none⟩ (.slice none 0 0)).setCell ⟨w.heap.size, 4, none⟩ (.int .i64 0)).setCell ⟨w.heap.size, 5, none⟩ (.int .i64 0)).setCell ⟨w.heap.size, 6, none⟩ (.slice none 0 0))
    W7.heap[w.heap.size]? = some (.cells #[.int .i64 q, .slice none 0 0, .slice none 0 0, .slice none 0 0, .int .i64 0, .int .i64 0, .slice none 0 0] 61 (0, 0)) ∧
    KAns q zeroKer [] w (.returned (.agg #[.int .i64 q, .slice none 0 0, .slice none 0 0, .slice none 0 0, .int .i64 0, .int .i64 0, .slice none 0 0])) W7 := by
  intro W7
  obtain ⟨cs, e, k⟩ := hx.of
  obtain ⟨a0, a1, a2, a3, a4, a5, a6, rfl⟩ := arr7 e
  have hsz : W7.heap.size = W.heap.size := by simp [W7]
  exact ⟨blk7_set k _ _ _ _ _ _ _, kans_code (below7 hx.fst (Nat.le_refl _) _ _ _ _ _ _ _) (by have := hx.lt; omega)⟩

end Go.Proofs.YtckapndpefkcgaaGreat
