/-
  How a kernel of the call's own turns: one cell of who is alive, one account, who runs, the owners.
-/
import Derived.Test.YtkhphkfbjbhgaaaGreatKer2
import Derived.Test.YtkhphkfbjbhgaaaGreatCall3
namespace Go.Proofs.YtkhphkfbjbhgaaaGreat
open Go.RowKit

set_option maxHeartbeats 1000000 in
theorem row_of_mine {w : World} {g n off : Nat} {t : TypeId} {A : Option Addr} {f : Nat → Value} (h : Mine w g (g + 1) t A n f) (h0 : n ≠ 0) (hA : A = some ⟨g, off, none⟩) : Row w g off t n f := by
  rcases h with h | ⟨g', off', hA', _, _, hr⟩
  · exact absurd h h0
  · rw [hA] at hA'
    injection hA' with hA'
    injection hA' with e1 e2
    subst e1 e2
    exact hr
set_option maxHeartbeats 1000000 in
theorem KB.setAlive {w : World} {g : Nat} {p : Kp} {K : Ker} (h : KB w g p K) {off e : Nat} (hA : p.A2 = some ⟨p.g2, off, none⟩) (he : e < 4) (v : Bool) :
    KB (w.setCell ⟨p.g2, off + e, none⟩ (.bool v)) g p { K with al := K.al.set e v } := by
  have hr := row_of_mine h.own.m2 (by omega) hA
  refine ⟨(Below.heap_setCell w ⟨p.g2, off + e, none⟩ _ g h.e2).trans h.box, ⟨h.own.l1, by simp [h.own.l2], h.own.l3, h.own.nil1, ?_, ?_, ?_, h.own.d12, h.own.d13, h.own.d23⟩, h.e1, h.e2, h.e3⟩
  · exact h.own.m1.keep fun b h1 h2 => Below.heap_setCell w ⟨p.g2, off + e, none⟩ _ b (by have := h.own.d12; simp; omega)
  · refine .inr ⟨p.g2, off, hA, Nat.le_refl _, Nat.lt_succ_self _, (hr.set he (.bool v)).congr fun k hk => ?_⟩
    show _ = Value.bool (gb (K.al.set e v) k)
    rw [gb_set]
    by_cases e1 : k = e
    · rw [if_pos e1, if_pos ⟨e1, by rw [h.own.l2]; exact he⟩]
    · rw [if_neg e1, if_neg (fun hh => e1 hh.1)]
  · exact h.own.m3.keep fun b h1 h2 => Below.heap_setCell w ⟨p.g2, off + e, none⟩ _ b (by have := h.own.d23; simp; omega)
set_option maxHeartbeats 1000000 in
theorem KB.setRun {w : World} {g : Nat} {p : Kp} {K : Ker} (h : KB w g p K) (v : Int) : KB (w.setCell ⟨g, 4, none⟩ (.int .i64 v)) g p { K with run := v } := by
  have far : ∀ b, b ≠ g → (w.setCell ⟨g, 4, none⟩ (.int .i64 v)).heap[b]? = w.heap[b]? := fun b hb => Below.heap_setCell w ⟨g, 4, none⟩ _ b hb
  exact ⟨heap_setCell_same w g 4 _ _ _ h.box, ⟨h.own.l1, h.own.l2, h.own.l3, h.own.nil1, h.own.m1.keep fun b h1 h2 => far b (by have := h.e1; omega), h.own.m2.keep fun b h1 h2 => far b (by have := h.e2; omega),
    h.own.m3.keep fun b h1 h2 => far b (by have := h.e3; omega), h.own.d12, h.own.d13, h.own.d23⟩, h.e1, h.e2, h.e3⟩
set_option maxHeartbeats 1000000 in
theorem KB.setTick {w : World} {g : Nat} {p : Kp} {K : Ker} (h : KB w g p K) (v : Int) : KB (w.setCell ⟨g, 3, none⟩ (.int .i64 v)) g p { K with tick := v } := by
  have far : ∀ b, b ≠ g → (w.setCell ⟨g, 3, none⟩ (.int .i64 v)).heap[b]? = w.heap[b]? := fun b hb => Below.heap_setCell w ⟨g, 3, none⟩ _ b hb
  exact ⟨heap_setCell_same w g 3 _ _ _ h.box, ⟨h.own.l1, h.own.l2, h.own.l3, h.own.nil1, h.own.m1.keep fun b h1 h2 => far b (by have := h.e1; omega), h.own.m2.keep fun b h1 h2 => far b (by have := h.e2; omega),
    h.own.m3.keep fun b h1 h2 => far b (by have := h.e3; omega), h.own.d12, h.own.d13, h.own.d23⟩, h.e1, h.e2, h.e3⟩
/-- where the kernel's lists lie, with other owners -/
def Kp.withOwners (p : Kp) (A : Option Addr) (n c g1 : Nat) : Kp := { p with A1 := A, n1 := n, c1 := c, g1 := g1 }
set_option maxHeartbeats 1000000 in
theorem KB.setOwners {w : World} {g : Nat} {p : Kp} {K : Ker} (h : KB w g p K) {A : Option Addr} {n c g1 : Nat} {xs : List Int} (hl : xs.length = n) (hn : A = none → c = 0) (hm : Mine w g1 (g1 + 1) 2 A n (fun k => .int .i64 (gi xs k)))
    (d0 : g ≠ g1) (d2 : g1 ≠ p.g2) (d3 : g1 ≠ p.g3) : KB (w.setCell ⟨g, 0, none⟩ (.slice A n c)) g (p.withOwners A n c g1) { K with os := xs } := by
  have far : ∀ b, b ≠ g → (w.setCell ⟨g, 0, none⟩ (.slice A n c)).heap[b]? = w.heap[b]? := fun b hb => Below.heap_setCell w ⟨g, 0, none⟩ _ b hb
  exact ⟨heap_setCell_same w g 0 _ _ _ h.box, ⟨hl, h.own.l2, h.own.l3, hn, hm.keep fun b h1 h2 => far b (by omega), h.own.m2.keep fun b h1 h2 => far b (by have := h.e2; omega),
    h.own.m3.keep fun b h1 h2 => far b (by have := h.e3; omega), d2, d3, h.own.d23⟩, d0, h.e2, h.e3⟩
/-- an account's four cells written -/
def setAcc (ac : List Int) (e : Nat) (u x g d : Int) : List Int := (((ac.set (e * 4) u).set (e * 4 + 1) x).set (e * 4 + 2) g).set (e * 4 + 3) d
set_option maxHeartbeats 1000000 in
theorem zac_eq (ac : List Int) (e : Nat) : zac ac e = setAcc ac e 0 0 0 0 := rfl
set_option maxHeartbeats 1000000 in
theorem setAcc_len (ac : List Int) (e : Nat) (u x g d : Int) : (setAcc ac e u x g d).length = ac.length := by simp [setAcc]
set_option maxHeartbeats 1000000 in
theorem Row.setInt {w : World} {g off : Nat} {t : TypeId} {n i : Nat} {xs : List Int} (h : Row w g off t n (fun k => .int .i64 (gi xs k))) (hi : i < n) (hl : xs.length = n) (v : Int) :
    Row (w.setCell ⟨g, off + i, none⟩ (.int .i64 v)) g off t n (fun k => .int .i64 (gi (xs.set i v) k)) :=
  (h.set hi (.int .i64 v)).congr fun k hk => by
    rw [gi_set]
    by_cases e1 : k = i
    · rw [if_pos e1, if_pos ⟨e1, by omega⟩]
    · rw [if_neg e1, if_neg (fun hh => e1 hh.1)]
set_option maxHeartbeats 1000000 in
theorem KB.setAccount {w : World} {g : Nat} {p : Kp} {K : Ker} (h : KB w g p K) {off e : Nat} (hA : p.A3 = some ⟨p.g3, off, none⟩) (he : e < 4) (u x y d : Int) :
    KB ((((w.setCell ⟨p.g3, off + e * 4, none⟩ (.int .i64 u)).setCell ⟨p.g3, off + e * 4 + 1, none⟩ (.int .i64 x)).setCell ⟨p.g3, off + e * 4 + 2, none⟩ (.int .i64 y)).setCell ⟨p.g3, off + e * 4 + 3, none⟩ (.int .i64 d)) g p { K with ac := setAcc K.ac e u x y d } := by
  have hr := row_of_mine h.own.m3 (by omega) hA
  have r1 := hr.setInt (i := e * 4) (by omega) h.own.l3 u
  have r2 := r1.setInt (i := e * 4 + 1) (by omega) (by simp [h.own.l3]) x
  have r3 := r2.setInt (i := e * 4 + 2) (by omega) (by simp [h.own.l3]) y
  have r4 := r3.setInt (i := e * 4 + 3) (by omega) (by simp [h.own.l3]) d
  have far : ∀ b, b ≠ p.g3 → ((((w.setCell ⟨p.g3, off + e * 4, none⟩ (.int .i64 u)).setCell ⟨p.g3, off + e * 4 + 1, none⟩ (.int .i64 x)).setCell ⟨p.g3, off + e * 4 + 2, none⟩ (.int .i64 y)).setCell ⟨p.g3, off + e * 4 + 3, none⟩ (.int .i64 d)).heap[b]? = w.heap[b]? := fun b hb =>
    (Below.heap_setCell _ ⟨p.g3, _, none⟩ _ b hb).trans ((Below.heap_setCell _ ⟨p.g3, _, none⟩ _ b hb).trans ((Below.heap_setCell _ ⟨p.g3, _, none⟩ _ b hb).trans (Below.heap_setCell _ ⟨p.g3, _, none⟩ _ b hb)))
  exact ⟨(far g h.e3).trans h.box, ⟨h.own.l1, h.own.l2, (setAcc_len _ _ _ _ _ _).trans h.own.l3, h.own.nil1, h.own.m1.keep fun b h1 h2 => far b (by have := h.own.d13; omega), h.own.m2.keep fun b h1 h2 => far b (by have := h.own.d23; omega),
    .inr ⟨p.g3, off, hA, Nat.le_refl _, Nat.lt_succ_self _, r4⟩, h.own.d12, h.own.d13, h.own.d23⟩, h.e1, h.e2, h.e3⟩
set_option maxHeartbeats 1000000 in
theorem Kept.set4 {gs : List Nat} {w w' : World} {g i : Nat} (h : Kept gs w w') (hg : g ∈ gs) (a b c d : Value) : Kept gs w ((((w'.setCell ⟨g, i, none⟩ a).setCell ⟨g, i + 1, none⟩ b).setCell ⟨g, i + 2, none⟩ c).setCell ⟨g, i + 3, none⟩ d) :=
  (((h.setCell (p := ⟨g, i, none⟩) hg a).setCell (p := ⟨g, i + 1, none⟩) hg b).setCell (p := ⟨g, i + 2, none⟩) hg c).setCell (p := ⟨g, i + 3, none⟩) hg d

/-- the kernel that stands beside a code -/
def zeroKer : Ker := ⟨[], [], [], 0, 0⟩
/-- a kernel beside a code: nothing unless it is 0 -/
def orZero (r : Int × Ker) : Int × Ker := if r.1 ≠ 0 then (r.1, zeroKer) else r
/-- where an answer's lists lie -/
structure Rp where
  A1 : Option Addr
  n1 : Nat
  c1 : Nat
  A2 : Option Addr
  n2 : Nat
  c2 : Nat
  A3 : Option Addr
  n3 : Nat
  c3 : Nat
  A4 : Option Addr
  n4 : Nat
  c4 : Nat
  g1 : Nat
  g2 : Nat
  g3 : Nat
  g4 : Nat
def Rp.val (p : Rp) (q : Int) (K : Ker) : Value := .agg #[.int .i64 q, .slice p.A1 p.n1 p.c1, .slice p.A2 p.n2 p.c2, .slice p.A3 p.n3 p.c3, .int .i64 K.tick, .int .i64 K.run, .slice p.A4 p.n4 p.c4]
/-- the four lists of an answer, each in a block of its own, all from lo on -/
structure ROwn (w : World) (lo hi : Nat) (p : Rp) (K : Ker) (ns : List Int) : Prop where
  l1 : K.os.length = p.n1
  l2 : K.al.length = p.n2
  l3 : K.ac.length = p.n3 * 4
  l4 : ns.length = p.n4 * 3
  nil1 : p.A1 = none → p.c1 = 0
  m1 : Mine w p.g1 (p.g1 + 1) 2 p.A1 p.n1 (fun k => .int .i64 (gi K.os k))
  m2 : Mine w p.g2 (p.g2 + 1) 4 p.A2 p.n2 (fun k => .bool (gb K.al k))
  m3 : Mine w p.g3 (p.g3 + 1) 88 p.A3 (p.n3 * 4) (fun k => .int .i64 (gi K.ac k))
  m4 : Mine w p.g4 (p.g4 + 1) 65 p.A4 (p.n4 * 3) (fun k => .int .i64 (gi ns k))
  d12 : p.n1 ≠ 0 → p.n2 ≠ 0 → p.g1 ≠ p.g2
  d13 : p.n1 ≠ 0 → p.n3 ≠ 0 → p.g1 ≠ p.g3
  d14 : p.n1 ≠ 0 → p.n4 ≠ 0 → p.g1 ≠ p.g4
  d23 : p.n2 ≠ 0 → p.n3 ≠ 0 → p.g2 ≠ p.g3
  d24 : p.n2 ≠ 0 → p.n4 ≠ 0 → p.g2 ≠ p.g4
  d34 : p.n3 ≠ 0 → p.n4 ≠ 0 → p.g3 ≠ p.g4
  b1 : lo ≤ p.g1 ∧ p.g1 < hi
  b2 : lo ≤ p.g2 ∧ p.g2 < hi
  b3 : lo ≤ p.g3 ∧ p.g3 < hi
  b4 : lo ≤ p.g4 ∧ p.g4 < hi
/-- an answer of chapter 3: a code, a kernel, notes; all of its own memory -/
def KAns (q : Int) (K : Ker) (ns : List Int) (w : World) (e : Ending) (w' : World) : Prop :=
  ∃ p : Rp, e = .returned (p.val q K) ∧ ROwn w' w.heap.size w'.heap.size p K ns ∧ Below w.heap.size w w'
set_option maxHeartbeats 1000000 in
/-- an answer that is a code alone -/
theorem kans_code {q : Int} {w : World} {w' : World} (hb : Below w.heap.size w w') (hs : w.heap.size < w'.heap.size) : KAns q zeroKer [] w (.returned (.agg #[.int .i64 q, .slice none 0 0, .slice none 0 0, .slice none 0 0, .int .i64 0, .int .i64 0, .slice none 0 0])) w' :=
  ⟨⟨none, 0, 0, none, 0, 0, none, 0, 0, none, 0, 0, w.heap.size, w.heap.size, w.heap.size, w.heap.size⟩, rfl,
    ⟨rfl, rfl, rfl, rfl, fun _ => rfl, .inl rfl, .inl rfl, .inl rfl, .inl rfl, fun h => absurd rfl h, fun h => absurd rfl h, fun h => absurd rfl h, fun h => absurd rfl h, fun h => absurd rfl h, fun h => absurd rfl h, ⟨Nat.le_refl _, hs⟩, ⟨Nat.le_refl _, hs⟩, ⟨Nat.le_refl _, hs⟩, ⟨Nat.le_refl _, hs⟩⟩, hb⟩
set_option maxHeartbeats 1000000 in
/-- an answer that is a kernel of the call's own, and no notes -/
theorem kans_ker {K : Ker} {w w' : World} {p : Kp} (h : KOwn w' p K) (h1 : w.heap.size ≤ p.g1 ∧ p.g1 < w'.heap.size) (h2 : w.heap.size ≤ p.g2 ∧ p.g2 < w'.heap.size) (h3 : w.heap.size ≤ p.g3 ∧ p.g3 < w'.heap.size) (hb : Below w.heap.size w w') :
    KAns 0 K [] w (.returned (.agg #[.int .i64 0, .slice p.A1 p.n1 p.c1, .slice p.A2 4 p.c2, .slice p.A3 4 p.c3, .int .i64 K.tick, .int .i64 K.run, .slice none 0 0])) w' :=
  ⟨⟨p.A1, p.n1, p.c1, p.A2, 4, p.c2, p.A3, 4, p.c3, none, 0, 0, p.g1, p.g2, p.g3, w.heap.size⟩, rfl,
    ⟨h.l1, h.l2, h.l3, rfl, h.nil1, h.m1, h.m2, h.m3, .inl rfl, fun _ _ => h.d12, fun _ _ => h.d13, fun _ h => absurd rfl h, fun _ _ => h.d23, fun _ h => absurd rfl h, fun _ h => absurd rfl h, h1, h2, h3, ⟨Nat.le_refl _, Nat.lt_of_le_of_lt h1.1 h1.2⟩⟩, hb⟩

end Go.Proofs.YtkhphkfbjbhgaaaGreat
