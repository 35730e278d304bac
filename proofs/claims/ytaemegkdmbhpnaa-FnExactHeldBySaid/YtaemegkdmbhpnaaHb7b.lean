/-
  HeldBy: the program's face; who is a thread, on both sides. No conditions beyond that the lists can be read.
-/
import Derived.Test.YtaemegkdmbhpnaaHb7
namespace Go.Proofs.Ytaemegkdmbhpnaa
open Go.RowKit
set_option maxRecDepth 100000

def okI7 (i : Int) : Bool := decide (0 ≤ i) && decide (i < 5)
theorem isThread7_any (i : Int) (w : World) : Calls Try.prog 97 #[.int .i64 i] w fun e w' => e = .returned (.bool (okI7 i)) ∧ w = w' := by
  by_cases h : 0 ≤ i
  · by_cases h2 : i < 5
    · go_enter Try.func97, Try.ntmps97
      go_wp2
      go_ret
      exact ⟨ret_bool (by simp [okI7, h, h2]), rfl⟩
    · go_enter Try.func97, Try.ntmps97
      go_wp2
      go_ret
      exact ⟨ret_bool (by simp [okI7, h, h2]), rfl⟩
  · go_enter Try.func97, Try.ntmps97
    go_wp2
    go_ret
    exact ⟨ret_bool (by simp [okI7]; omega), rfl⟩
theorem l5Id7_any (i : Int) (w : World) : Calls Try.prog 96 #[.int .i64 i] w fun e w' => e = .returned (.bool (okI7 i)) ∧ w = w' := by
  go_enter Try.func96, Try.ntmps96
  go_wp2_with fail
  refine (l1In_any i 0 4 _).mono ?_
  rintro e w' ⟨rfl, rfl⟩
  go_wp2
  go_ret
  exact ⟨ret_bool (by
    by_cases h : 0 ≤ i ∧ i ≤ 4
    · rw [inR_true h]; unfold okI7; simp; omega
    · rw [inR_false h]; unfold okI7; simp; omega), rfl⟩
/-- HeldBy's answer -/
def hby7 (t : Nat → Int) (id : Int) (n : Nat) : Int × List Int := if okI7 id = false then (3, []) else (0, hb7 t id n)
/-- an answer of a code and numbers of its own -/
def IA (r : Int × List Int) (w : World) (e : Ending) (w' : World) : Prop := ∃ A c, e = .returned (.agg #[.int .i64 r.1, .slice A r.2.length c]) ∧ OR 2 1 w' w.heap.size A r.2.length c r.2 ∧ Below w.heap.size w w'
theorem OR.farSet7 {t : TypeId} {m : Nat} {w : World} {base n c s : Nat} {A : Option Addr} {hs : List Int} (h : OR t m w base A n c hs) (hs' : s < base) (j : Nat) (v : Value) : OR t m (w.setCell ⟨s, j, none⟩ v) base A n c hs :=
  h.keepAll fun g e => by
    subst e
    have := h.lt
    exact Below.heap_setCell _ _ _ _ (by show g ≠ s; omega)
theorem OR.mono7 {t : TypeId} {m : Nat} {w : World} {base base' n c : Nat} {A : Option Addr} {hs : List Int} (h : OR t m w base A n c hs) (hb : base' ≤ base) : OR t m w base' A n c hs := by
  refine ⟨h.1, ?_⟩
  rcases h.2 with h' | ⟨g', cap', cur, h', hb', rest⟩
  · exact .inl h'
  · exact .inr ⟨g', cap', cur, h', Nat.le_trans hb hb', rest⟩

set_option maxHeartbeats 2000000 in
theorem implHeldBy_any (lo hi : Nat) (b : Int) (R : Option Addr) (rn rc : Nat) (T : Option Addr) (tn tc : Nat) (L : Option Addr) (n c : Nat) (C : Option Addr) (cn cc : Nat) (t : Nat → Int) (B : Nat → Option Addr) (m d : Nat → Nat) (x : Nat → Nat → Int) (id : Int) (w : World) (hn : n ≤ 1048576) (h : LL w lo hi L n t B m d x) :
    Calls Try.prog 21 #[.agg #[.int .i64 b, .slice R rn rc, .slice T tn tc, .slice L n c, .slice C cn cc], .int .i64 id] w (IA (hby7 t id n) w) := by
  obtain ⟨w1, hw1⟩ : ∃ w1, w1 = (w.alloc (.cells #[.int .i64 b, .slice R rn rc, .slice T tn tc, .slice L n c, .slice C cn cc] 54)).alloc (.cells #[.int .i64 0, .slice none 0 0] 59) := ⟨_, rfl⟩
  have k1 : w1.heap[w.heap.size]? = some (.cells #[.int .i64 b, .slice R rn rc, .slice T tn tc, .slice L n c, .slice C cn cc] 54 (0, 0)) := by rw [hw1]; exact heap_alloc2_old w _ _
  have k2 : w1.heap[w.heap.size + 1]? = some (.cells #[.int .i64 0, .slice none 0 0] 59 (0, 0)) := by rw [hw1]; exact heap_alloc2_new w _ _
  have B1 : Hid (Below w.heap.size w w1) := by rw [hw1]; exact (below_new w _).alloc (by simp) _
  have Z1 : Hid (w1.heap.size = w.heap.size + 2) := by show _ = _; rw [hw1]; simp
  have r3 := cell_of_row w1 _ 3 _ _ _ k1
  have KZ := Lib.hid k2
  have CH := Lib.hid (heldBy_any lo (min hi w.heap.size) L n c t B m d x id w1 hn (h.lt.below B1.out (Nat.min_le_right _ _)))
  have HW1 := Lib.hid hw1
  simp at r3
  obtain ⟨z, hz⟩ : ∃ z, okI7 id = z := ⟨_, rfl⟩
  have IT : Hid (∀ W, Calls Try.prog 97 #[.int .i64 id] W fun e w' => e = .returned (.bool z) ∧ W = w') := fun W => by have := isThread7_any id W; rw [hz] at this; exact this
  clear h hn k1 k2 hw1
  go_enter Try.func21, Try.ntmps21
  go_upto_region 1 with (fail)
  rw [← HW1.out]
  clear HW1
  cases z with
  | false =>
    have V : Hid (hby7 t id n = (3, [])) := if_pos hz
    have q0 := cell_of_row w1 _ 0 _ _ _ KZ.out; have q1 := cell_of_row w1 _ 1 _ _ _ KZ.out; have f0 := frozen_of_row w1 _ 0 _ _ KZ.out; have f1 := frozen_of_row w1 _ 1 _ _ KZ.out
    simp at q0 q1
    clear hz CH
    go_wp2_with (go_at_call 97; refine (IT.out _).mono ?_; rintro e w' ⟨rfl, rfl⟩)
    refine bodyPost_ret (results_cell_row rfl _ _ (w.heap.size + 1) _ _ (0, 0) _ rfl (heap_setCell_same _ _ 1 _ _ _ (heap_setCell_same _ _ 0 _ _ _ KZ.out)) Try.underlying59 rfl (by kernel_rfl)) rfl ?_
    rw [V.out]
    exact ⟨none, 0, rfl, OR.void _ _, (B1.out.setCell (p := ⟨w.heap.size + 1, 0, none⟩) (by simp) _).setCell (p := ⟨w.heap.size + 1, 1, none⟩) (by simp) _⟩
  | true =>
    have V : Hid (hby7 t id n = (0, hb7 t id n)) := if_neg (by rw [hz]; simp)
    clear hz
    go_wp2_with (go_at_call 97; refine (IT.out _).mono ?_; rintro e w' ⟨rfl, rfl⟩)
    refine CH.out.mono ?_
    rintro e w2 ⟨A', c', rfl, ho, hb⟩
    have HO := Lib.hid ho
    have HB2 := Lib.hid (B1.out.trans (hb.mono B1.out.size))
    have K2 := Lib.hid ((hb.block (w.heap.size + 1) (by have := Z1.out; omega)).trans KZ.out)
    have q0 := cell_of_row w2 _ 0 _ _ _ K2.out; have q1 := cell_of_row w2 _ 1 _ _ _ K2.out; have f0 := frozen_of_row w2 _ 0 _ _ K2.out; have f1 := frozen_of_row w2 _ 1 _ _ K2.out
    simp at q0 q1
    clear ho hb CH r3
    go_wp2
    refine bodyPost_ret (results_cell_row rfl _ _ (w.heap.size + 1) _ _ (0, 0) _ rfl (heap_setCell_same _ _ 1 _ _ _ (heap_setCell_same _ _ 0 _ _ _ K2.out)) Try.underlying59 rfl (by kernel_rfl)) rfl ?_
    rw [V.out]
    exact ⟨A', c', rfl, ((HO.out.farSet7 (by have := Z1.out; omega) 0 _).farSet7 (by have := Z1.out; omega) 1 _).mono7 (by have := Z1.out; omega), (HB2.out.setCell (p := ⟨w.heap.size + 1, 0, none⟩) (by simp) _).setCell (p := ⟨w.heap.size + 1, 1, none⟩) (by simp) _⟩

end Go.Proofs.Ytaemegkdmbhpnaa
