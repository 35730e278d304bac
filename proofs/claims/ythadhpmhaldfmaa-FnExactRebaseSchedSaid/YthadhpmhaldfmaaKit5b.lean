/-
  The laws' helpers on answers of chapter 5: compare, mark, look again. No conditions beyond that the lists can be read.
-/
import Derived.Test.YthadhpmhaldfmaaKit5
namespace Go.Proofs.Ythadhpmhaldfmaa
open Go.RowKit
set_option maxRecDepth 100000

theorem cell?_block {W W' : World} {b : Nat} (h : W'.heap[b]? = W.heap[b]?) (j : Nat) : W'.cell? ⟨b, j, none⟩ = W.cell? ⟨b, j, none⟩ := by simp [World.cell?, h]
theorem eqSR_own (lo hi lo' hi' : Nat) (A A' : Option Addr) (n c c' : Nat) (q i r b : Int) (hs : List Int) (w : World) (hn : n ≤ 1048576)
    (h : Sl w lo hi A (n * 3) (fun k => .int .i64 (gi hs k))) (h' : Sl w lo' hi' A' (n * 3) (fun k => .int .i64 (gi hs k))) :
    Calls Try.prog 61 #[.agg #[.int .i64 q, .int .i64 i, .int .i64 r, .int .i64 b, .slice A n c], .agg #[.int .i64 q, .int .i64 i, .int .i64 r, .int .i64 b, .slice A' n c']] w fun e w' => e = .returned (.bool true) ∧ Below w.heap.size w w' := by
  have H := Lib.hid h
  have H' := Lib.hid h'
  clear h h'
  have B2 : Hid (∀ o o', Below w.heap.size w ((w.alloc o).alloc o')) := fun o o' => ((Below.refl _ _).alloc (Nat.le_refl _) o).alloc (by simp) o'
  go_enter Try.func61, Try.ntmps61
  go_wp2_with fail
  refine (eqSched_same lo (min hi w.heap.size) lo' (min hi' w.heap.size) A A' n c c' b (gi hs) _ (by omega) (H.out.lt.below (B2.out _ _) (by omega)) (H'.out.lt.below (B2.out _ _) (by omega))).mono ?_
  rintro e w' ⟨rfl, hb⟩
  have HB := Lib.hid ((B2.out _ _).trans (hb.mono (by simp; omega)))
  clear hb
  go_wp2
  go_ret
  exact ⟨rfl, HB.out⟩
theorem markSR_own (g : Nat) (A : Option Addr) (n c : Nat) (q i r b : Int) (hs : List Int) (w : World) (hn : n ≤ 1048576) (h : Mine w g (g + 1) 113 A (n * 3) (fun k => .int .i64 (gi hs k))) (hg : g < w.heap.size) :
    Calls Try.prog 63 #[.agg #[.int .i64 q, .int .i64 i, .int .i64 r, .int .i64 b, .slice A n c], .int .i64 1] w fun e w' => e = .returned (.int .i64 ((1 + n * 3 : Nat) : Int)) ∧ Mine w' g (g + 1) 113 A (n * 3) (fun k => .int .i64 ((1 + k : Nat) : Int)) ∧ Kept [g] w w' := by
  have H := Lib.hid h
  clear h
  have B1 : Hid (∀ o, Below w.heap.size w (w.alloc o)) := fun o => (Below.refl _ _).alloc (Nat.le_refl _) o
  go_enter Try.func63, Try.ntmps63
  go_wp2_with fail
  refine (markSched_any g A n c 1 b (gi hs) _ hn (by omega) (H.out.below (B1.out _) hg) (by simp; omega)).mono ?_
  rintro e w' ⟨rfl, hmine, hb⟩
  have HB := Lib.hid (Kept.pre_below5 (B1.out _) hb)
  have HM := Lib.hid hmine
  clear hb hmine
  obtain ⟨tot, ht⟩ : ∃ tot : Nat, tot = 1 + n * 3 := ⟨_, rfl⟩
  rw [← ht]
  have HT := Lib.hid ht
  clear ht
  go_wp2
  go_ret
  exact ⟨by rw [← HT.out]; rfl, HM.out, HB.out⟩
theorem heldSR_own (g : Nat) (A : Option Addr) (n c : Nat) (q i r b : Int) (w : World) (hn : n ≤ 1048576) (h : Mine w g (g + 1) 113 A (n * 3) (fun k => .int .i64 ((1 + k : Nat) : Int))) (hg : g < w.heap.size) :
    Calls Try.prog 64 #[.agg #[.int .i64 q, .int .i64 i, .int .i64 r, .int .i64 b, .slice A n c], .int .i64 1] w fun e w' => e = .returned (.int .i64 ((1 + n * 3 : Nat) : Int)) ∧ Below w.heap.size w w' := by
  have H := Lib.hid h
  clear h
  have B1 : Hid (∀ o, Below w.heap.size w (w.alloc o)) := fun o => (Below.refl _ _).alloc (Nat.le_refl _) o
  go_enter Try.func64, Try.ntmps64
  go_wp2_with fail
  refine (heldSched_any g A n c 1 b _ hn (by omega) (H.out.below (B1.out _) hg) (by simp; omega)).mono ?_
  rintro e w' ⟨rfl, hb⟩
  have HB := Lib.hid ((B1.out _).trans (hb.mono (by simp)))
  clear hb
  obtain ⟨tot, ht⟩ : ∃ tot : Nat, tot = 1 + n * 3 := ⟨_, rfl⟩
  rw [← ht]
  have HT := Lib.hid ht
  have t0 : ¬ ((tot : Nat) : Int) < 0 := by omega
  clear ht
  go_wp2
  go_ret
  exact ⟨by rw [← HT.out]; rfl, HB.out⟩

end Go.Proofs.Ythadhpmhaldfmaa
