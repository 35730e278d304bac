/-
  The laws' helpers on answers of chapter 4: sizes, compare, mark, look again. No conditions beyond that the lists can be read.
-/
import Derived.Test.YtfaamjbdffcngaaKit4
import Derived.Test.YtfaamjbdffcngaaSpec4f
namespace Go.Proofs.Ytfaamjbdffcngaa
open Go.RowKit
set_option maxRecDepth 100000

theorem Kept.of_only4 {g : Nat} {w w' : World} (h : Only g (g + 1) w w') : Kept [g] w w' :=
  ⟨h.1.mono (Nat.zero_le _), fun b hb hn => by
    simp at hn
    rcases Nat.lt_or_ge b g with h1 | h1
    · exact h.1.block b h1
    · exact h.2 b (by omega) hb⟩
theorem Kept.pre_below {gs : List Nat} {a b c : World} (h : Below a.heap.size a b) (k : Kept gs b c) : Kept gs a c := (Kept.of_below h gs).trans k

theorem szEntryS_any (A : Option Addr) (n c : Nat) (w : World) (hn : n ≤ 9223372036854775807) :
    Calls Try.prog 29 #[.slice A n c, .int .i64 1048576] w fun e w' => e = .returned (.int .i64 (if n ≤ 1048576 then 1048576 - (n : Int) else -1)) ∧ w = w' := by
  have wn : IntKind.i64.wrap (1048576 - (n : Int)) = 1048576 - (n : Int) := IntWalk.i64_in _ (by omega)
  by_cases h : n ≤ 1048576
  · have h1 : ¬ (1048576 - (n : Int) < 0) := by omega
    go_enter Try.func29, Try.ntmps29
    go_wp2
    go_ret
    exact ⟨ret_i64 (by first | rfl | exact (if_pos h).symm | simp [h]), rfl⟩
  · have h1 : 1048576 - (n : Int) < 0 := by omega
    go_enter Try.func29, Try.ntmps29
    go_wp2
    go_ret
    exact ⟨ret_i64 (by first | rfl | exact (if_neg h).symm | simp [h]), rfl⟩

theorem eqHeapR_own (lo hi lo' hi' : Nat) (A A' : Option Addr) (n c c' : Nat) (q : Int) (hs : List Int) (w : World) (hn : n ≤ 13)
    (h : Sl w lo hi A (n * 2) (fun k => .int .i64 (gi hs k))) (h' : Sl w lo' hi' A' (n * 2) (fun k => .int .i64 (gi hs k))) :
    Calls Try.prog 32 #[.agg #[.int .i64 q, .slice A n c], .agg #[.int .i64 q, .slice A' n c']] w fun e w' => e = .returned (.bool true) ∧ Below w.heap.size w w' := by
  have H := Lib.hid h
  have H' := Lib.hid h'
  clear h h'
  go_enter Try.func32, Try.ntmps32
  go_wp2_with fail
  have B2 : ∀ o o', Below w.heap.size w ((w.alloc o).alloc o') := fun o o' => ((Below.refl _ _).alloc (Nat.le_refl _) o).alloc (by simp) o'
  refine (eqEntryS_same lo (min hi w.heap.size) lo' (min hi' w.heap.size) A A' n c c' (gi hs) _ (by omega) (H.out.lt.below (B2 _ _) (by omega)) (H'.out.lt.below (B2 _ _) (by omega))).mono ?_
  rintro e w' ⟨rfl, hb⟩
  have HB := Lib.hid ((B2 _ _).trans (hb.mono (by simp; omega)))
  clear hb B2
  go_wp2
  go_ret
  exact ⟨rfl, HB.out⟩

theorem markHeapR_own (g : Nat) (A : Option Addr) (n c : Nat) (q : Int) (hs : List Int) (w : World) (hn : n ≤ 13) (h : Mine w g (g + 1) 26 A (n * 2) (fun k => .int .i64 (gi hs k))) (hg : g < w.heap.size) :
    Calls Try.prog 34 #[.agg #[.int .i64 q, .slice A n c], .int .i64 1] w fun e w' => e = .returned (.int .i64 ((1 + n * 2 : Nat) : Int)) ∧ Mine w' g (g + 1) 26 A (n * 2) (fun k => .int .i64 ((1 + k : Nat) : Int)) ∧ Kept [g] w w' := by
  have H := Lib.hid h
  clear h
  go_enter Try.func34, Try.ntmps34
  go_wp2_with fail
  have B1 : ∀ o, Below w.heap.size w (w.alloc o) := fun o => (Below.refl _ _).alloc (Nat.le_refl _) o
  refine (markEntryS_any g (g + 1) A n c _ 1 _ (by omega) (by omega) (fun k _ => ⟨_, rfl⟩) (H.out.below (B1 _) hg)).mono ?_
  rintro e w' ⟨rfl, hmine, hb⟩
  have HB := Lib.hid (Kept.pre_below (B1 _) (Kept.of_only4 hb))
  have HM := Lib.hid hmine
  clear hb B1 hmine
  go_wp2
  go_ret
  exact ⟨by first | rfl | (congr 2), HM.out, HB.out⟩

theorem heldHeapR_own (g : Nat) (A : Option Addr) (n c : Nat) (q : Int) (w : World) (hn : n ≤ 13) (h : Mine w g (g + 1) 26 A (n * 2) (fun k => .int .i64 ((1 + k : Nat) : Int))) (hg : g < w.heap.size) :
    Calls Try.prog 35 #[.agg #[.int .i64 q, .slice A n c], .int .i64 1] w fun e w' => e = .returned (.int .i64 ((1 + n * 2 : Nat) : Int)) ∧ Below w.heap.size w w' := by
  have H := Lib.hid h
  clear h
  have t0 : ¬ ((1 + n * 2 : Nat) : Int) < 0 := by omega
  go_enter Try.func35, Try.ntmps35
  go_wp2_with fail
  have B1 : ∀ o, Below w.heap.size w (w.alloc o) := fun o => (Below.refl _ _).alloc (Nat.le_refl _) o
  refine (heldEntryS_any g (g + 1) A n c 1 _ (by omega) (by omega) (H.out.below (B1 _) hg).sl).mono ?_
  rintro e w' ⟨rfl, hb⟩
  have HB := Lib.hid ((B1 _).trans (hb.mono (by simp)))
  clear hb B1
  obtain ⟨tot, ht⟩ : ∃ tot : Nat, tot = 1 + n * 2 := ⟨_, rfl⟩
  rw [← ht] at t0 ⊢
  have HT := Lib.hid ht
  clear ht
  go_wp2
  go_ret
  exact ⟨by rw [← HT.out]; rfl, HB.out⟩

theorem eqEntryR_own (lo hi lo' hi' : Nat) (A A' : Option Addr) (n c c' : Nat) (q a b : Int) (hs : List Int) (w : World) (hn : n ≤ 13)
    (h : Sl w lo hi A (n * 2) (fun k => .int .i64 (gi hs k))) (h' : Sl w lo' hi' A' (n * 2) (fun k => .int .i64 (gi hs k))) :
    Calls Try.prog 36 #[.agg #[.int .i64 q, .int .i64 a, .int .i64 b, .slice A n c], .agg #[.int .i64 q, .int .i64 a, .int .i64 b, .slice A' n c']] w fun e w' => e = .returned (.bool true) ∧ Below w.heap.size w w' := by
  have H := Lib.hid h
  have H' := Lib.hid h'
  clear h h'
  go_enter Try.func36, Try.ntmps36
  go_wp2_with fail
  have B2 : ∀ o o', Below w.heap.size w ((w.alloc o).alloc o') := fun o o' => ((Below.refl _ _).alloc (Nat.le_refl _) o).alloc (by simp) o'
  refine (eqEntry_same a b _).mono ?_
  rintro e w1 ⟨rfl, hb1⟩
  have HB1 := Lib.hid ((B2 _ _).trans (hb1.mono (by simp; omega)))
  have k1 := (hb1.block w.heap.size (by simp; omega)).trans (heap_alloc2_old w _ _)
  have k2 := (hb1.block (w.heap.size + 1) (by first | (simp; done) | (simp; omega))).trans (heap_alloc2_new w _ _)
  have x2 := cell_of_row w1 _ 3 _ _ _ k1
  have y2 := cell_of_row w1 _ 3 _ _ _ k2
  simp at x2 y2
  clear hb1 k1 k2
  go_wp2_with fail
  refine (eqEntryS_same lo (min hi w.heap.size) lo' (min hi' w.heap.size) A A' n c c' (gi hs) _ (by omega) (H.out.lt.below HB1.out (by omega)) (H'.out.lt.below HB1.out (by omega))).mono ?_
  rintro e w' ⟨rfl, hb⟩
  have HB := Lib.hid (HB1.out.trans (hb.mono HB1.out.size))
  clear hb B2
  go_wp2
  go_ret
  exact ⟨rfl, HB.out⟩

theorem markEntryR_own (g : Nat) (A : Option Addr) (n c : Nat) (q a b : Int) (hs : List Int) (w : World) (hn : n ≤ 13) (h : Mine w g (g + 1) 26 A (n * 2) (fun k => .int .i64 (gi hs k))) (hg : g < w.heap.size) :
    Calls Try.prog 37 #[.agg #[.int .i64 q, .int .i64 a, .int .i64 b, .slice A n c], .int .i64 1] w fun e w' => e = .returned (.int .i64 ((1 + n * 2 : Nat) : Int)) ∧ Mine w' g (g + 1) 26 A (n * 2) (fun k => .int .i64 ((1 + k : Nat) : Int)) ∧ Kept [g] w w' := by
  have H := Lib.hid h
  clear h
  go_enter Try.func37, Try.ntmps37
  go_wp2_with fail
  have B1 : ∀ o, Below w.heap.size w (w.alloc o) := fun o => (Below.refl _ _).alloc (Nat.le_refl _) o
  refine (markEntryS_any g (g + 1) A n c _ 1 _ (by omega) (by omega) (fun k _ => ⟨_, rfl⟩) (H.out.below (B1 _) hg)).mono ?_
  rintro e w' ⟨rfl, hmine, hb⟩
  have HB := Lib.hid (Kept.pre_below (B1 _) (Kept.of_only4 hb))
  have HM := Lib.hid hmine
  clear hb B1 hmine
  go_wp2
  go_ret
  exact ⟨by first | rfl | (congr 2), HM.out, HB.out⟩

theorem heldEntryR_own (g : Nat) (A : Option Addr) (n c : Nat) (q a b : Int) (w : World) (hn : n ≤ 13) (h : Mine w g (g + 1) 26 A (n * 2) (fun k => .int .i64 ((1 + k : Nat) : Int))) (hg : g < w.heap.size) :
    Calls Try.prog 38 #[.agg #[.int .i64 q, .int .i64 a, .int .i64 b, .slice A n c], .int .i64 1] w fun e w' => e = .returned (.int .i64 ((1 + n * 2 : Nat) : Int)) ∧ Below w.heap.size w w' := by
  have H := Lib.hid h
  clear h
  have t0 : ¬ ((1 + n * 2 : Nat) : Int) < 0 := by omega
  go_enter Try.func38, Try.ntmps38
  go_wp2_with fail
  have B1 : ∀ o, Below w.heap.size w (w.alloc o) := fun o => (Below.refl _ _).alloc (Nat.le_refl _) o
  refine (heldEntryS_any g (g + 1) A n c 1 _ (by omega) (by omega) (H.out.below (B1 _) hg).sl).mono ?_
  rintro e w' ⟨rfl, hb⟩
  have HB := Lib.hid ((B1 _).trans (hb.mono (by simp)))
  clear hb B1
  obtain ⟨tot, ht⟩ : ∃ tot : Nat, tot = 1 + n * 2 := ⟨_, rfl⟩
  rw [← ht] at t0 ⊢
  have HT := Lib.hid ht
  clear ht
  go_wp2
  go_ret
  exact ⟨by rw [← HT.out]; rfl, HB.out⟩

end Go.Proofs.Ytfaamjbdffcngaa
