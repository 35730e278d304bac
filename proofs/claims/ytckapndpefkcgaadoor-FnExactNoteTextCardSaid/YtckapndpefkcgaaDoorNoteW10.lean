/-
  NoteText, on both sides, and the law's walk. No conditions beyond that impl.noteWords lies as its initialiser lays it.
-/
import Derived.Test.YtckapndpefkcgaaDoorNote10
set_option maxHeartbeats 1000000
namespace Go.Proofs.YtckapndpefkcgaaDoor
open Go.RowKit
set_option maxRecDepth 100000

def okn (a b c : Int) : Prop := (0 ≤ a ∧ a ≤ 100000) ∧ (b = -1 ∨ (0 ≤ b ∧ b ≤ 3)) ∧ (1 ≤ c ∧ c ≤ 7)
instance (a b c : Int) : Decidable (okn a b c) := by unfold okn; infer_instance
def notx (a b c : Int) : Int × ByteArray := if okn a b c then (0, txt b c.toNat) else (3, ⟨#[]⟩)
theorem notx_bad {a b c : Int} (h : ¬ okn a b c) : notx a b c = (3, ⟨#[]⟩) := if_neg h
theorem notx_ok {a b c : Int} (h : okn a b c) : notx a b c = (0, txt b c.toNat) := if_pos h
theorem one10_bad {b : Int} (h : ¬ (b = -1 ∨ (0 ≤ b ∧ b ≤ 3))) : one10 b = false := decide_eq_false h

theorem l10Note10 (a b c : Int) (h : okn a b c) (q : Nat) (w : World) (hb : w.heap[q]? = some (.cells #[.int .i64 a, .int .i64 b, .int .i64 c] 32 (0, 0))) :
    Calls Tryd.prog 23 #[.pointer (some ⟨q, 0, none⟩)] w fun e w' => e = .returned (.string (txt b c.toNat)) ∧ Below w.heap.size w w' := by
  obtain ⟨_, h2, h3⟩ := h
  have hc : c = 1 ∨ c = 2 ∨ c = 3 ∨ c = 4 ∨ c = 5 ∨ c = 6 ∨ c = 7 := by omega
  rcases h2 with rfl | h2
  · rcases hc with rfl | rfl | rfl | rfl | rfl | rfl | rfl
    · exact l10Note10_none_1 a q w hb
    · exact l10Note10_none_2 a q w hb
    · exact l10Note10_none_3 a q w hb
    · exact l10Note10_none_4 a q w hb
    · exact l10Note10_none_5 a q w hb
    · exact l10Note10_none_6 a q w hb
    · exact l10Note10_none_7 a q w hb
  · have ht : txt b c.toNat = wn c.toNat ++ ⟨#[32]⟩ ++ dg b := if_neg (by omega)
    rw [ht]
    rcases hc with rfl | rfl | rfl | rfl | rfl | rfl | rfl
    · exact l10Note10_env_1 a b h2 q w hb
    · exact l10Note10_env_2 a b h2 q w hb
    · exact l10Note10_env_3 a b h2 q w hb
    · exact l10Note10_env_4 a b h2 q w hb
    · exact l10Note10_env_5 a b h2 q w hb
    · exact l10Note10_env_6 a b h2 q w hb
    · exact l10Note10_env_7 a b h2 q w hb

theorem textOf10 (a b c : Int) (h : okn a b c) (w : World) (hw : NW w) :
    Calls Tryd.prog 25 #[.agg #[.int .i64 a, .int .i64 b, .int .i64 c]] w fun e w' => e = .returned (.string (txt b c.toNat)) ∧ Below w.heap.size w w' := by
  obtain ⟨_, h2, h3⟩ := h
  obtain ⟨n, rfl⟩ : ∃ n : Nat, c = (n : Int) := ⟨c.toNat, by omega⟩
  have e1 : ((n : Int)).toNat = n := by simp
  rw [e1]
  rcases h2 with rfl | h2
  · exact textOf10_none a n (by omega) w hw
  · have ht : txt b n = wn n ++ ⟨#[32]⟩ ++ dg b := if_neg (by omega)
    rw [ht]
    exact textOf10_env a b h2 n (by omega) w hw

set_option maxHeartbeats 4000000 in
theorem specNoteText_a (a b c : Int) (ha : ¬ (0 ≤ a ∧ a ≤ 100000)) (w : World) : Calls Tryd.prog 9 #[.agg #[.int .i64 a, .int .i64 b, .int .i64 c]] w fun e w' => e = .returned (.agg #[.int .i64 (notx a b c).1, .string (notx a b c).2]) ∧ Below w.heap.size w w' := by
  have LA : Hid (∀ w, Calls Tryd.prog 21 #[.int .i64 a, .int .i64 0, .int .i64 100000] w fun e w' => e = .returned (.bool false) ∧ w = w') := fun w => by
    have h := l1In10 a 0 100000 w
    rw [in10_false ha] at h
    exact h
  obtain ⟨w1, hw1⟩ : ∃ w1, w1 = w.alloc (.cells #[.int .i64 a, .int .i64 b, .int .i64 c] 32) := ⟨_, rfl⟩
  obtain ⟨w2, hw2⟩ : ∃ w2, w2 = w1.alloc (.cells #[.int .i64 0, .string ⟨#[]⟩] 30) := ⟨_, rfl⟩
  have Z1 : Hid (w1.heap.size = w.heap.size + 1) := by show _ = _; rw [hw1]; simp
  have K1 : Hid (w2.heap[w.heap.size]? = some (.cells #[.int .i64 a, .int .i64 b, .int .i64 c] 32 (0, 0))) := by show _ = _; rw [hw2, Below.heap_alloc _ _ _ (by have := Z1.out; omega), hw1]; exact heap_alloc_new w _
  have K2 : Hid (w2.heap[w.heap.size + 1]? = some (.cells #[.int .i64 0, .string ⟨#[]⟩] 30 (0, 0))) := by show _ = _; rw [hw2, ← Z1.out]; exact heap_alloc_new w1 _
  have Z2 : Hid (w2.heap.size = w.heap.size + 2) := by show _ = _; rw [hw2]; simp; exact Z1.out
  have B2 : Hid (Below w.heap.size w w2) := by show Below _ _ _; rw [hw2, hw1]; exact ((Below.refl _ _).alloc (Nat.le_refl _) _).alloc (by simp) _
  have r0 := cell_of_row w2 _ 0 _ _ _ K1.out; have r1 := cell_of_row w2 _ 1 _ _ _ K1.out; have r2 := cell_of_row w2 _ 2 _ _ _ K1.out
  have s0 := cell_of_row w2 _ 0 _ _ _ K2.out; have s1 := cell_of_row w2 _ 1 _ _ _ K2.out
  have f0 := frozen_of_row w2 _ 0 _ _ K2.out; have f1 := frozen_of_row w2 _ 1 _ _ K2.out
  simp at r0 r1 r2 s0 s1
  have HW : Hid (w2 = (w.alloc (.cells #[.int .i64 a, .int .i64 b, .int .i64 c] 32)).alloc (.cells #[.int .i64 0, .string ⟨#[]⟩] 30)) := by show _ = _; rw [hw2, hw1]
  clear hw1 hw2
  go_enter Tryd.func9, Tryd.ntmps9
  go_upto_region 1 with (fail)
  rw [← HW.out]
  clear HW
  go_wp2_with fail
  refine (LA.out _).mono ?_
  rintro e w' ⟨rfl, rfl⟩
  go_wp2
  refine bodyPost_ret (results_cell_row rfl _ _ _ _ _ (0, 0) _ rfl (heap_setCell_same _ _ 1 _ _ _ (heap_setCell_same _ _ 0 _ _ _ K2.out)) Tryd.underlying30 rfl (by kernel_rfl)) rfl ?_
  exact ⟨(by rw [notx_bad (by unfold okn; omega)]; first | done | rfl), (B2.out.setCell (p := ⟨w.heap.size + 1, 0, none⟩) (Nat.le_succ _) _).setCell (p := ⟨w.heap.size + 1, 1, none⟩) (Nat.le_succ _) _⟩
set_option maxHeartbeats 4000000 in
theorem specNoteText_b (a b c : Int) (ha : 0 ≤ a ∧ a ≤ 100000) (hb : ¬ (b = -1 ∨ (0 ≤ b ∧ b ≤ 3))) (w : World) : Calls Tryd.prog 9 #[.agg #[.int .i64 a, .int .i64 b, .int .i64 c]] w fun e w' => e = .returned (.agg #[.int .i64 (notx a b c).1, .string (notx a b c).2]) ∧ Below w.heap.size w w' := by
  have LA : Hid (∀ w, Calls Tryd.prog 21 #[.int .i64 a, .int .i64 0, .int .i64 100000] w fun e w' => e = .returned (.bool true) ∧ w = w') := fun w => by
    have h := l1In10 a 0 100000 w
    rw [in10_true ha] at h
    exact h
  have LB : Hid (∀ w, Calls Tryd.prog 22 #[.int .i64 b] w fun e w' => e = .returned (.bool false) ∧ w = w') := fun w => by
    have h := l1Env10 b w
    rw [in10_false (by omega)] at h
    exact h
  have hb1 : (b == -1) = false := by simp; omega
  have hb2 : (b != -1) = true := by simp; omega
  obtain ⟨w1, hw1⟩ : ∃ w1, w1 = w.alloc (.cells #[.int .i64 a, .int .i64 b, .int .i64 c] 32) := ⟨_, rfl⟩
  obtain ⟨w2, hw2⟩ : ∃ w2, w2 = w1.alloc (.cells #[.int .i64 0, .string ⟨#[]⟩] 30) := ⟨_, rfl⟩
  have Z1 : Hid (w1.heap.size = w.heap.size + 1) := by show _ = _; rw [hw1]; simp
  have K1 : Hid (w2.heap[w.heap.size]? = some (.cells #[.int .i64 a, .int .i64 b, .int .i64 c] 32 (0, 0))) := by show _ = _; rw [hw2, Below.heap_alloc _ _ _ (by have := Z1.out; omega), hw1]; exact heap_alloc_new w _
  have K2 : Hid (w2.heap[w.heap.size + 1]? = some (.cells #[.int .i64 0, .string ⟨#[]⟩] 30 (0, 0))) := by show _ = _; rw [hw2, ← Z1.out]; exact heap_alloc_new w1 _
  have Z2 : Hid (w2.heap.size = w.heap.size + 2) := by show _ = _; rw [hw2]; simp; exact Z1.out
  have B2 : Hid (Below w.heap.size w w2) := by show Below _ _ _; rw [hw2, hw1]; exact ((Below.refl _ _).alloc (Nat.le_refl _) _).alloc (by simp) _
  have r0 := cell_of_row w2 _ 0 _ _ _ K1.out; have r1 := cell_of_row w2 _ 1 _ _ _ K1.out; have r2 := cell_of_row w2 _ 2 _ _ _ K1.out
  have s0 := cell_of_row w2 _ 0 _ _ _ K2.out; have s1 := cell_of_row w2 _ 1 _ _ _ K2.out
  have f0 := frozen_of_row w2 _ 0 _ _ K2.out; have f1 := frozen_of_row w2 _ 1 _ _ K2.out
  simp at r0 r1 r2 s0 s1
  have HW : Hid (w2 = (w.alloc (.cells #[.int .i64 a, .int .i64 b, .int .i64 c] 32)).alloc (.cells #[.int .i64 0, .string ⟨#[]⟩] 30)) := by show _ = _; rw [hw2, hw1]
  clear hw1 hw2
  go_enter Tryd.func9, Tryd.ntmps9
  go_upto_region 1 with (fail)
  rw [← HW.out]
  clear HW
  go_wp2_with fail
  refine (LA.out _).mono ?_
  rintro e w' ⟨rfl, rfl⟩
  go_wp2_with fail
  refine (LB.out _).mono ?_
  rintro e w' ⟨rfl, rfl⟩
  go_wp2
  refine bodyPost_ret (results_cell_row rfl _ _ _ _ _ (0, 0) _ rfl (heap_setCell_same _ _ 1 _ _ _ (heap_setCell_same _ _ 0 _ _ _ K2.out)) Tryd.underlying30 rfl (by kernel_rfl)) rfl ?_
  exact ⟨(by rw [notx_bad (by unfold okn; omega)]; first | done | rfl), (B2.out.setCell (p := ⟨w.heap.size + 1, 0, none⟩) (Nat.le_succ _) _).setCell (p := ⟨w.heap.size + 1, 1, none⟩) (Nat.le_succ _) _⟩
set_option maxHeartbeats 4000000 in
theorem specNoteText_c_none (a c : Int) (ha : 0 ≤ a ∧ a ≤ 100000) (hc : ¬ (1 ≤ c ∧ c ≤ 7)) (w : World) : Calls Tryd.prog 9 #[.agg #[.int .i64 a, .int .i64 (-1), .int .i64 c]] w fun e w' => e = .returned (.agg #[.int .i64 (notx a (-1) c).1, .string (notx a (-1) c).2]) ∧ Below w.heap.size w w' := by
  have LA : Hid (∀ w, Calls Tryd.prog 21 #[.int .i64 a, .int .i64 0, .int .i64 100000] w fun e w' => e = .returned (.bool true) ∧ w = w') := fun w => by
    have h := l1In10 a 0 100000 w
    rw [in10_true ha] at h
    exact h
  have LC : Hid (∀ w, Calls Tryd.prog 21 #[.int .i64 c, .int .i64 1, .int .i64 7] w fun e w' => e = .returned (.bool false) ∧ w = w') := fun w => by
    have h := l1In10 c 1 7 w
    rw [in10_false hc] at h
    exact h
  obtain ⟨w1, hw1⟩ : ∃ w1, w1 = w.alloc (.cells #[.int .i64 a, .int .i64 (-1), .int .i64 c] 32) := ⟨_, rfl⟩
  obtain ⟨w2, hw2⟩ : ∃ w2, w2 = w1.alloc (.cells #[.int .i64 0, .string ⟨#[]⟩] 30) := ⟨_, rfl⟩
  have Z1 : Hid (w1.heap.size = w.heap.size + 1) := by show _ = _; rw [hw1]; simp
  have K1 : Hid (w2.heap[w.heap.size]? = some (.cells #[.int .i64 a, .int .i64 (-1), .int .i64 c] 32 (0, 0))) := by show _ = _; rw [hw2, Below.heap_alloc _ _ _ (by have := Z1.out; omega), hw1]; exact heap_alloc_new w _
  have K2 : Hid (w2.heap[w.heap.size + 1]? = some (.cells #[.int .i64 0, .string ⟨#[]⟩] 30 (0, 0))) := by show _ = _; rw [hw2, ← Z1.out]; exact heap_alloc_new w1 _
  have Z2 : Hid (w2.heap.size = w.heap.size + 2) := by show _ = _; rw [hw2]; simp; exact Z1.out
  have B2 : Hid (Below w.heap.size w w2) := by show Below _ _ _; rw [hw2, hw1]; exact ((Below.refl _ _).alloc (Nat.le_refl _) _).alloc (by simp) _
  have r0 := cell_of_row w2 _ 0 _ _ _ K1.out; have r1 := cell_of_row w2 _ 1 _ _ _ K1.out; have r2 := cell_of_row w2 _ 2 _ _ _ K1.out
  have s0 := cell_of_row w2 _ 0 _ _ _ K2.out; have s1 := cell_of_row w2 _ 1 _ _ _ K2.out
  have f0 := frozen_of_row w2 _ 0 _ _ K2.out; have f1 := frozen_of_row w2 _ 1 _ _ K2.out
  simp at r0 r1 r2 s0 s1
  have HW : Hid (w2 = (w.alloc (.cells #[.int .i64 a, .int .i64 (-1), .int .i64 c] 32)).alloc (.cells #[.int .i64 0, .string ⟨#[]⟩] 30)) := by show _ = _; rw [hw2, hw1]
  clear hw1 hw2
  go_enter Tryd.func9, Tryd.ntmps9
  go_upto_region 1 with (fail)
  rw [← HW.out]
  clear HW
  go_wp2_with fail
  refine (LA.out _).mono ?_
  rintro e w' ⟨rfl, rfl⟩
  go_wp2_with fail
  refine (LC.out _).mono ?_
  rintro e w' ⟨rfl, rfl⟩
  go_wp2
  refine bodyPost_ret (results_cell_row rfl _ _ _ _ _ (0, 0) _ rfl (heap_setCell_same _ _ 1 _ _ _ (heap_setCell_same _ _ 0 _ _ _ K2.out)) Tryd.underlying30 rfl (by kernel_rfl)) rfl ?_
  exact ⟨(by rw [notx_bad (by unfold okn; omega)]; first | done | rfl), (B2.out.setCell (p := ⟨w.heap.size + 1, 0, none⟩) (Nat.le_succ _) _).setCell (p := ⟨w.heap.size + 1, 1, none⟩) (Nat.le_succ _) _⟩
set_option maxHeartbeats 4000000 in
theorem specNoteText_ok_none (a c : Int) (ha : 0 ≤ a ∧ a ≤ 100000) (hc : 1 ≤ c ∧ c ≤ 7) (w : World) : Calls Tryd.prog 9 #[.agg #[.int .i64 a, .int .i64 (-1), .int .i64 c]] w fun e w' => e = .returned (.agg #[.int .i64 (notx a (-1) c).1, .string (notx a (-1) c).2]) ∧ Below w.heap.size w w' := by
  have OK : Hid (okn a (-1) c) := by show okn _ _ _; unfold okn; omega
  have LA : Hid (∀ w, Calls Tryd.prog 21 #[.int .i64 a, .int .i64 0, .int .i64 100000] w fun e w' => e = .returned (.bool true) ∧ w = w') := fun w => by
    have h := l1In10 a 0 100000 w
    rw [in10_true ha] at h
    exact h
  have LC : Hid (∀ w, Calls Tryd.prog 21 #[.int .i64 c, .int .i64 1, .int .i64 7] w fun e w' => e = .returned (.bool true) ∧ w = w') := fun w => by
    have h := l1In10 c 1 7 w
    rw [in10_true hc] at h
    exact h
  obtain ⟨w1, hw1⟩ : ∃ w1, w1 = w.alloc (.cells #[.int .i64 a, .int .i64 (-1), .int .i64 c] 32) := ⟨_, rfl⟩
  obtain ⟨w2, hw2⟩ : ∃ w2, w2 = w1.alloc (.cells #[.int .i64 0, .string ⟨#[]⟩] 30) := ⟨_, rfl⟩
  have Z1 : Hid (w1.heap.size = w.heap.size + 1) := by show _ = _; rw [hw1]; simp
  have K1 : Hid (w2.heap[w.heap.size]? = some (.cells #[.int .i64 a, .int .i64 (-1), .int .i64 c] 32 (0, 0))) := by show _ = _; rw [hw2, Below.heap_alloc _ _ _ (by have := Z1.out; omega), hw1]; exact heap_alloc_new w _
  have K2 : Hid (w2.heap[w.heap.size + 1]? = some (.cells #[.int .i64 0, .string ⟨#[]⟩] 30 (0, 0))) := by show _ = _; rw [hw2, ← Z1.out]; exact heap_alloc_new w1 _
  have Z2 : Hid (w2.heap.size = w.heap.size + 2) := by show _ = _; rw [hw2]; simp; exact Z1.out
  have B2 : Hid (Below w.heap.size w w2) := by show Below _ _ _; rw [hw2, hw1]; exact ((Below.refl _ _).alloc (Nat.le_refl _) _).alloc (by simp) _
  have r0 := cell_of_row w2 _ 0 _ _ _ K1.out; have r1 := cell_of_row w2 _ 1 _ _ _ K1.out; have r2 := cell_of_row w2 _ 2 _ _ _ K1.out
  have s0 := cell_of_row w2 _ 0 _ _ _ K2.out; have s1 := cell_of_row w2 _ 1 _ _ _ K2.out
  have f0 := frozen_of_row w2 _ 0 _ _ K2.out; have f1 := frozen_of_row w2 _ 1 _ _ K2.out
  simp at r0 r1 r2 s0 s1
  have HW : Hid (w2 = (w.alloc (.cells #[.int .i64 a, .int .i64 (-1), .int .i64 c] 32)).alloc (.cells #[.int .i64 0, .string ⟨#[]⟩] 30)) := by show _ = _; rw [hw2, hw1]
  clear hw1 hw2
  have TX := Lib.hid (l10Note10 a (-1) c OK.out w.heap.size w2 K1.out)
  go_enter Tryd.func9, Tryd.ntmps9
  go_upto_region 1 with (fail)
  rw [← HW.out]
  clear HW
  go_wp2_with fail
  refine (LA.out _).mono ?_
  rintro e w' ⟨rfl, rfl⟩
  go_wp2_with fail
  refine (LC.out _).mono ?_
  rintro e w' ⟨rfl, rfl⟩
  go_wp2_with fail
  refine (TX.out).mono ?_
  rintro e w' ⟨rfl, hb⟩
  have K3 := Lib.hid ((hb.block _ (by have := Z2.out; omega)).trans K2.out)
  have B3 := Lib.hid (B2.out.trans (hb.mono B2.out.size))
  have g0 := cell_of_row w' _ 0 _ _ _ K3.out; have g1 := cell_of_row w' _ 1 _ _ _ K3.out
  have j0 := frozen_of_row w' _ 0 _ _ K3.out; have j1 := frozen_of_row w' _ 1 _ _ K3.out
  simp at g0 g1
  clear hb r0 r1 r2 s0 s1 f0 f1
  go_wp2
  refine bodyPost_ret (results_cell_row rfl _ _ _ _ _ (0, 0) _ rfl (heap_setCell_same _ _ 1 _ _ _ (heap_setCell_same _ _ 0 _ _ _ K3.out)) Tryd.underlying30 rfl (by kernel_rfl)) rfl ?_
  exact ⟨(by rw [notx_ok OK.out]; first | done | rfl), (B3.out.setCell (p := ⟨w.heap.size + 1, 0, none⟩) (Nat.le_succ _) _).setCell (p := ⟨w.heap.size + 1, 1, none⟩) (Nat.le_succ _) _⟩
set_option maxHeartbeats 4000000 in
theorem specNoteText_c_env (a b c : Int) (ha : 0 ≤ a ∧ a ≤ 100000) (hb : 0 ≤ b ∧ b ≤ 3) (hc : ¬ (1 ≤ c ∧ c ≤ 7)) (w : World) : Calls Tryd.prog 9 #[.agg #[.int .i64 a, .int .i64 b, .int .i64 c]] w fun e w' => e = .returned (.agg #[.int .i64 (notx a b c).1, .string (notx a b c).2]) ∧ Below w.heap.size w w' := by
  have LA : Hid (∀ w, Calls Tryd.prog 21 #[.int .i64 a, .int .i64 0, .int .i64 100000] w fun e w' => e = .returned (.bool true) ∧ w = w') := fun w => by
    have h := l1In10 a 0 100000 w
    rw [in10_true ha] at h
    exact h
  have LB : Hid (∀ w, Calls Tryd.prog 22 #[.int .i64 b] w fun e w' => e = .returned (.bool true) ∧ w = w') := fun w => by
    have h := l1Env10 b w
    rw [in10_true hb] at h
    exact h
  have hb1 : (b == -1) = false := by simp; omega
  have hb2 : (b != -1) = true := by simp; omega
  have LC : Hid (∀ w, Calls Tryd.prog 21 #[.int .i64 c, .int .i64 1, .int .i64 7] w fun e w' => e = .returned (.bool false) ∧ w = w') := fun w => by
    have h := l1In10 c 1 7 w
    rw [in10_false hc] at h
    exact h
  obtain ⟨w1, hw1⟩ : ∃ w1, w1 = w.alloc (.cells #[.int .i64 a, .int .i64 b, .int .i64 c] 32) := ⟨_, rfl⟩
  obtain ⟨w2, hw2⟩ : ∃ w2, w2 = w1.alloc (.cells #[.int .i64 0, .string ⟨#[]⟩] 30) := ⟨_, rfl⟩
  have Z1 : Hid (w1.heap.size = w.heap.size + 1) := by show _ = _; rw [hw1]; simp
  have K1 : Hid (w2.heap[w.heap.size]? = some (.cells #[.int .i64 a, .int .i64 b, .int .i64 c] 32 (0, 0))) := by show _ = _; rw [hw2, Below.heap_alloc _ _ _ (by have := Z1.out; omega), hw1]; exact heap_alloc_new w _
  have K2 : Hid (w2.heap[w.heap.size + 1]? = some (.cells #[.int .i64 0, .string ⟨#[]⟩] 30 (0, 0))) := by show _ = _; rw [hw2, ← Z1.out]; exact heap_alloc_new w1 _
  have Z2 : Hid (w2.heap.size = w.heap.size + 2) := by show _ = _; rw [hw2]; simp; exact Z1.out
  have B2 : Hid (Below w.heap.size w w2) := by show Below _ _ _; rw [hw2, hw1]; exact ((Below.refl _ _).alloc (Nat.le_refl _) _).alloc (by simp) _
  have r0 := cell_of_row w2 _ 0 _ _ _ K1.out; have r1 := cell_of_row w2 _ 1 _ _ _ K1.out; have r2 := cell_of_row w2 _ 2 _ _ _ K1.out
  have s0 := cell_of_row w2 _ 0 _ _ _ K2.out; have s1 := cell_of_row w2 _ 1 _ _ _ K2.out
  have f0 := frozen_of_row w2 _ 0 _ _ K2.out; have f1 := frozen_of_row w2 _ 1 _ _ K2.out
  simp at r0 r1 r2 s0 s1
  have HW : Hid (w2 = (w.alloc (.cells #[.int .i64 a, .int .i64 b, .int .i64 c] 32)).alloc (.cells #[.int .i64 0, .string ⟨#[]⟩] 30)) := by show _ = _; rw [hw2, hw1]
  clear hw1 hw2
  go_enter Tryd.func9, Tryd.ntmps9
  go_upto_region 1 with (fail)
  rw [← HW.out]
  clear HW
  go_wp2_with fail
  refine (LA.out _).mono ?_
  rintro e w' ⟨rfl, rfl⟩
  go_wp2_with fail
  refine (LB.out _).mono ?_
  rintro e w' ⟨rfl, rfl⟩
  go_wp2_with fail
  refine (LC.out _).mono ?_
  rintro e w' ⟨rfl, rfl⟩
  go_wp2
  refine bodyPost_ret (results_cell_row rfl _ _ _ _ _ (0, 0) _ rfl (heap_setCell_same _ _ 1 _ _ _ (heap_setCell_same _ _ 0 _ _ _ K2.out)) Tryd.underlying30 rfl (by kernel_rfl)) rfl ?_
  exact ⟨(by rw [notx_bad (by unfold okn; omega)]; first | done | rfl), (B2.out.setCell (p := ⟨w.heap.size + 1, 0, none⟩) (Nat.le_succ _) _).setCell (p := ⟨w.heap.size + 1, 1, none⟩) (Nat.le_succ _) _⟩
set_option maxHeartbeats 4000000 in
theorem specNoteText_ok_env (a b c : Int) (ha : 0 ≤ a ∧ a ≤ 100000) (hb : 0 ≤ b ∧ b ≤ 3) (hc : 1 ≤ c ∧ c ≤ 7) (w : World) : Calls Tryd.prog 9 #[.agg #[.int .i64 a, .int .i64 b, .int .i64 c]] w fun e w' => e = .returned (.agg #[.int .i64 (notx a b c).1, .string (notx a b c).2]) ∧ Below w.heap.size w w' := by
  have OK : Hid (okn a b c) := by show okn _ _ _; unfold okn; omega
  have LA : Hid (∀ w, Calls Tryd.prog 21 #[.int .i64 a, .int .i64 0, .int .i64 100000] w fun e w' => e = .returned (.bool true) ∧ w = w') := fun w => by
    have h := l1In10 a 0 100000 w
    rw [in10_true ha] at h
    exact h
  have LB : Hid (∀ w, Calls Tryd.prog 22 #[.int .i64 b] w fun e w' => e = .returned (.bool true) ∧ w = w') := fun w => by
    have h := l1Env10 b w
    rw [in10_true hb] at h
    exact h
  have hb1 : (b == -1) = false := by simp; omega
  have hb2 : (b != -1) = true := by simp; omega
  have LC : Hid (∀ w, Calls Tryd.prog 21 #[.int .i64 c, .int .i64 1, .int .i64 7] w fun e w' => e = .returned (.bool true) ∧ w = w') := fun w => by
    have h := l1In10 c 1 7 w
    rw [in10_true hc] at h
    exact h
  obtain ⟨w1, hw1⟩ : ∃ w1, w1 = w.alloc (.cells #[.int .i64 a, .int .i64 b, .int .i64 c] 32) := ⟨_, rfl⟩
  obtain ⟨w2, hw2⟩ : ∃ w2, w2 = w1.alloc (.cells #[.int .i64 0, .string ⟨#[]⟩] 30) := ⟨_, rfl⟩
  have Z1 : Hid (w1.heap.size = w.heap.size + 1) := by show _ = _; rw [hw1]; simp
  have K1 : Hid (w2.heap[w.heap.size]? = some (.cells #[.int .i64 a, .int .i64 b, .int .i64 c] 32 (0, 0))) := by show _ = _; rw [hw2, Below.heap_alloc _ _ _ (by have := Z1.out; omega), hw1]; exact heap_alloc_new w _
  have K2 : Hid (w2.heap[w.heap.size + 1]? = some (.cells #[.int .i64 0, .string ⟨#[]⟩] 30 (0, 0))) := by show _ = _; rw [hw2, ← Z1.out]; exact heap_alloc_new w1 _
  have Z2 : Hid (w2.heap.size = w.heap.size + 2) := by show _ = _; rw [hw2]; simp; exact Z1.out
  have B2 : Hid (Below w.heap.size w w2) := by show Below _ _ _; rw [hw2, hw1]; exact ((Below.refl _ _).alloc (Nat.le_refl _) _).alloc (by simp) _
  have r0 := cell_of_row w2 _ 0 _ _ _ K1.out; have r1 := cell_of_row w2 _ 1 _ _ _ K1.out; have r2 := cell_of_row w2 _ 2 _ _ _ K1.out
  have s0 := cell_of_row w2 _ 0 _ _ _ K2.out; have s1 := cell_of_row w2 _ 1 _ _ _ K2.out
  have f0 := frozen_of_row w2 _ 0 _ _ K2.out; have f1 := frozen_of_row w2 _ 1 _ _ K2.out
  simp at r0 r1 r2 s0 s1
  have HW : Hid (w2 = (w.alloc (.cells #[.int .i64 a, .int .i64 b, .int .i64 c] 32)).alloc (.cells #[.int .i64 0, .string ⟨#[]⟩] 30)) := by show _ = _; rw [hw2, hw1]
  clear hw1 hw2
  have TX := Lib.hid (l10Note10 a b c OK.out w.heap.size w2 K1.out)
  go_enter Tryd.func9, Tryd.ntmps9
  go_upto_region 1 with (fail)
  rw [← HW.out]
  clear HW
  go_wp2_with fail
  refine (LA.out _).mono ?_
  rintro e w' ⟨rfl, rfl⟩
  go_wp2_with fail
  refine (LB.out _).mono ?_
  rintro e w' ⟨rfl, rfl⟩
  go_wp2_with fail
  refine (LC.out _).mono ?_
  rintro e w' ⟨rfl, rfl⟩
  go_wp2_with fail
  refine (TX.out).mono ?_
  rintro e w' ⟨rfl, hb⟩
  have K3 := Lib.hid ((hb.block _ (by have := Z2.out; omega)).trans K2.out)
  have B3 := Lib.hid (B2.out.trans (hb.mono B2.out.size))
  have g0 := cell_of_row w' _ 0 _ _ _ K3.out; have g1 := cell_of_row w' _ 1 _ _ _ K3.out
  have j0 := frozen_of_row w' _ 0 _ _ K3.out; have j1 := frozen_of_row w' _ 1 _ _ K3.out
  simp at g0 g1
  clear hb r0 r1 r2 s0 s1 f0 f1
  go_wp2
  refine bodyPost_ret (results_cell_row rfl _ _ _ _ _ (0, 0) _ rfl (heap_setCell_same _ _ 1 _ _ _ (heap_setCell_same _ _ 0 _ _ _ K3.out)) Tryd.underlying30 rfl (by kernel_rfl)) rfl ?_
  exact ⟨(by rw [notx_ok OK.out]; first | done | rfl), (B3.out.setCell (p := ⟨w.heap.size + 1, 0, none⟩) (Nat.le_succ _) _).setCell (p := ⟨w.heap.size + 1, 1, none⟩) (Nat.le_succ _) _⟩

theorem specNoteText10 (a b c : Int) (w : World) : Calls Tryd.prog 9 #[.agg #[.int .i64 a, .int .i64 b, .int .i64 c]] w fun e w' => e = .returned (.agg #[.int .i64 (notx a b c).1, .string (notx a b c).2]) ∧ Below w.heap.size w w' := by
  by_cases ha : 0 ≤ a ∧ a ≤ 100000
  · by_cases hb : b = -1 ∨ (0 ≤ b ∧ b ≤ 3)
    · by_cases hc : 1 ≤ c ∧ c ≤ 7
      · rcases hb with rfl | hb
        · exact specNoteText_ok_none a c ha hc w
        · exact specNoteText_ok_env a b c ha hb hc w
      · rcases hb with rfl | hb
        · exact specNoteText_c_none a c ha hc w
        · exact specNoteText_c_env a b c ha hb hc w
    · exact specNoteText_b a b c ha hb w
  · exact specNoteText_a a b c ha w

set_option maxHeartbeats 4000000 in
theorem implNoteText_a1 (a b c : Int) (ha : a < 0) (w : World) : Calls Tryd.prog 11 #[.agg #[.int .i64 a, .int .i64 b, .int .i64 c]] w fun e w' => e = .returned (.agg #[.int .i64 (notx a b c).1, .string (notx a b c).2]) ∧ Below w.heap.size w w' := by
  obtain ⟨w1, hw1⟩ : ∃ w1, w1 = w.alloc (.cells #[.int .i64 a, .int .i64 b, .int .i64 c] 32) := ⟨_, rfl⟩
  obtain ⟨w2, hw2⟩ : ∃ w2, w2 = w1.alloc (.cells #[.int .i64 0, .string ⟨#[]⟩] 30) := ⟨_, rfl⟩
  have Z1 : Hid (w1.heap.size = w.heap.size + 1) := by show _ = _; rw [hw1]; simp
  have K1 : Hid (w2.heap[w.heap.size]? = some (.cells #[.int .i64 a, .int .i64 b, .int .i64 c] 32 (0, 0))) := by show _ = _; rw [hw2, Below.heap_alloc _ _ _ (by have := Z1.out; omega), hw1]; exact heap_alloc_new w _
  have K2 : Hid (w2.heap[w.heap.size + 1]? = some (.cells #[.int .i64 0, .string ⟨#[]⟩] 30 (0, 0))) := by show _ = _; rw [hw2, ← Z1.out]; exact heap_alloc_new w1 _
  have Z2 : Hid (w2.heap.size = w.heap.size + 2) := by show _ = _; rw [hw2]; simp; exact Z1.out
  have B2 : Hid (Below w.heap.size w w2) := by show Below _ _ _; rw [hw2, hw1]; exact ((Below.refl _ _).alloc (Nat.le_refl _) _).alloc (by simp) _
  have r0 := cell_of_row w2 _ 0 _ _ _ K1.out; have r1 := cell_of_row w2 _ 1 _ _ _ K1.out; have r2 := cell_of_row w2 _ 2 _ _ _ K1.out
  have s0 := cell_of_row w2 _ 0 _ _ _ K2.out; have s1 := cell_of_row w2 _ 1 _ _ _ K2.out
  have f0 := frozen_of_row w2 _ 0 _ _ K2.out; have f1 := frozen_of_row w2 _ 1 _ _ K2.out
  simp at r0 r1 r2 s0 s1
  have HW : Hid (w2 = (w.alloc (.cells #[.int .i64 a, .int .i64 b, .int .i64 c] 32)).alloc (.cells #[.int .i64 0, .string ⟨#[]⟩] 30)) := by show _ = _; rw [hw2, hw1]
  clear hw1 hw2
  go_enter Tryd.func11, Tryd.ntmps11
  go_upto_region 1 with (fail)
  rw [← HW.out]
  clear HW
  go_wp2
  refine bodyPost_ret (results_cell_row rfl _ _ _ _ _ (0, 0) _ rfl (heap_setCell_same _ _ 1 _ _ _ (heap_setCell_same _ _ 0 _ _ _ K2.out)) Tryd.underlying30 rfl (by kernel_rfl)) rfl ?_
  exact ⟨(by rw [notx_bad (by unfold okn; omega)]; first | done | rfl), (B2.out.setCell (p := ⟨w.heap.size + 1, 0, none⟩) (Nat.le_succ _) _).setCell (p := ⟨w.heap.size + 1, 1, none⟩) (Nat.le_succ _) _⟩
set_option maxHeartbeats 4000000 in
theorem implNoteText_a2 (a b c : Int) (h0 : ¬ a < 0) (ha : 100000 < a) (w : World) : Calls Tryd.prog 11 #[.agg #[.int .i64 a, .int .i64 b, .int .i64 c]] w fun e w' => e = .returned (.agg #[.int .i64 (notx a b c).1, .string (notx a b c).2]) ∧ Below w.heap.size w w' := by
  obtain ⟨w1, hw1⟩ : ∃ w1, w1 = w.alloc (.cells #[.int .i64 a, .int .i64 b, .int .i64 c] 32) := ⟨_, rfl⟩
  obtain ⟨w2, hw2⟩ : ∃ w2, w2 = w1.alloc (.cells #[.int .i64 0, .string ⟨#[]⟩] 30) := ⟨_, rfl⟩
  have Z1 : Hid (w1.heap.size = w.heap.size + 1) := by show _ = _; rw [hw1]; simp
  have K1 : Hid (w2.heap[w.heap.size]? = some (.cells #[.int .i64 a, .int .i64 b, .int .i64 c] 32 (0, 0))) := by show _ = _; rw [hw2, Below.heap_alloc _ _ _ (by have := Z1.out; omega), hw1]; exact heap_alloc_new w _
  have K2 : Hid (w2.heap[w.heap.size + 1]? = some (.cells #[.int .i64 0, .string ⟨#[]⟩] 30 (0, 0))) := by show _ = _; rw [hw2, ← Z1.out]; exact heap_alloc_new w1 _
  have Z2 : Hid (w2.heap.size = w.heap.size + 2) := by show _ = _; rw [hw2]; simp; exact Z1.out
  have B2 : Hid (Below w.heap.size w w2) := by show Below _ _ _; rw [hw2, hw1]; exact ((Below.refl _ _).alloc (Nat.le_refl _) _).alloc (by simp) _
  have r0 := cell_of_row w2 _ 0 _ _ _ K1.out; have r1 := cell_of_row w2 _ 1 _ _ _ K1.out; have r2 := cell_of_row w2 _ 2 _ _ _ K1.out
  have s0 := cell_of_row w2 _ 0 _ _ _ K2.out; have s1 := cell_of_row w2 _ 1 _ _ _ K2.out
  have f0 := frozen_of_row w2 _ 0 _ _ K2.out; have f1 := frozen_of_row w2 _ 1 _ _ K2.out
  simp at r0 r1 r2 s0 s1
  have HW : Hid (w2 = (w.alloc (.cells #[.int .i64 a, .int .i64 b, .int .i64 c] 32)).alloc (.cells #[.int .i64 0, .string ⟨#[]⟩] 30)) := by show _ = _; rw [hw2, hw1]
  clear hw1 hw2
  go_enter Tryd.func11, Tryd.ntmps11
  go_upto_region 1 with (fail)
  rw [← HW.out]
  clear HW
  go_wp2
  refine bodyPost_ret (results_cell_row rfl _ _ _ _ _ (0, 0) _ rfl (heap_setCell_same _ _ 1 _ _ _ (heap_setCell_same _ _ 0 _ _ _ K2.out)) Tryd.underlying30 rfl (by kernel_rfl)) rfl ?_
  exact ⟨(by rw [notx_bad (by unfold okn; omega)]; first | done | rfl), (B2.out.setCell (p := ⟨w.heap.size + 1, 0, none⟩) (Nat.le_succ _) _).setCell (p := ⟨w.heap.size + 1, 1, none⟩) (Nat.le_succ _) _⟩
set_option maxHeartbeats 4000000 in
theorem implNoteText_b (a b c : Int) (h0 : ¬ a < 0) (ha : ¬ 100000 < a) (hb : ¬ (b = -1 ∨ (0 ≤ b ∧ b ≤ 3))) (w : World) : Calls Tryd.prog 11 #[.agg #[.int .i64 a, .int .i64 b, .int .i64 c]] w fun e w' => e = .returned (.agg #[.int .i64 (notx a b c).1, .string (notx a b c).2]) ∧ Below w.heap.size w w' := by
  have LB : Hid (∀ w, Calls Tryd.prog 24 #[.int .i64 b] w fun e w' => e = .returned (.bool false) ∧ w = w') := fun w => by
    have h := isOne10 b w
    rw [one10_bad hb] at h
    exact h
  obtain ⟨w1, hw1⟩ : ∃ w1, w1 = w.alloc (.cells #[.int .i64 a, .int .i64 b, .int .i64 c] 32) := ⟨_, rfl⟩
  obtain ⟨w2, hw2⟩ : ∃ w2, w2 = w1.alloc (.cells #[.int .i64 0, .string ⟨#[]⟩] 30) := ⟨_, rfl⟩
  have Z1 : Hid (w1.heap.size = w.heap.size + 1) := by show _ = _; rw [hw1]; simp
  have K1 : Hid (w2.heap[w.heap.size]? = some (.cells #[.int .i64 a, .int .i64 b, .int .i64 c] 32 (0, 0))) := by show _ = _; rw [hw2, Below.heap_alloc _ _ _ (by have := Z1.out; omega), hw1]; exact heap_alloc_new w _
  have K2 : Hid (w2.heap[w.heap.size + 1]? = some (.cells #[.int .i64 0, .string ⟨#[]⟩] 30 (0, 0))) := by show _ = _; rw [hw2, ← Z1.out]; exact heap_alloc_new w1 _
  have Z2 : Hid (w2.heap.size = w.heap.size + 2) := by show _ = _; rw [hw2]; simp; exact Z1.out
  have B2 : Hid (Below w.heap.size w w2) := by show Below _ _ _; rw [hw2, hw1]; exact ((Below.refl _ _).alloc (Nat.le_refl _) _).alloc (by simp) _
  have r0 := cell_of_row w2 _ 0 _ _ _ K1.out; have r1 := cell_of_row w2 _ 1 _ _ _ K1.out; have r2 := cell_of_row w2 _ 2 _ _ _ K1.out
  have s0 := cell_of_row w2 _ 0 _ _ _ K2.out; have s1 := cell_of_row w2 _ 1 _ _ _ K2.out
  have f0 := frozen_of_row w2 _ 0 _ _ K2.out; have f1 := frozen_of_row w2 _ 1 _ _ K2.out
  simp at r0 r1 r2 s0 s1
  have HW : Hid (w2 = (w.alloc (.cells #[.int .i64 a, .int .i64 b, .int .i64 c] 32)).alloc (.cells #[.int .i64 0, .string ⟨#[]⟩] 30)) := by show _ = _; rw [hw2, hw1]
  clear hw1 hw2
  go_enter Tryd.func11, Tryd.ntmps11
  go_upto_region 1 with (fail)
  rw [← HW.out]
  clear HW
  go_wp2_with fail
  refine (LB.out _).mono ?_
  rintro e w' ⟨rfl, rfl⟩
  go_wp2
  refine bodyPost_ret (results_cell_row rfl _ _ _ _ _ (0, 0) _ rfl (heap_setCell_same _ _ 1 _ _ _ (heap_setCell_same _ _ 0 _ _ _ K2.out)) Tryd.underlying30 rfl (by kernel_rfl)) rfl ?_
  exact ⟨(by rw [notx_bad (by unfold okn; omega)]; first | done | rfl), (B2.out.setCell (p := ⟨w.heap.size + 1, 0, none⟩) (Nat.le_succ _) _).setCell (p := ⟨w.heap.size + 1, 1, none⟩) (Nat.le_succ _) _⟩
set_option maxHeartbeats 4000000 in
theorem implNoteText_c1 (a b c : Int) (h0 : ¬ a < 0) (ha : ¬ 100000 < a) (hb : b = -1 ∨ (0 ≤ b ∧ b ≤ 3)) (hc : c < 1) (w : World) : Calls Tryd.prog 11 #[.agg #[.int .i64 a, .int .i64 b, .int .i64 c]] w fun e w' => e = .returned (.agg #[.int .i64 (notx a b c).1, .string (notx a b c).2]) ∧ Below w.heap.size w w' := by
  have LB : Hid (∀ w, Calls Tryd.prog 24 #[.int .i64 b] w fun e w' => e = .returned (.bool true) ∧ w = w') := fun w => by
    have h := isOne10 b w
    rw [show one10 b = true from decide_eq_true hb] at h
    exact h
  obtain ⟨w1, hw1⟩ : ∃ w1, w1 = w.alloc (.cells #[.int .i64 a, .int .i64 b, .int .i64 c] 32) := ⟨_, rfl⟩
  obtain ⟨w2, hw2⟩ : ∃ w2, w2 = w1.alloc (.cells #[.int .i64 0, .string ⟨#[]⟩] 30) := ⟨_, rfl⟩
  have Z1 : Hid (w1.heap.size = w.heap.size + 1) := by show _ = _; rw [hw1]; simp
  have K1 : Hid (w2.heap[w.heap.size]? = some (.cells #[.int .i64 a, .int .i64 b, .int .i64 c] 32 (0, 0))) := by show _ = _; rw [hw2, Below.heap_alloc _ _ _ (by have := Z1.out; omega), hw1]; exact heap_alloc_new w _
  have K2 : Hid (w2.heap[w.heap.size + 1]? = some (.cells #[.int .i64 0, .string ⟨#[]⟩] 30 (0, 0))) := by show _ = _; rw [hw2, ← Z1.out]; exact heap_alloc_new w1 _
  have Z2 : Hid (w2.heap.size = w.heap.size + 2) := by show _ = _; rw [hw2]; simp; exact Z1.out
  have B2 : Hid (Below w.heap.size w w2) := by show Below _ _ _; rw [hw2, hw1]; exact ((Below.refl _ _).alloc (Nat.le_refl _) _).alloc (by simp) _
  have r0 := cell_of_row w2 _ 0 _ _ _ K1.out; have r1 := cell_of_row w2 _ 1 _ _ _ K1.out; have r2 := cell_of_row w2 _ 2 _ _ _ K1.out
  have s0 := cell_of_row w2 _ 0 _ _ _ K2.out; have s1 := cell_of_row w2 _ 1 _ _ _ K2.out
  have f0 := frozen_of_row w2 _ 0 _ _ K2.out; have f1 := frozen_of_row w2 _ 1 _ _ K2.out
  simp at r0 r1 r2 s0 s1
  have HW : Hid (w2 = (w.alloc (.cells #[.int .i64 a, .int .i64 b, .int .i64 c] 32)).alloc (.cells #[.int .i64 0, .string ⟨#[]⟩] 30)) := by show _ = _; rw [hw2, hw1]
  clear hw1 hw2
  go_enter Tryd.func11, Tryd.ntmps11
  go_upto_region 1 with (fail)
  rw [← HW.out]
  clear HW
  go_wp2_with fail
  refine (LB.out _).mono ?_
  rintro e w' ⟨rfl, rfl⟩
  go_wp2
  refine bodyPost_ret (results_cell_row rfl _ _ _ _ _ (0, 0) _ rfl (heap_setCell_same _ _ 1 _ _ _ (heap_setCell_same _ _ 0 _ _ _ K2.out)) Tryd.underlying30 rfl (by kernel_rfl)) rfl ?_
  exact ⟨(by rw [notx_bad (by unfold okn; omega)]; first | done | rfl), (B2.out.setCell (p := ⟨w.heap.size + 1, 0, none⟩) (Nat.le_succ _) _).setCell (p := ⟨w.heap.size + 1, 1, none⟩) (Nat.le_succ _) _⟩
set_option maxHeartbeats 4000000 in
theorem implNoteText_c2 (a b c : Int) (h0 : ¬ a < 0) (ha : ¬ 100000 < a) (hb : b = -1 ∨ (0 ≤ b ∧ b ≤ 3)) (hc : ¬ c < 1) (hd : 7 < c) (w : World) : Calls Tryd.prog 11 #[.agg #[.int .i64 a, .int .i64 b, .int .i64 c]] w fun e w' => e = .returned (.agg #[.int .i64 (notx a b c).1, .string (notx a b c).2]) ∧ Below w.heap.size w w' := by
  have LB : Hid (∀ w, Calls Tryd.prog 24 #[.int .i64 b] w fun e w' => e = .returned (.bool true) ∧ w = w') := fun w => by
    have h := isOne10 b w
    rw [show one10 b = true from decide_eq_true hb] at h
    exact h
  obtain ⟨w1, hw1⟩ : ∃ w1, w1 = w.alloc (.cells #[.int .i64 a, .int .i64 b, .int .i64 c] 32) := ⟨_, rfl⟩
  obtain ⟨w2, hw2⟩ : ∃ w2, w2 = w1.alloc (.cells #[.int .i64 0, .string ⟨#[]⟩] 30) := ⟨_, rfl⟩
  have Z1 : Hid (w1.heap.size = w.heap.size + 1) := by show _ = _; rw [hw1]; simp
  have K1 : Hid (w2.heap[w.heap.size]? = some (.cells #[.int .i64 a, .int .i64 b, .int .i64 c] 32 (0, 0))) := by show _ = _; rw [hw2, Below.heap_alloc _ _ _ (by have := Z1.out; omega), hw1]; exact heap_alloc_new w _
  have K2 : Hid (w2.heap[w.heap.size + 1]? = some (.cells #[.int .i64 0, .string ⟨#[]⟩] 30 (0, 0))) := by show _ = _; rw [hw2, ← Z1.out]; exact heap_alloc_new w1 _
  have Z2 : Hid (w2.heap.size = w.heap.size + 2) := by show _ = _; rw [hw2]; simp; exact Z1.out
  have B2 : Hid (Below w.heap.size w w2) := by show Below _ _ _; rw [hw2, hw1]; exact ((Below.refl _ _).alloc (Nat.le_refl _) _).alloc (by simp) _
  have r0 := cell_of_row w2 _ 0 _ _ _ K1.out; have r1 := cell_of_row w2 _ 1 _ _ _ K1.out; have r2 := cell_of_row w2 _ 2 _ _ _ K1.out
  have s0 := cell_of_row w2 _ 0 _ _ _ K2.out; have s1 := cell_of_row w2 _ 1 _ _ _ K2.out
  have f0 := frozen_of_row w2 _ 0 _ _ K2.out; have f1 := frozen_of_row w2 _ 1 _ _ K2.out
  simp at r0 r1 r2 s0 s1
  have HW : Hid (w2 = (w.alloc (.cells #[.int .i64 a, .int .i64 b, .int .i64 c] 32)).alloc (.cells #[.int .i64 0, .string ⟨#[]⟩] 30)) := by show _ = _; rw [hw2, hw1]
  clear hw1 hw2
  go_enter Tryd.func11, Tryd.ntmps11
  go_upto_region 1 with (fail)
  rw [← HW.out]
  clear HW
  go_wp2_with fail
  refine (LB.out _).mono ?_
  rintro e w' ⟨rfl, rfl⟩
  go_wp2
  refine bodyPost_ret (results_cell_row rfl _ _ _ _ _ (0, 0) _ rfl (heap_setCell_same _ _ 1 _ _ _ (heap_setCell_same _ _ 0 _ _ _ K2.out)) Tryd.underlying30 rfl (by kernel_rfl)) rfl ?_
  exact ⟨(by rw [notx_bad (by unfold okn; omega)]; first | done | rfl), (B2.out.setCell (p := ⟨w.heap.size + 1, 0, none⟩) (Nat.le_succ _) _).setCell (p := ⟨w.heap.size + 1, 1, none⟩) (Nat.le_succ _) _⟩
set_option maxHeartbeats 4000000 in
theorem implNoteText_ok (a b c : Int) (h0 : ¬ a < 0) (ha : ¬ 100000 < a) (hb : b = -1 ∨ (0 ≤ b ∧ b ≤ 3)) (hc : ¬ c < 1) (hd : ¬ 7 < c) (w : World) (hw : NW w) : Calls Tryd.prog 11 #[.agg #[.int .i64 a, .int .i64 b, .int .i64 c]] w fun e w' => e = .returned (.agg #[.int .i64 (notx a b c).1, .string (notx a b c).2]) ∧ Below w.heap.size w w' := by
  have OK : Hid (okn a b c) := by show okn _ _ _; unfold okn; omega
  have LB : Hid (∀ w, Calls Tryd.prog 24 #[.int .i64 b] w fun e w' => e = .returned (.bool true) ∧ w = w') := fun w => by
    have h := isOne10 b w
    rw [show one10 b = true from decide_eq_true hb] at h
    exact h
  obtain ⟨w1, hw1⟩ : ∃ w1, w1 = w.alloc (.cells #[.int .i64 a, .int .i64 b, .int .i64 c] 32) := ⟨_, rfl⟩
  obtain ⟨w2, hw2⟩ : ∃ w2, w2 = w1.alloc (.cells #[.int .i64 0, .string ⟨#[]⟩] 30) := ⟨_, rfl⟩
  have Z1 : Hid (w1.heap.size = w.heap.size + 1) := by show _ = _; rw [hw1]; simp
  have K1 : Hid (w2.heap[w.heap.size]? = some (.cells #[.int .i64 a, .int .i64 b, .int .i64 c] 32 (0, 0))) := by show _ = _; rw [hw2, Below.heap_alloc _ _ _ (by have := Z1.out; omega), hw1]; exact heap_alloc_new w _
  have K2 : Hid (w2.heap[w.heap.size + 1]? = some (.cells #[.int .i64 0, .string ⟨#[]⟩] 30 (0, 0))) := by show _ = _; rw [hw2, ← Z1.out]; exact heap_alloc_new w1 _
  have Z2 : Hid (w2.heap.size = w.heap.size + 2) := by show _ = _; rw [hw2]; simp; exact Z1.out
  have B2 : Hid (Below w.heap.size w w2) := by show Below _ _ _; rw [hw2, hw1]; exact ((Below.refl _ _).alloc (Nat.le_refl _) _).alloc (by simp) _
  have r0 := cell_of_row w2 _ 0 _ _ _ K1.out; have r1 := cell_of_row w2 _ 1 _ _ _ K1.out; have r2 := cell_of_row w2 _ 2 _ _ _ K1.out
  have s0 := cell_of_row w2 _ 0 _ _ _ K2.out; have s1 := cell_of_row w2 _ 1 _ _ _ K2.out
  have f0 := frozen_of_row w2 _ 0 _ _ K2.out; have f1 := frozen_of_row w2 _ 1 _ _ K2.out
  simp at r0 r1 r2 s0 s1
  have HW : Hid (w2 = (w.alloc (.cells #[.int .i64 a, .int .i64 b, .int .i64 c] 32)).alloc (.cells #[.int .i64 0, .string ⟨#[]⟩] 30)) := by show _ = _; rw [hw2, hw1]
  clear hw1 hw2
  have TX := Lib.hid (textOf10 a b c OK.out w2 (NW.below hw B2.out))
  go_enter Tryd.func11, Tryd.ntmps11
  go_upto_region 1 with (fail)
  rw [← HW.out]
  clear HW
  go_wp2_with fail
  refine (LB.out _).mono ?_
  rintro e w' ⟨rfl, rfl⟩
  go_wp2_with fail
  refine (TX.out).mono ?_
  rintro e w' ⟨rfl, hb⟩
  have K3 := Lib.hid ((hb.block _ (by have := Z2.out; omega)).trans K2.out)
  have B3 := Lib.hid (B2.out.trans (hb.mono B2.out.size))
  have g0 := cell_of_row w' _ 0 _ _ _ K3.out; have g1 := cell_of_row w' _ 1 _ _ _ K3.out
  have j0 := frozen_of_row w' _ 0 _ _ K3.out; have j1 := frozen_of_row w' _ 1 _ _ K3.out
  simp at g0 g1
  clear hb r0 r1 r2 s0 s1 f0 f1
  go_wp2
  refine bodyPost_ret (results_cell_row rfl _ _ _ _ _ (0, 0) _ rfl (heap_setCell_same _ _ 1 _ _ _ (heap_setCell_same _ _ 0 _ _ _ K3.out)) Tryd.underlying30 rfl (by kernel_rfl)) rfl ?_
  exact ⟨(by rw [notx_ok OK.out]; first | done | rfl), (B3.out.setCell (p := ⟨w.heap.size + 1, 0, none⟩) (Nat.le_succ _) _).setCell (p := ⟨w.heap.size + 1, 1, none⟩) (Nat.le_succ _) _⟩

theorem implNoteText10 (a b c : Int) (w : World) (hw : NW w) : Calls Tryd.prog 11 #[.agg #[.int .i64 a, .int .i64 b, .int .i64 c]] w fun e w' => e = .returned (.agg #[.int .i64 (notx a b c).1, .string (notx a b c).2]) ∧ Below w.heap.size w w' := by
  by_cases h0 : a < 0
  · exact implNoteText_a1 a b c h0 w
  by_cases ha : 100000 < a
  · exact implNoteText_a2 a b c h0 ha w
  by_cases hb : b = -1 ∨ (0 ≤ b ∧ b ≤ 3)
  · by_cases hc : c < 1
    · exact implNoteText_c1 a b c h0 ha hb hc w
    by_cases hd : 7 < c
    · exact implNoteText_c2 a b c h0 ha hb hc hd w
    exact implNoteText_ok a b c h0 ha hb hc hd w hw
  · exact implNoteText_b a b c h0 ha hb w

theorem toNote10 (a b c : Int) (w : World) :
    Calls Tryd.prog 10 #[.agg #[.int .i64 a, .int .i64 b, .int .i64 c]] w fun e w' => e = .returned (.agg #[.int .i64 a, .int .i64 b, .int .i64 c]) ∧ Below w.heap.size w w' := by
  have B3 : Hid (∀ o o' o'', Below w.heap.size w (((w.alloc o).alloc o').alloc o'')) := fun o o' o'' => (((Below.refl _ _).alloc (Nat.le_refl _) o).alloc (by simp) o').alloc (by simp; omega) o''
  go_enter Tryd.func10, Tryd.ntmps10
  go_wp2
  go_returns
  exact ⟨rfl, B3.out _ _ _⟩

theorem eqText10_same (a : Int) (b : ByteArray) (w : World) :
    Calls Tryd.prog 12 #[.agg #[.int .i64 a, .string b], .agg #[.int .i64 a, .string b]] w fun e w' => e = .returned (.bool true) ∧ Below w.heap.size w w' := by
  have B2 : Hid (∀ o o', Below w.heap.size w ((w.alloc o).alloc o')) := fun o o' => ((Below.refl _ _).alloc (Nat.le_refl _) o).alloc (by simp) o'
  go_enter Tryd.func12, Tryd.ntmps12
  go_wp2
  go_ret
  exact ⟨rfl, B2.out _ _⟩

set_option maxHeartbeats 4000000 in
theorem walkNoteText (a b c : Int) (w : World) (hw : NW w) : Calls Tryd.prog 4 #[.agg #[.int .i64 a, .int .i64 b, .int .i64 c]] w fun e w' => e = .returned (.bool true) ∧ Below w.heap.size w w' := by
  have SP := Lib.hid (specNoteText10 a b c)
  have IP := Lib.hid (implNoteText10 a b c)
  have TN := Lib.hid (toNote10 a b c)
  generalize (notx a b c).1 = q at *
  generalize (notx a b c).2 = v at *
  obtain ⟨w1, hw1⟩ : ∃ w1, w1 = w.alloc (.cells #[.int .i64 a, .int .i64 b, .int .i64 c] 28) := ⟨_, rfl⟩
  have K1 : Hid (w1.heap[w.heap.size]? = some (.cells #[.int .i64 a, .int .i64 b, .int .i64 c] 28 (0, 0))) := by show _ = _; rw [hw1]; exact heap_alloc_new w _
  have B1 : Hid (Below w.heap.size w w1) := by rw [hw1]; exact below_new w _
  have Z1 : Hid (w1.heap.size = w.heap.size + 1) := by show _ = _; rw [hw1]; simp
  have r0 := cell_of_row w1 _ 0 _ _ _ K1.out; have r1 := cell_of_row w1 _ 1 _ _ _ K1.out; have r2 := cell_of_row w1 _ 2 _ _ _ K1.out
  simp at r0 r1 r2
  have HW := Lib.hid hw1
  clear hw1
  go_enter Tryd.func4, Tryd.ntmps4
  go_upto_region 1 with (fail)
  rw [← HW.out]
  clear HW
  go_wp2_with fail
  refine (TN.out _).mono ?_
  rintro e x1 ⟨rfl, h1⟩
  go_wp2_with fail
  refine (SP.out _).mono ?_
  rintro e x2 ⟨rfl, h2⟩
  have C2 := Lib.hid (h1.trans (h2.mono h1.size))
  obtain ⟨w2, hw2⟩ : ∃ w2, w2 = x2.alloc (.cells #[.int .i64 q, .string v] 30) := ⟨_, rfl⟩
  have X2 : Hid (w2.heap[x2.heap.size]? = some (.cells #[.int .i64 q, .string v] 30 (0, 0))) := by show _ = _; rw [hw2]; exact heap_alloc_new x2 _
  have D2 : Hid (Below w1.heap.size w1 w2) := by rw [hw2]; exact C2.out.alloc C2.out.size _
  have Z2 : Hid (w2.heap.size = x2.heap.size + 1) := by show _ = _; rw [hw2]; simp
  have L2 : Hid (w.heap.size < x2.heap.size) := by have := C2.out.size; have := Z1.out; show _ < _; omega
  have M1 := Lib.hid ((D2.out.block _ (by have := Z1.out; omega)).trans K1.out)
  have B2 := Lib.hid (B1.out.trans (D2.out.mono B1.out.size))
  have HW2 := Lib.hid hw2
  clear hw2 h1 h2 r0 r1 r2
  go_upto_region 2 with (fail)
  rw [← HW2.out]
  clear HW2
  have r0 := cell_of_row w2 _ 0 _ _ _ M1.out; have r1 := cell_of_row w2 _ 1 _ _ _ M1.out; have r2 := cell_of_row w2 _ 2 _ _ _ M1.out
  simp at r0 r1 r2
  go_wp2_with fail
  refine (TN.out _).mono ?_
  rintro e x3 ⟨rfl, h3⟩
  go_wp2_with fail
  refine (IP.out _ (NW.below hw (B2.out.trans (h3.mono B2.out.size)))).mono ?_
  rintro e x4 ⟨rfl, h4⟩
  have C4 := Lib.hid (h3.trans (h4.mono h3.size))
  have X3 := (C4.out.block x2.heap.size (by have := Z2.out; omega)).trans X2.out
  have R3 := Lib.hid (B2.out.trans (C4.out.mono B2.out.size))
  have Z3 := Lib.hid (show x2.heap.size < x4.heap.size by have := C4.out.size; have := Z2.out; omega)
  obtain ⟨w4, hw4⟩ : ∃ w4, w4 = x4.alloc (.cells #[.int .i64 q, .string v] 30) := ⟨_, rfl⟩
  have X4 : w4.heap[x4.heap.size]? = some (.cells #[.int .i64 q, .string v] 30 (0, 0)) := by rw [hw4]; exact heap_alloc_new x4 _
  have Y4 : w4.heap[x2.heap.size]? = some (.cells #[.int .i64 q, .string v] 30 (0, 0)) := by rw [hw4]; exact (Below.heap_alloc _ _ _ Z3.out).trans X3
  have R4 : Hid (Below w.heap.size w w4) := by rw [hw4]; exact R3.out.alloc R3.out.size _
  have x0 := cell_of_row w4 _ 0 _ _ _ X4; have x1 := cell_of_row w4 _ 1 _ _ _ X4; have y0 := cell_of_row w4 _ 0 _ _ _ Y4; have y1 := cell_of_row w4 _ 1 _ _ _ Y4
  simp at x0 x1 y0 y1
  have HW4 := Lib.hid hw4
  clear hw4 h3 h4 X3 X4 Y4 r0 r1 r2
  go_upto_region 3 with (fail)
  rw [← HW4.out]
  clear HW4
  go_wp2_with fail
  refine (eqText10_same q v _).mono ?_
  rintro e w5 ⟨rfl, hb⟩
  have R5 := Lib.hid (R4.out.trans (hb.mono R4.out.size))
  clear hb
  go_wp2
  go_ret
  exact ⟨rfl, R5.out⟩

end Go.Proofs.YtckapndpefkcgaaDoor
