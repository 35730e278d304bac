/-
  The law's walk of FnExactWordsOf: true whatever the line; errors.errorType lies as the library lays it.
-/
import Derived.Test.YtckapndpefkcgaaDoorWordL10
set_option maxHeartbeats 1000000
namespace Go.Proofs.YtckapndpefkcgaaDoor
open Go.RowKit
set_option maxRecDepth 100000

theorem wo_len (s : ByteArray) : (wo s).2.length ≤ 3001 := by
  unfold wo
  by_cases h : 3000 < s.size
  · rw [if_pos h]; simp
  · rw [if_neg h]
    have h1 := nz_len (parts s); have h2 := (parts_len s).2
    show (wordsL s).length ≤ 3001
    unfold wordsL; omega
theorem own_words {w : World} {base : Nat} {v : Value} {l : List ByteArray} (h : w.ownsRow base 9 1 v l.length (sv l)) : ∃ A c, v = .slice A l.length c ∧ Mine w base w.heap.size 9 A l.length (fun k => .string (l.getD k ⟨#[]⟩)) := by
  obtain ⟨A, c, hv, _, _, hm⟩ := mine_of_own h
  refine ⟨A, c, hv, hm.congr fun k hk => ?_⟩
  unfold sv
  simp [List.getD_eq_getElem?_getD, List.getElem?_eq_getElem hk]

set_option maxHeartbeats 4000000 in
theorem walkWordsOf (s : ByteArray) (w : World) (hg : ETy w) (hs : s.size ≤ 9223372036854775807) : Calls Tryd.prog 5 #[.string s] w fun e w' => e = .returned (.bool true) ∧ Below w.heap.size w w' := by
  by_cases hbig : (1048576 : Int) < (s.size : Int)
  · go_enter Tryd.func5, Tryd.ntmps5
    go_wp2
    go_ret
    exact ⟨rfl, Below.refl _ _⟩
  have WL := Lib.hid (wo_len s)
  have SP : Hid (∀ w, Calls Tryd.prog 13 #[.string s] w fun e w' => ∃ A c, e = .returned (.agg #[.int .i64 (wo s).1, .slice A (wo s).2.length c]) ∧ Mine w' w.heap.size w'.heap.size 9 A (wo s).2.length (fun k => .string ((wo s).2.getD k ⟨#[]⟩)) ∧ Below w.heap.size w w') := fun w => (specWordsOf10 s hs w).mono fun e w' ⟨v, he, ho, hb⟩ => by
    obtain ⟨A, c, rfl, hm⟩ := own_words ho
    exact ⟨A, c, he, hm, hb⟩
  have IP : Hid (∀ w, ETy w → Calls Tryd.prog 14 #[.string s] w fun e w' => ∃ A c, e = .returned (.agg #[.int .i64 (wo s).1, .slice A (wo s).2.length c]) ∧ Mine w' w.heap.size w'.heap.size 9 A (wo s).2.length (fun k => .string ((wo s).2.getD k ⟨#[]⟩)) ∧ Below w.heap.size w w') := fun w hg => (implWordsOf10 s hs w hg).mono fun e w' ⟨v, he, ho, hb⟩ => by
    obtain ⟨A, c, rfl, hm⟩ := own_words ho
    exact ⟨A, c, he, hm, hb⟩
  generalize (wo s).1 = q at *
  generalize (wo s).2 = l at *
  have G := Lib.hid hg
  have hn0 : ¬ (1 + (l.length : Int) < 0) := by omega
  clear hg
  go_enter Tryd.func5, Tryd.ntmps5
  have B_w : Hid (Below w.heap.size w w) := Lib.hid (Below.refl _ _)
  go_wp2_with fail
  refine (SP.out _).mono ?_
  rintro e w1 ⟨A1, c1, rfl, hm, hb⟩
  have hz : w.heap.size ≤ w1.heap.size := hb.size
  have ZZ1 : Hid (w.heap.size ≤ w1.heap.size) := Lib.hid (by refine (?_ : _) ; first | omega | (have := hz; omega))
  clear hz
  have M1_w1 := Lib.hid hm
  have B_w1 := Lib.hid (B_w.out.trans (hb.mono (by have := ZZ1.out; omega)))
  clear B_w
  clear hm hb
  obtain ⟨w2, hw2⟩ : ∃ V, V = w1.alloc (.cells #[.int .i64 q, .slice A1 l.length c1] 38) := ⟨_, rfl⟩
  have hb : Below w1.heap.size w1 w2 := by rw [hw2]; exact below_new w1 _
  have hz : w2.heap.size = w1.heap.size + 1 := by rw [hw2]; simp
  have ZZ2 : Hid (w.heap.size ≤ w1.heap.size ∧ w2.heap.size = w1.heap.size + 1) := Lib.hid (by have := ZZ1.out; refine ⟨?_, ?_⟩ <;> first | omega | (have := hz; omega))
  clear ZZ1
  clear hz
  have X1_w2 : Hid (w2.heap[w1.heap.size]? = some (.cells #[.int .i64 q, .slice A1 l.length c1] 38 (0, 0))) := Lib.hid (by rw [hw2]; exact heap_alloc_new w1 _)
  have B_w2 := Lib.hid (B_w1.out.trans (hb.mono (by have := ZZ2.out; omega)))
  clear B_w1
  have M1_w2 := Lib.hid (M1_w1.out.below hb (by have := ZZ2.out; omega))
  clear M1_w1
  have HW_w2 := Lib.hid hw2
  clear hw2 hb
  go_upto_region 4 with (fail)
  rw [← HW_w2.out]
  clear HW_w2
  go_wp2_with fail
  refine (IP.out _ (ETy.below G.out B_w2.out)).mono ?_
  rintro e w3 ⟨A3, c3, rfl, hm, hb⟩
  have hz : w2.heap.size ≤ w3.heap.size := hb.size
  have ZZ3 : Hid (w.heap.size ≤ w1.heap.size ∧ w2.heap.size = w1.heap.size + 1 ∧ w2.heap.size ≤ w3.heap.size) := Lib.hid (by have := ZZ2.out; refine ⟨?_, ?_, ?_⟩ <;> first | omega | (have := hz; omega))
  clear ZZ2
  clear hz
  have M3_w3 := Lib.hid hm
  have B_w3 := Lib.hid (B_w2.out.trans (hb.mono (by have := ZZ3.out; omega)))
  clear B_w2
  have M1_w3 := Lib.hid (M1_w2.out.below hb (by have := ZZ3.out; omega))
  clear M1_w2
  have X1_w3 := Lib.hid ((hb.block _ (by have := ZZ3.out; omega)).trans X1_w2.out)
  clear X1_w2
  clear hm hb
  obtain ⟨w4, hw4⟩ : ∃ V, V = w3.alloc (.cells #[.int .i64 q, .slice A3 l.length c3] 38) := ⟨_, rfl⟩
  have hb : Below w3.heap.size w3 w4 := by rw [hw4]; exact below_new w3 _
  have hz : w4.heap.size = w3.heap.size + 1 := by rw [hw4]; simp
  have ZZ4 : Hid (w.heap.size ≤ w1.heap.size ∧ w2.heap.size = w1.heap.size + 1 ∧ w2.heap.size ≤ w3.heap.size ∧ w4.heap.size = w3.heap.size + 1) := Lib.hid (by have := ZZ3.out; refine ⟨?_, ?_, ?_, ?_⟩ <;> first | omega | (have := hz; omega))
  clear ZZ3
  clear hz
  have X3_w4 : Hid (w4.heap[w3.heap.size]? = some (.cells #[.int .i64 q, .slice A3 l.length c3] 38 (0, 0))) := Lib.hid (by rw [hw4]; exact heap_alloc_new w3 _)
  have B_w4 := Lib.hid (B_w3.out.trans (hb.mono (by have := ZZ4.out; omega)))
  clear B_w3
  have M1_w4 := Lib.hid (M1_w3.out.below hb (by have := ZZ4.out; omega))
  clear M1_w3
  have X1_w4 := Lib.hid ((hb.block _ (by have := ZZ4.out; omega)).trans X1_w3.out)
  clear X1_w3
  have M3_w4 := Lib.hid (M3_w3.out.below hb (by have := ZZ4.out; omega))
  clear M3_w3
  have HW_w4 := Lib.hid hw4
  clear hw4 hb
  go_upto_region 5 with (fail)
  rw [← HW_w4.out]
  clear HW_w4
  have y0 := cell_of_row w4 _ 0 _ _ _ X1_w4.out; have y1 := cell_of_row w4 _ 1 _ _ _ X1_w4.out
  simp at y0 y1
  have x0 := cell_of_row w4 _ 0 _ _ _ X3_w4.out; have x1 := cell_of_row w4 _ 1 _ _ _ X3_w4.out
  simp at x0 x1
  go_wp2_with fail
  refine (eqTextsResult_same _ _ _ _ A3 A1 l.length c3 c1 q (fun k => l.getD k ⟨#[]⟩) w4 (by have := WL.out; omega) M3_w4.out.sl M1_w4.out.sl).mono ?_
  rintro e w5 ⟨rfl, hb⟩
  have hz : w4.heap.size ≤ w5.heap.size := hb.size
  have ZZ5 : Hid (w.heap.size ≤ w1.heap.size ∧ w2.heap.size = w1.heap.size + 1 ∧ w2.heap.size ≤ w3.heap.size ∧ w4.heap.size = w3.heap.size + 1 ∧ w4.heap.size ≤ w5.heap.size) := Lib.hid (by have := ZZ4.out; refine ⟨?_, ?_, ?_, ?_, ?_⟩ <;> first | omega | (have := hz; omega))
  clear ZZ4
  clear hz
  clear y0 y1 x0 x1
  have B_w5 := Lib.hid (B_w4.out.trans (hb.mono (by have := ZZ5.out; omega)))
  clear B_w4
  have M1_w5 := Lib.hid (M1_w4.out.below hb (by have := ZZ5.out; omega))
  clear M1_w4
  have X1_w5 := Lib.hid ((hb.block _ (by have := ZZ5.out; omega)).trans X1_w4.out)
  clear X1_w4
  have M3_w5 := Lib.hid (M3_w4.out.below hb (by have := ZZ5.out; omega))
  clear M3_w4
  have X3_w5 := Lib.hid ((hb.block _ (by have := ZZ5.out; omega)).trans X3_w4.out)
  clear X3_w4
  clear hb
  go_upto_region 8 with (fail)
  have x0 := cell_of_row w5 _ 0 _ _ _ X3_w5.out; have x1 := cell_of_row w5 _ 1 _ _ _ X3_w5.out
  simp at x0 x1
  go_wp2_with fail
  refine (markTextsResult_any w2.heap.size w3.heap.size A3 l.length c3 q (fun k => .string (l.getD k ⟨#[]⟩)) 1 w5 (by have := WL.out; omega) (by decide) (Nat.le_refl _) (by have := ZZ5.out; omega) (fun k _ => ⟨_, rfl⟩) M3_w5.out (by have := ZZ5.out; omega)).mono ?_
  rintro e w6 ⟨rfl, hm, ho⟩
  have hz : w5.heap.size ≤ w6.heap.size := ho.1.size
  have ZZ6 : Hid (w.heap.size ≤ w1.heap.size ∧ w2.heap.size = w1.heap.size + 1 ∧ w2.heap.size ≤ w3.heap.size ∧ w4.heap.size = w3.heap.size + 1 ∧ w4.heap.size ≤ w5.heap.size ∧ w5.heap.size ≤ w6.heap.size) := Lib.hid (by have := ZZ5.out; refine ⟨?_, ?_, ?_, ?_, ?_, ?_⟩ <;> first | omega | (have := hz; omega))
  clear ZZ5
  clear hz x0 x1
  clear M3_w5
  have M3_w6 := Lib.hid hm
  have B_w6 := Lib.hid (B_w5.out.trans (ho.1.mono (by have := ZZ6.out; omega)))
  clear B_w5
  have M1_w6 := Lib.hid (M1_w5.out.only ho (by have := ZZ6.out; omega) (by have := ZZ6.out; omega))
  clear M1_w5
  have X1_w6 := Lib.hid ((ho.block (by have := ZZ6.out; omega) (by have := ZZ6.out; omega)).trans X1_w5.out)
  clear X1_w5
  have X3_w6 := Lib.hid ((ho.block (by have := ZZ6.out; omega) (by have := ZZ6.out; omega)).trans X3_w5.out)
  clear X3_w5
  clear hm ho
  go_upto_region 10 with (fail)
  have x0 := cell_of_row w6 _ 0 _ _ _ X3_w6.out; have x1 := cell_of_row w6 _ 1 _ _ _ X3_w6.out
  simp at x0 x1
  go_wp2_with fail
  refine (heldTextsResult_any _ _ A3 l.length c3 q 1 w6 (by have := WL.out; omega) (by decide) (Nat.le_refl _) M3_w6.out.sl).mono ?_
  rintro e w7 ⟨rfl, hb⟩
  have hz : w6.heap.size ≤ w7.heap.size := hb.size
  have ZZ7 : Hid (w.heap.size ≤ w1.heap.size ∧ w2.heap.size = w1.heap.size + 1 ∧ w2.heap.size ≤ w3.heap.size ∧ w4.heap.size = w3.heap.size + 1 ∧ w4.heap.size ≤ w5.heap.size ∧ w5.heap.size ≤ w6.heap.size ∧ w6.heap.size ≤ w7.heap.size) := Lib.hid (by have := ZZ6.out; refine ⟨?_, ?_, ?_, ?_, ?_, ?_, ?_⟩ <;> first | omega | (have := hz; omega))
  clear ZZ6
  clear hz
  clear x0 x1
  have B_w7 := Lib.hid (B_w6.out.trans (hb.mono (by have := ZZ7.out; omega)))
  clear B_w6
  have M1_w7 := Lib.hid (M1_w6.out.below hb (by have := ZZ7.out; omega))
  clear M1_w6
  have X1_w7 := Lib.hid ((hb.block _ (by have := ZZ7.out; omega)).trans X1_w6.out)
  clear X1_w6
  have M3_w7 := Lib.hid (M3_w6.out.below hb (by have := ZZ7.out; omega))
  clear M3_w6
  have X3_w7 := Lib.hid ((hb.block _ (by have := ZZ7.out; omega)).trans X3_w6.out)
  clear X3_w6
  clear hb
  go_wp2_with fail
  refine (IP.out _ (ETy.below G.out B_w7.out)).mono ?_
  rintro e w8 ⟨A7, c7, rfl, hm, hb⟩
  have hz : w7.heap.size ≤ w8.heap.size := hb.size
  have ZZ8 : Hid (w.heap.size ≤ w1.heap.size ∧ w2.heap.size = w1.heap.size + 1 ∧ w2.heap.size ≤ w3.heap.size ∧ w4.heap.size = w3.heap.size + 1 ∧ w4.heap.size ≤ w5.heap.size ∧ w5.heap.size ≤ w6.heap.size ∧ w6.heap.size ≤ w7.heap.size ∧ w7.heap.size ≤ w8.heap.size) := Lib.hid (by have := ZZ7.out; refine ⟨?_, ?_, ?_, ?_, ?_, ?_, ?_, ?_⟩ <;> first | omega | (have := hz; omega))
  clear ZZ7
  clear hz
  have M7_w8 := Lib.hid hm
  have B_w8 := Lib.hid (B_w7.out.trans (hb.mono (by have := ZZ8.out; omega)))
  clear B_w7
  have M1_w8 := Lib.hid (M1_w7.out.below hb (by have := ZZ8.out; omega))
  clear M1_w7
  have X1_w8 := Lib.hid ((hb.block _ (by have := ZZ8.out; omega)).trans X1_w7.out)
  clear X1_w7
  have M3_w8 := Lib.hid (M3_w7.out.below hb (by have := ZZ8.out; omega))
  clear M3_w7
  have X3_w8 := Lib.hid ((hb.block _ (by have := ZZ8.out; omega)).trans X3_w7.out)
  clear X3_w7
  clear hm hb
  obtain ⟨w9, hw9⟩ : ∃ V, V = w8.alloc (.cells #[.int .i64 q, .slice A7 l.length c7] 38) := ⟨_, rfl⟩
  have hb : Below w8.heap.size w8 w9 := by rw [hw9]; exact below_new w8 _
  have hz : w9.heap.size = w8.heap.size + 1 := by rw [hw9]; simp
  have ZZ9 : Hid (w.heap.size ≤ w1.heap.size ∧ w2.heap.size = w1.heap.size + 1 ∧ w2.heap.size ≤ w3.heap.size ∧ w4.heap.size = w3.heap.size + 1 ∧ w4.heap.size ≤ w5.heap.size ∧ w5.heap.size ≤ w6.heap.size ∧ w6.heap.size ≤ w7.heap.size ∧ w7.heap.size ≤ w8.heap.size ∧ w9.heap.size = w8.heap.size + 1) := Lib.hid (by have := ZZ8.out; refine ⟨?_, ?_, ?_, ?_, ?_, ?_, ?_, ?_, ?_⟩ <;> first | omega | (have := hz; omega))
  clear ZZ8
  clear hz
  have X7_w9 : Hid (w9.heap[w8.heap.size]? = some (.cells #[.int .i64 q, .slice A7 l.length c7] 38 (0, 0))) := Lib.hid (by rw [hw9]; exact heap_alloc_new w8 _)
  have B_w9 := Lib.hid (B_w8.out.trans (hb.mono (by have := ZZ9.out; omega)))
  clear B_w8
  have M1_w9 := Lib.hid (M1_w8.out.below hb (by have := ZZ9.out; omega))
  clear M1_w8
  have X1_w9 := Lib.hid ((hb.block _ (by have := ZZ9.out; omega)).trans X1_w8.out)
  clear X1_w8
  have M3_w9 := Lib.hid (M3_w8.out.below hb (by have := ZZ9.out; omega))
  clear M3_w8
  have X3_w9 := Lib.hid ((hb.block _ (by have := ZZ9.out; omega)).trans X3_w8.out)
  clear X3_w8
  have M7_w9 := Lib.hid (M7_w8.out.below hb (by have := ZZ9.out; omega))
  clear M7_w8
  have HW_w9 := Lib.hid hw9
  clear hw9 hb
  go_upto_region 16 with (fail)
  rw [← HW_w9.out]
  clear HW_w9
  have y0 := cell_of_row w9 _ 0 _ _ _ X1_w9.out; have y1 := cell_of_row w9 _ 1 _ _ _ X1_w9.out
  simp at y0 y1
  have x0 := cell_of_row w9 _ 0 _ _ _ X7_w9.out; have x1 := cell_of_row w9 _ 1 _ _ _ X7_w9.out
  simp at x0 x1
  go_wp2_with fail
  refine (eqTextsResult_same _ _ _ _ A7 A1 l.length c7 c1 q (fun k => l.getD k ⟨#[]⟩) w9 (by have := WL.out; omega) M7_w9.out.sl M1_w9.out.sl).mono ?_
  rintro e w10 ⟨rfl, hb⟩
  have hz : w9.heap.size ≤ w10.heap.size := hb.size
  have ZZ10 : Hid (w.heap.size ≤ w1.heap.size ∧ w2.heap.size = w1.heap.size + 1 ∧ w2.heap.size ≤ w3.heap.size ∧ w4.heap.size = w3.heap.size + 1 ∧ w4.heap.size ≤ w5.heap.size ∧ w5.heap.size ≤ w6.heap.size ∧ w6.heap.size ≤ w7.heap.size ∧ w7.heap.size ≤ w8.heap.size ∧ w9.heap.size = w8.heap.size + 1 ∧ w9.heap.size ≤ w10.heap.size) := Lib.hid (by have := ZZ9.out; refine ⟨?_, ?_, ?_, ?_, ?_, ?_, ?_, ?_, ?_, ?_⟩ <;> first | omega | (have := hz; omega))
  clear ZZ9
  clear hz
  clear y0 y1 x0 x1
  have B_w10 := Lib.hid (B_w9.out.trans (hb.mono (by have := ZZ10.out; omega)))
  clear B_w9
  have M1_w10 := Lib.hid (M1_w9.out.below hb (by have := ZZ10.out; omega))
  clear M1_w9
  have X1_w10 := Lib.hid ((hb.block _ (by have := ZZ10.out; omega)).trans X1_w9.out)
  clear X1_w9
  have M3_w10 := Lib.hid (M3_w9.out.below hb (by have := ZZ10.out; omega))
  clear M3_w9
  have X3_w10 := Lib.hid ((hb.block _ (by have := ZZ10.out; omega)).trans X3_w9.out)
  clear X3_w9
  have M7_w10 := Lib.hid (M7_w9.out.below hb (by have := ZZ10.out; omega))
  clear M7_w9
  have X7_w10 := Lib.hid ((hb.block _ (by have := ZZ10.out; omega)).trans X7_w9.out)
  clear X7_w9
  clear hb
  go_upto_region 19 with (fail)
  have x0 := cell_of_row w10 _ 0 _ _ _ X3_w10.out; have x1 := cell_of_row w10 _ 1 _ _ _ X3_w10.out
  simp at x0 x1
  go_wp2_with fail
  refine (heldTextsResult_any _ _ A3 l.length c3 q 1 w10 (by have := WL.out; omega) (by decide) (Nat.le_refl _) M3_w10.out.sl).mono ?_
  rintro e w11 ⟨rfl, hb⟩
  have hz : w10.heap.size ≤ w11.heap.size := hb.size
  have ZZ11 : Hid (w.heap.size ≤ w1.heap.size ∧ w2.heap.size = w1.heap.size + 1 ∧ w2.heap.size ≤ w3.heap.size ∧ w4.heap.size = w3.heap.size + 1 ∧ w4.heap.size ≤ w5.heap.size ∧ w5.heap.size ≤ w6.heap.size ∧ w6.heap.size ≤ w7.heap.size ∧ w7.heap.size ≤ w8.heap.size ∧ w9.heap.size = w8.heap.size + 1 ∧ w9.heap.size ≤ w10.heap.size ∧ w10.heap.size ≤ w11.heap.size) := Lib.hid (by have := ZZ10.out; refine ⟨?_, ?_, ?_, ?_, ?_, ?_, ?_, ?_, ?_, ?_, ?_⟩ <;> first | omega | (have := hz; omega))
  clear ZZ10
  clear hz
  clear x0 x1
  have B_w11 := Lib.hid (B_w10.out.trans (hb.mono (by have := ZZ11.out; omega)))
  clear B_w10
  have M1_w11 := Lib.hid (M1_w10.out.below hb (by have := ZZ11.out; omega))
  clear M1_w10
  have X1_w11 := Lib.hid ((hb.block _ (by have := ZZ11.out; omega)).trans X1_w10.out)
  clear X1_w10
  have M3_w11 := Lib.hid (M3_w10.out.below hb (by have := ZZ11.out; omega))
  clear M3_w10
  have X3_w11 := Lib.hid ((hb.block _ (by have := ZZ11.out; omega)).trans X3_w10.out)
  clear X3_w10
  have M7_w11 := Lib.hid (M7_w10.out.below hb (by have := ZZ11.out; omega))
  clear M7_w10
  have X7_w11 := Lib.hid ((hb.block _ (by have := ZZ11.out; omega)).trans X7_w10.out)
  clear X7_w10
  clear hb
  go_wp2
  go_ret
  exact ⟨rfl, B_w11.out⟩

end Go.Proofs.YtckapndpefkcgaaDoor
