/-
  The laws' helpers on answers of PicksOf: compare, mark, look again. No conditions beyond that the lists can be read.
-/
import Derived.Test.YtmjcipjennjopaaKit5
import Derived.Test.YtmjcipjennjopaaKit5b
import Derived.Test.YtmjcipjennjopaaOwn4
import Derived.Test.YtmjcipjennjopaaColl5
namespace Go.Proofs.Ytmjcipjennjopaa
open Go.RowKit
set_option maxRecDepth 100000

theorem or_mine5 {t : TypeId} {m : Nat} {w : World} {base u n c : Nat} {A : Option Addr} {hs : List Int} (h : OR t m w base A n c hs) :
    ∃ g, ((g = u ∧ n = 0) ∨ (base ≤ g ∧ g < w.heap.size ∧ 0 < n ∧ A = some ⟨g, 0, none⟩)) ∧ Mine w g (g + 1) t A (n * m) (fun k => .int .i64 (gi hs k)) := by
  rcases Nat.eq_zero_or_pos n with h0 | h0
  · exact ⟨u, .inl ⟨rfl, h0⟩, .inl (by rw [h0]; omega)⟩
  · obtain ⟨g, rfl, h1, h2⟩ := OR.pos h h0
    exact ⟨g, .inr ⟨h1, h2, h0, rfl⟩, .inr ⟨g, 0, rfl, Nat.le_refl _, Nat.lt_succ_self _, OR.row h⟩⟩
/-- two rows of two types: blocks; u and v stand in where a row is empty -/
theorem two_rows5 {w : World} {base u v n m c d : Nat} {A B : Option Addr} {hs ks : List Int} (h : OR 70 3 w base A n c hs) (k : OR 2 1 w base B m d ks) (hu : u < base) (hv : v < base) (huv : u ≠ v) :
    ∃ g g2, ((g = u ∧ n = 0) ∨ (base ≤ g ∧ g < w.heap.size)) ∧ ((g2 = v ∧ m = 0) ∨ (base ≤ g2 ∧ g2 < w.heap.size)) ∧ g ≠ g2 ∧ Mine w g (g + 1) 70 A (n * 3) (fun k => .int .i64 (gi hs k)) ∧ Mine w g2 (g2 + 1) 2 B m (fun j => .int .i64 (gi ks j)) := by
  obtain ⟨g, h1, h2⟩ := or_mine5 (u := u) h
  obtain ⟨g2, k1, k2⟩ := or_mine5 (u := v) k
  rw [Nat.mul_one] at k2
  refine ⟨g, g2, ?_, ?_, ?_, h2, k2⟩
  · rcases h1 with h | ⟨a, b, _⟩
    · exact .inl h
    · exact .inr ⟨a, b⟩
  · rcases k1 with h | ⟨a, b, _⟩
    · exact .inl h
    · exact .inr ⟨a, b⟩
  · rcases h1 with ⟨h, _⟩ | ⟨a, b, _, e⟩
    · rcases k1 with ⟨k, _⟩ | ⟨a', b', _, e'⟩ <;> omega
    · rcases k1 with ⟨k, _⟩ | ⟨a', b', _, e'⟩
      · omega
      · rintro rfl
        subst e
        subst e'
        obtain ⟨c1, r1, _⟩ := OR.row h
        obtain ⟨c2, r2, _⟩ := OR.row k
        rw [r1] at r2
        injection r2 with r2
        injection r2 with _ r2 _
        exact absurd r2 (by decide)
set_option maxHeartbeats 1000000 in
theorem eqPR_own (A A' I I' : Option Addr) (n m c c' d d' : Nat) (q b : Int) (hs ks : List Int) (w : World) (hn : n ≤ 1048576) (hm : m ≤ 1048576)
    (h : Sl w 0 w.heap.size A (n * 3) (fun k => .int .i64 (gi hs k))) (h' : Sl w 0 w.heap.size A' (n * 3) (fun k => .int .i64 (gi hs k)))
    (k : Sl w 0 w.heap.size I m (fun k => .int .i64 (gi ks k))) (k' : Sl w 0 w.heap.size I' m (fun k => .int .i64 (gi ks k))) :
    Calls Try.prog 34 #[.agg #[.int .i64 q, .slice I m d, .int .i64 b, .slice A n c], .agg #[.int .i64 q, .slice I' m d', .int .i64 b, .slice A' n c']] w fun e w' => e = .returned (.bool true) ∧ Below w.heap.size w w' := by
  have H := Lib.hid h
  have H' := Lib.hid h'
  have K := Lib.hid k
  have K' := Lib.hid k'
  clear h h' k k'
  obtain ⟨w2, hw2⟩ : ∃ w2, w2 = (w.alloc (.cells #[.int .i64 q, .slice I m d, .int .i64 b, .slice A n c] 45)).alloc (.cells #[.int .i64 q, .slice I' m d', .int .i64 b, .slice A' n c'] 45) := ⟨_, rfl⟩
  have B2 : Hid (Below w.heap.size w w2) := by rw [hw2]; exact (below_new w _).alloc (by simp) _
  have X0 : Hid (w2.heap[w.heap.size]? = some (.cells #[.int .i64 q, .slice I m d, .int .i64 b, .slice A n c] 45 (0, 0))) := by
    show _ = _; rw [hw2]; exact (Below.heap_alloc _ _ _ (by simp)).trans (heap_alloc_new w _)
  have X1 : Hid (w2.heap[w.heap.size + 1]? = some (.cells #[.int .i64 q, .slice I' m d', .int .i64 b, .slice A' n c'] 45 (0, 0))) := by
    show _ = _; rw [hw2]; exact heap_alloc2_new w _ _
  have Z2 : Hid (w2.heap.size = w.heap.size + 2) := by show _ = _; rw [hw2]; simp
  go_enter Try.func34, Try.ntmps34
  go_upto_region 1 with (fail)
  rw [← hw2]
  clear hw2
  have a0 := cell_of_row w2 _ 0 _ _ _ X0.out; have a1 := cell_of_row w2 _ 1 _ _ _ X0.out
  have e0 := cell_of_row w2 _ 0 _ _ _ X1.out; have e1 := cell_of_row w2 _ 1 _ _ _ X1.out
  simp at a0 a1 e0 e1
  go_wp2_with fail
  refine (eqInt64S_same 0 w.heap.size 0 w.heap.size I I' m d d' (gi ks) _ (by omega) (K.out.below B2.out (Nat.le_refl _)) (K'.out.below B2.out (Nat.le_refl _))).mono ?_
  rintro e w3 ⟨rfl, hb⟩
  have B3 := Lib.hid (B2.out.trans (hb.mono B2.out.size))
  have X03 := Lib.hid ((hb.block w.heap.size (by have := Z2.out; omega)).trans X0.out)
  have X13 := Lib.hid ((hb.block (w.heap.size + 1) (by have := Z2.out; omega)).trans X1.out)
  clear a0 a1 e0 e1 hb
  have a2 := cell_of_row w3 _ 2 _ _ _ X03.out; have a3 := cell_of_row w3 _ 3 _ _ _ X03.out
  have e2 := cell_of_row w3 _ 2 _ _ _ X13.out; have e3 := cell_of_row w3 _ 3 _ _ _ X13.out
  simp at a2 a3 e2 e3
  go_wp2_with fail
  refine (eqSched_same 0 w.heap.size 0 w.heap.size A A' n c c' b (gi hs) _ (by omega) (H.out.below B3.out (Nat.le_refl _)) (H'.out.below B3.out (Nat.le_refl _))).mono ?_
  rintro e w4 ⟨rfl, hb⟩
  have B4 := Lib.hid (B3.out.trans (hb.mono B3.out.size))
  clear hb a2 a3 e2 e3
  go_wp2
  go_ret
  exact ⟨rfl, B4.out⟩
set_option maxHeartbeats 1000000 in
/-- mark: the schedule's row g, the ids' row g2 -/
theorem markPR_own (g g2 : Nat) (A I : Option Addr) (n m c d : Nat) (q b : Int) (hs ks : List Int) (w : World) (hn : n ≤ 1048576) (hm : m ≤ 1048576)
    (h : Mine w g (g + 1) 70 A (n * 3) (fun k => .int .i64 (gi hs k))) (hg : g < w.heap.size) (k : Mine w g2 (g2 + 1) 2 I m (fun k => .int .i64 (gi ks k))) (hg2 : g2 < w.heap.size) (hne : g ≠ g2) :
    Calls Try.prog 37 #[.agg #[.int .i64 q, .slice I m d, .int .i64 b, .slice A n c], .int .i64 1] w fun e w' => e = .returned (.int .i64 ((1 + m + n * 3 : Nat) : Int)) ∧ Mine w' g2 (g2 + 1) 2 I m (fun k => .int .i64 ((1 + k : Nat) : Int)) ∧ Mine w' g (g + 1) 70 A (n * 3) (fun k => .int .i64 ((1 + m + k : Nat) : Int)) ∧ Kept [g, g2] w w' := by
  have H := Lib.hid h
  have K := Lib.hid k
  clear h k
  obtain ⟨w1, hw1⟩ : ∃ w1, w1 = w.alloc (.cells #[.int .i64 q, .slice I m d, .int .i64 b, .slice A n c] 45) := ⟨_, rfl⟩
  have B1 : Hid (Below w.heap.size w w1) := by rw [hw1]; exact below_new w _
  have Z1 : Hid (w1.heap.size = w.heap.size + 1) := by show _ = _; rw [hw1]; simp
  have X0 : Hid (w1.heap[w.heap.size]? = some (.cells #[.int .i64 q, .slice I m d, .int .i64 b, .slice A n c] 45 (0, 0))) := by show _ = _; rw [hw1]; exact heap_alloc_new w _
  go_enter Try.func37, Try.ntmps37
  go_upto_region 1 with (fail)
  rw [← hw1]
  clear hw1
  have a1 := cell_of_row w1 _ 1 _ _ _ X0.out
  simp at a1
  go_wp2_with fail
  refine (markInt64S_any g2 (g2 + 1) I m d _ 1 _ (by omega) (by omega) (fun k _ => ⟨_, rfl⟩) (K.out.below B1.out hg2)).mono ?_
  rintro e w2 ⟨rfl, hmine, hb0⟩
  have hb := Kept.of_only5 hb0
  have HB := Lib.hid (Kept.pre_below5 B1.out hb)
  have HM := Lib.hid hmine
  have HK : Hid (Mine w2 g (g + 1) 70 A (n * 3) (fun k => .int .i64 (gi hs k))) := (H.out.below B1.out hg).kept hb (by simp; omega)
  have X2 := Lib.hid ((hb.2 w.heap.size (by have := Z1.out; omega) (by simp; omega)).trans X0.out)
  have Z2 : Hid (w1.heap.size ≤ w2.heap.size) := hb.1.size
  clear hb hb0 hmine a1
  have a2 := cell_of_row w2 _ 2 _ _ _ X2.out; have a3 := cell_of_row w2 _ 3 _ _ _ X2.out
  simp at a2 a3
  obtain ⟨tot, ht⟩ : ∃ tot : Nat, tot = 1 + m := ⟨_, rfl⟩
  rw [← ht]
  have HT := Lib.hid ht
  clear ht
  go_wp2_with fail
  refine (markSched_any g A n c tot b (gi hs) _ hn (by have := HT.out; omega) HK.out (by have := Z1.out; have := Z2.out; omega)).mono ?_
  rintro e w3 ⟨rfl, hmine, hb⟩
  have HB3 := Lib.hid ((HB.out.mono (gs' := [g, g2]) (fun b hb _ => by simp at hb; simp [hb])).trans' hb (fun x hx _ => by simp at hx; simp [hx]))
  have HM2 := Lib.hid hmine
  have HM3 : Hid (Mine w3 g2 (g2 + 1) 2 I m (fun k => .int .i64 ((1 + k : Nat) : Int))) := HM.out.kept hb (by simpa using hne.symm)
  clear hb hmine
  obtain ⟨tot2, ht2⟩ : ∃ tot2 : Nat, tot2 = tot + n * 3 := ⟨_, rfl⟩
  rw [← ht2]
  have HT2 := Lib.hid ht2
  clear ht2
  go_wp2
  go_ret
  have hh : tot = 1 + m := HT.out
  subst hh
  exact ⟨by rw [HT2.out]; rfl, HM3.out, HM2.out, HB3.out⟩
set_option maxHeartbeats 1000000 in
theorem heldPR_own (g : Nat) (A I : Option Addr) (n m c d : Nat) (q b : Int) (w : World) (hn : n ≤ 1048576) (hm : m ≤ 1048576)
    (h : Mine w g (g + 1) 70 A (n * 3) (fun k => .int .i64 ((1 + m + k : Nat) : Int))) (hg : g < w.heap.size) (k : Sl w 0 w.heap.size I m (fun k => .int .i64 ((1 + k : Nat) : Int))) :
    Calls Try.prog 38 #[.agg #[.int .i64 q, .slice I m d, .int .i64 b, .slice A n c], .int .i64 1] w fun e w' => e = .returned (.int .i64 ((1 + m + n * 3 : Nat) : Int)) ∧ Below w.heap.size w w' := by
  have H := Lib.hid h
  have K := Lib.hid k
  clear h k
  obtain ⟨w1, hw1⟩ : ∃ w1, w1 = w.alloc (.cells #[.int .i64 q, .slice I m d, .int .i64 b, .slice A n c] 45) := ⟨_, rfl⟩
  have B1 : Hid (Below w.heap.size w w1) := by rw [hw1]; exact below_new w _
  have Z1 : Hid (w1.heap.size = w.heap.size + 1) := by show _ = _; rw [hw1]; simp
  have X0 : Hid (w1.heap[w.heap.size]? = some (.cells #[.int .i64 q, .slice I m d, .int .i64 b, .slice A n c] 45 (0, 0))) := by show _ = _; rw [hw1]; exact heap_alloc_new w _
  go_enter Try.func38, Try.ntmps38
  go_upto_region 1 with (fail)
  rw [← hw1]
  clear hw1
  have a1 := cell_of_row w1 _ 1 _ _ _ X0.out
  simp at a1
  go_wp2_with fail
  refine (heldInt64S_any 0 w.heap.size I m d 1 _ (by omega) (by omega) (K.out.below B1.out (Nat.le_refl _))).mono ?_
  rintro e w2 ⟨rfl, hb⟩
  have HB := Lib.hid (B1.out.trans (hb.mono B1.out.size))
  have X2 := Lib.hid ((hb.block w.heap.size (by have := Z1.out; omega)).trans X0.out)
  have Z2 := Lib.hid hb.size
  clear hb a1
  have a2 := cell_of_row w2 _ 2 _ _ _ X2.out; have a3 := cell_of_row w2 _ 3 _ _ _ X2.out
  simp at a2 a3
  obtain ⟨tot, ht⟩ : ∃ tot : Nat, tot = 1 + m := ⟨_, rfl⟩
  have K2 : Hid (Mine w2 g (g + 1) 70 A (n * 3) (fun k => .int .i64 ((tot + k : Nat) : Int))) := by rw [ht]; exact H.out.below HB.out hg
  rw [← ht]
  have t0 : ¬ ((tot : Nat) : Int) < 0 := by omega
  have HT := Lib.hid ht
  clear ht
  go_wp2_with fail
  refine (heldSched_any g A n c tot b _ hn (by have := HT.out; omega) K2.out (by have := Z1.out; have := Z2.out; omega)).mono ?_
  rintro e w3 ⟨rfl, hb⟩
  have HB3 := Lib.hid (HB.out.trans (hb.mono HB.out.size))
  clear hb
  obtain ⟨tot2, ht2⟩ : ∃ tot2 : Nat, tot2 = tot + n * 3 := ⟨_, rfl⟩
  rw [← ht2]
  have t2 : ¬ ((tot2 : Nat) : Int) < 0 := by omega
  have HT2 := Lib.hid ht2
  clear ht2
  go_wp2
  go_ret
  have hh : tot = 1 + m := HT.out
  subst hh
  exact ⟨by rw [HT2.out]; rfl, HB3.out⟩

end Go.Proofs.Ytmjcipjennjopaa
