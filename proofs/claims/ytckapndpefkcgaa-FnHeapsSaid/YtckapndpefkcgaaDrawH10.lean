/-
  What the draws of heaps answer: an entry, a heap, one that was perhaps bent. For codes of at most 2^20 bytes.
-/
import Derived.Test.YtckapndpefkcgaaPick
import Derived.Test.YtckapndpefkcgaaSpec4c
set_option maxHeartbeats 1000000
namespace Go.Proofs.Ytckapndpefkcgaa
open Go.RowKit
set_option maxRecDepth 100000

def EntD (g : Nat) (A : Option Addr) (k c a : Nat) (w : World) (e : Ending) (w' : World) : Prop :=
  ∃ p d : Int, e = .returned (.agg #[.int .i64 p, .int .i64 d]) ∧ Src w' g A k c (a + 3) ∧ Only g (g + 1) w w'
structure EH (w W : World) (g : Nat) (A : Option Addr) (k c a : Nat) (B : Option Addr) (n c' : Nat) (xs : List Int) : Prop where
  ow : OR 26 2 W w.heap.size B n c' xs
  sr : Src W g A k c a
  on : Only g (g + 1) w W
  gw : g < w.heap.size
theorem EH.step {w W W' : World} {g k c a a' n c' : Nat} {A B : Option Addr} {xs : List Int} (h : EH w W g A k c a B n c' xs) (hs : Src W' g A k c a') (ho : Only g (g + 1) W W') : EH w W' g A k c a' B n c' xs :=
  ⟨h.ow.keepAll fun b e => by
    subst e
    have hl := h.ow.lt
    exact ho.2 b (by have := h.gw; omega) hl.2, hs, h.on.trans ho, h.gw⟩
theorem EH.new {w W : World} {g k c a n c' : Nat} {A B : Option Addr} {xs : List Int} (h : EH w W g A k c a B n c' xs) (o : Obj) : EH w (W.alloc o) g A k c a B n c' xs :=
  ⟨h.ow.alloc o, h.sr.alloc o, h.on.alloc (Nat.le_of_lt h.gw) o, h.gw⟩
theorem EH.set {w W : World} {g k c a n c' gB : Nat} {A : Option Addr} {xs : List Int} (h : EH w W g A k c a (some ⟨gB, 0, none⟩) n c' xs) (j : Nat) (v : Int) : EH w (W.setCell ⟨gB, j, none⟩ (.int .i64 v)) g A k c a (some ⟨gB, 0, none⟩) n c' (xs.set j v) := by
  have l := h.ow.lt
  have gw := h.gw
  exact ⟨h.ow.set j v, (Below.heap_setCell W ⟨gB, j, none⟩ _ g (by simp; omega)).trans h.sr, ⟨h.on.1.setCell (p := ⟨gB, j, none⟩) (by simp; omega) _, fun q h1 h2 => (Below.heap_setCell W ⟨gB, j, none⟩ _ q (by simp; omega)).trans (h.on.2 q h1 h2)⟩, gw⟩
def HpD (m g : Nat) (A : Option Addr) (k c a : Nat) (w : World) (e : Ending) (w' : World) : Prop :=
  ∃ (B : Option Addr) (n c' : Nat) (xs : List Int) (a' : Nat), e = .returned (.slice B n c') ∧ n ≤ 13 ∧ a' ≤ a + m ∧ EH w w' g A k c a' B n c' xs

set_option maxHeartbeats 4000000 in
theorem l4DrawEntry_any (lo hi g : Nat) (A : Option Addr) (k c a : Nat) (b : Nat → Int) (w : World) (hk : k ≤ 1048576) (ha : a ≤ 3000000) (hb : ∀ j, 0 ≤ b j ∧ b j ≤ 255) (h : Sl w lo hi A k (fun j => .int .u8 (b j))) (hg : hi ≤ g) (hs : Src w g A k c a) :
    Calls Try.prog 54 #[.pointer (some ⟨g, 0, none⟩)] w (EntD g A k c a w) := by
  have hgw := hs.lt
  have H := Lib.hid h
  have HBY := Lib.hid hb
  have CD : Hid (∀ W, Only g (g + 1) w W → Sl W lo (min hi w.heap.size) A k (fun j => .int .u8 (b j))) := fun W hW => H.out.lt.only hW (by omega) (.inl (by omega))
  obtain ⟨w1, hw1⟩ : ∃ w1, w1 = w.alloc (.cells #[.int .i64 0, .int .i64 0] 26) := ⟨_, rfl⟩
  have K1 : Hid (w1.heap[w.heap.size]? = some (.cells #[.int .i64 0, .int .i64 0] 26 (0, 0))) := by show _ = _; rw [hw1]; exact heap_alloc_new w _
  have O1 : Hid (Only g (g + 1) w w1) := by rw [hw1]; exact (Only.refl _ _ _).alloc (by omega) _
  have S1 : Hid (Src w1 g A k c a) := by rw [hw1]; exact hs.alloc _
  have z1 : w1.heap.size = w.heap.size + 1 := by rw [hw1]; simp
  have HW1 := Lib.hid hw1
  clear h hb hs hw1
  go_enter Try.func54, Try.ntmps54
  go_upto_region 1 with (fail)
  rw [← HW1.out]
  clear HW1
  have CN := Lib.hid (l1Next_any lo (min hi w.heap.size) g A k c (a) 50 b w1 (by omega) hk (by omega) HBY.out (CD.out w1 O1.out) (by omega) S1.out)
  go_wp2_with fail
  refine CN.out.mono ?_
  rintro e w2 ⟨r, rfl, hr, _, hs, ho⟩
  clear CN
  have O2 := Lib.hid (O1.out.trans ho)
  have S2 := Lib.hid hs
  have K2 := Lib.hid ((ho.2 w.heap.size (by omega) (by omega)).trans K1.out)
  have z2 := ho.1.size
  clear hs ho O1 S1 K1 hr
  have CP := Lib.hid (pick_lit lo (min hi w.heap.size) g A k c (a + 1) 7 2 #[.int .i64 0, .int .i64 5, .int .i64 5, .int .i64 7, .int .i64 100, .int .i64 100000000, .int .i64 (r : Int)] b [0, 5, 5, 7, 100, 100000000, (r : Int)] w2 hk (by omega) HBY.out (CD.out w2 O2.out) (by omega) S2.out rfl (by omega) (by omega) (fun q hq => by rcases (show q = 0 ∨ q = 1 ∨ q = 2 ∨ q = 3 ∨ q = 4 ∨ q = 5 ∨ q = 6 by omega) with rfl | rfl | rfl | rfl | rfl | rfl | rfl <;> rfl))
  go_wp2_with fail
  refine CP.out.mono ?_
  rintro e w3 ⟨r9, hr9, rfl, hs, ho, hz9⟩
  generalize gi [0, 5, 5, 7, 100, 100000000, (r : Int)] r9 = p at *
  clear hr9 CP hz9
  have O3 := Lib.hid (O2.out.trans ho)
  have S3 := Lib.hid hs
  have K3 := Lib.hid ((ho.2 w.heap.size (by omega) (by omega)).trans K2.out)
  have z3 := ho.1.size
  clear hs ho O2 S2 K2
  have CN := Lib.hid (l1Next_any lo (min hi w.heap.size) g A k c (a + 1 + 1) 14 b w3 (by omega) hk (by omega) HBY.out (CD.out w3 O3.out) (by omega) S3.out)
  go_wp2_with fail
  refine CN.out.mono ?_
  rintro e w4 ⟨d, rfl, hd, _, hs, ho⟩
  clear CN
  have O4 := Lib.hid (O3.out.trans ho)
  have S4 := Lib.hid hs
  have K4 := Lib.hid ((ho.2 w.heap.size (by omega) (by omega)).trans K3.out)
  clear hs ho O3 S3 K3 hd
  have r0 := cell_of_row w4 _ 0 _ _ _ K4.out; have r1 := cell_of_row w4 _ 1 _ _ _ K4.out
  have f0 := frozen_of_row w4 _ 0 _ _ K4.out; have f1 := frozen_of_row w4 _ 1 _ _ K4.out
  simp at r0 r1
  go_wp2
  refine bodyPost_ret (results_cell_row rfl _ _ w.heap.size _ _ (0, 0) _ rfl (heap_setCell_same _ _ 1 _ _ _ (heap_setCell_same _ _ 0 _ _ _ K4.out)) Try.underlying26 rfl (by kernel_rfl)) rfl ?_
  refine ⟨p, (d : Int), rfl, ?_, ?_⟩
  · exact (Below.heap_setCell _ ⟨w.heap.size, 1, none⟩ _ g (by simp; omega)).trans ((Below.heap_setCell _ ⟨w.heap.size, 0, none⟩ _ g (by simp; omega)).trans S4.out)
  · refine ⟨(O4.out.1.setCell (p := ⟨w.heap.size, 0, none⟩) (by simp; omega) _).setCell (p := ⟨w.heap.size, 1, none⟩) (by simp; omega) _, fun q h1 h2 => ?_⟩
    exact (Below.heap_setCell _ ⟨w.heap.size, 1, none⟩ _ q (by simp; omega)).trans ((Below.heap_setCell _ ⟨w.heap.size, 0, none⟩ _ q (by simp; omega)).trans (O4.out.2 q h1 h2))

set_option maxHeartbeats 8000000 in
theorem l4Draw_any (lo hi g : Nat) (A : Option Addr) (k c a : Nat) (b : Nat → Int) (w : World) (hk : k ≤ 1048576) (ha : a ≤ 2000000) (hb : ∀ j, 0 ≤ b j ∧ b j ≤ 255) (h : Sl w lo hi A k (fun j => .int .u8 (b j))) (hg : hi ≤ g) (hs : Src w g A k c a) :
    Calls Try.prog 99 #[.pointer (some ⟨g, 0, none⟩)] w (HpD 40 g A k c a w) := by
  have hgw := hs.lt
  have H := Lib.hid h
  have HBY := Lib.hid hb
  have CD : Hid (∀ W, Only g (g + 1) w W → Sl W lo (min hi w.heap.size) A k (fun j => .int .u8 (b j))) := fun W hW => H.out.lt.only hW (by omega) (.inl (by omega))
  obtain ⟨w1, hw1⟩ : ∃ w1, w1 = w.alloc (.cells #[] 26) := ⟨_, rfl⟩
  obtain ⟨B0, hB0⟩ : ∃ B0 : Option Addr, B0 = some ⟨w.heap.size, 0, none⟩ := ⟨_, rfl⟩
  have J1 : Hid (EH w w1 g A k c a B0 0 0 []) := by
    rw [hw1, hB0]
    exact ⟨OR.empty w (Nat.le_refl _), hs.alloc _, (Only.refl _ _ _).alloc (by omega) _, hgw⟩
  have HW1 := Lib.hid hw1
  have HB0 := Lib.hid hB0
  clear h hb hs hw1 hB0
  go_enter Try.func99, Try.ntmps99
  go_upto_region 2 with (fail)
  rw [← HW1.out, ← HB0.out]
  clear HW1 HB0
  have CN := Lib.hid (l1Next_any lo (min hi w.heap.size) g A k c (a) 13 b w1 (by omega) hk (by omega) HBY.out (CD.out w1 J1.out.on) (by omega) J1.out.sr)
  go_wp2_with fail
  refine CN.out.mono ?_
  rintro e w2 ⟨N, rfl, hN, _, hs, ho⟩
  clear CN
  have J2 := Lib.hid (J1.out.step hs ho)
  have hN12 : N ≤ 12 := by have := hN (by omega); omega
  clear hs ho hN J1
  go_wp2_with fail
  go_loopw [3, 4] (fun x y wr => ∃ (n' c' : Nat) (B : Option Addr) (xs : List Int) (m a' : Nat), x = .slice B n' c' ∧ y = .int .i64 (m : Int) ∧ m ≤ 12 ∧ n' ≤ 12 ∧ a' + 3 * m ≤ a + 40 ∧ EH w wr g A k c a' B n' c' xs) (fun _ y _ => (intOf y).toNat)
  case atStart => exact ⟨0, 0, B0, [], N, a + 1, rfl, rfl, hN12, by omega, by omega, J2.out⟩
  case round =>
    obtain ⟨n', c', B, xs, m, a', rfl, rfl, hm, hn', ha', hJ⟩ := hrel
    have J := Lib.hid hJ
    clear hJ J2
    by_cases hlt : 0 < m
    · have h3 : (0 : Int) < (m : Int) := by omega
      have CE := Lib.hid (l4DrawEntry_any lo (min hi w.heap.size) g A k c a' b wr hk (by omega) HBY.out (CD.out wr J.out.on) (by omega) J.out.sr)
      go_wp2_with fail
      refine CE.out.mono ?_
      rintro e w5 ⟨p, d, rfl, hs, ho⟩
      have J5 := Lib.hid (J.out.step hs ho)
      clear hs ho CE J
      obtain ⟨w6, hw6⟩ : ∃ V, V = w5.alloc (.cells #[.int .i64 p, .int .i64 d] 26) := ⟨_, rfl⟩
      obtain ⟨be, hbe⟩ : ∃ b, b = w5.heap.size := ⟨_, rfl⟩
      have K6 : Hid (w6.heap[be]? = some (.cells #[.int .i64 p, .int .i64 d] 26 (0, 0))) := by show _ = _; rw [hw6, hbe]; exact heap_alloc_new w5 _
      have J6 : Hid (EH w w6 g A k c (a' + 3) B n' c' xs) := by rw [hw6]; exact J5.out.new _
      have HW6 := Lib.hid hw6; have HBE := Lib.hid hbe
      clear hw6 hbe J5
      go_upto_region 6 with (fail)
      rw [← HW6.out, ← HBE.out]
      clear HW6 HBE
      have t0 := cell_of_row w6 _ 0 _ _ _ K6.out; have t1 := cell_of_row w6 _ 1 _ _ _ K6.out
      simp at t0 t1
      have CF := Lib.hid (l4Find_any w.heap.size w6.heap.size B n' c' xs d w6 (by omega) (OR.sl0 J6.out.ow))
      go_wp2_with fail
      refine CF.out.mono ?_
      rintro e w7 ⟨r, _, rfl, rfl⟩
      clear CF
      by_cases hr : r < 0 ∧ n' < 12
      · have y1 : decide (r < 0) = true := decide_eq_true hr.1
        have y2 : decide ((n' : Int) < 12) = true := decide_eq_true (by omega)
        have hr1 := hr.1
        have hn12 : (n' : Int) < 12 := by omega
        have CP := Lib.hid (l4Push_any B n' c' xs p d w.heap.size w6 (by omega) J6.out.on.1.size J6.out.ow)
        go_wp2_with fail
        refine CP.out.mono ?_
        rintro e w8 ⟨B', c8, rfl, hor, hbl⟩
        have J8 : Hid (EH w w8 g A k c (a' + 3) B' (n' + 1) c8 (push4 xs n' p d)) := by
          have gw := J6.out.gw
          exact ⟨hor, (hbl.block g gw).trans J6.out.sr, ⟨J6.out.on.1.trans (hbl.mono (by omega)), fun q h1 h2 => (hbl.block q h2).trans (J6.out.on.2 q h1 h2)⟩, gw⟩
        clear hor hbl CP J6
        go_wp2
        go_roundw
        case rel => exact ⟨n' + 1, c8, B', _, m - 1, a' + 3, rfl, by congr 1; omega, by omega, by omega, by omega, J8.out⟩
        case measure => simp [intOf]; omega
      · rcases Classical.em (r < 0) with h1 | h1
        · have y1 : decide (r < 0) = true := decide_eq_true h1
          have hn12 : ¬ ((n' : Int) < 12) := by omega
          have y2 : decide ((n' : Int) < 12) = false := decide_eq_false hn12
          go_wp2
          go_roundw
          case rel => exact ⟨n', c', B, xs, m - 1, a' + 3, rfl, by congr 1; omega, by omega, by omega, by omega, J6.out⟩
          case measure => simp [intOf]; omega
        · have y1 : decide (r < 0) = false := decide_eq_false h1
          go_wp2
          go_roundw
          case rel => exact ⟨n', c', B, xs, m - 1, a' + 3, rfl, by congr 1; omega, by omega, by omega, by omega, J6.out⟩
          case measure => simp [intOf]; omega
    · have h3 : ¬ ((0 : Int) < (m : Int)) := by omega
      go_wp2
      go_ret
      exact ⟨B, n', c', xs, a', rfl, by omega, by omega, J.out⟩

theorem made_take10 (n : Nat) : (madeCells (Value.agg #[.int .i64 0, .int .i64 0]).cells n).toList.take n = vals (List.replicate n 0) := by
  have hz : (Value.agg #[.int .i64 0, .int .i64 0]).cells = #[.int .i64 0, .int .i64 0] := rfl
  rw [hz]
  apply List.ext_getElem
  · simp [madeCells, vals]
  · intro i h1 h2
    simp only [List.getElem_take, madeCells, vals, Array.getElem_toList, Array.getElem_map, Array.getElem_range, List.getElem_map, List.getElem_replicate]
    have hs : (#[.int .i64 0, .int .i64 0] : Array Value).size = 2 := rfl
    rw [hs]
    rcases (show i % 2 = 0 ∨ i % 2 = 1 by omega) with h | h <;> rw [h] <;> rfl
theorem or_made10_12 (W : World) {base : Nat} (hb : base ≤ W.heap.size) : OR 26 2 (W.alloc (.cells (madeCells (Value.agg #[.int .i64 0, .int .i64 0]).cells 24) 26)) base (some ⟨W.heap.size, 0, none⟩) 12 12 (List.replicate 24 0) :=
  ⟨by simp [vals], .inr ⟨W.heap.size, 12, _, rfl, hb, heap_alloc_new _ _, Nat.le_refl _, by simp [maxLen], size_madeCells _ _, made_take10 24⟩⟩
theorem or_made10_13 (W : World) {base : Nat} (hb : base ≤ W.heap.size) : OR 26 2 (W.alloc (.cells (madeCells (Value.agg #[.int .i64 0, .int .i64 0]).cells 26) 26)) base (some ⟨W.heap.size, 0, none⟩) 13 13 (List.replicate 26 0) :=
  ⟨by simp [vals], .inr ⟨W.heap.size, 13, _, rfl, hb, heap_alloc_new _ _, Nat.le_refl _, by simp [maxLen], size_madeCells _ _, made_take10 26⟩⟩

set_option maxHeartbeats 8000000 in
theorem l4Bent_any (lo hi g : Nat) (A : Option Addr) (k c a : Nat) (b : Nat → Int) (w : World) (hk : k ≤ 1048576) (ha : a ≤ 1000000) (hb : ∀ j, 0 ≤ b j ∧ b j ≤ 255) (h : Sl w lo hi A k (fun j => .int .u8 (b j))) (hg : hi ≤ g) (hs : Src w g A k c a) :
    Calls Try.prog 53 #[.pointer (some ⟨g, 0, none⟩)] w (HpD 50 g A k c a w) := by
  have hgw := hs.lt
  have H := Lib.hid h
  have HBY := Lib.hid hb
  have CD : Hid (∀ W, Only g (g + 1) w W → Sl W lo (min hi w.heap.size) A k (fun j => .int .u8 (b j))) := fun W hW => H.out.lt.only hW (by omega) (.inl (by omega))
  have C1 := Lib.hid (l4Draw_any lo hi g A k c a b w hk (by omega) hb h hg hs)
  clear h hb hs
  go_enter Try.func53, Try.ntmps53
  go_wp2_with fail
  refine C1.out.mono ?_
  rintro e w1 ⟨B, n, c', xs, a2, rfl, hn, ha2, hJ⟩
  have J1 := Lib.hid hJ
  clear hJ C1
  by_cases hn0 : n = 0
  · subst hn0
    go_wp2
    go_ret
    exact ⟨B, 0, c', _, a2, rfl, by omega, by omega, J1.out⟩
  have hnI : ((n : Int) == 0) = false := by simp; omega
  obtain ⟨gB, rfl, hgB⟩ := J1.out.ow.pos (by omega)
  have CN := Lib.hid (l1Next_any lo (min hi w.heap.size) g A k c (a2) (n : Int) b w1 (by omega) hk (by omega) HBY.out (CD.out w1 J1.out.on) (by omega) J1.out.sr)
  go_wp2_with fail
  refine CN.out.mono ?_
  rintro e w2 ⟨at4, rfl, hat4, _, hs, ho⟩
  clear CN
  have J2 := Lib.hid (J1.out.step hs ho)
  have hat : at4 < n := by have := hat4 (by omega); omega
  clear hs ho hat4 J1
  have CN := Lib.hid (l1Next_any lo (min hi w.heap.size) g A k c (a2 + 1) 16 b w2 (by omega) hk (by omega) HBY.out (CD.out w2 J2.out.on) (by omega) J2.out.sr)
  go_wp2_with fail
  refine CN.out.mono ?_
  rintro e w3 ⟨r, rfl, hr, _, hs, ho⟩
  clear CN
  have J3 := Lib.hid (J2.out.step hs ho)
  have hr16 : r < 16 := by have := hr (by omega); omega
  clear hs ho hr J2
  have hatI : (at4 : Int) < (n : Int) := by omega
  have hat0 : (0 : Int) ≤ (at4 : Int) := by omega
  by_cases e0 : r = 0
  · subst e0
    have n0 : (((0 : Nat) : Int) == 0) = true := by simp
    have CP := Lib.hid (pick_lit lo (min hi w.heap.size) g A k c (a2 + 1 + 1) 4 2 #[.int .i64 (-1), .int .i64 100000001, .int .i64 0, .int .i64 60] b [-1, 100000001, 0, 60] w3 hk (by omega) HBY.out (CD.out w3 J3.out.on) (by omega) J3.out.sr rfl (by omega) (by omega) (fun q hq => by rcases (show q = 0 ∨ q = 1 ∨ q = 2 ∨ q = 3 by omega) with rfl | rfl | rfl | rfl <;> rfl))
    go_wp2_with fail
    refine CP.out.mono ?_
    rintro e w7 ⟨r9, hr9, rfl, hs, ho, hz9⟩
    generalize gi [-1, 100000001, 0, 60] r9 = v at *
    clear hr9 CP hz9
    have J7 := Lib.hid (J3.out.step hs ho)
    clear hs ho J3
    have q0 := J7.out.ow.cell (j := at4 * 2) (by omega)
    have f0 := J7.out.ow.frozen (at4 * 2)
    have J8 := Lib.hid (J7.out.set (at4 * 2) v)
    go_upto_region 17 with (fail)
    go_wp2
    go_ret
    exact ⟨some ⟨gB, 0, none⟩, n, c', _, a2 + 3, rfl, by omega, by omega, J8.out⟩
  have n0 : ((r : Int) == 0) = false := by simp; omega
  by_cases e1 : r = 1
  · subst e1
    have n0 : (((1 : Nat) : Int) == 0) = false := by simp
    have n1 : (((1 : Nat) : Int) == 1) = true := by simp
    have qx := J3.out.ow.cell (j := 1) (by omega)
    have hn0I : (0 : Int) < (n : Int) := by omega
    generalize gi xs 1 = u1 at *
    have CP := Lib.hid (pick_lit lo (min hi w.heap.size) g A k c (a2 + 1 + 1) 4 2 #[.int .i64 (-1), .int .i64 100, .int .i64 99, .int .i64 u1] b [-1, 100, 99, u1] w3 hk (by omega) HBY.out (CD.out w3 J3.out.on) (by omega) J3.out.sr rfl (by omega) (by omega) (fun q hq => by rcases (show q = 0 ∨ q = 1 ∨ q = 2 ∨ q = 3 by omega) with rfl | rfl | rfl | rfl <;> rfl))
    go_wp2_with fail
    refine CP.out.mono ?_
    rintro e w7 ⟨r9, hr9, rfl, hs, ho, hz9⟩
    generalize gi [-1, 100, 99, u1] r9 = v at *
    clear hr9 CP hz9
    have J7 := Lib.hid (J3.out.step hs ho)
    clear hs ho J3 qx
    have q0 := J7.out.ow.cell (j := at4 * 2 + 1) (by omega)
    have f0 := J7.out.ow.frozen (at4 * 2 + 1)
    have J8 := Lib.hid (J7.out.set (at4 * 2 + 1) v)
    go_upto_region 17 with (fail)
    go_wp2
    go_ret
    exact ⟨some ⟨gB, 0, none⟩, n, c', _, a2 + 3, rfl, by omega, by omega, J8.out⟩
  have n1 : ((r : Int) == 1) = false := by simp; omega
  by_cases e2 : r = 2
  · subst e2
    have n0 : (((2 : Nat) : Int) == 0) = false := by simp
    have n1 : (((2 : Nat) : Int) == 1) = false := by simp
    have n2 : (((2 : Nat) : Int) == 2) = true := by simp
    have CP := Lib.hid (pick_lit lo (min hi w.heap.size) g A k c (a2 + 1 + 1) 2 2 #[.int .i64 12, .int .i64 13] b [12, 13] w3 hk (by omega) HBY.out (CD.out w3 J3.out.on) (by omega) J3.out.sr rfl (by omega) (by omega) (fun q hq => by rcases (show q = 0 ∨ q = 1 by omega) with rfl | rfl <;> rfl))
    go_wp2_with fail
    refine CP.out.mono ?_
    rintro e w7 ⟨r9, hr9, rfl, hs, ho, hz9⟩
    have J7 := Lib.hid (J3.out.step hs ho)
    clear hs ho CP hz9 J3
    rcases (show r9 = 0 ∨ r9 = 1 by omega) with rfl | rfl
    · have e12 : gi [12, 13] 0 = 12 := rfl
      rw [e12]
      clear e12 hr9
      obtain ⟨Z, hZ⟩ : ∃ Z, Z = madeCells (Value.agg #[.int .i64 0, .int .i64 0]).cells 24 := ⟨_, rfl⟩
      have MK : ∀ W, (Instr.makeSlice 24 (.int .i64 12) (.int .i64 12)).run Try.prog W = .ok (.slice (some ⟨W.heap.size, 0, none⟩) 12 12) (W.alloc (.cells Z 26)) := fun W => by rw [hZ]; exact run_make_rows (P := Try.prog) 24 26 _ 2 16 Try.underlying24 Try.info_Entry .i64 .i64 12 (by omega) (by omega) W
      have OM : OR 26 2 (w7.alloc (.cells Z 26)) w.heap.size (some ⟨w7.heap.size, 0, none⟩) 12 12 (List.replicate 24 0) := by rw [hZ]; exact or_made10_12 w7 (base := w.heap.size) (J7.out.on.1.size)
      have NW := J7.out.new (.cells Z 26)
      obtain ⟨w8, hw8⟩ : ∃ V, V = w7.alloc (.cells Z 26) := ⟨_, rfl⟩
      obtain ⟨gm, hgm⟩ : ∃ b, b = w7.heap.size := ⟨_, rfl⟩
      rw [← hw8, ← hgm] at OM
      rw [← hw8] at NW
      have J8 : Hid (EH w w8 g A k c (a2 + 3) (some ⟨gm, 0, none⟩) 12 12 (List.replicate 24 0)) := ⟨OM, NW.sr, NW.on, NW.gw⟩
      have HW8 := Lib.hid hw8; have HGM := Lib.hid hgm
      clear hw8 hgm OM NW J7 hZ
      go_upto_region 12 with (fail)
      rw [← HW8.out, ← HGM.out]
      clear HW8 HGM MK
      go_wp2_with fail
      go_loopw [48] (fun x wr => ∃ (i : Nat) (ys : List Int), i ≤ 12 ∧ x = .int .i64 (i : Int) ∧ EH w wr g A k c (a2 + 3) (some ⟨gm, 0, none⟩) 12 12 ys) (fun x _ => 12 - (intOf x).toNat)
      case atStart => exact ⟨0, _, by omega, rfl, J8.out⟩
      case round =>
        clear J8
        obtain ⟨i, ys, hi, rfl, hJ⟩ := hrel
        have J := Lib.hid hJ
        clear hJ
        by_cases hlt : i < 12
        · have h3 : (i : Int) < 12 := by omega
          have h0 : (0 : Int) ≤ (i : Int) := by omega
          have q0 := J.out.ow.cell (j := i * 2 + 1) (by omega)
          have f0 := J.out.ow.frozen (i * 2 + 1)
          have J9 := Lib.hid (J.out.set (i * 2 + 1) (i : Int))
          go_wp2
          go_roundw
          case rel => exact ⟨i + 1, _, by omega, by go_num, J9.out⟩
          case measure => simp [intOf]; omega
        · have h3 : ¬ ((i : Int) < 12) := by omega
          have hi13 : i = 12 := by omega
          go_wp2
          go_ret
          exact ⟨some ⟨gm, 0, none⟩, 12, 12, _, a2 + 3, rfl, by omega, by omega, J.out⟩
    · have e13 : gi [12, 13] 1 = 13 := rfl
      rw [e13]
      clear e13 hr9
      obtain ⟨Z, hZ⟩ : ∃ Z, Z = madeCells (Value.agg #[.int .i64 0, .int .i64 0]).cells 26 := ⟨_, rfl⟩
      have MK : ∀ W, (Instr.makeSlice 24 (.int .i64 13) (.int .i64 13)).run Try.prog W = .ok (.slice (some ⟨W.heap.size, 0, none⟩) 13 13) (W.alloc (.cells Z 26)) := fun W => by rw [hZ]; exact run_make_rows (P := Try.prog) 24 26 _ 2 16 Try.underlying24 Try.info_Entry .i64 .i64 13 (by omega) (by omega) W
      have OM : OR 26 2 (w7.alloc (.cells Z 26)) w.heap.size (some ⟨w7.heap.size, 0, none⟩) 13 13 (List.replicate 26 0) := by rw [hZ]; exact or_made10_13 w7 (base := w.heap.size) (J7.out.on.1.size)
      have NW := J7.out.new (.cells Z 26)
      obtain ⟨w8, hw8⟩ : ∃ V, V = w7.alloc (.cells Z 26) := ⟨_, rfl⟩
      obtain ⟨gm, hgm⟩ : ∃ b, b = w7.heap.size := ⟨_, rfl⟩
      rw [← hw8, ← hgm] at OM
      rw [← hw8] at NW
      have J8 : Hid (EH w w8 g A k c (a2 + 3) (some ⟨gm, 0, none⟩) 13 13 (List.replicate 26 0)) := ⟨OM, NW.sr, NW.on, NW.gw⟩
      have HW8 := Lib.hid hw8; have HGM := Lib.hid hgm
      clear hw8 hgm OM NW J7 hZ
      go_upto_region 12 with (fail)
      rw [← HW8.out, ← HGM.out]
      clear HW8 HGM MK
      go_wp2_with fail
      go_loopw [48] (fun x wr => ∃ (i : Nat) (ys : List Int), i ≤ 13 ∧ x = .int .i64 (i : Int) ∧ EH w wr g A k c (a2 + 3) (some ⟨gm, 0, none⟩) 13 13 ys) (fun x _ => 13 - (intOf x).toNat)
      case atStart => exact ⟨0, _, by omega, rfl, J8.out⟩
      case round =>
        clear J8
        obtain ⟨i, ys, hi, rfl, hJ⟩ := hrel
        have J := Lib.hid hJ
        clear hJ
        by_cases hlt : i < 13
        · have h3 : (i : Int) < 13 := by omega
          have h0 : (0 : Int) ≤ (i : Int) := by omega
          have q0 := J.out.ow.cell (j := i * 2 + 1) (by omega)
          have f0 := J.out.ow.frozen (i * 2 + 1)
          have J9 := Lib.hid (J.out.set (i * 2 + 1) (i : Int))
          go_wp2
          go_roundw
          case rel => exact ⟨i + 1, _, by omega, by go_num, J9.out⟩
          case measure => simp [intOf]; omega
        · have h3 : ¬ ((i : Int) < 13) := by omega
          have hi13 : i = 13 := by omega
          go_wp2
          go_ret
          exact ⟨some ⟨gm, 0, none⟩, 13, 13, _, a2 + 3, rfl, by omega, by omega, J.out⟩
  have n2 : ((r : Int) == 2) = false := by simp; omega
  go_upto_region 17 with (fail)
  go_wp2
  go_ret
  exact ⟨some ⟨gB, 0, none⟩, n, c', _, a2 + 1 + 1, rfl, by omega, by omega, J3.out⟩

end Go.Proofs.Ytckapndpefkcgaa
