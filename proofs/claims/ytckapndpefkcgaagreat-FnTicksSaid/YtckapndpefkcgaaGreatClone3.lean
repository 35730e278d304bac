/-
  The library's slices.Clone at the three types that the program asks it for: the same, in memory of the call's own; and the program's copyOf.
-/
import Derived.Test.YtckapndpefkcgaaGreatSpec3d
set_option maxHeartbeats 1000000
namespace Go.Proofs.YtckapndpefkcgaaGreat
open Go.RowKit
set_option maxRecDepth 100000

set_option maxHeartbeats 1000000 in
theorem clone_int (lo hi b off n c : Nat) (xs : List Int) (w : World) (hn1 : 1 ≤ n) (hn : n ≤ 12) (ex : xs.length = n) (h : Sl w lo hi (some ⟨b, off, none⟩) (n) (fun k => .int .i64 (gi xs k))) :
    Calls Tryz.prog 141 #[.slice (some ⟨b, off, none⟩) n c] w fun e w' => ∃ A' c' g', e = .returned (.slice A' n c') ∧ (A' = none → c' = 0) ∧ (w.heap.size ≤ g' ∧ g' < w'.heap.size) ∧ Mine w' g' (g' + 1) 2 A' (n) (fun k => .int .i64 (gi xs k)) ∧ Below w.heap.size w w' := by
  obtain ⟨b', off', hA, _, hb2, hd⟩ := h.lt.at_ (show 0 < n by omega)
  injection hA with hA
  injection hA with e1 e2
  subst e1 e2
  have bl : b < w.heap.size := by omega
  have D := Lib.hid hd
  have EX := Lib.hid ex
  obtain ⟨ib, hib, hzb, hsb, hbb⟩ := info_parts Tryz.info_i64
  have ownb : (w.alloc (.cells #[] 2)).ownsRow w.heap.size 2 1 (.slice (some ⟨w.heap.size, 0, none⟩) 0 0) 0 [] :=
    ⟨rfl, .inr ⟨w.heap.size, 0, #[], rfl, Nat.le_refl _, heap_alloc_new _ _, Nat.le_refl _, by simp [maxLen], rfl, rfl⟩⟩
  have NW : ∀ j u, (vals xs)[j]? = some u → (w.alloc (.cells #[] 2)).cell? ((⟨b, off, none⟩ : Addr).add j) = some u := by
    intro j u hu
    have hj : j < n := by have := (List.getElem?_eq_some_iff.1 hu).1; simp [vals, EX.out] at this; omega
    rw [vals_get xs j (by rw [EX.out]; exact hj)] at hu
    injection hu with hu
    subst hu
    rw [Go.WideShapes.add_plain]
    exact ((below_new w _).cell (p := ⟨b, off + j, none⟩) (by simp; omega)).trans (D.out j hj)
  have ON : ∀ u ∈ vals xs, u.oneCell' = true := by
    intro u hu
    simp only [vals, List.mem_map] at hu
    obtain ⟨_, _, rfl⟩ := hu
    rfl
  have LN : (vals xs).length = n * 1 := by simp [vals, EX.out]
  have hnl : ∀ W, (binOp .eql 35 (.slice (some ⟨b, off, none⟩) n c) (.slice none 0 0)).run Tryz.prog W = .ok (.bool false) W := fun W => by first | rfl | kernel_rfl | simp [go_sem, Tryz.underlying35]
  have OB := Lib.hid ownb; have NB := Lib.hid NW; have OO := Lib.hid ON; have LB := Lib.hid LN
  clear ownb NW ON LN hd h ex
  go_enter Tryz.func141, Tryz.ntmps141
  go_wp2_with
    (at_builtin
     refine wpList_append_own _ rfl (.tmp 5) (.tmp 6) 35 rfl w.heap.size 2 ib (.int .i64 0) 1 8 Tryz.underlying35 hib hzb hsb hbb rfl (by decide) _ 0 [] rfl OB.out ⟨b, off, none⟩ n c (vals xs) rfl LB.out NB.out OO.out (by unfold maxLen; omega) (by omega) (by simp) ?_
     intro v5 w5 hown hgrow _
     simp only [Nat.zero_add, List.nil_append] at hown
     have hb : Below w.heap.size w w5 := (below_new w _).grown hgrow (by simp) (fun k hk => by have hk' : some w.heap.size = some k := hk; injection hk' with e; omega)
     obtain ⟨A2', c2', g2, rfl, _, _, u4, m2, a2, u5⟩ := mine_of_owns hown
     have u5 : g2 < w5.heap.size := u5 (fun h => by have := a2 h; omega)
     have m2 := m2.congr (f' := fun k => .int .i64 (gi xs k)) (fun k hk => vals_getD xs k (by rw [EX.out]; omega))
     have HB := Lib.hid hb; have M2 := Lib.hid m2; have A2 := Lib.hid a2; have U := Lib.hid (show w.heap.size ≤ g2 ∧ g2 < w5.heap.size from ⟨by omega, u5⟩)
     clear hown hgrow hb m2 a2 u4 u5)
  go_wp2
  exact bodyPost_ret (results_tmp rfl _ _ _) rfl ⟨A2', c2', rfl, fun h => (by have := A2.out h; omega), g2, U.out, by simpa using M2.out, HB.out⟩

set_option maxHeartbeats 1000000 in
theorem clone_bool (lo hi b off n c : Nat) (xs : List Bool) (w : World) (hn1 : 1 ≤ n) (hn : n ≤ 12) (ex : xs.length = n) (h : Sl w lo hi (some ⟨b, off, none⟩) (n) (fun k => .bool (gb xs k))) :
    Calls Tryz.prog 142 #[.slice (some ⟨b, off, none⟩) n c] w fun e w' => ∃ A' c' g', e = .returned (.slice A' n c') ∧ (A' = none → c' = 0) ∧ (w.heap.size ≤ g' ∧ g' < w'.heap.size) ∧ Mine w' g' (g' + 1) 4 A' (n) (fun k => .bool (gb xs k)) ∧ Below w.heap.size w w' := by
  obtain ⟨b', off', hA, _, hb2, hd⟩ := h.lt.at_ (show 0 < n by omega)
  injection hA with hA
  injection hA with e1 e2
  subst e1 e2
  have bl : b < w.heap.size := by omega
  have D := Lib.hid hd
  have EX := Lib.hid ex
  obtain ⟨ib, hib, hzb, hsb, hbb⟩ := info_parts Tryz.info_b4
  have ownb : (w.alloc (.cells #[] 4)).ownsRow w.heap.size 4 1 (.slice (some ⟨w.heap.size, 0, none⟩) 0 0) 0 [] :=
    ⟨rfl, .inr ⟨w.heap.size, 0, #[], rfl, Nat.le_refl _, heap_alloc_new _ _, Nat.le_refl _, by simp [maxLen], rfl, rfl⟩⟩
  have NW : ∀ j u, (bvals xs)[j]? = some u → (w.alloc (.cells #[] 4)).cell? ((⟨b, off, none⟩ : Addr).add j) = some u := by
    intro j u hu
    have hj : j < n := by have := (List.getElem?_eq_some_iff.1 hu).1; simp [bvals, EX.out] at this; omega
    rw [bvals_get xs j (by rw [EX.out]; exact hj)] at hu
    injection hu with hu
    subst hu
    rw [Go.WideShapes.add_plain]
    exact ((below_new w _).cell (p := ⟨b, off + j, none⟩) (by simp; omega)).trans (D.out j hj)
  have ON : ∀ u ∈ bvals xs, u.oneCell' = true := by
    intro u hu
    simp only [bvals, List.mem_map] at hu
    obtain ⟨_, _, rfl⟩ := hu
    rfl
  have LN : (bvals xs).length = n * 1 := by simp [bvals, EX.out]
  have hnl : ∀ W, (binOp .eql 36 (.slice (some ⟨b, off, none⟩) n c) (.slice none 0 0)).run Tryz.prog W = .ok (.bool false) W := fun W => by first | rfl | kernel_rfl | simp [go_sem, Tryz.underlying36]
  have OB := Lib.hid ownb; have NB := Lib.hid NW; have OO := Lib.hid ON; have LB := Lib.hid LN
  clear ownb NW ON LN hd h ex
  go_enter Tryz.func142, Tryz.ntmps142
  go_wp2_with
    (at_builtin
     refine wpList_append_own _ rfl (.tmp 5) (.tmp 6) 36 rfl w.heap.size 4 ib (.bool false) 1 1 Tryz.underlying36 hib hzb hsb hbb rfl (by decide) _ 0 [] rfl OB.out ⟨b, off, none⟩ n c (bvals xs) rfl LB.out NB.out OO.out (by unfold maxLen; omega) (by omega) (by simp) ?_
     intro v5 w5 hown hgrow _
     simp only [Nat.zero_add, List.nil_append] at hown
     have hb : Below w.heap.size w w5 := (below_new w _).grown hgrow (by simp) (fun k hk => by have hk' : some w.heap.size = some k := hk; injection hk' with e; omega)
     obtain ⟨A2', c2', g2, rfl, _, _, u4, m2, a2, u5⟩ := mine_of_owns hown
     have u5 : g2 < w5.heap.size := u5 (fun h => by have := a2 h; omega)
     have m2 := m2.congr (f' := fun k => .bool (gb xs k)) (fun k hk => bvals_getD xs k (by rw [EX.out]; omega))
     have HB := Lib.hid hb; have M2 := Lib.hid m2; have A2 := Lib.hid a2; have U := Lib.hid (show w.heap.size ≤ g2 ∧ g2 < w5.heap.size from ⟨by omega, u5⟩)
     clear hown hgrow hb m2 a2 u4 u5)
  go_wp2
  exact bodyPost_ret (results_tmp rfl _ _ _) rfl ⟨A2', c2', rfl, fun h => (by have := A2.out h; omega), g2, U.out, by simpa using M2.out, HB.out⟩

set_option maxHeartbeats 1000000 in
theorem clone_acc (lo hi b off n c : Nat) (xs : List Int) (w : World) (hn1 : 1 ≤ n) (hn : n ≤ 12) (ex : xs.length = n * 4) (h : Sl w lo hi (some ⟨b, off, none⟩) (n * 4) (fun k => .int .i64 (gi xs k))) :
    Calls Tryz.prog 143 #[.slice (some ⟨b, off, none⟩) n c] w fun e w' => ∃ A' c' g', e = .returned (.slice A' n c') ∧ (A' = none → c' = 0) ∧ (w.heap.size ≤ g' ∧ g' < w'.heap.size) ∧ Mine w' g' (g' + 1) 68 A' (n * 4) (fun k => .int .i64 (gi xs k)) ∧ Below w.heap.size w w' := by
  obtain ⟨b', off', hA, _, hb2, hd⟩ := h.lt.at_ (show 0 < n * 4 by omega)
  injection hA with hA
  injection hA with e1 e2
  subst e1 e2
  have bl : b < w.heap.size := by omega
  have D := Lib.hid hd
  have EX := Lib.hid ex
  obtain ⟨ib, hib, hzb, hsb, hbb⟩ := info_parts Tryz.info_a4
  have ownb : (w.alloc (.cells #[] 68)).ownsRow w.heap.size 68 4 (.slice (some ⟨w.heap.size, 0, none⟩) 0 0) 0 [] :=
    ⟨rfl, .inr ⟨w.heap.size, 0, #[], rfl, Nat.le_refl _, heap_alloc_new _ _, Nat.le_refl _, by simp [maxLen], rfl, rfl⟩⟩
  have NW : ∀ j u, (vals xs)[j]? = some u → (w.alloc (.cells #[] 68)).cell? ((⟨b, off, none⟩ : Addr).add j) = some u := by
    intro j u hu
    have hj : j < n * 4 := by have := (List.getElem?_eq_some_iff.1 hu).1; simp [vals, EX.out] at this; omega
    rw [vals_get xs j (by rw [EX.out]; exact hj)] at hu
    injection hu with hu
    subst hu
    rw [Go.WideShapes.add_plain]
    exact ((below_new w _).cell (p := ⟨b, off + j, none⟩) (by simp; omega)).trans (D.out j hj)
  have ON : ∀ u ∈ vals xs, u.oneCell' = true := by
    intro u hu
    simp only [vals, List.mem_map] at hu
    obtain ⟨_, _, rfl⟩ := hu
    rfl
  have LN : (vals xs).length = n * 4 := by simp [vals, EX.out]
  have hnl : ∀ W, (binOp .eql 37 (.slice (some ⟨b, off, none⟩) n c) (.slice none 0 0)).run Tryz.prog W = .ok (.bool false) W := fun W => by first | rfl | kernel_rfl | simp [go_sem, Tryz.underlying37]
  have OB := Lib.hid ownb; have NB := Lib.hid NW; have OO := Lib.hid ON; have LB := Lib.hid LN
  clear ownb NW ON LN hd h ex
  go_enter Tryz.func143, Tryz.ntmps143
  go_wp2_with
    (at_builtin
     refine wpList_append_own _ rfl (.tmp 5) (.tmp 6) 37 rfl w.heap.size 68 ib (.agg #[.int .i64 0, .int .i64 0, .int .i64 0, .int .i64 0]) 4 32 Tryz.underlying37 hib hzb hsb hbb rfl (by decide) _ 0 [] rfl OB.out ⟨b, off, none⟩ n c (vals xs) rfl LB.out NB.out OO.out (by unfold maxLen; omega) (by omega) (by simp) ?_
     intro v5 w5 hown hgrow _
     simp only [Nat.zero_add, List.nil_append] at hown
     have hb : Below w.heap.size w w5 := (below_new w _).grown hgrow (by simp) (fun k hk => by have hk' : some w.heap.size = some k := hk; injection hk' with e; omega)
     obtain ⟨A2', c2', g2, rfl, _, _, u4, m2, a2, u5⟩ := mine_of_owns hown
     have u5 : g2 < w5.heap.size := u5 (fun h => by have := a2 h; omega)
     have m2 := m2.congr (f' := fun k => .int .i64 (gi xs k)) (fun k hk => vals_getD xs k (by rw [EX.out]; omega))
     have HB := Lib.hid hb; have M2 := Lib.hid m2; have A2 := Lib.hid a2; have U := Lib.hid (show w.heap.size ≤ g2 ∧ g2 < w5.heap.size from ⟨by omega, u5⟩)
     clear hown hgrow hb m2 a2 u4 u5)
  go_wp2
  exact bodyPost_ret (results_tmp rfl _ _ _) rfl ⟨A2', c2', rfl, fun h => (by have := A2.out h; omega), g2, U.out, M2.out, HB.out⟩

theorem Mine.far' {w : World} {lo hi : Nat} {t : TypeId} {A : Option Addr} {n : Nat} {f : Nat → Value} (h : Mine w lo hi t A n f) {p : Addr} (hp : p.block < lo ∨ hi ≤ p.block) (v : Value) : Mine (w.setCell p v) lo hi t A n f :=
  h.keep fun b h1 h2 => Below.heap_setCell w p v b (by omega)

set_option maxHeartbeats 4000000 in
theorem copyOf_any (lo hi : Nat) (A1 : Option Addr) (n1 c1 : Nat) (A2 : Option Addr) (c2 : Nat) (A3 : Option Addr) (c3 : Nat) (t r : Int) (K : Ker) (w : World)
    (h : KRead w lo hi A1 n1 A2 4 A3 4 K) (hn : n1 ≤ 12) (hn0 : 1 ≤ n1) :
    Calls Tryz.prog 112 #[.agg #[.slice A1 n1 c1, .slice A2 4 c2, .slice A3 4 c3, .int .i64 t, .int .i64 r]] w fun e w' => ∃ p : Kp, e = .returned (.agg #[.slice p.A1 p.n1 p.c1, .slice p.A2 4 p.c2, .slice p.A3 4 p.c3, .int .i64 t, .int .i64 r]) ∧ KOwn w' p K ∧
      (w.heap.size < p.g1 ∧ w.heap.size < p.g2 ∧ w.heap.size < p.g3 ∧ p.g1 < w'.heap.size ∧ p.g2 < w'.heap.size ∧ p.g3 < w'.heap.size) ∧ Below w.heap.size w w' := by
  obtain ⟨⟨l1, l2, l3⟩, s1, s2, s3⟩ := h
  have L1 := Lib.hid l1; have L2 := Lib.hid l2; have L3 := Lib.hid l3
  obtain ⟨b1, o1, rfl, _, _, _⟩ := s1.lt.at_ (show 0 < n1 by omega)
  obtain ⟨b2, o2, rfl, _, _, _⟩ := s2.lt.at_ (show 0 < 4 by omega)
  obtain ⟨b3, o3, rfl, _, _, _⟩ := s3.lt.at_ (show 0 < 4 * 4 by omega)
  have S1 : Hid (∀ W, Below w.heap.size w W → Sl W lo (min hi w.heap.size) (some ⟨b1, o1, none⟩) n1 (fun k => .int .i64 (gi K.os k))) := fun W hW => s1.lt.below hW (Nat.min_le_right _ _)
  have S2 : Hid (∀ W, Below w.heap.size w W → Sl W lo (min hi w.heap.size) (some ⟨b2, o2, none⟩) 4 (fun k => .bool (gb K.al k))) := fun W hW => s2.lt.below hW (Nat.min_le_right _ _)
  have S3 : Hid (∀ W, Below w.heap.size w W → Sl W lo (min hi w.heap.size) (some ⟨b3, o3, none⟩) (4 * 4) (fun k => .int .i64 (gi K.ac k))) := fun W hW => s3.lt.below hW (Nat.min_le_right _ _)
  obtain ⟨w2, hw2⟩ : ∃ w2, w2 = (w.alloc (.cells #[.slice (some ⟨b1, o1, none⟩) n1 c1, .slice (some ⟨b2, o2, none⟩) 4 c2, .slice (some ⟨b3, o3, none⟩) 4 c3, .int .i64 t, .int .i64 r] 39)).alloc (.cells #[.slice none 0 0, .slice none 0 0, .slice none 0 0, .int .i64 0, .int .i64 0] 39) := ⟨_, rfl⟩
  have XBw2 : Hid (w2.heap[w.heap.size]? = some (.cells #[.slice (some ⟨b1, o1, none⟩) n1 c1, .slice (some ⟨b2, o2, none⟩) 4 c2, .slice (some ⟨b3, o3, none⟩) 4 c3, .int .i64 t, .int .i64 r] 39 (0, 0))) := by rw [hw2]; exact heap_alloc2_old w _ _
  have ZBw2 : Hid (w2.heap[w.heap.size + 1]? = some (.cells #[.slice none 0 0, .slice none 0 0, .slice none 0 0, .int .i64 0, .int .i64 0] 39 (0, 0))) := by rw [hw2]; exact heap_alloc2_new w _ _
  have BBw2 : Hid (Below w.heap.size w w2) := by rw [hw2]; exact (below_new w _).alloc (by simp) _
  have SZw2 : Hid (w.heap.size + 2 ≤ w2.heap.size) := by show _ ≤ _; rw [hw2]; simp
  have hWw2 := Lib.hid hw2
  clear s1 s2 s3 l1 l2 l3 hw2
  go_enter Tryz.func112, Tryz.ntmps112
  have k0 := cell_of_row w2 _ 0 _ _ _ XBw2.out
  simp at k0
  go_upto_region 1 with (fail)
  rw [← hWw2.out]
  clear hWw2
  go_wp2_with fail
  refine (clone_int _ _ b1 o1 n1 c1 K.os w2 (by omega) (by omega) L1.out (S1.out _ BBw2.out)).mono ?_
  rintro e wx ⟨A1', c1', g1, rfl, hn0, ⟨u1, u2⟩, m1, hb⟩
  have XX := (hb.block w.heap.size (by have := SZw2.out; omega)).trans XBw2.out
  have ZZ := (hb.block (w.heap.size + 1) (by have := SZw2.out; omega)).trans ZBw2.out
  have szx := hb.size
  have szp := SZw2.out
  obtain ⟨w4, hw4⟩ : ∃ w4, w4 = wx.setCell ⟨w.heap.size, 0, none⟩ (.slice A1' n1 c1') := ⟨_, rfl⟩
  have XBw4 : Hid (w4.heap[w.heap.size]? = some (.cells #[.slice A1' n1 c1', .slice (some ⟨b2, o2, none⟩) 4 c2, .slice (some ⟨b3, o3, none⟩) 4 c3, .int .i64 t, .int .i64 r] 39 (0, 0))) := by rw [hw4]; exact heap_setCell_same wx _ 0 _ _ _ XX
  have ZBw4 : Hid (w4.heap[w.heap.size + 1]? = some (.cells #[.slice none 0 0, .slice none 0 0, .slice none 0 0, .int .i64 0, .int .i64 0] 39 (0, 0))) := by rw [hw4]; exact (Below.heap_setCell wx ⟨w.heap.size, 0, none⟩ _ _ (by simp)).trans ZZ
  have BBw4 : Hid (Below w.heap.size w w4) := by rw [hw4]; exact (BBw2.out.trans (hb.mono (by omega))).setCell (p := ⟨w.heap.size, 0, none⟩) (Nat.le_refl _) _
  have SZw4 : Hid (w.heap.size + 2 ≤ w4.heap.size) := by show _ ≤ _; rw [hw4]; simp; omega
  have MOw4 : Hid (w2.heap.size ≤ w4.heap.size) := by show _ ≤ _; rw [hw4]; simp; omega
  have Hg1 := Lib.hid (show Mine w4 g1 (g1 + 1) 2 A1' n1 (fun k => .int .i64 (gi K.os k)) by rw [hw4]; exact m1.far' (p := ⟨w.heap.size, 0, none⟩) (by show w.heap.size < g1 ∨ g1 + 1 ≤ w.heap.size; omega) _)
  have Ug1 := Lib.hid (show w.heap.size + 2 ≤ g1 ∧ w2.heap.size ≤ g1 ∧ g1 < w4.heap.size by rw [hw4]; simp; omega)
  have hx0 := Lib.hid hn0
  have q0 := cell_of_row wx _ 0 _ _ _ XX
  have y0 := frozen_of_row wx _ 0 _ _ XX
  simp at q0
  have hWw4 := Lib.hid hw4
  clear hb m1 XX ZZ u1 u2 szx szp hw4 hn0 k0
  have k1 := cell_of_row w4 _ 1 _ _ _ XBw4.out
  simp at k1
  go_upto_region 2 with (fail)
  rw [← hWw4.out]
  clear hWw4
  go_wp2_with fail
  refine (clone_bool _ _ b2 o2 4 c2 K.al w4 (by omega) (by omega) L2.out (S2.out _ BBw4.out)).mono ?_
  rintro e wx ⟨A2', c2', g2, rfl, hn1, ⟨u1, u2⟩, m1, hb⟩
  have XX := (hb.block w.heap.size (by have := SZw4.out; omega)).trans XBw4.out
  have ZZ := (hb.block (w.heap.size + 1) (by have := SZw4.out; omega)).trans ZBw4.out
  have szx := hb.size
  have szp := SZw4.out
  obtain ⟨w6, hw6⟩ : ∃ w6, w6 = wx.setCell ⟨w.heap.size, 1, none⟩ (.slice A2' 4 c2') := ⟨_, rfl⟩
  have XBw6 : Hid (w6.heap[w.heap.size]? = some (.cells #[.slice A1' n1 c1', .slice A2' 4 c2', .slice (some ⟨b3, o3, none⟩) 4 c3, .int .i64 t, .int .i64 r] 39 (0, 0))) := by rw [hw6]; exact heap_setCell_same wx _ 1 _ _ _ XX
  have ZBw6 : Hid (w6.heap[w.heap.size + 1]? = some (.cells #[.slice none 0 0, .slice none 0 0, .slice none 0 0, .int .i64 0, .int .i64 0] 39 (0, 0))) := by rw [hw6]; exact (Below.heap_setCell wx ⟨w.heap.size, 1, none⟩ _ _ (by simp)).trans ZZ
  have BBw6 : Hid (Below w.heap.size w w6) := by rw [hw6]; exact (BBw4.out.trans (hb.mono (by omega))).setCell (p := ⟨w.heap.size, 1, none⟩) (Nat.le_refl _) _
  have SZw6 : Hid (w.heap.size + 2 ≤ w6.heap.size) := by show _ ≤ _; rw [hw6]; simp; omega
  have MOw6 : Hid (w4.heap.size ≤ w6.heap.size) := by show _ ≤ _; rw [hw6]; simp; omega
  have Hg1 := Lib.hid (show Mine w6 g1 (g1 + 1) 2 A1' n1 (fun k => .int .i64 (gi K.os k)) by rw [hw6]; exact (Hg1.out.below hb (by have := Ug1.out; omega)).far' (p := ⟨w.heap.size, 1, none⟩) (by show w.heap.size < g1 ∨ g1 + 1 ≤ w.heap.size; have := Ug1.out; omega) _)
  have Hg2 := Lib.hid (show Mine w6 g2 (g2 + 1) 4 A2' 4 (fun k => .bool (gb K.al k)) by rw [hw6]; exact m1.far' (p := ⟨w.heap.size, 1, none⟩) (by show w.heap.size < g2 ∨ g2 + 1 ≤ w.heap.size; omega) _)
  have Ug2 := Lib.hid (show w.heap.size + 2 ≤ g2 ∧ w4.heap.size ≤ g2 ∧ g2 < w6.heap.size by rw [hw6]; simp; omega)
  have hx1 := Lib.hid hn1
  have q1 := cell_of_row wx _ 1 _ _ _ XX
  have y1 := frozen_of_row wx _ 1 _ _ XX
  simp at q1
  have hWw6 := Lib.hid hw6
  clear hb m1 XX ZZ u1 u2 szx szp hw6 hn1 k1 q0 y0
  have k2 := cell_of_row w6 _ 2 _ _ _ XBw6.out
  simp at k2
  go_upto_region 3 with (fail)
  rw [← hWw6.out]
  clear hWw6
  go_wp2_with fail
  refine (clone_acc _ _ b3 o3 4 c3 K.ac w6 (by omega) (by omega) L3.out (S3.out _ BBw6.out)).mono ?_
  rintro e wx ⟨A3', c3', g3, rfl, hn2, ⟨u1, u2⟩, m1, hb⟩
  have XX := (hb.block w.heap.size (by have := SZw6.out; omega)).trans XBw6.out
  have ZZ := (hb.block (w.heap.size + 1) (by have := SZw6.out; omega)).trans ZBw6.out
  have szx := hb.size
  have szp := SZw6.out
  obtain ⟨w8, hw8⟩ : ∃ w8, w8 = wx.setCell ⟨w.heap.size, 2, none⟩ (.slice A3' 4 c3') := ⟨_, rfl⟩
  have XBw8 : Hid (w8.heap[w.heap.size]? = some (.cells #[.slice A1' n1 c1', .slice A2' 4 c2', .slice A3' 4 c3', .int .i64 t, .int .i64 r] 39 (0, 0))) := by rw [hw8]; exact heap_setCell_same wx _ 2 _ _ _ XX
  have ZBw8 : Hid (w8.heap[w.heap.size + 1]? = some (.cells #[.slice none 0 0, .slice none 0 0, .slice none 0 0, .int .i64 0, .int .i64 0] 39 (0, 0))) := by rw [hw8]; exact (Below.heap_setCell wx ⟨w.heap.size, 2, none⟩ _ _ (by simp)).trans ZZ
  have BBw8 : Hid (Below w.heap.size w w8) := by rw [hw8]; exact (BBw6.out.trans (hb.mono (by omega))).setCell (p := ⟨w.heap.size, 2, none⟩) (Nat.le_refl _) _
  have SZw8 : Hid (w.heap.size + 2 ≤ w8.heap.size) := by show _ ≤ _; rw [hw8]; simp; omega
  have MOw8 : Hid (w6.heap.size ≤ w8.heap.size) := by show _ ≤ _; rw [hw8]; simp; omega
  have Hg1 := Lib.hid (show Mine w8 g1 (g1 + 1) 2 A1' n1 (fun k => .int .i64 (gi K.os k)) by rw [hw8]; exact (Hg1.out.below hb (by have := Ug1.out; have := Ug2.out; have := MOw6.out; omega)).far' (p := ⟨w.heap.size, 2, none⟩) (by show w.heap.size < g1 ∨ g1 + 1 ≤ w.heap.size; have := Ug1.out; have := Ug2.out; have := MOw6.out; omega) _)
  have Hg2 := Lib.hid (show Mine w8 g2 (g2 + 1) 4 A2' 4 (fun k => .bool (gb K.al k)) by rw [hw8]; exact (Hg2.out.below hb (by have := Ug1.out; have := Ug2.out; have := MOw6.out; omega)).far' (p := ⟨w.heap.size, 2, none⟩) (by show w.heap.size < g2 ∨ g2 + 1 ≤ w.heap.size; have := Ug1.out; have := Ug2.out; have := MOw6.out; omega) _)
  have Hg3 := Lib.hid (show Mine w8 g3 (g3 + 1) 68 A3' 16 (fun k => .int .i64 (gi K.ac k)) by rw [hw8]; exact m1.far' (p := ⟨w.heap.size, 2, none⟩) (by show w.heap.size < g3 ∨ g3 + 1 ≤ w.heap.size; omega) _)
  have Ug3 := Lib.hid (show w.heap.size + 2 ≤ g3 ∧ w6.heap.size ≤ g3 ∧ g3 < w8.heap.size by rw [hw8]; simp; omega)
  have hx2 := Lib.hid hn2
  have q2 := cell_of_row wx _ 2 _ _ _ XX
  have y2 := frozen_of_row wx _ 2 _ _ XX
  simp at q2
  have hWw8 := Lib.hid hw8
  clear hb m1 XX ZZ u1 u2 szx szp hw8 hn2 k2 q1 y1
  have e0 := cell_of_row w8 _ 0 _ _ _ XBw8.out; have e1 := cell_of_row w8 _ 1 _ _ _ XBw8.out; have e2 := cell_of_row w8 _ 2 _ _ _ XBw8.out; have e3 := cell_of_row w8 _ 3 _ _ _ XBw8.out; have e4 := cell_of_row w8 _ 4 _ _ _ XBw8.out
  have z0 := cell_of_row w8 _ 0 _ _ _ ZBw8.out; have z1 := cell_of_row w8 _ 1 _ _ _ ZBw8.out; have z2 := cell_of_row w8 _ 2 _ _ _ ZBw8.out; have z3 := cell_of_row w8 _ 3 _ _ _ ZBw8.out; have z4 := cell_of_row w8 _ 4 _ _ _ ZBw8.out
  have f0 := frozen_of_row w8 _ 0 _ _ ZBw8.out; have f1 := frozen_of_row w8 _ 1 _ _ ZBw8.out; have f2 := frozen_of_row w8 _ 2 _ _ ZBw8.out; have f3 := frozen_of_row w8 _ 3 _ _ ZBw8.out; have f4 := frozen_of_row w8 _ 4 _ _ ZBw8.out
  simp at e0 e1 e2 e3 e4 z0 z1 z2 z3 z4
  go_upto_region 4 with (fail)
  rw [← hWw8.out]
  clear hWw8 q2 y2
  go_wp2
  have u1 := Ug1.out; have u2 := Ug2.out; have u3 := Ug3.out; have sz8 := SZw8.out
  have s46 := SZw4.out; have mo6 := MOw6.out; have mo8 := MOw8.out
  refine bodyPost_ret (results_cell_row rfl _ _ (w.heap.size + 1) _ _ (0, 0) _ rfl (blk5_set ZBw8.out _ _ _ _ _) Tryz.underlying39 rfl (by kernel_rfl)) rfl ⟨⟨A1', n1, c1', A2', c2', A3', c3', g1, g2, g3⟩, rfl, ⟨L1.out, L2.out, L3.out, hx0.out, ?_, ?_, ?_, by show g1 ≠ g2; omega, by show g1 ≠ g3; omega, by show g2 ≠ g3; omega⟩, ⟨by show w.heap.size < g1; omega, by show w.heap.size < g2; omega, by show w.heap.size < g3; omega, by simp; show g1 < w8.heap.size; omega, by simp; show g2 < w8.heap.size; omega, by simp; show g3 < w8.heap.size; omega⟩, below5 BBw8.out (by simp) _ _ _ _ _⟩
  · exact far5 Hg1.out (by show w.heap.size + 1 < g1; omega) _ _ _ _ _
  · exact far5 Hg2.out (by show w.heap.size + 1 < g2; omega) _ _ _ _ _
  · exact far5 Hg3.out (by show w.heap.size + 1 < g3; omega) _ _ _ _ _

end Go.Proofs.YtckapndpefkcgaaGreat
