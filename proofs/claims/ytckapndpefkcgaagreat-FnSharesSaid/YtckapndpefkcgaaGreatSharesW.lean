/-
  The walk of FnShares.
-/
import Derived.Test.YtckapndpefkcgaaGreatDrawN10
import Derived.Test.YtckapndpefkcgaaGreatWindowsOfW
import Derived.Test.YtckapndpefkcgaaGreatBal9b
import Derived.Test.YtckapndpefkcgaaGreatMath9e
import Derived.Test.YtckapndpefkcgaaGreatCountN9
import Derived.Test.YtckapndpefkcgaaGreatU8s
set_option maxHeartbeats 1000000
namespace Go.Proofs.YtckapndpefkcgaaGreat
open List renaming getElem_toArray → zz1, getElem_cons_succ → zz2, getElem_cons_zero → zz3, setIfInBounds_toArray → zz4, set_cons_zero → zz5, set_cons_succ → zz6
open Go.RowKit
set_option maxRecDepth 100000

theorem wnd9_sum {mm : Int} {x : Nat → Int} {n : Nat} {ev v : Int} (h : wnd9 mm x n ev = (0, v)) :
    bal9 mm x n ev = true ∧ ∃ K cs ns, rk3 mm x n = (0, K, cs, ns) ∧ ns.length % 3 = 0 ∧ ns.length ≤ 3600 ∧ v = (nct (gi ns) ev 1 (ns.length / 3) : Int) + (nct (gi ns) ev 2 (ns.length / 3) : Int) := by
  have h0 : ask9 mm n ev = 0 := by
    unfold wnd9 at h
    by_cases h0 : ask9 mm n ev = 0
    · exact h0
    · rw [if_pos (by simpa using h0)] at h
      exact congrArg Prod.fst h
  obtain ⟨ha, hi⟩ := ask9_zero h0
  obtain ⟨g1, h1, h4⟩ := rk3_good (x := x) ha
  obtain ⟨sk, _⟩ := sk_new h1
  obtain ⟨e, he, rfl⟩ : ∃ e : Nat, e < 4 ∧ ev = (e : Int) := by
    have h2 : 0 ≤ ev ∧ ev < 4 := by unfold inEnv at hi; simp at hi; omega
    exact ⟨ev.toNat, by omega, by omega⟩
  have hw : wnd9 mm x n (e : Int) = (0, (((tks (opens9 (e : Int)) (new3 mm) x n).length : Nat) : Int)) := by unfold wnd9; rw [if_neg (by simp [h0])]
  rw [hw] at h
  have hv : (((tks (opens9 (e : Int)) (new3 mm) x n).length : Nat) : Int) = v := congrArg Prod.snd h
  obtain ⟨r1, r2⟩ := run_win (x := x) sk rfl he n h4
  have sm := rk3_small10 mm x n
  rw [g1] at sm
  exact ⟨bal9_true h0, _, _, _, g1, r1, sm.2.2.2.2, hv.symm.trans r2.symm⟩
theorem wnd9_bad {mm : Int} {x : Nat → Int} {n : Nat} {ev q v : Int} (h : wnd9 mm x n ev = (q, v)) (hq : q ≠ 0) : bal9 mm x n ev = false := by
  unfold wnd9 at h
  by_cases h0 : ask9 mm n ev = 0
  · rw [if_neg (by simp [h0])] at h
    exact absurd (congrArg Prod.fst h).symm hq
  · unfold bal9
    rw [if_pos (by simpa using h0)]

set_option maxHeartbeats 16000000 in
theorem walkShares (A : Option Addr) (k c : Nat) (b : Nat → Int) (w : World) (h : Sl w 0 w.heap.size A k (fun j => .int .u8 (b j))) (hb : ∀ j, 0 ≤ b j ∧ b j ≤ 255) (hk : k ≤ 1048576) :
    Calls Tryz.prog 3 #[.slice A k c] w fun e w' => e = .returned (.bool true) ∧ Below w.heap.size w w' := by
  have DR := Lib.hid (DrawIsBalanced_any 0 w.heap.size A k c b w hk hb h)
  have HBY := Lib.hid hb
  have CD : Hid (∀ W, Below w.heap.size w W → Sl W 0 w.heap.size A k (fun j => .int .u8 (b j))) := fun W hW => h.below hW (Nat.le_refl _)
  clear h hb
  go_enter Tryz.func3, Tryz.ntmps3
  go_wp2_with fail
  refine (lwBig_any A k c w).mono ?_
  rintro e w' ⟨rfl, rfl⟩
  have hk2 : ¬ ((1048576 : Int) < (k : Int)) := by omega
  go_wp2_with fail
  refine DR.out.mono ?_
  rintro e w1 ⟨sl, B, n, c', xs, ev, rfl, hsl, hn, hev, ho, hb⟩
  have EV : Hid (Sl w1 0 w1.heap.size B (n * 7) (fun j => .int .i64 (gi xs j))) := by
    have := OR.sl0 ho
    exact this.wide (Nat.zero_le _) (Nat.le_refl _)
  have R1 := Lib.hid hb
  obtain ⟨q, v, hqv⟩ : ∃ q v, wnd9 sl (gi xs) n ev = (q, v) := ⟨_, _, rfl⟩
  obtain ⟨y, hy⟩ : ∃ y, bal9 sl (gi xs) n ev = y := ⟨_, rfl⟩
  have QV := Lib.hid hqv
  have HY := Lib.hid hy
  have SPB0 : Hid (∀ (W : World), Sl W 0 w1.heap.size B (n * 7) (fun j => .int .i64 (gi xs j)) → Calls Tryz.prog 12 #[.int .i64 sl, .slice B n c', .int .i64 ev] W fun e w' => e = .returned (.bool y) ∧ Below W.heap.size W w') := fun W hl => by
    rw [← hy]; exact specIsBalanced_any _ _ B n c' (gi xs) sl ev W (by omega) hl
  have IPB := Lib.hid (implIsBalanced_any _ _ B n c' (gi xs) sl ev w1 (by omega) EV.out)
  rw [hy] at IPB
  have SPW0 : Hid (∀ (W : World), Sl W 0 w1.heap.size B (n * 7) (fun j => .int .i64 (gi xs j)) → Calls Tryz.prog 13 #[.int .i64 sl, .slice B n c', .int .i64 ev] W fun e w' => e = .returned (.agg #[.int .i64 q, .int .i64 v]) ∧ Below W.heap.size W w') := fun W hl => by
    have := specWindowsOf_any _ _ B n c' (gi xs) sl ev W (by omega) hl
    rw [hqv] at this; exact this
  have IPW : Hid (∀ (W : World), Sl W 0 w1.heap.size B (n * 7) (fun j => .int .i64 (gi xs j)) → Calls Tryz.prog 10 #[.int .i64 sl, .slice B n c', .int .i64 ev] W fun e w' => e = .returned (.agg #[.int .i64 q, .int .i64 v]) ∧ Below W.heap.size W w') := fun W hl => by
    have := implWindowsOf_any _ _ B n c' (gi xs) sl ev W (by omega) hl
    rw [hqv] at this; exact this
  clear ho hb hqv hy DR hk2 hev
  go_wp2_with fail
  refine IPB.out.mono ?_
  rintro e w2 ⟨rfl, hb⟩
  have R2 := Lib.hid hb
  have E2 : Hid (Sl w2 0 w1.heap.size B (n * 7) (fun j => .int .i64 (gi xs j))) := EV.out.below R2.out (Nat.le_refl _)
  clear hb IPB
  go_wp2_with fail
  refine (IPW.out w2 E2.out).mono ?_
  rintro e w3 ⟨rfl, hb⟩
  have R3 := Lib.hid (R2.out.trans (hb.mono R2.out.size))
  clear hb IPW E2
  obtain ⟨w4, hw4⟩ : ∃ V, V = w3.alloc (.cells #[.int .i64 q, .int .i64 v] 29) := ⟨_, rfl⟩
  obtain ⟨b1, hb1⟩ : ∃ b, b = w3.heap.size := ⟨_, rfl⟩
  have Kw4 : Hid (w4.heap[b1]? = some (.cells #[.int .i64 q, .int .i64 v] 29 (0, 0))) := by show _ = _; rw [hw4, hb1]; exact heap_alloc_new w3 _
  have Nw4 : Hid (Below w3.heap.size w3 w4) := by rw [hw4]; exact below_new w3 _
  have Zw4 : Hid (w4.heap.size = b1 + 1 ∧ b1 = w3.heap.size) := by show _ ∧ _; rw [hw4, hb1]; simp
  have HWw4 := Lib.hid hw4; have HBb1 := Lib.hid hb1
  clear hw4 hb1
  go_upto_region 6 with (fail)
  rw [← HWw4.out, ← HBb1.out]
  clear HWw4 HBb1
  have R4 : Hid (Below w1.heap.size w1 w4) := R3.out.trans (Nw4.out.mono R3.out.size)
  have W4 : Hid (Below w.heap.size w w4) := R1.out.trans (R4.out.mono R1.out.size)
  have DC := Lib.hid (DrawCountNotes_any 0 w.heap.size A k c b w4 hk HBY.out (CD.out w4 W4.out))
  go_wp2_with fail
  refine DC.out.mono ?_
  rintro e w5 ⟨C, m, cc, ns, who, kd, rfl, hm, hn5, hb⟩
  have R5 := Lib.hid hb
  have N5 := Lib.hid hn5
  clear hb hn5 DC
  have F : Hid (∀ W, Below w5.heap.size w5 W → (W.cell? ⟨b1, 0, none⟩ = some (.int .i64 q) ∧ W.cell? ⟨b1, 1, none⟩ = some (.int .i64 v)) ∧ Sl W 0 w1.heap.size B (n * 7) (fun j => .int .i64 (gi xs j)) ∧ Sl W w4.heap.size w5.heap.size C (m * 3) (fun j => .int .i64 (gi ns j)) ∧ Below w.heap.size w W) := fun W hW => by
    have z4 := Zw4.out; have s5 := R5.out.size; have s4 := R4.out.size; have s1 := R1.out.size
    have b4 : Below w4.heap.size w4 W := R5.out.trans (hW.mono s5)
    have b1' : Below w1.heap.size w1 W := R4.out.trans (b4.mono s4)
    have j1 := (b4.block b1 (by omega)).trans Kw4.out
    exact ⟨⟨cell_of_row W _ 0 _ _ _ j1, cell_of_row W _ 1 _ _ _ j1⟩, EV.out.below b1' (Nat.le_refl _), N5.out.below hW (Nat.le_refl _), R1.out.trans (b1'.mono s1)⟩
  have KH : Hid (∀ W, Below w5.heap.size w5 W → (W.cell? ⟨b1, 0, none⟩ = some (.int .i64 q) ∧ W.cell? ⟨b1, 1, none⟩ = some (.int .i64 v)) ∧ Below w5.heap.size w5 W) := fun W hW => ⟨(F.out W hW).1, hW⟩
  have SPB : Hid (∀ (W : World), Below w5.heap.size w5 W → Calls Tryz.prog 12 #[.int .i64 sl, .slice B n c', .int .i64 ev] W fun e w' => e = .returned (.bool y) ∧ Below w5.heap.size w5 w') := fun W hW => (SPB0.out W (F.out W hW).2.1).mono fun e w' hh => ⟨hh.1, hW.trans (hh.2.mono hW.size)⟩
  have SPW : Hid (∀ (W : World), Below w5.heap.size w5 W → Calls Tryz.prog 13 #[.int .i64 sl, .slice B n c', .int .i64 ev] W fun e w' => e = .returned (.agg #[.int .i64 q, .int .i64 v]) ∧ Below w5.heap.size w5 w') := fun W hW => (SPW0.out W (F.out W hW).2.1).mono fun e w' hh => ⟨hh.1, hW.trans (hh.2.mono hW.size)⟩
  obtain ⟨u, hu⟩ : ∃ u : Int, u = (nct (gi ns) who kd m : Int) := ⟨_, rfl⟩
  have SCN : Hid (∀ (W : World), Below w5.heap.size w5 W → Calls Tryz.prog 15 #[.slice C m cc, .int .i64 who, .int .i64 kd] W fun e w' => e = .returned (.int .i64 u) ∧ Below w5.heap.size w5 w') := fun W hW => (specCountNotes_any _ _ C m cc (gi ns) who kd W (by omega) (F.out W hW).2.2.1).mono fun e w' hh => ⟨hh.1.trans (by rw [hu]), hW.trans (hh.2.mono hW.size)⟩
  have ICN : Hid (∀ (W : World), Below w5.heap.size w5 W → Calls Tryz.prog 14 #[.slice C m cc, .int .i64 who, .int .i64 kd] W fun e w' => e = .returned (.int .i64 u) ∧ Below w5.heap.size w5 w') := fun W hW => (implCountNotes_any _ _ C m cc (gi ns) who kd W (by omega) (F.out W hW).2.2.1).mono fun e w' hh => ⟨hh.1.trans (by rw [hu]), hW.trans (hh.2.mono hW.size)⟩
  have hyy : (y != y) = false := by simp
  have hq : (q != q) = false := by simp
  have hv : (v != v) = false := by simp
  have huu : (u != u) = false := by simp
  clear hu SPB0 SPW0 Kw4 Nw4 Zw4 EV R1 R2 R3 R4 R5 W4 N5 CD HBY
  go_upto_region 7 with (fail)
  refine wp_region_held_drew (S := fun W => (W.cell? ⟨b1, 0, none⟩ = some (.int .i64 q) ∧ W.cell? ⟨b1, 1, none⟩ = some (.int .i64 v)) ∧ Below w5.heap.size w5 W) (by kernel_rfl) (KH.out _ (Below.drew (Below.refl _ _))) (fun hHeld => ?_)
  obtain ⟨v0, hv0⟩ : ∃ v0, v0 = w5.drew := ⟨_, rfl⟩
  have BL0 : Hid (Below w5.heap.size w5 v0) := by rw [hv0]; exact Below.drew (Below.refl _ _)
  rw [← hv0] at hHeld ⊢
  clear hv0
  refine tkH 0 ?_ rfl ?_ hHeld ?_; rotate_left; (intro w hSw; (try dsimp only at hSw); go_simp; try with_reducible rfl); try simp only [Act.put, zz1, zz2, zz3, zz4, zz5, zz6]
  refine tkH 1 ?_ rfl ?_ hHeld ?_; rotate_left; (intro w hSw; (try dsimp only at hSw); go_simp; try with_reducible rfl); try simp only [Act.put, zz1, zz2, zz3, zz4, zz5, zz6]
  refine tkH 2 ?_ rfl ?_ hHeld ?_; rotate_left; (intro w hSw; (try dsimp only at hSw); go_simp; try with_reducible rfl); try simp only [Act.put, zz1, zz2, zz3, zz4, zz5, zz6]
  refine tkH 3 ?_ rfl ?_ hHeld ?_; rotate_left; (intro w hSw; (try dsimp only at hSw); go_simp; try with_reducible rfl); try simp only [Act.put, zz1, zz2, zz3, zz4, zz5, zz6]
  refine wpAnyH_ready (rs := [4]) (by kernel_rfl) (by simp) ?_
  refine AllReadyH.cons (o := _) rfl (fun K0 hK0 => ?_) AllReadyH.nil
  go_simp
  refine (SPB.out _ (by go_split_ands; assumption)).mono ?_
  rintro e9 w6 ⟨rfl, hb6⟩
  go_wp2_with fail
  skip
  refine hK0.out _ _ (KH.out _ hb6) (fun hHeld => ?_)
  clear hK0 K0
  try simp only [Act.put, zz1, zz2, zz3, zz4, zz5, zz6]
  refine tkH 5 ?_ rfl ?_ hHeld ?_; rotate_left; (intro w hSw; (try dsimp only at hSw); go_simp; try with_reducible rfl); try simp only [Act.put, zz1, zz2, zz3, zz4, zz5, zz6]
  refine tkH 6 ?_ rfl ?_ hHeld ?_; rotate_left; (intro w hSw; (try dsimp only at hSw); go_simp; try with_reducible rfl); try simp only [Act.put, zz1, zz2, zz3, zz4, zz5, zz6]
  refine tkH 7 ?_ rfl ?_ hHeld ?_; rotate_left; (intro w hSw; (try dsimp only at hSw); go_simp; try with_reducible rfl); try simp only [Act.put, zz1, zz2, zz3, zz4, zz5, zz6]
  refine tkH 8 ?_ rfl ?_ hHeld ?_; rotate_left; (intro w hSw; (try dsimp only at hSw); go_simp; try with_reducible rfl); try simp only [Act.put, zz1, zz2, zz3, zz4, zz5, zz6]
  refine tkH 9 ?_ rfl ?_ hHeld ?_; rotate_left; (intro w hSw; (try dsimp only at hSw); go_simp; try with_reducible rfl); try simp only [Act.put, zz1, zz2, zz3, zz4, zz5, zz6]
  refine tkH 10 ?_ rfl ?_ hHeld ?_; rotate_left; (intro w hSw; (try dsimp only at hSw); go_simp; try with_reducible rfl); try simp only [Act.put, zz1, zz2, zz3, zz4, zz5, zz6]
  refine wpAnyH_ready (rs := [11]) (by kernel_rfl) (by simp) ?_
  refine AllReadyH.cons (o := _) rfl (fun K0 hK0 => ?_) AllReadyH.nil
  go_simp
  refine (SPW.out _ (by go_split_ands; assumption)).mono ?_
  rintro e9 w7 ⟨rfl, hb7⟩
  go_wp2_with fail
  skip
  refine hK0.out _ _ (KH.out _ hb7) (fun hHeld => ?_)
  clear hK0 K0
  try simp only [Act.put, zz1, zz2, zz3, zz4, zz5, zz6]
  refine tkH 12 ?_ rfl ?_ hHeld ?_; rotate_left; (intro w hSw; (try dsimp only at hSw); go_simp; try with_reducible rfl); try simp only [Act.put, zz1, zz2, zz3, zz4, zz5, zz6]
  refine tkH 13 ?_ rfl ?_ hHeld ?_; rotate_left; (intro w hSw; (try dsimp only at hSw); go_simp; try with_reducible rfl); try simp only [Act.put, zz1, zz2, zz3, zz4, zz5, zz6]
  refine tkH 14 ?_ rfl ?_ hHeld ?_; rotate_left; (intro w hSw; (try dsimp only at hSw); go_simp; try with_reducible rfl); try simp only [Act.put, zz1, zz2, zz3, zz4, zz5, zz6]
  refine tkH 15 ?_ rfl ?_ hHeld ?_; rotate_left; (intro w hSw; (try dsimp only at hSw); go_simp; try with_reducible rfl); try simp only [Act.put, zz1, zz2, zz3, zz4, zz5, zz6]
  refine tkH 16 ?_ rfl ?_ hHeld ?_; rotate_left; (intro w hSw; (try dsimp only at hSw); go_simp; try with_reducible rfl); try simp only [Act.put, zz1, zz2, zz3, zz4, zz5, zz6]
  refine tkH 17 ?_ rfl ?_ hHeld ?_; rotate_left; (intro w hSw; (try dsimp only at hSw); go_simp; try with_reducible rfl); try simp only [Act.put, zz1, zz2, zz3, zz4, zz5, zz6]
  refine tkH 19 ?_ rfl ?_ hHeld ?_; rotate_left; (intro w hSw; (try dsimp only at hSw); go_simp; try with_reducible rfl); try simp only [Act.put, zz1, zz2, zz3, zz4, zz5, zz6]
  refine tkH 20 ?_ rfl ?_ hHeld ?_; rotate_left; (intro w hSw; (try dsimp only at hSw); go_simp; try with_reducible rfl); try simp only [Act.put, zz1, zz2, zz3, zz4, zz5, zz6]
  refine tkH 21 ?_ rfl ?_ hHeld ?_; rotate_left; (intro w hSw; (try dsimp only at hSw); go_simp; try with_reducible rfl); try simp only [Act.put, zz1, zz2, zz3, zz4, zz5, zz6]
  refine wpAnyH_ready (rs := [18]) (by kernel_rfl) (by simp) ?_
  refine AllReadyH.cons (o := _) rfl (fun K0 hK0 => ?_) AllReadyH.nil
  go_simp
  refine (ICN.out _ (by go_split_ands; assumption)).mono ?_
  rintro e9 w8 ⟨rfl, hb8⟩
  go_wp2_with fail
  skip
  refine hK0.out _ _ (KH.out _ hb8) (fun hHeld => ?_)
  clear hK0 K0
  try simp only [Act.put, zz1, zz2, zz3, zz4, zz5, zz6]
  refine wpAnyH_ready (rs := [22]) (by kernel_rfl) (by simp) ?_
  refine AllReadyH.cons (o := _) rfl (fun K0 hK0 => ?_) AllReadyH.nil
  go_simp
  refine (SCN.out _ (by go_split_ands; assumption)).mono ?_
  rintro e9 w9 ⟨rfl, hb9⟩
  go_wp2_with fail
  skip
  refine hK0.out _ _ (KH.out _ hb9) (fun hHeld => ?_)
  clear hK0 K0
  try simp only [Act.put, zz1, zz2, zz3, zz4, zz5, zz6]
  refine tkH 23 ?_ rfl ?_ hHeld ?_; rotate_left; (intro w hSw; (try dsimp only at hSw); go_simp; try with_reducible rfl); try simp only [Act.put, zz1, zz2, zz3, zz4, zz5, zz6]
  refine tkH 24 ?_ rfl ?_ hHeld ?_; rotate_left; (intro w hSw; (try dsimp only at hSw); go_simp; try with_reducible rfl); try simp only [Act.put, zz1, zz2, zz3, zz4, zz5, zz6]
  refine wpAnyH_done (by kernel_rfl) ?_ _
  clear hHeld
  have B9 := Lib.hid hb9
  clear hb6 hb7 hb8 hb9 BL0 SPB SPW SCN ICN KH
  obtain ⟨⟨z0, z1⟩, _, _, bw⟩ := F.out w9 B9.out
  have BW := Lib.hid bw
  clear bw
  by_cases h0 : q = 0
  case neg =>
    have e1 : (q != 0) = true := by simp [h0]
    have e2 : y = false := by rw [← HY.out]; exact wnd9_bad QV.out h0
    subst e2
    go_wp2
    go_ret
    exact ⟨rfl, BW.out⟩
  subst h0
  have e1 : ((0 : Int) != 0) = false := by simp
  obtain ⟨hbt, K, cs, ms, hrk, h3, hl, hv2⟩ := wnd9_sum QV.out
  obtain rfl : y = true := HY.out.symm.trans hbt
  have HV2 := Lib.hid hv2
  have H3 := Lib.hid h3
  have HL := Lib.hid hl
  have IPK := Lib.hid (implRunKernel_any 0 w1.heap.size B n c' (gi xs) sl w9 (by omega) (F.out w9 B9.out).2.1)
  rw [hrk] at IPK
  clear hbt hrk hv2 h3 hl QV HY
  go_wp2_with fail
  refine IPK.out.mono ?_
  rintro e wb ⟨p, rfl, ho, hb⟩
  have ho : RQ wb w9.heap.size wb.heap.size p K cs ms := ho
  have O2 : Hid (Sl wb p.g5 (p.g5 + 1) p.A5 (p.n5 * 3) (fun j => .int .i64 (gi ms j)) ∧ p.g5 < wb.heap.size ∧ ms.length = p.n5 * 3) := ⟨ho.notes10, ho.b5.2, ho.l5⟩
  have RB := Lib.hid hb
  clear ho hb IPK z0 z1
  unfold Rq.cells
  dsimp only
  obtain ⟨wc, hwc⟩ : ∃ V, V = wb.alloc (.cells #[.int .i64 0, .slice p.A1 p.n1 p.c1, .slice p.A2 p.n2 p.c2, .slice p.A3 p.n3 p.c3, .int .i64 K.tick, .int .i64 K.run, .slice p.A4 p.n4 p.c4, .slice p.A5 p.n5 p.c5] 41) := ⟨_, rfl⟩
  obtain ⟨b2, hb2⟩ : ∃ b, b = wb.heap.size := ⟨_, rfl⟩
  have Kwc : Hid (wc.heap[b2]? = some (.cells #[.int .i64 0, .slice p.A1 p.n1 p.c1, .slice p.A2 p.n2 p.c2, .slice p.A3 p.n3 p.c3, .int .i64 K.tick, .int .i64 K.run, .slice p.A4 p.n4 p.c4, .slice p.A5 p.n5 p.c5] 41 (0, 0))) := by show _ = _; rw [hwc, hb2]; exact heap_alloc_new wb _
  have Nwc : Hid (Below wb.heap.size wb wc) := by rw [hwc]; exact below_new wb _
  have Zwc : Hid (wc.heap.size = b2 + 1 ∧ b2 = wb.heap.size) := by show _ ∧ _; rw [hwc, hb2]; simp
  have HWwc := Lib.hid hwc; have HBb2 := Lib.hid hb2
  clear hwc hb2
  go_upto_region 12 with (fail)
  rw [← HWwc.out, ← HBb2.out]
  clear HWwc HBb2
  have F2 : Hid (∀ W, Below wc.heap.size wc W → (W.cell? ⟨b1, 0, none⟩ = some (.int .i64 0) ∧ W.cell? ⟨b1, 1, none⟩ = some (.int .i64 v) ∧ W.cell? ⟨b2, 7, none⟩ = some (.slice p.A5 p.n5 p.c5)) ∧ Sl W p.g5 (p.g5 + 1) p.A5 (p.n5 * 3) (fun j => .int .i64 (gi ms j)) ∧ Below w.heap.size w W) := fun W hW => by
    have zc := Zwc.out; have sb := RB.out.size; have s9 := B9.out.size
    have bb : Below wb.heap.size wb W := Nwc.out.trans (hW.mono (by omega))
    have b9 : Below w9.heap.size w9 W := RB.out.trans (bb.mono sb)
    obtain ⟨⟨f0, f1⟩, _, _, fw⟩ := F.out W (B9.out.trans (b9.mono s9))
    have j2 := (hW.block b2 (by omega)).trans Kwc.out
    exact ⟨⟨f0, f1, cell_of_row W _ 7 _ _ _ j2⟩, O2.out.1.below bb (by have := O2.out.2.1; omega), fw⟩
  have KH2 : Hid (∀ W, Below wc.heap.size wc W → (W.cell? ⟨b1, 0, none⟩ = some (.int .i64 0) ∧ W.cell? ⟨b1, 1, none⟩ = some (.int .i64 v) ∧ W.cell? ⟨b2, 7, none⟩ = some (.slice p.A5 p.n5 p.c5)) ∧ Below wc.heap.size wc W) := fun W hW => ⟨(F2.out W hW).1, hW⟩
  have nn : ms.length / 3 = p.n5 := by have := O2.out.2.2; omega
  have CNT : Hid (∀ (kk : Int) (W : World), Below wc.heap.size wc W → Calls Tryz.prog 14 #[.slice p.A5 p.n5 p.c5, .int .i64 ev, .int .i64 kk] W fun e w' => e = .returned (.int .i64 (nct (gi ms) ev kk p.n5 : Int)) ∧ Below wc.heap.size wc w') := fun kk W hW => (implCountNotes_any _ _ p.A5 p.n5 p.c5 (gi ms) ev kk W (by have := HL.out; omega) (F2.out W hW).2.1).mono fun e w' hh => ⟨hh.1, hW.trans (hh.2.mono hW.size)⟩
  have SUM : v = (nct (gi ms) ev 1 p.n5 : Int) + (nct (gi ms) ev 2 p.n5 : Int) := by rw [HV2.out, nn]
  have n1 := nct_le (gi ms) ev 1 p.n5
  have n2 := nct_le (gi ms) ev 2 p.n5
  have pn : p.n5 ≤ 1200 := by have := HL.out; omega
  obtain ⟨a1, ha1⟩ : ∃ a1 : Int, a1 = (nct (gi ms) ev 1 p.n5 : Int) := ⟨_, rfl⟩
  obtain ⟨a2, ha2⟩ : ∃ a2 : Int, a2 = (nct (gi ms) ev 2 p.n5 : Int) := ⟨_, rfl⟩
  have C1 : Hid (∀ (W : World), Below wc.heap.size wc W → Calls Tryz.prog 14 #[.slice p.A5 p.n5 p.c5, .int .i64 ev, .int .i64 1] W fun e w' => e = .returned (.int .i64 a1) ∧ Below wc.heap.size wc w') := fun W hW => by rw [ha1]; exact CNT.out 1 W hW
  have C2 : Hid (∀ (W : World), Below wc.heap.size wc W → Calls Tryz.prog 14 #[.slice p.A5 p.n5 p.c5, .int .i64 ev, .int .i64 2] W fun e w' => e = .returned (.int .i64 a2) ∧ Below wc.heap.size wc w') := fun W hW => by rw [ha2]; exact CNT.out 2 W hW
  rw [← ha1, ← ha2] at SUM
  have y1 : IntKind.i64.wrap (a1 + a2) = a1 + a2 := IntWalk.i64_in _ (by omega)
  have y2 : (v == a1 + a2) = true := by rw [SUM]; simp
  have FIN : Hid (∀ W, Below wc.heap.size wc W → Below w.heap.size w W) := fun W hW => (F2.out W hW).2.2
  clear CNT SUM n1 n2 ha1 ha2 nn HV2 H3 HL F2 O2 Kwc Nwc Zwc RB B9 BW F
  refine wp_region_held_drew (S := fun W => (W.cell? ⟨b1, 0, none⟩ = some (.int .i64 0) ∧ W.cell? ⟨b1, 1, none⟩ = some (.int .i64 v) ∧ W.cell? ⟨b2, 7, none⟩ = some (.slice p.A5 p.n5 p.c5)) ∧ Below wc.heap.size wc W) (by kernel_rfl) (KH2.out _ (Below.drew (Below.refl _ _))) (fun hHeld => ?_)
  obtain ⟨v0, hv0⟩ : ∃ v0, v0 = wc.drew := ⟨_, rfl⟩
  have BL0 : Hid (Below wc.heap.size wc v0) := by rw [hv0]; exact Below.drew (Below.refl _ _)
  rw [← hv0] at hHeld ⊢
  clear hv0
  refine tkH 0 ?_ rfl ?_ hHeld ?_; rotate_left; (intro w hSw; (try dsimp only at hSw); go_simp; try with_reducible rfl); try simp only [Act.put, zz1, zz2, zz3, zz4, zz5, zz6]
  refine tkH 1 ?_ rfl ?_ hHeld ?_; rotate_left; (intro w hSw; (try dsimp only at hSw); go_simp; try with_reducible rfl); try simp only [Act.put, zz1, zz2, zz3, zz4, zz5, zz6]
  refine tkH 2 ?_ rfl ?_ hHeld ?_; rotate_left; (intro w hSw; (try dsimp only at hSw); go_simp; try with_reducible rfl); try simp only [Act.put, zz1, zz2, zz3, zz4, zz5, zz6]
  refine tkH 3 ?_ rfl ?_ hHeld ?_; rotate_left; (intro w hSw; (try dsimp only at hSw); go_simp; try with_reducible rfl); try simp only [Act.put, zz1, zz2, zz3, zz4, zz5, zz6]
  refine tkH 4 ?_ rfl ?_ hHeld ?_; rotate_left; (intro w hSw; (try dsimp only at hSw); go_simp; try with_reducible rfl); try simp only [Act.put, zz1, zz2, zz3, zz4, zz5, zz6]
  refine tkH 5 ?_ rfl ?_ hHeld ?_; rotate_left; (intro w hSw; (try dsimp only at hSw); go_simp; try with_reducible rfl); try simp only [Act.put, zz1, zz2, zz3, zz4, zz5, zz6]
  refine tkH 6 ?_ rfl ?_ hHeld ?_; rotate_left; (intro w hSw; (try dsimp only at hSw); go_simp; try with_reducible rfl); try simp only [Act.put, zz1, zz2, zz3, zz4, zz5, zz6]
  refine tkH 8 ?_ rfl ?_ hHeld ?_; rotate_left; (intro w hSw; (try dsimp only at hSw); go_simp; try with_reducible rfl); try simp only [Act.put, zz1, zz2, zz3, zz4, zz5, zz6]
  refine tkH 9 ?_ rfl ?_ hHeld ?_; rotate_left; (intro w hSw; (try dsimp only at hSw); go_simp; try with_reducible rfl); try simp only [Act.put, zz1, zz2, zz3, zz4, zz5, zz6]
  refine tkH 10 ?_ rfl ?_ hHeld ?_; rotate_left; (intro w hSw; (try dsimp only at hSw); go_simp; try with_reducible rfl); try simp only [Act.put, zz1, zz2, zz3, zz4, zz5, zz6]
  refine wpAnyH_ready (rs := [7]) (by kernel_rfl) (by simp) ?_
  refine AllReadyH.cons (o := _) rfl (fun K0 hK0 => ?_) AllReadyH.nil
  go_simp
  refine (C1.out _ (by go_split_ands; assumption)).mono ?_
  rintro e9 wd ⟨rfl, hbd⟩
  go_wp2_with fail
  skip
  refine hK0.out _ _ (KH2.out _ hbd) (fun hHeld => ?_)
  clear hK0 K0
  try simp only [Act.put, zz1, zz2, zz3, zz4, zz5, zz6]
  refine wpAnyH_ready (rs := [11]) (by kernel_rfl) (by simp) ?_
  refine AllReadyH.cons (o := _) rfl (fun K0 hK0 => ?_) AllReadyH.nil
  go_simp
  refine (C2.out _ (by go_split_ands; assumption)).mono ?_
  rintro e9 we ⟨rfl, hbe⟩
  go_wp2_with fail
  skip
  refine hK0.out _ _ (KH2.out _ hbe) (fun hHeld => ?_)
  clear hK0 K0
  try simp only [Act.put, zz1, zz2, zz3, zz4, zz5, zz6]
  refine tkH 12 ?_ rfl ?_ hHeld ?_; rotate_left; (intro w hSw; (try dsimp only at hSw); go_simp; try with_reducible rfl); try simp only [Act.put, zz1, zz2, zz3, zz4, zz5, zz6]
  refine tkH 13 ?_ rfl ?_ hHeld ?_; rotate_left; (intro w hSw; (try dsimp only at hSw); go_simp; try with_reducible rfl); try simp only [Act.put, zz1, zz2, zz3, zz4, zz5, zz6]
  refine tkH 14 ?_ rfl ?_ hHeld ?_; rotate_left; (intro w hSw; (try dsimp only at hSw); go_simp; try with_reducible rfl); try simp only [Act.put, zz1, zz2, zz3, zz4, zz5, zz6]
  refine tkH 15 ?_ rfl ?_ hHeld ?_; rotate_left; (intro w hSw; (try dsimp only at hSw); go_simp; try with_reducible rfl); try simp only [Act.put, zz1, zz2, zz3, zz4, zz5, zz6]
  refine wpAnyH_done (by kernel_rfl) ?_ _
  clear hHeld
  go_wp2
  go_ret
  exact ⟨rfl, FIN.out _ hbe⟩

end Go.Proofs.YtckapndpefkcgaaGreat
