/-
  The walk of FnApart.
-/
import Derived.Test.YtckapndpefkcgaaGreatDrawW10
import Derived.Test.YtckapndpefkcgaaGreatMuteS9
import Derived.Test.YtckapndpefkcgaaGreatMuteI9
import Derived.Test.YtckapndpefkcgaaGreatRuns9
import Derived.Test.YtckapndpefkcgaaGreatMath9d
import Derived.Test.YtckapndpefkcgaaGreatU8s
set_option maxHeartbeats 1000000
namespace Go.Proofs.YtckapndpefkcgaaGreat
open List renaming getElem_toArray → zz1, getElem_cons_succ → zz2, getElem_cons_zero → zz3, setIfInBounds_toArray → zz4, set_cons_zero → zz5, set_cons_succ → zz6
open Go.RowKit
set_option maxRecDepth 100000

theorem lwNums_eq (lo hi lo' hi' : Nat) (A A' : Option Addr) (xs : List Int) (n c c' : Nat) (w : World) (hn : n * 8 ≤ 140737488351232) (ex : xs.length = n)
    (h : Sl w lo hi A n (fun k => .int .i64 (gi xs k))) (h' : Sl w lo' hi' A' n (fun k => .int .i64 (gi xs k))) :
    Calls Tryz.prog 22 #[.slice A n c, .slice A' n c'] w fun e w' => e = .returned (.bool true) ∧ Below w.heap.size w w' :=
  (lwNums_any lo hi lo' hi' A A' xs xs n n c c' w hn ex ex h h').mono fun e w' hh => ⟨hh.1.trans (by simp), hh.2⟩
theorem mut9_apart {mm : Int} {x : Nat → Int} {n : Nat} {ev : Int} (h : ask9 mm n ev = 0) :
    ∃ L1 L2 T, mut9 mm x n ev 1 = (0, L1) ∧ mut9 mm x n ev 2 = (0, L2) ∧ L1.length = n * 7 ∧ L2.length = n * 7 ∧ runs9 mm (gi L1) n ev = (0, T) ∧ runs9 mm (gi L2) n ev = (0, T) ∧ T.length ≤ 400 ∧ ∀ i, i + 1 < T.length → gi T i < gi T (i + 1) := by
  obtain ⟨ha, hi⟩ := ask9_zero h
  obtain ⟨_, h1, h4⟩ := rk3_good (x := x) ha
  obtain ⟨sk, _⟩ := sk_new h1
  obtain ⟨e, he, rfl⟩ : ∃ e : Nat, e < 4 ∧ ev = (e : Int) := by
    have h2 : 0 ≤ ev ∧ ev < 4 := by unfold inEnv at hi; simp at hi; omega
    exact ⟨ev.toNat, by omega, by omega⟩
  have ap := apart9 he sk rfl x (.inl rfl : (1 : Int) = 1 ∨ (1 : Int) = 2) (.inr rfl : (2 : Int) = 1 ∨ (2 : Int) = 2) n h4 n (Nat.le_refl _)
  refine ⟨_, _, _, by unfold mut9; rw [if_neg (by simp [h]), if_neg (by omega)], by unfold mut9; rw [if_neg (by simp [h]), if_neg (by omega)], mu_len _ _ _ _ _, mu_len _ _ _ _ _, by unfold runs9; rw [if_neg (by simp [h])], by unfold runs9; rw [if_neg (by simp [h]), ap], ?_, ?_⟩
  · exact Nat.le_trans (tks_le _ _ _ n) h4
  · exact (tks_rise (acts9 (e : Int)) sk rfl _ n h4).2
theorem mut9_code {mm : Int} {x : Nat → Int} {n : Nat} {ev kd : Int} {L : List Int} (h : mut9 mm x n ev kd = (0, L)) : ask9 mm n ev = 0 := by
  unfold mut9 at h
  by_cases h0 : ask9 mm n ev = 0
  · exact h0
  · rw [if_pos (by simpa using h0)] at h
    exact congrArg Prod.fst h
theorem mut9_le {mm : Int} {x : Nat → Int} {n : Nat} {ev kd : Int} : (mut9 mm x n ev kd).2.length ≤ 2800 := by
  unfold mut9
  by_cases h0 : ask9 mm n ev = 0
  · rw [if_neg (by simp [h0])]
    by_cases h1 : kd ≠ 1 ∧ kd ≠ 2
    · rw [if_pos h1]; exact Nat.zero_le _
    · rw [if_neg h1]
      have := mu_len x ev kd (new3 mm) n
      have h4 := (rk3_good (x := x) (ask9_zero h0).1).2.2
      show (mu9 x ev kd (new3 mm) n).2.1.length ≤ 2800
      omega
  · rw [if_pos (by simpa using h0)]
    exact Nat.zero_le _

set_option maxHeartbeats 16000000 in
theorem walkApart (A : Option Addr) (k c : Nat) (b : Nat → Int) (w : World) (h : Sl w 0 w.heap.size A k (fun j => .int .u8 (b j))) (hb : ∀ j, 0 ≤ b j ∧ b j ≤ 255) (hk : k ≤ 1048576) :
    Calls Tryz.prog 4 #[.slice A k c] w fun e w' => e = .returned (.bool true) ∧ Below w.heap.size w w' := by
  have DR := Lib.hid (DrawMutedEvents_any 0 w.heap.size A k c b w hk hb h)
  clear h hb
  go_enter Tryz.func4, Tryz.ntmps4
  go_wp2_with fail
  refine (lwBig_any A k c w).mono ?_
  rintro e w' ⟨rfl, rfl⟩
  have hk2 : ¬ ((1048576 : Int) < (k : Int)) := by omega
  go_wp2_with fail
  refine DR.out.mono ?_
  rintro e w1 ⟨sl, B, n, c', xs, ev, kd, rfl, hsl, hn, hev, hkd, ho, hb⟩
  have EV : Hid (Sl w1 0 w1.heap.size B (n * 7) (fun j => .int .i64 (gi xs j))) := by
    have := OR.sl0 ho
    exact this.wide (Nat.zero_le _) (Nat.le_refl _)
  have CAP : Hid (B = none → c' = 0) := fun e => by
    subst e
    exact (OR.nil0 ho).2
  have R1 := Lib.hid hb
  obtain ⟨q, L, hqL⟩ : ∃ q L, mut9 sl (gi xs) n ev kd = (q, L) := ⟨_, _, rfl⟩
  obtain ⟨r, T, hrT⟩ : ∃ r T, runs9 sl (gi xs) n ev = (r, T) := ⟨_, _, rfl⟩
  have LL : Hid (L.length ≤ 2800) := by have := mut9_le (mm := sl) (x := gi xs) (n := n) (ev := ev) (kd := kd); rw [hqL] at this; exact this
  have LT : Hid (T.length ≤ 400) := by have := runs9_len sl (gi xs) n ev; rw [hrT] at this; exact this
  have QL := Lib.hid hqL
  have SPM : Hid (∀ (W : World) (lo hi : Nat), Sl W lo hi B (n * 7) (fun j => .int .i64 (gi xs j)) → Calls Tryz.prog 19 #[.int .i64 sl, .slice B n c', .int .i64 ev, .int .i64 kd] W (AnsM (q, L) W)) := fun W lo hi hl => by
    rw [← hqL]; exact specMutedEvents_any lo hi B n c' (gi xs) sl ev kd W (by omega) hl
  have IPM : Hid (∀ (W : World) (lo hi : Nat), Sl W lo hi B (n * 7) (fun j => .int .i64 (gi xs j)) → Calls Tryz.prog 18 #[.int .i64 sl, .slice B n c', .int .i64 ev, .int .i64 kd] W (AnsM (q, L) W)) := fun W lo hi hl => by
    rw [← hqL]; exact implMutedEvents_any lo hi B n c' (gi xs) sl ev kd W (by omega) CAP.out hl
  have SPR : Hid (∀ (W : World) (lo hi : Nat), Sl W lo hi B (n * 7) (fun j => .int .i64 (gi xs j)) → Calls Tryz.prog 21 #[.int .i64 sl, .slice B n c', .int .i64 ev] W (Ans 2 (r, T) W)) := fun W lo hi hl => by
    rw [← hrT]; exact specRunsOf_any lo hi B n c' (gi xs) sl ev W (by omega) hl
  have IPR : Hid (∀ (W : World) (lo hi : Nat), Sl W lo hi B (n * 7) (fun j => .int .i64 (gi xs j)) → Calls Tryz.prog 20 #[.int .i64 sl, .slice B n c', .int .i64 ev] W (Ans 2 (r, T) W)) := fun W lo hi hl => by
    rw [← hrT]; exact implRunsOf_any lo hi B n c' (gi xs) sl ev W (by omega) hl
  clear ho hb hqL hrT DR hk2 hkd
  go_wp2_with fail
  refine (IPM.out w1 0 w1.heap.size EV.out).mono ?_
  rintro e w2 ⟨A1, k1, c1, rfl, hl1, hc1, ho, hb⟩
  have hl1 : L.length = k1 * 7 := hl1
  have O1 : Hid (Sl w2 w1.heap.size w2.heap.size A1 (k1 * 7) (fun j => .int .i64 (gi L j))) := ho.sl
  have R2 := Lib.hid hb
  clear ho hb hc1
  dsimp only
  obtain ⟨w3, hw3⟩ : ∃ V, V = w2.alloc (.cells #[.int .i64 q, .slice A1 k1 c1] 46) := ⟨_, rfl⟩
  obtain ⟨b1, hb1⟩ : ∃ b, b = w2.heap.size := ⟨_, rfl⟩
  have Kw3 : Hid (w3.heap[b1]? = some (.cells #[.int .i64 q, .slice A1 k1 c1] 46 (0, 0))) := by show _ = _; rw [hw3, hb1]; exact heap_alloc_new w2 _
  have Nw3 : Hid (Below w2.heap.size w2 w3) := by rw [hw3]; exact below_new w2 _
  have Zw3 : Hid (w3.heap.size = b1 + 1 ∧ b1 = w2.heap.size) := by show _ ∧ _; rw [hw3, hb1]; simp
  have HWw3 := Lib.hid hw3; have HBw3 := Lib.hid hb1
  clear hw3 hb1
  have EV3 : Hid (Sl w3 0 w1.heap.size B (n * 7) (fun j => .int .i64 (gi xs j))) := EV.out.below (R2.out.trans (Nw3.out.mono R2.out.size)) (Nat.le_refl _)
  go_upto_region 5 with (fail)
  rw [← HWw3.out, ← HBw3.out]
  clear HWw3 HBw3
  go_wp2_with fail
  refine (SPM.out w3 0 w1.heap.size EV3.out).mono ?_
  rintro e w4 ⟨A2, k2, c2, rfl, hl2, hc2, ho, hb⟩
  have hl2 : L.length = k2 * 7 := hl2
  obtain rfl : k2 = k1 := by omega
  have O2 : Hid (Sl w4 w3.heap.size w4.heap.size A2 (k2 * 7) (fun j => .int .i64 (gi L j))) := ho.sl
  have R4 := Lib.hid hb
  clear ho hb hc2 hl2 SPM
  dsimp only
  obtain ⟨w5, hw5⟩ : ∃ V, V = w4.alloc (.cells #[.int .i64 q, .slice A2 k2 c2] 46) := ⟨_, rfl⟩
  obtain ⟨b2, hb2⟩ : ∃ b, b = w4.heap.size := ⟨_, rfl⟩
  have Kw5 : Hid (w5.heap[b2]? = some (.cells #[.int .i64 q, .slice A2 k2 c2] 46 (0, 0))) := by show _ = _; rw [hw5, hb2]; exact heap_alloc_new w4 _
  have Nw5 : Hid (Below w4.heap.size w4 w5) := by rw [hw5]; exact below_new w4 _
  have Zw5 : Hid (w5.heap.size = b2 + 1 ∧ b2 = w4.heap.size) := by show _ ∧ _; rw [hw5, hb2]; simp
  have HWw5 := Lib.hid hw5; have HBw5 := Lib.hid hb2
  clear hw5 hb2
  have EV5 : Hid (Sl w5 0 w1.heap.size B (n * 7) (fun j => .int .i64 (gi xs j))) := EV3.out.below (R4.out.trans (Nw5.out.mono R4.out.size)) (by have := Zw3.out; have := R2.out.size; omega)
  go_upto_region 6 with (fail)
  rw [← HWw5.out, ← HBw5.out]
  clear HWw5 HBw5 EV3
  go_wp2_with fail
  refine (IPR.out w5 0 w1.heap.size EV5.out).mono ?_
  rintro e w6 ⟨A3, k3, c3, rfl, hl3, hc3, ho, hb⟩
  have T3 : Hid (T.length = k3) := hl3
  have O3 : Hid (Sl w6 w5.heap.size w6.heap.size A3 k3 (fun j => .int .i64 (gi T j))) := ho.sl
  have R6 := Lib.hid hb
  have lk3 : k3 ≤ 400 := by have := LT.out; have := T3.out; omega
  clear ho hb hc3 hl3
  dsimp only
  obtain ⟨w7, hw7⟩ : ∃ V, V = w6.alloc (.cells #[.int .i64 r, .slice A3 k3 c3] 49) := ⟨_, rfl⟩
  obtain ⟨b3, hb3⟩ : ∃ b, b = w6.heap.size := ⟨_, rfl⟩
  have Kw7 : Hid (w7.heap[b3]? = some (.cells #[.int .i64 r, .slice A3 k3 c3] 49 (0, 0))) := by show _ = _; rw [hw7, hb3]; exact heap_alloc_new w6 _
  have Nw7 : Hid (Below w6.heap.size w6 w7) := by rw [hw7]; exact below_new w6 _
  have Zw7 : Hid (w7.heap.size = b3 + 1 ∧ b3 = w6.heap.size) := by show _ ∧ _; rw [hw7, hb3]; simp
  have HWw7 := Lib.hid hw7; have HBw7 := Lib.hid hb3
  clear hw7 hb3
  go_upto_region 7 with (fail)
  rw [← HWw7.out, ← HBw7.out]
  clear HWw7 HBw7 EV5
  have F : Hid (∀ W, Below w7.heap.size w7 W → (W.cell? ⟨b1, 0, none⟩ = some (.int .i64 q) ∧ W.cell? ⟨b1, 1, none⟩ = some (.slice A1 k2 c1)) ∧ (W.cell? ⟨b2, 0, none⟩ = some (.int .i64 q) ∧ W.cell? ⟨b2, 1, none⟩ = some (.slice A2 k2 c2)) ∧ (W.cell? ⟨b3, 0, none⟩ = some (.int .i64 r) ∧ W.cell? ⟨b3, 1, none⟩ = some (.slice A3 k3 c3)) ∧ Sl W w1.heap.size w2.heap.size A1 (k2 * 7) (fun j => .int .i64 (gi L j)) ∧ Sl W w3.heap.size w4.heap.size A2 (k2 * 7) (fun j => .int .i64 (gi L j)) ∧ Sl W w5.heap.size w6.heap.size A3 k3 (fun j => .int .i64 (gi T j)) ∧ Sl W 0 w1.heap.size B (n * 7) (fun j => .int .i64 (gi xs j)) ∧ Below w.heap.size w W) := fun W hW => by
    have z3 := Zw3.out; have z5 := Zw5.out; have z7 := Zw7.out
    have s1 := R1.out.size; have s2 := R2.out.size; have s4 := R4.out.size; have s6 := R6.out.size
    have b6 : Below w6.heap.size w6 W := Nw7.out.trans (hW.mono (by omega))
    have b5 : Below w5.heap.size w5 W := R6.out.trans (b6.mono s6)
    have b4 : Below w4.heap.size w4 W := Nw5.out.trans (b5.mono (by omega))
    have b3' : Below w3.heap.size w3 W := R4.out.trans (b4.mono s4)
    have b2' : Below w2.heap.size w2 W := Nw3.out.trans (b3'.mono (by omega))
    have b1' : Below w1.heap.size w1 W := R2.out.trans (b2'.mono s2)
    have j1 := (b3'.block b1 (by omega)).trans Kw3.out
    have j2 := (b5.block b2 (by omega)).trans Kw5.out
    have j3 := (hW.block b3 (by omega)).trans Kw7.out
    exact ⟨⟨cell_of_row W _ 0 _ _ _ j1, cell_of_row W _ 1 _ _ _ j1⟩, ⟨cell_of_row W _ 0 _ _ _ j2, cell_of_row W _ 1 _ _ _ j2⟩, ⟨cell_of_row W _ 0 _ _ _ j3, cell_of_row W _ 1 _ _ _ j3⟩, O1.out.below b2' (Nat.le_refl _), O2.out.below b4 (Nat.le_refl _), O3.out.below b6 (Nat.le_refl _), EV.out.below b1' (Nat.le_refl _), R1.out.trans (b1'.mono s1)⟩
  have KH : Hid (∀ W, Below w7.heap.size w7 W → ((W.cell? ⟨b1, 0, none⟩ = some (.int .i64 q) ∧ W.cell? ⟨b1, 1, none⟩ = some (.slice A1 k2 c1)) ∧ (W.cell? ⟨b2, 0, none⟩ = some (.int .i64 q) ∧ W.cell? ⟨b2, 1, none⟩ = some (.slice A2 k2 c2)) ∧ (W.cell? ⟨b3, 0, none⟩ = some (.int .i64 r) ∧ W.cell? ⟨b3, 1, none⟩ = some (.slice A3 k3 c3))) ∧ Below w7.heap.size w7 W) := fun W hW => by
    obtain ⟨f1, f2, f3, _⟩ := F.out W hW
    exact ⟨⟨f1, f2, f3⟩, hW⟩
  have SR : Hid (∀ W, Below w7.heap.size w7 W → Calls Tryz.prog 21 #[.int .i64 sl, .slice B n c', .int .i64 ev] W fun e w' => ∃ A9 c9, e = .returned (.agg #[.int .i64 r, .slice A9 k3 c9]) ∧ Sl w' W.heap.size w'.heap.size A9 k3 (fun j => .int .i64 (gi T j)) ∧ Below w7.heap.size w7 w') := fun W hW => by
    obtain ⟨_, _, _, _, _, _, ev', _⟩ := F.out W hW
    refine (SPR.out W _ _ ev').mono ?_
    rintro e w' ⟨A9, k9, c9, rfl, hl, _, hm, hb⟩
    have hl : T.length = k9 := hl
    obtain rfl : k9 = k3 := hl.symm.trans T3.out
    exact ⟨A9, c9, rfl, hm.sl, hW.trans (hb.mono hW.size)⟩
  clear O1 O2 O3 Kw3 Kw5 Kw7 Nw3 Nw5 Nw7 R1 R2 R4 R6 Zw3 Zw5 Zw7 EV IPR SPR
  have hq : (q != q) = false := by simp
  have hr : (r != r) = false := by simp
  have hk1 : ((k2 : Int) != (k2 : Int)) = false := by simp
  have fl0 := run_fr0 r
  have fl1 := run_fr1 r
  refine wp_region_held_drew (S := fun W => ((W.cell? ⟨b1, 0, none⟩ = some (.int .i64 q) ∧ W.cell? ⟨b1, 1, none⟩ = some (.slice A1 k2 c1)) ∧ (W.cell? ⟨b2, 0, none⟩ = some (.int .i64 q) ∧ W.cell? ⟨b2, 1, none⟩ = some (.slice A2 k2 c2)) ∧ (W.cell? ⟨b3, 0, none⟩ = some (.int .i64 r) ∧ W.cell? ⟨b3, 1, none⟩ = some (.slice A3 k3 c3))) ∧ Below w7.heap.size w7 W) (by kernel_rfl) (KH.out _ (Below.drew (Below.refl _ _))) (fun hHeld => ?_)
  obtain ⟨v0, hv0⟩ : ∃ v0, v0 = w7.drew := ⟨_, rfl⟩
  have BL0 : Hid (Below w7.heap.size w7 v0) := by rw [hv0]; exact Below.drew (Below.refl _ _)
  rw [← hv0] at hHeld ⊢
  clear hv0
  refine tkH 0 ?_ rfl ?_ hHeld ?_; rotate_left; (intro w hSw; (try dsimp only at hSw); go_simp; try with_reducible rfl); try simp only [Act.put, zz1, zz2, zz3, zz4, zz5, zz6]
  refine tkH 1 ?_ rfl ?_ hHeld ?_; rotate_left; (intro w hSw; (try dsimp only at hSw); go_simp; try with_reducible rfl); try simp only [Act.put, zz1, zz2, zz3, zz4, zz5, zz6]
  refine tkH 2 ?_ rfl ?_ hHeld ?_; rotate_left; (intro w hSw; (try dsimp only at hSw); go_simp; try with_reducible rfl); try simp only [Act.put, zz1, zz2, zz3, zz4, zz5, zz6]
  refine tkH 3 ?_ rfl ?_ hHeld ?_; rotate_left; (intro w hSw; (try dsimp only at hSw); go_simp; try with_reducible rfl); try simp only [Act.put, zz1, zz2, zz3, zz4, zz5, zz6]
  refine tkH 4 ?_ rfl ?_ hHeld ?_; rotate_left; (intro w hSw; (try dsimp only at hSw); go_simp; try with_reducible rfl); try simp only [Act.put, zz1, zz2, zz3, zz4, zz5, zz6]
  refine tkH 5 ?_ rfl ?_ hHeld ?_; rotate_left; (intro w hSw; (try dsimp only at hSw); go_simp; try with_reducible rfl); try simp only [Act.put, zz1, zz2, zz3, zz4, zz5, zz6]
  refine tkH 6 ?_ rfl ?_ hHeld ?_; rotate_left; (intro w hSw; (try dsimp only at hSw); go_simp; try with_reducible rfl); try simp only [Act.put, zz1, zz2, zz3, zz4, zz5, zz6]
  refine tkH 7 ?_ rfl ?_ hHeld ?_; rotate_left; (intro w hSw; (try dsimp only at hSw); go_simp; try with_reducible rfl); try simp only [Act.put, zz1, zz2, zz3, zz4, zz5, zz6]
  refine tkH 8 ?_ rfl ?_ hHeld ?_; rotate_left; (intro w hSw; (try dsimp only at hSw); go_simp; try with_reducible rfl); try simp only [Act.put, zz1, zz2, zz3, zz4, zz5, zz6]
  refine tkH 9 ?_ rfl ?_ hHeld ?_; rotate_left; (intro w hSw; (try dsimp only at hSw); go_simp; try with_reducible rfl); try simp only [Act.put, zz1, zz2, zz3, zz4, zz5, zz6]
  refine tkH 10 ?_ rfl ?_ hHeld ?_; rotate_left; (intro w hSw; (try dsimp only at hSw); go_simp; try with_reducible rfl); try simp only [Act.put, zz1, zz2, zz3, zz4, zz5, zz6]
  refine tkH 11 ?_ rfl ?_ hHeld ?_; rotate_left; (intro w hSw; (try dsimp only at hSw); go_simp; try with_reducible rfl); try simp only [Act.put, zz1, zz2, zz3, zz4, zz5, zz6]
  refine tkH 12 ?_ rfl ?_ hHeld ?_; rotate_left; (intro w hSw; (try dsimp only at hSw); go_simp; try with_reducible rfl); try simp only [Act.put, zz1, zz2, zz3, zz4, zz5, zz6]
  refine tkH 13 ?_ rfl ?_ hHeld ?_; rotate_left; (intro w hSw; (try dsimp only at hSw); go_simp; try with_reducible rfl); try simp only [Act.put, zz1, zz2, zz3, zz4, zz5, zz6]
  refine tkH 14 ?_ rfl ?_ hHeld ?_; rotate_left; (intro w hSw; (try dsimp only at hSw); go_simp; try with_reducible rfl); try simp only [Act.put, zz1, zz2, zz3, zz4, zz5, zz6]
  refine tkH 15 ?_ rfl ?_ hHeld ?_; rotate_left; (intro w hSw; (try dsimp only at hSw); go_simp; try with_reducible rfl); try simp only [Act.put, zz1, zz2, zz3, zz4, zz5, zz6]
  refine tkH 16 ?_ rfl ?_ hHeld ?_; rotate_left; (intro w hSw; (try dsimp only at hSw); go_simp; try with_reducible rfl); try simp only [Act.put, zz1, zz2, zz3, zz4, zz5, zz6]
  refine tkH 17 ?_ rfl ?_ hHeld ?_; rotate_left; (intro w hSw; (try dsimp only at hSw); go_simp; try with_reducible rfl); try simp only [Act.put, zz1, zz2, zz3, zz4, zz5, zz6]
  refine tkH 18 ?_ rfl ?_ hHeld ?_; rotate_left; (intro w hSw; (try dsimp only at hSw); go_simp; try with_reducible rfl); try simp only [Act.put, zz1, zz2, zz3, zz4, zz5, zz6]
  refine tkH 19 ?_ rfl ?_ hHeld ?_; rotate_left; (intro w hSw; (try dsimp only at hSw); go_simp; try with_reducible rfl); try simp only [Act.put, zz1, zz2, zz3, zz4, zz5, zz6]
  refine wpAnyH_ready (rs := [20]) (by kernel_rfl) (by simp) ?_
  refine AllReadyH.cons (o := _) rfl (fun K0 hK0 => ?_) AllReadyH.nil
  go_simp
  refine (SR.out _ (by go_split_ands; assumption)).mono ?_
  rintro e9 w8 ⟨A8, c8, rfl, hs8, hb8⟩
  go_wp2_with fail
  clear hs8
  refine hK0.out _ _ (KH.out _ hb8) (fun hHeld => ?_)
  clear hK0 K0
  try simp only [Act.put, zz1, zz2, zz3, zz4, zz5, zz6]
  refine tkH 21 ?_ rfl ?_ hHeld ?_; rotate_left; (intro w hSw; (try dsimp only at hSw); go_simp; try with_reducible rfl); try simp only [Act.put, zz1, zz2, zz3, zz4, zz5, zz6]
  refine tkH 22 ?_ rfl ?_ hHeld ?_; rotate_left; (intro w hSw; (try dsimp only at hSw); go_simp; try with_reducible rfl); try simp only [Act.put, zz1, zz2, zz3, zz4, zz5, zz6]
  refine tkH 23 ?_ rfl ?_ hHeld ?_; rotate_left; (intro w hSw; (try dsimp only at hSw); go_simp; try with_reducible rfl); try simp only [Act.put, zz1, zz2, zz3, zz4, zz5, zz6]
  refine tkH 24 ?_ rfl ?_ hHeld ?_; rotate_left; (intro w hSw; (try dsimp only at hSw); go_simp; try with_reducible rfl); try simp only [Act.put, zz1, zz2, zz3, zz4, zz5, zz6]
  refine tkH 25 ?_ rfl ?_ hHeld ?_; rotate_left; (intro w hSw; (try dsimp only at hSw); go_simp; try with_reducible rfl); try simp only [Act.put, zz1, zz2, zz3, zz4, zz5, zz6]
  refine tkH 26 ?_ rfl ?_ hHeld ?_; rotate_left; (intro w hSw; (try dsimp only at hSw); go_simp; try with_reducible rfl); try simp only [Act.put, zz1, zz2, zz3, zz4, zz5, zz6]
  refine tkH 27 ?_ rfl ?_ hHeld ?_; rotate_left; (intro w hSw; (try dsimp only at hSw); go_simp; try with_reducible rfl); try simp only [Act.put, zz1, zz2, zz3, zz4, zz5, zz6]
  refine tkH 28 ?_ rfl ?_ hHeld ?_; rotate_left; (intro w hSw; (try dsimp only at hSw); go_simp; try with_reducible rfl); try simp only [Act.put, zz1, zz2, zz3, zz4, zz5, zz6]
  refine tkH 29 ?_ rfl ?_ hHeld ?_; rotate_left; (intro w hSw; (try dsimp only at hSw); go_simp; try with_reducible rfl); try simp only [Act.put, zz1, zz2, zz3, zz4, zz5, zz6]
  refine wpAnyH_ready (rs := [30]) (by kernel_rfl) (by simp) ?_
  refine AllReadyH.cons (o := _) rfl (fun K0 hK0 => ?_) AllReadyH.nil
  go_simp
  refine (SR.out _ (by go_split_ands; assumption)).mono ?_
  rintro e9 w9 ⟨A9, c9, rfl, hs9, hb9⟩
  have S9 := Lib.hid hs9
  clear hs9
  go_wp2_with fail
  skip
  refine hK0.out _ _ (KH.out _ hb9) (fun hHeld => ?_)
  clear hK0 K0
  try simp only [Act.put, zz1, zz2, zz3, zz4, zz5, zz6]
  refine tkH 31 ?_ rfl ?_ hHeld ?_; rotate_left; (intro w hSw; (try dsimp only at hSw); go_simp; try with_reducible rfl); try simp only [Act.put, zz1, zz2, zz3, zz4, zz5, zz6]
  refine wpAnyH_ready (rs := [32]) (by kernel_rfl) (by simp) ?_
  refine AllReadyH.cons (o := _) rfl (fun K0 hK0 => ?_) AllReadyH.nil
  go_simp
  refine (lwNums_eq _ _ _ _ A3 A9 T k3 c3 c9 w9 (by omega) T3.out (F.out w9 hb9).2.2.2.2.2.1 S9.out).mono ?_
  rintro e9 wA ⟨rfl, hbA'⟩
  have hbA := hb9.trans (hbA'.mono hb9.size)
  go_wp2_with fail
  skip
  refine hK0.out _ _ (KH.out _ hbA) (fun hHeld => ?_)
  clear hK0 K0
  try simp only [Act.put, zz1, zz2, zz3, zz4, zz5, zz6]
  refine tkH 33 ?_ rfl ?_ hHeld ?_; rotate_left; (intro w hSw; (try dsimp only at hSw); go_simp; try with_reducible rfl); try simp only [Act.put, zz1, zz2, zz3, zz4, zz5, zz6]
  refine tkH 34 ?_ rfl ?_ hHeld ?_; rotate_left; (intro w hSw; (try dsimp only at hSw); go_simp; try with_reducible rfl); try simp only [Act.put, zz1, zz2, zz3, zz4, zz5, zz6]
  refine wpAnyH_done (by kernel_rfl) ?_ _
  clear hHeld
  have BA := Lib.hid hbA
  clear S9 hb8 hb9 hbA' hbA BL0 SR KH
  have L1 := Lib.hid hl1
  clear hl1
  have k400 : k2 ≤ 400 := by have := LL.out; have := L1.out; omega
  go_wp2_with fail
  go_loopw [10] (fun i wr => ∃ j : Nat, j ≤ k2 ∧ i = .int .i64 (j : Int) ∧ Below w7.heap.size w7 wr) (fun i _ => k2 - (intOf i).toNat)
  case atStart => exact ⟨0, Nat.zero_le _, rfl, BA.out⟩
  case round =>
    obtain ⟨j, hj, rfl, hb⟩ := hrel
    have BR := Lib.hid hb
    clear hb
    obtain ⟨⟨z0, z1⟩, ⟨z2, z3⟩, ⟨z4, z5⟩, e1, e2, _, _, bw⟩ := F.out wr BR.out
    have BW := Lib.hid bw
    clear bw
    by_cases hlt : j < k2
    · obtain ⟨g1, off1, hA1, h1, h2, hc⟩ := e1.at_ (show j * 7 < k2 * 7 by omega)
      obtain ⟨g2, off2, hA2, h1', h2', hc'⟩ := e2.at_ (show j * 7 < k2 * 7 by omega)
      rw [hA1] at z1
      rw [hA2] at z3
      clear e1 e2
      have p0 : wr.cell? ⟨g1, off1 + j * 7, none⟩ = some (.int .i64 (gi L (j * 7 + 0))) := hc (j * 7 + 0) (by omega)
      have p1 : wr.cell? ⟨g1, off1 + j * 7 + 1, none⟩ = some (.int .i64 (gi L (j * 7 + 1))) := hc (j * 7 + 1) (by omega)
      have p2 : wr.cell? ⟨g1, off1 + j * 7 + 2, none⟩ = some (.int .i64 (gi L (j * 7 + 2))) := hc (j * 7 + 2) (by omega)
      have p3 : wr.cell? ⟨g1, off1 + j * 7 + 3, none⟩ = some (.int .i64 (gi L (j * 7 + 3))) := hc (j * 7 + 3) (by omega)
      have p4 : wr.cell? ⟨g1, off1 + j * 7 + 4, none⟩ = some (.int .i64 (gi L (j * 7 + 4))) := hc (j * 7 + 4) (by omega)
      have p5 : wr.cell? ⟨g1, off1 + j * 7 + 5, none⟩ = some (.int .i64 (gi L (j * 7 + 5))) := hc (j * 7 + 5) (by omega)
      have p6 : wr.cell? ⟨g1, off1 + j * 7 + 6, none⟩ = some (.int .i64 (gi L (j * 7 + 6))) := hc (j * 7 + 6) (by omega)
      have q0 : wr.cell? ⟨g2, off2 + j * 7, none⟩ = some (.int .i64 (gi L (j * 7 + 0))) := hc' (j * 7 + 0) (by omega)
      have q1 : wr.cell? ⟨g2, off2 + j * 7 + 1, none⟩ = some (.int .i64 (gi L (j * 7 + 1))) := hc' (j * 7 + 1) (by omega)
      have q2 : wr.cell? ⟨g2, off2 + j * 7 + 2, none⟩ = some (.int .i64 (gi L (j * 7 + 2))) := hc' (j * 7 + 2) (by omega)
      have q3 : wr.cell? ⟨g2, off2 + j * 7 + 3, none⟩ = some (.int .i64 (gi L (j * 7 + 3))) := hc' (j * 7 + 3) (by omega)
      have q4 : wr.cell? ⟨g2, off2 + j * 7 + 4, none⟩ = some (.int .i64 (gi L (j * 7 + 4))) := hc' (j * 7 + 4) (by omega)
      have q5 : wr.cell? ⟨g2, off2 + j * 7 + 5, none⟩ = some (.int .i64 (gi L (j * 7 + 5))) := hc' (j * 7 + 5) (by omega)
      have q6 : wr.cell? ⟨g2, off2 + j * 7 + 6, none⟩ = some (.int .i64 (gi L (j * 7 + 6))) := hc' (j * 7 + 6) (by omega)
      clear hc hc'
      generalize gi L (j * 7 + 0) = x0 at *
      generalize gi L (j * 7 + 1) = x1 at *
      generalize gi L (j * 7 + 2) = x2 at *
      generalize gi L (j * 7 + 3) = x3 at *
      generalize gi L (j * 7 + 4) = x4 at *
      generalize gi L (j * 7 + 5) = x5 at *
      generalize gi L (j * 7 + 6) = x6 at *
      go_wp2_with fail
      go_quiet (fail)
      go_wp2
      go_roundw
      case rel => exact ⟨j + 1, by omega, by go_num, below_drewN BR.out _⟩
      case measure => simp [intOf]; omega
    · have hjn : ¬ ((j : Int) < (k2 : Int)) := by omega
      clear e1 e2
      by_cases h0 : q = 0
      case neg =>
        have y : (q != 0) = true := by simp [h0]
        go_wp2
        go_ret
        exact ⟨rfl, BW.out⟩
      subst h0
      have y : ((0 : Int) != 0) = false := by simp
      obtain ⟨L1', L2', T', m1, m2, l1, l2, t1, t2, tl, tr⟩ := mut9_apart (x := gi xs) (mut9_code QL.out)
      have EV := (F.out wr BR.out).2.2.2.2.2.2.1
      have P1 := Lib.hid (implMutedEvents_any 0 w1.heap.size B n c' (gi xs) sl ev 1 wr (by omega) CAP.out EV)
      rw [m1] at P1
      have P2 : Hid (∀ W, Sl W 0 w1.heap.size B (n * 7) (fun j => .int .i64 (gi xs j)) → Calls Tryz.prog 18 #[.int .i64 sl, .slice B n c', .int .i64 ev, .int .i64 2] W (AnsM (0, L2') W)) := fun W hl => by
        rw [← m2]; exact implMutedEvents_any 0 w1.heap.size B n c' (gi xs) sl ev 2 W (by omega) CAP.out hl
      have HL1 := Lib.hid l1; have HL2 := Lib.hid l2; have HT1 := Lib.hid t1; have HT2 := Lib.hid t2; have HTR := Lib.hid tr; have HTL := Lib.hid tl
      clear m1 m2 l1 l2 t1 t2 tl tr EV IPM
      have sr := (F.out wr BR.out).2.2.2.2.2.2.2.size
      obtain ⟨wq, hwq⟩ : ∃ V, V = wr := ⟨_, rfl⟩
      rw [← hwq] at BR BW P1 z0 z1 z2 z3 z4 z5 ⊢
      clear hwq sr
      go_wp2_with fail
      refine P1.out.mono ?_
      rintro e w2' ⟨A4, k4, c4, rfl, hl4, hc4, ho, hb⟩
      have hl4 : L1'.length = k4 * 7 := hl4
      obtain rfl : k4 = n := by have := HL1.out; omega
      have O4 : Hid (Sl w2' wq.heap.size w2'.heap.size A4 (k4 * 7) (fun j => .int .i64 (gi L1' j))) := ho.sl
      have R4 := Lib.hid hb
      clear ho hb hc4 hl4 P1 z0 z1 z2 z3 z4 z5
      dsimp only
      obtain ⟨wa, hwa⟩ : ∃ V, V = w2'.alloc (.cells #[.int .i64 0, .slice A4 k4 c4] 46) := ⟨_, rfl⟩
      obtain ⟨b4, hb4⟩ : ∃ b, b = w2'.heap.size := ⟨_, rfl⟩
      have Kwa : Hid (wa.heap[b4]? = some (.cells #[.int .i64 0, .slice A4 k4 c4] 46 (0, 0))) := by show _ = _; rw [hwa, hb4]; exact heap_alloc_new w2' _
      have Nwa : Hid (Below w2'.heap.size w2' wa) := by rw [hwa]; exact below_new w2' _
      have Zwa : Hid (wa.heap.size = b4 + 1 ∧ b4 = w2'.heap.size) := by show _ ∧ _; rw [hwa, hb4]; simp
      have HWwa := Lib.hid hwa; have HBb4 := Lib.hid hb4
      clear hwa hb4
      go_upto_region 17 with (fail)
      rw [← HWwa.out, ← HBb4.out]
      clear HWwa HBb4
      have EVa : Hid (Sl wa 0 w1.heap.size B (k4 * 7) (fun j => .int .i64 (gi xs j))) := (F.out wa (BR.out.trans ((R4.out.trans (Nwa.out.mono R4.out.size)).mono BR.out.size))).2.2.2.2.2.2.1
      go_wp2_with fail
      refine (P2.out wa EVa.out).mono ?_
      rintro e wb ⟨A5, k5, c5, rfl, hl5, hc5, ho, hb⟩
      have hl5 : L2'.length = k5 * 7 := hl5
      obtain rfl : k5 = k4 := by have := HL2.out; omega
      have O5 : Hid (Sl wb wa.heap.size wb.heap.size A5 (k5 * 7) (fun j => .int .i64 (gi L2' j))) := ho.sl
      have Rb := Lib.hid hb
      clear ho hb hc5 hl5 P2 EVa
      dsimp only
      obtain ⟨wc, hwc⟩ : ∃ V, V = wb.alloc (.cells #[.int .i64 0, .slice A5 k5 c5] 46) := ⟨_, rfl⟩
      obtain ⟨b5, hb5⟩ : ∃ b, b = wb.heap.size := ⟨_, rfl⟩
      have Kwc : Hid (wc.heap[b5]? = some (.cells #[.int .i64 0, .slice A5 k5 c5] 46 (0, 0))) := by show _ = _; rw [hwc, hb5]; exact heap_alloc_new wb _
      have Nwc : Hid (Below wb.heap.size wb wc) := by rw [hwc]; exact below_new wb _
      have Zwc : Hid (wc.heap.size = b5 + 1 ∧ b5 = wb.heap.size) := by show _ ∧ _; rw [hwc, hb5]; simp
      have HWwc := Lib.hid hwc; have HBb5 := Lib.hid hb5
      clear hwc hb5
      go_upto_region 18 with (fail)
      rw [← HWwc.out, ← HBb5.out]
      clear HWwc HBb5
      have G : Hid (∀ W, Below wc.heap.size wc W → (W.cell? ⟨b4, 0, none⟩ = some (.int .i64 0) ∧ W.cell? ⟨b4, 1, none⟩ = some (.slice A4 k5 c4)) ∧ (W.cell? ⟨b5, 0, none⟩ = some (.int .i64 0) ∧ W.cell? ⟨b5, 1, none⟩ = some (.slice A5 k5 c5)) ∧ Sl W wq.heap.size w2'.heap.size A4 (k5 * 7) (fun j => .int .i64 (gi L1' j)) ∧ Sl W wa.heap.size wb.heap.size A5 (k5 * 7) (fun j => .int .i64 (gi L2' j)) ∧ Below w.heap.size w W) := fun W hW => by
        have za := Zwa.out; have zc := Zwc.out
        have s4 := R4.out.size; have sb := Rb.out.size; have sw := BW.out.size
        have bb : Below wb.heap.size wb W := Nwc.out.trans (hW.mono (by omega))
        have ba : Below wa.heap.size wa W := Rb.out.trans (bb.mono sb)
        have b2 : Below w2'.heap.size w2' W := Nwa.out.trans (ba.mono (by omega))
        have j4 := (ba.block b4 (by omega)).trans Kwa.out
        have j5 := (hW.block b5 (by omega)).trans Kwc.out
        exact ⟨⟨cell_of_row W _ 0 _ _ _ j4, cell_of_row W _ 1 _ _ _ j4⟩, ⟨cell_of_row W _ 0 _ _ _ j5, cell_of_row W _ 1 _ _ _ j5⟩, O4.out.below b2 (Nat.le_refl _), O5.out.below bb (Nat.le_refl _), BW.out.trans ((R4.out.trans (b2.mono s4)).mono sw)⟩
      clear O4 O5 Kwa Kwc Nwa Nwc R4 Rb Zwa Zwc F BR BW
      obtain ⟨⟨u0, u1⟩, ⟨u2, u3⟩, e4, e5, _⟩ := G.out wc (Below.refl _ _)
      have PX := Lib.hid (implRunsOf_any _ _ A4 k5 c4 (gi L1') sl ev wc (by omega) e4)
      rw [HT1.out] at PX
      clear e4 e5
      go_wp2_with fail
      refine PX.out.mono ?_
      rintro e wd ⟨A6, k6, c6, rfl, hl6, hc6, ho, hb⟩
      have TL6 : Hid (T'.length = k6) := hl6
      have O6 : Hid (Sl wd wc.heap.size wd.heap.size A6 k6 (fun j => .int .i64 (gi T' j))) := ho.sl
      have Rd := Lib.hid hb
      have k6b : k6 ≤ 400 := by have := HTL.out; have := TL6.out; omega
      clear ho hb hc6 hl6 PX u0 u1 u2 u3
      dsimp only
      obtain ⟨we, hwe⟩ : ∃ V, V = wd.alloc (.cells #[.int .i64 0, .slice A6 k6 c6] 49) := ⟨_, rfl⟩
      obtain ⟨b6, hb6⟩ : ∃ b, b = wd.heap.size := ⟨_, rfl⟩
      have Kwe : Hid (we.heap[b6]? = some (.cells #[.int .i64 0, .slice A6 k6 c6] 49 (0, 0))) := by show _ = _; rw [hwe, hb6]; exact heap_alloc_new wd _
      have Nwe : Hid (Below wd.heap.size wd we) := by rw [hwe]; exact below_new wd _
      have Zwe : Hid (we.heap.size = b6 + 1 ∧ b6 = wd.heap.size) := by show _ ∧ _; rw [hwe, hb6]; simp
      have HWwe := Lib.hid hwe; have HBb6 := Lib.hid hb6
      clear hwe hb6
      go_upto_region 19 with (fail)
      rw [← HWwe.out, ← HBb6.out]
      clear HWwe HBb6
      have BE : Hid (Below wc.heap.size wc we) := Rd.out.trans (Nwe.out.mono Rd.out.size)
      obtain ⟨⟨u0, u1⟩, ⟨u2, u3⟩, e4, e5, _⟩ := G.out we BE.out
      have PX := Lib.hid (implRunsOf_any _ _ A5 k5 c5 (gi L2') sl ev we (by omega) e5)
      rw [HT2.out] at PX
      clear e4 e5
      go_wp2_with fail
      refine PX.out.mono ?_
      rintro e wf ⟨A7, k7, c7, rfl, hl7, hc7, ho, hb⟩
      have hl7 : T'.length = k7 := hl7
      obtain rfl : k7 = k6 := hl7.symm.trans TL6.out
      have O7 : Hid (Sl wf we.heap.size wf.heap.size A7 k7 (fun j => .int .i64 (gi T' j))) := ho.sl
      have Rf := Lib.hid hb
      clear ho hb hc7 hl7 PX u0 u1 u2 u3
      dsimp only
      obtain ⟨wg, hwg⟩ : ∃ V, V = wf.alloc (.cells #[.int .i64 0, .slice A7 k7 c7] 49) := ⟨_, rfl⟩
      obtain ⟨b7, hb7⟩ : ∃ b, b = wf.heap.size := ⟨_, rfl⟩
      have Kwg : Hid (wg.heap[b7]? = some (.cells #[.int .i64 0, .slice A7 k7 c7] 49 (0, 0))) := by show _ = _; rw [hwg, hb7]; exact heap_alloc_new wf _
      have Nwg : Hid (Below wf.heap.size wf wg) := by rw [hwg]; exact below_new wf _
      have Zwg : Hid (wg.heap.size = b7 + 1 ∧ b7 = wf.heap.size) := by show _ ∧ _; rw [hwg, hb7]; simp
      have HWwg := Lib.hid hwg; have HBb7 := Lib.hid hb7
      clear hwg hb7
      go_upto_region 20 with (fail)
      rw [← HWwg.out, ← HBb7.out]
      clear HWwg HBb7
      have V : Hid (∀ W, Below wg.heap.size wg W → (W.cell? ⟨b6, 0, none⟩ = some (.int .i64 0) ∧ W.cell? ⟨b6, 1, none⟩ = some (.slice A6 k7 c6)) ∧ (W.cell? ⟨b7, 0, none⟩ = some (.int .i64 0) ∧ W.cell? ⟨b7, 1, none⟩ = some (.slice A7 k7 c7)) ∧ Sl W wc.heap.size wd.heap.size A6 k7 (fun j => .int .i64 (gi T' j)) ∧ Sl W we.heap.size wf.heap.size A7 k7 (fun j => .int .i64 (gi T' j)) ∧ Below w.heap.size w W) := fun W hW => by
        have ze := Zwe.out; have zg := Zwg.out
        have sd := Rd.out.size; have sf := Rf.out.size; have sw := BE.out.size
        have bf : Below wf.heap.size wf W := Nwg.out.trans (hW.mono (by omega))
        have be : Below we.heap.size we W := Rf.out.trans (bf.mono sf)
        have bd : Below wd.heap.size wd W := Nwe.out.trans (be.mono (by omega))
        have j6 := (be.block b6 (by omega)).trans Kwe.out
        have j7 := (hW.block b7 (by omega)).trans Kwg.out
        exact ⟨⟨cell_of_row W _ 0 _ _ _ j6, cell_of_row W _ 1 _ _ _ j6⟩, ⟨cell_of_row W _ 0 _ _ _ j7, cell_of_row W _ 1 _ _ _ j7⟩, O6.out.below bd (Nat.le_refl _), O7.out.below bf (Nat.le_refl _), (G.out W (BE.out.trans (be.mono sw))).2.2.2.2⟩
      clear O6 O7 Kwe Kwg Nwe Nwg Rd Rf Zwe Zwg G BE
      obtain ⟨⟨u0, u1⟩, ⟨u2, u3⟩, e6, e7, _⟩ := V.out wg (Below.refl _ _)
      have NC := Lib.hid (lwNums_eq _ _ _ _ A6 A7 T' k7 c6 c7 wg (by omega) TL6.out e6 e7)
      clear e6 e7
      go_wp2_with fail
      refine NC.out.mono ?_
      rintro e wh ⟨rfl, hb⟩
      have BH := Lib.hid hb
      clear hb NC u0 u1 u2 u3
      go_wp2_with fail
      go_loopw [15] (fun i wr => ∃ j : Nat, 1 ≤ j ∧ (j ≤ k7 ∨ j = 1) ∧ i = .int .i64 (j : Int) ∧ Below wg.heap.size wg wr) (fun i _ => k7 - (intOf i).toNat)
      case atStart => exact ⟨1, by omega, .inr rfl, rfl, BH.out⟩
      case round =>
        obtain ⟨j, hj1, hj, rfl, hb⟩ := hrel
        have BR := Lib.hid hb
        clear hb
        obtain ⟨⟨u0, u1⟩, _, e6, _, bw⟩ := V.out wr BR.out
        have BW := Lib.hid bw
        clear bw
        by_cases hlt : j < k7
        · obtain ⟨g6, off6, hA6, h1, h2, hc⟩ := e6.at_ hlt
          obtain ⟨i, rfl⟩ : ∃ i, j = i + 1 := ⟨j - 1, by omega⟩
          have c0 : wr.cell? ⟨g6, off6 + i, none⟩ = some (.int .i64 (gi T' i)) := hc i (by omega)
          have c1 : wr.cell? ⟨g6, off6 + (i + 1), none⟩ = some (.int .i64 (gi T' (i + 1))) := hc (i + 1) (by omega)
          have lt := HTR.out i (by have := TL6.out; omega)
          rw [hA6] at u1
          clear hc e6 hA6
          generalize gi T' (i + 1) = y1 at *
          generalize gi T' i = y0 at *
          have nle : ¬ y1 ≤ y0 := by omega
          have hs : IntKind.i64.wrap (((i + 1 : Nat) : Int) - 1) = (i : Int) := by rw [IntWalk.i64_in _ (by omega)]; omega
          have hlt2 : ((i + 1 : Nat) : Int) < (k7 : Int) := by omega
          go_wp2_with fail
          go_quiet (fail)
          go_wp2
          go_roundw
          case rel => exact ⟨i + 1 + 1, by omega, .inl (by omega), by go_num, below_drewN BR.out _⟩
          case measure => simp [intOf]; omega
        · have hjn : ¬ ((j : Int) < (k7 : Int)) := by omega
          clear e6
          go_wp2
          go_ret
          exact ⟨rfl, BW.out⟩

end Go.Proofs.YtckapndpefkcgaaGreat
