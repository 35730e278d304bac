/-
  What chapter 6's draw of two locks answers. No conditions beyond that the code can be read.
-/
import Derived.Test.YtachpoehejdpjaaDoorDraw6d
import Derived.Test.YtachpoehejdpjaaDoorSpec6c
namespace Go.Proofs.YtachpoehejdpjaaDoor
open Go.RowKit
set_option maxRecDepth 100000

theorem results_two_rows {P : Program} {fn : Func} {p u : Tmp} {ty : TypeId} (h : fn.results = #[.cell p ty, .cell u ty]) (tmps : Array Value) (w : World) (g g2 : Nat) (t t2 : TypeId) (cs cs2 : Array Value) (fr fr2 : Nat × Nat) (d : TypeDesc)
    (hp : tmps.getD p undef = .pointer (some ⟨g, 0, none⟩)) (hp2 : tmps.getD u undef = .pointer (some ⟨g2, 0, none⟩)) (hg : w.heap[g]? = some (.cells cs t fr)) (hg2 : w.heap[g2]? = some (.cells cs2 t2 fr2))
    (hu : P.underlying ty = some d) (hd : (match d with | .struct _ | .array _ _ => true | _ => false) = true) (hi : (P.info? ty).map (·.size) = some cs.size) (hi2 : (P.info? ty).map (·.size) = some cs2.size) :
    (results fn tmps).run P w = .ok (.tuple #[.agg cs, .agg cs2]) w := by
  have hp' : tmps[p]?.getD undef = .pointer (some ⟨g, 0, none⟩) := by simpa using hp
  have hp2' : tmps[u]?.getD undef = .pointer (some ⟨g2, 0, none⟩) := by simpa using hp2
  simp [results, h, hp', hp2', asAddr, run_loadVar_row w g t ty cs fr d hg hu hd hi, run_loadVar_row w g2 t2 ty cs2 fr2 d hg2 hu hd hi2, Result.andThen]
/-- two locks of one's own -/
def DLL (w : World) (e : Ending) (w' : World) : Prop :=
  ∃ o B n c' xs o2 B2 n2 c2 ys, e = .returned (.tuple #[.agg #[.int .i64 o, .slice B n c'], .agg #[.int .i64 o2, .slice B2 n2 c2]]) ∧ xs.length = n ∧ n ≤ 6 ∧ ys.length = n2 ∧ n2 ≤ 6 ∧ OR 2 1 w' w.heap.size B n c' xs ∧ OR 2 1 w' w.heap.size B2 n2 c2 ys ∧ Below w.heap.size w w'

set_option maxHeartbeats 1000000 in
theorem DrawSameLocks_any (lo hi : Nat) (A : Option Addr) (k c : Nat) (b : Nat → Int) (w : World) (hk : k ≤ 1048576)
    (hb : ∀ j, 0 ≤ b j ∧ b j ≤ 255) (h : Sl w lo hi A k (fun j => .int .u8 (b j))) :
    Calls Tryd.prog 10 #[.slice A k c] w (DLL w) := by
  have H := Lib.hid h
  have HBY := Lib.hid hb
  obtain ⟨w1, hw1⟩ : ∃ w1, w1 = (w.alloc (.cells #[.int .i64 0, .slice none 0 0] 26)).alloc (.cells #[.int .i64 0, .slice none 0 0] 26) := ⟨_, rfl⟩
  have K1 : Hid (w1.heap[w.heap.size]? = some (.cells #[.int .i64 0, .slice none 0 0] 26 (0, 0))) := by show _ = _; rw [hw1]; exact heap_alloc2_old w _ _
  have J1 : Hid (w1.heap[w.heap.size + 1]? = some (.cells #[.int .i64 0, .slice none 0 0] 26 (0, 0))) := by show _ = _; rw [hw1]; exact heap_alloc2_new w _ _
  have B1 : Hid (Below w.heap.size w w1) := by rw [hw1]; exact (below_new w _).alloc (by simp) _
  have Z1 : Hid (w.heap.size + 1 < w1.heap.size) := by show _ < _; rw [hw1]; simp
  have HW1 := Lib.hid hw1
  clear h hb hw1
  go_enter Tryd.func10, Tryd.ntmps10
  go_upto_region 1 with (fail)
  rw [← HW1.out]
  clear HW1
  go_wp2_with fail
  refine (l1Source_any A k c w1).mono ?_
  rintro e w2 ⟨rfl, hs, hb⟩
  have HS2 := Lib.hid hs
  have N2 := Lib.hid hb
  have ZG := Lib.hid (show w.heap.size ≤ w1.heap.size ∧ w1.heap.size < w2.heap.size by have := Z1.out; have := hs.lt; omega)
  have B2 := Lib.hid (B1.out.trans (hb.mono B1.out.size))
  have K2 := Lib.hid ((hb.block w.heap.size (by have := Z1.out; omega)).trans K1.out)
  have J2 := Lib.hid ((hb.block (w.heap.size + 1) Z1.out).trans J1.out)
  have CD : Hid (∀ W, Below w.heap.size w W → Sl W lo (min hi w.heap.size) A k (fun j => .int .u8 (b j))) := fun W hW => H.out.lt.below hW (by omega)
  clear hs hb
  have BW := B2
  have HSW := HS2
  have D := Lib.hid (l6Draw_any lo (min hi w.heap.size) w1.heap.size A k c 0 b w2 hk (by omega) HBY.out (CD.out w2 BW.out) (by have := ZG.out; omega) HSW.out)
  go_wp2_with fail
  refine D.out.mono ?_
  rintro e w4 ⟨o, B2_, n2, c2, ys, a4, rfl, ey, hn2, hoy, ha4, hs4, ho4⟩
  have K4 := Lib.hid ((ho4.1.block w.heap.size (by have := Z1.out; omega)).trans K2.out)
  have J4 := Lib.hid ((ho4.1.block (w.heap.size + 1) (by have := Z1.out; omega)).trans J2.out)
  have B4 := Lib.hid (B2.out.trans (ho4.1.mono ZG.out.1))
  have S24 := Lib.hid ho4.1.size
  obtain ⟨w5, hw5⟩ : ∃ w5, w5 = w4.alloc (.cells #[.int .i64 o, .slice B2_ n2 c2] 26) := ⟨_, rfl⟩
  have N5 : Below w4.heap.size w4 w5 := by rw [hw5]; exact below_new w4 _
  have X5 : Hid (w5.heap[w4.heap.size]? = some (.cells #[.int .i64 o, .slice B2_ n2 c2] 26 (0, 0))) := by show _ = _; rw [hw5]; exact heap_alloc_new w4 _
  have K5 := Lib.hid ((N5.block w.heap.size (Array.getElem?_eq_some_iff.1 K4.out).1).trans K4.out)
  have J5 := Lib.hid ((N5.block (w.heap.size + 1) (Array.getElem?_eq_some_iff.1 J4.out).1).trans J4.out)
  have O5 := Lib.hid (OR.below hoy N5 (Nat.le_refl _))
  have HS5 := Lib.hid (hs4.below N5)
  have B5 := Lib.hid (B4.out.trans (N5.mono B4.out.size))
  have XL5 := Lib.hid (show w4.heap.size < w5.heap.size from (Array.getElem?_eq_some_iff.1 X5.out).1)
  have XG := Lib.hid (show w1.heap.size + 1 ≤ w4.heap.size ∧ w.heap.size + 1 < w4.heap.size by have := ZG.out; have := S24.out; have := Z1.out; omega)
  have EY := Lib.hid ey
  have HN2 := Lib.hid hn2
  have HW5 := Lib.hid hw5
  clear hoy hs4 ho4 D ey hn2 N5 hw5
  go_upto_region 3 with (fail)
  rw [← HW5.out]
  clear HW5
  have CH := Lib.hid (l1Chance_any lo (min hi w.heap.size) w1.heap.size A k c a4 2 b w5 (by omega) hk (by omega) HBY.out (CD.out w5 B5.out) (by have := ZG.out; omega) HS5.out)
  go_wp2_with fail
  refine CH.out.mono ?_
  rintro e w6 ⟨y, rfl, hs6, ho6⟩
  have HS6 := Lib.hid hs6
  have K6 := Lib.hid ((ho6.1.block w.heap.size (by have := Z1.out; omega)).trans K5.out)
  have J6 := Lib.hid ((ho6.1.block (w.heap.size + 1) (by have := Z1.out; omega)).trans J5.out)
  have X6 := Lib.hid ((ho6.2 w4.heap.size (by have := XG.out; omega) XL5.out).trans X5.out)
  have Q6 := Lib.hid (OR.keptG O5.out ho6.grownBy (fun k hk => by injection hk with hk; have := ZG.out; omega))
  have O6 := Lib.hid (OR.mono (base' := w.heap.size) Q6.out (by have := B2.out.size; omega))
  have B6 := Lib.hid (B5.out.trans (ho6.1.mono ZG.out.1))
  have XL := Lib.hid (show w4.heap.size < w6.heap.size from (Array.getElem?_eq_some_iff.1 X6.out).1)
  have SK : Hid (∀ W : World, W.heap[w4.heap.size]? = some (.cells #[.int .i64 o, .slice B2_ n2 c2] 26 (0, 0)) → W.cell? ⟨w4.heap.size, 0, none⟩ = some (.int .i64 o) ∧ W.cell? ⟨w4.heap.size, 1, none⟩ = some (.slice B2_ n2 c2)) := fun W j => ⟨cell_of_row W _ 0 _ _ _ j, cell_of_row W _ 1 _ _ _ j⟩
  clear hs6 ho6 CH
  rcases y with _ | _
  · go_upto_region 5 with (fail)
    refine wp_region_held_drew (S := fun W => W.cell? ⟨w4.heap.size, 0, none⟩ = some (.int .i64 o) ∧ W.cell? ⟨w4.heap.size, 1, none⟩ = some (.slice B2_ n2 c2)) (by kernel_rfl) (SK.out _ (X6.out)) (fun hHeld => ?_)
    obtain ⟨v0, hv0⟩ : ∃ v0, v0 = w6.drew := ⟨_, rfl⟩
    have BL0 : Hid (Below w6.heap.size w6 v0) := by rw [hv0]; exact Below.drew (Below.refl _ _)
    rw [← hv0] at hHeld ⊢
    clear hv0
    refine wpAnyH_take (i := 0) (oi := _) (v := ?_) rfl (by kernel_rfl) (by kernel_rfl) (by kernel_rfl) (fun _ _ _ h => h) (Or.inl ⟨by rfl, ?_⟩) hHeld ?_
    rotate_left
    · (intro w hSw; (try dsimp only at hSw); go_simp; try with_reducible rfl)
    try simp only [Act.put, List.getElem_toArray, List.getElem_cons_succ, List.getElem_cons_zero, List.setIfInBounds_toArray, List.set_cons_zero, List.set_cons_succ]
    refine wpAnyH_take (i := 1) (oi := _) (v := ?_) rfl (by kernel_rfl) (by kernel_rfl) (by kernel_rfl) (fun _ _ _ h => h) (Or.inl ⟨by rfl, ?_⟩) hHeld ?_
    rotate_left
    · (intro w hSw; (try dsimp only at hSw); go_simp; try with_reducible rfl)
    try simp only [Act.put, List.getElem_toArray, List.getElem_cons_succ, List.getElem_cons_zero, List.setIfInBounds_toArray, List.set_cons_zero, List.set_cons_succ]
    refine wpAnyH_ready (rs := [2]) (by kernel_rfl) (by simp) ?_
    refine AllReadyH.cons (o := _) rfl (fun K0 hK0 => ?_) AllReadyH.nil
    go_simp
    refine (l6Draw_any lo (min hi w.heap.size) w1.heap.size A k c (a4 + 1) b v0 hk (by omega) HBY.out (CD.out v0 (B6.out.trans (BL0.out.mono B6.out.size))) (by have := ZG.out; omega) (HS6.out.below BL0.out)).mono ?_
    rintro e9 v2 ⟨oo, C2_, nn, dd, yy, a9, rfl, ez, hn9, hoc, _, _, hoo⟩
    go_wp2_with fail
    have hbl : Below w1.heap.size w6 v2 := (BL0.out.mono (by have := XG.out; have := XL.out; omega)).trans hoo.1
    have hbx := (hoo.2 w4.heap.size (by have := XG.out; omega) (by have := XL.out; have := BL0.out.size; omega)).trans (BL0.out.block _ XL.out)
    have hbw := B6.out.trans (hbl.mono ZG.out.1)
    have ho7 : OR 2 1 v2 w.heap.size B2_ n2 c2 ys := OR.mono (OR.keptG (OR.below Q6.out BL0.out (Nat.le_refl _)) hoo.grownBy (fun k hk => by injection hk with hk; have := ZG.out; omega)) (by have := B2.out.size; omega)
    have hp7 := OR.mono (base' := w.heap.size) hoc (by have := B6.out.size; have := BL0.out.size; omega)
    have EZ := Lib.hid (show yy.length = nn ∧ nn ≤ 6 from ⟨ez, hn9⟩)
    have K7 := Lib.hid ((hbl.block w.heap.size (by have := Z1.out; omega)).trans K6.out)
    have J7 := Lib.hid ((hbl.block (w.heap.size + 1) (by have := Z1.out; omega)).trans J6.out)
    have X7 := Lib.hid ((hbx).trans X6.out)
    have B7 := Lib.hid hbw
    have O7 := Lib.hid ho7
    have P7 := Lib.hid hp7
    refine hK0.out _ _ (SK.out _ X7.out) (fun hHeld => ?_)
    clear hK0 K0
    try simp only [Act.put, List.getElem_toArray, List.getElem_cons_succ, List.getElem_cons_zero, List.setIfInBounds_toArray, List.set_cons_zero, List.set_cons_succ]
    refine wpAnyH_ready (rs := [3]) (by kernel_rfl) (by simp) ?_
    refine AllReadyH.cons (o := _) rfl (fun K0 hK0 => ?_) AllReadyH.nil
    clear hHeld
    rw [if_pos (by rfl)]
    refine wp_store_row 26 _ _ rfl (w.heap.size) _ rfl rfl 26 _ K7.out (by kernel_rfl) rfl (by simp [Value.oneCell']) ?_
    refine hK0.out _ _ (SK.out _ ((setRow_other _ _ _ _ (by have := XG.out; omega)).trans X7.out)) (fun hHeld => ?_)
    clear hK0 K0
    try simp only [Act.put, List.getElem_toArray, List.getElem_cons_succ, List.getElem_cons_zero, List.setIfInBounds_toArray, List.set_cons_zero, List.set_cons_succ]
    refine wpAnyH_ready (rs := [4]) (by kernel_rfl) (by simp) ?_
    refine AllReadyH.cons (o := _) rfl (fun K0 hK0 => ?_) AllReadyH.nil
    clear hHeld
    rw [if_pos (by rfl)]
    refine wp_store_row 26 _ _ rfl ((w.heap.size + 1)) _ rfl rfl 26 _ ((setRow_other _ _ _ _ (by omega)).trans J7.out) (by kernel_rfl) rfl (by simp [Value.oneCell']) ?_
    refine hK0.out _ _ (SK.out _ ((setRow_other _ _ _ _ (by have := XG.out; omega)).trans ((setRow_other _ _ _ _ (by have := XG.out; omega)).trans X7.out))) (fun hHeld => ?_)
    clear hK0 K0
    try simp only [Act.put, List.getElem_toArray, List.getElem_cons_succ, List.getElem_cons_zero, List.setIfInBounds_toArray, List.set_cons_zero, List.set_cons_succ]
    refine wpAnyH_done (by kernel_rfl) ?_ _
    go_wp2_with fail
    refine bodyPost_ret (results_two_rows rfl _ _ w.heap.size (w.heap.size + 1) _ _ _ _ _ _ _ rfl rfl ((setRow_other _ _ _ _ (by omega)).trans (setRow_heap _ _ _ _ _ _ K7.out)) (setRow_heap _ _ _ _ _ _ ((setRow_other _ _ _ _ (by omega)).trans J7.out)) Tryd.underlying26 rfl (by kernel_rfl) (by kernel_rfl)) rfl ?_
    exact ⟨o, B2_, n2, c2, ys, oo, C2_, nn, dd, yy, rfl, EY.out, HN2.out, EZ.out.1, EZ.out.2, OR.rowOther6 (OR.rowOther6 O7.out K7.out (by decide) _) ((setRow_other _ _ _ _ (by omega)).trans J7.out) (by decide) _, OR.rowOther6 (OR.rowOther6 P7.out K7.out (by decide) _) ((setRow_other _ _ _ _ (by omega)).trans J7.out) (by decide) _, below_setRow (below_setRow B7.out (Nat.le_refl _) _) (Nat.le_succ _) _⟩
  · go_upto_region 4 with (fail)
    refine wp_region_held_drew (S := fun W => W.cell? ⟨w4.heap.size, 0, none⟩ = some (.int .i64 o) ∧ W.cell? ⟨w4.heap.size, 1, none⟩ = some (.slice B2_ n2 c2)) (by kernel_rfl) (SK.out _ (X6.out)) (fun hHeld => ?_)
    obtain ⟨v0, hv0⟩ : ∃ v0, v0 = w6.drew := ⟨_, rfl⟩
    have BL0 : Hid (Below w6.heap.size w6 v0) := by rw [hv0]; exact Below.drew (Below.refl _ _)
    rw [← hv0] at hHeld ⊢
    clear hv0
    refine wpAnyH_take (i := 0) (oi := _) (v := ?_) rfl (by kernel_rfl) (by kernel_rfl) (by kernel_rfl) (fun _ _ _ h => h) (Or.inl ⟨by rfl, ?_⟩) hHeld ?_
    rotate_left
    · (intro w hSw; (try dsimp only at hSw); go_simp; try with_reducible rfl)
    try simp only [Act.put, List.getElem_toArray, List.getElem_cons_succ, List.getElem_cons_zero, List.setIfInBounds_toArray, List.set_cons_zero, List.set_cons_succ]
    refine wpAnyH_ready (rs := [1]) (by kernel_rfl) (by simp) ?_
    refine AllReadyH.cons (o := _) rfl (fun K0 hK0 => ?_) AllReadyH.nil
    go_simp
    refine (l6Copy_any w.heap.size w6.heap.size B2_ n2 c2 w4.heap.size o ys v0 (by have := HN2.out; omega) EY.out (OR.capA O6.out) (by have := OR.sl0 O6.out; rw [Nat.mul_one] at this; exact this.below BL0.out (Nat.le_refl _)) ((BL0.out.block _ XL.out).trans X6.out)).mono ?_
    rintro e9 v2 ⟨C2_, dd, rfl, hoc, hbc⟩
    go_wp2_with fail
    have hbl := BL0.out.trans (hbc.mono BL0.out.size)
    have hbx := hbl.block w4.heap.size XL.out
    have hbw := B6.out.trans (hbl.mono B6.out.size)
    have ho7 := OR.below O6.out hbl (Nat.le_refl _)
    have hp7 := OR.mono (base' := w.heap.size) hoc (by have := B6.out.size; have := BL0.out.size; omega)
    have K7 := Lib.hid ((hbl.block w.heap.size (by have := XL.out; have := XG.out; omega)).trans K6.out)
    have J7 := Lib.hid ((hbl.block (w.heap.size + 1) (by have := XL.out; have := XG.out; omega)).trans J6.out)
    have X7 := Lib.hid ((hbx).trans X6.out)
    have B7 := Lib.hid hbw
    have O7 := Lib.hid ho7
    have P7 := Lib.hid hp7
    refine hK0.out _ _ (SK.out _ X7.out) (fun hHeld => ?_)
    clear hK0 K0
    try simp only [Act.put, List.getElem_toArray, List.getElem_cons_succ, List.getElem_cons_zero, List.setIfInBounds_toArray, List.set_cons_zero, List.set_cons_succ]
    refine wpAnyH_ready (rs := [2]) (by kernel_rfl) (by simp) ?_
    refine AllReadyH.cons (o := _) rfl (fun K0 hK0 => ?_) AllReadyH.nil
    clear hHeld
    rw [if_pos (by rfl)]
    refine wp_store_row 26 _ _ rfl (w.heap.size) _ rfl rfl 26 _ K7.out (by kernel_rfl) rfl (by simp [Value.oneCell']) ?_
    refine hK0.out _ _ (SK.out _ ((setRow_other _ _ _ _ (by have := XG.out; omega)).trans X7.out)) (fun hHeld => ?_)
    clear hK0 K0
    try simp only [Act.put, List.getElem_toArray, List.getElem_cons_succ, List.getElem_cons_zero, List.setIfInBounds_toArray, List.set_cons_zero, List.set_cons_succ]
    refine wpAnyH_ready (rs := [3]) (by kernel_rfl) (by simp) ?_
    refine AllReadyH.cons (o := _) rfl (fun K0 hK0 => ?_) AllReadyH.nil
    clear hHeld
    rw [if_pos (by rfl)]
    refine wp_store_row 26 _ _ rfl ((w.heap.size + 1)) _ rfl rfl 26 _ ((setRow_other _ _ _ _ (by omega)).trans J7.out) (by kernel_rfl) rfl (by simp [Value.oneCell']) ?_
    refine hK0.out _ _ (SK.out _ ((setRow_other _ _ _ _ (by have := XG.out; omega)).trans ((setRow_other _ _ _ _ (by have := XG.out; omega)).trans X7.out))) (fun hHeld => ?_)
    clear hK0 K0
    try simp only [Act.put, List.getElem_toArray, List.getElem_cons_succ, List.getElem_cons_zero, List.setIfInBounds_toArray, List.set_cons_zero, List.set_cons_succ]
    refine wpAnyH_done (by kernel_rfl) ?_ _
    go_wp2_with fail
    refine bodyPost_ret (results_two_rows rfl _ _ w.heap.size (w.heap.size + 1) _ _ _ _ _ _ _ rfl rfl ((setRow_other _ _ _ _ (by omega)).trans (setRow_heap _ _ _ _ _ _ K7.out)) (setRow_heap _ _ _ _ _ _ ((setRow_other _ _ _ _ (by omega)).trans J7.out)) Tryd.underlying26 rfl (by kernel_rfl) (by kernel_rfl)) rfl ?_
    exact ⟨o, B2_, n2, c2, ys, o, C2_, n2, dd, ys, rfl, EY.out, HN2.out, EY.out, HN2.out, OR.rowOther6 (OR.rowOther6 O7.out K7.out (by decide) _) ((setRow_other _ _ _ _ (by omega)).trans J7.out) (by decide) _, OR.rowOther6 (OR.rowOther6 P7.out K7.out (by decide) _) ((setRow_other _ _ _ _ (by omega)).trans J7.out) (by decide) _, below_setRow (below_setRow B7.out (Nat.le_refl _) _) (Nat.le_succ _) _⟩

end Go.Proofs.YtachpoehejdpjaaDoor
