/-
  The program goes on by one event inside an audit. No conditions beyond that the run so far is right and of the call's own memory.
-/
import Derived.Test.YtckapndpefkcgaaGreatLoopA9
import Derived.Test.YtckapndpefkcgaaGreatImpl3t
import Derived.Test.YtckapndpefkcgaaGreatU8s
set_option maxHeartbeats 1000000
namespace Go.Proofs.YtckapndpefkcgaaGreat
open List renaming getElem_toArray → zz1, getElem_cons_succ → zz2, getElem_cons_zero → zz3, setIfInBounds_toArray → zz4, set_cons_zero → zz5, set_cons_succ → zz6
open Go.RowKit
set_option maxRecDepth 100000

theorem LoopA.ker {w W : World} {h : Nat} {p : Kp} {K : Ker} {A4 : Option Addr} {k c4 : Nat} {cs : List Int} {A5 : Option Addr} {m c5 : Nat} {ns : List Int} {ev : Int} {G : Gst} (J : LoopA w W h p K A4 k c4 cs A5 m c5 ns ev G) {p' : Kp} {K' : Ker} (own : KOwn W p' K') (n1 : 1 ≤ p'.n1) (ap : ∀ b, A4 = some ⟨b, 0, none⟩ → b ≠ p'.g1) (lo : w.heap.size ≤ p'.g1 ∧ w.heap.size ≤ p'.g2 ∧ w.heap.size ≤ p'.g3) (gp' : ∀ b, G.T = some ⟨b, 0, none⟩ → b ≠ p'.g1) :
    LoopA w (((((W.setCell ⟨h, 1, none⟩ (.slice p'.A1 p'.n1 p'.c1)).setCell ⟨h, 2, none⟩ (.slice p'.A2 4 p'.c2)).setCell ⟨h, 3, none⟩ (.slice p'.A3 4 p'.c3)).setCell ⟨h, 4, none⟩ (.int .i64 K'.tick)).setCell ⟨h, 5, none⟩ (.int .i64 K'.run)) h p' K' A4 k c4 cs A5 m c5 ns ev G := by
  obtain ⟨x1, hx1⟩ := mine_blk own.m1 (by omega)
  obtain ⟨x2, hx2⟩ := mine_blk own.m2 (by decide)
  obtain ⟨x3, hx3⟩ := mine_blk own.m3 (by decide)
  have S : ∀ b, b ≠ h → (((((W.setCell ⟨h, 1, none⟩ (.slice p'.A1 p'.n1 p'.c1)).setCell ⟨h, 2, none⟩ (.slice p'.A2 4 p'.c2)).setCell ⟨h, 3, none⟩ (.slice p'.A3 4 p'.c3)).setCell ⟨h, 4, none⟩ (.int .i64 K'.tick)).setCell ⟨h, 5, none⟩ (.int .i64 K'.run)).heap[b]? = W.heap[b]? := fun b hb => ((Below.heap_setCell _ ⟨h, 5, none⟩ _ _ hb).trans ((Below.heap_setCell _ ⟨h, 4, none⟩ _ _ hb).trans ((Below.heap_setCell _ ⟨h, 3, none⟩ _ _ hb).trans ((Below.heap_setCell _ ⟨h, 2, none⟩ _ _ hb).trans ((Below.heap_setCell _ ⟨h, 1, none⟩ _ _ hb).trans rfl)))))
  refine ⟨own.keepB (S _ (blk_ne hx1 J.box (by decide))) (S _ (blk_ne hx2 J.box (by decide))) (S _ (blk_ne hx3 J.box (by decide))), n1, (heap_setCell_same _ _ 5 _ _ _ (heap_setCell_same _ _ 4 _ _ _ (heap_setCell_same _ _ 3 _ _ _ (heap_setCell_same _ _ 2 _ _ _ (heap_setCell_same _ _ 1 _ _ _ J.box))))), J.oc.keepAll fun b e => ?_, J.on.keepAll fun b e => ?_, ap, ⟨J.lo.1, lo⟩, (((((J.bw.setCell (p := ⟨h, 1, none⟩) J.lo.1 _).setCell (p := ⟨h, 2, none⟩) J.lo.1 _).setCell (p := ⟨h, 3, none⟩) J.lo.1 _).setCell (p := ⟨h, 4, none⟩) J.lo.1 _).setCell (p := ⟨h, 5, none⟩) J.lo.1 _), J.og.keepAll (fun b e => S _ (by have hoc := J.og; rw [e] at hoc; obtain ⟨_, hx⟩ := or_blk hoc; exact blk_ne hx J.box (by decide))), fun b e => ⟨gp' b e, (J.gp b e).2⟩, fun b e => ⟨(J.ob b e).1, (S _ (blk_ne (J.ob b e).2.1 J.box (J.ob b e).2.2.1)).trans (J.ob b e).2.1, (J.ob b e).2.2⟩⟩
  · have hoc := J.oc
    rw [e] at hoc
    obtain ⟨_, hx⟩ := or_blk hoc
    exact S _ (blk_ne hx J.box (by decide))
  · have hoc := J.on
    rw [e] at hoc
    obtain ⟨_, hx⟩ := or_blk hoc
    exact S _ (blk_ne hx J.box (by decide))
set_option maxHeartbeats 16000000 in
theorem meetNextA_any {w W : World} {h : Nat} {p : Kp} {K : Ker} {A4 : Option Addr} {k c4 : Nat} {cs : List Int} {A5 : Option Addr} {m c5 : Nat} {ns : List Int} {ev : Int} {G : Gst} (J0 : LoopA w W h p K A4 k c4 cs A5 m c5 ns ev G) (sk : SK K) (ht : K.tick < 100000) (hk : k ≤ 400) (hm : m ≤ 3600) (ek ea eb ec ee es et : Int) :
    Calls Tryz.prog 58 #[.pointer (some ⟨h, 0, none⟩), .agg #[.int .i64 ek, .int .i64 ea, .int .i64 eb, .int .i64 ec, .int .i64 ee, .int .i64 es, .int .i64 et]] W fun e W' => e = .returned (.tuple #[]) ∧ ∃ (p' : Kp) (A4' : Option Addr) (c4' : Nat) (A5' : Option Addr) (m' c5' : Nat), LoopA w W' h p' (step3 K ek ea eb ec ee es et).2.1 A4' (k + 1) c4' (cs ++ [(step3 K ek ea eb ec ee es et).1]) A5' m' c5' (ns ++ (step3 K ek ea eb ec ee es et).2.2) ev G := by
  obtain ⟨i0, hi0, hz0, hz1, hz2⟩ := info_parts Tryz.info_i64
  obtain ⟨i3, hi3, hy0, hy1, hy2⟩ := info_parts Tryz.info_Note
  obtain ⟨w1, hw1⟩ : ∃ w1, w1 = W.alloc (.cells #[.int .i64 ek, .int .i64 ea, .int .i64 eb, .int .i64 ec, .int .i64 ee, .int .i64 es, .int .i64 et] 57) := ⟨_, rfl⟩
  have KE : w1.heap[W.heap.size]? = some (.cells #[.int .i64 ek, .int .i64 ea, .int .i64 eb, .int .i64 ec, .int .i64 ee, .int .i64 es, .int .i64 et] 57 (0, 0)) := by rw [hw1]; exact heap_alloc_new W _
  have J := Lib.hid (show LoopA w w1 h p K A4 k c4 cs A5 m c5 ns ev G by rw [hw1]; exact J0.below (below_new W _))
  have Z1 : Hid (w1.heap.size = W.heap.size + 1) := by show _ = _; rw [hw1]; simp
  have LW : Hid (∀ b, A4 = some ⟨b, 0, none⟩ → b < w1.heap.size) := fun b e => by
    have hoc := J.out.oc
    rw [e] at hoc
    exact hoc.lt.2
  have KS : Hid (∀ X : World, Below w1.heap.size w1 X → (X.cell? ⟨h, 1, none⟩ = some (.slice p.A1 p.n1 p.c1) ∧ X.cell? ⟨h, 2, none⟩ = some (.slice p.A2 4 p.c2) ∧ X.cell? ⟨h, 3, none⟩ = some (.slice p.A3 4 p.c3) ∧ X.cell? ⟨h, 4, none⟩ = some (.int .i64 K.tick) ∧ X.cell? ⟨h, 5, none⟩ = some (.int .i64 K.run)) ∧ (X.cell? ⟨W.heap.size, 0, none⟩ = some (.int .i64 ek) ∧ X.cell? ⟨W.heap.size, 1, none⟩ = some (.int .i64 ea) ∧ X.cell? ⟨W.heap.size, 2, none⟩ = some (.int .i64 eb) ∧ X.cell? ⟨W.heap.size, 3, none⟩ = some (.int .i64 ec) ∧ X.cell? ⟨W.heap.size, 4, none⟩ = some (.int .i64 ee) ∧ X.cell? ⟨W.heap.size, 5, none⟩ = some (.int .i64 es) ∧ X.cell? ⟨W.heap.size, 6, none⟩ = some (.int .i64 et))) := fun X hX => by
    have j := (hX.block h (Array.getElem?_eq_some_iff.1 J.out.box).1).trans J.out.box
    have j2 := (hX.block W.heap.size (by have := Z1.out; omega)).trans KE
    exact ⟨⟨cell_of_row X _ 1 _ _ _ j, cell_of_row X _ 2 _ _ _ j, cell_of_row X _ 3 _ _ _ j, cell_of_row X _ 4 _ _ _ j, cell_of_row X _ 5 _ _ _ j⟩, cell_of_row X _ 0 _ _ _ j2, cell_of_row X _ 1 _ _ _ j2, cell_of_row X _ 2 _ _ _ j2, cell_of_row X _ 3 _ _ _ j2, cell_of_row X _ 4 _ _ _ j2, cell_of_row X _ 5 _ _ _ j2, cell_of_row X _ 6 _ _ _ j2⟩
  obtain ⟨r3, hr3⟩ : ∃ r3, r3 = step3 K ek ea eb ec ee es et := ⟨_, rfl⟩
  have RM : Hid (mev3 K ek ea eb ec ee es et = if r3.1 ≠ 0 then (r3.1, zeroKer, []) else r3) := by show _ = _; rw [hr3]; exact mev3_of sk ht ek ea eb ec ee es et
  have RB : Hid (r3.1 ≠ 0 → r3.2 = (K, [])) := fun hh => by rw [hr3] at hh ⊢; exact step3_bad hh
  have RS : Hid (SK r3.2.1 ∧ r3.2.2.length ≤ 9) := by
    obtain ⟨a, _, b⟩ := step3_sk sk ht ek ea eb ec ee es et
    show _ ∧ _
    rw [hr3]
    exact ⟨a, b⟩
  have ME : Hid (∀ X, Below w1.heap.size w1 X → Calls Tryz.prog 107 #[.agg #[.slice p.A1 p.n1 p.c1, .slice p.A2 4 p.c2, .slice p.A3 4 p.c3, .int .i64 K.tick, .int .i64 K.run], .agg #[.int .i64 ek, .int .i64 ea, .int .i64 eb, .int .i64 ec, .int .i64 ee, .int .i64 es, .int .i64 et]] X (KAns (mev3 K ek ea eb ec ee es et).1 (mev3 K ek ea eb ec ee es et).2.1 (mev3 K ek ea eb ec ee es et).2.2 X)) := fun X hX => by
    have jx := J.out.below hX
    obtain ⟨_, hx1⟩ := mine_blk jx.own.m1 (by have := jx.n1; omega)
    obtain ⟨_, hx2⟩ := mine_blk jx.own.m2 (by decide)
    obtain ⟨_, hx3⟩ := mine_blk jx.own.m3 (by decide)
    have v1 := (vf_zero sk.v).2.1
    have l1 := jx.own.l1
    exact meetEvent_any 0 X.heap.size p.A1 p.n1 p.c1 p.A2 4 p.c2 p.A3 4 p.c3 K ek ea eb ec ee es et X (by omega) (jx.own.read3 (Array.getElem?_eq_some_iff.1 hx1).1 (Array.getElem?_eq_some_iff.1 hx2).1 (Array.getElem?_eq_some_iff.1 hx3).1)
  rw [← hr3]
  obtain ⟨rm, hrm⟩ : ∃ rm, rm = mev3 K ek ea eb ec ee es et := ⟨_, rfl⟩
  rw [← hrm] at ME RM
  obtain ⟨mq, mK, mn⟩ := rm
  have HK := Lib.hid hk; have HM := Lib.hid hm
  have HW1 := Lib.hid hw1
  clear hw1 KE J0 sk ht hr3 hrm hk hm
  go_enter Tryz.func58, Tryz.ntmps58
  go_upto_region 1 with (fail)
  rw [← HW1.out]
  clear HW1
  go_cut [4] from 5 (fun x wx => ∃ gb, x = .pointer (some ⟨gb, 0, none⟩) ∧ AnsAt w1 gb mq mK mn wx)
  case first => as_aux_lemma =>
    refine wp_region_held_drew (S := fun X => (X.cell? ⟨h, 1, none⟩ = some (.slice p.A1 p.n1 p.c1) ∧ X.cell? ⟨h, 2, none⟩ = some (.slice p.A2 4 p.c2) ∧ X.cell? ⟨h, 3, none⟩ = some (.slice p.A3 4 p.c3) ∧ X.cell? ⟨h, 4, none⟩ = some (.int .i64 K.tick) ∧ X.cell? ⟨h, 5, none⟩ = some (.int .i64 K.run)) ∧ (X.cell? ⟨W.heap.size, 0, none⟩ = some (.int .i64 ek) ∧ X.cell? ⟨W.heap.size, 1, none⟩ = some (.int .i64 ea) ∧ X.cell? ⟨W.heap.size, 2, none⟩ = some (.int .i64 eb) ∧ X.cell? ⟨W.heap.size, 3, none⟩ = some (.int .i64 ec) ∧ X.cell? ⟨W.heap.size, 4, none⟩ = some (.int .i64 ee) ∧ X.cell? ⟨W.heap.size, 5, none⟩ = some (.int .i64 es) ∧ X.cell? ⟨W.heap.size, 6, none⟩ = some (.int .i64 et))) (by kernel_rfl) (KS.out _ (Below.refl _ _).drew) (fun hHeld => ?_)
    obtain ⟨v0, hv0⟩ : ∃ v0, v0 = w1.drew := ⟨_, rfl⟩
    have BL0 : Hid (Below w1.heap.size w1 v0) := by rw [hv0]; exact Below.drew (Below.refl _ _)
    rw [← hv0] at hHeld ⊢
    clear hv0
    refine tkH 0 ?_ rfl ?_ hHeld ?_; rotate_left; (intro w hSw; (try dsimp only at hSw); go_simp; try with_reducible rfl); try simp only [Act.put, zz1, zz2, zz3, zz4, zz5, zz6]
    refine tkH 1 ?_ rfl ?_ hHeld ?_; rotate_left; (intro w hSw; (try dsimp only at hSw); go_simp; try with_reducible rfl); try simp only [Act.put, zz1, zz2, zz3, zz4, zz5, zz6]
    refine tkH 2 ?_ rfl ?_ hHeld ?_; rotate_left; (intro w hSw; (try dsimp only at hSw); go_simp; try with_reducible rfl); try simp only [Act.put, zz1, zz2, zz3, zz4, zz5, zz6]
    refine tkH 3 ?_ rfl ?_ hHeld ?_; rotate_left; (intro w hSw; (try dsimp only at hSw); go_simp; try with_reducible rfl); try simp only [Act.put, zz1, zz2, zz3, zz4, zz5, zz6]
    refine tkH 4 ?_ rfl ?_ hHeld ?_; rotate_left; (intro w hSw; (try dsimp only at hSw); go_simp; try with_reducible rfl); try simp only [Act.put, zz1, zz2, zz3, zz4, zz5, zz6]
    refine wpAnyH_ready (rs := [5, 6]) (by kernel_rfl) (by simp) ?_
    refine AllReadyH.cons (o := _) rfl (fun K0 hK0 => ?_) (AllReadyH.cons (o := _) rfl (fun K0 hK0 => ?_) AllReadyH.nil)
    · go_simp
      refine (ME.out _ (BL0.out)).mono ?_
      rintro e9 v1 ⟨pr, rfl, ho, hb⟩
      go_wp2_with fail
      have BV1 := Lib.hid ((BL0.out).trans (hb.mono (BL0.out).size))
      have OW := Lib.hid ho
      have SV := Lib.hid (show w1.heap.size ≤ v0.heap.size from (BL0.out).size)
      unfold Rp.val
      clear ho hb
      refine hK0.out _ _ (KS.out _ BV1.out) (fun hHeld => ?_)
      clear hK0 K0
      try simp only [Act.put, zz1, zz2, zz3, zz4, zz5, zz6]
      refine wpAnyH_ready (rs := [6]) (by kernel_rfl) (by simp) ?_
      refine AllReadyH.cons (o := _) rfl (fun K0 hK0 => ?_) AllReadyH.nil
      go_simp
      obtain ⟨y1, hy⟩ : ∃ y, y = v1.alloc (.cells #[.int .i64 0, .slice none 0 0, .slice none 0 0, .slice none 0 0, .int .i64 0, .int .i64 0, .slice none 0 0] 61) := ⟨_, rfl⟩
      obtain ⟨bx, hbx⟩ : ∃ b, b = v1.heap.size := ⟨_, rfl⟩
      rw [← hy, ← hbx]
      have ZB := Lib.hid (show y1.heap[bx]? = some (.cells #[.int .i64 0, .slice none 0 0, .slice none 0 0, .slice none 0 0, .int .i64 0, .int .i64 0, .slice none 0 0] 61 (0, 0)) by rw [hy, hbx]; exact heap_alloc_new _ _)
      have ZL := Lib.hid (show w1.heap.size ≤ bx ∧ bx < y1.heap.size by rw [hy, hbx]; simp; exact (BV1.out).size)
      have BY := Lib.hid (show Below w1.heap.size w1 y1 by rw [hy]; exact (BV1.out).alloc (BV1.out).size _)
      have OW := Lib.hid (show ROwn y1 v0.heap.size bx pr mK mn by rw [hbx]; exact OW.out.kep (Kept.of_below (show Below v1.heap.size v1 y1 by rw [hy]; exact below_new _ _) []) (by simp) (by simp) (by simp) (by simp))
      clear hy hbx
      refine hK0.out _ _ (KS.out _ BY.out) (fun hHeld => ?_)
      clear hK0 K0
      try simp only [Act.put, zz1, zz2, zz3, zz4, zz5, zz6]
      refine wpAnyH_ready (rs := [7]) (by kernel_rfl) (by simp) ?_
      refine AllReadyH.cons (o := _) rfl (fun K0 hK0 => ?_) AllReadyH.nil
      clear hHeld
      rw [if_pos (by rfl)]
      refine wp_store_row 61 _ _ rfl (bx) _ rfl rfl 61 _ ZB.out (by kernel_rfl) rfl (by simp [Value.oneCell']) ?_
      refine hK0.out _ _ (KS.out _ (below_setRow (BY.out) ZL.out.1 _)) (fun hHeld => ?_)
      clear hK0 K0
      try simp only [Act.put, zz1, zz2, zz3, zz4, zz5, zz6]
      refine wpAnyH_done (by kernel_rfl) ?_ _
      go_wp2_with fail
      go_meet
      case rel => exact ⟨bx, rfl, ansAt_of ZB.out OW.out (.inr (Nat.le_refl _)) (SV.out) (Nat.le_of_lt ZL.out.2) ZL.out.1 (BY.out)⟩
    · go_simp
      obtain ⟨y0, hy⟩ : ∃ y, y = v0.alloc (.cells #[.int .i64 0, .slice none 0 0, .slice none 0 0, .slice none 0 0, .int .i64 0, .int .i64 0, .slice none 0 0] 61) := ⟨_, rfl⟩
      obtain ⟨bx, hbx⟩ : ∃ b, b = v0.heap.size := ⟨_, rfl⟩
      rw [← hy, ← hbx]
      have ZB := Lib.hid (show y0.heap[bx]? = some (.cells #[.int .i64 0, .slice none 0 0, .slice none 0 0, .slice none 0 0, .int .i64 0, .int .i64 0, .slice none 0 0] 61 (0, 0)) by rw [hy, hbx]; exact heap_alloc_new _ _)
      have ZL := Lib.hid (show w1.heap.size ≤ bx ∧ bx < y0.heap.size by rw [hy, hbx]; simp; exact (BL0.out).size)
      have BY := Lib.hid (show Below w1.heap.size w1 y0 by rw [hy]; exact (BL0.out).alloc (BL0.out).size _)
      have BXL := Lib.hid (show bx < y0.heap.size from ZL.out.2)
      have BX0 := Lib.hid hbx
      clear hy hbx
      refine hK0.out _ _ (KS.out _ BY.out) (fun hHeld => ?_)
      clear hK0 K0
      try simp only [Act.put, zz1, zz2, zz3, zz4, zz5, zz6]
      refine wpAnyH_ready (rs := [5]) (by kernel_rfl) (by simp) ?_
      refine AllReadyH.cons (o := _) rfl (fun K0 hK0 => ?_) AllReadyH.nil
      go_simp
      refine (ME.out _ (BY.out)).mono ?_
      rintro e9 v1 ⟨pr, rfl, ho, hb⟩
      go_wp2_with fail
      have BV1 := Lib.hid ((BY.out).trans (hb.mono (BY.out).size))
      have OW := Lib.hid ho
      have SV := Lib.hid (show w1.heap.size ≤ y0.heap.size from (BY.out).size)
      have ZL := Lib.hid (show w1.heap.size ≤ bx ∧ bx < v1.heap.size by have := ZL.out; have := hb.size; omega)
      have BXL := Lib.hid (show bx < y0.heap.size from BXL.out)
      have ZB := Lib.hid ((hb.block bx BXL.out).trans ZB.out)
      unfold Rp.val
      clear ho hb
      refine hK0.out _ _ (KS.out _ BV1.out) (fun hHeld => ?_)
      clear hK0 K0
      try simp only [Act.put, zz1, zz2, zz3, zz4, zz5, zz6]
      refine wpAnyH_ready (rs := [7]) (by kernel_rfl) (by simp) ?_
      refine AllReadyH.cons (o := _) rfl (fun K0 hK0 => ?_) AllReadyH.nil
      clear hHeld
      rw [if_pos (by rfl)]
      refine wp_store_row 61 _ _ rfl (bx) _ rfl rfl 61 _ ZB.out (by kernel_rfl) rfl (by simp [Value.oneCell']) ?_
      refine hK0.out _ _ (KS.out _ (below_setRow (BV1.out) ZL.out.1 _)) (fun hHeld => ?_)
      clear hK0 K0
      try simp only [Act.put, zz1, zz2, zz3, zz4, zz5, zz6]
      refine wpAnyH_done (by kernel_rfl) ?_ _
      go_wp2_with fail
      go_meet
      case rel => exact ⟨bx, rfl, ansAt_of ZB.out OW.out (.inl BXL.out) (SV.out) (Nat.le_refl _) ZL.out.1 (BV1.out)⟩
  case rest =>
    obtain ⟨wx, hwx⟩ : ∃ wx, wx = wc := ⟨_, rfl⟩
    subst hwx
    obtain ⟨gb, rfl, pr, hx, ho, hd, hg, hb⟩ := hcut
    have J2 := Lib.hid (J.out.below hb)
    have BX := Lib.hid hb
    have PX := Lib.hid hx
    have PO := Lib.hid ho
    have PG := Lib.hid hg
    clear hx ho hd hg hb ME KS
    have X3 : Hid (Below wx.heap.size wx (wx.drew.alloc (.cells #[.int .i64 mq] 2))) := (show Below wx.heap.size wx (wx.drew.alloc _) from (Below.refl wx.heap.size wx).drew.alloc (Nat.le_refl _) _)
    have O3 := Lib.hid (J2.out.oc.below X3.out (Nat.le_refl _))
    have H3 := Lib.hid ((X3.out.block h (Array.getElem?_eq_some_iff.1 J2.out.box).1).trans J2.out.box)
    have NW := Lib.hid (cell_one_new wx.drew (.int .i64 mq) 2)
    have Z3 := Lib.hid (show w.heap.size ≤ (wx.drew.alloc (.cells #[.int .i64 mq] 2)).heap.size by have := J2.out.bw.size; have := X3.out.size; omega)
    have o6 := cell_of_row wx _ 6 _ _ _ J2.out.box
    have f6 := frozen_of_row wx _ 6 _ _ J2.out.box
    have p6 : (wx.alloc (.cells #[.int .i64 mq] 2)).cell? ⟨h, 6, none⟩ = some (.slice A4 k c4) := cell_of_row _ _ 6 _ _ _ H3.out
    have c0 := cell_of_row wx _ 0 _ _ _ PX.out
    simp at o6 c0
    have hk4 := HK.out
    go_upto_region 2 with (fail)
    go_cut [4] from 5 (fun x WV => x = .pointer (some ⟨gb, 0, none⟩) ∧ ∃ AV cV, LoopA w WV h p K AV (k + 1) cV (cs ++ [mq]) A5 m c5 ns ev G ∧ (∀ b, w1.heap.size ≤ b → b < wx.heap.size → WV.heap[b]? = wx.heap[b]?) ∧ (∀ b, AV = some ⟨b, 0, none⟩ → ¬ (w1.heap.size ≤ b ∧ b < wx.heap.size)))
    case first => as_aux_lemma =>
      go_region_law (refine step_append_lies _ rfl (.tmp 15) (.tmp 18) 35 rfl w.heap.size 2 i0 (.int .i64 0) 1 8 Tryz.underlying35 hi0 hz0 hz1 hz2 rfl (by decide) _ k _ rfl O3.out ⟨wx.heap.size, 0, none⟩ 1 1 [.int .i64 mq] rfl rfl NW.out (by simp [Value.oneCell']) (by decide) (by unfold maxLen; omega) (by omega) Z3.out _ rfl ?_; intro g7 cap w7 hown hgrow hat hlt; have K7 := Lib.hid ((hgrow.block h (Array.getElem?_eq_some_iff.1 H3.out).1 (own_ne3 H3.out (by decide) O3.out)).trans H3.out); have y6 := cell_of_row w7 _ 6 _ _ _ K7.out; have f7 := frozen_of_row w7 _ 6 _ _ K7.out; simp at y6; have HO7 := Lib.hid hown; have HG7 := Lib.hid hgrow; have HAT := Lib.hid hat; clear hown hgrow hat hlt)
      all_goals
        go_wp2_with fail
        go_meet
        have ho := HO7.out
        rw [show vals cs ++ [Value.int .i64 mq] = vals (cs ++ [mq]) by simp [vals]] at ho
        have jd : LoopA w wx.drew h p K A4 k c4 cs A5 m c5 ns ev G := J2.out.below (Below.refl _ _).drew
        refine ⟨rfl, _, _, jd.code mq ho HG7.out (HAT.out.imp (fun q => q.symm) (fun q => congrArg some q)), fun b h1 h2 => ?_, fun b e => ?_⟩
        · have hne : b ≠ h := by have := (Array.getElem?_eq_some_iff.1 J.out.box).1; omega
          refine (Below.heap_setCell _ ⟨h, 6, none⟩ _ b hne).trans ((HG7.out.block b (Nat.lt_of_lt_of_le h2 X3.out.size) fun e => ?_).trans (X3.out.block b h2))
          rcases A4 with _ | ad
          · cases e
          · obtain ⟨b', e1, _⟩ := OR.at_ J2.out.oc (by simp)
            injection e1 with e1
            subst e1
            have e2 : b = b' := Option.some.inj e
            have := LW.out b' rfl
            omega
        · have e1 : g7 = b := by injection e with e; injection e
          subst e1
          rcases HAT.out with q | q
          · rcases A4 with _ | ad
            · cases q
            · obtain ⟨b', e1, _⟩ := OR.at_ J2.out.oc (by simp)
              injection e1 with e1
              subst e1
              have e2 : b' = g7 := Option.some.inj q
              have := LW.out b' rfl
              omega
          · have hq : g7 = wx.heap.size + 1 := q.trans (by simp)
            omega
    case rest =>
      obtain ⟨wy, hwy⟩ : ∃ wy, wy = wc := ⟨_, rfl⟩
      subst hwy
      obtain ⟨rfl, AV, cV, hj, hkeep, hap⟩ := hcut
      have J3 := Lib.hid hj
      have GB := Lib.hid ((hkeep gb PG.out.1 PG.out.2).trans PX.out)
      have KP := Lib.hid hkeep
      have AP := Lib.hid hap
      clear hj hkeep hap o6 f6 p6 c0 X3 O3 H3 NW Z3
      have gbk := GB.out
      have g0 := cell_of_row wy _ 0 _ _ _ gbk; have g1 := cell_of_row wy _ 1 _ _ _ gbk; have g2 := cell_of_row wy _ 2 _ _ _ gbk; have g3 := cell_of_row wy _ 3 _ _ _ gbk; have g4 := cell_of_row wy _ 4 _ _ _ gbk; have g5 := cell_of_row wy _ 5 _ _ _ gbk; have g6 := cell_of_row wy _ 6 _ _ _ gbk
      simp at g0 g1 g2 g3 g4 g5 g6
      clear gbk
      by_cases h0 : mq = 0
      case neg =>
        have y : (mq == 0) = false := by simp [h0]
        have E0 : Hid (r3 = (mq, K, [])) := by
          show _ = _
          have hr := RM.out
          by_cases hq : r3.1 = 0
          · rw [if_neg (by simp [hq])] at hr
            rw [← hr] at hq
            exact absurd hq h0
          · rw [if_pos hq] at hr
            have h1 : mq = r3.1 := congrArg Prod.fst hr
            have h2 := RB.out hq
            rw [h1, ← h2]
        go_wp2
        go_end0
        rw [E0.out]
        refine ⟨rfl, p, AV, cV, A5, m, c5, ?_⟩
        rw [List.append_nil]
        exact J3.out
      have E0 : Hid ((0, mK, mn) = r3) := by
        show _ = _
        have hr := RM.out
        by_cases hq : r3.1 = 0
        · rw [if_neg (by simp [hq])] at hr
          rw [← hr, h0]
        · rw [if_pos hq] at hr
          exact absurd ((congrArg Prod.fst hr).symm.trans h0) hq
      subst h0
      rw [← E0.out] at RS
      clear RM RB
      have SK1 : Hid (SK mK ∧ mn.length ≤ 9) := RS.out
      have PN : Hid (pr.n2 = 4 ∧ pr.n3 = 4 ∧ 1 ≤ pr.n1) := by
        have l1 := PO.out.l1; have l2 := PO.out.l2; have l3 := PO.out.l3
        have k2 := SK1.out.1.l2; have k3 := SK1.out.1.l3
        obtain ⟨v1, _⟩ := vf_zero SK1.out.1.v
        show _ ∧ _ ∧ _
        omega
      obtain ⟨A1', n1', c1', A2', n2', c2', A3', n3', c3', An, nn, cn, g1', g2', g3', g4'⟩ := pr
      obtain ⟨hn2, hn3, hn1⟩ := PN.out
      simp only at hn2 hn3 hn1
      subst hn2 hn3
      have OWN : Hid (KOwn wy ⟨A1', n1', c1', A2', c2', A3', c3', g1', g2', g3'⟩ mK) := by
        have po := PO.out
        exact (show KOwn wx ⟨A1', n1', c1', A2', c2', A3', c3', g1', g2', g3'⟩ mK from ⟨po.l1, SK1.out.1.l2, SK1.out.1.l3, po.nil1, po.m1, po.m2, po.m3, po.d12 (show n1' ≠ 0 by omega) (show (4 : Nat) ≠ 0 by decide), po.d13 (show n1' ≠ 0 by omega) (show (4 : Nat) ≠ 0 by decide), po.d23 (show (4 : Nat) ≠ 0 by decide) (show (4 : Nat) ≠ 0 by decide)⟩).keepB (KP.out _ po.b1.1 po.b1.2) (KP.out _ po.b2.1 po.b2.2) (KP.out _ po.b3.1 po.b3.2)
      have J4 := Lib.hid (J3.out.ker (p' := ⟨A1', n1', c1', A2', c2', A3', c3', g1', g2', g3'⟩) OWN.out hn1 (fun b e hh => AP.out b e (by rw [hh]; exact PO.out.b1)) (by
        have h1 := PO.out.b1.1; have h2 := PO.out.b2.1; have h3 := PO.out.b3.1
        have := J.out.bw.size
        simp only at h1 h2 h3 ⊢
        omega) (fun b e hh => by
        have hoc := J.out.og
        rw [e] at hoc
        have h1 := hoc.lt
        have h2 := PO.out.b1.1
        simp only at h2 hh
        omega))
      have jb := J3.out.box
      have s0 := cell_of_row wy _ 0 _ _ _ jb; have s1 := cell_of_row wy _ 1 _ _ _ jb; have s2 := cell_of_row wy _ 2 _ _ _ jb; have s3 := cell_of_row wy _ 3 _ _ _ jb; have s4 := cell_of_row wy _ 4 _ _ _ jb; have s5 := cell_of_row wy _ 5 _ _ _ jb; have s6 := cell_of_row wy _ 6 _ _ _ jb; have s7 := cell_of_row wy _ 7 _ _ _ jb
      have f0 := frozen_of_row wy _ 0 _ _ jb; have f1 := frozen_of_row wy _ 1 _ _ jb; have f2 := frozen_of_row wy _ 2 _ _ jb; have f3 := frozen_of_row wy _ 3 _ _ jb; have f4 := frozen_of_row wy _ 4 _ _ jb; have f5 := frozen_of_row wy _ 5 _ _ jb; have f6 := frozen_of_row wy _ 6 _ _ jb; have f7 := frozen_of_row wy _ 7 _ _ jb
      simp at s0 s1 s2 s3 s4 s5 s6 s7
      clear jb
      go_upto_region 5 with (fail)
      obtain ⟨wz, hwz⟩ : ∃ wz, wz = (((((wy.setCell ⟨h, 1, none⟩ (.slice A1' n1' c1')).setCell ⟨h, 2, none⟩ (.slice A2' 4 c2')).setCell ⟨h, 3, none⟩ (.slice A3' 4 c3')).setCell ⟨h, 4, none⟩ (.int .i64 mK.tick)).setCell ⟨h, 5, none⟩ (.int .i64 mK.run)) := ⟨_, rfl⟩
      have J5 : Hid (LoopA w wz h ⟨A1', n1', c1', A2', c2', A3', c3', g1', g2', g3'⟩ mK AV (k + 1) cV (cs ++ [0]) A5 m c5 ns ev G) := by rw [hwz]; exact J4.out
      have FZ : Hid (∀ b, b ≠ h → wz.heap[b]? = wy.heap[b]?) := fun b hb => by rw [hwz]; exact ((Below.heap_setCell _ ⟨h, 5, none⟩ _ _ hb).trans ((Below.heap_setCell _ ⟨h, 4, none⟩ _ _ hb).trans ((Below.heap_setCell _ ⟨h, 3, none⟩ _ _ hb).trans ((Below.heap_setCell _ ⟨h, 2, none⟩ _ _ hb).trans ((Below.heap_setCell _ ⟨h, 1, none⟩ _ _ hb).trans rfl)))))
      have HB : Hid (gb ≠ h) := blk_ne GB.out J3.out.box (by decide)
      have GZ := Lib.hid ((FZ.out gb HB.out).trans GB.out)
      have HWZ := Lib.hid hwz
      clear hwz s0 f0 s1 f1 s2 f2 s3 f3 s4 f4 s5 f5 s6 f6 s7 f7 g0 g1 g2 g3 g4 g5 g6 J4
      rw [← HWZ.out]
      clear HWZ
      have gz := GZ.out
      have g6 := cell_of_row wz _ 6 _ _ _ gz
      have jz := J5.out.box
      have s7 := cell_of_row wz _ 7 _ _ _ jz
      have f7 := frozen_of_row wz _ 7 _ _ jz
      simp at g6 s7
      clear gz jz
      have hm3 := HM.out
      have JD : Hid (LoopA w wz.drew h ⟨A1', n1', c1', A2', c2', A3', c3', g1', g2', g3'⟩ mK AV (k + 1) cV (cs ++ [0]) A5 m c5 ns ev G) := J5.out.below (Below.refl _ _).drew
      have OO := Lib.hid JD.out.on
      by_cases hz : nn = 0
      · subst hz
        have M0 : Hid (mn = []) := List.length_eq_zero_iff.1 (by have := PO.out.l4; simp only at this; omega)
        go_region_law (refine step_zero3 rfl (.tmp 34) (.tmp 36) 31 rfl w.heap.size 96 i3 3 Tryz.underlying31 hi3 (.slice A5 m c5) m _ rfl OO.out An cn rfl ?_)
        all_goals
          go_wp2_with fail
          go_end0
          rw [← E0.out]
          exact ⟨rfl, _, AV, cV, A5, m + 0, c5, by rw [M0.out]; exact JD.out.notes (mm := 0) (more := []) (by rw [List.append_nil]; exact JD.out.on) (grown_refl3 _ _) (.inl rfl)⟩
      · have m4 := PO.out.m4
        rcases m4 with m4 | ⟨gx, off, hAn, hlo, hhi, hrow⟩
        · exact absurd (show nn * 3 = 0 from m4) (by omega)
        have hAn : An = some ⟨gx, off, none⟩ := hAn
        subst hAn
        obtain rfl : gx = g4' := by simp only at hlo hhi; omega
        have b4 := PO.out.b4
        have hrow2 : Row wz.drew gx off 96 (nn * 3) (fun k => .int .i64 (gi mn k)) := hrow.keep (show wz.drew.heap[gx]? = wx.heap[gx]? from (FZ.out gx (by
          obtain ⟨cur, e, _⟩ := hrow
          have := (KP.out gx b4.1 b4.2).trans e
          exact blk_ne this J3.out.box (by decide))).trans (KP.out gx b4.1 b4.2))
        have NN : Hid (∀ j u, (vals mn)[j]? = some u → wz.drew.cell? ((⟨gx, off, none⟩ : Addr).add j) = some u) := fun j u hu => by
          have hj : j < mn.length := by have := (List.getElem?_eq_some_iff.1 hu).1; simpa [vals] using this
          rw [vals_get mn j hj] at hu
          injection hu with hu
          subst hu
          rw [Go.WideShapes.add_plain]
          have := PO.out.l4
          simp only at this
          exact hrow2.cell (by omega)
        have ON := Lib.hid (one_vals3 mn)
        have LV : Hid ((vals mn).length = nn * 3) := by show _ = _; simp [vals]; exact PO.out.l4
        have LN : nn ≤ 3 := by have h1 := PO.out.l4; have h2 := SK1.out.2; simp only at h1; omega
        have ZC := Lib.hid (show w.heap.size ≤ wz.drew.heap.size from JD.out.bw.size)
        have HD := Lib.hid JD.out.box
        clear hlo hhi hrow hrow2 b4
        go_region_law (refine step_append_lies _ rfl (.tmp 34) (.tmp 36) 31 rfl w.heap.size 96 i3 (.agg #[.int .i64 0, .int .i64 0, .int .i64 0]) 3 24 Tryz.underlying31 hi3 hy0 hy1 hy2 rfl (by decide) (.slice A5 m c5) m _ rfl OO.out ⟨gx, off, none⟩ nn cn (vals mn) rfl LV.out NN.out ON.out (by omega) (by unfold maxLen; omega) (by omega) ZC.out _ rfl ?_; intro g7 cap w7 hown hgrow hat hlt; have K7 := Lib.hid ((hgrow.block h (Array.getElem?_eq_some_iff.1 HD.out).1 (own_ne3 HD.out (by decide) OO.out)).trans HD.out); have y7 := cell_of_row w7 _ 7 _ _ _ K7.out; have f8 := frozen_of_row w7 _ 7 _ _ K7.out; simp at y7; have HO7 := Lib.hid hown; have HG7 := Lib.hid hgrow; have HAT := Lib.hid hat; clear hown hgrow hat hlt)
        all_goals
          go_wp2_with fail
          go_end0
          have ho := HO7.out
          rw [show vals ns ++ vals mn = vals (ns ++ mn) by simp [vals]] at ho
          rw [← E0.out]
          exact ⟨rfl, _, AV, cV, some ⟨g7, 0, none⟩, m + nn, cap, JD.out.notes ho HG7.out (HAT.out.imp (fun q => q.symm) (fun q => congrArg some q))⟩

end Go.Proofs.YtckapndpefkcgaaGreat
