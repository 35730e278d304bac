/-
  The program's DoCall: for every kernel and call it answers as the model's. No conditions beyond that the kernel can be read.
-/
import Derived.Test.YtckapndpefkcgaaGreatTurn3b
import Derived.Test.YtckapndpefkcgaaGreatMeetM
import Derived.Test.YtckapndpefkcgaaGreatImpl3a
import Derived.Test.YtckapndpefkcgaaGreatSpec3f
import Derived.Test.YtckapndpefkcgaaGreatU8s
set_option maxHeartbeats 1000000
namespace Go.Proofs.YtckapndpefkcgaaGreat
open List renaming getElem_toArray → zz1, getElem_cons_succ → zz2, getElem_cons_zero → zz3, setIfInBounds_toArray → zz4, set_cons_zero → zz5, set_cons_succ → zz6
open Go.RowKit
set_option maxRecDepth 100000

theorem cf_ok {kk e s to : Int} (h : cf kk e s to = 0) : (kk = 1 ∨ kk = 2 ∨ kk = 3 ∨ kk = 4 ∨ kk = 5) ∧ (∃ ee : Nat, e = ee ∧ ee < 4) ∧ (∃ tt : Nat, to = tt ∧ tt < 4) := by
  rw [cf_eq] at h
  split at h
  · omega
  rename_i hb
  have hk : ckk kk = true := by
    rcases hk : ckk kk with _ | _
    · exact absurd (by unfold badK; rw [hk]; rfl) hb
    · rfl
  have h5 : kk = 1 ∨ kk = 2 ∨ kk = 3 ∨ kk = 4 ∨ kk = 5 := by
    unfold ckk at hk
    simp at hk
    omega
  unfold cr at h
  split at h
  · rename_i hc
    have he := hc.1; have ht := hc.2.1
    unfold inEnv at he ht
    simp at he ht
    exact ⟨h5, ⟨e.toNat, by omega, by omega⟩, ⟨to.toNat, by omega, by omega⟩⟩
  · omega
theorem TA.after {r : Int × Ker} {g : Nat} {p : Kp} {q : Value} {W W1 w' : World} {e : Ending} (hb : Below W.heap.size W W1) (h : TA r g p q W1 e w') : TA r g p q W e w' := by
  have hs := hb.size
  rcases h with ⟨h1, h2, h3⟩ | ⟨h1, h2, p', h3, h4, h5, h6, h7⟩
  · exact .inl ⟨h1, h2, (Kept.of_below hb _).trans h3⟩
  · exact .inr ⟨h1, h2, p', h3, h4.imp id fun hh => ⟨by omega, hh.2⟩, h5, h6, (Kept.of_below hb _).trans h7⟩
theorem run_kf2 (a b : Bool) (f : Nat) (w : World) : (Instr.field 132 (.agg #[.bool a, .bool b, .func (.func f) #[] #[]]) 2).run Tryz.prog w = .ok (.func (.func f) #[] #[]) w := by kernel_rfl

set_option maxHeartbeats 4000000 in
theorem doCall1_1 (K : Ker) (gc ee tt g : Nat) (s : Int) (p : Kp) (w : World) (hbox : w.heap[gc]? = some (.cells #[.int .i64 1, .int .i64 (ee : Int), .int .i64 s, .int .i64 (tt : Int)] 55 (0, 0))) (h : MB w g p K (.slice none 0 0)) (he : ee < 4) (ht : tt < 4) (hv : vf K.os = 0) (hc : cf 1 ee s tt = 0)
    (n0 : gc ≠ g) (n2 : gc ≠ p.g2) (n3 : gc ≠ p.g3) :
    Calls Tryz.prog 85 #[.pointer (some ⟨g, 0, none⟩), .pointer (some ⟨gc, 0, none⟩)] w (TA (call3 K 1 ee s tt) g p (.slice none 0 0) w) := by
  have gl : gc < w.heap.size := (Array.getElem?_eq_some_iff.1 hbox).1
  have BX := Lib.hid hbox
  have KS : Hid (∀ W, Below w.heap.size w W → (W.cell? ⟨gc, 0, none⟩ = some (.int .i64 1) ∧ W.cell? ⟨gc, 1, none⟩ = some (.int .i64 (ee : Int)) ∧ W.cell? ⟨gc, 2, none⟩ = some (.int .i64 s) ∧ W.cell? ⟨gc, 3, none⟩ = some (.int .i64 (tt : Int)))) := fun W hW => by
    have j := (hW.block gc gl).trans BX.out
    exact ⟨cell_of_row W _ 0 _ _ _ j, cell_of_row W _ 1 _ _ _ j, cell_of_row W _ 2 _ _ _ j, cell_of_row W _ 3 _ _ _ j⟩
  have HM := Lib.hid h
  have hn : p.n1 ≤ 12 := by have := (vf_zero hv).2.1; have := h.own.l1; omega
  obtain ⟨c0, c1, c2, c3⟩ := KS.out w (Below.refl _ _)
  clear hbox h
  go_enter Tryz.func85, Tryz.ntmps85
  go_wp2_with fail
  refine (implCallFault_any 1 ee s tt _).mono ?_
  rintro e w1 ⟨rfl, hb1⟩
  rw [hc]
  have HB1 := Lib.hid hb1
  obtain ⟨c0, c1, c2, c3⟩ := KS.out w1 hb1
  clear hb1
  go_wp2_with fail
  refine (must_no _).mono ?_
  rintro e w9 ⟨rfl, rfl⟩
  have L1 := callKinds_look 1 false (w1.alloc (.map ckm 5)).drew w1.heap.size (heap_alloc_new w1 _)
  have kv : ckf 1 = .func (.func 125) #[] #[] := rfl
  rw [kv] at L1
  simp only [Bool.false_eq_true, if_false] at L1
  have fl := run_kf2
  go_upto_region 1 with (fail)
  refine wp_region_held_drew (S := fun W => (W.cell? ⟨gc, 0, none⟩ = some (.int .i64 1) ∧ W.cell? ⟨gc, 1, none⟩ = some (.int .i64 (ee : Int)) ∧ W.cell? ⟨gc, 2, none⟩ = some (.int .i64 s) ∧ W.cell? ⟨gc, 3, none⟩ = some (.int .i64 (tt : Int)))) (by kernel_rfl) ⟨c0, c1, c2, c3⟩ (fun hHeld => ?_)
  refine tkH 1 ?_ rfl ?_ hHeld ?_; rotate_left; (intro w hSw; (try dsimp only at hSw); go_simp; try with_reducible rfl); try simp only [Act.put, zz4, zz5, zz6]
  refine tkH 2 ?_ rfl ?_ hHeld ?_; rotate_left; (intro w hSw; (try dsimp only at hSw); go_simp; try with_reducible rfl); try simp only [Act.put, zz4, zz5, zz6]
  refine tkH 5 ?_ rfl ?_ hHeld ?_; rotate_left; (intro w hSw; (try dsimp only at hSw); go_simp; try with_reducible rfl); try simp only [Act.put, zz4, zz5, zz6]
  refine tkH 6 ?_ rfl ?_ hHeld ?_; rotate_left; (intro w hSw; (try dsimp only at hSw); go_simp; try with_reducible rfl); try simp only [Act.put, zz4, zz5, zz6]
  refine wpAnyH_ready (rs := [0]) (by kernel_rfl) (by simp) ?_
  refine AllReadyH.cons (o := _) rfl (fun K0 hK0 => ?_) AllReadyH.nil
  go_simp
  refine (callKinds_any _).mono ?_
  rintro e w3 ⟨rfl, hw3⟩
  obtain rfl : w3 = (w1.alloc (.map ckm 5)).drew := hw3
  go_wp2_with fail
  have HB2 : Hid (Below w.heap.size w (w1.alloc (.map ckm 5)).drew) := (HB1.out.alloc HB1.out.size _).drew
  refine hK0.out _ _ (KS.out _ HB2.out) (fun hHeld => ?_)
  clear hK0 K0
  try simp only [Act.put, zz4, zz5, zz6]
  refine wpAnyH_ready (rs := [3]) (by kernel_rfl) (by simp) ?_
  refine AllReadyH.cons (o := _) rfl (fun K0 hK0 => ?_) AllReadyH.nil
  go_simp
  refine hK0.out _ _ (KS.out _ HB2.out) (fun hHeld => ?_)
  clear hK0 K0
  try simp only [Act.put, zz4, zz5, zz6]
  refine tkH 4 ?_ rfl ?_ hHeld ?_; rotate_left; (intro w hSw; (try dsimp only at hSw); go_simp; try with_reducible rfl); try simp only [Act.put, zz4, zz5, zz6]
  refine wpAnyH_ready (rs := [7]) (by kernel_rfl) (by simp) ?_
  refine AllReadyH.cons (o := _) rfl (fun K0 hK0 => ?_) AllReadyH.nil
  go_simp
  have M2 : MB (w1.alloc (.map ckm 5)).drew g p K (.slice none 0 0) := HM.out.kept (Kept.of_below HB2.out []) (by simp) (by simp) (by simp) (by simp)
  refine (meetCreate_any M2 1 ee s (tt : Int) he).mono ?_
  rintro e w4 hta
  have hta := hta.after HB2.out
  rcases hta with ⟨h1, rfl, h3⟩ | ⟨h1, rfl, p', h3, h4, h5, h6, h7⟩
  · go_wp2_with fail
    exact ⟨rfl, .inl ⟨h1, rfl, h3⟩⟩
  · go_wp2_with fail
    refine hK0.out _ _ ?_ (fun hHeld => ?_)
    · have j := (h7.2 gc gl (by simp; exact ⟨n0, n2, n3⟩)).trans BX.out
      exact ⟨cell_of_row w4 _ 0 _ _ _ j, cell_of_row w4 _ 1 _ _ _ j, cell_of_row w4 _ 2 _ _ _ j, cell_of_row w4 _ 3 _ _ _ j⟩
    clear hK0 K0
    refine wpAnyH_done (by kernel_rfl) ?_ _
    go_end0
    exact .inr ⟨h1, rfl, p', h3, h4, h5, h6, h7⟩

set_option maxHeartbeats 4000000 in
theorem doCall1_2 (K : Ker) (gc ee tt g : Nat) (s : Int) (p : Kp) (w : World) (hbox : w.heap[gc]? = some (.cells #[.int .i64 2, .int .i64 (ee : Int), .int .i64 s, .int .i64 (tt : Int)] 55 (0, 0))) (h : MB w g p K (.slice none 0 0)) (he : ee < 4) (ht : tt < 4) (hv : vf K.os = 0) (hc : cf 2 ee s tt = 0)
    (n0 : gc ≠ g) (n2 : gc ≠ p.g2) (n3 : gc ≠ p.g3) :
    Calls Tryz.prog 85 #[.pointer (some ⟨g, 0, none⟩), .pointer (some ⟨gc, 0, none⟩)] w (TA (call3 K 2 ee s tt) g p (.slice none 0 0) w) := by
  have gl : gc < w.heap.size := (Array.getElem?_eq_some_iff.1 hbox).1
  have BX := Lib.hid hbox
  have KS : Hid (∀ W, Below w.heap.size w W → (W.cell? ⟨gc, 0, none⟩ = some (.int .i64 2) ∧ W.cell? ⟨gc, 1, none⟩ = some (.int .i64 (ee : Int)) ∧ W.cell? ⟨gc, 2, none⟩ = some (.int .i64 s) ∧ W.cell? ⟨gc, 3, none⟩ = some (.int .i64 (tt : Int)))) := fun W hW => by
    have j := (hW.block gc gl).trans BX.out
    exact ⟨cell_of_row W _ 0 _ _ _ j, cell_of_row W _ 1 _ _ _ j, cell_of_row W _ 2 _ _ _ j, cell_of_row W _ 3 _ _ _ j⟩
  have HM := Lib.hid h
  have hn : p.n1 ≤ 12 := by have := (vf_zero hv).2.1; have := h.own.l1; omega
  obtain ⟨c0, c1, c2, c3⟩ := KS.out w (Below.refl _ _)
  clear hbox h
  go_enter Tryz.func85, Tryz.ntmps85
  go_wp2_with fail
  refine (implCallFault_any 2 ee s tt _).mono ?_
  rintro e w1 ⟨rfl, hb1⟩
  rw [hc]
  have HB1 := Lib.hid hb1
  obtain ⟨c0, c1, c2, c3⟩ := KS.out w1 hb1
  clear hb1
  go_wp2_with fail
  refine (must_no _).mono ?_
  rintro e w9 ⟨rfl, rfl⟩
  have L1 := callKinds_look 2 false (w1.alloc (.map ckm 5)).drew w1.heap.size (heap_alloc_new w1 _)
  have kv : ckf 2 = .func (.func 126) #[] #[] := rfl
  rw [kv] at L1
  simp only [Bool.false_eq_true, if_false] at L1
  have fl := run_kf2
  go_upto_region 1 with (fail)
  refine wp_region_held_drew (S := fun W => (W.cell? ⟨gc, 0, none⟩ = some (.int .i64 2) ∧ W.cell? ⟨gc, 1, none⟩ = some (.int .i64 (ee : Int)) ∧ W.cell? ⟨gc, 2, none⟩ = some (.int .i64 s) ∧ W.cell? ⟨gc, 3, none⟩ = some (.int .i64 (tt : Int)))) (by kernel_rfl) ⟨c0, c1, c2, c3⟩ (fun hHeld => ?_)
  refine tkH 1 ?_ rfl ?_ hHeld ?_; rotate_left; (intro w hSw; (try dsimp only at hSw); go_simp; try with_reducible rfl); try simp only [Act.put, zz4, zz5, zz6]
  refine tkH 2 ?_ rfl ?_ hHeld ?_; rotate_left; (intro w hSw; (try dsimp only at hSw); go_simp; try with_reducible rfl); try simp only [Act.put, zz4, zz5, zz6]
  refine tkH 5 ?_ rfl ?_ hHeld ?_; rotate_left; (intro w hSw; (try dsimp only at hSw); go_simp; try with_reducible rfl); try simp only [Act.put, zz4, zz5, zz6]
  refine tkH 6 ?_ rfl ?_ hHeld ?_; rotate_left; (intro w hSw; (try dsimp only at hSw); go_simp; try with_reducible rfl); try simp only [Act.put, zz4, zz5, zz6]
  refine wpAnyH_ready (rs := [0]) (by kernel_rfl) (by simp) ?_
  refine AllReadyH.cons (o := _) rfl (fun K0 hK0 => ?_) AllReadyH.nil
  go_simp
  refine (callKinds_any _).mono ?_
  rintro e w3 ⟨rfl, hw3⟩
  obtain rfl : w3 = (w1.alloc (.map ckm 5)).drew := hw3
  go_wp2_with fail
  have HB2 : Hid (Below w.heap.size w (w1.alloc (.map ckm 5)).drew) := (HB1.out.alloc HB1.out.size _).drew
  refine hK0.out _ _ (KS.out _ HB2.out) (fun hHeld => ?_)
  clear hK0 K0
  try simp only [Act.put, zz4, zz5, zz6]
  refine wpAnyH_ready (rs := [3]) (by kernel_rfl) (by simp) ?_
  refine AllReadyH.cons (o := _) rfl (fun K0 hK0 => ?_) AllReadyH.nil
  go_simp
  refine hK0.out _ _ (KS.out _ HB2.out) (fun hHeld => ?_)
  clear hK0 K0
  try simp only [Act.put, zz4, zz5, zz6]
  refine tkH 4 ?_ rfl ?_ hHeld ?_; rotate_left; (intro w hSw; (try dsimp only at hSw); go_simp; try with_reducible rfl); try simp only [Act.put, zz4, zz5, zz6]
  refine wpAnyH_ready (rs := [7]) (by kernel_rfl) (by simp) ?_
  refine AllReadyH.cons (o := _) rfl (fun K0 hK0 => ?_) AllReadyH.nil
  go_simp
  have M2 : MB (w1.alloc (.map ckm 5)).drew g p K (.slice none 0 0) := HM.out.kept (Kept.of_below HB2.out []) (by simp) (by simp) (by simp) (by simp)
  refine (meetDestroy_any M2 2 ee s (tt : Int) he hv).mono ?_
  rintro e w4 hta
  have hta := hta.after HB2.out
  rcases hta with ⟨h1, rfl, h3⟩ | ⟨h1, rfl, p', h3, h4, h5, h6, h7⟩
  · go_wp2_with fail
    exact ⟨rfl, .inl ⟨h1, rfl, h3⟩⟩
  · go_wp2_with fail
    refine hK0.out _ _ ?_ (fun hHeld => ?_)
    · have j := (h7.2 gc gl (by simp; exact ⟨n0, n2, n3⟩)).trans BX.out
      exact ⟨cell_of_row w4 _ 0 _ _ _ j, cell_of_row w4 _ 1 _ _ _ j, cell_of_row w4 _ 2 _ _ _ j, cell_of_row w4 _ 3 _ _ _ j⟩
    clear hK0 K0
    refine wpAnyH_done (by kernel_rfl) ?_ _
    go_end0
    exact .inr ⟨h1, rfl, p', h3, h4, h5, h6, h7⟩

set_option maxHeartbeats 4000000 in
theorem doCall1_3 (K : Ker) (gc ee tt g : Nat) (s : Int) (p : Kp) (w : World) (hbox : w.heap[gc]? = some (.cells #[.int .i64 3, .int .i64 (ee : Int), .int .i64 s, .int .i64 (tt : Int)] 55 (0, 0))) (h : MB w g p K (.slice none 0 0)) (he : ee < 4) (ht : tt < 4) (hv : vf K.os = 0) (hc : cf 3 ee s tt = 0)
    (n0 : gc ≠ g) (n2 : gc ≠ p.g2) (n3 : gc ≠ p.g3) :
    Calls Tryz.prog 85 #[.pointer (some ⟨g, 0, none⟩), .pointer (some ⟨gc, 0, none⟩)] w (TA (call3 K 3 ee s tt) g p (.slice none 0 0) w) := by
  have gl : gc < w.heap.size := (Array.getElem?_eq_some_iff.1 hbox).1
  have BX := Lib.hid hbox
  have KS : Hid (∀ W, Below w.heap.size w W → (W.cell? ⟨gc, 0, none⟩ = some (.int .i64 3) ∧ W.cell? ⟨gc, 1, none⟩ = some (.int .i64 (ee : Int)) ∧ W.cell? ⟨gc, 2, none⟩ = some (.int .i64 s) ∧ W.cell? ⟨gc, 3, none⟩ = some (.int .i64 (tt : Int)))) := fun W hW => by
    have j := (hW.block gc gl).trans BX.out
    exact ⟨cell_of_row W _ 0 _ _ _ j, cell_of_row W _ 1 _ _ _ j, cell_of_row W _ 2 _ _ _ j, cell_of_row W _ 3 _ _ _ j⟩
  have HM := Lib.hid h
  have hn : p.n1 ≤ 12 := by have := (vf_zero hv).2.1; have := h.own.l1; omega
  obtain ⟨c0, c1, c2, c3⟩ := KS.out w (Below.refl _ _)
  clear hbox h
  go_enter Tryz.func85, Tryz.ntmps85
  go_wp2_with fail
  refine (implCallFault_any 3 ee s tt _).mono ?_
  rintro e w1 ⟨rfl, hb1⟩
  rw [hc]
  have HB1 := Lib.hid hb1
  obtain ⟨c0, c1, c2, c3⟩ := KS.out w1 hb1
  clear hb1
  go_wp2_with fail
  refine (must_no _).mono ?_
  rintro e w9 ⟨rfl, rfl⟩
  have L1 := callKinds_look 3 false (w1.alloc (.map ckm 5)).drew w1.heap.size (heap_alloc_new w1 _)
  have kv : ckf 3 = .func (.func 127) #[] #[] := rfl
  rw [kv] at L1
  simp only [Bool.false_eq_true, if_false] at L1
  have fl := run_kf2
  go_upto_region 1 with (fail)
  refine wp_region_held_drew (S := fun W => (W.cell? ⟨gc, 0, none⟩ = some (.int .i64 3) ∧ W.cell? ⟨gc, 1, none⟩ = some (.int .i64 (ee : Int)) ∧ W.cell? ⟨gc, 2, none⟩ = some (.int .i64 s) ∧ W.cell? ⟨gc, 3, none⟩ = some (.int .i64 (tt : Int)))) (by kernel_rfl) ⟨c0, c1, c2, c3⟩ (fun hHeld => ?_)
  refine tkH 1 ?_ rfl ?_ hHeld ?_; rotate_left; (intro w hSw; (try dsimp only at hSw); go_simp; try with_reducible rfl); try simp only [Act.put, zz4, zz5, zz6]
  refine tkH 2 ?_ rfl ?_ hHeld ?_; rotate_left; (intro w hSw; (try dsimp only at hSw); go_simp; try with_reducible rfl); try simp only [Act.put, zz4, zz5, zz6]
  refine tkH 5 ?_ rfl ?_ hHeld ?_; rotate_left; (intro w hSw; (try dsimp only at hSw); go_simp; try with_reducible rfl); try simp only [Act.put, zz4, zz5, zz6]
  refine tkH 6 ?_ rfl ?_ hHeld ?_; rotate_left; (intro w hSw; (try dsimp only at hSw); go_simp; try with_reducible rfl); try simp only [Act.put, zz4, zz5, zz6]
  refine wpAnyH_ready (rs := [0]) (by kernel_rfl) (by simp) ?_
  refine AllReadyH.cons (o := _) rfl (fun K0 hK0 => ?_) AllReadyH.nil
  go_simp
  refine (callKinds_any _).mono ?_
  rintro e w3 ⟨rfl, hw3⟩
  obtain rfl : w3 = (w1.alloc (.map ckm 5)).drew := hw3
  go_wp2_with fail
  have HB2 : Hid (Below w.heap.size w (w1.alloc (.map ckm 5)).drew) := (HB1.out.alloc HB1.out.size _).drew
  refine hK0.out _ _ (KS.out _ HB2.out) (fun hHeld => ?_)
  clear hK0 K0
  try simp only [Act.put, zz4, zz5, zz6]
  refine wpAnyH_ready (rs := [3]) (by kernel_rfl) (by simp) ?_
  refine AllReadyH.cons (o := _) rfl (fun K0 hK0 => ?_) AllReadyH.nil
  go_simp
  refine hK0.out _ _ (KS.out _ HB2.out) (fun hHeld => ?_)
  clear hK0 K0
  try simp only [Act.put, zz4, zz5, zz6]
  refine tkH 4 ?_ rfl ?_ hHeld ?_; rotate_left; (intro w hSw; (try dsimp only at hSw); go_simp; try with_reducible rfl); try simp only [Act.put, zz4, zz5, zz6]
  refine wpAnyH_ready (rs := [7]) (by kernel_rfl) (by simp) ?_
  refine AllReadyH.cons (o := _) rfl (fun K0 hK0 => ?_) AllReadyH.nil
  go_simp
  have M2 : MB (w1.alloc (.map ckm 5)).drew g p K (.slice none 0 0) := HM.out.kept (Kept.of_below HB2.out []) (by simp) (by simp) (by simp) (by simp)
  refine (meetTake_any M2 3 ee s (tt : Int) he hn).mono ?_
  rintro e w4 hta
  have hta := hta.after HB2.out
  rcases hta with ⟨h1, rfl, h3⟩ | ⟨h1, rfl, p', h3, h4, h5, h6, h7⟩
  · go_wp2_with fail
    exact ⟨rfl, .inl ⟨h1, rfl, h3⟩⟩
  · go_wp2_with fail
    refine hK0.out _ _ ?_ (fun hHeld => ?_)
    · have j := (h7.2 gc gl (by simp; exact ⟨n0, n2, n3⟩)).trans BX.out
      exact ⟨cell_of_row w4 _ 0 _ _ _ j, cell_of_row w4 _ 1 _ _ _ j, cell_of_row w4 _ 2 _ _ _ j, cell_of_row w4 _ 3 _ _ _ j⟩
    clear hK0 K0
    refine wpAnyH_done (by kernel_rfl) ?_ _
    go_end0
    exact .inr ⟨h1, rfl, p', h3, h4, h5, h6, h7⟩

set_option maxHeartbeats 4000000 in
theorem doCall1_4 (K : Ker) (gc ee tt g : Nat) (s : Int) (p : Kp) (w : World) (hbox : w.heap[gc]? = some (.cells #[.int .i64 4, .int .i64 (ee : Int), .int .i64 s, .int .i64 (tt : Int)] 55 (0, 0))) (h : MB w g p K (.slice none 0 0)) (he : ee < 4) (ht : tt < 4) (hv : vf K.os = 0) (hc : cf 4 ee s tt = 0)
    (n0 : gc ≠ g) (n2 : gc ≠ p.g2) (n3 : gc ≠ p.g3) :
    Calls Tryz.prog 85 #[.pointer (some ⟨g, 0, none⟩), .pointer (some ⟨gc, 0, none⟩)] w (TA (call3 K 4 ee s tt) g p (.slice none 0 0) w) := by
  have gl : gc < w.heap.size := (Array.getElem?_eq_some_iff.1 hbox).1
  have BX := Lib.hid hbox
  have KS : Hid (∀ W, Below w.heap.size w W → (W.cell? ⟨gc, 0, none⟩ = some (.int .i64 4) ∧ W.cell? ⟨gc, 1, none⟩ = some (.int .i64 (ee : Int)) ∧ W.cell? ⟨gc, 2, none⟩ = some (.int .i64 s) ∧ W.cell? ⟨gc, 3, none⟩ = some (.int .i64 (tt : Int)))) := fun W hW => by
    have j := (hW.block gc gl).trans BX.out
    exact ⟨cell_of_row W _ 0 _ _ _ j, cell_of_row W _ 1 _ _ _ j, cell_of_row W _ 2 _ _ _ j, cell_of_row W _ 3 _ _ _ j⟩
  have HM := Lib.hid h
  have hn : p.n1 ≤ 12 := by have := (vf_zero hv).2.1; have := h.own.l1; omega
  obtain ⟨c0, c1, c2, c3⟩ := KS.out w (Below.refl _ _)
  clear hbox h
  go_enter Tryz.func85, Tryz.ntmps85
  go_wp2_with fail
  refine (implCallFault_any 4 ee s tt _).mono ?_
  rintro e w1 ⟨rfl, hb1⟩
  rw [hc]
  have HB1 := Lib.hid hb1
  obtain ⟨c0, c1, c2, c3⟩ := KS.out w1 hb1
  clear hb1
  go_wp2_with fail
  refine (must_no _).mono ?_
  rintro e w9 ⟨rfl, rfl⟩
  have L1 := callKinds_look 4 false (w1.alloc (.map ckm 5)).drew w1.heap.size (heap_alloc_new w1 _)
  have kv : ckf 4 = .func (.func 128) #[] #[] := rfl
  rw [kv] at L1
  simp only [Bool.false_eq_true, if_false] at L1
  have fl := run_kf2
  go_upto_region 1 with (fail)
  refine wp_region_held_drew (S := fun W => (W.cell? ⟨gc, 0, none⟩ = some (.int .i64 4) ∧ W.cell? ⟨gc, 1, none⟩ = some (.int .i64 (ee : Int)) ∧ W.cell? ⟨gc, 2, none⟩ = some (.int .i64 s) ∧ W.cell? ⟨gc, 3, none⟩ = some (.int .i64 (tt : Int)))) (by kernel_rfl) ⟨c0, c1, c2, c3⟩ (fun hHeld => ?_)
  refine tkH 1 ?_ rfl ?_ hHeld ?_; rotate_left; (intro w hSw; (try dsimp only at hSw); go_simp; try with_reducible rfl); try simp only [Act.put, zz4, zz5, zz6]
  refine tkH 2 ?_ rfl ?_ hHeld ?_; rotate_left; (intro w hSw; (try dsimp only at hSw); go_simp; try with_reducible rfl); try simp only [Act.put, zz4, zz5, zz6]
  refine tkH 5 ?_ rfl ?_ hHeld ?_; rotate_left; (intro w hSw; (try dsimp only at hSw); go_simp; try with_reducible rfl); try simp only [Act.put, zz4, zz5, zz6]
  refine tkH 6 ?_ rfl ?_ hHeld ?_; rotate_left; (intro w hSw; (try dsimp only at hSw); go_simp; try with_reducible rfl); try simp only [Act.put, zz4, zz5, zz6]
  refine wpAnyH_ready (rs := [0]) (by kernel_rfl) (by simp) ?_
  refine AllReadyH.cons (o := _) rfl (fun K0 hK0 => ?_) AllReadyH.nil
  go_simp
  refine (callKinds_any _).mono ?_
  rintro e w3 ⟨rfl, hw3⟩
  obtain rfl : w3 = (w1.alloc (.map ckm 5)).drew := hw3
  go_wp2_with fail
  have HB2 : Hid (Below w.heap.size w (w1.alloc (.map ckm 5)).drew) := (HB1.out.alloc HB1.out.size _).drew
  refine hK0.out _ _ (KS.out _ HB2.out) (fun hHeld => ?_)
  clear hK0 K0
  try simp only [Act.put, zz4, zz5, zz6]
  refine wpAnyH_ready (rs := [3]) (by kernel_rfl) (by simp) ?_
  refine AllReadyH.cons (o := _) rfl (fun K0 hK0 => ?_) AllReadyH.nil
  go_simp
  refine hK0.out _ _ (KS.out _ HB2.out) (fun hHeld => ?_)
  clear hK0 K0
  try simp only [Act.put, zz4, zz5, zz6]
  refine tkH 4 ?_ rfl ?_ hHeld ?_; rotate_left; (intro w hSw; (try dsimp only at hSw); go_simp; try with_reducible rfl); try simp only [Act.put, zz4, zz5, zz6]
  refine wpAnyH_ready (rs := [7]) (by kernel_rfl) (by simp) ?_
  refine AllReadyH.cons (o := _) rfl (fun K0 hK0 => ?_) AllReadyH.nil
  go_simp
  have M2 : MB (w1.alloc (.map ckm 5)).drew g p K (.slice none 0 0) := HM.out.kept (Kept.of_below HB2.out []) (by simp) (by simp) (by simp) (by simp)
  refine (meetFree_any M2 4 ee s (tt : Int) he hn).mono ?_
  rintro e w4 hta
  have hta := hta.after HB2.out
  rcases hta with ⟨h1, rfl, h3⟩ | ⟨h1, rfl, p', h3, h4, h5, h6, h7⟩
  · go_wp2_with fail
    exact ⟨rfl, .inl ⟨h1, rfl, h3⟩⟩
  · go_wp2_with fail
    refine hK0.out _ _ ?_ (fun hHeld => ?_)
    · have j := (h7.2 gc gl (by simp; exact ⟨n0, n2, n3⟩)).trans BX.out
      exact ⟨cell_of_row w4 _ 0 _ _ _ j, cell_of_row w4 _ 1 _ _ _ j, cell_of_row w4 _ 2 _ _ _ j, cell_of_row w4 _ 3 _ _ _ j⟩
    clear hK0 K0
    refine wpAnyH_done (by kernel_rfl) ?_ _
    go_end0
    exact .inr ⟨h1, rfl, p', h3, h4, h5, h6, h7⟩

set_option maxHeartbeats 4000000 in
theorem doCall1_5 (K : Ker) (gc ee tt g : Nat) (s : Int) (p : Kp) (w : World) (hbox : w.heap[gc]? = some (.cells #[.int .i64 5, .int .i64 (ee : Int), .int .i64 s, .int .i64 (tt : Int)] 55 (0, 0))) (h : MB w g p K (.slice none 0 0)) (he : ee < 4) (ht : tt < 4) (hv : vf K.os = 0) (hc : cf 5 ee s tt = 0)
    (n0 : gc ≠ g) (n2 : gc ≠ p.g2) (n3 : gc ≠ p.g3) :
    Calls Tryz.prog 85 #[.pointer (some ⟨g, 0, none⟩), .pointer (some ⟨gc, 0, none⟩)] w (TA (call3 K 5 ee s tt) g p (.slice none 0 0) w) := by
  have gl : gc < w.heap.size := (Array.getElem?_eq_some_iff.1 hbox).1
  have BX := Lib.hid hbox
  have KS : Hid (∀ W, Below w.heap.size w W → (W.cell? ⟨gc, 0, none⟩ = some (.int .i64 5) ∧ W.cell? ⟨gc, 1, none⟩ = some (.int .i64 (ee : Int)) ∧ W.cell? ⟨gc, 2, none⟩ = some (.int .i64 s) ∧ W.cell? ⟨gc, 3, none⟩ = some (.int .i64 (tt : Int)))) := fun W hW => by
    have j := (hW.block gc gl).trans BX.out
    exact ⟨cell_of_row W _ 0 _ _ _ j, cell_of_row W _ 1 _ _ _ j, cell_of_row W _ 2 _ _ _ j, cell_of_row W _ 3 _ _ _ j⟩
  have HM := Lib.hid h
  have hn : p.n1 ≤ 12 := by have := (vf_zero hv).2.1; have := h.own.l1; omega
  obtain ⟨c0, c1, c2, c3⟩ := KS.out w (Below.refl _ _)
  clear hbox h
  go_enter Tryz.func85, Tryz.ntmps85
  go_wp2_with fail
  refine (implCallFault_any 5 ee s tt _).mono ?_
  rintro e w1 ⟨rfl, hb1⟩
  rw [hc]
  have HB1 := Lib.hid hb1
  obtain ⟨c0, c1, c2, c3⟩ := KS.out w1 hb1
  clear hb1
  go_wp2_with fail
  refine (must_no _).mono ?_
  rintro e w9 ⟨rfl, rfl⟩
  have L1 := callKinds_look 5 false (w1.alloc (.map ckm 5)).drew w1.heap.size (heap_alloc_new w1 _)
  have kv : ckf 5 = .func (.func 129) #[] #[] := rfl
  rw [kv] at L1
  simp only [Bool.false_eq_true, if_false] at L1
  have fl := run_kf2
  go_upto_region 1 with (fail)
  refine wp_region_held_drew (S := fun W => (W.cell? ⟨gc, 0, none⟩ = some (.int .i64 5) ∧ W.cell? ⟨gc, 1, none⟩ = some (.int .i64 (ee : Int)) ∧ W.cell? ⟨gc, 2, none⟩ = some (.int .i64 s) ∧ W.cell? ⟨gc, 3, none⟩ = some (.int .i64 (tt : Int)))) (by kernel_rfl) ⟨c0, c1, c2, c3⟩ (fun hHeld => ?_)
  refine tkH 1 ?_ rfl ?_ hHeld ?_; rotate_left; (intro w hSw; (try dsimp only at hSw); go_simp; try with_reducible rfl); try simp only [Act.put, zz4, zz5, zz6]
  refine tkH 2 ?_ rfl ?_ hHeld ?_; rotate_left; (intro w hSw; (try dsimp only at hSw); go_simp; try with_reducible rfl); try simp only [Act.put, zz4, zz5, zz6]
  refine tkH 5 ?_ rfl ?_ hHeld ?_; rotate_left; (intro w hSw; (try dsimp only at hSw); go_simp; try with_reducible rfl); try simp only [Act.put, zz4, zz5, zz6]
  refine tkH 6 ?_ rfl ?_ hHeld ?_; rotate_left; (intro w hSw; (try dsimp only at hSw); go_simp; try with_reducible rfl); try simp only [Act.put, zz4, zz5, zz6]
  refine wpAnyH_ready (rs := [0]) (by kernel_rfl) (by simp) ?_
  refine AllReadyH.cons (o := _) rfl (fun K0 hK0 => ?_) AllReadyH.nil
  go_simp
  refine (callKinds_any _).mono ?_
  rintro e w3 ⟨rfl, hw3⟩
  obtain rfl : w3 = (w1.alloc (.map ckm 5)).drew := hw3
  go_wp2_with fail
  have HB2 : Hid (Below w.heap.size w (w1.alloc (.map ckm 5)).drew) := (HB1.out.alloc HB1.out.size _).drew
  refine hK0.out _ _ (KS.out _ HB2.out) (fun hHeld => ?_)
  clear hK0 K0
  try simp only [Act.put, zz4, zz5, zz6]
  refine wpAnyH_ready (rs := [3]) (by kernel_rfl) (by simp) ?_
  refine AllReadyH.cons (o := _) rfl (fun K0 hK0 => ?_) AllReadyH.nil
  go_simp
  refine hK0.out _ _ (KS.out _ HB2.out) (fun hHeld => ?_)
  clear hK0 K0
  try simp only [Act.put, zz4, zz5, zz6]
  refine tkH 4 ?_ rfl ?_ hHeld ?_; rotate_left; (intro w hSw; (try dsimp only at hSw); go_simp; try with_reducible rfl); try simp only [Act.put, zz4, zz5, zz6]
  refine wpAnyH_ready (rs := [7]) (by kernel_rfl) (by simp) ?_
  refine AllReadyH.cons (o := _) rfl (fun K0 hK0 => ?_) AllReadyH.nil
  go_simp
  have M2 : MB (w1.alloc (.map ckm 5)).drew g p K (.slice none 0 0) := HM.out.kept (Kept.of_below HB2.out []) (by simp) (by simp) (by simp) (by simp)
  refine (meetMove_any M2 5 ee s tt he ht hn).mono ?_
  rintro e w4 hta
  have hta := hta.after HB2.out
  rcases hta with ⟨h1, rfl, h3⟩ | ⟨h1, rfl, p', h3, h4, h5, h6, h7⟩
  · go_wp2_with fail
    exact ⟨rfl, .inl ⟨h1, rfl, h3⟩⟩
  · go_wp2_with fail
    refine hK0.out _ _ ?_ (fun hHeld => ?_)
    · have j := (h7.2 gc gl (by simp; exact ⟨n0, n2, n3⟩)).trans BX.out
      exact ⟨cell_of_row w4 _ 0 _ _ _ j, cell_of_row w4 _ 1 _ _ _ j, cell_of_row w4 _ 2 _ _ _ j, cell_of_row w4 _ 3 _ _ _ j⟩
    clear hK0 K0
    refine wpAnyH_done (by kernel_rfl) ?_ _
    go_end0
    exact .inr ⟨h1, rfl, p', h3, h4, h5, h6, h7⟩

set_option maxHeartbeats 2000000 in
theorem doCall1_no (K : Ker) (gc g : Nat) (kk e s to : Int) (p : Kp) (w : World) (hbox : w.heap[gc]? = some (.cells #[.int .i64 kk, .int .i64 e, .int .i64 s, .int .i64 to] 55 (0, 0))) (hc : (cf kk e s to != 0) = true) :
    Calls Tryz.prog 85 #[.pointer (some ⟨g, 0, none⟩), .pointer (some ⟨gc, 0, none⟩)] w (TA (cf kk e s to, K) g p (.slice none 0 0) w) := by
  have c0 := cell_of_row w _ 0 _ _ _ hbox
  have c1 := cell_of_row w _ 1 _ _ _ hbox
  have c2 := cell_of_row w _ 2 _ _ _ hbox
  have c3 := cell_of_row w _ 3 _ _ _ hbox
  simp at c0 c1 c2 c3
  clear hbox
  go_enter Tryz.func85, Tryz.ntmps85
  go_wp2_with fail
  refine (implCallFault_any kk e s to _).mono ?_
  rintro e1 w1 ⟨rfl, hb1⟩
  have KP := Lib.hid (Kept.of_below hb1 [g, p.g2, p.g3])
  clear hb1 c0 c1 c2 c3
  go_wp2_with fail
  refine (must_yes _ hc _).mono ?_
  rintro e9 w9 ⟨rfl, rfl⟩
  go_wp2
  exact ⟨rfl, .inl ⟨by simpa using hc, rfl, KP.out⟩⟩

theorem kans_on {q : Int} {K2 : Ker} {ns : List Int} {w w3 w4 : World} {p : Rp} {sx : Nat} {w0 : World} (ho : ROwn w4 w3.heap.size w4.heap.size p K2 ns) (hb : Below w3.heap.size w3 w4) (hx : BoxN 7 sx 61 w0 w4) (hs : sx < w3.heap.size) (hw : w.heap.size ≤ sx) (hB : Below w.heap.size w w3) :
    let W7 := (((((((w4.setCell ⟨sx, 0, none⟩ (.int .i64 q)).setCell ⟨sx, 1, none⟩ (.slice p.A1 p.n1 p.c1)).setCell ⟨sx, 2, none⟩ (.slice p.A2 p.n2 p.c2)).setCell ⟨sx, 3, none⟩ (.slice p.A3 p.n3 p.c3)).setCell ⟨sx, 4, none⟩ (.int .i64 K2.tick)).setCell ⟨sx, 5, none⟩ (.int .i64 K2.run)).setCell ⟨sx, 6, none⟩ (.slice p.A4 p.n4 p.c4))
    W7.heap[sx]? = some (.cells #[.int .i64 q, .slice p.A1 p.n1 p.c1, .slice p.A2 p.n2 p.c2, .slice p.A3 p.n3 p.c3, .int .i64 K2.tick, .int .i64 K2.run, .slice p.A4 p.n4 p.c4] 61 (0, 0)) ∧ KAns q K2 ns w (.returned (.agg #[.int .i64 q, .slice p.A1 p.n1 p.c1, .slice p.A2 p.n2 p.c2, .slice p.A3 p.n3 p.c3, .int .i64 K2.tick, .int .i64 K2.run, .slice p.A4 p.n4 p.c4])) W7 := by
  intro W7
  obtain ⟨cs, e, k⟩ := hx.of
  obtain ⟨a0, a1, a2, a3, a4, a5, a6, rfl⟩ := arr7 e
  have hsz : W7.heap.size = w4.heap.size := by simp [W7]
  have z := hB.size
  have z2 := hb.size
  refine ⟨blk7_set k _ _ _ _ _ _ _, p, rfl, ⟨ho.l1, ho.l2, ho.l3, ho.l4, ho.nil1, far7 ho.m1 (by have := ho.b1.1; omega) _ _ _ _ _ _ _, far7 ho.m2 (by have := ho.b2.1; omega) _ _ _ _ _ _ _, far7 ho.m3 (by have := ho.b3.1; omega) _ _ _ _ _ _ _, far7 ho.m4 (by have := ho.b4.1; omega) _ _ _ _ _ _ _, ho.d12, ho.d13, ho.d14, ho.d23, ho.d24, ho.d34, ⟨by have := ho.b1.1; omega, by have := ho.b1.2; omega⟩, ⟨by have := ho.b2.1; omega, by have := ho.b2.2; omega⟩, ⟨by have := ho.b3.1; omega, by have := ho.b3.2; omega⟩, ⟨by have := ho.b4.1; omega, by have := ho.b4.2; omega⟩⟩, below7 (hB.trans (hb.mono z)) hw _ _ _ _ _ _ _⟩

set_option maxHeartbeats 4000000 in
theorem implDoCall_any (lo hi : Nat) (A1 : Option Addr) (n1 c1 : Nat) (A2 : Option Addr) (n2 c2 : Nat) (A3 : Option Addr) (n3 c3 : Nat) (K : Ker) (kk e s to : Int) (w : World) (hn1 : n1 * 8 ≤ 140737488351232)
    (h : KRead w lo hi A1 n1 A2 n2 A3 n3 K) :
    Calls Tryz.prog 31 #[.agg #[.slice A1 n1 c1, .slice A2 n2 c2, .slice A3 n3 c3, .int .i64 K.tick, .int .i64 K.run], .agg #[.int .i64 kk, .int .i64 e, .int .i64 s, .int .i64 to]] w (KAns (docall K kk e s to).1 (docall K kk e s to).2 [] w) := by
  obtain ⟨w1, hw1⟩ : ∃ w1, w1 = w.alloc (.cells #[.slice A1 n1 c1, .slice A2 n2 c2, .slice A3 n3 c3, .int .i64 K.tick, .int .i64 K.run] 39) := ⟨_, rfl⟩
  obtain ⟨w2, hw2⟩ : ∃ w2, w2 = w1.alloc (.cells #[.int .i64 kk, .int .i64 e, .int .i64 s, .int .i64 to] 55) := ⟨_, rfl⟩
  obtain ⟨w3, hw3⟩ : ∃ w3, w3 = w2.alloc (.cells #[.int .i64 0, .slice none 0 0, .slice none 0 0, .slice none 0 0, .int .i64 0, .int .i64 0, .slice none 0 0] 61) := ⟨_, rfl⟩
  have s1 : w1.heap.size = w.heap.size + 1 := by rw [hw1]; simp
  have s2 : w2.heap.size = w.heap.size + 1 + 1 := by rw [hw2]; simp; omega
  have s3 : w3.heap.size = w.heap.size + 3 := by rw [hw3]; simp; omega
  have B3 : Hid (Below w.heap.size w w3) := by rw [hw3, hw2, hw1]; exact ((below_new w _).alloc (by simp) _).alloc (by simp; omega) _
  have k1 : w3.heap[w.heap.size]? = some (.cells #[.slice A1 n1 c1, .slice A2 n2 c2, .slice A3 n3 c3, .int .i64 K.tick, .int .i64 K.run] 39 (0, 0)) := by
    rw [hw3, hw2, hw1]
    exact (Below.heap_alloc _ _ _ (by simp; omega)).trans (heap_alloc2_old w _ _)
  have k2 : w3.heap[w.heap.size + 1]? = some (.cells #[.int .i64 kk, .int .i64 e, .int .i64 s, .int .i64 to] 55 (0, 0)) := by
    rw [hw3, hw2, hw1]
    exact (Below.heap_alloc _ _ _ (by simp)).trans (heap_alloc2_new w _ _)
  have k3 : w3.heap[w.heap.size + 1 + 1]? = some (.cells #[.int .i64 0, .slice none 0 0, .slice none 0 0, .slice none 0 0, .int .i64 0, .int .i64 0, .slice none 0 0] 61 (0, 0)) := by
    have := heap_alloc_new w2 (.cells #[.int .i64 0, .slice none 0 0, .slice none 0 0, .slice none 0 0, .int .i64 0, .int .i64 0, .slice none 0 0] 61)
    rw [s2, ← hw3] at this
    exact this
  have HW : w3 = ((w.alloc (.cells #[.slice A1 n1 c1, .slice A2 n2 c2, .slice A3 n3 c3, .int .i64 K.tick, .int .i64 K.run] 39)).alloc (.cells #[.int .i64 kk, .int .i64 e, .int .i64 s, .int .i64 to] 55)).alloc (.cells #[.int .i64 0, .slice none 0 0, .slice none 0 0, .slice none 0 0, .int .i64 0, .int .i64 0, .slice none 0 0] 61) := by rw [hw3, hw2, hw1]
  have S3 := Lib.hid s3
  have X3 : Hid (BoxN 7 (w.heap.size + 1 + 1) 61 w2 w3) := by
    show BoxN _ _ _ _ _
    have := BoxN.new w2 #[.int .i64 0, .slice none 0 0, .slice none 0 0, .slice none 0 0, .int .i64 0, .int .i64 0, .slice none 0 0] 61
    rw [s2, ← hw3] at this
    exact this
  have q0 := cell_of_row w3 _ 0 _ _ _ k1; have q1 := cell_of_row w3 _ 1 _ _ _ k1; have q2 := cell_of_row w3 _ 2 _ _ _ k1; have q3 := cell_of_row w3 _ 3 _ _ _ k1; have q4 := cell_of_row w3 _ 4 _ _ _ k1
  simp at q0 q1 q2 q3 q4
  have R3 := Lib.hid (h.lt.below B3.out (Nat.min_le_right _ _))
  have K2 := Lib.hid k2; have K3 := Lib.hid k3
  have hmf : ∀ (fn : Fn) (first cap : Array Value) (w : World), (Instr.makeFunc fn first cap).run Tryz.prog w = .ok (.func fn first cap) w := fun _ _ _ _ => rfl
  obtain ⟨r, hr⟩ : ∃ r : Int × Ker, r = if cf kk e s to ≠ 0 then (cf kk e s to, K) else call3 K kk e s to := ⟨_, rfl⟩
  have DC : Hid (turnans K r = docall K kk e s to) := by
    show _ = _
    unfold turnans docall
    by_cases hk : kf K = 0
    · rw [if_neg (fun hh => hh hk), if_neg (fun hh => hh hk)]
      by_cases hc : cf kk e s to = 0
      · rw [hr, if_neg (fun hh => hh hc), if_neg (fun hh => hh hc)]
      · rw [hr, if_pos hc, if_pos hc]; unfold orZero; rw [if_pos hc]
    · rw [if_pos hk, if_pos hk]
  have TR := Lib.hid (turned_any 85 (.pointer (some ⟨w.heap.size + 1, 0, none⟩)) (fun args W => by first | rfl | kernel_rfl | simp [go_sem]) r lo (min hi w.heap.size) A1 n1 c1 A2 n2 c2 A3 n3 c3 K w3 hn1 R3.out (fun hk W g p hW hg hgs hm => by
    have hv := (kf_zero hk).1
    have hbx : W.heap[w.heap.size + 1]? = some (.cells #[.int .i64 kk, .int .i64 e, .int .i64 s, .int .i64 to] 55 (0, 0)) := (hW.block _ (by have := S3.out; omega)).trans K2.out
    have lt := hm.lt2
    by_cases hc : cf kk e s to = 0
    · rw [hr, if_neg (fun hh => hh hc)]
      obtain ⟨h5, ⟨ee, rfl, he⟩, tt, rfl, ht⟩ := cf_ok hc
      have s3 := S3.out
      rcases h5 with rfl | rfl | rfl | rfl | rfl
      · exact doCall1_1 K (w.heap.size + 1) ee tt g s p W hbx hm he ht hv hc (by omega) (by omega) (by omega)
      · exact doCall1_2 K (w.heap.size + 1) ee tt g s p W hbx hm he ht hv hc (by omega) (by omega) (by omega)
      · exact doCall1_3 K (w.heap.size + 1) ee tt g s p W hbx hm he ht hv hc (by omega) (by omega) (by omega)
      · exact doCall1_4 K (w.heap.size + 1) ee tt g s p W hbx hm he ht hv hc (by omega) (by omega) (by omega)
      · exact doCall1_5 K (w.heap.size + 1) ee tt g s p W hbx hm he ht hv hc (by omega) (by omega) (by omega)
    · rw [hr, if_pos hc]
      exact doCall1_no K (w.heap.size + 1) g kk e s to p W hbx (by simp [hc])))
  rw [DC.out] at TR
  clear hw1 hw2 hw3 s1 s2 s3 k1 k2 k3 hr h DC R3 K2 K3
  go_enter Tryz.func31, Tryz.ntmps31
  go_upto_region 1 with (fail)
  rw [← HW]
  clear HW
  go_wp2_with fail
  refine TR.out.mono ?_
  rintro e1 w4 ⟨p, rfl, ho, hb⟩
  have X4 := X3.out.below hb
  have FA := Lib.hid (kans_on (w := w) (q := (docall K kk e s to).1) ho hb X4 (by have := S3.out; omega) (by omega) B3.out)
  have cc := fun j (hj : j < 7) => X4.cell j hj
  have ff := fun j => X4.frozen j
  have c0 := cc 0 (by omega); have c1' := cc 1 (by omega); have c2' := cc 2 (by omega); have c3' := cc 3 (by omega); have c4 := cc 4 (by omega); have c5 := cc 5 (by omega); have c6 := cc 6 (by omega)
  have f0 := ff 0; have f1 := ff 1; have f2 := ff 2; have f3 := ff 3; have f4 := ff 4; have f5 := ff 5; have f6 := ff 6
  unfold Rp.val
  clear cc ff X4 ho hb TR q0 q1 q2 q3 q4
  generalize (docall K kk e s to).1 = dq at *
  generalize (docall K kk e s to).2 = dK at *
  go_wp2
  exact bodyPost_ret (results_cell_row rfl _ _ (w.heap.size + 1 + 1) _ _ (0, 0) _ rfl FA.out.1 Tryz.underlying61 rfl (by kernel_rfl)) rfl FA.out.2

end Go.Proofs.YtckapndpefkcgaaGreat
