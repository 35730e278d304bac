/-
  The program's turned: a right kernel is copied, turned, and handed back, or refused by a code. No conditions beyond that the kernel can be read, and what the step makes of a machine.
-/
import Derived.Defers
import Derived.Recover
import Derived.WalkLawsBesides
import Derived.Deep.RegionHeld3
import Derived.Test.YtckapndpefkcgaaGreatMeet3
import Derived.Test.YtckapndpefkcgaaGreatClone3
import Derived.Test.YtckapndpefkcgaaGreatImpl3b
import Derived.Test.YtckapndpefkcgaaGreatKans3
import Derived.Test.YtckapndpefkcgaaGreatU8s
set_option maxHeartbeats 1000000

namespace Go.Proofs.YtckapndpefkcgaaGreat
open List renaming getElem_toArray → zz1, getElem_cons_succ → zz2, getElem_cons_zero → zz3, setIfInBounds_toArray → zz4, set_cons_zero → zz5, set_cons_succ → zz6
open Go.RowKit
set_option maxRecDepth 100000

theorem run_ta (c : Int) (w : World) : (Instr.typeAssert (.iface 154 (.int .i64 c)) 20 154 true).run Tryz.prog w = .ok (.tuple #[.int .i64 c, .bool true]) w := by kernel_rfl
theorem run_ne1 (c : Int) (w : World) : (binOp .neq 20 (.iface 154 (.int .i64 c)) .nilIface).run Tryz.prog w = .ok (.bool true) w := by kernel_rfl
theorem run_ne0 (w : World) : (binOp .neq 20 .nilIface .nilIface).run Tryz.prog w = .ok (.bool false) w := by kernel_rfl
theorem codeOf_any (c : Int) (w : World) : Calls Tryz.prog 111 #[.iface 154 (.int .i64 c)] w fun e w' => e = .returned (.int .i64 c) ∧ w = w' := by
  have hta := run_ta c
  go_enter Tryz.func111, Tryz.ntmps111
  go_wp2
  go_ret
  exact ⟨by simp, rfl⟩

theorem catch_idle (p : Addr) (w : World) :
    CallsD Tryz.prog 110 #[.pointer (some p)] .returning w fun e u' w' => e = .returned (.tuple #[]) ∧ u' = .returning ∧ w' = w := by
  refine callsD_of_wpS Tryz.func110 rfl fun c₀ cs hu => ?_
  apply wpS_seq
  apply wpS_region
  simp [wpOpsS, go_sem, recoverD, hu, Tryz.ntmps110, Exit.thenS]
  refine wpS_of_wp (show Code.wp Tryz.prog _ _ { tmps := #[.pointer (some p), .nilIface, .nilIface, undef, undef, undef, undef, undef], defers := [] } w from ?_)
  have h0 := run_ne0
  go_wp2
  cases c₀
  simp_all [bodyPostS, results, Tryz.results110]

theorem catch_panicking (s : Nat) (c : Int) (older : List PanicEntry) {w w0 : World} (hx : BoxN 7 s 61 w0 w) :
    CallsD Tryz.prog 110 #[.pointer (some ⟨s, 0, none⟩)] (.panicking ({ v := .iface 154 (.int .i64 c), recovered := false } :: older)) w fun e u' w' =>
      e = .returned (.tuple #[]) ∧ u' = .panicking ({ v := .iface 154 (.int .i64 c), recovered := true } :: older) ∧ w' = (((((((w.setCell ⟨s, 0, none⟩ (.int .i64 c)).setCell ⟨s, 1, none⟩ (.slice none 0 0)).setCell ⟨s, 2, none⟩ (.slice none 0 0)).setCell ⟨s, 3, none⟩ (.slice none 0 0)).setCell ⟨s, 4, none⟩ (.int .i64 0)).setCell ⟨s, 5, none⟩ (.int .i64 0)).setCell ⟨s, 6, none⟩ (.slice none 0 0)) := by
  refine callsD_of_wpS Tryz.func110 rfl fun c₀ cs hu => ?_
  apply wpS_seq
  apply wpS_region
  simp [wpOpsS, go_sem, recoverD, hu, Tryz.ntmps110, Exit.thenS]
  refine wpS_of_wp (show Code.wp Tryz.prog _ _ { tmps := #[.pointer (some ⟨s, 0, none⟩), .iface 154 (.int .i64 c), .iface 154 (.int .i64 c), undef, undef, undef, undef, undef], defers := [] } w from ?_)
  have h0 := run_ne1 c
  have cc := fun j (hj : j < 7) => hx.cell j hj
  have f := fun j => hx.frozen j
  have c0 := cc 0 (by omega); have c1' := cc 1 (by omega); have c2 := cc 2 (by omega); have c3 := cc 3 (by omega); have c4 := cc 4 (by omega); have c5 := cc 5 (by omega); have c6 := cc 6 (by omega)
  have f0 := f 0; have f1 := f 1; have f2 := f 2; have f3 := f 3; have f4 := f 4; have f5 := f 5; have f6 := f 6
  clear cc f
  go_wp2_with fail
  refine (codeOf_any c _).mono ?_
  rintro e9 w9 ⟨rfl, rfl⟩
  go_wp2
  simp [bodyPostS, results, Tryz.results110]



noncomputable def turnans (K : Ker) (r : Int × Ker) : Int × Ker := if kf K ≠ 0 then (kf K, zeroKer) else orZero r

theorem KAns.grow {q : Int} {K : Ker} {ns : List Int} {w w1 w' : World} {e : Ending} (h : KAns q K ns w1 e w') (hb : Below w.heap.size w w1) : KAns q K ns w e w' := by
  obtain ⟨p, he, ho, hb1⟩ := h
  have hs := hb.size
  exact ⟨p, he, ⟨ho.l1, ho.l2, ho.l3, ho.l4, ho.nil1, ho.m1, ho.m2, ho.m3, ho.m4, ho.d12, ho.d13, ho.d14, ho.d23, ho.d24, ho.d34, ⟨by have := ho.b1.1; omega, ho.b1.2⟩, ⟨by have := ho.b2.1; omega, ho.b2.2⟩, ⟨by have := ho.b3.1; omega, ho.b3.2⟩, ⟨by have := ho.b4.1; omega, ho.b4.2⟩⟩, hb.trans (hb1.mono hs)⟩
theorem BoxN.beyond {n s : Nat} {t : TypeId} {W0 W W' : World} (h : BoxN n s t W0 W) (hb : Below (s + 1) W W') : BoxN n s t W0 W' := by
  obtain ⟨h, cs, e, k⟩ := h
  exact ⟨h.trans (hb.mono (by omega)), cs, e, (hb.block s (by omega)).trans k⟩

set_option maxHeartbeats 8000000 in
theorem turned_any (fid : Nat) (cap : Value) (hcf : ∀ args W, (callFunc fid args).run Tryz.prog W = .ok (.enter fid args) W) (r : Int × Ker) (lo hi : Nat) (A1 : Option Addr) (n1 c1 : Nat) (A2 : Option Addr) (n2 c2 : Nat) (A3 : Option Addr) (n3 c3 : Nat) (K : Ker) (w : World) (hn1 : n1 * 8 ≤ 140737488351232)
    (h : KRead w lo hi A1 n1 A2 n2 A3 n3 K)
    (turn : kf K = 0 → ∀ (W : World) (g : Nat) (p : Kp), Below w.heap.size w W → w.heap.size ≤ g → (w.heap.size ≤ p.g2 ∧ w.heap.size ≤ p.g3) → MB W g p K (.slice none 0 0) → Calls Tryz.prog fid #[.pointer (some ⟨g, 0, none⟩), cap] W (TA r g p (.slice none 0 0) W)) :
    Calls Tryz.prog 69 #[.agg #[.slice A1 n1 c1, .slice A2 n2 c2, .slice A3 n3 c3, .int .i64 K.tick, .int .i64 K.run], .func (.func fid) #[] #[cap]] w (KAns (turnans K r).1 (turnans K r).2 [] w) := by
  obtain ⟨w1, hw1⟩ : ∃ w1, w1 = w.alloc (.cells #[.slice A1 n1 c1, .slice A2 n2 c2, .slice A3 n3 c3, .int .i64 K.tick, .int .i64 K.run] 39) := ⟨_, rfl⟩
  have k1 : w1.heap[w.heap.size]? = some (.cells #[.slice A1 n1 c1, .slice A2 n2 c2, .slice A3 n3 c3, .int .i64 K.tick, .int .i64 K.run] 39 (0, 0)) := by rw [hw1]; exact heap_alloc_new w _
  have B1 : Hid (Below w.heap.size w w1) := by rw [hw1]; exact below_new w _
  have S1 : Hid (w1.heap.size = w.heap.size + 1) := by show _ = _; rw [hw1]; simp
  obtain ⟨w2, hw2⟩ : ∃ w2, w2 = w1.alloc (.cells #[.int .i64 0, .slice none 0 0, .slice none 0 0, .slice none 0 0, .int .i64 0, .int .i64 0, .slice none 0 0] 61) := ⟨_, rfl⟩
  have X2 : Hid (BoxN 7 w1.heap.size 61 w1 w2) := by rw [hw2]; exact BoxN.new w1 #[.int .i64 0, .slice none 0 0, .slice none 0 0, .slice none 0 0, .int .i64 0, .int .i64 0, .slice none 0 0] _
  have S2 : Hid (w2.heap.size = w1.heap.size + 1) := by show _ = _; rw [hw2]; simp
  have hw12 : w2 = (w.alloc (.cells #[.slice A1 n1 c1, .slice A2 n2 c2, .slice A3 n3 c3, .int .i64 K.tick, .int .i64 K.run] 39)).alloc (.cells #[.int .i64 0, .slice none 0 0, .slice none 0 0, .slice none 0 0, .int .i64 0, .int .i64 0, .slice none 0 0] 61) := by rw [hw2, hw1]
  have KB : Hid (∀ W, Below w1.heap.size w1 W → W.cell? ⟨w.heap.size, 0, none⟩ = some (.slice A1 n1 c1) ∧ W.cell? ⟨w.heap.size, 1, none⟩ = some (.slice A2 n2 c2) ∧ W.cell? ⟨w.heap.size, 2, none⟩ = some (.slice A3 n3 c3) ∧ W.cell? ⟨w.heap.size, 3, none⟩ = some (.int .i64 K.tick) ∧ W.cell? ⟨w.heap.size, 4, none⟩ = some (.int .i64 K.run)) := fun W hW => by
    have k := (hW.block w.heap.size (by have := S1.out; omega)).trans k1
    exact ⟨cell_of_row W _ 0 _ _ _ k, cell_of_row W _ 1 _ _ _ k, cell_of_row W _ 2 _ _ _ k, cell_of_row W _ 3 _ _ _ k, cell_of_row W _ 4 _ _ _ k⟩
  have R := Lib.hid ((h.lt.below B1.out (Nat.min_le_right _ _)).below X2.out.fst (by have := S1.out; omega))
  have W1 := Lib.hid (show w1.heap.size = (w.alloc (.cells #[.slice A1 n1 c1, .slice A2 n2 c2, .slice A3 n3 c3, .int .i64 K.tick, .int .i64 K.run] 39)).heap.size by rw [hw1])
  have HR := Lib.hid h
  have TU := Lib.hid turn
  clear hw2 hw1 k1 h turn
  have hmf : ∀ (fn : Fn) (first cap : Array Value) (w : World), (Instr.makeFunc fn first cap).run Tryz.prog w = .ok (.func fn first cap) w := fun _ _ _ _ => rfl
  obtain ⟨q0, q1, q2, q3, q4⟩ := KB.out _ X2.out.fst
  go_enter_defers Tryz.func69, Tryz.ntmps69
  go_upto_region 2 with (fail)
  rw [← hw12]
  clear hw12
  go_wp2_with fail
  refine (implKernelFault_any lo (min hi w.heap.size) A1 n1 c1 A2 n2 c2 A3 n3 c3 K.tick K.run K w2 hn1 R.out rfl rfl).mono ?_
  rintro e w3 ⟨rfl, hb3⟩
  have X3 := Lib.hid (X2.out.below hb3)
  have HB3 := Lib.hid hb3
  clear hb3
  by_cases hk : kf K = 0
  · obtain ⟨v0, v2, v3⟩ := kf_zero hk
    obtain ⟨v1, v4, _, _⟩ := vf_zero v0
    obtain ⟨l1, l2, l3⟩ := HR.out.1
    obtain rfl : n2 = 4 := by omega
    obtain rfl : n3 = 4 := by omega
    have hn12 : n1 ≤ 12 := by omega
    have hn01 : 1 ≤ n1 := by omega
    have TE : Hid (turnans K r = orZero r) := by show _ = _; unfold turnans; rw [if_neg (fun hh => hh hk)]
    obtain ⟨q0, q1, q2, q3, q4⟩ := KB.out _ X3.out.fst
    have R3 := Lib.hid (R.out.below HB3.out (by have := S1.out; have := S2.out; omega))
    have TK := Lib.hid (TU.out hk)
    rw [hk]
    clear hk v0 v1 v2 v3 v4 l1 l2 l3
    go_wp2_with fail
    refine (must_no _).mono ?_
    rintro e w4 ⟨rfl, rfl⟩
    go_wp2_with fail
    refine (copyOf_any lo (min hi w.heap.size) A1 n1 c1 A2 c2 A3 c3 K.tick K.run K w3 R3.out hn12 hn01).mono ?_
    rintro e w4 ⟨p, rfl, ho, ⟨u1, u2, u3, u4, u5, u6⟩, hb4⟩
    obtain ⟨w5, hw5⟩ : ∃ w5, w5 = w4.alloc (.cells #[.slice p.A1 p.n1 p.c1, .slice p.A2 4 p.c2, .slice p.A3 4 p.c3, .int .i64 K.tick, .int .i64 K.run, .slice none 0 0] 116) := ⟨_, rfl⟩
    have X5 : Hid (BoxN 7 w1.heap.size 61 w1 w5) := by rw [hw5]; exact (X3.out.below hb4).alloc _
    have z4 := hb4.size
    have z3 := X3.out.lt
    have M5 : Hid (MB w5 w4.heap.size p K (.slice none 0 0)) := by
      rw [hw5]
      exact ⟨heap_alloc_new w4 _, ho.kept ((Kept.refl [] w4).alloc _) (by simp) (by simp) (by simp), by omega, by omega, by omega⟩
    have B5 : Hid (Below w.heap.size w w5) := B1.out.trans (X5.out.fst.mono (by have := S1.out; omega))
    have S5 : Hid (w5.heap.size = w4.heap.size + 1) := by show _ = _; rw [hw5]; simp
    have U := Lib.hid (show w1.heap.size < w4.heap.size ∧ w1.heap.size < p.g1 ∧ w1.heap.size < p.g2 ∧ w1.heap.size < p.g3 ∧ p.g1 < w4.heap.size from ⟨by omega, by omega, by omega, by omega, u4⟩)
    have HW5 := Lib.hid hw5
    clear ho u1 u2 u3 u4 u5 u6 hb4 z4 z3 hw5 R3
    go_upto_region 4 with (fail)
    rw [← HW5.out]
    clear HW5
    go_wp2_with fail
    refine (TK.out w5 w4.heap.size p B5.out (by have := U.out; have := S1.out; omega) (by have := U.out; have := S1.out; omega) M5.out).mono ?_
    rintro e w6 (⟨hr, rfl, hk6⟩ | ⟨hr, rfl, p2, m6, hg1, e2, e3, hk6⟩)
    · have X6 : BoxN 7 w1.heap.size 61 w1 w6 := X5.out.beyond (hk6.below (by have := U.out; have := S5.out; omega) (fun b hb => by have := U.out; simp at hb; omega))
      have X6' : BoxN 7 (w.heap.size + 1) 61 w1 w6 := by rw [← S1.out]; exact X6
      have FA := kans_code_box r.1 X6
      rw [S1.out] at FA
      have TE2 : turnans K r = (r.1, zeroKer) := by rw [TE.out]; unfold orZero; rw [if_pos hr]
      clear hk6 X6
      go_wp2
      refine leaves_cons (f := 110) (args := #[.pointer (some ⟨w.heap.size + 1, 0, none⟩)]) (by simp) (by simp [go_sem]) ?_
      refine (catch_panicking (w.heap.size + 1) r.1 [] X6').mono ?_
      rintro e u' w'' ⟨rfl, rfl, rfl⟩
      exact ⟨_, results_cell_row rfl _ _ (w.heap.size + 1) _ _ (0, 0) _ rfl FA.1 Tryz.underlying61 rfl (by kernel_rfl), FA.2.grow B1.out⟩
    · have X6 : BoxN 7 w1.heap.size 61 w1 w6 := X5.out.beyond (hk6.below (by have := U.out; have := S5.out; omega) (fun b hb => by have := U.out; simp at hb; omega))
      have M6 := Lib.hid m6
      have X6h := Lib.hid X6
      have E1 := Lib.hid hg1
      have E2 := Lib.hid e2; have E3 := Lib.hid e3
      have Z6 := Lib.hid hk6.1.size
      have TE2 : Hid (turnans K r = (0, r.2)) := by show _ = _; rw [TE.out]; unfold orZero; rw [if_neg (fun hh => hh hr)]; exact Prod.ext hr rfl
      clear m6 X6 hg1 e2 e3 hk6 hr
      go_upto_region 5 with (fail)
      refine wp_region_noPanic ?_
      obtain ⟨w7, hw7⟩ : ∃ w7, w7 = w6.drew := ⟨_, rfl⟩
      have M7 : Hid (MB w7 w4.heap.size p2 r.2 (.slice none 0 0)) := by rw [hw7]; exact M6.out.drew
      have X7 : Hid (BoxN 7 w1.heap.size 61 w1 w7) := by rw [hw7]; exact X6h.out.drew
      have Z7 : Hid (w5.heap.size ≤ w7.heap.size) := by show _ ≤ _; rw [hw7]; exact Z6.out
      have Z67 : Hid (w7.heap.size = w6.heap.size) := by show _ = _; rw [hw7]; rfl
      have KS : Hid (∀ W, MB W w4.heap.size p2 r.2 (.slice none 0 0) → ((W.cell? ⟨w4.heap.size, 0, none⟩ = some (.slice p2.A1 p2.n1 p2.c1) ∧ W.cell? ⟨w4.heap.size, 1, none⟩ = some (.slice p2.A2 4 p2.c2) ∧ W.cell? ⟨w4.heap.size, 2, none⟩ = some (.slice p2.A3 4 p2.c3) ∧ W.cell? ⟨w4.heap.size, 3, none⟩ = some (.int .i64 r.2.tick) ∧ W.cell? ⟨w4.heap.size, 4, none⟩ = some (.int .i64 r.2.run) ∧ W.cell? ⟨w4.heap.size, 5, none⟩ = some (.slice none 0 0)) ∧ True)) := fun W h => ⟨⟨h.cells.1, h.cells.2.1, h.cells.2.2.1, h.cells.2.2.2.1, h.cells.2.2.2.2, h.note⟩, trivial⟩
      refine wp_region_held_drew (S := fun W => ((W.cell? ⟨w4.heap.size, 0, none⟩ = some (.slice p2.A1 p2.n1 p2.c1) ∧ W.cell? ⟨w4.heap.size, 1, none⟩ = some (.slice p2.A2 4 p2.c2) ∧ W.cell? ⟨w4.heap.size, 2, none⟩ = some (.slice p2.A3 4 p2.c3) ∧ W.cell? ⟨w4.heap.size, 3, none⟩ = some (.int .i64 r.2.tick) ∧ W.cell? ⟨w4.heap.size, 4, none⟩ = some (.int .i64 r.2.run) ∧ W.cell? ⟨w4.heap.size, 5, none⟩ = some (.slice none 0 0)) ∧ True)) (by kernel_rfl) (KS.out _ M6.out.drew) (fun hHeld => ?_)
      rw [← hw7] at hHeld ⊢
      have HW7 := Lib.hid hw7
      clear hw7
      refine tkH 0 ?_ rfl ?_ hHeld ?_; rotate_left; (intro w hSw; (try dsimp only at hSw); go_simp; try with_reducible rfl); try simp only [Act.put, zz4, zz5, zz6]
      refine tkH 1 ?_ rfl ?_ hHeld ?_; rotate_left; (intro w hSw; (try dsimp only at hSw); go_simp; try with_reducible rfl); try simp only [Act.put, zz4, zz5, zz6]
      refine tkH 2 ?_ rfl ?_ hHeld ?_; rotate_left; (intro w hSw; (try dsimp only at hSw); go_simp; try with_reducible rfl); try simp only [Act.put, zz4, zz5, zz6]
      refine tkH 3 ?_ rfl ?_ hHeld ?_; rotate_left; (intro w hSw; (try dsimp only at hSw); go_simp; try with_reducible rfl); try simp only [Act.put, zz4, zz5, zz6]
      refine tkH 4 ?_ rfl ?_ hHeld ?_; rotate_left; (intro w hSw; (try dsimp only at hSw); go_simp; try with_reducible rfl); try simp only [Act.put, zz4, zz5, zz6]
      refine tkH 5 ?_ rfl ?_ hHeld ?_; rotate_left; (intro w hSw; (try dsimp only at hSw); go_simp; try with_reducible rfl); try simp only [Act.put, zz4, zz5, zz6]
      refine tkH 6 ?_ rfl ?_ hHeld ?_; rotate_left; (intro w hSw; (try dsimp only at hSw); go_simp; try with_reducible rfl); try simp only [Act.put, zz4, zz5, zz6]
      refine tkH 7 ?_ rfl ?_ hHeld ?_; rotate_left; (intro w hSw; (try dsimp only at hSw); go_simp; try with_reducible rfl); try simp only [Act.put, zz4, zz5, zz6]
      refine tkH 8 ?_ rfl ?_ hHeld ?_; rotate_left; (intro w hSw; (try dsimp only at hSw); go_simp; try with_reducible rfl); try simp only [Act.put, zz4, zz5, zz6]
      refine wpAnyH_ready (rs := [9]) (by kernel_rfl) (by simp) ?_
      refine AllReadyH.cons (o := _) rfl (fun K0 hK0 => ?_) AllReadyH.nil
      have cc := fun j (hj : j < 7) => X7.out.cell j hj
      have ff := fun j => X7.out.frozen j
      rw [S1.out] at cc ff
      have c0 := cc 0 (by omega); have c1' := cc 1 (by omega); have c2' := cc 2 (by omega); have c3' := cc 3 (by omega); have c4 := cc 4 (by omega); have c5 := cc 5 (by omega); have c6 := cc 6 (by omega)
      have f0 := ff 0; have f1 := ff 1; have f2 := ff 2; have f3 := ff 3; have f4 := ff 4; have f5 := ff 5; have f6 := ff 6
      have kp7 := M7.out.note
      have u := U.out; have z7 := Z7.out; have s5 := S5.out; have s1 := S1.out
      have lt2 := M7.out.lt2
      have FA := kans_box X7.out M7.out.own ⟨by rcases E1.out with h | h <;> omega, by have z67 := Z67.out; rcases E1.out with h | h <;> omega⟩ ⟨by rw [E2.out]; exact u.2.2.1, lt2.1⟩ ⟨by rw [E3.out]; exact u.2.2.2.1, lt2.2⟩
      rw [S1.out] at FA
      have HFA := Lib.hid FA
      have KX := Lib.hid (KS.out _ (M7.out.kept (Kept.set7 (gs := [w.heap.size + 1]) (Kept.refl _ w7) (List.mem_singleton.2 rfl) (.int .i64 0) (.slice p2.A1 p2.n1 p2.c1) (.slice p2.A2 4 p2.c2) (.slice p2.A3 4 p2.c3) (.int .i64 r.2.tick) (.int .i64 r.2.run) (.slice none 0 0)) (by simp; omega) (by simp; rcases E1.out with h | h <;> omega) (by simp; rw [E2.out]; omega) (by simp; rw [E3.out]; omega)))
      clear cc ff FA u z7 s5 s1 lt2 kp7 hHeld
      go_simp
      refine hK0.out _ _ KX.out (fun hHeld => ?_)
      clear hK0 K0
      refine wpAnyH_done (by kernel_rfl) ?_ _
      refine NoPanic.normal ?_
      go_wp2
      refine leaves_cons (f := 110) (args := #[.pointer (some ⟨w.heap.size + 1, 0, none⟩)]) (by simp) (by simp [go_sem]) ?_
      refine (catch_idle _ _).mono ?_
      rintro e u' w'' ⟨rfl, rfl, rfl⟩
      exact ⟨_, results_cell_row rfl _ _ (w.heap.size + 1) _ _ (0, 0) _ rfl HFA.out.1 Tryz.underlying61 rfl (by kernel_rfl), by rw [TE2.out]; exact HFA.out.2.grow B1.out⟩
  · have hk2 : (kf K != 0) = true := by simp [hk]
    have TE : Hid (turnans K r = (kf K, zeroKer)) := by show _ = _; unfold turnans; rw [if_pos hk]
    go_wp2_with fail
    refine (must_yes (kf K) hk2 _).mono ?_
    rintro e w4 ⟨rfl, rfl⟩
    go_wp2
    have X4 : BoxN 7 (w.heap.size + 1) 61 w1 w3 := by rw [← S1.out]; exact X3.out
    have FA := kans_code_box (kf K) X3.out
    rw [S1.out] at FA
    refine leaves_cons (f := 110) (args := #[.pointer (some ⟨w.heap.size + 1, 0, none⟩)]) (by simp) (by simp [go_sem]) ?_
    refine (catch_panicking (w.heap.size + 1) (kf K) [] X4).mono ?_
    rintro e u' w'' ⟨rfl, rfl, rfl⟩
    rw [TE.out]
    exact ⟨_, results_cell_row rfl _ _ (w.heap.size + 1) _ _ (0, 0) _ rfl FA.1 Tryz.underlying61 rfl (by kernel_rfl), FA.2.grow B1.out⟩

end Go.Proofs.YtckapndpefkcgaaGreat
