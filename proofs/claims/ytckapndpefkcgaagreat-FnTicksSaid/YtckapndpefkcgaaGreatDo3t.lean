/-
  The program's DoTick: for every kernel and act it answers as the model's. No conditions beyond that the kernel can be read.
-/
import Derived.Test.YtckapndpefkcgaaGreatTurn3b
import Derived.Test.YtckapndpefkcgaaGreatNote3e
import Derived.Test.YtckapndpefkcgaaGreatSpec3x
import Derived.Test.YtckapndpefkcgaaGreatDo3
import Derived.Test.YtckapndpefkcgaaGreatU8s
set_option maxHeartbeats 1000000

namespace Go.Proofs.YtckapndpefkcgaaGreat
open List renaming getElem_toArray → zz1, getElem_cons_succ → zz2, getElem_cons_zero → zz3, setIfInBounds_toArray → zz4, set_cons_zero → zz5, set_cons_succ → zz6
open Go.RowKit
set_option maxRecDepth 100000

def TN (r : Int × Ker × List Int) (g : Nat) (p : Kp) (w : World) (e : Ending) (w' : World) : Prop :=
  (r.1 ≠ 0 ∧ e = .panicked [{ v := .iface 154 (.int .i64 r.1), recovered := false }] ∧ Kept [g, p.g2, p.g3] w w') ∨
  (r.1 = 0 ∧ e = .returned (.tuple #[]) ∧ ∃ A n c, NB w w' g p r.2.1 A n c r.2.2)
noncomputable def turnansN (K : Ker) (r : Int × Ker × List Int) : Int × Ker × List Int := if kf K ≠ 0 then (kf K, zeroKer, []) else if r.1 ≠ 0 then (r.1, zeroKer, []) else r
theorem kans_box_n {w W : World} {K : Ker} {p : Kp} {B n c : Nat} {A : Option Addr} {ns : List Int} (hx : BoxN 7 w.heap.size 61 w W) (ho : KOwn W p K) (h1 : w.heap.size < p.g1 ∧ p.g1 < B) (h2 : w.heap.size < p.g2 ∧ p.g2 < B) (h3 : w.heap.size < p.g3 ∧ p.g3 < B) (hB : B < W.heap.size) (on : OR 96 3 W B A n c ns) :
    let W7 := (((((((W.setCell ⟨w.heap.size, 0, none⟩ (.int .i64 0)).setCell ⟨w.heap.size, 1, none⟩ (.slice p.A1 p.n1 p.c1)).setCell ⟨w.heap.size, 2, none⟩ (.slice p.A2 4 p.c2)).setCell ⟨w.heap.size, 3, none⟩ (.slice p.A3 4 p.c3)).setCell ⟨w.heap.size, 4, none⟩ (.int .i64 K.tick)).setCell ⟨w.heap.size, 5, none⟩ (.int .i64 K.run)).setCell ⟨w.heap.size, 6, none⟩ (.slice A n c))
    W7.heap[w.heap.size]? = some (.cells #[.int .i64 0, .slice p.A1 p.n1 p.c1, .slice p.A2 4 p.c2, .slice p.A3 4 p.c3, .int .i64 K.tick, .int .i64 K.run, .slice A n c] 61 (0, 0)) ∧
    KAns 0 K ns w (.returned (.agg #[.int .i64 0, .slice p.A1 p.n1 p.c1, .slice p.A2 4 p.c2, .slice p.A3 4 p.c3, .int .i64 K.tick, .int .i64 K.run, .slice A n c])) W7 := by
  intro W7
  obtain ⟨cs, e, k⟩ := hx.of
  obtain ⟨a0, a1, a2, a3, a4, a5, a6, rfl⟩ := arr7 e
  have kp : Kept [w.heap.size] W W7 := Kept.set7 (Kept.refl _ _) (List.mem_singleton.2 rfl) _ _ _ _ _ _ _
  have hsz : W7.heap.size = W.heap.size := by simp [W7]
  obtain ⟨g4, z1, z2, z3⟩ := on.mine hB
  refine ⟨blk7_set k _ _ _ _ _ _ _, kans_notes (g4 := g4) (ho.kept kp (by simp; omega) (by simp; omega) (by simp; omega)) on.len (far7 z3 (by omega) _ _ _ _ _ _ _) (by omega) (by omega) (by omega) ⟨by omega, by omega⟩ ⟨by omega, by omega⟩ ⟨by omega, by omega⟩ ⟨by omega, by omega⟩ (below7 hx.fst (Nat.le_refl _) _ _ _ _ _ _ _)⟩

set_option maxHeartbeats 8000000 in
theorem turnedN_any (fid : Nat) (cap : Value) (hcf : ∀ args W, (callFunc fid args).run Tryz.prog W = .ok (.enter fid args) W) (r : Int × Ker × List Int) (lo hi : Nat) (A1 : Option Addr) (n1 c1 : Nat) (A2 : Option Addr) (n2 c2 : Nat) (A3 : Option Addr) (n3 c3 : Nat) (K : Ker) (w : World) (hn1 : n1 * 8 ≤ 140737488351232)
    (h : KRead w lo hi A1 n1 A2 n2 A3 n3 K)
    (turn : kf K = 0 → ∀ (W : World) (g : Nat) (p : Kp), Below w.heap.size w W → w.heap.size ≤ g → (w.heap.size ≤ p.g2 ∧ w.heap.size ≤ p.g3) ∧ (p.g1 < W.heap.size) → MB W g p K (.slice none 0 0) → Calls Tryz.prog fid #[.pointer (some ⟨g, 0, none⟩), cap] W (TN r g p W)) :
    Calls Tryz.prog 69 #[.agg #[.slice A1 n1 c1, .slice A2 n2 c2, .slice A3 n3 c3, .int .i64 K.tick, .int .i64 K.run], .func (.func fid) #[] #[cap]] w (KAns (turnansN K r).1 (turnansN K r).2.1 (turnansN K r).2.2 w) := by
  obtain ⟨w1, hw1⟩ : ∃ w1, w1 = w.alloc (.cells #[.slice A1 n1 c1, .slice A2 n2 c2, .slice A3 n3 c3, .int .i64 K.tick, .int .i64 K.run] 39) := ⟨_, rfl⟩
  have k1 : w1.heap[w.heap.size]? = some (.cells #[.slice A1 n1 c1, .slice A2 n2 c2, .slice A3 n3 c3, .int .i64 K.tick, .int .i64 K.run] 39 (0, 0)) := by rw [hw1]; exact heap_alloc_new w _
  have B1 : Hid (Below w.heap.size w w1) := by rw [hw1]; exact below_new w _
  have S1 : Hid (w1.heap.size = w.heap.size + 1) := by show _ = _; rw [hw1]; simp
  obtain ⟨w2, hw2⟩ : ∃ w2, w2 = w1.alloc (.cells #[.int .i64 0, .slice none 0 0, .slice none 0 0, .slice none 0 0, .int .i64 0, .int .i64 0, .slice none 0 0] 61) := ⟨_, rfl⟩
  have X2 : Hid (BoxN 7 w1.heap.size 61 w1 w2) := by rw [hw2]; exact BoxN.new w1 #[.int .i64 0, .slice none 0 0, .slice none 0 0, .slice none 0 0, .int .i64 0, .int .i64 0, .slice none 0 0] _
  have S2 : Hid (w2.heap.size = w1.heap.size + 1) := by show _ = _; rw [hw2]; simp
  have hw12 : w2 = (w.alloc (.cells #[.slice A1 n1 c1, .slice A2 n2 c2, .slice A3 n3 c3, .int .i64 K.tick, .int .i64 K.run] 39)).alloc (.cells #[.int .i64 0, .slice none 0 0, .slice none 0 0, .slice none 0 0, .int .i64 0, .int .i64 0, .slice none 0 0] 61) := by rw [hw2, hw1]
  have KB : Hid (∀ W, Below w1.heap.size w1 W → W.cell? ⟨w.heap.size, 0, none⟩ = some (.slice A1 n1 c1) ∧ W.cell? ⟨w.heap.size, 1, none⟩ = some (.slice A2 n2 c2) ∧ W.cell? ⟨w.heap.size, 2, none⟩ = some (.slice A3 n3 c3) ∧ W.cell? ⟨w.heap.size, 3, none⟩ = some (.int .i64 K.tick) ∧ W.cell? ⟨w.heap.size, 4, none⟩ = some (.int .i64 K.run)) := fun W hW => by
    have k := (hW.block w.heap.size (by have := S1.out; omega)).trans k1
    exact ⟨cell_of_row W _ 0 _ _ _ k, cell_of_row W _ 1 _ _ _ k, cell_of_row W _ 2 _ _ _ k, cell_of_row W _ 3 _ _ _ k, cell_of_row W _ 4 _ _ _ k⟩
  have R := Lib.hid ((h.lt.below B1.out (Nat.min_le_right _ _)).below X2.out.fst (by have := S1.out; omega))
  have W1 := Lib.hid (show w1.heap.size = (w.alloc (.cells #[.slice A1 n1 c1, .slice A2 n2 c2, .slice A3 n3 c3, .int .i64 K.tick, .int .i64 K.run] 39)).heap.size by rw [hw1])
  have HR := Lib.hid h
  have TU := Lib.hid turn
  clear hw2 hw1 k1 h turn
  have hmf : ∀ (fn : Fn) (first cap : Array Value) (w : World), (Instr.makeFunc fn first cap).run Tryz.prog w = .ok (.func fn first cap) w := fun _ _ _ _ => rfl
  obtain ⟨q0, q1, q2, q3, q4⟩ := KB.out _ X2.out.fst
  go_enter_defers Tryz.func69, Tryz.ntmps69
  go_upto_region 2 with (fail)
  rw [← hw12]
  clear hw12
  go_wp2_with fail
  refine (implKernelFault_any lo (min hi w.heap.size) A1 n1 c1 A2 n2 c2 A3 n3 c3 K.tick K.run K w2 hn1 R.out rfl rfl).mono ?_
  rintro e w3 ⟨rfl, hb3⟩
  have X3 := Lib.hid (X2.out.below hb3)
  have HB3 := Lib.hid hb3
  clear hb3
  by_cases hk : kf K = 0
  · obtain ⟨v0, v2, v3⟩ := kf_zero hk
    obtain ⟨v1, v4, _, _⟩ := vf_zero v0
    obtain ⟨l1, l2, l3⟩ := HR.out.1
    obtain rfl : n2 = 4 := by omega
    obtain rfl : n3 = 4 := by omega
    have hn12 : n1 ≤ 12 := by omega
    have hn01 : 1 ≤ n1 := by omega
    have TE : Hid (turnansN K r = if r.1 ≠ 0 then (r.1, zeroKer, []) else r) := by show _ = _; unfold turnansN; rw [if_neg (fun hh => hh hk)]
    obtain ⟨q0, q1, q2, q3, q4⟩ := KB.out _ X3.out.fst
    have R3 := Lib.hid (R.out.below HB3.out (by have := S1.out; have := S2.out; omega))
    have TK := Lib.hid (TU.out hk)
    rw [hk]
    clear hk v0 v1 v2 v3 v4 l1 l2 l3
    go_wp2_with fail
    refine (must_no _).mono ?_
    rintro e w4 ⟨rfl, rfl⟩
    go_wp2_with fail
    refine (copyOf_any lo (min hi w.heap.size) A1 n1 c1 A2 c2 A3 c3 K.tick K.run K w3 R3.out hn12 hn01).mono ?_
    rintro e w4 ⟨p, rfl, ho, ⟨u1, u2, u3, u4, u5, u6⟩, hb4⟩
    obtain ⟨w5, hw5⟩ : ∃ w5, w5 = w4.alloc (.cells #[.slice p.A1 p.n1 p.c1, .slice p.A2 4 p.c2, .slice p.A3 4 p.c3, .int .i64 K.tick, .int .i64 K.run, .slice none 0 0] 116) := ⟨_, rfl⟩
    have X5 : Hid (BoxN 7 w1.heap.size 61 w1 w5) := by rw [hw5]; exact (X3.out.below hb4).alloc _
    have z4 := hb4.size
    have z3 := X3.out.lt
    have M5 : Hid (MB w5 w4.heap.size p K (.slice none 0 0)) := by
      rw [hw5]
      exact ⟨heap_alloc_new w4 _, ho.kept ((Kept.refl [] w4).alloc _) (by simp) (by simp) (by simp), by omega, by omega, by omega⟩
    have B5 : Hid (Below w.heap.size w w5) := B1.out.trans (X5.out.fst.mono (by have := S1.out; omega))
    have S5 : Hid (w5.heap.size = w4.heap.size + 1) := by show _ = _; rw [hw5]; simp
    have U := Lib.hid (show w1.heap.size < w4.heap.size ∧ w1.heap.size < p.g1 ∧ w1.heap.size < p.g2 ∧ w1.heap.size < p.g3 ∧ p.g1 < w4.heap.size ∧ p.g2 < w4.heap.size ∧ p.g3 < w4.heap.size from ⟨by omega, by omega, by omega, by omega, u4, u5, u6⟩)
    have HW5 := Lib.hid hw5
    clear ho u1 u2 u3 u4 u5 u6 hb4 z4 z3 hw5 R3
    go_upto_region 4 with (fail)
    rw [← HW5.out]
    clear HW5
    go_wp2_with fail
    refine (TK.out w5 w4.heap.size p B5.out (by have := U.out; have := S1.out; omega) (by have := U.out; have := S1.out; have := S5.out; omega) M5.out).mono ?_
    rintro e w6 (⟨hr, rfl, hk6⟩ | ⟨hr, rfl, NA, nn, nc, nb⟩)
    · have X6 : BoxN 7 w1.heap.size 61 w1 w6 := X5.out.beyond (hk6.below (by have := U.out; have := S5.out; omega) (fun b hb => by have := U.out; simp at hb; omega))
      have X6' : BoxN 7 (w.heap.size + 1) 61 w1 w6 := by rw [← S1.out]; exact X6
      have FA := kans_code_box r.1 X6
      rw [S1.out] at FA
      have TE2 : turnansN K r = (r.1, zeroKer, []) := by rw [TE.out, if_pos hr]
      clear hk6 X6
      go_wp2
      refine leaves_cons (f := 110) (args := #[.pointer (some ⟨w.heap.size + 1, 0, none⟩)]) (by simp) (by simp [go_sem]) ?_
      refine (catch_panicking (w.heap.size + 1) r.1 [] X6').mono ?_
      rintro e u' w'' ⟨rfl, rfl, rfl⟩
      exact ⟨_, results_cell_row rfl _ _ (w.heap.size + 1) _ _ (0, 0) _ rfl FA.1 Tryz.underlying61 rfl (by kernel_rfl), FA.2.grow B1.out⟩
    · obtain ⟨p2, m6, own6, hg1, e2, e3, hk6⟩ : ∃ p2 : Kp, MB w6 w4.heap.size p2 r.2.1 (.slice NA nn nc) ∧ OR 96 3 w6 w5.heap.size NA nn nc r.2.2 ∧ p2.g1 = p.g1 ∧ p2.g2 = p.g2 ∧ p2.g3 = p.g3 ∧ Kept [w4.heap.size, p.g2, p.g3] w5 w6 := ⟨p, nb.mb, nb.own, rfl, rfl, rfl, nb.kept.mono (gs' := [w4.heap.size, p.g2, p.g3]) (by first | (simp; done) | (simp; omega))⟩
      have O6 := Lib.hid own6
      clear own6 nb
      have X6 : BoxN 7 w1.heap.size 61 w1 w6 := X5.out.beyond (hk6.below (by have := U.out; have := S5.out; omega) (fun b hb => by have := U.out; simp at hb; omega))
      have M6 := Lib.hid m6
      have X6h := Lib.hid X6
      have E1 := Lib.hid hg1
      have E2 := Lib.hid e2; have E3 := Lib.hid e3
      have Z6 := Lib.hid hk6.1.size
      have TE2 : Hid (turnansN K r = (0, r.2)) := by show _ = _; rw [TE.out, if_neg (fun hh => hh hr)]; exact Prod.ext hr rfl
      clear m6 X6 hg1 e2 e3 hk6 hr
      go_upto_region 5 with (fail)
      refine wp_region_noPanic ?_
      obtain ⟨w7, hw7⟩ : ∃ w7, w7 = w6.drew := ⟨_, rfl⟩
      have O7 : Hid (OR 96 3 w7 w4.heap.size NA nn nc r.2.2) := by rw [hw7]; exact (OR.mono (base' := w4.heap.size) O6.out (by have := S5.out; omega)).kept ((Kept.refl [] w6).drew) (by simp)
      have M7 : Hid (MB w7 w4.heap.size p2 r.2.1 (.slice NA nn nc)) := by rw [hw7]; exact M6.out.drew
      have X7 : Hid (BoxN 7 w1.heap.size 61 w1 w7) := by rw [hw7]; exact X6h.out.drew
      have Z7 : Hid (w5.heap.size ≤ w7.heap.size) := by show _ ≤ _; rw [hw7]; exact Z6.out
      have Z67 : Hid (w7.heap.size = w6.heap.size) := by show _ = _; rw [hw7]; rfl
      have KS : Hid (∀ W, MB W w4.heap.size p2 r.2.1 (.slice NA nn nc) → ((W.cell? ⟨w4.heap.size, 0, none⟩ = some (.slice p2.A1 p2.n1 p2.c1) ∧ W.cell? ⟨w4.heap.size, 1, none⟩ = some (.slice p2.A2 4 p2.c2) ∧ W.cell? ⟨w4.heap.size, 2, none⟩ = some (.slice p2.A3 4 p2.c3) ∧ W.cell? ⟨w4.heap.size, 3, none⟩ = some (.int .i64 r.2.1.tick) ∧ W.cell? ⟨w4.heap.size, 4, none⟩ = some (.int .i64 r.2.1.run) ∧ W.cell? ⟨w4.heap.size, 5, none⟩ = some (.slice NA nn nc)) ∧ True)) := fun W h => ⟨⟨h.cells.1, h.cells.2.1, h.cells.2.2.1, h.cells.2.2.2.1, h.cells.2.2.2.2, h.note⟩, trivial⟩
      refine wp_region_held_drew (S := fun W => ((W.cell? ⟨w4.heap.size, 0, none⟩ = some (.slice p2.A1 p2.n1 p2.c1) ∧ W.cell? ⟨w4.heap.size, 1, none⟩ = some (.slice p2.A2 4 p2.c2) ∧ W.cell? ⟨w4.heap.size, 2, none⟩ = some (.slice p2.A3 4 p2.c3) ∧ W.cell? ⟨w4.heap.size, 3, none⟩ = some (.int .i64 r.2.1.tick) ∧ W.cell? ⟨w4.heap.size, 4, none⟩ = some (.int .i64 r.2.1.run) ∧ W.cell? ⟨w4.heap.size, 5, none⟩ = some (.slice NA nn nc)) ∧ True)) (by kernel_rfl) (KS.out _ M6.out.drew) (fun hHeld => ?_)
      rw [← hw7] at hHeld ⊢
      have HW7 := Lib.hid hw7
      clear hw7
      refine tkH 0 ?_ rfl ?_ hHeld ?_; rotate_left; (intro w hSw; (try dsimp only at hSw); go_simp; try with_reducible rfl); try simp only [Act.put, zz4, zz5, zz6]
      refine tkH 1 ?_ rfl ?_ hHeld ?_; rotate_left; (intro w hSw; (try dsimp only at hSw); go_simp; try with_reducible rfl); try simp only [Act.put, zz4, zz5, zz6]
      refine tkH 2 ?_ rfl ?_ hHeld ?_; rotate_left; (intro w hSw; (try dsimp only at hSw); go_simp; try with_reducible rfl); try simp only [Act.put, zz4, zz5, zz6]
      refine tkH 3 ?_ rfl ?_ hHeld ?_; rotate_left; (intro w hSw; (try dsimp only at hSw); go_simp; try with_reducible rfl); try simp only [Act.put, zz4, zz5, zz6]
      refine tkH 4 ?_ rfl ?_ hHeld ?_; rotate_left; (intro w hSw; (try dsimp only at hSw); go_simp; try with_reducible rfl); try simp only [Act.put, zz4, zz5, zz6]
      refine tkH 5 ?_ rfl ?_ hHeld ?_; rotate_left; (intro w hSw; (try dsimp only at hSw); go_simp; try with_reducible rfl); try simp only [Act.put, zz4, zz5, zz6]
      refine tkH 6 ?_ rfl ?_ hHeld ?_; rotate_left; (intro w hSw; (try dsimp only at hSw); go_simp; try with_reducible rfl); try simp only [Act.put, zz4, zz5, zz6]
      refine tkH 7 ?_ rfl ?_ hHeld ?_; rotate_left; (intro w hSw; (try dsimp only at hSw); go_simp; try with_reducible rfl); try simp only [Act.put, zz4, zz5, zz6]
      refine tkH 8 ?_ rfl ?_ hHeld ?_; rotate_left; (intro w hSw; (try dsimp only at hSw); go_simp; try with_reducible rfl); try simp only [Act.put, zz4, zz5, zz6]
      refine wpAnyH_ready (rs := [9]) (by kernel_rfl) (by simp) ?_
      refine AllReadyH.cons (o := _) rfl (fun K0 hK0 => ?_) AllReadyH.nil
      have cc := fun j (hj : j < 7) => X7.out.cell j hj
      have ff := fun j => X7.out.frozen j
      rw [S1.out] at cc ff
      have c0 := cc 0 (by omega); have c1' := cc 1 (by omega); have c2' := cc 2 (by omega); have c3' := cc 3 (by omega); have c4 := cc 4 (by omega); have c5 := cc 5 (by omega); have c6 := cc 6 (by omega)
      have f0 := ff 0; have f1 := ff 1; have f2 := ff 2; have f3 := ff 3; have f4 := ff 4; have f5 := ff 5; have f6 := ff 6
      have kp7 := M7.out.note
      have u := U.out; have z7 := Z7.out; have s5 := S5.out; have s1 := S1.out
      have lt2 := M7.out.lt2
      have FA := kans_box_n X7.out M7.out.own ⟨by rw [E1.out]; exact u.2.1, by rw [E1.out]; exact u.2.2.2.2.1⟩ ⟨by rw [E2.out]; exact u.2.2.1, by rw [E2.out]; exact u.2.2.2.2.2.1⟩ ⟨by rw [E3.out]; exact u.2.2.2.1, by rw [E3.out]; exact u.2.2.2.2.2.2⟩ (by omega) O7.out
      rw [S1.out] at FA
      have HFA := Lib.hid FA
      have KX := Lib.hid (KS.out _ (M7.out.kept (Kept.set7 (gs := [w.heap.size + 1]) (Kept.refl _ w7) (List.mem_singleton.2 rfl) (.int .i64 0) (.slice p2.A1 p2.n1 p2.c1) (.slice p2.A2 4 p2.c2) (.slice p2.A3 4 p2.c3) (.int .i64 r.2.1.tick) (.int .i64 r.2.1.run) (.slice NA nn nc)) (by simp; omega) (by simp; rw [E1.out]; omega) (by simp; rw [E2.out]; omega) (by simp; rw [E3.out]; omega)))
      clear cc ff FA u z7 s5 s1 lt2 kp7 hHeld
      go_simp
      refine hK0.out _ _ KX.out (fun hHeld => ?_)
      clear hK0 K0
      refine wpAnyH_done (by kernel_rfl) ?_ _
      refine NoPanic.normal ?_
      go_wp2
      refine leaves_cons (f := 110) (args := #[.pointer (some ⟨w.heap.size + 1, 0, none⟩)]) (by simp) (by simp [go_sem]) ?_
      refine (catch_idle _ _).mono ?_
      rintro e u' w'' ⟨rfl, rfl, rfl⟩
      exact ⟨_, results_cell_row rfl _ _ (w.heap.size + 1) _ _ (0, 0) _ rfl HFA.out.1 Tryz.underlying61 rfl (by kernel_rfl), by rw [TE2.out]; exact HFA.out.2.grow B1.out⟩
  · have hk2 : (kf K != 0) = true := by simp [hk]
    have TE : Hid (turnansN K r = (kf K, zeroKer, [])) := by show _ = _; unfold turnansN; rw [if_pos hk]
    go_wp2_with fail
    refine (must_yes (kf K) hk2 _).mono ?_
    rintro e w4 ⟨rfl, rfl⟩
    go_wp2
    have X4 : BoxN 7 (w.heap.size + 1) 61 w1 w3 := by rw [← S1.out]; exact X3.out
    have FA := kans_code_box (kf K) X3.out
    rw [S1.out] at FA
    refine leaves_cons (f := 110) (args := #[.pointer (some ⟨w.heap.size + 1, 0, none⟩)]) (by simp) (by simp [go_sem]) ?_
    refine (catch_panicking (w.heap.size + 1) (kf K) [] X4).mono ?_
    rintro e u' w'' ⟨rfl, rfl, rfl⟩
    rw [TE.out]
    exact ⟨_, results_cell_row rfl _ _ (w.heap.size + 1) _ _ (0, 0) _ rfl FA.1 Tryz.underlying61 rfl (by kernel_rfl), FA.2.grow B1.out⟩



theorem evf_kind {k to : Int} (h : evf 1 k to 0 0 0 0 = 0) : k = 1 ∨ k = 2 ∨ k = 3 := by
  unfold evf at h
  rw [if_pos rfl] at h
  split at h
  · omega
  · omega
noncomputable def tickr (K : Ker) (kk to : Int) : Int × Ker × List Int := if evf 1 kk to 0 0 0 0 ≠ 0 then (evf 1 kk to 0 0 0 0, zeroKer, []) else if 100000 ≤ K.tick then (8, zeroKer, []) else (0, (tick3 K kk to).1, (tick3 K kk to).2)

set_option maxHeartbeats 2000000 in
theorem doTick1 (K : Ker) (gc g : Nat) (kk to : Int) (p : Kp) (w : World) (hbox : w.heap[gc]? = some (.cells #[.int .i64 kk, .int .i64 to] 53 (0, 0))) (h : MB w g p K (.slice none 0 0)) (hk : kf K = 0) (l1 : p.g1 < w.heap.size) :
    Calls Tryz.prog 70 #[.pointer (some ⟨g, 0, none⟩), .pointer (some ⟨gc, 0, none⟩)] w (TN (tickr K kk to) g p w) := by
  have gl : gc < w.heap.size := (Array.getElem?_eq_some_iff.1 hbox).1
  have HN : Hid (NX w w g p K [] []) := ⟨none, 0, 0, ⟨h, ⟨by simp [vals], .inl ⟨rfl, rfl⟩⟩, Kept.refl _ _, h.lt, l1, h.lt2.1, h.lt2.2⟩, fun b hb => by cases hb⟩
  have c0 := cell_of_row w _ 0 _ _ _ hbox; have c1 := cell_of_row w _ 1 _ _ _ hbox
  simp at c0 c1
  have BX := Lib.hid hbox
  have GL := Lib.hid gl
  have HK := Lib.hid hk
  clear hbox h gl hk
  go_enter Tryz.func70, Tryz.ntmps70
  go_wp2_with fail
  refine (implEventFault_any 1 kk to 0 0 0 0 _).mono ?_
  rintro e9 w1 ⟨rfl, hb⟩
  have H1 := Lib.hid (HN.out.below hb)
  have B1 := Lib.hid hb
  clear hb c0 c1 HN
  by_cases hc : evf 1 kk to 0 0 0 0 = 0
  · have HC := Lib.hid hc
    rw [hc]
    clear hc
    go_wp2_with fail
    refine (must_no _).mono ?_
    rintro e9 w9 ⟨rfl, rfl⟩
    obtain ⟨_, hm⟩ := H1.out.mb
    obtain ⟨q0, q1, q2, q3, q4⟩ := hm.cells
    clear hm q0 q1 q2 q4
    by_cases ht : 100000 ≤ K.tick
    · have gt : decide (100000 ≤ K.tick) = true := decide_eq_true ht
      have TE : Hid (tickr K kk to = (8, zeroKer, [])) := by show _ = _; unfold tickr; rw [if_neg (fun hh => hh HC.out), if_pos ht]
      clear ht
      go_wp2_with fail
      refine (refuseIf_yes 8 _).mono ?_
      rintro e9 w9 ⟨rfl, rfl⟩
      go_wp2
      rw [TE.out]
      exact ⟨rfl, .inl ⟨by show (8 : Int) ≠ 0; decide, rfl, Kept.of_below B1.out _⟩⟩
    · have gt : decide (100000 ≤ K.tick) = false := decide_eq_false ht
      have TE : Hid (tickr K kk to = (0, (tick3 K kk to).1, (tick3 K kk to).2)) := by show _ = _; unfold tickr; rw [if_neg (fun hh => hh HC.out), if_neg ht]
      have TT := Lib.hid (tk_of HK.out ht)
      obtain ⟨tn, htn⟩ : ∃ tn : Nat, to = (tn : Int) := ⟨to.toNat, by have := evf_to HC.out; omega⟩
      have ht4 : tn < 4 := by have := evf_to HC.out; omega
      subst htn
      clear ht
      go_wp2_with fail
      refine (refuseIf_no 8 _).mono ?_
      rintro e9 w9 ⟨rfl, rfl⟩
      have bx := (B1.out.block gc GL.out).trans BX.out
      have b0 := cell_of_row w1 _ 0 _ _ _ bx; have b1 := cell_of_row w1 _ 1 _ _ _ bx
      simp at b0 b1
      clear bx q3 gt
      go_wp2_with fail
      refine (passTick_any H1.out TT.out (by simp) kk (evf_kind HC.out) tn ht4).mono ?_
      rintro e9 w2 ⟨rfl, hn⟩
      rw [List.nil_append] at hn
      obtain ⟨A, n, c, nb, _⟩ := hn
      go_wp2_with fail
      first | refine bodyPost_ret (results_none rfl _ _ _) rfl ?_ | refine bodyPost_end (results_none rfl _ _ _) rfl ?_
      rw [TE.out]
      exact .inr ⟨rfl, rfl, A, n, c, nb⟩
  · have hca : (evf 1 kk to 0 0 0 0 != 0) = true := by simp [hc]
    have TE : Hid (tickr K kk to = (evf 1 kk to 0 0 0 0, zeroKer, [])) := by show _ = _; unfold tickr; rw [if_pos hc]
    have HC := Lib.hid hc
    clear hc
    go_wp2_with fail
    refine (must_yes _ hca _).mono ?_
    rintro e9 w9 ⟨rfl, rfl⟩
    go_wp2
    rw [TE.out]
    exact ⟨rfl, .inl ⟨HC.out, rfl, Kept.of_below B1.out _⟩⟩

set_option maxHeartbeats 4000000 in
theorem implDoTick_any (lo hi : Nat) (A1 : Option Addr) (n1 c1 : Nat) (A2 : Option Addr) (n2 c2 : Nat) (A3 : Option Addr) (n3 c3 : Nat) (K : Ker) (kk to : Int) (w : World) (hn1 : n1 * 8 ≤ 140737488351232)
    (h : KRead w lo hi A1 n1 A2 n2 A3 n3 K) :
    Calls Tryz.prog 24 #[.agg #[.slice A1 n1 c1, .slice A2 n2 c2, .slice A3 n3 c3, .int .i64 K.tick, .int .i64 K.run], .agg #[.int .i64 kk, .int .i64 to]] w (KAns (dotick K kk to).1 (dotick K kk to).2.1 (dotick K kk to).2.2 w) := by
  obtain ⟨w1, hw1⟩ : ∃ w1, w1 = w.alloc (.cells #[.slice A1 n1 c1, .slice A2 n2 c2, .slice A3 n3 c3, .int .i64 K.tick, .int .i64 K.run] 39) := ⟨_, rfl⟩
  obtain ⟨w2, hw2⟩ : ∃ w2, w2 = w1.alloc (.cells #[.int .i64 kk, .int .i64 to] 53) := ⟨_, rfl⟩
  obtain ⟨w3, hw3⟩ : ∃ w3, w3 = w2.alloc (.cells #[.int .i64 0, .slice none 0 0, .slice none 0 0, .slice none 0 0, .int .i64 0, .int .i64 0, .slice none 0 0] 61) := ⟨_, rfl⟩
  have s1 : w1.heap.size = w.heap.size + 1 := by rw [hw1]; simp
  have s2 : w2.heap.size = w.heap.size + 1 + 1 := by rw [hw2]; simp; omega
  have s3 : w3.heap.size = w.heap.size + 3 := by rw [hw3]; simp; omega
  have B3 : Hid (Below w.heap.size w w3) := by rw [hw3, hw2, hw1]; exact ((below_new w _).alloc (by simp) _).alloc (by simp; omega) _
  have k1 : w3.heap[w.heap.size]? = some (.cells #[.slice A1 n1 c1, .slice A2 n2 c2, .slice A3 n3 c3, .int .i64 K.tick, .int .i64 K.run] 39 (0, 0)) := by
    rw [hw3, hw2, hw1]
    exact (Below.heap_alloc _ _ _ (by simp; omega)).trans (heap_alloc2_old w _ _)
  have k2 : w3.heap[w.heap.size + 1]? = some (.cells #[.int .i64 kk, .int .i64 to] 53 (0, 0)) := by
    rw [hw3, hw2, hw1]
    exact (Below.heap_alloc _ _ _ (by simp)).trans (heap_alloc2_new w _ _)
  have k3 : w3.heap[w.heap.size + 1 + 1]? = some (.cells #[.int .i64 0, .slice none 0 0, .slice none 0 0, .slice none 0 0, .int .i64 0, .int .i64 0, .slice none 0 0] 61 (0, 0)) := by
    have := heap_alloc_new w2 (.cells #[.int .i64 0, .slice none 0 0, .slice none 0 0, .slice none 0 0, .int .i64 0, .int .i64 0, .slice none 0 0] 61)
    rw [s2, ← hw3] at this
    exact this
  have HW : w3 = ((w.alloc (.cells #[.slice A1 n1 c1, .slice A2 n2 c2, .slice A3 n3 c3, .int .i64 K.tick, .int .i64 K.run] 39)).alloc (.cells #[.int .i64 kk, .int .i64 to] 53)).alloc (.cells #[.int .i64 0, .slice none 0 0, .slice none 0 0, .slice none 0 0, .int .i64 0, .int .i64 0, .slice none 0 0] 61) := by rw [hw3, hw2, hw1]
  have S3 := Lib.hid s3
  have X3 : Hid (BoxN 7 (w.heap.size + 1 + 1) 61 w2 w3) := by
    show BoxN _ _ _ _ _
    have := BoxN.new w2 #[.int .i64 0, .slice none 0 0, .slice none 0 0, .slice none 0 0, .int .i64 0, .int .i64 0, .slice none 0 0] 61
    rw [s2, ← hw3] at this
    exact this
  have q0 := cell_of_row w3 _ 0 _ _ _ k1; have q1 := cell_of_row w3 _ 1 _ _ _ k1; have q2 := cell_of_row w3 _ 2 _ _ _ k1; have q3 := cell_of_row w3 _ 3 _ _ _ k1; have q4 := cell_of_row w3 _ 4 _ _ _ k1
  simp at q0 q1 q2 q3 q4
  have R3 := Lib.hid (h.lt.below B3.out (Nat.min_le_right _ _))
  have K2 := Lib.hid k2; have K3 := Lib.hid k3
  have hmf : ∀ (fn : Fn) (first cap : Array Value) (w : World), (Instr.makeFunc fn first cap).run Tryz.prog w = .ok (.func fn first cap) w := fun _ _ _ _ => rfl
  have DC : Hid (turnansN K (tickr K kk to) = dotick K kk to) := by
    show _ = _
    unfold turnansN dotick tickr
    by_cases hk : kf K = 0
    · by_cases hc : evf 1 kk to 0 0 0 0 = 0
      · by_cases ht : 100000 ≤ K.tick
        · simp [hk, hc, ht]
        · simp [hk, hc, ht]
      · simp [hk, hc]
    · simp [hk]
  have TR := Lib.hid (turnedN_any 70 (.pointer (some ⟨w.heap.size + 1, 0, none⟩)) (fun args W => by first | rfl | kernel_rfl | simp [go_sem]) (tickr K kk to) lo (min hi w.heap.size) A1 n1 c1 A2 n2 c2 A3 n3 c3 K w3 hn1 R3.out (fun hk W g p hW hg hgs hm =>
    doTick1 K (w.heap.size + 1) g kk to p W ((hW.block _ (by have := S3.out; omega)).trans K2.out) hm hk hgs.2))
  rw [DC.out] at TR
  clear hw1 hw2 hw3 s1 s2 s3 k1 k2 k3 h DC R3 K2 K3
  go_enter Tryz.func24, Tryz.ntmps24
  go_upto_region 1 with (fail)
  rw [← HW]
  clear HW
  go_wp2_with fail
  refine TR.out.mono ?_
  rintro e1 w4 ⟨p, rfl, ho, hb⟩
  have X4 := X3.out.below hb
  have FA := Lib.hid (kans_on (w := w) (q := (dotick K kk to).1) ho hb X4 (by have := S3.out; omega) (by omega) B3.out)
  have cc := fun j (hj : j < 7) => X4.cell j hj
  have ff := fun j => X4.frozen j
  have c0 := cc 0 (by omega); have c1' := cc 1 (by omega); have c2' := cc 2 (by omega); have c3' := cc 3 (by omega); have c4 := cc 4 (by omega); have c5 := cc 5 (by omega); have c6 := cc 6 (by omega)
  have f0 := ff 0; have f1 := ff 1; have f2 := ff 2; have f3 := ff 3; have f4 := ff 4; have f5 := ff 5; have f6 := ff 6
  unfold Rp.val
  clear cc ff X4 ho hb TR q0 q1 q2 q3 q4
  generalize (dotick K kk to).1 = dq at *
  generalize (dotick K kk to).2.1 = dK at *
  go_wp2
  exact bodyPost_ret (results_cell_row rfl _ _ (w.heap.size + 1 + 1) _ _ (0, 0) _ rfl FA.out.1 Tryz.underlying61 rfl (by kernel_rfl)) rfl FA.out.2

end Go.Proofs.YtckapndpefkcgaaGreat
