/-
  The walk of FnExactDoTick: whatever the kernel and the act that came in, it returns true.
-/
import Derived.Test.YtlallklfilmcnaaGreatSpec3x
import Derived.Test.YtlallklfilmcnaaGreatAnsAt3
import Derived.Test.YtlallklfilmcnaaGreatTurn3b
import Derived.Test.YtlallklfilmcnaaGreatNote3e
import Derived.Test.YtlallklfilmcnaaGreatDo3
import Derived.Test.YtlallklfilmcnaaGreatKit3c
import Derived.Test.YtlallklfilmcnaaGreatKernelFaultW
import Derived.Test.YtlallklfilmcnaaGreatCallW

-- Small3t
namespace Go.Proofs.YtlallklfilmcnaaGreat
open Go.RowKit

theorem sm_begin3 (K : Ker) : (begin3 K).2.length ≤ 3 := by
  unfold begin3; repeat' split
  all_goals simp
theorem sm_act3 (K : Ker) (k to : Int) : (act3 K k to).2.length ≤ 3 := by
  unfold act3; repeat' split
  all_goals simp
theorem sm_end3 (K : Ker) : (end3 K).2.length ≤ 3 := by
  unfold end3; simp
theorem tickB_len (K : Ker) : (tickB K).2.length ≤ 3 := by
  unfold tickB; split
  · exact sm_begin3 K
  · simp
theorem tickA_len (K : Ker) (k to : Int) : (tickA K k to).2.length ≤ 3 := by
  unfold tickA; split
  · exact sm_act3 K k to
  · simp
theorem tickE_len (K : Ker) : (tickE K).2.length ≤ 3 := by
  unfold tickE; split
  · exact sm_end3 K
  · simp
theorem TK.tickE {K : Ker} (h : TK K) : TK (Proofs.YtlallklfilmcnaaGreat.tickE K).1 := by
  unfold Proofs.YtlallklfilmcnaaGreat.tickE; split
  · rename_i hr; exact h.last hr.2
  · exact h
theorem dotick_small (K : Ker) (k to : Int) : (dotick K k to).2.1.os.length ≤ 12 ∧ (dotick K k to).2.1.al.length ≤ 4 ∧ (dotick K k to).2.1.ac.length ≤ 16 ∧ (dotick K k to).2.2.length ≤ 3000000 := by
  have z : zeroKer.os.length ≤ 12 ∧ zeroKer.al.length ≤ 4 ∧ zeroKer.ac.length ≤ 16 ∧ ([] : List Int).length ≤ 3000000 := ⟨by decide, by decide, by decide, by simp⟩
  unfold dotick
  split
  · exact z
  · rename_i hk
    have hk : kf K = 0 := by omega
    split
    · exact z
    · rename_i he
      split
      · exact z
      · rename_i ht
        have ht2 := evf_to (by omega : evf 1 k to 0 0 0 0 = 0)
        have h := ((((tk_of hk ht).tickB).tickA k to ht2)).tickE
        have n1 := tickB_len K; have n2 := tickA_len (tickB K).1 k to; have n3 := tickE_len (tickA (tickB K).1 k to).1
        have l1 := h.l1; have l2 := h.l2; have l3 := h.l3
        refine ⟨?_, ?_, ?_, ?_⟩
        · show (tickE (tickA (tickB K).1 k to).1).1.os.length ≤ 12; omega
        · show (tickE (tickA (tickB K).1 k to).1).1.al.length ≤ 4; omega
        · show (tickE (tickA (tickB K).1 k to).1).1.ac.length ≤ 16; omega
        · show ((tickB K).2 ++ (tickA (tickB K).1 k to).2 ++ (tickE (tickA (tickB K).1 k to).1).2).length ≤ 3000000
          simp only [List.length_append]; omega

end Go.Proofs.YtlallklfilmcnaaGreat

-- Turn3c
namespace Go.Proofs.YtlallklfilmcnaaGreat
open Go.RowKit
set_option maxRecDepth 100000

/-- what a step with notes makes of a machine: a refusal, or a kernel and notes -/
def TN (r : Int × Ker × List Int) (g : Nat) (p : Kp) (w : World) (e : Ending) (w' : World) : Prop :=
  (r.1 ≠ 0 ∧ e = .panicked [{ v := .iface 181 (.int .i64 r.1), recovered := false }] ∧ Kept [g, p.g2, p.g3] w w') ∨
  (r.1 = 0 ∧ e = .returned (.tuple #[]) ∧ ∃ A n c, NB w w' g p r.2.1 A n c r.2.2)
/-- what is answered where a step makes r of a right kernel -/
noncomputable def turnansN (K : Ker) (r : Int × Ker × List Int) : Int × Ker × List Int := if kf K ≠ 0 then (kf K, zeroKer, []) else if r.1 ≠ 0 then (r.1, zeroKer, []) else r
/-- a kernel of the call's own and its notes, written into the answer's box -/
theorem kans_box_n {w W : World} {K : Ker} {p : Kp} {B n c : Nat} {A : Option Addr} {ns : List Int} (hx : BoxN 7 w.heap.size 35 w W) (ho : KOwn W p K) (h1 : w.heap.size < p.g1 ∧ p.g1 < B) (h2 : w.heap.size < p.g2 ∧ p.g2 < B) (h3 : w.heap.size < p.g3 ∧ p.g3 < B) (hB : B < W.heap.size) (on : OR 68 3 W B A n c ns) :
    let W7 := (((((((W.setCell ⟨w.heap.size, 0, none⟩ (.int .i64 0)).setCell ⟨w.heap.size, 1, none⟩ (.slice p.A1 p.n1 p.c1)).setCell ⟨w.heap.size, 2, none⟩ (.slice p.A2 4 p.c2)).setCell ⟨w.heap.size, 3, none⟩ (.slice p.A3 4 p.c3)).setCell ⟨w.heap.size, 4, none⟩ (.int .i64 K.tick)).setCell ⟨w.heap.size, 5, none⟩ (.int .i64 K.run)).setCell ⟨w.heap.size, 6, none⟩ (.slice A n c))
    W7.heap[w.heap.size]? = some (.cells #[.int .i64 0, .slice p.A1 p.n1 p.c1, .slice p.A2 4 p.c2, .slice p.A3 4 p.c3, .int .i64 K.tick, .int .i64 K.run, .slice A n c] 35 (0, 0)) ∧
    KAns 0 K ns w (.returned (.agg #[.int .i64 0, .slice p.A1 p.n1 p.c1, .slice p.A2 4 p.c2, .slice p.A3 4 p.c3, .int .i64 K.tick, .int .i64 K.run, .slice A n c])) W7 := by
  intro W7
  obtain ⟨cs, e, k⟩ := hx.of
  obtain ⟨a0, a1, a2, a3, a4, a5, a6, rfl⟩ := arr7 e
  have kp : Kept [w.heap.size] W W7 := Kept.set7 (Kept.refl _ _) (List.mem_singleton.2 rfl) _ _ _ _ _ _ _
  have hsz : W7.heap.size = W.heap.size := by simp [W7]
  obtain ⟨g4, z1, z2, z3⟩ := on.mine hB
  refine ⟨blk7_set k _ _ _ _ _ _ _, kans_notes (g4 := g4) (ho.kept kp (by simp; omega) (by simp; omega) (by simp; omega)) on.len (far7 z3 (by omega) _ _ _ _ _ _ _) (by omega) (by omega) (by omega) ⟨by omega, by omega⟩ ⟨by omega, by omega⟩ ⟨by omega, by omega⟩ ⟨by omega, by omega⟩ (below7 hx.fst (Nat.le_refl _) _ _ _ _ _ _ _)⟩

set_option maxHeartbeats 8000000 in
theorem turnedN_any (fid : Nat) (cap : Value) (hcf : ∀ args W, (callFunc fid args).run Tryz.prog W = .ok (.enter fid args) W) (r : Int × Ker × List Int) (lo hi : Nat) (A1 : Option Addr) (n1 c1 : Nat) (A2 : Option Addr) (n2 c2 : Nat) (A3 : Option Addr) (n3 c3 : Nat) (K : Ker) (w : World) (hn1 : n1 * 8 ≤ 140737488351232)
    (h : KRead w lo hi A1 n1 A2 n2 A3 n3 K)
    (turn : kf K = 0 → ∀ (W : World) (g : Nat) (p : Kp), Below w.heap.size w W → w.heap.size ≤ g → (w.heap.size ≤ p.g2 ∧ w.heap.size ≤ p.g3) ∧ (p.g1 < W.heap.size) → MB W g p K (.slice none 0 0) → Calls Tryz.prog fid #[.pointer (some ⟨g, 0, none⟩), cap] W (TN r g p W)) :
    Calls Tryz.prog 56 #[.agg #[.slice A1 n1 c1, .slice A2 n2 c2, .slice A3 n3 c3, .int .i64 K.tick, .int .i64 K.run], .func (.func fid) #[] #[cap]] w (KAns (turnansN K r).1 (turnansN K r).2.1 (turnansN K r).2.2 w) := by
  obtain ⟨w1, hw1⟩ : ∃ w1, w1 = w.alloc (.cells #[.slice A1 n1 c1, .slice A2 n2 c2, .slice A3 n3 c3, .int .i64 K.tick, .int .i64 K.run] 28) := ⟨_, rfl⟩
  have k1 : w1.heap[w.heap.size]? = some (.cells #[.slice A1 n1 c1, .slice A2 n2 c2, .slice A3 n3 c3, .int .i64 K.tick, .int .i64 K.run] 28 (0, 0)) := by rw [hw1]; exact heap_alloc_new w _
  have B1 : Hid (Below w.heap.size w w1) := by rw [hw1]; exact below_new w _
  have S1 : Hid (w1.heap.size = w.heap.size + 1) := by show _ = _; rw [hw1]; simp
  obtain ⟨w2, hw2⟩ : ∃ w2, w2 = w1.alloc (.cells #[.int .i64 0, .slice none 0 0, .slice none 0 0, .slice none 0 0, .int .i64 0, .int .i64 0, .slice none 0 0] 35) := ⟨_, rfl⟩
  have X2 : Hid (BoxN 7 w1.heap.size 35 w1 w2) := by rw [hw2]; exact BoxN.new w1 #[.int .i64 0, .slice none 0 0, .slice none 0 0, .slice none 0 0, .int .i64 0, .int .i64 0, .slice none 0 0] _
  have S2 : Hid (w2.heap.size = w1.heap.size + 1) := by show _ = _; rw [hw2]; simp
  have hw12 : w2 = (w.alloc (.cells #[.slice A1 n1 c1, .slice A2 n2 c2, .slice A3 n3 c3, .int .i64 K.tick, .int .i64 K.run] 28)).alloc (.cells #[.int .i64 0, .slice none 0 0, .slice none 0 0, .slice none 0 0, .int .i64 0, .int .i64 0, .slice none 0 0] 35) := by rw [hw2, hw1]
  have KB : Hid (∀ W, Below w1.heap.size w1 W → W.cell? ⟨w.heap.size, 0, none⟩ = some (.slice A1 n1 c1) ∧ W.cell? ⟨w.heap.size, 1, none⟩ = some (.slice A2 n2 c2) ∧ W.cell? ⟨w.heap.size, 2, none⟩ = some (.slice A3 n3 c3) ∧ W.cell? ⟨w.heap.size, 3, none⟩ = some (.int .i64 K.tick) ∧ W.cell? ⟨w.heap.size, 4, none⟩ = some (.int .i64 K.run)) := fun W hW => by
    have k := (hW.block w.heap.size (by have := S1.out; omega)).trans k1
    exact ⟨cell_of_row W _ 0 _ _ _ k, cell_of_row W _ 1 _ _ _ k, cell_of_row W _ 2 _ _ _ k, cell_of_row W _ 3 _ _ _ k, cell_of_row W _ 4 _ _ _ k⟩
  have R := Lib.hid ((h.lt.below B1.out (Nat.min_le_right _ _)).below X2.out.fst (by have := S1.out; omega))
  have W1 := Lib.hid (show w1.heap.size = (w.alloc (.cells #[.slice A1 n1 c1, .slice A2 n2 c2, .slice A3 n3 c3, .int .i64 K.tick, .int .i64 K.run] 28)).heap.size by rw [hw1])
  have HR := Lib.hid h
  have TU := Lib.hid turn
  clear hw2 hw1 k1 h turn
  have hmf : ∀ (fn : Fn) (first cap : Array Value) (w : World), (Instr.makeFunc fn first cap).run Tryz.prog w = .ok (.func fn first cap) w := fun _ _ _ _ => rfl
  obtain ⟨q0, q1, q2, q3, q4⟩ := KB.out _ X2.out.fst
  go_enter_defers Tryz.func56, Tryz.ntmps56
  go_upto_region 2 with (fail)
  rw [← hw12]
  clear hw12
  go_wp2_with fail
  refine (implKernelFault_any lo (min hi w.heap.size) A1 n1 c1 A2 n2 c2 A3 n3 c3 K.tick K.run K w2 hn1 R.out rfl rfl).mono ?_
  rintro e w3 ⟨rfl, hb3⟩
  have X3 := Lib.hid (X2.out.below hb3)
  have HB3 := Lib.hid hb3
  clear hb3
  by_cases hk : kf K = 0
  · obtain ⟨v0, v2, v3⟩ := kf_zero hk
    obtain ⟨v1, v4, _, _⟩ := vf_zero v0
    obtain ⟨l1, l2, l3⟩ := HR.out.1
    obtain rfl : n2 = 4 := by omega
    obtain rfl : n3 = 4 := by omega
    have hn12 : n1 ≤ 12 := by omega
    have hn01 : 1 ≤ n1 := by omega
    have TE : Hid (turnansN K r = if r.1 ≠ 0 then (r.1, zeroKer, []) else r) := by show _ = _; unfold turnansN; rw [if_neg (fun hh => hh hk)]
    obtain ⟨q0, q1, q2, q3, q4⟩ := KB.out _ X3.out.fst
    have R3 := Lib.hid (R.out.below HB3.out (by have := S1.out; have := S2.out; omega))
    have TK := Lib.hid (TU.out hk)
    rw [hk]
    clear hk v0 v1 v2 v3 v4 l1 l2 l3
    go_wp2_with fail
    refine (must_no _).mono ?_
    rintro e w4 ⟨rfl, rfl⟩
    go_wp2_with fail
    refine (copyOf_any lo (min hi w.heap.size) A1 n1 c1 A2 c2 A3 c3 K.tick K.run K w3 R3.out hn12 hn01).mono ?_
    rintro e w4 ⟨p, rfl, ho, ⟨u1, u2, u3, u4, u5, u6⟩, hb4⟩
    obtain ⟨w5, hw5⟩ : ∃ w5, w5 = w4.alloc (.cells #[.slice p.A1 p.n1 p.c1, .slice p.A2 4 p.c2, .slice p.A3 4 p.c3, .int .i64 K.tick, .int .i64 K.run, .slice none 0 0] 132) := ⟨_, rfl⟩
    have X5 : Hid (BoxN 7 w1.heap.size 35 w1 w5) := by rw [hw5]; exact (X3.out.below hb4).alloc _
    have z4 := hb4.size
    have z3 := X3.out.lt
    have M5 : Hid (MB w5 w4.heap.size p K (.slice none 0 0)) := by
      rw [hw5]
      exact ⟨heap_alloc_new w4 _, ho.kept ((Kept.refl [] w4).alloc _) (by simp) (by simp) (by simp), by omega, by omega, by omega⟩
    have B5 : Hid (Below w.heap.size w w5) := B1.out.trans (X5.out.fst.mono (by have := S1.out; omega))
    have S5 : Hid (w5.heap.size = w4.heap.size + 1) := by show _ = _; rw [hw5]; simp
    have U := Lib.hid (show w1.heap.size < w4.heap.size ∧ w1.heap.size < p.g1 ∧ w1.heap.size < p.g2 ∧ w1.heap.size < p.g3 ∧ p.g1 < w4.heap.size ∧ p.g2 < w4.heap.size ∧ p.g3 < w4.heap.size from ⟨by omega, by omega, by omega, by omega, u4, u5, u6⟩)
    have HW5 := Lib.hid hw5
    clear ho u1 u2 u3 u4 u5 u6 hb4 z4 z3 hw5 R3
    go_upto_region 4 with (fail)
    rw [← HW5.out]
    clear HW5
    go_wp2_with fail
    refine (TK.out w5 w4.heap.size p B5.out (by have := U.out; have := S1.out; omega) (by have := U.out; have := S1.out; have := S5.out; omega) M5.out).mono ?_
    rintro e w6 (⟨hr, rfl, hk6⟩ | ⟨hr, rfl, NA, nn, nc, nb⟩)
    · have X6 : BoxN 7 w1.heap.size 35 w1 w6 := X5.out.beyond (hk6.below (by have := U.out; have := S5.out; omega) (fun b hb => by have := U.out; simp at hb; omega))
      have X6' : BoxN 7 (w.heap.size + 1) 35 w1 w6 := by rw [← S1.out]; exact X6
      have FA := kans_code_box r.1 X6
      rw [S1.out] at FA
      have TE2 : turnansN K r = (r.1, zeroKer, []) := by rw [TE.out, if_pos hr]
      clear hk6 X6
      go_wp2
      refine leaves_cons (f := 114) (args := #[.pointer (some ⟨w.heap.size + 1, 0, none⟩)]) (by simp) (by simp [go_sem]) ?_
      refine (catch_panicking (w.heap.size + 1) r.1 [] X6').mono ?_
      rintro e u' w'' ⟨rfl, rfl, rfl⟩
      exact ⟨_, results_cell_row rfl _ _ (w.heap.size + 1) _ _ (0, 0) _ rfl FA.1 Tryz.underlying35 rfl (by kernel_rfl), FA.2.grow B1.out⟩
    · obtain ⟨p2, m6, own6, hg1, e2, e3, hk6⟩ : ∃ p2 : Kp, MB w6 w4.heap.size p2 r.2.1 (.slice NA nn nc) ∧ OR 68 3 w6 w5.heap.size NA nn nc r.2.2 ∧ p2.g1 = p.g1 ∧ p2.g2 = p.g2 ∧ p2.g3 = p.g3 ∧ Kept [w4.heap.size, p.g2, p.g3] w5 w6 := ⟨p, nb.mb, nb.own, rfl, rfl, rfl, nb.kept.mono (gs' := [w4.heap.size, p.g2, p.g3]) (by first | (simp; done) | (simp; omega))⟩
      have O6 := Lib.hid own6
      clear own6 nb
      have X6 : BoxN 7 w1.heap.size 35 w1 w6 := X5.out.beyond (hk6.below (by have := U.out; have := S5.out; omega) (fun b hb => by have := U.out; simp at hb; omega))
      have M6 := Lib.hid m6
      have X6h := Lib.hid X6
      have E1 := Lib.hid hg1
      have E2 := Lib.hid e2; have E3 := Lib.hid e3
      have Z6 := Lib.hid hk6.1.size
      have TE2 : Hid (turnansN K r = (0, r.2)) := by show _ = _; rw [TE.out, if_neg (fun hh => hh hr)]; exact Prod.ext hr rfl
      clear m6 X6 hg1 e2 e3 hk6 hr
      go_upto_region 5 with (fail)
      refine wp_region_noPanic ?_
      obtain ⟨w7, hw7⟩ : ∃ w7, w7 = w6.drew := ⟨_, rfl⟩
      have O7 : Hid (OR 68 3 w7 w4.heap.size NA nn nc r.2.2) := by rw [hw7]; exact (OR.mono (base' := w4.heap.size) O6.out (by have := S5.out; omega)).kept ((Kept.refl [] w6).drew) (by simp)
      have M7 : Hid (MB w7 w4.heap.size p2 r.2.1 (.slice NA nn nc)) := by rw [hw7]; exact M6.out.drew
      have X7 : Hid (BoxN 7 w1.heap.size 35 w1 w7) := by rw [hw7]; exact X6h.out.drew
      have Z7 : Hid (w5.heap.size ≤ w7.heap.size) := by show _ ≤ _; rw [hw7]; exact Z6.out
      have Z67 : Hid (w7.heap.size = w6.heap.size) := by show _ = _; rw [hw7]; rfl
      have KS : Hid (∀ W, MB W w4.heap.size p2 r.2.1 (.slice NA nn nc) → ((W.cell? ⟨w4.heap.size, 0, none⟩ = some (.slice p2.A1 p2.n1 p2.c1) ∧ W.cell? ⟨w4.heap.size, 1, none⟩ = some (.slice p2.A2 4 p2.c2) ∧ W.cell? ⟨w4.heap.size, 2, none⟩ = some (.slice p2.A3 4 p2.c3) ∧ W.cell? ⟨w4.heap.size, 3, none⟩ = some (.int .i64 r.2.1.tick) ∧ W.cell? ⟨w4.heap.size, 4, none⟩ = some (.int .i64 r.2.1.run) ∧ W.cell? ⟨w4.heap.size, 5, none⟩ = some (.slice NA nn nc)) ∧ True)) := fun W h => ⟨⟨h.cells.1, h.cells.2.1, h.cells.2.2.1, h.cells.2.2.2.1, h.cells.2.2.2.2, h.note⟩, trivial⟩
      refine wp_region_held_drew (S := fun W => ((W.cell? ⟨w4.heap.size, 0, none⟩ = some (.slice p2.A1 p2.n1 p2.c1) ∧ W.cell? ⟨w4.heap.size, 1, none⟩ = some (.slice p2.A2 4 p2.c2) ∧ W.cell? ⟨w4.heap.size, 2, none⟩ = some (.slice p2.A3 4 p2.c3) ∧ W.cell? ⟨w4.heap.size, 3, none⟩ = some (.int .i64 r.2.1.tick) ∧ W.cell? ⟨w4.heap.size, 4, none⟩ = some (.int .i64 r.2.1.run) ∧ W.cell? ⟨w4.heap.size, 5, none⟩ = some (.slice NA nn nc)) ∧ True)) (by kernel_rfl) (KS.out _ M6.out.drew) (fun hHeld => ?_)
      rw [← hw7] at hHeld ⊢
      have HW7 := Lib.hid hw7
      clear hw7
      refine wpAnyH_take (i := 0) (oi := _) (v := ?_) rfl (by kernel_rfl) (by kernel_rfl) (by kernel_rfl) (fun _ _ _ h => h) (Or.inl ⟨by rfl, ?_⟩) hHeld ?_
      rotate_left
      · (intro w hSw; (try dsimp only at hSw); go_simp; try with_reducible rfl)
      try simp only [Act.put, List.setIfInBounds_toArray, List.set_cons_zero, List.set_cons_succ]
      refine wpAnyH_take (i := 1) (oi := _) (v := ?_) rfl (by kernel_rfl) (by kernel_rfl) (by kernel_rfl) (fun _ _ _ h => h) (Or.inl ⟨by rfl, ?_⟩) hHeld ?_
      rotate_left
      · (intro w hSw; (try dsimp only at hSw); go_simp; try with_reducible rfl)
      try simp only [Act.put, List.setIfInBounds_toArray, List.set_cons_zero, List.set_cons_succ]
      refine wpAnyH_take (i := 2) (oi := _) (v := ?_) rfl (by kernel_rfl) (by kernel_rfl) (by kernel_rfl) (fun _ _ _ h => h) (Or.inl ⟨by rfl, ?_⟩) hHeld ?_
      rotate_left
      · (intro w hSw; (try dsimp only at hSw); go_simp; try with_reducible rfl)
      try simp only [Act.put, List.setIfInBounds_toArray, List.set_cons_zero, List.set_cons_succ]
      refine wpAnyH_take (i := 3) (oi := _) (v := ?_) rfl (by kernel_rfl) (by kernel_rfl) (by kernel_rfl) (fun _ _ _ h => h) (Or.inl ⟨by rfl, ?_⟩) hHeld ?_
      rotate_left
      · (intro w hSw; (try dsimp only at hSw); go_simp; try with_reducible rfl)
      try simp only [Act.put, List.setIfInBounds_toArray, List.set_cons_zero, List.set_cons_succ]
      refine wpAnyH_take (i := 4) (oi := _) (v := ?_) rfl (by kernel_rfl) (by kernel_rfl) (by kernel_rfl) (fun _ _ _ h => h) (Or.inl ⟨by rfl, ?_⟩) hHeld ?_
      rotate_left
      · (intro w hSw; (try dsimp only at hSw); go_simp; try with_reducible rfl)
      try simp only [Act.put, List.setIfInBounds_toArray, List.set_cons_zero, List.set_cons_succ]
      refine wpAnyH_take (i := 5) (oi := _) (v := ?_) rfl (by kernel_rfl) (by kernel_rfl) (by kernel_rfl) (fun _ _ _ h => h) (Or.inl ⟨by rfl, ?_⟩) hHeld ?_
      rotate_left
      · (intro w hSw; (try dsimp only at hSw); go_simp; try with_reducible rfl)
      try simp only [Act.put, List.setIfInBounds_toArray, List.set_cons_zero, List.set_cons_succ]
      refine wpAnyH_take (i := 6) (oi := _) (v := ?_) rfl (by kernel_rfl) (by kernel_rfl) (by kernel_rfl) (fun _ _ _ h => h) (Or.inl ⟨by rfl, ?_⟩) hHeld ?_
      rotate_left
      · (intro w hSw; (try dsimp only at hSw); go_simp; try with_reducible rfl)
      try simp only [Act.put, List.setIfInBounds_toArray, List.set_cons_zero, List.set_cons_succ]
      refine wpAnyH_take (i := 7) (oi := _) (v := ?_) rfl (by kernel_rfl) (by kernel_rfl) (by kernel_rfl) (fun _ _ _ h => h) (Or.inl ⟨by rfl, ?_⟩) hHeld ?_
      rotate_left
      · (intro w hSw; (try dsimp only at hSw); go_simp; try with_reducible rfl)
      try simp only [Act.put, List.setIfInBounds_toArray, List.set_cons_zero, List.set_cons_succ]
      refine wpAnyH_take (i := 8) (oi := _) (v := ?_) rfl (by kernel_rfl) (by kernel_rfl) (by kernel_rfl) (fun _ _ _ h => h) (Or.inl ⟨by rfl, ?_⟩) hHeld ?_
      rotate_left
      · (intro w hSw; (try dsimp only at hSw); go_simp; try with_reducible rfl)
      try simp only [Act.put, List.setIfInBounds_toArray, List.set_cons_zero, List.set_cons_succ]
      refine wpAnyH_ready (rs := [9]) (by kernel_rfl) (by simp) ?_
      refine AllReadyH.cons (o := _) rfl (fun K0 hK0 => ?_) AllReadyH.nil
      have cc := fun j (hj : j < 7) => X7.out.cell j hj
      have ff := fun j => X7.out.frozen j
      rw [S1.out] at cc ff
      have c0 := cc 0 (by omega); have c1' := cc 1 (by omega); have c2' := cc 2 (by omega); have c3' := cc 3 (by omega); have c4 := cc 4 (by omega); have c5 := cc 5 (by omega); have c6 := cc 6 (by omega)
      have f0 := ff 0; have f1 := ff 1; have f2 := ff 2; have f3 := ff 3; have f4 := ff 4; have f5 := ff 5; have f6 := ff 6
      have kp7 := M7.out.note
      have u := U.out; have z7 := Z7.out; have s5 := S5.out; have s1 := S1.out
      have lt2 := M7.out.lt2
      have FA := kans_box_n X7.out M7.out.own ⟨by rw [E1.out]; exact u.2.1, by rw [E1.out]; exact u.2.2.2.2.1⟩ ⟨by rw [E2.out]; exact u.2.2.1, by rw [E2.out]; exact u.2.2.2.2.2.1⟩ ⟨by rw [E3.out]; exact u.2.2.2.1, by rw [E3.out]; exact u.2.2.2.2.2.2⟩ (by omega) O7.out
      rw [S1.out] at FA
      have HFA := Lib.hid FA
      have KX := Lib.hid (KS.out _ (M7.out.kept (Kept.set7 (gs := [w.heap.size + 1]) (Kept.refl _ w7) (List.mem_singleton.2 rfl) (.int .i64 0) (.slice p2.A1 p2.n1 p2.c1) (.slice p2.A2 4 p2.c2) (.slice p2.A3 4 p2.c3) (.int .i64 r.2.1.tick) (.int .i64 r.2.1.run) (.slice NA nn nc)) (by simp; omega) (by simp; rw [E1.out]; omega) (by simp; rw [E2.out]; omega) (by simp; rw [E3.out]; omega)))
      clear cc ff FA u z7 s5 s1 lt2 kp7 hHeld
      go_simp
      refine hK0.out _ _ KX.out (fun hHeld => ?_)
      clear hK0 K0
      refine wpAnyH_done (by kernel_rfl) ?_ _
      refine NoPanic.normal ?_
      go_wp2
      refine leaves_cons (f := 114) (args := #[.pointer (some ⟨w.heap.size + 1, 0, none⟩)]) (by simp) (by simp [go_sem]) ?_
      refine (catch_idle _ _).mono ?_
      rintro e u' w'' ⟨rfl, rfl, rfl⟩
      exact ⟨_, results_cell_row rfl _ _ (w.heap.size + 1) _ _ (0, 0) _ rfl HFA.out.1 Tryz.underlying35 rfl (by kernel_rfl), by rw [TE2.out]; exact HFA.out.2.grow B1.out⟩
  · have hk2 : (kf K != 0) = true := by simp [hk]
    have TE : Hid (turnansN K r = (kf K, zeroKer, [])) := by show _ = _; unfold turnansN; rw [if_pos hk]
    go_wp2_with fail
    refine (must_yes (kf K) hk2 _).mono ?_
    rintro e w4 ⟨rfl, rfl⟩
    go_wp2
    have X4 : BoxN 7 (w.heap.size + 1) 35 w1 w3 := by rw [← S1.out]; exact X3.out
    have FA := kans_code_box (kf K) X3.out
    rw [S1.out] at FA
    refine leaves_cons (f := 114) (args := #[.pointer (some ⟨w.heap.size + 1, 0, none⟩)]) (by simp) (by simp [go_sem]) ?_
    refine (catch_panicking (w.heap.size + 1) (kf K) [] X4).mono ?_
    rintro e u' w'' ⟨rfl, rfl, rfl⟩
    rw [TE.out]
    exact ⟨_, results_cell_row rfl _ _ (w.heap.size + 1) _ _ (0, 0) _ rfl FA.1 Tryz.underlying35 rfl (by kernel_rfl), FA.2.grow B1.out⟩

end Go.Proofs.YtlallklfilmcnaaGreat

-- Do3t
namespace Go.Proofs.YtlallklfilmcnaaGreat
open Go.RowKit
set_option maxRecDepth 100000

theorem evf_kind {k to : Int} (h : evf 1 k to 0 0 0 0 = 0) : k = 1 ∨ k = 2 ∨ k = 3 := by
  unfold evf at h
  rw [if_pos rfl] at h
  split at h
  · omega
  · omega
/-- what the step of DoTick makes of a right kernel -/
noncomputable def tickr (K : Ker) (kk to : Int) : Int × Ker × List Int := if evf 1 kk to 0 0 0 0 ≠ 0 then (evf 1 kk to 0 0 0 0, zeroKer, []) else if 100000 ≤ K.tick then (8, zeroKer, []) else (0, (tick3 K kk to).1, (tick3 K kk to).2)

set_option maxHeartbeats 2000000 in
theorem doTick1 (K : Ker) (gc g : Nat) (kk to : Int) (p : Kp) (w : World) (hbox : w.heap[gc]? = some (.cells #[.int .i64 kk, .int .i64 to] 39 (0, 0))) (h : MB w g p K (.slice none 0 0)) (hk : kf K = 0) (l1 : p.g1 < w.heap.size) :
    Calls Tryz.prog 85 #[.pointer (some ⟨g, 0, none⟩), .pointer (some ⟨gc, 0, none⟩)] w (TN (tickr K kk to) g p w) := by
  have gl : gc < w.heap.size := (Array.getElem?_eq_some_iff.1 hbox).1
  have HN : Hid (NX w w g p K [] []) := ⟨none, 0, 0, ⟨h, ⟨by simp [vals], .inl ⟨rfl, rfl⟩⟩, Kept.refl _ _, h.lt, l1, h.lt2.1, h.lt2.2⟩, fun b hb => by cases hb⟩
  have c0 := cell_of_row w _ 0 _ _ _ hbox; have c1 := cell_of_row w _ 1 _ _ _ hbox
  simp at c0 c1
  have BX := Lib.hid hbox
  have GL := Lib.hid gl
  have HK := Lib.hid hk
  clear hbox h gl hk
  go_enter Tryz.func85, Tryz.ntmps85
  go_wp2_with fail
  refine (implEventFault_any 1 kk to 0 0 0 0 _).mono ?_
  rintro e9 w1 ⟨rfl, hb⟩
  have H1 := Lib.hid (HN.out.below hb)
  have B1 := Lib.hid hb
  clear hb c0 c1 HN
  by_cases hc : evf 1 kk to 0 0 0 0 = 0
  · have HC := Lib.hid hc
    rw [hc]
    clear hc
    go_wp2_with fail
    refine (must_no _).mono ?_
    rintro e9 w9 ⟨rfl, rfl⟩
    obtain ⟨_, hm⟩ := H1.out.mb
    obtain ⟨q0, q1, q2, q3, q4⟩ := hm.cells
    clear hm q0 q1 q2 q4
    by_cases ht : 100000 ≤ K.tick
    · have gt : decide (100000 ≤ K.tick) = true := decide_eq_true ht
      have TE : Hid (tickr K kk to = (8, zeroKer, [])) := by show _ = _; unfold tickr; rw [if_neg (fun hh => hh HC.out), if_pos ht]
      clear ht
      go_wp2_with fail
      refine (refuseIf_yes 8 _).mono ?_
      rintro e9 w9 ⟨rfl, rfl⟩
      go_wp2
      rw [TE.out]
      exact ⟨rfl, .inl ⟨by show (8 : Int) ≠ 0; decide, rfl, Kept.of_below B1.out _⟩⟩
    · have gt : decide (100000 ≤ K.tick) = false := decide_eq_false ht
      have TE : Hid (tickr K kk to = (0, (tick3 K kk to).1, (tick3 K kk to).2)) := by show _ = _; unfold tickr; rw [if_neg (fun hh => hh HC.out), if_neg ht]
      have TT := Lib.hid (tk_of HK.out ht)
      obtain ⟨tn, htn⟩ : ∃ tn : Nat, to = (tn : Int) := ⟨to.toNat, by have := evf_to HC.out; omega⟩
      have ht4 : tn < 4 := by have := evf_to HC.out; omega
      subst htn
      clear ht
      go_wp2_with fail
      refine (refuseIf_no 8 _).mono ?_
      rintro e9 w9 ⟨rfl, rfl⟩
      have bx := (B1.out.block gc GL.out).trans BX.out
      have b0 := cell_of_row w1 _ 0 _ _ _ bx; have b1 := cell_of_row w1 _ 1 _ _ _ bx
      simp at b0 b1
      clear bx q3 gt
      go_wp2_with fail
      refine (passTick_any H1.out TT.out (by simp) kk (evf_kind HC.out) tn ht4).mono ?_
      rintro e9 w2 ⟨rfl, hn⟩
      rw [List.nil_append] at hn
      obtain ⟨A, n, c, nb, _⟩ := hn
      go_wp2_with fail
      first | refine bodyPost_ret (results_none rfl _ _ _) rfl ?_ | refine bodyPost_end (results_none rfl _ _ _) rfl ?_
      rw [TE.out]
      exact .inr ⟨rfl, rfl, A, n, c, nb⟩
  · have hca : (evf 1 kk to 0 0 0 0 != 0) = true := by simp [hc]
    have TE : Hid (tickr K kk to = (evf 1 kk to 0 0 0 0, zeroKer, [])) := by show _ = _; unfold tickr; rw [if_pos hc]
    have HC := Lib.hid hc
    clear hc
    go_wp2_with fail
    refine (must_yes _ hca _).mono ?_
    rintro e9 w9 ⟨rfl, rfl⟩
    go_wp2
    rw [TE.out]
    exact ⟨rfl, .inl ⟨HC.out, rfl, Kept.of_below B1.out _⟩⟩

set_option maxHeartbeats 4000000 in
theorem implDoTick_any (lo hi : Nat) (A1 : Option Addr) (n1 c1 : Nat) (A2 : Option Addr) (n2 c2 : Nat) (A3 : Option Addr) (n3 c3 : Nat) (K : Ker) (kk to : Int) (w : World) (hn1 : n1 * 8 ≤ 140737488351232)
    (h : KRead w lo hi A1 n1 A2 n2 A3 n3 K) :
    Calls Tryz.prog 27 #[.agg #[.slice A1 n1 c1, .slice A2 n2 c2, .slice A3 n3 c3, .int .i64 K.tick, .int .i64 K.run], .agg #[.int .i64 kk, .int .i64 to]] w (KAns (dotick K kk to).1 (dotick K kk to).2.1 (dotick K kk to).2.2 w) := by
  obtain ⟨w1, hw1⟩ : ∃ w1, w1 = w.alloc (.cells #[.slice A1 n1 c1, .slice A2 n2 c2, .slice A3 n3 c3, .int .i64 K.tick, .int .i64 K.run] 28) := ⟨_, rfl⟩
  obtain ⟨w2, hw2⟩ : ∃ w2, w2 = w1.alloc (.cells #[.int .i64 kk, .int .i64 to] 39) := ⟨_, rfl⟩
  obtain ⟨w3, hw3⟩ : ∃ w3, w3 = w2.alloc (.cells #[.int .i64 0, .slice none 0 0, .slice none 0 0, .slice none 0 0, .int .i64 0, .int .i64 0, .slice none 0 0] 35) := ⟨_, rfl⟩
  have s1 : w1.heap.size = w.heap.size + 1 := by rw [hw1]; simp
  have s2 : w2.heap.size = w.heap.size + 1 + 1 := by rw [hw2]; simp; omega
  have s3 : w3.heap.size = w.heap.size + 3 := by rw [hw3]; simp; omega
  have B3 : Hid (Below w.heap.size w w3) := by rw [hw3, hw2, hw1]; exact ((below_new w _).alloc (by simp) _).alloc (by simp; omega) _
  have k1 : w3.heap[w.heap.size]? = some (.cells #[.slice A1 n1 c1, .slice A2 n2 c2, .slice A3 n3 c3, .int .i64 K.tick, .int .i64 K.run] 28 (0, 0)) := by
    rw [hw3, hw2, hw1]
    exact (Below.heap_alloc _ _ _ (by simp; omega)).trans (heap_alloc2_old w _ _)
  have k2 : w3.heap[w.heap.size + 1]? = some (.cells #[.int .i64 kk, .int .i64 to] 39 (0, 0)) := by
    rw [hw3, hw2, hw1]
    exact (Below.heap_alloc _ _ _ (by simp)).trans (heap_alloc2_new w _ _)
  have k3 : w3.heap[w.heap.size + 1 + 1]? = some (.cells #[.int .i64 0, .slice none 0 0, .slice none 0 0, .slice none 0 0, .int .i64 0, .int .i64 0, .slice none 0 0] 35 (0, 0)) := by
    have := heap_alloc_new w2 (.cells #[.int .i64 0, .slice none 0 0, .slice none 0 0, .slice none 0 0, .int .i64 0, .int .i64 0, .slice none 0 0] 35)
    rw [s2, ← hw3] at this
    exact this
  have HW : w3 = ((w.alloc (.cells #[.slice A1 n1 c1, .slice A2 n2 c2, .slice A3 n3 c3, .int .i64 K.tick, .int .i64 K.run] 28)).alloc (.cells #[.int .i64 kk, .int .i64 to] 39)).alloc (.cells #[.int .i64 0, .slice none 0 0, .slice none 0 0, .slice none 0 0, .int .i64 0, .int .i64 0, .slice none 0 0] 35) := by rw [hw3, hw2, hw1]
  have S3 := Lib.hid s3
  have X3 : Hid (BoxN 7 (w.heap.size + 1 + 1) 35 w2 w3) := by
    show BoxN _ _ _ _ _
    have := BoxN.new w2 #[.int .i64 0, .slice none 0 0, .slice none 0 0, .slice none 0 0, .int .i64 0, .int .i64 0, .slice none 0 0] 35
    rw [s2, ← hw3] at this
    exact this
  have q0 := cell_of_row w3 _ 0 _ _ _ k1; have q1 := cell_of_row w3 _ 1 _ _ _ k1; have q2 := cell_of_row w3 _ 2 _ _ _ k1; have q3 := cell_of_row w3 _ 3 _ _ _ k1; have q4 := cell_of_row w3 _ 4 _ _ _ k1
  simp at q0 q1 q2 q3 q4
  have R3 := Lib.hid (h.lt.below B3.out (Nat.min_le_right _ _))
  have K2 := Lib.hid k2; have K3 := Lib.hid k3
  have hmf : ∀ (fn : Fn) (first cap : Array Value) (w : World), (Instr.makeFunc fn first cap).run Tryz.prog w = .ok (.func fn first cap) w := fun _ _ _ _ => rfl
  have DC : Hid (turnansN K (tickr K kk to) = dotick K kk to) := by
    show _ = _
    unfold turnansN dotick tickr
    by_cases hk : kf K = 0
    · by_cases hc : evf 1 kk to 0 0 0 0 = 0
      · by_cases ht : 100000 ≤ K.tick
        · simp [hk, hc, ht]
        · simp [hk, hc, ht]
      · simp [hk, hc]
    · simp [hk]
  have TR := Lib.hid (turnedN_any 85 (.pointer (some ⟨w.heap.size + 1, 0, none⟩)) (fun args W => by first | rfl | kernel_rfl | simp [go_sem]) (tickr K kk to) lo (min hi w.heap.size) A1 n1 c1 A2 n2 c2 A3 n3 c3 K w3 hn1 R3.out (fun hk W g p hW hg hgs hm =>
    doTick1 K (w.heap.size + 1) g kk to p W ((hW.block _ (by have := S3.out; omega)).trans K2.out) hm hk hgs.2))
  rw [DC.out] at TR
  clear hw1 hw2 hw3 s1 s2 s3 k1 k2 k3 h DC R3 K2 K3
  go_enter Tryz.func27, Tryz.ntmps27
  go_upto_region 1 with (fail)
  rw [← HW]
  clear HW
  go_wp2_with fail
  refine TR.out.mono ?_
  rintro e1 w4 ⟨p, rfl, ho, hb⟩
  have X4 := X3.out.below hb
  have FA := Lib.hid (kans_on (w := w) (q := (dotick K kk to).1) ho hb X4 (by have := S3.out; omega) (by omega) B3.out)
  have cc := fun j (hj : j < 7) => X4.cell j hj
  have ff := fun j => X4.frozen j
  have c0 := cc 0 (by omega); have c1' := cc 1 (by omega); have c2' := cc 2 (by omega); have c3' := cc 3 (by omega); have c4 := cc 4 (by omega); have c5 := cc 5 (by omega); have c6 := cc 6 (by omega)
  have f0 := ff 0; have f1 := ff 1; have f2 := ff 2; have f3 := ff 3; have f4 := ff 4; have f5 := ff 5; have f6 := ff 6
  unfold Rp.val
  clear cc ff X4 ho hb TR q0 q1 q2 q3 q4
  generalize (dotick K kk to).1 = dq at *
  generalize (dotick K kk to).2.1 = dK at *
  go_wp2
  exact bodyPost_ret (results_cell_row rfl _ _ (w.heap.size + 1 + 1) _ _ (0, 0) _ rfl FA.out.1 Tryz.underlying35 rfl (by kernel_rfl)) rfl FA.out.2

end Go.Proofs.YtlallklfilmcnaaGreat

-- DoTickW
namespace Go.Proofs.YtlallklfilmcnaaGreat
open Go.RowKit
set_option maxRecDepth 100000

set_option maxHeartbeats 16000000 in
theorem walkDoTick (A1 : Option Addr) (n1 c1 : Nat) (A2 : Option Addr) (n2 c2 : Nat) (A3 : Option Addr) (n3 c3 : Nat) (K : Ker) (kk to : Int) (w : World) (h : KRead w 0 w.heap.size A1 n1 A2 n2 A3 n3 K)
    (b1 : n1 ≤ 9223372036854775807) (b2 : n2 ≤ 9223372036854775807) (b3 : n3 ≤ 9223372036854775807) :
    Calls Tryz.prog 6 #[.agg #[.slice A1 n1 c1, .slice A2 n2 c2, .slice A3 n3 c3, .int .i64 K.tick, .int .i64 K.run], .agg #[.int .i64 kk, .int .i64 to]] w fun e w' => e = .returned (.bool true) ∧ Below w.heap.size w w' := by
  obtain ⟨w1, hW1⟩ : ∃ w1, w1 = (w.alloc (.cells #[.slice A1 n1 c1, .slice A2 n2 c2, .slice A3 n3 c3, .int .i64 K.tick, .int .i64 K.run] 72)).alloc (.cells #[.int .i64 kk, .int .i64 to] 73) := ⟨_, rfl⟩
  have k1 : w1.heap[w.heap.size]? = some (.cells #[.slice A1 n1 c1, .slice A2 n2 c2, .slice A3 n3 c3, .int .i64 K.tick, .int .i64 K.run] 72 (0, 0)) := by rw [hW1]; exact heap_alloc2_old w _ _
  have k2 : w1.heap[w.heap.size + 1]? = some (.cells #[.int .i64 kk, .int .i64 to] 73 (0, 0)) := by rw [hW1]; exact heap_alloc2_new w _ _
  have B1 : Hid (Below w.heap.size w w1) := by rw [hW1]; exact (below_new w _).alloc (by simp) _
  have sz : w1.heap.size = w.heap.size + 2 := by rw [hW1]; simp
  have RK := Lib.hid ((h.below B1.out (Nat.le_refl _)).wide (Nat.le_refl 0) (show w.heap.size ≤ w1.heap.size by omega))
  have HLK := Lib.hid h.1
  have QS : Hid (∀ W, Below w1.heap.size w1 W → (W.cell? ⟨w.heap.size, 0, none⟩ = some (.slice A1 n1 c1) ∧ W.cell? ⟨w.heap.size, 1, none⟩ = some (.slice A2 n2 c2) ∧ W.cell? ⟨w.heap.size, 2, none⟩ = some (.slice A3 n3 c3) ∧ W.cell? ⟨w.heap.size, 3, none⟩ = some (.int .i64 K.tick) ∧ W.cell? ⟨w.heap.size, 4, none⟩ = some (.int .i64 K.run)) ∧ (W.cell? ⟨w.heap.size + 1, 0, none⟩ = some (.int .i64 kk) ∧ W.cell? ⟨w.heap.size + 1, 1, none⟩ = some (.int .i64 to))) := fun W hB => by
    have j1 := (hB.block w.heap.size (by omega)).trans k1
    have j2 := (hB.block (w.heap.size + 1) (by omega)).trans k2
    exact ⟨⟨cell_of_row W _ 0 _ _ _ j1, cell_of_row W _ 1 _ _ _ j1, cell_of_row W _ 2 _ _ _ j1, cell_of_row W _ 3 _ _ _ j1, cell_of_row W _ 4 _ _ _ j1⟩, ⟨cell_of_row W _ 0 _ _ _ j2, cell_of_row W _ 1 _ _ _ j2⟩⟩
  have R0 : Hid (Below w1.heap.size w1 w1) := Below.refl _ _
  have FIN : Hid (∀ W, Below w1.heap.size w1 W → Below w.heap.size w W) := fun W hW => B1.out.trans (hW.mono (by omega))
  have Z1 := Lib.hid (szKernel_any A1 n1 c1 A2 n2 c2 A3 n3 c3 K.tick K.run 1048576 w1 (by omega) (by omega) b1 b2 b3)
  obtain ⟨_, y2⟩ := szk_le0 1048576 n1 n2 n3 (by omega)
  have Y2 := Lib.hid y2
  clear h k1 k2 b1 b2 b3 y2
  obtain ⟨⟨q0, q1, q2, q3, q4⟩, p0, p1⟩ := QS.out w1 R0.out
  go_enter Tryz.func6, Tryz.ntmps6
  go_upto_region 1 with (fail)
  rw [← hW1]
  clear hW1 sz
  go_wp2_with fail
  refine Z1.out.mono ?_
  rintro e9 w2 ⟨rfl, hb⟩
  have R2 := Lib.hid hb
  obtain ⟨⟨q0, q1, q2, q3, q4⟩, p0, p1⟩ := QS.out w2 hb
  clear hb Z1
  by_cases hs : szk 1048576 n1 n2 n3 < 0
  · go_wp2
    go_ret
    exact ⟨rfl, FIN.out _ R2.out⟩
  have SM := Lib.hid (show n1 + n2 + n3 ≤ 1048576 by have := Y2.out (by omega); omega)
  clear Y2
  go_upto_region 5 with (fail)
  have TKM : Hid (∀ W, Below w2.heap.size w2 W → Calls Tryz.prog 37 #[.agg #[.slice A1 n1 c1, .slice A2 n2 c2, .slice A3 n3 c3, .int .i64 K.tick, .int .i64 K.run]] W fun e w' => ∃ u1 u2 u3, e = .returned (.agg #[.slice (some ⟨u1, 0, none⟩) n1 n1, .slice (some ⟨u2, 0, none⟩) n2 n2, .slice (some ⟨u3, 0, none⟩) n3 n3, .int .i64 K.tick, .int .i64 K.run]) ∧ (W.heap.size < u1 ∧ u1 < u2 ∧ u2 < u3 ∧ u3 < w'.heap.size) ∧ (Mine w' u1 (u1 + 1) 2 (some ⟨u1, 0, none⟩) n1 (fun k => .int .i64 (gi K.os k)) ∧ Mine w' u2 (u2 + 1) 4 (some ⟨u2, 0, none⟩) n2 (fun k => .bool (gb K.al k)) ∧ Mine w' u3 (u3 + 1) 52 (some ⟨u3, 0, none⟩) (n3 * 4) (fun k => .int .i64 (gi K.ac k))) ∧ Below W.heap.size W w') := fun W hW =>
    (toKernel_any 0 w1.heap.size A1 n1 c1 A2 n2 c2 A3 n3 c3 K.tick K.run K W (by have := SM.out; omega) (by have := SM.out; omega) (by have := SM.out; omega) (RK.out.below (R2.out.trans (hW.mono R2.out.size)) (Nat.le_refl _))).mono fun e w' ⟨u1, u2, u3, he, hz, m1, m2, m3, hb⟩ => ⟨u1, u2, u3, he, hz, ⟨.inr ⟨u1, 0, rfl, Nat.le_refl _, Nat.lt_succ_self _, m1⟩, .inr ⟨u2, 0, rfl, Nat.le_refl _, Nat.lt_succ_self _, m2⟩, .inr ⟨u3, 0, rfl, Nat.le_refl _, Nat.lt_succ_self _, m3⟩⟩, hb⟩
  have TK : Hid (∀ W, Below w2.heap.size w2 W → Calls Tryz.prog 37 #[.agg #[.slice A1 n1 c1, .slice A2 n2 c2, .slice A3 n3 c3, .int .i64 K.tick, .int .i64 K.run]] W fun e w' => ∃ u1 u2 u3, e = .returned (.agg #[.slice (some ⟨u1, 0, none⟩) n1 n1, .slice (some ⟨u2, 0, none⟩) n2 n2, .slice (some ⟨u3, 0, none⟩) n3 n3, .int .i64 K.tick, .int .i64 K.run]) ∧ KRead w' 0 w'.heap.size (some ⟨u1, 0, none⟩) n1 (some ⟨u2, 0, none⟩) n2 (some ⟨u3, 0, none⟩) n3 K ∧ Below w2.heap.size w2 w' ∧ Below W.heap.size W w') := fun W hW =>
    (TKM.out W hW).mono fun e w' ⟨u1, u2, u3, he, ⟨z1, z2, z3, z4⟩, ⟨m1, m2, m3⟩, hb⟩ => ⟨u1, u2, u3, he, ⟨HLK.out, m1.sl.wide (by omega) (by omega), m2.sl.wide (by omega) (by omega), m3.sl.wide (by omega) (by omega)⟩, hW.trans (hb.mono hW.size), hb⟩
  have KS : Hid (∀ W, Below w2.heap.size w2 W → ((W.cell? ⟨w.heap.size, 0, none⟩ = some (.slice A1 n1 c1) ∧ W.cell? ⟨w.heap.size, 1, none⟩ = some (.slice A2 n2 c2) ∧ W.cell? ⟨w.heap.size, 2, none⟩ = some (.slice A3 n3 c3) ∧ W.cell? ⟨w.heap.size, 3, none⟩ = some (.int .i64 K.tick) ∧ W.cell? ⟨w.heap.size, 4, none⟩ = some (.int .i64 K.run)) ∧ (W.cell? ⟨w.heap.size + 1, 0, none⟩ = some (.int .i64 kk) ∧ W.cell? ⟨w.heap.size + 1, 1, none⟩ = some (.int .i64 to)))) := fun W hW => QS.out W (R2.out.trans (hW.mono R2.out.size))
  obtain ⟨dn, hdn⟩ : ∃ dn : List Int, dn = (dotick K kk to).2.2 := ⟨_, rfl⟩
  have SPD : Hid (∀ W u1 u2 u3 g, KRead W 0 g (some ⟨u1, 0, none⟩) n1 (some ⟨u2, 0, none⟩) n2 (some ⟨u3, 0, none⟩) n3 K → Calls Tryz.prog 28 #[.agg #[.slice (some ⟨u1, 0, none⟩) n1 n1, .slice (some ⟨u2, 0, none⟩) n2 n2, .slice (some ⟨u3, 0, none⟩) n3 n3, .int .i64 K.tick, .int .i64 K.run], .agg #[.int .i64 kk, .int .i64 to]] W (KAns (dotick K kk to).1 (dotick K kk to).2.1 dn W)) := fun W u1 u2 u3 g hk => hdn ▸
    specDoTick_any 0 g _ n1 n1 _ n2 n2 _ n3 n3 K.tick K.run K kk to W (by have := SM.out; omega) (by have := SM.out; omega) hk (fun h => by cases h) rfl rfl
  have IPD : Hid (∀ W u1 u2 u3 g, KRead W 0 g (some ⟨u1, 0, none⟩) n1 (some ⟨u2, 0, none⟩) n2 (some ⟨u3, 0, none⟩) n3 K → Calls Tryz.prog 27 #[.agg #[.slice (some ⟨u1, 0, none⟩) n1 n1, .slice (some ⟨u2, 0, none⟩) n2 n2, .slice (some ⟨u3, 0, none⟩) n3 n3, .int .i64 K.tick, .int .i64 K.run], .agg #[.int .i64 kk, .int .i64 to]] W (KAns (dotick K kk to).1 (dotick K kk to).2.1 dn W)) := fun W u1 u2 u3 g hk => hdn ▸
    implDoTick_any 0 g _ n1 n1 _ n2 n2 _ n3 n3 K kk to W (by have := SM.out; omega) hk
  have SD := Lib.hid (show (dotick K kk to).2.1.os.length ≤ 12 ∧ (dotick K kk to).2.1.al.length ≤ 4 ∧ (dotick K kk to).2.1.ac.length ≤ 16 ∧ dn.length ≤ 3000000 by rw [hdn]; exact dotick_small K kk to)
  clear hdn
  generalize (dotick K kk to).1 = dq at *
  generalize (dotick K kk to).2.1 = dK at *
  go_cut [6] from 13 (fun x wx => ∃ gb, x = .pointer (some ⟨gb, 0, none⟩) ∧ AnsAt w2 gb dq dK dn wx)
  case first => as_aux_lemma =>
    refine wp_region_held_drew (S := fun W => ((W.cell? ⟨w.heap.size, 0, none⟩ = some (.slice A1 n1 c1) ∧ W.cell? ⟨w.heap.size, 1, none⟩ = some (.slice A2 n2 c2) ∧ W.cell? ⟨w.heap.size, 2, none⟩ = some (.slice A3 n3 c3) ∧ W.cell? ⟨w.heap.size, 3, none⟩ = some (.int .i64 K.tick) ∧ W.cell? ⟨w.heap.size, 4, none⟩ = some (.int .i64 K.run)) ∧ (W.cell? ⟨w.heap.size + 1, 0, none⟩ = some (.int .i64 kk) ∧ W.cell? ⟨w.heap.size + 1, 1, none⟩ = some (.int .i64 to)))) (by kernel_rfl) (KS.out _ (Below.drew (Below.refl _ _))) (fun hHeld => ?_)
    obtain ⟨v0, hv0⟩ : ∃ v0, v0 = w2.drew := ⟨_, rfl⟩
    have BL0 : Hid (Below w2.heap.size w2 v0) := by rw [hv0]; exact Below.drew (Below.refl _ _)
    rw [← hv0] at hHeld ⊢
    clear hv0
    refine wpAnyH_take (i := 0) (oi := _) (v := ?_) rfl (by kernel_rfl) (by kernel_rfl) (by kernel_rfl) (fun _ _ _ h => h) (Or.inl ⟨by rfl, ?_⟩) hHeld ?_
    rotate_left
    · (intro w hSw; (try dsimp only at hSw); go_simp; try with_reducible rfl)
    try simp only [Act.put, List.setIfInBounds_toArray, List.set_cons_zero, List.set_cons_succ]
    refine wpAnyH_take (i := 2) (oi := _) (v := ?_) rfl (by kernel_rfl) (by kernel_rfl) (by kernel_rfl) (fun _ _ _ h => h) (Or.inl ⟨by rfl, ?_⟩) hHeld ?_
    rotate_left
    · (intro w hSw; (try dsimp only at hSw); go_simp; try with_reducible rfl)
    try simp only [Act.put, List.setIfInBounds_toArray, List.set_cons_zero, List.set_cons_succ]
    refine wpAnyH_ready (rs := [1, 5]) (by kernel_rfl) (by simp) ?_
    refine AllReadyH.cons (o := _) rfl (fun K0 hK0 => ?_) (AllReadyH.cons (o := _) rfl (fun K0 hK0 => ?_) (AllReadyH.nil))
    · go_simp
      refine (TK.out _ BL0.out).mono ?_
      rintro e9 v1 ⟨u1, u2, u3, rfl, hku, hb1, hb2⟩
      go_wp2_with fail
      have KR1 := Lib.hid hku
      obtain ⟨hk, hhk⟩ : ∃ hk, hk = v1.heap.size := ⟨_, rfl⟩
      rw [← hhk] at KR1
      have HK1 := Lib.hid (show hk ≤ v1.heap.size by omega)
      clear hku hb1 hhk
      have BL1 := Lib.hid (BL0.out.trans (hb2.mono BL0.out.size))
      clear hb2
      refine hK0.out _ _ (KS.out _ BL1.out) (fun hHeld => ?_)
      clear hK0 K0
      try simp only [Act.put, List.setIfInBounds_toArray, List.set_cons_zero, List.set_cons_succ]
      refine wpAnyH_ready (rs := [3, 5]) (by kernel_rfl) (by simp) ?_
      refine AllReadyH.cons (o := _) rfl (fun K0 hK0 => ?_) (AllReadyH.cons (o := _) rfl (fun K0 hK0 => ?_) (AllReadyH.nil))
      · go_simp
        refine (toAct_any kk to _).mono ?_
        rintro e9 v2 ⟨rfl, hb2⟩
        go_wp2_with fail
        have BL2 := Lib.hid (BL1.out.trans (hb2.mono BL1.out.size))
        have KR2 := Lib.hid (KR1.out.below hb2 HK1.out)
        have HK2 := Lib.hid (Nat.le_trans HK1.out hb2.size)
        clear hb2
        refine hK0.out _ _ (KS.out _ BL2.out) (fun hHeld => ?_)
        clear hK0 K0
        try simp only [Act.put, List.setIfInBounds_toArray, List.set_cons_zero, List.set_cons_succ]
        refine wpAnyH_ready (rs := [4, 5]) (by kernel_rfl) (by simp) ?_
        refine AllReadyH.cons (o := _) rfl (fun K0 hK0 => ?_) (AllReadyH.cons (o := _) rfl (fun K0 hK0 => ?_) (AllReadyH.nil))
        · go_simp
          refine (SPD.out v2 u1 u2 u3 _ KR2.out).mono ?_
          rintro e9 v3 ⟨p, rfl, ho, hb2⟩
          unfold Rp.val
          go_wp2_with fail
          have OW3 := Lib.hid ho
          have ZS := Lib.hid (show w2.heap.size ≤ v2.heap.size ∧ v2.heap.size ≤ v3.heap.size from ⟨BL2.out.size, hb2.size⟩)
          have ZE3 := Lib.hid (show v3.heap.size ≤ v3.heap.size from Nat.le_refl _)
          clear ho
          have BL3 := Lib.hid (BL2.out.trans (hb2.mono BL2.out.size))
          have KR3 := Lib.hid (KR2.out.below hb2 HK2.out)
          have HK3 := Lib.hid (Nat.le_trans HK2.out hb2.size)
          clear hb2
          refine hK0.out _ _ (KS.out _ BL3.out) (fun hHeld => ?_)
          clear hK0 K0
          try simp only [Act.put, List.setIfInBounds_toArray, List.set_cons_zero, List.set_cons_succ]
          refine wpAnyH_ready (rs := [5]) (by kernel_rfl) (by simp) ?_
          refine AllReadyH.cons (o := _) rfl (fun K0 hK0 => ?_) (AllReadyH.nil)
          · go_simp
            obtain ⟨v4, hv⟩ : ∃ v4, v4 = v3.alloc (.cells #[.int .i64 0, .slice none 0 0, .slice none 0 0, .slice none 0 0, .int .i64 0, .int .i64 0, .slice none 0 0] 35) := ⟨_, rfl⟩
            obtain ⟨gb, hgb⟩ : ∃ gb, gb = v3.heap.size := ⟨_, rfl⟩
            rw [← hv, ← hgb]
            have XB4 : Hid (v4.heap[gb]? = some (.cells #[.int .i64 0, .slice none 0 0, .slice none 0 0, .slice none 0 0, .int .i64 0, .int .i64 0, .slice none 0 0] 35 (0, 0))) := by rw [hv, hgb]; exact heap_alloc_new v3 _
            have hb2 : Below v3.heap.size v3 v4 := by rw [hv]; exact below_new v3 _
            have GB := Lib.hid (show w2.heap.size ≤ gb ∧ v3.heap.size ≤ gb ∧ gb < v4.heap.size by have := BL3.out.size; rw [hv, hgb]; simp; omega)
            clear hv hgb
            have GS := Lib.hid (show v3.heap.size ≤ gb by have := ZE3.out; have := GB.out; omega)
            have BL4 := Lib.hid (BL3.out.trans (hb2.mono BL3.out.size))
            have KR4 := Lib.hid (KR3.out.below hb2 HK3.out)
            have HK4 := Lib.hid (Nat.le_trans HK3.out hb2.size)
            have OW4 := Lib.hid (OW3.out.kep (Kept.of_below hb2 []) (by simp) (by simp) (by simp) (by simp))
            have ZE4 := Lib.hid (Nat.le_trans ZE3.out hb2.size)
            clear hb2
            refine hK0.out _ _ (KS.out _ BL4.out) (fun hHeld => ?_)
            clear hK0 K0
            try simp only [Act.put, List.setIfInBounds_toArray, List.set_cons_zero, List.set_cons_succ]
            refine wpAnyH_ready (rs := [6]) (by kernel_rfl) (by simp) ?_
            refine AllReadyH.cons (o := _) rfl (fun K0 hK0 => ?_) AllReadyH.nil
            have FA := Lib.hid (ansAt_of (w := w2) (q := dq) XB4.out OW4.out (.inr GS.out) (by have := ZS.out; omega) (by have := ZE4.out; omega) (by have := GB.out; omega) BL4.out)
            have KF := Lib.hid (KS.out _ (by obtain ⟨_, _, _, _, _, h⟩ := FA.out; exact h))
            clear hHeld
            rw [if_pos (by rfl)]
            refine wp_store_row 35 _ _ rfl gb _ rfl rfl 35 _ XB4.out (by kernel_rfl) rfl (by simp [Value.oneCell']) ?_
            refine hK0.out _ _ KF.out (fun hHeld => ?_)
            clear hK0 K0
            refine wpAnyH_done (by kernel_rfl) ?_ _
            go_wp2_with fail
            go_meet
            with_reducible exact ⟨_, rfl, FA.out⟩
        · go_simp
          obtain ⟨v5, hv⟩ : ∃ v5, v5 = v2.alloc (.cells #[.int .i64 0, .slice none 0 0, .slice none 0 0, .slice none 0 0, .int .i64 0, .int .i64 0, .slice none 0 0] 35) := ⟨_, rfl⟩
          obtain ⟨gb, hgb⟩ : ∃ gb, gb = v2.heap.size := ⟨_, rfl⟩
          rw [← hv, ← hgb]
          have XB5 : Hid (v5.heap[gb]? = some (.cells #[.int .i64 0, .slice none 0 0, .slice none 0 0, .slice none 0 0, .int .i64 0, .int .i64 0, .slice none 0 0] 35 (0, 0))) := by rw [hv, hgb]; exact heap_alloc_new v2 _
          have hb2 : Below v2.heap.size v2 v5 := by rw [hv]; exact below_new v2 _
          have GB := Lib.hid (show w2.heap.size ≤ gb ∧ v2.heap.size ≤ gb ∧ gb < v5.heap.size by have := BL2.out.size; rw [hv, hgb]; simp; omega)
          clear hv hgb
          have BL5 := Lib.hid (BL2.out.trans (hb2.mono BL2.out.size))
          have KR5 := Lib.hid (KR2.out.below hb2 HK2.out)
          have HK5 := Lib.hid (Nat.le_trans HK2.out hb2.size)
          clear hb2
          refine hK0.out _ _ (KS.out _ BL5.out) (fun hHeld => ?_)
          clear hK0 K0
          try simp only [Act.put, List.setIfInBounds_toArray, List.set_cons_zero, List.set_cons_succ]
          refine wpAnyH_ready (rs := [4]) (by kernel_rfl) (by simp) ?_
          refine AllReadyH.cons (o := _) rfl (fun K0 hK0 => ?_) (AllReadyH.nil)
          · go_simp
            have GS := Lib.hid (show gb < v5.heap.size from (Array.getElem?_eq_some_iff.1 XB5.out).1)
            refine (SPD.out v5 u1 u2 u3 _ KR5.out).mono ?_
            rintro e9 v6 ⟨p, rfl, ho, hb2⟩
            unfold Rp.val
            go_wp2_with fail
            have OW6 := Lib.hid ho
            have ZS := Lib.hid (show w2.heap.size ≤ v5.heap.size ∧ v5.heap.size ≤ v6.heap.size from ⟨BL5.out.size, hb2.size⟩)
            have ZE6 := Lib.hid (show v6.heap.size ≤ v6.heap.size from Nat.le_refl _)
            clear ho
            have BL6 := Lib.hid (BL5.out.trans (hb2.mono BL5.out.size))
            have XB6 := Lib.hid ((hb2.block gb (Array.getElem?_eq_some_iff.1 XB5.out).1).trans XB5.out)
            have KR6 := Lib.hid (KR5.out.below hb2 HK5.out)
            have HK6 := Lib.hid (Nat.le_trans HK5.out hb2.size)
            clear hb2
            refine hK0.out _ _ (KS.out _ BL6.out) (fun hHeld => ?_)
            clear hK0 K0
            try simp only [Act.put, List.setIfInBounds_toArray, List.set_cons_zero, List.set_cons_succ]
            refine wpAnyH_ready (rs := [6]) (by kernel_rfl) (by simp) ?_
            refine AllReadyH.cons (o := _) rfl (fun K0 hK0 => ?_) AllReadyH.nil
            have FA := Lib.hid (ansAt_of (w := w2) (q := dq) XB6.out OW6.out (.inl GS.out) (by have := ZS.out; omega) (by have := ZE6.out; omega) (by have := GB.out; omega) BL6.out)
            have KF := Lib.hid (KS.out _ (by obtain ⟨_, _, _, _, _, h⟩ := FA.out; exact h))
            clear hHeld
            rw [if_pos (by rfl)]
            refine wp_store_row 35 _ _ rfl gb _ rfl rfl 35 _ XB6.out (by kernel_rfl) rfl (by simp [Value.oneCell']) ?_
            refine hK0.out _ _ KF.out (fun hHeld => ?_)
            clear hK0 K0
            refine wpAnyH_done (by kernel_rfl) ?_ _
            go_wp2_with fail
            go_meet
            with_reducible exact ⟨_, rfl, FA.out⟩
      · go_simp
        obtain ⟨v7, hv⟩ : ∃ v7, v7 = v1.alloc (.cells #[.int .i64 0, .slice none 0 0, .slice none 0 0, .slice none 0 0, .int .i64 0, .int .i64 0, .slice none 0 0] 35) := ⟨_, rfl⟩
        obtain ⟨gb, hgb⟩ : ∃ gb, gb = v1.heap.size := ⟨_, rfl⟩
        rw [← hv, ← hgb]
        have XB7 : Hid (v7.heap[gb]? = some (.cells #[.int .i64 0, .slice none 0 0, .slice none 0 0, .slice none 0 0, .int .i64 0, .int .i64 0, .slice none 0 0] 35 (0, 0))) := by rw [hv, hgb]; exact heap_alloc_new v1 _
        have hb2 : Below v1.heap.size v1 v7 := by rw [hv]; exact below_new v1 _
        have GB := Lib.hid (show w2.heap.size ≤ gb ∧ v1.heap.size ≤ gb ∧ gb < v7.heap.size by have := BL1.out.size; rw [hv, hgb]; simp; omega)
        clear hv hgb
        have BL7 := Lib.hid (BL1.out.trans (hb2.mono BL1.out.size))
        have KR7 := Lib.hid (KR1.out.below hb2 HK1.out)
        have HK7 := Lib.hid (Nat.le_trans HK1.out hb2.size)
        clear hb2
        refine hK0.out _ _ (KS.out _ BL7.out) (fun hHeld => ?_)
        clear hK0 K0
        try simp only [Act.put, List.setIfInBounds_toArray, List.set_cons_zero, List.set_cons_succ]
        refine wpAnyH_ready (rs := [3]) (by kernel_rfl) (by simp) ?_
        refine AllReadyH.cons (o := _) rfl (fun K0 hK0 => ?_) (AllReadyH.nil)
        · go_simp
          refine (toAct_any kk to _).mono ?_
          rintro e9 v8 ⟨rfl, hb2⟩
          go_wp2_with fail
          have BL8 := Lib.hid (BL7.out.trans (hb2.mono BL7.out.size))
          have XB8 := Lib.hid ((hb2.block gb (Array.getElem?_eq_some_iff.1 XB7.out).1).trans XB7.out)
          have KR8 := Lib.hid (KR7.out.below hb2 HK7.out)
          have HK8 := Lib.hid (Nat.le_trans HK7.out hb2.size)
          clear hb2
          refine hK0.out _ _ (KS.out _ BL8.out) (fun hHeld => ?_)
          clear hK0 K0
          try simp only [Act.put, List.setIfInBounds_toArray, List.set_cons_zero, List.set_cons_succ]
          refine wpAnyH_ready (rs := [4]) (by kernel_rfl) (by simp) ?_
          refine AllReadyH.cons (o := _) rfl (fun K0 hK0 => ?_) (AllReadyH.nil)
          · go_simp
            have GS := Lib.hid (show gb < v8.heap.size from (Array.getElem?_eq_some_iff.1 XB8.out).1)
            refine (SPD.out v8 u1 u2 u3 _ KR8.out).mono ?_
            rintro e9 v9 ⟨p, rfl, ho, hb2⟩
            unfold Rp.val
            go_wp2_with fail
            have OW9 := Lib.hid ho
            have ZS := Lib.hid (show w2.heap.size ≤ v8.heap.size ∧ v8.heap.size ≤ v9.heap.size from ⟨BL8.out.size, hb2.size⟩)
            have ZE9 := Lib.hid (show v9.heap.size ≤ v9.heap.size from Nat.le_refl _)
            clear ho
            have BL9 := Lib.hid (BL8.out.trans (hb2.mono BL8.out.size))
            have XB9 := Lib.hid ((hb2.block gb (Array.getElem?_eq_some_iff.1 XB8.out).1).trans XB8.out)
            have KR9 := Lib.hid (KR8.out.below hb2 HK8.out)
            have HK9 := Lib.hid (Nat.le_trans HK8.out hb2.size)
            clear hb2
            refine hK0.out _ _ (KS.out _ BL9.out) (fun hHeld => ?_)
            clear hK0 K0
            try simp only [Act.put, List.setIfInBounds_toArray, List.set_cons_zero, List.set_cons_succ]
            refine wpAnyH_ready (rs := [6]) (by kernel_rfl) (by simp) ?_
            refine AllReadyH.cons (o := _) rfl (fun K0 hK0 => ?_) AllReadyH.nil
            have FA := Lib.hid (ansAt_of (w := w2) (q := dq) XB9.out OW9.out (.inl GS.out) (by have := ZS.out; omega) (by have := ZE9.out; omega) (by have := GB.out; omega) BL9.out)
            have KF := Lib.hid (KS.out _ (by obtain ⟨_, _, _, _, _, h⟩ := FA.out; exact h))
            clear hHeld
            rw [if_pos (by rfl)]
            refine wp_store_row 35 _ _ rfl gb _ rfl rfl 35 _ XB9.out (by kernel_rfl) rfl (by simp [Value.oneCell']) ?_
            refine hK0.out _ _ KF.out (fun hHeld => ?_)
            clear hK0 K0
            refine wpAnyH_done (by kernel_rfl) ?_ _
            go_wp2_with fail
            go_meet
            with_reducible exact ⟨_, rfl, FA.out⟩
    · go_simp
      obtain ⟨v10, hv⟩ : ∃ v10, v10 = v0.alloc (.cells #[.int .i64 0, .slice none 0 0, .slice none 0 0, .slice none 0 0, .int .i64 0, .int .i64 0, .slice none 0 0] 35) := ⟨_, rfl⟩
      obtain ⟨gb, hgb⟩ : ∃ gb, gb = v0.heap.size := ⟨_, rfl⟩
      rw [← hv, ← hgb]
      have XB10 : Hid (v10.heap[gb]? = some (.cells #[.int .i64 0, .slice none 0 0, .slice none 0 0, .slice none 0 0, .int .i64 0, .int .i64 0, .slice none 0 0] 35 (0, 0))) := by rw [hv, hgb]; exact heap_alloc_new v0 _
      have hb2 : Below v0.heap.size v0 v10 := by rw [hv]; exact below_new v0 _
      have GB := Lib.hid (show w2.heap.size ≤ gb ∧ v0.heap.size ≤ gb ∧ gb < v10.heap.size by have := BL0.out.size; rw [hv, hgb]; simp; omega)
      clear hv hgb
      have BL10 := Lib.hid (BL0.out.trans (hb2.mono BL0.out.size))
      clear hb2
      refine hK0.out _ _ (KS.out _ BL10.out) (fun hHeld => ?_)
      clear hK0 K0
      try simp only [Act.put, List.setIfInBounds_toArray, List.set_cons_zero, List.set_cons_succ]
      refine wpAnyH_ready (rs := [1]) (by kernel_rfl) (by simp) ?_
      refine AllReadyH.cons (o := _) rfl (fun K0 hK0 => ?_) (AllReadyH.nil)
      · go_simp
        refine (TK.out _ BL10.out).mono ?_
        rintro e9 v11 ⟨u1, u2, u3, rfl, hku, hb1, hb2⟩
        go_wp2_with fail
        have KR11 := Lib.hid hku
        obtain ⟨hk, hhk⟩ : ∃ hk, hk = v11.heap.size := ⟨_, rfl⟩
        rw [← hhk] at KR11
        have HK11 := Lib.hid (show hk ≤ v11.heap.size by omega)
        clear hku hb1 hhk
        have BL11 := Lib.hid (BL10.out.trans (hb2.mono BL10.out.size))
        have XB11 := Lib.hid ((hb2.block gb (Array.getElem?_eq_some_iff.1 XB10.out).1).trans XB10.out)
        clear hb2
        refine hK0.out _ _ (KS.out _ BL11.out) (fun hHeld => ?_)
        clear hK0 K0
        try simp only [Act.put, List.setIfInBounds_toArray, List.set_cons_zero, List.set_cons_succ]
        refine wpAnyH_ready (rs := [3]) (by kernel_rfl) (by simp) ?_
        refine AllReadyH.cons (o := _) rfl (fun K0 hK0 => ?_) (AllReadyH.nil)
        · go_simp
          refine (toAct_any kk to _).mono ?_
          rintro e9 v12 ⟨rfl, hb2⟩
          go_wp2_with fail
          have BL12 := Lib.hid (BL11.out.trans (hb2.mono BL11.out.size))
          have XB12 := Lib.hid ((hb2.block gb (Array.getElem?_eq_some_iff.1 XB11.out).1).trans XB11.out)
          have KR12 := Lib.hid (KR11.out.below hb2 HK11.out)
          have HK12 := Lib.hid (Nat.le_trans HK11.out hb2.size)
          clear hb2
          refine hK0.out _ _ (KS.out _ BL12.out) (fun hHeld => ?_)
          clear hK0 K0
          try simp only [Act.put, List.setIfInBounds_toArray, List.set_cons_zero, List.set_cons_succ]
          refine wpAnyH_ready (rs := [4]) (by kernel_rfl) (by simp) ?_
          refine AllReadyH.cons (o := _) rfl (fun K0 hK0 => ?_) (AllReadyH.nil)
          · go_simp
            have GS := Lib.hid (show gb < v12.heap.size from (Array.getElem?_eq_some_iff.1 XB12.out).1)
            refine (SPD.out v12 u1 u2 u3 _ KR12.out).mono ?_
            rintro e9 v13 ⟨p, rfl, ho, hb2⟩
            unfold Rp.val
            go_wp2_with fail
            have OW13 := Lib.hid ho
            have ZS := Lib.hid (show w2.heap.size ≤ v12.heap.size ∧ v12.heap.size ≤ v13.heap.size from ⟨BL12.out.size, hb2.size⟩)
            have ZE13 := Lib.hid (show v13.heap.size ≤ v13.heap.size from Nat.le_refl _)
            clear ho
            have BL13 := Lib.hid (BL12.out.trans (hb2.mono BL12.out.size))
            have XB13 := Lib.hid ((hb2.block gb (Array.getElem?_eq_some_iff.1 XB12.out).1).trans XB12.out)
            have KR13 := Lib.hid (KR12.out.below hb2 HK12.out)
            have HK13 := Lib.hid (Nat.le_trans HK12.out hb2.size)
            clear hb2
            refine hK0.out _ _ (KS.out _ BL13.out) (fun hHeld => ?_)
            clear hK0 K0
            try simp only [Act.put, List.setIfInBounds_toArray, List.set_cons_zero, List.set_cons_succ]
            refine wpAnyH_ready (rs := [6]) (by kernel_rfl) (by simp) ?_
            refine AllReadyH.cons (o := _) rfl (fun K0 hK0 => ?_) AllReadyH.nil
            have FA := Lib.hid (ansAt_of (w := w2) (q := dq) XB13.out OW13.out (.inl GS.out) (by have := ZS.out; omega) (by have := ZE13.out; omega) (by have := GB.out; omega) BL13.out)
            have KF := Lib.hid (KS.out _ (by obtain ⟨_, _, _, _, _, h⟩ := FA.out; exact h))
            clear hHeld
            rw [if_pos (by rfl)]
            refine wp_store_row 35 _ _ rfl gb _ rfl rfl 35 _ XB13.out (by kernel_rfl) rfl (by simp [Value.oneCell']) ?_
            refine hK0.out _ _ KF.out (fun hHeld => ?_)
            clear hK0 K0
            refine wpAnyH_done (by kernel_rfl) ?_ _
            go_wp2_with fail
            go_meet
            with_reducible exact ⟨_, rfl, FA.out⟩
  case rest =>
    obtain ⟨b6, rfl, hA6⟩ := hcut
    have R4 := Lib.hid hA6.fst
    obtain ⟨⟨A1a, n1a, c1a, A2a, n2a, c2a, A3a, n3a, c3a, A4a, n4a, c4a, g1a, g2a, g3a, g4a⟩, xa, oa, da, za, _⟩ := hA6
    dsimp only at xa da
    obtain ⟨h5, hh5⟩ : ∃ h5, h5 = wc.heap.size := ⟨_, rfl⟩
    have XA := Lib.hid xa; have OA := Lib.hid oa
    have ZA := Lib.hid (show (w2.heap.size ≤ b6 ∧ b6 < h5) ∧ (w2.heap.size ≤ g1a ∧ g1a < h5) ∧ (w2.heap.size ≤ g2a ∧ g2a < h5) ∧ (w2.heap.size ≤ g3a ∧ g3a < h5) ∧ (w2.heap.size ≤ g4a ∧ g4a < h5) by rw [hh5]; exact ⟨za, oa.b1, oa.b2, oa.b3, oa.b4⟩)
    have HH5 := Lib.hid hh5
    obtain ⟨⟨q0, q1, q2, q3, q4⟩, p0, p1⟩ := KS.out _ R4.out
    clear SPD xa oa da za hh5
    go_wp2_with fail
    refine (TKM.out _ R4.out).mono ?_
    rintro e9 w5 ⟨u1, u2, u3, rfl, hz, ⟨m1, m2, m3⟩, hb⟩
    obtain ⟨w6, hw6⟩ : ∃ w6, w6 = w5.alloc (.cells #[.slice (some ⟨u1, 0, none⟩) n1 n1, .slice (some ⟨u2, 0, none⟩) n2 n2, .slice (some ⟨u3, 0, none⟩) n3 n3, .int .i64 K.tick, .int .i64 K.run] 28) := ⟨_, rfl⟩
    obtain ⟨b7, hb7⟩ : ∃ b7, b7 = w5.heap.size := ⟨_, rfl⟩
    have X6 := Lib.hid (show w6.heap[b7]? = some (.cells #[.slice (some ⟨u1, 0, none⟩) n1 n1, .slice (some ⟨u2, 0, none⟩) n2 n2, .slice (some ⟨u3, 0, none⟩) n3 n3, .int .i64 K.tick, .int .i64 K.run] 28 (0, 0)) by rw [hw6, hb7]; exact heap_alloc_new w5 _)
    have hb56 : Below w5.heap.size w5 w6 := by rw [hw6]; exact below_new w5 _
    have hb26 : Below wc.heap.size wc w6 := hb.trans (hb56.mono hb.size)
    have S6 := Lib.hid (show w6.heap.size = b7 + 1 ∧ (h5 < u1 ∧ u1 < u2 ∧ u2 < u3 ∧ u3 < b7) by rw [hw6, hb7]; exact ⟨by simp, by have := HH5.out; omega⟩)
    have XA6 := Lib.hid ((hb26.block b6 (by have := HH5.out; have := ZA.out; omega)).trans XA.out)
    have OA6 : Hid (ROwn w6 w2.heap.size h5 ⟨A1a, n1a, c1a, A2a, n2a, c2a, A3a, n3a, c3a, A4a, n4a, c4a, g1a, g2a, g3a, g4a⟩ dK dn) := by rw [HH5.out]; exact OA.out.kep (Kept.of_below hb26 []) (by simp) (by simp) (by simp) (by simp)
    have R6 := Lib.hid (R4.out.trans (hb26.mono R4.out.size))
    have M1 := Lib.hid (m1.below hb56 (by have := S6.out; omega)); have M2 := Lib.hid (m2.below hb56 (by have := S6.out; omega)); have M3 := Lib.hid (m3.below hb56 (by have := S6.out; omega))
    have HW6 := Lib.hid hw6; have HB7 := Lib.hid hb7
    clear hb hb56 hb26 hw6 hb7 hz m1 m2 m3 XA OA R4 HH5
    go_upto_region 7 with (fail)
    rw [← HW6.out, ← HB7.out]
    clear HW6 HB7
    have KR7 : Hid (∀ W, Below w6.heap.size w6 W → KRead W 0 b7 (some ⟨u1, 0, none⟩) n1 (some ⟨u2, 0, none⟩) n2 (some ⟨u3, 0, none⟩) n3 K) := fun W hW => by
      have s6 := S6.out
      exact ⟨HLK.out, (M1.out.below hW (by omega)).sl.wide (by omega) (by omega), (M2.out.below hW (by omega)).sl.wide (by omega) (by omega), (M3.out.below hW (by omega)).sl.wide (by omega) (by omega)⟩
    have KS6 := KS
    have KS : Hid (∀ W, Below w6.heap.size w6 W → ((W.cell? ⟨b7, 0, none⟩ = some (.slice (some ⟨u1, 0, none⟩) n1 n1) ∧ W.cell? ⟨b7, 1, none⟩ = some (.slice (some ⟨u2, 0, none⟩) n2 n2) ∧ W.cell? ⟨b7, 2, none⟩ = some (.slice (some ⟨u3, 0, none⟩) n3 n3) ∧ W.cell? ⟨b7, 3, none⟩ = some (.int .i64 K.tick) ∧ W.cell? ⟨b7, 4, none⟩ = some (.int .i64 K.run)) ∧ (W.cell? ⟨w.heap.size + 1, 0, none⟩ = some (.int .i64 kk) ∧ W.cell? ⟨w.heap.size + 1, 1, none⟩ = some (.int .i64 to)))) := fun W hW => by
      have j := (hW.block b7 (by have := S6.out; omega)).trans X6.out
      exact ⟨⟨cell_of_row W _ 0 _ _ _ j, cell_of_row W _ 1 _ _ _ j, cell_of_row W _ 2 _ _ _ j, cell_of_row W _ 3 _ _ _ j, cell_of_row W _ 4 _ _ _ j⟩, (KS6.out W (R6.out.trans (hW.mono R6.out.size))).2⟩
    clear q0 q1 q2 q3 q4 p0 p1
    go_cut [8] from 13 (fun x wx => ∃ gb, x = .pointer (some ⟨gb, 0, none⟩) ∧ AnsAt w6 gb dq dK dn wx)
    case first => as_aux_lemma =>
      refine wp_region_held_drew (S := fun W => ((W.cell? ⟨b7, 0, none⟩ = some (.slice (some ⟨u1, 0, none⟩) n1 n1) ∧ W.cell? ⟨b7, 1, none⟩ = some (.slice (some ⟨u2, 0, none⟩) n2 n2) ∧ W.cell? ⟨b7, 2, none⟩ = some (.slice (some ⟨u3, 0, none⟩) n3 n3) ∧ W.cell? ⟨b7, 3, none⟩ = some (.int .i64 K.tick) ∧ W.cell? ⟨b7, 4, none⟩ = some (.int .i64 K.run)) ∧ (W.cell? ⟨w.heap.size + 1, 0, none⟩ = some (.int .i64 kk) ∧ W.cell? ⟨w.heap.size + 1, 1, none⟩ = some (.int .i64 to)))) (by kernel_rfl) (KS.out _ (Below.drew (Below.refl _ _))) (fun hHeld => ?_)
      obtain ⟨v0, hv0⟩ : ∃ v0, v0 = w6.drew := ⟨_, rfl⟩
      have BL0 : Hid (Below w6.heap.size w6 v0) := by rw [hv0]; exact Below.drew (Below.refl _ _)
      rw [← hv0] at hHeld ⊢
      clear hv0
      refine wpAnyH_take (i := 0) (oi := _) (v := ?_) rfl (by kernel_rfl) (by kernel_rfl) (by kernel_rfl) (fun _ _ _ h => h) (Or.inl ⟨by rfl, ?_⟩) hHeld ?_
      rotate_left
      · (intro w hSw; (try dsimp only at hSw); go_simp; try with_reducible rfl)
      try simp only [Act.put, List.setIfInBounds_toArray, List.set_cons_zero, List.set_cons_succ]
      refine wpAnyH_take (i := 1) (oi := _) (v := ?_) rfl (by kernel_rfl) (by kernel_rfl) (by kernel_rfl) (fun _ _ _ h => h) (Or.inl ⟨by rfl, ?_⟩) hHeld ?_
      rotate_left
      · (intro w hSw; (try dsimp only at hSw); go_simp; try with_reducible rfl)
      try simp only [Act.put, List.setIfInBounds_toArray, List.set_cons_zero, List.set_cons_succ]
      refine wpAnyH_ready (rs := [2, 4]) (by kernel_rfl) (by simp) ?_
      refine AllReadyH.cons (o := _) rfl (fun K0 hK0 => ?_) (AllReadyH.cons (o := _) rfl (fun K0 hK0 => ?_) (AllReadyH.nil))
      · go_simp
        refine (toAct_any kk to _).mono ?_
        rintro e9 v14 ⟨rfl, hb2⟩
        go_wp2_with fail
        have BL14 := Lib.hid (BL0.out.trans (hb2.mono BL0.out.size))
        clear hb2
        refine hK0.out _ _ (KS.out _ BL14.out) (fun hHeld => ?_)
        clear hK0 K0
        try simp only [Act.put, List.setIfInBounds_toArray, List.set_cons_zero, List.set_cons_succ]
        refine wpAnyH_ready (rs := [3, 4]) (by kernel_rfl) (by simp) ?_
        refine AllReadyH.cons (o := _) rfl (fun K0 hK0 => ?_) (AllReadyH.cons (o := _) rfl (fun K0 hK0 => ?_) (AllReadyH.nil))
        · go_simp
          refine (IPD.out v14 u1 u2 u3 _ (KR7.out _ BL14.out)).mono ?_
          rintro e9 v15 ⟨p, rfl, ho, hb2⟩
          unfold Rp.val
          go_wp2_with fail
          have OW15 := Lib.hid ho
          have ZS := Lib.hid (show w6.heap.size ≤ v14.heap.size ∧ v14.heap.size ≤ v15.heap.size from ⟨BL14.out.size, hb2.size⟩)
          have ZE15 := Lib.hid (show v15.heap.size ≤ v15.heap.size from Nat.le_refl _)
          clear ho
          have BL15 := Lib.hid (BL14.out.trans (hb2.mono BL14.out.size))
          clear hb2
          refine hK0.out _ _ (KS.out _ BL15.out) (fun hHeld => ?_)
          clear hK0 K0
          try simp only [Act.put, List.setIfInBounds_toArray, List.set_cons_zero, List.set_cons_succ]
          refine wpAnyH_ready (rs := [4]) (by kernel_rfl) (by simp) ?_
          refine AllReadyH.cons (o := _) rfl (fun K0 hK0 => ?_) (AllReadyH.nil)
          · go_simp
            obtain ⟨v16, hv⟩ : ∃ v16, v16 = v15.alloc (.cells #[.int .i64 0, .slice none 0 0, .slice none 0 0, .slice none 0 0, .int .i64 0, .int .i64 0, .slice none 0 0] 35) := ⟨_, rfl⟩
            obtain ⟨gb, hgb⟩ : ∃ gb, gb = v15.heap.size := ⟨_, rfl⟩
            rw [← hv, ← hgb]
            have XB16 : Hid (v16.heap[gb]? = some (.cells #[.int .i64 0, .slice none 0 0, .slice none 0 0, .slice none 0 0, .int .i64 0, .int .i64 0, .slice none 0 0] 35 (0, 0))) := by rw [hv, hgb]; exact heap_alloc_new v15 _
            have hb2 : Below v15.heap.size v15 v16 := by rw [hv]; exact below_new v15 _
            have GB := Lib.hid (show w6.heap.size ≤ gb ∧ v15.heap.size ≤ gb ∧ gb < v16.heap.size by have := BL15.out.size; rw [hv, hgb]; simp; omega)
            clear hv hgb
            have GS := Lib.hid (show v15.heap.size ≤ gb by have := ZE15.out; have := GB.out; omega)
            have BL16 := Lib.hid (BL15.out.trans (hb2.mono BL15.out.size))
            have OW16 := Lib.hid (OW15.out.kep (Kept.of_below hb2 []) (by simp) (by simp) (by simp) (by simp))
            have ZE16 := Lib.hid (Nat.le_trans ZE15.out hb2.size)
            clear hb2
            refine hK0.out _ _ (KS.out _ BL16.out) (fun hHeld => ?_)
            clear hK0 K0
            try simp only [Act.put, List.setIfInBounds_toArray, List.set_cons_zero, List.set_cons_succ]
            refine wpAnyH_ready (rs := [5]) (by kernel_rfl) (by simp) ?_
            refine AllReadyH.cons (o := _) rfl (fun K0 hK0 => ?_) AllReadyH.nil
            have FA := Lib.hid (ansAt_of (w := w6) (q := dq) XB16.out OW16.out (.inr GS.out) (by have := ZS.out; omega) (by have := ZE16.out; omega) (by have := GB.out; omega) BL16.out)
            have KF := Lib.hid (KS.out _ (by obtain ⟨_, _, _, _, _, h⟩ := FA.out; exact h))
            clear hHeld
            rw [if_pos (by rfl)]
            refine wp_store_row 35 _ _ rfl gb _ rfl rfl 35 _ XB16.out (by kernel_rfl) rfl (by simp [Value.oneCell']) ?_
            refine hK0.out _ _ KF.out (fun hHeld => ?_)
            clear hK0 K0
            refine wpAnyH_done (by kernel_rfl) ?_ _
            go_wp2_with fail
            go_meet
            with_reducible exact ⟨_, rfl, FA.out⟩
        · go_simp
          obtain ⟨v17, hv⟩ : ∃ v17, v17 = v14.alloc (.cells #[.int .i64 0, .slice none 0 0, .slice none 0 0, .slice none 0 0, .int .i64 0, .int .i64 0, .slice none 0 0] 35) := ⟨_, rfl⟩
          obtain ⟨gb, hgb⟩ : ∃ gb, gb = v14.heap.size := ⟨_, rfl⟩
          rw [← hv, ← hgb]
          have XB17 : Hid (v17.heap[gb]? = some (.cells #[.int .i64 0, .slice none 0 0, .slice none 0 0, .slice none 0 0, .int .i64 0, .int .i64 0, .slice none 0 0] 35 (0, 0))) := by rw [hv, hgb]; exact heap_alloc_new v14 _
          have hb2 : Below v14.heap.size v14 v17 := by rw [hv]; exact below_new v14 _
          have GB := Lib.hid (show w6.heap.size ≤ gb ∧ v14.heap.size ≤ gb ∧ gb < v17.heap.size by have := BL14.out.size; rw [hv, hgb]; simp; omega)
          clear hv hgb
          have BL17 := Lib.hid (BL14.out.trans (hb2.mono BL14.out.size))
          clear hb2
          refine hK0.out _ _ (KS.out _ BL17.out) (fun hHeld => ?_)
          clear hK0 K0
          try simp only [Act.put, List.setIfInBounds_toArray, List.set_cons_zero, List.set_cons_succ]
          refine wpAnyH_ready (rs := [3]) (by kernel_rfl) (by simp) ?_
          refine AllReadyH.cons (o := _) rfl (fun K0 hK0 => ?_) (AllReadyH.nil)
          · go_simp
            have GS := Lib.hid (show gb < v17.heap.size from (Array.getElem?_eq_some_iff.1 XB17.out).1)
            refine (IPD.out v17 u1 u2 u3 _ (KR7.out _ BL17.out)).mono ?_
            rintro e9 v18 ⟨p, rfl, ho, hb2⟩
            unfold Rp.val
            go_wp2_with fail
            have OW18 := Lib.hid ho
            have ZS := Lib.hid (show w6.heap.size ≤ v17.heap.size ∧ v17.heap.size ≤ v18.heap.size from ⟨BL17.out.size, hb2.size⟩)
            have ZE18 := Lib.hid (show v18.heap.size ≤ v18.heap.size from Nat.le_refl _)
            clear ho
            have BL18 := Lib.hid (BL17.out.trans (hb2.mono BL17.out.size))
            have XB18 := Lib.hid ((hb2.block gb (Array.getElem?_eq_some_iff.1 XB17.out).1).trans XB17.out)
            clear hb2
            refine hK0.out _ _ (KS.out _ BL18.out) (fun hHeld => ?_)
            clear hK0 K0
            try simp only [Act.put, List.setIfInBounds_toArray, List.set_cons_zero, List.set_cons_succ]
            refine wpAnyH_ready (rs := [5]) (by kernel_rfl) (by simp) ?_
            refine AllReadyH.cons (o := _) rfl (fun K0 hK0 => ?_) AllReadyH.nil
            have FA := Lib.hid (ansAt_of (w := w6) (q := dq) XB18.out OW18.out (.inl GS.out) (by have := ZS.out; omega) (by have := ZE18.out; omega) (by have := GB.out; omega) BL18.out)
            have KF := Lib.hid (KS.out _ (by obtain ⟨_, _, _, _, _, h⟩ := FA.out; exact h))
            clear hHeld
            rw [if_pos (by rfl)]
            refine wp_store_row 35 _ _ rfl gb _ rfl rfl 35 _ XB18.out (by kernel_rfl) rfl (by simp [Value.oneCell']) ?_
            refine hK0.out _ _ KF.out (fun hHeld => ?_)
            clear hK0 K0
            refine wpAnyH_done (by kernel_rfl) ?_ _
            go_wp2_with fail
            go_meet
            with_reducible exact ⟨_, rfl, FA.out⟩
      · go_simp
        obtain ⟨v19, hv⟩ : ∃ v19, v19 = v0.alloc (.cells #[.int .i64 0, .slice none 0 0, .slice none 0 0, .slice none 0 0, .int .i64 0, .int .i64 0, .slice none 0 0] 35) := ⟨_, rfl⟩
        obtain ⟨gb, hgb⟩ : ∃ gb, gb = v0.heap.size := ⟨_, rfl⟩
        rw [← hv, ← hgb]
        have XB19 : Hid (v19.heap[gb]? = some (.cells #[.int .i64 0, .slice none 0 0, .slice none 0 0, .slice none 0 0, .int .i64 0, .int .i64 0, .slice none 0 0] 35 (0, 0))) := by rw [hv, hgb]; exact heap_alloc_new v0 _
        have hb2 : Below v0.heap.size v0 v19 := by rw [hv]; exact below_new v0 _
        have GB := Lib.hid (show w6.heap.size ≤ gb ∧ v0.heap.size ≤ gb ∧ gb < v19.heap.size by have := BL0.out.size; rw [hv, hgb]; simp; omega)
        clear hv hgb
        have BL19 := Lib.hid (BL0.out.trans (hb2.mono BL0.out.size))
        clear hb2
        refine hK0.out _ _ (KS.out _ BL19.out) (fun hHeld => ?_)
        clear hK0 K0
        try simp only [Act.put, List.setIfInBounds_toArray, List.set_cons_zero, List.set_cons_succ]
        refine wpAnyH_ready (rs := [2]) (by kernel_rfl) (by simp) ?_
        refine AllReadyH.cons (o := _) rfl (fun K0 hK0 => ?_) (AllReadyH.nil)
        · go_simp
          refine (toAct_any kk to _).mono ?_
          rintro e9 v20 ⟨rfl, hb2⟩
          go_wp2_with fail
          have BL20 := Lib.hid (BL19.out.trans (hb2.mono BL19.out.size))
          have XB20 := Lib.hid ((hb2.block gb (Array.getElem?_eq_some_iff.1 XB19.out).1).trans XB19.out)
          clear hb2
          refine hK0.out _ _ (KS.out _ BL20.out) (fun hHeld => ?_)
          clear hK0 K0
          try simp only [Act.put, List.setIfInBounds_toArray, List.set_cons_zero, List.set_cons_succ]
          refine wpAnyH_ready (rs := [3]) (by kernel_rfl) (by simp) ?_
          refine AllReadyH.cons (o := _) rfl (fun K0 hK0 => ?_) (AllReadyH.nil)
          · go_simp
            have GS := Lib.hid (show gb < v20.heap.size from (Array.getElem?_eq_some_iff.1 XB20.out).1)
            refine (IPD.out v20 u1 u2 u3 _ (KR7.out _ BL20.out)).mono ?_
            rintro e9 v21 ⟨p, rfl, ho, hb2⟩
            unfold Rp.val
            go_wp2_with fail
            have OW21 := Lib.hid ho
            have ZS := Lib.hid (show w6.heap.size ≤ v20.heap.size ∧ v20.heap.size ≤ v21.heap.size from ⟨BL20.out.size, hb2.size⟩)
            have ZE21 := Lib.hid (show v21.heap.size ≤ v21.heap.size from Nat.le_refl _)
            clear ho
            have BL21 := Lib.hid (BL20.out.trans (hb2.mono BL20.out.size))
            have XB21 := Lib.hid ((hb2.block gb (Array.getElem?_eq_some_iff.1 XB20.out).1).trans XB20.out)
            clear hb2
            refine hK0.out _ _ (KS.out _ BL21.out) (fun hHeld => ?_)
            clear hK0 K0
            try simp only [Act.put, List.setIfInBounds_toArray, List.set_cons_zero, List.set_cons_succ]
            refine wpAnyH_ready (rs := [5]) (by kernel_rfl) (by simp) ?_
            refine AllReadyH.cons (o := _) rfl (fun K0 hK0 => ?_) AllReadyH.nil
            have FA := Lib.hid (ansAt_of (w := w6) (q := dq) XB21.out OW21.out (.inl GS.out) (by have := ZS.out; omega) (by have := ZE21.out; omega) (by have := GB.out; omega) BL21.out)
            have KF := Lib.hid (KS.out _ (by obtain ⟨_, _, _, _, _, h⟩ := FA.out; exact h))
            clear hHeld
            rw [if_pos (by rfl)]
            refine wp_store_row 35 _ _ rfl gb _ rfl rfl 35 _ XB21.out (by kernel_rfl) rfl (by simp [Value.oneCell']) ?_
            refine hK0.out _ _ KF.out (fun hHeld => ?_)
            clear hK0 K0
            refine wpAnyH_done (by kernel_rfl) ?_ _
            go_wp2_with fail
            go_meet
            with_reducible exact ⟨_, rfl, FA.out⟩
    case rest =>
      obtain ⟨b8, rfl, hA8⟩ := hcut
      have R8 := Lib.hid hA8.fst
      obtain ⟨⟨A1b, n1b, c1b, A2b, n2b, c2b, A3b, n3b, c3b, A4b, n4b, c4b, g1b, g2b, g3b, g4b⟩, xb, ob, db, zb, _⟩ := hA8
      dsimp only at xb db
      have XB := Lib.hid xb; have OB := Lib.hid ob; have DB := Lib.hid db
      have ZB := Lib.hid (show (w6.heap.size ≤ b8 ∧ b8 < wc.heap.size) ∧ (w6.heap.size ≤ g1b ∧ g1b < wc.heap.size) ∧ (w6.heap.size ≤ g2b ∧ g2b < wc.heap.size) ∧ (w6.heap.size ≤ g3b ∧ g3b < wc.heap.size) ∧ (w6.heap.size ≤ g4b ∧ g4b < wc.heap.size) from ⟨zb, ob.b1, ob.b2, ob.b3, ob.b4⟩)
      clear xb ob db zb
      have s6 := S6.out; have za := ZA.out; have zb := ZB.out
      have XA8 := Lib.hid ((R8.out.block b6 (by omega)).trans XA6.out)
      have X8 := Lib.hid ((R8.out.block b7 (by omega)).trans X6.out)
      have OA8 := Lib.hid (OA6.out.kep (Kept.of_below R8.out []) (by simp) (by simp) (by simp) (by simp))
      have N1 := Lib.hid (M1.out.below R8.out (by omega)); have N2 := Lib.hid (M2.out.below R8.out (by omega)); have N3 := Lib.hid (M3.out.below R8.out (by omega))
      have RW := Lib.hid (R6.out.trans (R8.out.mono R6.out.size))
      have UP : Hid (∀ W, Kept [u1, u2, u3, g1b, g2b, g3b, g4b] wc W → Below w2.heap.size w2 W) := fun W hW => RW.out.trans (hW.below RW.out.size (fun b hb => by have := S6.out; have := ZA.out; have := ZB.out; simp at hb; omega))
      have QA : Hid (∀ W, Kept [u1, u2, u3, g1b, g2b, g3b, g4b] wc W → (W.cell? ⟨b8, 0, none⟩ = some (.int .i64 dq) ∧ W.cell? ⟨b8, 1, none⟩ = some (.slice A1b n1b c1b) ∧ W.cell? ⟨b8, 2, none⟩ = some (.slice A2b n2b c2b) ∧ W.cell? ⟨b8, 3, none⟩ = some (.slice A3b n3b c3b) ∧ W.cell? ⟨b8, 4, none⟩ = some (.int .i64 dK.tick) ∧ W.cell? ⟨b8, 5, none⟩ = some (.int .i64 dK.run) ∧ W.cell? ⟨b8, 6, none⟩ = some (.slice A4b n4b c4b)) ∧ (W.cell? ⟨b6, 0, none⟩ = some (.int .i64 dq) ∧ W.cell? ⟨b6, 1, none⟩ = some (.slice A1a n1a c1a) ∧ W.cell? ⟨b6, 2, none⟩ = some (.slice A2a n2a c2a) ∧ W.cell? ⟨b6, 3, none⟩ = some (.slice A3a n3a c3a) ∧ W.cell? ⟨b6, 4, none⟩ = some (.int .i64 dK.tick) ∧ W.cell? ⟨b6, 5, none⟩ = some (.int .i64 dK.run) ∧ W.cell? ⟨b6, 6, none⟩ = some (.slice A4a n4a c4a)) ∧ (W.cell? ⟨b7, 0, none⟩ = some (.slice (some ⟨u1, 0, none⟩) n1 n1) ∧ W.cell? ⟨b7, 1, none⟩ = some (.slice (some ⟨u2, 0, none⟩) n2 n2) ∧ W.cell? ⟨b7, 2, none⟩ = some (.slice (some ⟨u3, 0, none⟩) n3 n3) ∧ W.cell? ⟨b7, 3, none⟩ = some (.int .i64 K.tick) ∧ W.cell? ⟨b7, 4, none⟩ = some (.int .i64 K.run)) ∧ ((W.cell? ⟨w.heap.size, 0, none⟩ = some (.slice A1 n1 c1) ∧ W.cell? ⟨w.heap.size, 1, none⟩ = some (.slice A2 n2 c2) ∧ W.cell? ⟨w.heap.size, 2, none⟩ = some (.slice A3 n3 c3) ∧ W.cell? ⟨w.heap.size, 3, none⟩ = some (.int .i64 K.tick) ∧ W.cell? ⟨w.heap.size, 4, none⟩ = some (.int .i64 K.run)) ∧ (W.cell? ⟨w.heap.size + 1, 0, none⟩ = some (.int .i64 kk) ∧ W.cell? ⟨w.heap.size + 1, 1, none⟩ = some (.int .i64 to))) ∧ ROwn W w2.heap.size h5 ⟨A1a, n1a, c1a, A2a, n2a, c2a, A3a, n3a, c3a, A4a, n4a, c4a, g1a, g2a, g3a, g4a⟩ dK dn) := fun W hW => by
        have s6 := S6.out; have za := ZA.out; have zb := ZB.out; have db := DB.out
        have j8 := (hW.2 b8 (by omega) (by simp; omega)).trans XB.out
        have j6 := (hW.2 b6 (by omega) (by simp; omega)).trans XA8.out
        have j7 := (hW.2 b7 (by omega) (by simp; omega)).trans X8.out
        refine ⟨⟨cell_of_row W _ 0 _ _ _ j8, cell_of_row W _ 1 _ _ _ j8, cell_of_row W _ 2 _ _ _ j8, cell_of_row W _ 3 _ _ _ j8, cell_of_row W _ 4 _ _ _ j8, cell_of_row W _ 5 _ _ _ j8, cell_of_row W _ 6 _ _ _ j8⟩, ⟨cell_of_row W _ 0 _ _ _ j6, cell_of_row W _ 1 _ _ _ j6, cell_of_row W _ 2 _ _ _ j6, cell_of_row W _ 3 _ _ _ j6, cell_of_row W _ 4 _ _ _ j6, cell_of_row W _ 5 _ _ _ j6, cell_of_row W _ 6 _ _ _ j6⟩, ⟨cell_of_row W _ 0 _ _ _ j7, cell_of_row W _ 1 _ _ _ j7, cell_of_row W _ 2 _ _ _ j7, cell_of_row W _ 3 _ _ _ j7, cell_of_row W _ 4 _ _ _ j7⟩, KS6.out W (UP.out W hW), ?_⟩
        refine OA8.out.kep hW ?_ ?_ ?_ ?_ <;> (simp; omega)
      have ZZ := Lib.hid (show wc.heap.size ≤ wc.heap.size from Nat.le_refl _)
      obtain ⟨⟨x0, x1, x2, x3, x4, x5, x6⟩, ⟨y0, y1, y2, y3, y4, y5, y6⟩, ⟨z0, z1, z2, z3, z4⟩, ⟨⟨q0, q1, q2, q3, q4⟩, p0, p1⟩, oA⟩ := QA.out wc (Kept.refl _ _)
      clear s6 za zb XA6 X6 OA6 M1 M2 M3 XA8 X8 OA8 KS R6
      -- both say the same
      go_wp2_with fail
      refine (eqR_own (p := ⟨A1b, n1b, c1b, A2b, n2b, c2b, A3b, n3b, c3b, A4b, n4b, c4b, g1b, g2b, g3b, g4b⟩) (p' := ⟨A1a, n1a, c1a, A2a, n2a, c2a, A3a, n3a, c3a, A4a, n4a, c4a, g1a, g2a, g3a, g4a⟩) SD.out OB.out oA).mono ?_
      rintro e9 w9 ⟨rfl, hb⟩
      have K9 := Lib.hid (Kept.of_below hb [u1, u2, u3, g1b, g2b, g3b, g4b])
      have N1' := Lib.hid (N1.out.below hb (by have := S6.out; have := ZB.out; omega)); have N2' := Lib.hid (N2.out.below hb (by have := S6.out; have := ZB.out; omega)); have N3' := Lib.hid (N3.out.below hb (by have := S6.out; have := ZB.out; omega))
      have OB9 := Lib.hid (OB.out.kep (Kept.of_below hb []) (by simp) (by simp) (by simp) (by simp))
      have S9 := Lib.hid hb.size
      clear x0 x1 x2 x3 x4 x5 x6 y0 y1 y2 y3 y4 y5 y6 z0 z1 z2 z3 z4 q0 q1 q2 q3 q4 p0 p1
      clear hb oA OB N1 N2 N3
      obtain ⟨⟨x0, x1, x2, x3, x4, x5, x6⟩, ⟨y0, y1, y2, y3, y4, y5, y6⟩, ⟨z0, z1, z2, z3, z4⟩, ⟨⟨q0, q1, q2, q3, q4⟩, p0, p1⟩, oA⟩ := QA.out w9 K9.out
      have K9b := Lib.hid (show Below w9.heap.size w9 w9 from Below.refl _ _)
      -- the kernel that was handed is as it was
      have KT : Hid (∀ W, Below w9.heap.size w9 W → (W.cell? ⟨b7, 0, none⟩ = some (.slice (some ⟨u1, 0, none⟩) n1 n1) ∧ W.cell? ⟨b7, 1, none⟩ = some (.slice (some ⟨u2, 0, none⟩) n2 n2) ∧ W.cell? ⟨b7, 2, none⟩ = some (.slice (some ⟨u3, 0, none⟩) n3 n3) ∧ W.cell? ⟨b7, 3, none⟩ = some (.int .i64 K.tick) ∧ W.cell? ⟨b7, 4, none⟩ = some (.int .i64 K.run)) ∧ ((W.cell? ⟨w.heap.size, 0, none⟩ = some (.slice A1 n1 c1) ∧ W.cell? ⟨w.heap.size, 1, none⟩ = some (.slice A2 n2 c2) ∧ W.cell? ⟨w.heap.size, 2, none⟩ = some (.slice A3 n3 c3) ∧ W.cell? ⟨w.heap.size, 3, none⟩ = some (.int .i64 K.tick) ∧ W.cell? ⟨w.heap.size, 4, none⟩ = some (.int .i64 K.run)) ∧ (W.cell? ⟨w.heap.size + 1, 0, none⟩ = some (.int .i64 kk) ∧ W.cell? ⟨w.heap.size + 1, 1, none⟩ = some (.int .i64 to))) ∧ Below w9.heap.size w9 W) := fun W hW => by
        obtain ⟨_, _, h3, h4, _⟩ := QA.out W (K9.out.then_below hW)
        exact ⟨h3, h4, hW⟩
      have PT : Hid (∀ W, ((W.cell? ⟨b7, 0, none⟩ = some (.slice (some ⟨u1, 0, none⟩) n1 n1) ∧ W.cell? ⟨b7, 1, none⟩ = some (.slice (some ⟨u2, 0, none⟩) n2 n2) ∧ W.cell? ⟨b7, 2, none⟩ = some (.slice (some ⟨u3, 0, none⟩) n3 n3) ∧ W.cell? ⟨b7, 3, none⟩ = some (.int .i64 K.tick) ∧ W.cell? ⟨b7, 4, none⟩ = some (.int .i64 K.run)) ∧ ((W.cell? ⟨w.heap.size, 0, none⟩ = some (.slice A1 n1 c1) ∧ W.cell? ⟨w.heap.size, 1, none⟩ = some (.slice A2 n2 c2) ∧ W.cell? ⟨w.heap.size, 2, none⟩ = some (.slice A3 n3 c3) ∧ W.cell? ⟨w.heap.size, 3, none⟩ = some (.int .i64 K.tick) ∧ W.cell? ⟨w.heap.size, 4, none⟩ = some (.int .i64 K.run)) ∧ (W.cell? ⟨w.heap.size + 1, 0, none⟩ = some (.int .i64 kk) ∧ W.cell? ⟨w.heap.size + 1, 1, none⟩ = some (.int .i64 to))) ∧ Below w9.heap.size w9 W) → Below w9.heap.size w9 W) := fun W hh => hh.2.2
      have AK : Hid (∀ W, Below w9.heap.size w9 W → Calls Tryz.prog 37 #[.agg #[.slice A1 n1 c1, .slice A2 n2 c2, .slice A3 n3 c3, .int .i64 K.tick, .int .i64 K.run]] W fun e w' => ∃ y1 y2 y3, e = .returned (.agg #[.slice (some ⟨y1, 0, none⟩) n1 n1, .slice (some ⟨y2, 0, none⟩) n2 n2, .slice (some ⟨y3, 0, none⟩) n3 n3, .int .i64 K.tick, .int .i64 K.run]) ∧ KRead w' 0 w'.heap.size (some ⟨y1, 0, none⟩) n1 (some ⟨y2, 0, none⟩) n2 (some ⟨y3, 0, none⟩) n3 K ∧ Below w9.heap.size w9 w') := fun W hB =>
        (TK.out W (UP.out W (K9.out.then_below hB))).mono fun e w' ⟨y1, y2, y3, he, hk, hb, hb2⟩ => ⟨y1, y2, y3, he, hk, hB.trans (hb2.mono hB.size)⟩
      have EK : Hid (∀ W y1 y2 y3, Below w9.heap.size w9 W → KRead W 0 W.heap.size (some ⟨y1, 0, none⟩) n1 (some ⟨y2, 0, none⟩) n2 (some ⟨y3, 0, none⟩) n3 K → Calls Tryz.prog 40 #[.agg #[.slice (some ⟨u1, 0, none⟩) n1 n1, .slice (some ⟨u2, 0, none⟩) n2 n2, .slice (some ⟨u3, 0, none⟩) n3 n3, .int .i64 K.tick, .int .i64 K.run], .agg #[.slice (some ⟨y1, 0, none⟩) n1 n1, .slice (some ⟨y2, 0, none⟩) n2 n2, .slice (some ⟨y3, 0, none⟩) n3 n3, .int .i64 K.tick, .int .i64 K.run]] W fun e w' => e = .returned (.bool true) ∧ Below w9.heap.size w9 w') := fun W y1 y2 y3 hB hk => by
        have s6 := S6.out; have s9 := S9.out; have zb := ZB.out
        exact (eqKernel_same 0 w9.heap.size 0 W.heap.size _ n1 n1 _ n2 n2 _ n3 n3 _ n1 _ n2 _ n3 K.tick K.run K W (by have := SM.out; omega) (by have := SM.out; omega) (by have := SM.out; omega) ⟨HLK.out, (N1'.out.below hB (by omega)).sl.wide (by omega) (by omega), (N2'.out.below hB (by omega)).sl.wide (by omega) (by omega), (N3'.out.below hB (by omega)).sl.wide (by omega) (by omega)⟩ hk).mono fun e w' ⟨h1, h2⟩ => ⟨h1, hB.trans (h2.mono hB.size)⟩
      clear x0 x1 x2 x3 x4 x5 x6 y0 y1 y2 y3 y4 y5 y6 z0 z1 z2 z3 z4 q0 q1 q2 q3 q4 p0 p1
      go_upto_region 10 with (fail)
      go_region_held3 (fun W => (W.cell? ⟨b7, 0, none⟩ = some (.slice (some ⟨u1, 0, none⟩) n1 n1) ∧ W.cell? ⟨b7, 1, none⟩ = some (.slice (some ⟨u2, 0, none⟩) n2 n2) ∧ W.cell? ⟨b7, 2, none⟩ = some (.slice (some ⟨u3, 0, none⟩) n3 n3) ∧ W.cell? ⟨b7, 3, none⟩ = some (.int .i64 K.tick) ∧ W.cell? ⟨b7, 4, none⟩ = some (.int .i64 K.run)) ∧ ((W.cell? ⟨w.heap.size, 0, none⟩ = some (.slice A1 n1 c1) ∧ W.cell? ⟨w.heap.size, 1, none⟩ = some (.slice A2 n2 c2) ∧ W.cell? ⟨w.heap.size, 2, none⟩ = some (.slice A3 n3 c3) ∧ W.cell? ⟨w.heap.size, 3, none⟩ = some (.int .i64 K.tick) ∧ W.cell? ⟨w.heap.size, 4, none⟩ = some (.int .i64 K.run)) ∧ (W.cell? ⟨w.heap.size + 1, 0, none⟩ = some (.int .i64 kk) ∧ W.cell? ⟨w.heap.size + 1, 1, none⟩ = some (.int .i64 to))) ∧ Below w9.heap.size w9 W) (first | with_reducible exact KT.out _ (by assumption) | exact KT.out _ (Below.drew (Below.refl _ _))) (first | (go_at_call 37; with_reducible refine (AK.out _ (PT.out _ (by assumption))).mono ?_; rintro e9 wa ⟨y1, y2, y3, rfl, hkr, hba⟩) | (go_at_call 40; with_reducible refine (EK.out _ _ _ _ (PT.out _ (by assumption)) (by assumption)).mono ?_; rintro e9 wb ⟨rfl, hbb⟩))
      have K10 := Lib.hid (K9.out.then_below hbb)
      have N1 := Lib.hid (N1'.out.below hbb (by have := S6.out; have := S9.out; have := ZB.out; omega)); have N2 := Lib.hid (N2'.out.below hbb (by have := S6.out; have := S9.out; have := ZB.out; omega)); have N3 := Lib.hid (N3'.out.below hbb (by have := S6.out; have := S9.out; have := ZB.out; omega))
      have OB10 := Lib.hid (OB9.out.kep (Kept.of_below hbb []) (by simp) (by simp) (by simp) (by simp))
      have S10 := Lib.hid (show wc.heap.size ≤ wb.heap.size by have := hbb.size; have := S9.out; omega)
      clear hba hbb hkr N1' N2' N3' OB9 K9b KT PT AK EK K9 S9 oA
      obtain ⟨⟨x0, x1, x2, x3, x4, x5, x6⟩, ⟨y0, y1, y2, y3, y4, y5, y6⟩, ⟨z0, z1, z2, z3, z4⟩, ⟨⟨q0, q1, q2, q3, q4⟩, p0, p1⟩, oA⟩ := QA.out wb K10.out
      -- its lists are marked
      go_wp2_with fail
      have s6 := S6.out; have s10 := S10.out; have zb := ZB.out
      refine (markKernel_any _ n1 n1 _ n2 n2 _ n3 n3 u1 u2 u3 _ _ _ K.tick K.run 1 wb (by have := SM.out; omega) (by have := SM.out; omega) (by have := SM.out; omega) (by omega) N1.out N2.out N3.out (by omega) (by omega) (by omega) (fun _ _ => by omega) (fun _ _ => by omega) (fun _ _ => by omega)).mono ?_
      rintro e9 w11 ⟨rfl, _, _, _, hk⟩
      have hk3 : Kept [u1, u2, u3] wb w11 := hk.mono (fun b hb _ => by simp only [List.mem_append, gsOf] at hb; rcases hb with (hb | hb) | hb <;> (split at hb <;> simp_all))
      have K11 := Lib.hid (K10.out.trans (hk3.mono (gs' := [u1, u2, u3, g1b, g2b, g3b, g4b]) (fun b hb _ => by simp at hb; rcases hb with rfl | rfl | rfl <;> simp)))
      have OB11 := Lib.hid (OB10.out.kep hk3 (by simp; omega) (by simp; omega) (by simp; omega) (by simp; omega))
      have S11 := Lib.hid (show wc.heap.size ≤ w11.heap.size by have := hk3.1.size; omega)
      obtain ⟨tk, htk⟩ : ∃ tk : Nat, tk = 1 + n1 + n2 + n3 * 4 := ⟨_, rfl⟩
      rw [← htk]
      clear htk hk hk3 s6 s10 zb N1 N2 N3 OB10 K10 S10 oA
      have t0 : ((tk : Int) < 0) = False := by simp
      clear x0 x1 x2 x3 x4 x5 x6 y0 y1 y2 y3 y4 y5 y6 z0 z1 z2 z3 z4 q0 q1 q2 q3 q4 p0 p1
      obtain ⟨⟨x0, x1, x2, x3, x4, x5, x6⟩, ⟨y0, y1, y2, y3, y4, y5, y6⟩, ⟨z0, z1, z2, z3, z4⟩, ⟨⟨q0, q1, q2, q3, q4⟩, p0, p1⟩, oA⟩ := QA.out w11 K11.out
      go_wp2_with fail
      refine (eqR_own (p := ⟨A1b, n1b, c1b, A2b, n2b, c2b, A3b, n3b, c3b, A4b, n4b, c4b, g1b, g2b, g3b, g4b⟩) (p' := ⟨A1a, n1a, c1a, A2a, n2a, c2a, A3a, n3a, c3a, A4a, n4a, c4a, g1a, g2a, g3a, g4a⟩) SD.out OB11.out oA).mono ?_
      rintro e9 w12 ⟨rfl, hb⟩
      have K12 := Lib.hid (K11.out.then_below hb)
      have OB12 := Lib.hid (OB11.out.kep (Kept.of_below hb []) (by simp) (by simp) (by simp) (by simp))
      have S12 := Lib.hid (Nat.le_trans S11.out hb.size)
      clear hb OB11 K11 S11 oA t0
      clear x0 x1 x2 x3 x4 x5 x6 y0 y1 y2 y3 y4 y5 y6 z0 z1 z2 z3 z4 q0 q1 q2 q3 q4 p0 p1
      obtain ⟨⟨x0, x1, x2, x3, x4, x5, x6⟩, ⟨y0, y1, y2, y3, y4, y5, y6⟩, ⟨z0, z1, z2, z3, z4⟩, ⟨⟨q0, q1, q2, q3, q4⟩, p0, p1⟩, oA⟩ := QA.out w12 K12.out
      -- the answer's lists are marked
      go_wp2_with fail
      refine (markR_own (p := ⟨A1b, n1b, c1b, A2b, n2b, c2b, A3b, n3b, c3b, A4b, n4b, c4b, g1b, g2b, g3b, g4b⟩) SD.out OB12.out S12.out).mono ?_
      rintro e9 w13 ⟨rfl, hm, hk⟩
      have K13 := Lib.hid (K12.out.trans (hk.mono (gs' := [u1, u2, u3, g1b, g2b, g3b, g4b]) (fun b hb _ => by simp at hb; rcases hb with rfl | rfl | rfl | rfl <;> simp)))
      have MK := Lib.hid hm
      have ZG := Lib.hid (show g1b < w13.heap.size ∧ g2b < w13.heap.size ∧ g3b < w13.heap.size ∧ g4b < w13.heap.size by have := hk.1.size; have := S12.out; have := ZB.out; omega)
      have NB := Lib.hid (show n1b ≤ 12 ∧ n2b ≤ 4 ∧ n3b ≤ 4 ∧ n4b ≤ 1000000 by
        have o := OB12.out
        have l1 := o.l1; have l2 := o.l2; have l3 := o.l3; have l4 := o.l4
        dsimp only at l1 l2 l3 l4
        have := SD.out
        omega)
      obtain ⟨tot, ht⟩ : ∃ tot : Nat, tot = Rp.tot ⟨A1b, n1b, c1b, A2b, n2b, c2b, A3b, n3b, c3b, A4b, n4b, c4b, g1b, g2b, g3b, g4b⟩ := ⟨_, rfl⟩
      rw [← ht]
      have HE : Hid (∀ W, Below w13.heap.size w13 W → Calls Tryz.prog 43 #[.agg #[.int .i64 dq, .slice A1b n1b c1b, .slice A2b n2b c2b, .slice A3b n3b c3b, .int .i64 dK.tick, .int .i64 dK.run, .slice A4b n4b c4b], .int .i64 1] W fun e w' => e = .returned (.int .i64 (tot : Int)) ∧ Below w13.heap.size w13 w') := fun W hW => by
        have := heldR_own (p := ⟨A1b, n1b, c1b, A2b, n2b, c2b, A3b, n3b, c3b, A4b, n4b, c4b, g1b, g2b, g3b, g4b⟩) (q := dq) (K := dK) NB.out (MK.out.below hW ZG.out) (by have := ZG.out; have := hW.size; dsimp only; omega)
        rw [← ht] at this
        exact this.mono fun e w' hh => ⟨hh.1, hW.trans (hh.2.mono hW.size)⟩
      clear ht hm hk K12 S12 OB12 oA
      have t1 : ((tot : Int) < 0) = False := by simp
      have t2 : ((tot : Int) != (tot : Int)) = false := by simp
      clear x0 x1 x2 x3 x4 x5 x6 y0 y1 y2 y3 y4 y5 y6 z0 z1 z2 z3 z4 q0 q1 q2 q3 q4 p0 p1
      obtain ⟨⟨x0, x1, x2, x3, x4, x5, x6⟩, ⟨y0, y1, y2, y3, y4, y5, y6⟩, ⟨z0, z1, z2, z3, z4⟩, ⟨⟨q0, q1, q2, q3, q4⟩, p0, p1⟩, oA⟩ := QA.out w13 K13.out
      go_wp2_with fail
      refine (HE.out _ (Below.refl _ _)).mono ?_
      rintro e9 w14 ⟨rfl, hb⟩
      have H14 := Lib.hid hb
      have K14 := Lib.hid (K13.out.then_below hb)
      clear hb oA
      clear x0 x1 x2 x3 x4 x5 x6 y0 y1 y2 y3 y4 y5 y6 z0 z1 z2 z3 z4 q0 q1 q2 q3 q4 p0 p1
      obtain ⟨⟨x0, x1, x2, x3, x4, x5, x6⟩, ⟨y0, y1, y2, y3, y4, y5, y6⟩, ⟨z0, z1, z2, z3, z4⟩, ⟨⟨q0, q1, q2, q3, q4⟩, p0, p1⟩, oA⟩ := QA.out w14 K14.out
      clear x0 y0 x1 y1 x2 y2 x3 y3 x4 y4 x5 y5 x6 y6 z0 z1 z2 z3 z4 oA
      -- once more
      have TK : Hid (∀ W, Below w14.heap.size w14 W → Calls Tryz.prog 37 #[.agg #[.slice A1 n1 c1, .slice A2 n2 c2, .slice A3 n3 c3, .int .i64 K.tick, .int .i64 K.run]] W fun e w' => ∃ u1 u2 u3, e = .returned (.agg #[.slice (some ⟨u1, 0, none⟩) n1 n1, .slice (some ⟨u2, 0, none⟩) n2 n2, .slice (some ⟨u3, 0, none⟩) n3 n3, .int .i64 K.tick, .int .i64 K.run]) ∧ KRead w' 0 w'.heap.size (some ⟨u1, 0, none⟩) n1 (some ⟨u2, 0, none⟩) n2 (some ⟨u3, 0, none⟩) n3 K ∧ Below w14.heap.size w14 w' ∧ Below W.heap.size W w') := fun W hW =>
        (TK.out W (UP.out W (K14.out.then_below hW))).mono fun e w' ⟨u1, u2, u3, he, hk, _, hb⟩ => ⟨u1, u2, u3, he, hk, hW.trans (hb.mono hW.size), hb⟩
      have KS : Hid (∀ W, Below w14.heap.size w14 W → ((W.cell? ⟨w.heap.size, 0, none⟩ = some (.slice A1 n1 c1) ∧ W.cell? ⟨w.heap.size, 1, none⟩ = some (.slice A2 n2 c2) ∧ W.cell? ⟨w.heap.size, 2, none⟩ = some (.slice A3 n3 c3) ∧ W.cell? ⟨w.heap.size, 3, none⟩ = some (.int .i64 K.tick) ∧ W.cell? ⟨w.heap.size, 4, none⟩ = some (.int .i64 K.run)) ∧ (W.cell? ⟨w.heap.size + 1, 0, none⟩ = some (.int .i64 kk) ∧ W.cell? ⟨w.heap.size + 1, 1, none⟩ = some (.int .i64 to)))) := fun W hW => KS6.out W (UP.out W (K14.out.then_below hW))
      go_upto_region 24 with (fail)
      go_cut [12] from 13 (fun x wx => ∃ gb, x = .pointer (some ⟨gb, 0, none⟩) ∧ AnsAt w14 gb dq dK dn wx)
      case first => as_aux_lemma =>
        refine wp_region_held_drew (S := fun W => ((W.cell? ⟨w.heap.size, 0, none⟩ = some (.slice A1 n1 c1) ∧ W.cell? ⟨w.heap.size, 1, none⟩ = some (.slice A2 n2 c2) ∧ W.cell? ⟨w.heap.size, 2, none⟩ = some (.slice A3 n3 c3) ∧ W.cell? ⟨w.heap.size, 3, none⟩ = some (.int .i64 K.tick) ∧ W.cell? ⟨w.heap.size, 4, none⟩ = some (.int .i64 K.run)) ∧ (W.cell? ⟨w.heap.size + 1, 0, none⟩ = some (.int .i64 kk) ∧ W.cell? ⟨w.heap.size + 1, 1, none⟩ = some (.int .i64 to)))) (by kernel_rfl) (KS.out _ (Below.drew (Below.refl _ _))) (fun hHeld => ?_)
        obtain ⟨v0, hv0⟩ : ∃ v0, v0 = w14.drew := ⟨_, rfl⟩
        have BL0 : Hid (Below w14.heap.size w14 v0) := by rw [hv0]; exact Below.drew (Below.refl _ _)
        rw [← hv0] at hHeld ⊢
        clear hv0
        refine wpAnyH_take (i := 0) (oi := _) (v := ?_) rfl (by kernel_rfl) (by kernel_rfl) (by kernel_rfl) (fun _ _ _ h => h) (Or.inl ⟨by rfl, ?_⟩) hHeld ?_
        rotate_left
        · (intro w hSw; (try dsimp only at hSw); go_simp; try with_reducible rfl)
        try simp only [Act.put, List.setIfInBounds_toArray, List.set_cons_zero, List.set_cons_succ]
        refine wpAnyH_take (i := 2) (oi := _) (v := ?_) rfl (by kernel_rfl) (by kernel_rfl) (by kernel_rfl) (fun _ _ _ h => h) (Or.inl ⟨by rfl, ?_⟩) hHeld ?_
        rotate_left
        · (intro w hSw; (try dsimp only at hSw); go_simp; try with_reducible rfl)
        try simp only [Act.put, List.setIfInBounds_toArray, List.set_cons_zero, List.set_cons_succ]
        refine wpAnyH_ready (rs := [1, 5]) (by kernel_rfl) (by simp) ?_
        refine AllReadyH.cons (o := _) rfl (fun K0 hK0 => ?_) (AllReadyH.cons (o := _) rfl (fun K0 hK0 => ?_) (AllReadyH.nil))
        · go_simp
          refine (TK.out _ BL0.out).mono ?_
          rintro e9 v22 ⟨u1, u2, u3, rfl, hku, hb1, hb2⟩
          go_wp2_with fail
          have KR22 := Lib.hid hku
          obtain ⟨hk, hhk⟩ : ∃ hk, hk = v22.heap.size := ⟨_, rfl⟩
          rw [← hhk] at KR22
          have HK22 := Lib.hid (show hk ≤ v22.heap.size by omega)
          clear hku hb1 hhk
          have BL22 := Lib.hid (BL0.out.trans (hb2.mono BL0.out.size))
          clear hb2
          refine hK0.out _ _ (KS.out _ BL22.out) (fun hHeld => ?_)
          clear hK0 K0
          try simp only [Act.put, List.setIfInBounds_toArray, List.set_cons_zero, List.set_cons_succ]
          refine wpAnyH_ready (rs := [3, 5]) (by kernel_rfl) (by simp) ?_
          refine AllReadyH.cons (o := _) rfl (fun K0 hK0 => ?_) (AllReadyH.cons (o := _) rfl (fun K0 hK0 => ?_) (AllReadyH.nil))
          · go_simp
            refine (toAct_any kk to _).mono ?_
            rintro e9 v23 ⟨rfl, hb2⟩
            go_wp2_with fail
            have BL23 := Lib.hid (BL22.out.trans (hb2.mono BL22.out.size))
            have KR23 := Lib.hid (KR22.out.below hb2 HK22.out)
            have HK23 := Lib.hid (Nat.le_trans HK22.out hb2.size)
            clear hb2
            refine hK0.out _ _ (KS.out _ BL23.out) (fun hHeld => ?_)
            clear hK0 K0
            try simp only [Act.put, List.setIfInBounds_toArray, List.set_cons_zero, List.set_cons_succ]
            refine wpAnyH_ready (rs := [4, 5]) (by kernel_rfl) (by simp) ?_
            refine AllReadyH.cons (o := _) rfl (fun K0 hK0 => ?_) (AllReadyH.cons (o := _) rfl (fun K0 hK0 => ?_) (AllReadyH.nil))
            · go_simp
              refine (IPD.out v23 u1 u2 u3 _ KR23.out).mono ?_
              rintro e9 v24 ⟨p, rfl, ho, hb2⟩
              unfold Rp.val
              go_wp2_with fail
              have OW24 := Lib.hid ho
              have ZS := Lib.hid (show w14.heap.size ≤ v23.heap.size ∧ v23.heap.size ≤ v24.heap.size from ⟨BL23.out.size, hb2.size⟩)
              have ZE24 := Lib.hid (show v24.heap.size ≤ v24.heap.size from Nat.le_refl _)
              clear ho
              have BL24 := Lib.hid (BL23.out.trans (hb2.mono BL23.out.size))
              have KR24 := Lib.hid (KR23.out.below hb2 HK23.out)
              have HK24 := Lib.hid (Nat.le_trans HK23.out hb2.size)
              clear hb2
              refine hK0.out _ _ (KS.out _ BL24.out) (fun hHeld => ?_)
              clear hK0 K0
              try simp only [Act.put, List.setIfInBounds_toArray, List.set_cons_zero, List.set_cons_succ]
              refine wpAnyH_ready (rs := [5]) (by kernel_rfl) (by simp) ?_
              refine AllReadyH.cons (o := _) rfl (fun K0 hK0 => ?_) (AllReadyH.nil)
              · go_simp
                obtain ⟨v25, hv⟩ : ∃ v25, v25 = v24.alloc (.cells #[.int .i64 0, .slice none 0 0, .slice none 0 0, .slice none 0 0, .int .i64 0, .int .i64 0, .slice none 0 0] 35) := ⟨_, rfl⟩
                obtain ⟨gb, hgb⟩ : ∃ gb, gb = v24.heap.size := ⟨_, rfl⟩
                rw [← hv, ← hgb]
                have XB25 : Hid (v25.heap[gb]? = some (.cells #[.int .i64 0, .slice none 0 0, .slice none 0 0, .slice none 0 0, .int .i64 0, .int .i64 0, .slice none 0 0] 35 (0, 0))) := by rw [hv, hgb]; exact heap_alloc_new v24 _
                have hb2 : Below v24.heap.size v24 v25 := by rw [hv]; exact below_new v24 _
                have GB := Lib.hid (show w14.heap.size ≤ gb ∧ v24.heap.size ≤ gb ∧ gb < v25.heap.size by have := BL24.out.size; rw [hv, hgb]; simp; omega)
                clear hv hgb
                have GS := Lib.hid (show v24.heap.size ≤ gb by have := ZE24.out; have := GB.out; omega)
                have BL25 := Lib.hid (BL24.out.trans (hb2.mono BL24.out.size))
                have KR25 := Lib.hid (KR24.out.below hb2 HK24.out)
                have HK25 := Lib.hid (Nat.le_trans HK24.out hb2.size)
                have OW25 := Lib.hid (OW24.out.kep (Kept.of_below hb2 []) (by simp) (by simp) (by simp) (by simp))
                have ZE25 := Lib.hid (Nat.le_trans ZE24.out hb2.size)
                clear hb2
                refine hK0.out _ _ (KS.out _ BL25.out) (fun hHeld => ?_)
                clear hK0 K0
                try simp only [Act.put, List.setIfInBounds_toArray, List.set_cons_zero, List.set_cons_succ]
                refine wpAnyH_ready (rs := [6]) (by kernel_rfl) (by simp) ?_
                refine AllReadyH.cons (o := _) rfl (fun K0 hK0 => ?_) AllReadyH.nil
                have FA := Lib.hid (ansAt_of (w := w14) (q := dq) XB25.out OW25.out (.inr GS.out) (by have := ZS.out; omega) (by have := ZE25.out; omega) (by have := GB.out; omega) BL25.out)
                have KF := Lib.hid (KS.out _ (by obtain ⟨_, _, _, _, _, h⟩ := FA.out; exact h))
                clear hHeld
                rw [if_pos (by rfl)]
                refine wp_store_row 35 _ _ rfl gb _ rfl rfl 35 _ XB25.out (by kernel_rfl) rfl (by simp [Value.oneCell']) ?_
                refine hK0.out _ _ KF.out (fun hHeld => ?_)
                clear hK0 K0
                refine wpAnyH_done (by kernel_rfl) ?_ _
                go_wp2_with fail
                go_meet
                with_reducible exact ⟨_, rfl, FA.out⟩
            · go_simp
              obtain ⟨v26, hv⟩ : ∃ v26, v26 = v23.alloc (.cells #[.int .i64 0, .slice none 0 0, .slice none 0 0, .slice none 0 0, .int .i64 0, .int .i64 0, .slice none 0 0] 35) := ⟨_, rfl⟩
              obtain ⟨gb, hgb⟩ : ∃ gb, gb = v23.heap.size := ⟨_, rfl⟩
              rw [← hv, ← hgb]
              have XB26 : Hid (v26.heap[gb]? = some (.cells #[.int .i64 0, .slice none 0 0, .slice none 0 0, .slice none 0 0, .int .i64 0, .int .i64 0, .slice none 0 0] 35 (0, 0))) := by rw [hv, hgb]; exact heap_alloc_new v23 _
              have hb2 : Below v23.heap.size v23 v26 := by rw [hv]; exact below_new v23 _
              have GB := Lib.hid (show w14.heap.size ≤ gb ∧ v23.heap.size ≤ gb ∧ gb < v26.heap.size by have := BL23.out.size; rw [hv, hgb]; simp; omega)
              clear hv hgb
              have BL26 := Lib.hid (BL23.out.trans (hb2.mono BL23.out.size))
              have KR26 := Lib.hid (KR23.out.below hb2 HK23.out)
              have HK26 := Lib.hid (Nat.le_trans HK23.out hb2.size)
              clear hb2
              refine hK0.out _ _ (KS.out _ BL26.out) (fun hHeld => ?_)
              clear hK0 K0
              try simp only [Act.put, List.setIfInBounds_toArray, List.set_cons_zero, List.set_cons_succ]
              refine wpAnyH_ready (rs := [4]) (by kernel_rfl) (by simp) ?_
              refine AllReadyH.cons (o := _) rfl (fun K0 hK0 => ?_) (AllReadyH.nil)
              · go_simp
                have GS := Lib.hid (show gb < v26.heap.size from (Array.getElem?_eq_some_iff.1 XB26.out).1)
                refine (IPD.out v26 u1 u2 u3 _ KR26.out).mono ?_
                rintro e9 v27 ⟨p, rfl, ho, hb2⟩
                unfold Rp.val
                go_wp2_with fail
                have OW27 := Lib.hid ho
                have ZS := Lib.hid (show w14.heap.size ≤ v26.heap.size ∧ v26.heap.size ≤ v27.heap.size from ⟨BL26.out.size, hb2.size⟩)
                have ZE27 := Lib.hid (show v27.heap.size ≤ v27.heap.size from Nat.le_refl _)
                clear ho
                have BL27 := Lib.hid (BL26.out.trans (hb2.mono BL26.out.size))
                have XB27 := Lib.hid ((hb2.block gb (Array.getElem?_eq_some_iff.1 XB26.out).1).trans XB26.out)
                have KR27 := Lib.hid (KR26.out.below hb2 HK26.out)
                have HK27 := Lib.hid (Nat.le_trans HK26.out hb2.size)
                clear hb2
                refine hK0.out _ _ (KS.out _ BL27.out) (fun hHeld => ?_)
                clear hK0 K0
                try simp only [Act.put, List.setIfInBounds_toArray, List.set_cons_zero, List.set_cons_succ]
                refine wpAnyH_ready (rs := [6]) (by kernel_rfl) (by simp) ?_
                refine AllReadyH.cons (o := _) rfl (fun K0 hK0 => ?_) AllReadyH.nil
                have FA := Lib.hid (ansAt_of (w := w14) (q := dq) XB27.out OW27.out (.inl GS.out) (by have := ZS.out; omega) (by have := ZE27.out; omega) (by have := GB.out; omega) BL27.out)
                have KF := Lib.hid (KS.out _ (by obtain ⟨_, _, _, _, _, h⟩ := FA.out; exact h))
                clear hHeld
                rw [if_pos (by rfl)]
                refine wp_store_row 35 _ _ rfl gb _ rfl rfl 35 _ XB27.out (by kernel_rfl) rfl (by simp [Value.oneCell']) ?_
                refine hK0.out _ _ KF.out (fun hHeld => ?_)
                clear hK0 K0
                refine wpAnyH_done (by kernel_rfl) ?_ _
                go_wp2_with fail
                go_meet
                with_reducible exact ⟨_, rfl, FA.out⟩
          · go_simp
            obtain ⟨v28, hv⟩ : ∃ v28, v28 = v22.alloc (.cells #[.int .i64 0, .slice none 0 0, .slice none 0 0, .slice none 0 0, .int .i64 0, .int .i64 0, .slice none 0 0] 35) := ⟨_, rfl⟩
            obtain ⟨gb, hgb⟩ : ∃ gb, gb = v22.heap.size := ⟨_, rfl⟩
            rw [← hv, ← hgb]
            have XB28 : Hid (v28.heap[gb]? = some (.cells #[.int .i64 0, .slice none 0 0, .slice none 0 0, .slice none 0 0, .int .i64 0, .int .i64 0, .slice none 0 0] 35 (0, 0))) := by rw [hv, hgb]; exact heap_alloc_new v22 _
            have hb2 : Below v22.heap.size v22 v28 := by rw [hv]; exact below_new v22 _
            have GB := Lib.hid (show w14.heap.size ≤ gb ∧ v22.heap.size ≤ gb ∧ gb < v28.heap.size by have := BL22.out.size; rw [hv, hgb]; simp; omega)
            clear hv hgb
            have BL28 := Lib.hid (BL22.out.trans (hb2.mono BL22.out.size))
            have KR28 := Lib.hid (KR22.out.below hb2 HK22.out)
            have HK28 := Lib.hid (Nat.le_trans HK22.out hb2.size)
            clear hb2
            refine hK0.out _ _ (KS.out _ BL28.out) (fun hHeld => ?_)
            clear hK0 K0
            try simp only [Act.put, List.setIfInBounds_toArray, List.set_cons_zero, List.set_cons_succ]
            refine wpAnyH_ready (rs := [3]) (by kernel_rfl) (by simp) ?_
            refine AllReadyH.cons (o := _) rfl (fun K0 hK0 => ?_) (AllReadyH.nil)
            · go_simp
              refine (toAct_any kk to _).mono ?_
              rintro e9 v29 ⟨rfl, hb2⟩
              go_wp2_with fail
              have BL29 := Lib.hid (BL28.out.trans (hb2.mono BL28.out.size))
              have XB29 := Lib.hid ((hb2.block gb (Array.getElem?_eq_some_iff.1 XB28.out).1).trans XB28.out)
              have KR29 := Lib.hid (KR28.out.below hb2 HK28.out)
              have HK29 := Lib.hid (Nat.le_trans HK28.out hb2.size)
              clear hb2
              refine hK0.out _ _ (KS.out _ BL29.out) (fun hHeld => ?_)
              clear hK0 K0
              try simp only [Act.put, List.setIfInBounds_toArray, List.set_cons_zero, List.set_cons_succ]
              refine wpAnyH_ready (rs := [4]) (by kernel_rfl) (by simp) ?_
              refine AllReadyH.cons (o := _) rfl (fun K0 hK0 => ?_) (AllReadyH.nil)
              · go_simp
                have GS := Lib.hid (show gb < v29.heap.size from (Array.getElem?_eq_some_iff.1 XB29.out).1)
                refine (IPD.out v29 u1 u2 u3 _ KR29.out).mono ?_
                rintro e9 v30 ⟨p, rfl, ho, hb2⟩
                unfold Rp.val
                go_wp2_with fail
                have OW30 := Lib.hid ho
                have ZS := Lib.hid (show w14.heap.size ≤ v29.heap.size ∧ v29.heap.size ≤ v30.heap.size from ⟨BL29.out.size, hb2.size⟩)
                have ZE30 := Lib.hid (show v30.heap.size ≤ v30.heap.size from Nat.le_refl _)
                clear ho
                have BL30 := Lib.hid (BL29.out.trans (hb2.mono BL29.out.size))
                have XB30 := Lib.hid ((hb2.block gb (Array.getElem?_eq_some_iff.1 XB29.out).1).trans XB29.out)
                have KR30 := Lib.hid (KR29.out.below hb2 HK29.out)
                have HK30 := Lib.hid (Nat.le_trans HK29.out hb2.size)
                clear hb2
                refine hK0.out _ _ (KS.out _ BL30.out) (fun hHeld => ?_)
                clear hK0 K0
                try simp only [Act.put, List.setIfInBounds_toArray, List.set_cons_zero, List.set_cons_succ]
                refine wpAnyH_ready (rs := [6]) (by kernel_rfl) (by simp) ?_
                refine AllReadyH.cons (o := _) rfl (fun K0 hK0 => ?_) AllReadyH.nil
                have FA := Lib.hid (ansAt_of (w := w14) (q := dq) XB30.out OW30.out (.inl GS.out) (by have := ZS.out; omega) (by have := ZE30.out; omega) (by have := GB.out; omega) BL30.out)
                have KF := Lib.hid (KS.out _ (by obtain ⟨_, _, _, _, _, h⟩ := FA.out; exact h))
                clear hHeld
                rw [if_pos (by rfl)]
                refine wp_store_row 35 _ _ rfl gb _ rfl rfl 35 _ XB30.out (by kernel_rfl) rfl (by simp [Value.oneCell']) ?_
                refine hK0.out _ _ KF.out (fun hHeld => ?_)
                clear hK0 K0
                refine wpAnyH_done (by kernel_rfl) ?_ _
                go_wp2_with fail
                go_meet
                with_reducible exact ⟨_, rfl, FA.out⟩
        · go_simp
          obtain ⟨v31, hv⟩ : ∃ v31, v31 = v0.alloc (.cells #[.int .i64 0, .slice none 0 0, .slice none 0 0, .slice none 0 0, .int .i64 0, .int .i64 0, .slice none 0 0] 35) := ⟨_, rfl⟩
          obtain ⟨gb, hgb⟩ : ∃ gb, gb = v0.heap.size := ⟨_, rfl⟩
          rw [← hv, ← hgb]
          have XB31 : Hid (v31.heap[gb]? = some (.cells #[.int .i64 0, .slice none 0 0, .slice none 0 0, .slice none 0 0, .int .i64 0, .int .i64 0, .slice none 0 0] 35 (0, 0))) := by rw [hv, hgb]; exact heap_alloc_new v0 _
          have hb2 : Below v0.heap.size v0 v31 := by rw [hv]; exact below_new v0 _
          have GB := Lib.hid (show w14.heap.size ≤ gb ∧ v0.heap.size ≤ gb ∧ gb < v31.heap.size by have := BL0.out.size; rw [hv, hgb]; simp; omega)
          clear hv hgb
          have BL31 := Lib.hid (BL0.out.trans (hb2.mono BL0.out.size))
          clear hb2
          refine hK0.out _ _ (KS.out _ BL31.out) (fun hHeld => ?_)
          clear hK0 K0
          try simp only [Act.put, List.setIfInBounds_toArray, List.set_cons_zero, List.set_cons_succ]
          refine wpAnyH_ready (rs := [1]) (by kernel_rfl) (by simp) ?_
          refine AllReadyH.cons (o := _) rfl (fun K0 hK0 => ?_) (AllReadyH.nil)
          · go_simp
            refine (TK.out _ BL31.out).mono ?_
            rintro e9 v32 ⟨u1, u2, u3, rfl, hku, hb1, hb2⟩
            go_wp2_with fail
            have KR32 := Lib.hid hku
            obtain ⟨hk, hhk⟩ : ∃ hk, hk = v32.heap.size := ⟨_, rfl⟩
            rw [← hhk] at KR32
            have HK32 := Lib.hid (show hk ≤ v32.heap.size by omega)
            clear hku hb1 hhk
            have BL32 := Lib.hid (BL31.out.trans (hb2.mono BL31.out.size))
            have XB32 := Lib.hid ((hb2.block gb (Array.getElem?_eq_some_iff.1 XB31.out).1).trans XB31.out)
            clear hb2
            refine hK0.out _ _ (KS.out _ BL32.out) (fun hHeld => ?_)
            clear hK0 K0
            try simp only [Act.put, List.setIfInBounds_toArray, List.set_cons_zero, List.set_cons_succ]
            refine wpAnyH_ready (rs := [3]) (by kernel_rfl) (by simp) ?_
            refine AllReadyH.cons (o := _) rfl (fun K0 hK0 => ?_) (AllReadyH.nil)
            · go_simp
              refine (toAct_any kk to _).mono ?_
              rintro e9 v33 ⟨rfl, hb2⟩
              go_wp2_with fail
              have BL33 := Lib.hid (BL32.out.trans (hb2.mono BL32.out.size))
              have XB33 := Lib.hid ((hb2.block gb (Array.getElem?_eq_some_iff.1 XB32.out).1).trans XB32.out)
              have KR33 := Lib.hid (KR32.out.below hb2 HK32.out)
              have HK33 := Lib.hid (Nat.le_trans HK32.out hb2.size)
              clear hb2
              refine hK0.out _ _ (KS.out _ BL33.out) (fun hHeld => ?_)
              clear hK0 K0
              try simp only [Act.put, List.setIfInBounds_toArray, List.set_cons_zero, List.set_cons_succ]
              refine wpAnyH_ready (rs := [4]) (by kernel_rfl) (by simp) ?_
              refine AllReadyH.cons (o := _) rfl (fun K0 hK0 => ?_) (AllReadyH.nil)
              · go_simp
                have GS := Lib.hid (show gb < v33.heap.size from (Array.getElem?_eq_some_iff.1 XB33.out).1)
                refine (IPD.out v33 u1 u2 u3 _ KR33.out).mono ?_
                rintro e9 v34 ⟨p, rfl, ho, hb2⟩
                unfold Rp.val
                go_wp2_with fail
                have OW34 := Lib.hid ho
                have ZS := Lib.hid (show w14.heap.size ≤ v33.heap.size ∧ v33.heap.size ≤ v34.heap.size from ⟨BL33.out.size, hb2.size⟩)
                have ZE34 := Lib.hid (show v34.heap.size ≤ v34.heap.size from Nat.le_refl _)
                clear ho
                have BL34 := Lib.hid (BL33.out.trans (hb2.mono BL33.out.size))
                have XB34 := Lib.hid ((hb2.block gb (Array.getElem?_eq_some_iff.1 XB33.out).1).trans XB33.out)
                have KR34 := Lib.hid (KR33.out.below hb2 HK33.out)
                have HK34 := Lib.hid (Nat.le_trans HK33.out hb2.size)
                clear hb2
                refine hK0.out _ _ (KS.out _ BL34.out) (fun hHeld => ?_)
                clear hK0 K0
                try simp only [Act.put, List.setIfInBounds_toArray, List.set_cons_zero, List.set_cons_succ]
                refine wpAnyH_ready (rs := [6]) (by kernel_rfl) (by simp) ?_
                refine AllReadyH.cons (o := _) rfl (fun K0 hK0 => ?_) AllReadyH.nil
                have FA := Lib.hid (ansAt_of (w := w14) (q := dq) XB34.out OW34.out (.inl GS.out) (by have := ZS.out; omega) (by have := ZE34.out; omega) (by have := GB.out; omega) BL34.out)
                have KF := Lib.hid (KS.out _ (by obtain ⟨_, _, _, _, _, h⟩ := FA.out; exact h))
                clear hHeld
                rw [if_pos (by rfl)]
                refine wp_store_row 35 _ _ rfl gb _ rfl rfl 35 _ XB34.out (by kernel_rfl) rfl (by simp [Value.oneCell']) ?_
                refine hK0.out _ _ KF.out (fun hHeld => ?_)
                clear hK0 K0
                refine wpAnyH_done (by kernel_rfl) ?_ _
                go_wp2_with fail
                go_meet
                with_reducible exact ⟨_, rfl, FA.out⟩
      case rest =>
        obtain ⟨b12, rfl, hA12⟩ := hcut
        have hf := hA12.fst
        obtain ⟨⟨A1c, n1c, c1c, A2c, n2c, c2c, A3c, n3c, c3c, A4c, n4c, c4c, g1c, g2c, g3c, g4c⟩, xc, oc, dc, zc, _⟩ := hA12
        dsimp only at xc dc
        have K15 := Lib.hid (K14.out.then_below hf)
        have H15 := Lib.hid (H14.out.trans (hf.mono H14.out.size))
        have OC := Lib.hid oc
        obtain ⟨⟨x0, x1, x2, x3, x4, x5, x6⟩, ⟨y0, y1, y2, y3, y4, y5, y6⟩, _, _, oA⟩ := QA.out wc K15.out
        have M0 : (wc.cell? ⟨b12, 0, none⟩ = some (.int .i64 dq) ∧ wc.cell? ⟨b12, 1, none⟩ = some (.slice A1c n1c c1c) ∧ wc.cell? ⟨b12, 2, none⟩ = some (.slice A2c n2c c2c) ∧ wc.cell? ⟨b12, 3, none⟩ = some (.slice A3c n3c c3c) ∧ wc.cell? ⟨b12, 4, none⟩ = some (.int .i64 dK.tick) ∧ wc.cell? ⟨b12, 5, none⟩ = some (.int .i64 dK.run) ∧ wc.cell? ⟨b12, 6, none⟩ = some (.slice A4c n4c c4c)) := ⟨cell_of_row wc _ 0 _ _ _ xc, cell_of_row wc _ 1 _ _ _ xc, cell_of_row wc _ 2 _ _ _ xc, cell_of_row wc _ 3 _ _ _ xc, cell_of_row wc _ 4 _ _ _ xc, cell_of_row wc _ 5 _ _ _ xc, cell_of_row wc _ 6 _ _ _ xc⟩
        obtain ⟨r0, r1, r2, r3, r4, r5, r6⟩ := M0
        clear hf xc oc dc zc q0 q1 q2 q3 q4 p0 p1
        go_wp2_with fail
        refine (eqR_own (p := ⟨A1c, n1c, c1c, A2c, n2c, c2c, A3c, n3c, c3c, A4c, n4c, c4c, g1c, g2c, g3c, g4c⟩) (p' := ⟨A1a, n1a, c1a, A2a, n2a, c2a, A3a, n3a, c3a, A4a, n4a, c4a, g1a, g2a, g3a, g4a⟩) SD.out OC.out oA).mono ?_
        rintro e9 w16 ⟨rfl, hb⟩
        have K16 := Lib.hid (K15.out.then_below hb)
        have H16 := Lib.hid (H15.out.trans (hb.mono H15.out.size))
        clear hb oA K15 H15 r0 r1 r2 r3 r4 r5 r6
        clear x0 x1 x2 x3 x4 x5 x6 y0 y1 y2 y3 y4 y5 y6
        obtain ⟨⟨x0, x1, x2, x3, x4, x5, x6⟩, ⟨y0, y1, y2, y3, y4, y5, y6⟩, _, _, oA⟩ := QA.out w16 K16.out
        go_wp2_with fail
        refine (HE.out _ H16.out).mono ?_
        rintro e9 w17 ⟨rfl, hb⟩
        have FR := Lib.hid (FIN.out _ (R2.out.trans ((UP.out _ (K13.out.then_below hb)).mono R2.out.size)))
        clear hb oA
        clear x0 x1 x2 x3 x4 x5 x6 y0 y1 y2 y3 y4 y5 y6
        go_wp2
        go_ret
        exact ⟨rfl, FR.out⟩

end Go.Proofs.YtlallklfilmcnaaGreat
