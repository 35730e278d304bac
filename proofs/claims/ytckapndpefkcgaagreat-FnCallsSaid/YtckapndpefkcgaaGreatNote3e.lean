/-
  The program's tick. No conditions beyond that the kernel is right and the act is one of the three.
-/
import Derived.Deep.AppendLies
import Derived.Deep.RegionLaw
import Derived.BigRegion
import Derived.BigQuiet
import Derived.Deep.RegionHeld3
import Derived.Test.YtckapndpefkcgaaGreatSpec3w
import Derived.Test.YtckapndpefkcgaaGreatSpec3v
import Derived.Test.YtckapndpefkcgaaGreatImpl3b
import Derived.Test.YtckapndpefkcgaaGreatImplAcc2
import Derived.Test.YtckapndpefkcgaaGreatKinds3
import Derived.Test.YtckapndpefkcgaaGreatPanic3
import Derived.Test.YtckapndpefkcgaaGreatU8s
set_option maxHeartbeats 1000000

namespace Go.Proofs.YtckapndpefkcgaaGreat
open List renaming getElem_toArray → zz1, getElem_cons_succ → zz2, getElem_cons_zero → zz3, setIfInBounds_toArray → zz4, set_cons_zero → zz5, set_cons_succ → zz6
open Go.RowKit
set_option maxRecDepth 100000

structure NB (w0 w : World) (g : Nat) (p : Kp) (K : Ker) (A : Option Addr) (n c : Nat) (ns : List Int) : Prop where
  mb : MB w g p K (.slice A n c)
  own : OR 96 3 w w0.heap.size A n c ns
  kept : Kept [g, p.g3] w0 w
  low : g < w0.heap.size ∧ p.g1 < w0.heap.size ∧ p.g2 < w0.heap.size ∧ p.g3 < w0.heap.size
theorem MB.low {a b : World} {g B : Nat} {p : Kp} {K : Ker} {q : Value} (h : MB a g p K q) (k : Below B a b) (h0 : g < B) (h1 : p.g1 < B) (h2 : p.g2 < B) (h3 : p.g3 < B) : MB b g p K q := by
  have hk : Kept (List.range' B (a.heap.size - B)) a b := ⟨k.mono (Nat.zero_le _), fun j hj hn => k.block j (by
    rw [List.mem_range'_1] at hn
    omega)⟩
  exact h.kept hk (by rw [List.mem_range'_1]; omega) (by rw [List.mem_range'_1]; omega) (by rw [List.mem_range'_1]; omega) (by rw [List.mem_range'_1]; omega)
theorem OR.far {t : TypeId} {m : Nat} {w : World} {base n c j : Nat} {A : Option Addr} {hs : List Int} (h : OR t m w base A n c hs) (hj : j < base) : some j ≠ (Value.slice A n c).ownBlock := by
  intro e
  rcases A with _ | ad
  · cases e
  · obtain ⟨g', e1, h1, _⟩ := OR.at_ h (by simp)
    injection e1 with e1
    subst e1
    have e2 : some j = some g' := e
    injection e2 with e2
    omega
theorem OR.notIn {t : TypeId} {m : Nat} {w : World} {base n c : Nat} {A : Option Addr} {hs : List Int} (h : OR t m w base A n c hs) {gs : List Nat} (hg : ∀ j, j ∈ gs → j < base) : ∀ g, A = some ⟨g, 0, none⟩ → g ∉ gs := fun g e hc => by
  subst e
  have := h.lt
  have := hg g hc
  omega

set_option maxHeartbeats 2000000 in
theorem note_any {w0 w : World} {g : Nat} {p : Kp} {K : Ker} {A : Option Addr} {n c : Nat} {ns : List Int} (h : NB w0 w g p K A n c ns) (env kind : Int) (hn : n ≤ 100) :
    Calls Tryz.prog 144 #[.pointer (some ⟨g, 0, none⟩), .int .i64 env, .int .i64 kind] w fun e w' => e = .returned (.tuple #[]) ∧ ∃ A' c', NB w0 w' g p K A' (n + 1) c' (ns ++ [K.tick, env, kind]) ∧ ∀ b, b < w.heap.size → b ≠ g → some b ≠ (Value.slice A n c).ownBlock → w'.heap[b]? = w.heap[b]? ∧ some b ≠ (Value.slice A' (n + 1) c').ownBlock := by
  obtain ⟨i0, hi0, hz0, hz1, hz2⟩ := info_parts Tryz.info_Note
  have Z0 := Lib.hid (show w0.heap.size ≤ w.heap.size from h.kept.1.size)
  have LO := Lib.hid h.low
  have Y3 : Hid (Kept [] w (w.drew.alloc (.cells #[.int .i64 K.tick, .int .i64 env, .int .i64 kind] 96))) := (Kept.refl [] w).drew.alloc _
  have O3 := Lib.hid (show OR 96 3 (w.drew.alloc (.cells #[.int .i64 K.tick, .int .i64 env, .int .i64 kind] 96)) w0.heap.size A n c ns from h.own.kept Y3.out (by simp))
  have M3 := Lib.hid (show MB (w.drew.alloc (.cells #[.int .i64 K.tick, .int .i64 env, .int .i64 kind] 96)) g p K (.slice A n c) from h.mb.kept Y3.out (by simp) (by simp) (by simp) (by simp))
  have X3 := Lib.hid (show Kept [g, p.g3] w0 (w.drew.alloc (.cells #[.int .i64 K.tick, .int .i64 env, .int .i64 kind] 96)) from h.kept.trans (Y3.out.mono (gs' := [g, p.g3]) (by simp)))
  have NW := Lib.hid (lit3 (w.drew.alloc (.cells #[.int .i64 K.tick, .int .i64 env, .int .i64 kind] 96)) K.tick env kind w.heap.size (heap_alloc_new w.drew _))
  have Z3 := Lib.hid (show w0.heap.size ≤ (w.drew.alloc (.cells #[.int .i64 K.tick, .int .i64 env, .int .i64 kind] 96)).heap.size from X3.out.1.size)
  obtain ⟨q0, q1, q2, q3, q4⟩ := h.mb.cells
  have q5 := h.mb.note
  have f5 := h.mb.froz 5
  have p5 : (w.alloc (.cells #[.int .i64 K.tick, .int .i64 env, .int .i64 kind] 96)).cell? ⟨g, 5, none⟩ = some (.slice A n c) := M3.out.note
  have NE := Lib.hid (h.own.far h.low.1)
  clear h q0 q1 q2 q4
  go_enter Tryz.func144, Tryz.ntmps144
  go_upto_region 0 with (fail)
  go_region_law (refine step_append_lies _ rfl (.tmp 10) (.tmp 19) 31 rfl w0.heap.size 96 i0 (.agg #[.int .i64 0, .int .i64 0, .int .i64 0]) 3 24 Tryz.underlying31 hi0 hz0 hz1 hz2 rfl (by decide) _ n _ rfl O3.out ⟨w.heap.size, 0, none⟩ 1 1 [.int .i64 K.tick, .int .i64 env, .int .i64 kind] rfl rfl NW.out (by simp [Value.oneCell']) (by decide) (by unfold maxLen; omega) (by omega) Z3.out _ rfl ?_; intro g7 cap w7 hown hgrow hat hlt; have K7 := Lib.hid ((hgrow.block g M3.out.lt NE.out).trans M3.out.box); have y0 := cell_of_row w7 _ 5 _ _ _ K7.out; have f7 := frozen_of_row w7 _ 5 _ _ K7.out; simp at y0; have HO7 := Lib.hid hown; have HG7 := Lib.hid hgrow; have HAT := Lib.hid hat; clear hown hgrow hat hlt)
  all_goals
    go_wp2_with fail
    go_end0
    have ho := HO7.out
    rw [show vals ns ++ [Value.int .i64 K.tick, .int .i64 env, .int .i64 kind] = vals (ns ++ [K.tick, env, kind]) by simp [vals]] at ho
    have GW := OR.grew O3.out Z3.out HG7.out
    have M7 := M3.out.low GW LO.out.1 LO.out.2.1 LO.out.2.2.1 LO.out.2.2.2
    have S7 : Kept [g] w7 (w7.setCell ⟨g, 5, none⟩ (.slice (some ⟨g7, 0, none⟩) (n + 1) cap)) := (Kept.refl [g] w7).setCell (p := ⟨g, 5, none⟩) (by simp) _
    refine ⟨rfl, _, _, ⟨M7.setNote _, OR.kept ho S7 (OR.notIn ho (by have := LO.out; simp; omega)), (X3.out.low GW).trans (S7.mono (gs' := [g, p.g3]) (by simp)), LO.out⟩, fun b hb hg hn => ?_⟩
    have bl := Y3.out.1.size
    refine ⟨(Below.heap_setCell w7 ⟨g, 5, none⟩ _ b hg).trans ((HG7.out.block b (Nat.lt_of_lt_of_le hb bl) hn).trans (Y3.out.2 b hb (by simp))), fun e => ?_⟩
    have e : b = g7 := Option.some.inj e
    rcases HAT.out with h1 | h1
    · exact hn ((congrArg some e).trans h1.symm)
    · have h2 : g7 = w.heap.size + 1 := h1.trans (by simp)
      omega



theorem NB.keptNew {w0 w w' : World} {g : Nat} {p : Kp} {K : Ker} {A : Option Addr} {n c : Nat} {ns : List Int} (h : NB w0 w g p K A n c ns) (k : Kept [] w w') : NB w0 w' g p K A n c ns :=
  ⟨h.mb.kept k (by simp) (by simp) (by simp) (by simp), h.own.kept k (by simp), h.kept.trans (k.mono (gs' := [g, p.g3]) (by simp)), h.low⟩
theorem NB.setAccount {w0 w : World} {g : Nat} {p : Kp} {K : Ker} {A : Option Addr} {n c : Nat} {ns : List Int} (h : NB w0 w g p K A n c ns) {off e : Nat} (hA : p.A3 = some ⟨p.g3, off, none⟩) (he : e < 4) (u x y d : Int) :
    NB w0 ((((w.setCell ⟨p.g3, off + e * 4, none⟩ (.int .i64 u)).setCell ⟨p.g3, off + e * 4 + 1, none⟩ (.int .i64 x)).setCell ⟨p.g3, off + e * 4 + 2, none⟩ (.int .i64 y)).setCell ⟨p.g3, off + e * 4 + 3, none⟩ (.int .i64 d)) g p { K with ac := setAcc K.ac e u x y d } A n c ns :=
  ⟨h.mb.setAccount hA he u x y d, h.own.kept ((Kept.refl [p.g3] w).set4 (by simp) _ _ _ _) (OR.notIn h.own (by have := h.low; simp; omega)), h.kept.set4 (by simp) _ _ _ _, h.low⟩
theorem NB.drew {w0 w : World} {g : Nat} {p : Kp} {K : Ker} {A : Option Addr} {n c : Nat} {ns : List Int} (h : NB w0 w g p K A n c ns) : NB w0 w.drew g p K A n c ns :=
  h.keptNew (Kept.refl [] w).drew
theorem NB.setRun {w0 w : World} {g : Nat} {p : Kp} {K : Ker} {A : Option Addr} {n c : Nat} {ns : List Int} (h : NB w0 w g p K A n c ns) (v : Int) : NB w0 (w.setCell ⟨g, 4, none⟩ (.int .i64 v)) g p { K with run := v } A n c ns :=
  ⟨h.mb.setRun v, h.own.kept ((Kept.refl [g] w).setCell (p := ⟨g, 4, none⟩) (by simp) _) (OR.notIn h.own (by have := h.low; simp; omega)), h.kept.setCell (p := ⟨g, 4, none⟩) (by simp) _, h.low⟩
theorem NB.setTick {w0 w : World} {g : Nat} {p : Kp} {K : Ker} {A : Option Addr} {n c : Nat} {ns : List Int} (h : NB w0 w g p K A n c ns) (v : Int) : NB w0 (w.setCell ⟨g, 3, none⟩ (.int .i64 v)) g p { K with tick := v } A n c ns :=
  ⟨h.mb.setTick v, h.own.kept ((Kept.refl [g] w).setCell (p := ⟨g, 3, none⟩) (by simp) _) (OR.notIn h.own (by have := h.low; simp; omega)), h.kept.setCell (p := ⟨g, 3, none⟩) (by simp) _, h.low⟩

set_option maxHeartbeats 1000000 in
theorem count_any {w0 w : World} {g : Nat} {p : Kp} {K : Ker} {A : Option Addr} {n c : Nat} {ns : List Int} (h : NB w0 w g p K A n c ns) (e : Nat) (he : e < 4) (r : R2) (hr : r.1 = 0 ∨ r.1 = 8) :
    Calls Tryz.prog 145 #[.pointer (some ⟨g, 0, none⟩), .int .i64 (e : Int), rv2 r] w fun e' w' => e' = .returned (.tuple #[]) ∧ NB w0 w' g p (put3 K e r) A n c ns ∧ Kept [g, p.g3] w w' := by
  obtain ⟨q, u, x, y, d, b, rfl⟩ := six r
  rw [rv_eq]
  obtain ⟨w1, hw1⟩ : ∃ w1, w1 = w.alloc (.cells #[.int .i64 q, .int .i64 u, .int .i64 x, .int .i64 y, .int .i64 d, .bool b] 163) := ⟨_, rfl⟩
  have k1 : w1.heap[w.heap.size]? = some (.cells #[.int .i64 q, .int .i64 u, .int .i64 x, .int .i64 y, .int .i64 d, .bool b] 163 (0, 0)) := by rw [hw1]; exact heap_alloc_new w _
  have X1 := Lib.hid (show Kept [g, p.g3] w w1 by rw [hw1]; exact (Kept.refl _ _).alloc _)
  have H1 := Lib.hid (h.keptNew (show Kept [] w w1 by rw [hw1]; exact (Kept.refl _ _).alloc _))
  have b0 := cell_of_row w1 _ 0 _ _ _ k1; have b1 := cell_of_row w1 _ 1 _ _ _ k1; have b2 := cell_of_row w1 _ 2 _ _ _ k1; have b3 := cell_of_row w1 _ 3 _ _ _ k1; have b4 := cell_of_row w1 _ 4 _ _ _ k1
  simp at b0 b1 b2 b3 b4
  obtain ⟨q0, q1, q2, q3, q4⟩ := H1.out.mb.cells
  obtain ⟨o3, hA3, hR3⟩ := H1.out.mb.accs
  have HA3 := Lib.hid hA3
  rw [hA3] at q2
  have a0 : w1.cell? ⟨p.g3, o3 + e * 4, none⟩ = some (.int .i64 (gi K.ac (e * 4))) := hR3.cell (k := e * 4) (by omega)
  have a1 : w1.cell? ⟨p.g3, o3 + e * 4 + 1, none⟩ = some (.int .i64 (gi K.ac (e * 4 + 1))) := hR3.cell (k := e * 4 + 1) (by omega)
  have a2 : w1.cell? ⟨p.g3, o3 + e * 4 + 2, none⟩ = some (.int .i64 (gi K.ac (e * 4 + 2))) := hR3.cell (k := e * 4 + 2) (by omega)
  have a3 : w1.cell? ⟨p.g3, o3 + e * 4 + 3, none⟩ = some (.int .i64 (gi K.ac (e * 4 + 3))) := hR3.cell (k := e * 4 + 3) (by omega)
  have f0 := hR3.frozen (o3 + e * 4); have f1 := hR3.frozen (o3 + e * 4 + 1); have f2 := hR3.frozen (o3 + e * 4 + 2); have f3 := hR3.frozen (o3 + e * 4 + 3)
  have z0 : (0 : Int) ≤ (e : Int) := by omega
  have z1 : (e : Int) < 4 := by omega
  have HW1 := Lib.hid hw1
  clear k1 hw1 h hA3 hR3 q0 q1 q3 q4
  rcases hr with hq | hq
  · obtain rfl : q = 0 := hq
    have PE : Hid (put3 K e (0, u, x, y, d, b) = { K with ac := setAcc K.ac e u x y d }) := by show _ = _; unfold put3; rw [if_pos rfl]
    go_enter Tryz.func145, Tryz.ntmps145
    go_upto_region 1 with (fail)
    rw [← HW1.out]
    clear HW1
    go_wp2_with fail
    refine (must_no _).mono ?_
    rintro e9 w9 ⟨rfl, rfl⟩
    go_wp2_with fail
    go_region
    all_goals
      go_end0
      exact ⟨rfl, by rw [PE.out]; exact (H1.out.setAccount HA3.out he u x y d).drew, (X1.out.set4 (by simp) _ _ _ _).drew⟩
  · obtain rfl : q = 8 := hq
    have PE : Hid (put3 K e (8, u, x, y, d, b) = K) := by show _ = _; unfold put3; rw [if_neg (by simp)]
    go_enter Tryz.func145, Tryz.ntmps145
    go_upto_region 1 with (fail)
    rw [← HW1.out]
    clear HW1
    go_wp2_with fail
    refine bodyPost_ret (results_none rfl _ _ _) rfl ?_
    exact ⟨rfl, by rw [PE.out]; exact H1.out, X1.out⟩



theorem OR.far2 {t : TypeId} {m : Nat} {w : World} {base n c j : Nat} {A : Option Addr} {hs : List Int} (h : OR t m w base A n c hs) (hj : w.heap.size ≤ j) : some j ≠ (Value.slice A n c).ownBlock := by
  intro e
  rcases A with _ | ad
  · cases e
  · obtain ⟨g', e1, h1, h2⟩ := OR.at_ h (by simp)
    injection e1 with e1
    subst e1
    have e2 : some j = some g' := e
    injection e2 with e2
    omega
def NX (w0 w : World) (g : Nat) (p : Kp) (K : Ker) (ns : List Int) (bs : List (Nat × Obj)) : Prop :=
  ∃ A n c, NB w0 w g p K A n c ns ∧ ∀ b, b ∈ bs → w.heap[b.1]? = some b.2 ∧ b.1 ≠ g ∧ b.1 ≠ p.g3 ∧ some b.1 ≠ (Value.slice A n c).ownBlock
theorem NX.keptNew {w0 w : World} {g : Nat} {p : Kp} {K : Ker} {ns : List Int} {bs : List (Nat × Obj)} {w' : World} (h : NX w0 w g p K ns bs) (k : Kept [] w w') : NX w0 w' g p K ns bs := by
  obtain ⟨A, n, c, h, hb⟩ := h
  exact ⟨A, n, c, h.keptNew k, fun b hm => ⟨(k.2 b.1 (Array.getElem?_eq_some_iff.1 (hb b hm).1).1 (by simp)).trans (hb b hm).1, (hb b hm).2⟩⟩
theorem NX.below {w0 w : World} {g : Nat} {p : Kp} {K : Ker} {ns : List Int} {bs : List (Nat × Obj)} {w' : World} (h : NX w0 w g p K ns bs) (k : Below w.heap.size w w') : NX w0 w' g p K ns bs := h.keptNew (Kept.of_below k [])
theorem NX.setRun {w0 w : World} {g : Nat} {p : Kp} {K : Ker} {ns : List Int} {bs : List (Nat × Obj)} (h : NX w0 w g p K ns bs) (v : Int) : NX w0 (w.setCell ⟨g, 4, none⟩ (.int .i64 v)) g p { K with run := v } ns bs := by
  obtain ⟨A, n, c, h, hb⟩ := h
  exact ⟨A, n, c, h.setRun v, fun b hm => ⟨(Below.heap_setCell w ⟨g, 4, none⟩ _ b.1 (hb b hm).2.1).trans (hb b hm).1, (hb b hm).2⟩⟩
theorem NX.setTick {w0 w : World} {g : Nat} {p : Kp} {K : Ker} {ns : List Int} {bs : List (Nat × Obj)} (h : NX w0 w g p K ns bs) (v : Int) : NX w0 (w.setCell ⟨g, 3, none⟩ (.int .i64 v)) g p { K with tick := v } ns bs := by
  obtain ⟨A, n, c, h, hb⟩ := h
  exact ⟨A, n, c, h.setTick v, fun b hm => ⟨(Below.heap_setCell w ⟨g, 3, none⟩ _ b.1 (hb b hm).2.1).trans (hb b hm).1, (hb b hm).2⟩⟩
theorem NX.mb {w0 w : World} {g : Nat} {p : Kp} {K : Ker} {ns : List Int} {bs : List (Nat × Obj)} (h : NX w0 w g p K ns bs) : ∃ q, MB w g p K q := by
  obtain ⟨A, n, c, h, _⟩ := h
  exact ⟨_, h.mb⟩
theorem NX.guest {w0 w : World} {g : Nat} {p : Kp} {K : Ker} {ns : List Int} {bs : List (Nat × Obj)} {w' : World} (h : NX w0 w g p K ns bs) (k : Kept [] w w') {b : Nat} {x : Obj} (ho : w'.heap[b]? = some x) (hn : w.heap.size ≤ b) : NX w0 w' g p K ns ((b, x) :: bs) := by
  have l1 := h.mb
  obtain ⟨_, hm⟩ := h.mb
  have l1 := hm.lt
  have l2 := hm.lt2.2
  obtain ⟨A, n, c, h, hb⟩ := h
  exact ⟨A, n, c, h.keptNew k, fun b' hm' => by
    rcases List.mem_cons.1 hm' with e | hm'
    · subst e
      exact ⟨ho, by show b ≠ g; omega, by show b ≠ p.g3; omega, OR.far2 h.own hn⟩
    · exact ⟨(k.2 b'.1 (Array.getElem?_eq_some_iff.1 (hb b' hm').1).1 (by simp)).trans (hb b' hm').1, (hb b' hm').2⟩⟩
theorem NX.forget {w0 w : World} {g : Nat} {p : Kp} {K : Ker} {ns : List Int} {bs : List (Nat × Obj)} {b : Nat × Obj} (h : NX w0 w g p K ns (b :: bs)) : NX w0 w g p K ns bs := by
  obtain ⟨A, n, c, h, hb⟩ := h
  exact ⟨A, n, c, h, fun b hm => hb b (List.mem_cons_of_mem _ hm)⟩
theorem NX.at {w0 w : World} {g : Nat} {p : Kp} {K : Ker} {ns : List Int} {bs : List (Nat × Obj)} {b : Nat} {x : Obj} (h : NX w0 w g p K ns ((b, x) :: bs)) : w.heap[b]? = some x ∧ b ≠ g ∧ b ≠ p.g3 := by
  obtain ⟨A, n, c, h, hb⟩ := h
  obtain ⟨h1, h2, h3, _⟩ := hb (b, x) (List.mem_cons_self ..)
  exact ⟨h1, h2, h3⟩
theorem note_nx {w0 w : World} {g : Nat} {p : Kp} {K : Ker} {ns : List Int} {bs : List (Nat × Obj)} (h : NX w0 w g p K ns bs) (hl : ns.length ≤ 200) (env kind : Int) :
    Calls Tryz.prog 144 #[.pointer (some ⟨g, 0, none⟩), .int .i64 env, .int .i64 kind] w fun e w' => e = .returned (.tuple #[]) ∧ NX w0 w' g p K (ns ++ [K.tick, env, kind]) bs := by
  obtain ⟨A, n, c, h, hb⟩ := h
  have hn := h.own.len
  refine (note_any h env kind (by omega)).mono ?_
  rintro e w' ⟨rfl, A', c', h', hk⟩
  exact ⟨rfl, A', n + 1, c', h', fun b hm => by
    obtain ⟨h1, h2, h3, h4⟩ := hb b hm
    obtain ⟨k1, k2⟩ := hk b.1 (Array.getElem?_eq_some_iff.1 h1).1 h2 h4
    exact ⟨k1.trans h1, h2, h3, k2⟩⟩
theorem count_nx {w0 w : World} {g : Nat} {p : Kp} {K : Ker} {ns : List Int} {bs : List (Nat × Obj)} (h : NX w0 w g p K ns bs) (e : Nat) (he : e < 4) (r : R2) (hr : r.1 = 0 ∨ r.1 = 8) :
    Calls Tryz.prog 145 #[.pointer (some ⟨g, 0, none⟩), .int .i64 (e : Int), rv2 r] w fun e' w' => e' = .returned (.tuple #[]) ∧ NX w0 w' g p (put3 K e r) ns bs := by
  obtain ⟨A, n, c, h, hb⟩ := h
  refine (count_any h e he r hr).mono ?_
  rintro e' w' ⟨rfl, h', hk⟩
  exact ⟨rfl, A, n, c, h', fun b hm => by
    obtain ⟨h1, h2, h3, h4⟩ := hb b hm
    exact ⟨(hk.2 b.1 (Array.getElem?_eq_some_iff.1 h1).1 (by simp [h2, h3])).trans h1, h2, h3, h4⟩⟩

theorem code_skip {u x g d : Int} (h : af u x g d = 0) (hd : 0 < d) : (skip2 u x g d).1 = 0 := by unfold skip2; rw [if_neg (by simp [h]), if_neg (by omega)]
theorem code_pun {u x g d : Int} (h : af u x g d = 0) : (pun2 u x g d).1 = 0 := by
  unfold pun2; rw [if_neg (by simp [h])]; split
  · rfl
  · rfl
theorem code_use {u x g d : Int} (l : Bool) (h : af u x g d = 0) : (use2 u x g d l).1 = 0 ∨ (use2 u x g d l).1 = 8 := by
  unfold use2; rw [if_neg (by simp [h])]
  repeat' split
  all_goals simp
theorem code_give {u x g d : Int} (h : af u x g d = 0) : (give2 u x g d).1 = 0 ∨ (give2 u x g d).1 = 8 := by
  unfold give2; rw [if_neg (by simp [h])]
  repeat' split
  all_goals simp

theorem slotOwner_any {w : World} {g : Nat} {p : Kp} {K : Ker} {q : Value} (h : MB w g p K q) (t : TK K) :
    Calls Tryz.prog 102 #[.agg #[.slice p.A1 p.n1 p.c1, .slice p.A2 4 p.c2, .slice p.A3 4 p.c3, .int .i64 K.tick, .int .i64 K.run]] w fun e w' => e = .returned (.int .i64 (own3 K)) ∧ Below w.heap.size w w' := by
  have l1 := h.own.l1
  obtain ⟨a, ha⟩ : ∃ a, a = K.tick / 9 := ⟨_, rfl⟩
  obtain ⟨s, hs⟩ : ∃ s : Nat, s = (a % (K.os.length : Int)).toNat := ⟨_, rfl⟩
  have t1 := t.tick
  have t2 := t.l1
  have sl := t.slot
  have hs' : a % (K.os.length : Int) = (s : Int) := by rw [hs, ha]; omega
  have h1 : K.tick.tdiv 9 = a := by rw [ha]; exact Int.tdiv_eq_ediv_of_nonneg t1.1
  have h2 : IntKind.i64.wrap a = a := IntWalk.i64_in _ (by omega)
  have h3 : a.tmod (p.n1 : Int) = (s : Int) := by rw [← hs', l1]; exact Int.tmod_eq_emod_of_nonneg (by omega)
  have hsn : s < p.n1 := by rw [hs, ha]; omega
  have h4 : IntKind.i64.wrap (s : Int) = (s : Int) := IntWalk.i64_in _ (by omega)
  have hn : ¬ ((p.n1 : Int) = 0) := by omega
  have hn' : p.n1 ≠ 0 := by omega
  obtain ⟨b, off, hA1, _, hbw, hc⟩ := h.own.m1.sl.at_ hsn
  have c0' := hc s hsn
  rw [show gi K.os s = own3 K by unfold own3; rw [← ha, hs]] at c0'
  obtain ⟨w1, hw1⟩ : ∃ w1, w1 = w.alloc (.cells #[.slice (some ⟨b, off, none⟩) p.n1 p.c1, .slice p.A2 4 p.c2, .slice p.A3 4 p.c3, .int .i64 K.tick, .int .i64 K.run] 39) := ⟨_, rfl⟩
  have k1 : w1.heap[w.heap.size]? = some (.cells #[.slice (some ⟨b, off, none⟩) p.n1 p.c1, .slice p.A2 4 p.c2, .slice p.A3 4 p.c3, .int .i64 K.tick, .int .i64 K.run] 39 (0, 0)) := by rw [hw1]; exact heap_alloc_new w _
  have B1 : Hid (Below w.heap.size w w1) := by rw [hw1]; exact below_new w _
  have b0 := cell_of_row w1 _ 0 _ _ _ k1; have b1 := cell_of_row w1 _ 1 _ _ _ k1; have b2 := cell_of_row w1 _ 2 _ _ _ k1; have b3 := cell_of_row w1 _ 3 _ _ _ k1; have b4 := cell_of_row w1 _ 4 _ _ _ k1
  simp at b0 b1 b2 b3 b4
  have c0 : w1.cell? ⟨b, off + s, none⟩ = some (.int .i64 (own3 K)) := (B1.out.cell (World.block_lt_of_cell? _ _ c0')).trans c0'
  have z0 : (0 : Int) ≤ (s : Int) := by omega
  have z1 : (s : Int) < (p.n1 : Int) := by omega
  have BD : Hid (∀ n, Below w.heap.size w (w1.drewN n)) := fun _ => ⟨B1.out.os, B1.out.tape, B1.out.output, B1.out.size, B1.out.block⟩
  have HW1 := Lib.hid hw1
  rw [hA1]
  clear ha hs t1 t2 sl t h hs' hA1 hbw hc c0' k1 B1 hw1 l1 hsn
  go_enter Tryz.func102, Tryz.ntmps102
  go_upto_region 1 with (fail)
  rw [← HW1.out]
  clear HW1
  go_quiet (fail)
  go_wp2
  go_ret
  exact ⟨rfl, BD.out _⟩

set_option maxHeartbeats 1000000 in
theorem beginWindow_any {w0 w : World} {g : Nat} {p : Kp} {K : Ker} {ns : List Int} {bs : List (Nat × Obj)} (h : NX w0 w g p K ns bs) (t : TK K) (hl : ns.length ≤ 200) :
    Calls Tryz.prog 113 #[.pointer (some ⟨g, 0, none⟩)] w fun e w' => e = .returned (.tuple #[]) ∧ NX w0 w' g p (begin3 K).1 (ns ++ (begin3 K).2) bs := by
  have H := Lib.hid h
  have TT := Lib.hid t
  have HL := Lib.hid hl
  obtain ⟨q, hm⟩ := h.mb
  obtain ⟨q0, q1, q2, q3, q4⟩ := hm.cells
  have SO := Lib.hid (slotOwner_any hm t)
  clear h t hl hm
  go_enter Tryz.func113, Tryz.ntmps113
  go_wp2_with fail
  refine SO.out.mono ?_
  rintro e9 w2 ⟨rfl, hb⟩
  have H2 := Lib.hid (H.out.below hb)
  clear hb q0 q1 q2 q3 q4 SO H
  obtain ⟨o, ho⟩ : ∃ o, o = own3 K := ⟨_, rfl⟩
  rw [← ho]
  have HOO := Lib.hid ho
  have TO := Lib.hid (show o = -1 ∨ (0 ≤ o ∧ o < 4) by rw [ho]; exact TT.out.own)
  clear ho
  by_cases h1 : o = -1
  · have BE : Hid (begin3 K = (K, [K.tick, -1, 3])) := by show _ = _; unfold begin3; rw [← HOO.out, if_pos h1]
    subst h1
    go_wp2_with fail
    refine (note_nx H2.out HL.out (-1) 3).mono ?_
    rintro e9 w3 ⟨rfl, hn⟩
    go_wp2_with fail
    first | refine bodyPost_ret (results_none rfl _ _ _) rfl ?_ | refine bodyPost_end (results_none rfl _ _ _) rfl ?_
    rw [BE.out]
    exact ⟨rfl, hn⟩
  · obtain ⟨e, he⟩ : ∃ e : Nat, o = (e : Int) := ⟨o.toNat, by have := TO.out; omega⟩
    have he4 : e < 4 := by have := TO.out; omega
    have HE : Hid (own3 K ≠ -1 ∧ (own3 K).toNat = e ∧ own3 K = (e : Int)) := by show _ ∧ _ ∧ _; rw [← HOO.out]; exact ⟨h1, by omega, he⟩
    subst he
    have y0 : (0 : Int) ≤ (e : Int) := by omega
    have y1 : (e : Int) < 4 := by omega
    have y2 : ((e : Int) == -1) = false := by first | (simp; done) | (simp; omega)
    clear h1
    obtain ⟨_, hm⟩ := H2.out.mb
    have fg := hm.froz 4
    obtain ⟨q0, q1, q2, q3, q4⟩ := hm.cells
    obtain ⟨o3, hA3, hR3⟩ := hm.accs
    rw [hA3] at q2
    have a0 : w2.cell? ⟨p.g3, o3 + e * 4, none⟩ = some (.int .i64 (gi K.ac (e * 4))) := hR3.cell (k := e * 4) (by omega)
    have a1 : w2.cell? ⟨p.g3, o3 + e * 4 + 1, none⟩ = some (.int .i64 (gi K.ac (e * 4 + 1))) := hR3.cell (k := e * 4 + 1) (by omega)
    have a2 : w2.cell? ⟨p.g3, o3 + e * 4 + 2, none⟩ = some (.int .i64 (gi K.ac (e * 4 + 2))) := hR3.cell (k := e * 4 + 2) (by omega)
    have a3 : w2.cell? ⟨p.g3, o3 + e * 4 + 3, none⟩ = some (.int .i64 (gi K.ac (e * 4 + 3))) := hR3.cell (k := e * 4 + 3) (by omega)
    clear hA3 hR3 hm
    by_cases hd : 0 < gi K.ac (e * 4 + 3)
    · have BE : Hid (begin3 K = (put3 K e (acf K e skip2), [K.tick, (e : Int), 2])) := by
        show _ = _
        unfold begin3
        rw [if_neg HE.out.1, HE.out.2.1, if_pos hd, HE.out.2.2]
      have CO : Hid ((acf K e skip2).1 = 0 ∨ (acf K e skip2).1 = 8) := .inl (code_skip (TT.out.ac e he4) hd)
      go_wp2_with fail
      refine (implSkipAccount_any _ _ _ _ _).mono ?_
      rintro e9 w5 ⟨rfl, hb⟩
      have H5 := Lib.hid (H2.out.below hb)
      clear hb H2 q0 q1 q2 q3 q4 a0 a1 a2 a3 fg hd
      go_wp2_with fail
      refine (count_nx H5.out e he4 _ CO.out).mono ?_
      rintro e9 w6 ⟨rfl, hn⟩
      have H6 := Lib.hid hn
      clear hn H5
      go_wp2_with fail
      refine (note_nx H6.out HL.out (e : Int) 2).mono ?_
      rintro e9 w7 ⟨rfl, hn⟩
      go_wp2_with fail
      first | refine bodyPost_ret (results_none rfl _ _ _) rfl ?_ | refine bodyPost_end (results_none rfl _ _ _) rfl ?_
      rw [(put3_os _ _ _).2.2.1] at hn
      rw [BE.out]
      exact ⟨rfl, hn⟩
    · have BE : Hid (begin3 K = ({ K with run := (e : Int) }, [K.tick, (e : Int), 1])) := by
        show _ = _
        unfold begin3
        rw [if_neg HE.out.1, HE.out.2.1, if_neg hd, HE.out.2.2]
      go_upto_region 7 with (fail)
      obtain ⟨w5, hw5⟩ : ∃ w5, w5 = w2.setCell ⟨g, 4, none⟩ (.int .i64 (e : Int)) := ⟨_, rfl⟩
      rw [← hw5]
      have H5 := Lib.hid (show NX w0 w5 g p { K with run := (e : Int) } ns bs by rw [hw5]; exact H2.out.setRun _)
      clear hw5 q0 q1 q2 q3 q4 a0 a1 a2 a3 fg H2 hd
      go_wp2_with fail
      refine (note_nx H5.out HL.out (e : Int) 1).mono ?_
      rintro e9 w7 ⟨rfl, hn⟩
      go_wp2_with fail
      first | refine bodyPost_ret (results_none rfl _ _ _) rfl ?_ | refine bodyPost_end (results_none rfl _ _ _) rfl ?_
      rw [BE.out]
      exact ⟨rfl, hn⟩

set_option maxHeartbeats 1000000 in
theorem endWindow_any {w0 w : World} {g : Nat} {p : Kp} {K : Ker} {ns : List Int} {bs : List (Nat × Obj)} (h : NX w0 w g p K ns bs) (t : TK K) (hr : K.run ≠ -1) (hl : ns.length ≤ 200) :
    Calls Tryz.prog 115 #[.pointer (some ⟨g, 0, none⟩)] w fun e w' => e = .returned (.tuple #[]) ∧ NX w0 w' g p (end3 K).1 (ns ++ (end3 K).2) bs := by
  have H := Lib.hid h
  have HL := Lib.hid hl
  obtain ⟨e, he⟩ : ∃ e : Nat, K.run = (e : Int) := ⟨K.run.toNat, by have := t.run; omega⟩
  have he4 : e < 4 := by have := t.run; omega
  obtain ⟨r, hrr⟩ : ∃ r, r = acf K e pun2 := ⟨_, rfl⟩
  have CO : Hid (r.1 = 0 ∨ r.1 = 8) := .inl (by rw [hrr]; exact code_pun (t.ac e he4))
  have EE : Hid (end3 K = ({ put3 K e r with run := -1 }, [K.tick, (e : Int), if r.2.2.2.2.2 = true then 7 else 6])) := by
    show _ = _
    unfold end3
    rw [he, Int.toNat_natCast, ← hrr]
  have PC : Hid (∀ W, Calls Tryz.prog 150 #[.agg #[.int .i64 (gi K.ac (e * 4)), .int .i64 (gi K.ac (e * 4 + 1)), .int .i64 (gi K.ac (e * 4 + 2)), .int .i64 (gi K.ac (e * 4 + 3))]] W fun e w' => e = .returned (rv2 r) ∧ Below W.heap.size W w') := fun W => by
    rw [hrr]; exact implPunishAccount_any _ _ _ _ W
  obtain ⟨qq, u, x, y, d, b, rfl⟩ := six r
  rw [rv_eq] at PC
  have y0 : (0 : Int) ≤ (e : Int) := by omega
  have y1 : (e : Int) < 4 := by omega
  clear h t hl hr hrr
  obtain ⟨_, hm⟩ := H.out.mb
  have fg := hm.froz 4
  obtain ⟨q0, q1, q2, q3, q4⟩ := hm.cells
  obtain ⟨o3, hA3, hR3⟩ := hm.accs
  rw [hA3] at q2
  have a0 : w.cell? ⟨p.g3, o3 + e * 4, none⟩ = some (.int .i64 (gi K.ac (e * 4))) := hR3.cell (k := e * 4) (by omega)
  have a1 : w.cell? ⟨p.g3, o3 + e * 4 + 1, none⟩ = some (.int .i64 (gi K.ac (e * 4 + 1))) := hR3.cell (k := e * 4 + 1) (by omega)
  have a2 : w.cell? ⟨p.g3, o3 + e * 4 + 2, none⟩ = some (.int .i64 (gi K.ac (e * 4 + 2))) := hR3.cell (k := e * 4 + 2) (by omega)
  have a3 : w.cell? ⟨p.g3, o3 + e * 4 + 3, none⟩ = some (.int .i64 (gi K.ac (e * 4 + 3))) := hR3.cell (k := e * 4 + 3) (by omega)
  clear hA3 hR3 hm
  rw [he] at q4
  have HRUN := Lib.hid he
  clear he
  go_enter Tryz.func115, Tryz.ntmps115
  go_wp2_with fail
  refine (PC.out _).mono ?_
  rintro e9 w2 ⟨rfl, hb⟩
  have H2 := Lib.hid (H.out.below hb)
  clear hb H q0 q1 q2 q3 q4 a0 a1 a2 a3 fg PC
  go_upto_region 2 with (fail)
  obtain ⟨w3, hw3⟩ : ∃ w3, w3 = w2.alloc (.cells #[.int .i64 qq, .int .i64 u, .int .i64 x, .int .i64 y, .int .i64 d, .bool b] 163) := ⟨_, rfl⟩
  first | rw [← hw3] | (trace_state; fail "w3")
  have R3 : w3.heap[w2.heap.size]? = some (.cells #[.int .i64 qq, .int .i64 u, .int .i64 x, .int .i64 y, .int .i64 d, .bool b] 163 (0, 0)) := by
    rw [hw3]
    exact heap_alloc_new w2 _
  have K3 : Kept [] w2 w3 := by
    rw [hw3]
    exact (Kept.refl [] w2).alloc _
  have H3 := Lib.hid (H2.out.guest K3 R3 (Nat.le_refl _))
  obtain ⟨gb, hgb⟩ : ∃ gb, gb = w2.heap.size := ⟨_, rfl⟩
  rw [← hgb] at H3 R3 ⊢
  have b0 := cell_of_row w3 _ 0 _ _ _ R3; have b1 := cell_of_row w3 _ 1 _ _ _ R3; have b2 := cell_of_row w3 _ 2 _ _ _ R3; have b3 := cell_of_row w3 _ 3 _ _ _ R3; have b4 := cell_of_row w3 _ 4 _ _ _ R3; have b5 := cell_of_row w3 _ 5 _ _ _ R3
  simp at b0 b1 b2 b3 b4 b5
  clear hw3 K3 R3 H2 hgb
  have CN := Lib.hid (count_nx H3.out e he4 (qq, u, x, y, d, b) CO.out)
  rw [rv_eq] at CN
  go_wp2_with fail
  refine CN.out.mono ?_
  rintro e9 w4 ⟨rfl, hn⟩
  have H4 := Lib.hid hn
  obtain ⟨_, hm⟩ := H4.out.mb
  have fg := hm.froz 4
  obtain ⟨q0, q1, q2, q3, q4⟩ := hm.cells
  clear hn CN H3 b0 b1 b2 b3 b4 b5 hm q0 q1 q2 q3
  go_upto_region 4 with (fail)
  obtain ⟨w5, hw5⟩ : ∃ w5, w5 = w4.setCell ⟨g, 4, none⟩ (.int .i64 (-1)) := ⟨_, rfl⟩
  rw [← hw5]
  have H5 := Lib.hid (show NX w0 w5 g p { put3 K e (qq, u, x, y, d, b) with run := -1 } ns _ by rw [hw5]; exact H4.out.setRun (-1))
  clear hw5 fg H4 q4
  have b5 := cell_of_row w5 _ 5 _ _ _ H5.out.at.1
  simp at b5
  obtain ⟨K5, hK5⟩ : ∃ K5 : Ker, K5 = { put3 K e (qq, u, x, y, d, b) with run := -1 } := ⟨_, rfl⟩
  have TI : Hid (K5.tick = K.tick) := by show _ = _; rw [hK5]; exact (put3_os _ _ _).2.2.1
  have EF : Hid (end3 K = (K5, [K.tick, (e : Int), if b = true then 7 else 6])) := by show _ = _; rw [EE.out, hK5]
  rw [← hK5] at H5
  clear hK5 EE
  rcases b with _ | _
  · have EG : Hid (end3 K = (K5, [K.tick, (e : Int), 6])) := EF.out
    go_wp2_with fail
    refine (note_nx H5.out HL.out (e : Int) 6).mono ?_
    rintro e9 w7 ⟨rfl, hn⟩
    go_wp2_with fail
    first | refine bodyPost_ret (results_none rfl _ _ _) rfl ?_ | refine bodyPost_end (results_none rfl _ _ _) rfl ?_
    rw [TI.out] at hn
    rw [EG.out]
    exact ⟨rfl, hn.forget⟩
  · have EG : Hid (end3 K = (K5, [K.tick, (e : Int), 7])) := EF.out
    go_wp2_with fail
    refine (note_nx H5.out HL.out (e : Int) 7).mono ?_
    rintro e9 w7 ⟨rfl, hn⟩
    go_wp2_with fail
    first | refine bodyPost_ret (results_none rfl _ _ _) rfl ?_ | refine bodyPost_end (results_none rfl _ _ _) rfl ?_
    rw [TI.out] at hn
    rw [EG.out]
    exact ⟨rfl, hn.forget⟩



set_option maxHeartbeats 1000000 in
theorem meetReturn_any {w0 w : World} {g : Nat} {p : Kp} {K : Ker} {ns : List Int} {bs : List (Nat × Obj)} (h : NX w0 w g p K ns bs) (hl : ns.length ≤ 200) (kk to : Int) :
    Calls Tryz.prog 148 #[.pointer (some ⟨g, 0, none⟩), .agg #[.int .i64 kk, .int .i64 to]] w fun e w' => e = .returned (.tuple #[]) ∧ NX w0 w' g p { K with run := -1 } (ns ++ [K.tick, K.run, 5]) bs := by
  obtain ⟨w1, hw1⟩ : ∃ w1, w1 = w.alloc (.cells #[.int .i64 kk, .int .i64 to] 53) := ⟨_, rfl⟩
  have R1 : w1.heap[w.heap.size]? = some (.cells #[.int .i64 kk, .int .i64 to] 53 (0, 0)) := by rw [hw1]; exact heap_alloc_new w _
  have H1 := Lib.hid (h.guest (show Kept [] w w1 by rw [hw1]; exact (Kept.refl _ _).alloc _) R1 (Nat.le_refl _))
  obtain ⟨bx, hbx⟩ : ∃ bx, bx = w.heap.size := ⟨_, rfl⟩
  rw [← hbx] at H1 R1
  have HBX := Lib.hid hbx
  have HW1 := Lib.hid hw1
  have HL := Lib.hid hl
  obtain ⟨_, hm⟩ := H1.out.mb
  obtain ⟨q0, q1, q2, q3, q4⟩ := hm.cells
  clear h hl hm R1 hw1 hbx
  go_enter Tryz.func148, Tryz.ntmps148
  go_upto_region 1 with (fail)
  rw [← HW1.out]
  clear HW1 HBX
  go_wp2_with fail
  refine (note_nx H1.out HL.out K.run 5).mono ?_
  rintro e9 w2 ⟨rfl, hn⟩
  have H2 := Lib.hid hn
  clear hn H1 q0 q1 q2 q3 q4
  obtain ⟨_, hm⟩ := H2.out.mb
  have fg := hm.froz 4
  obtain ⟨q0, q1, q2, q3, q4⟩ := hm.cells
  clear hm q0 q1 q2 q3
  go_wp2_with fail
  first | refine bodyPost_ret (results_none rfl _ _ _) rfl ?_ | refine bodyPost_end (results_none rfl _ _ _) rfl ?_
  exact ⟨rfl, (H2.out.setRun (-1)).forget⟩

set_option maxHeartbeats 2000000 in
theorem meetWork_any {w0 w : World} {g : Nat} {p : Kp} {K : Ker} {ns : List Int} {bs : List (Nat × Obj)} (h : NX w0 w g p K ns bs) (t : TK K) (hr : K.run ≠ -1) (hl : ns.length ≤ 200) (kk to : Int) :
    Calls Tryz.prog 147 #[.pointer (some ⟨g, 0, none⟩), .agg #[.int .i64 kk, .int .i64 to]] w fun e w' => e = .returned (.tuple #[]) ∧ NX w0 w' g p (put3 K K.run.toNat (acf K K.run.toNat (fun u x g d => use2 u x g d (decide (6 ≤ K.tick % 9))))) ns bs := by
  obtain ⟨w1, hw1⟩ : ∃ w1, w1 = w.alloc (.cells #[.int .i64 kk, .int .i64 to] 53) := ⟨_, rfl⟩
  have R1 : w1.heap[w.heap.size]? = some (.cells #[.int .i64 kk, .int .i64 to] 53 (0, 0)) := by rw [hw1]; exact heap_alloc_new w _
  have H1 := Lib.hid (h.guest (show Kept [] w w1 by rw [hw1]; exact (Kept.refl _ _).alloc _) R1 (Nat.le_refl _))
  obtain ⟨bx, hbx⟩ : ∃ bx, bx = w.heap.size := ⟨_, rfl⟩
  rw [← hbx] at H1 R1
  have HBX := Lib.hid hbx
  have HW1 := Lib.hid hw1
  have HL := Lib.hid hl
  obtain ⟨e, he⟩ : ∃ e : Nat, K.run = (e : Int) := ⟨K.run.toNat, by have := t.run; omega⟩
  have he4 : e < 4 := by have := t.run; omega
  have y0 : (0 : Int) ≤ (e : Int) := by omega
  have y1 : (e : Int) < 4 := by omega
  obtain ⟨L, hL⟩ : ∃ L, L = decide (6 ≤ K.tick % 9) := ⟨_, rfl⟩
  have CO : Hid ((use2 (gi K.ac (e * 4)) (gi K.ac (e * 4 + 1)) (gi K.ac (e * 4 + 2)) (gi K.ac (e * 4 + 3)) L).1 = 0 ∨ (use2 (gi K.ac (e * 4)) (gi K.ac (e * 4 + 1)) (gi K.ac (e * 4 + 2)) (gi K.ac (e * 4 + 3)) L).1 = 8) := code_use L (t.ac e he4)
  have RE : Hid (put3 K K.run.toNat (acf K K.run.toNat (fun u x g d => use2 u x g d (decide (6 ≤ K.tick % 9)))) = put3 K e (use2 (gi K.ac (e * 4)) (gi K.ac (e * 4 + 1)) (gi K.ac (e * 4 + 2)) (gi K.ac (e * 4 + 3)) L)) := by
    show _ = _
    rw [← hL, he, Int.toNat_natCast]
    rfl
  have HLL := Lib.hid hL
  have TI := Lib.hid t.tick.1
  obtain ⟨_, hm⟩ := H1.out.mb
  obtain ⟨o3, hA3, hR3⟩ := hm.accs
  have a0 : w1.cell? ⟨p.g3, o3 + e * 4, none⟩ = some (.int .i64 (gi K.ac (e * 4))) := hR3.cell (k := e * 4) (by omega)
  have a1 : w1.cell? ⟨p.g3, o3 + e * 4 + 1, none⟩ = some (.int .i64 (gi K.ac (e * 4 + 1))) := hR3.cell (k := e * 4 + 1) (by omega)
  have a2 : w1.cell? ⟨p.g3, o3 + e * 4 + 2, none⟩ = some (.int .i64 (gi K.ac (e * 4 + 2))) := hR3.cell (k := e * 4 + 2) (by omega)
  have a3 : w1.cell? ⟨p.g3, o3 + e * 4 + 3, none⟩ = some (.int .i64 (gi K.ac (e * 4 + 3))) := hR3.cell (k := e * 4 + 3) (by omega)
  have FS : Hid (∀ W (K' : Ker) q, MB W g p K' q → K'.run = (e : Int) → W.cell? ⟨g, 2, none⟩ = some (.slice (some ⟨p.g3, o3, none⟩) 4 p.c3) ∧ W.cell? ⟨g, 4, none⟩ = some (.int .i64 (e : Int))) := fun W K' q hM hE => by
    obtain ⟨r0, r1, r2, r3, r4⟩ := hM.cells
    rw [hA3] at r2
    rw [hE] at r4
    exact ⟨r2, r4⟩
  obtain ⟨q0, q1, q2, q3, q4⟩ := hm.cells
  have HRUN := Lib.hid he
  clear h hl hm R1 hw1 hbx t hr hL hA3 hR3
  go_enter Tryz.func147, Tryz.ntmps147
  go_upto_region 1 with (fail)
  rw [← HW1.out]
  clear HW1 HBX
  go_wp2_with fail
  refine (phaseOf_any _ _ _ _ _ _ TI.out).mono ?_
  rintro e9 w2 ⟨rfl, hb⟩
  have H2 := Lib.hid (H1.out.below hb)
  have B2 := Lib.hid hb
  replace a0 := (B2.out.cell (World.block_lt_of_cell? _ _ a0)).trans a0
  replace a1 := (B2.out.cell (World.block_lt_of_cell? _ _ a1)).trans a1
  replace a2 := (B2.out.cell (World.block_lt_of_cell? _ _ a2)).trans a2
  replace a3 := (B2.out.cell (World.block_lt_of_cell? _ _ a3)).trans a3
  clear hb H1 q0 q1 q2 q3 q4 B2
  go_upto_region 2 with (fail)
  first | rw [← HLL.out] | (trace_state; fail "L")
  refine wp_region_held_drew (S := fun W => W.cell? ⟨g, 2, none⟩ = some (.slice (some ⟨p.g3, o3, none⟩) 4 p.c3) ∧ W.cell? ⟨g, 4, none⟩ = some (.int .i64 (e : Int))) (by kernel_rfl) ((by obtain ⟨_, hm⟩ := H2.out.mb; exact FS.out _ _ _ hm.drew HRUN.out)) (fun hHeld => ?_)
  obtain ⟨v0, hv0⟩ : ∃ v0, v0 = w2.drew := ⟨_, rfl⟩
  have BL0 : Hid (Below w2.heap.size w2 v0) := by rw [hv0]; exact Below.drew (Below.refl _ _)
  rw [← hv0] at hHeld ⊢
  clear hv0
  refine tkH 0 ?_ rfl ?_ hHeld ?_; rotate_left; (intro w hSw; (try dsimp only at hSw); go_simp; try with_reducible rfl); try simp only [Act.put, zz1, zz2, zz3, zz4, zz5, zz6]
  refine tkH 1 ?_ rfl ?_ hHeld ?_; rotate_left; (intro w hSw; (try dsimp only at hSw); go_simp; try with_reducible rfl); try simp only [Act.put, zz1, zz2, zz3, zz4, zz5, zz6]
  refine tkH 2 ?_ rfl ?_ hHeld ?_; rotate_left; (intro w hSw; (try dsimp only at hSw); go_simp; try with_reducible rfl); try simp only [Act.put, zz1, zz2, zz3, zz4, zz5, zz6]
  refine tkH 3 ?_ rfl ?_ hHeld ?_; rotate_left; (intro w hSw; (try dsimp only at hSw); go_simp; try with_reducible rfl); try simp only [Act.put, zz1, zz2, zz3, zz4, zz5, zz6]
  refine tkH 4 ?_ rfl ?_ hHeld ?_; rotate_left; (intro w hSw; (try dsimp only at hSw); go_simp; try with_reducible rfl); try simp only [Act.put, zz1, zz2, zz3, zz4, zz5, zz6]
  refine tkH 5 ?_ rfl ?_ hHeld ?_; rotate_left; (intro w hSw; (try dsimp only at hSw); go_simp; try with_reducible rfl); try simp only [Act.put, zz1, zz2, zz3, zz4, zz5, zz6]
  refine tkH 6 ?_ rfl ?_ hHeld ?_; rotate_left; (intro w hSw; (try dsimp only at hSw); go_simp; try with_reducible rfl); try simp only [Act.put, zz1, zz2, zz3, zz4, zz5, zz6]
  refine tkH 7 ?_ rfl ?_ hHeld ?_; rotate_left; (intro w hSw; (try dsimp only at hSw); go_simp; try with_reducible rfl); try simp only [Act.put, zz1, zz2, zz3, zz4, zz5, zz6]
  refine tkH 8 ?_ rfl ?_ hHeld ?_; rotate_left; (intro w hSw; (try dsimp only at hSw); go_simp; try with_reducible rfl); try simp only [Act.put, zz1, zz2, zz3, zz4, zz5, zz6]
  refine tkH 9 ?_ rfl ?_ hHeld ?_; rotate_left; (intro w hSw; (try dsimp only at hSw); go_simp; try with_reducible rfl); try simp only [Act.put, zz1, zz2, zz3, zz4, zz5, zz6]
  refine tkH 10 ?_ rfl ?_ hHeld ?_; rotate_left; (intro w hSw; (try dsimp only at hSw); go_simp; try with_reducible rfl); try simp only [Act.put, zz1, zz2, zz3, zz4, zz5, zz6]
  refine tkH 11 ?_ rfl ?_ hHeld ?_; rotate_left; (intro w hSw; (try dsimp only at hSw); go_simp; try with_reducible rfl); try simp only [Act.put, zz1, zz2, zz3, zz4, zz5, zz6]
  refine tkH 12 ?_ rfl ?_ hHeld ?_; rotate_left; (intro w hSw; (try dsimp only at hSw); go_simp; try with_reducible rfl); try simp only [Act.put, zz1, zz2, zz3, zz4, zz5, zz6]
  refine tkH 13 ?_ rfl ?_ hHeld ?_; rotate_left; (intro w hSw; (try dsimp only at hSw); go_simp; try with_reducible rfl); try simp only [Act.put, zz1, zz2, zz3, zz4, zz5, zz6]
  refine tkH 14 ?_ rfl ?_ hHeld ?_; rotate_left; (intro w hSw; (try dsimp only at hSw); go_simp; try with_reducible rfl); try simp only [Act.put, zz1, zz2, zz3, zz4, zz5, zz6]
  refine tkH 15 ?_ rfl ?_ hHeld ?_; rotate_left; (intro w hSw; (try dsimp only at hSw); go_simp; try with_reducible rfl); try simp only [Act.put, zz1, zz2, zz3, zz4, zz5, zz6]
  refine tkH 16 ?_ rfl ?_ hHeld ?_; rotate_left; (intro w hSw; (try dsimp only at hSw); go_simp; try with_reducible rfl); try simp only [Act.put, zz1, zz2, zz3, zz4, zz5, zz6]
  refine tkH 18 ?_ rfl ?_ hHeld ?_; rotate_left; (intro w hSw; (try dsimp only at hSw); go_simp; try with_reducible rfl); try simp only [Act.put, zz1, zz2, zz3, zz4, zz5, zz6]
  refine wpAnyH_ready (rs := [17]) (by kernel_rfl) (by simp) ?_
  refine AllReadyH.cons (o := _) rfl (fun K0 hK0 => ?_) AllReadyH.nil
  have a0' := (BL0.out.cell (World.block_lt_of_cell? _ _ a0)).trans a0
  have a1' := (BL0.out.cell (World.block_lt_of_cell? _ _ a1)).trans a1
  have a2' := (BL0.out.cell (World.block_lt_of_cell? _ _ a2)).trans a2
  have a3' := (BL0.out.cell (World.block_lt_of_cell? _ _ a3)).trans a3
  clear a0 a1 a2 a3
  go_simp
  refine hK0.out _ _ (hHeld) (fun hHeld => ?_)
  clear hK0 K0
  try simp only [Act.put, zz1, zz2, zz3, zz4, zz5, zz6]
  refine wpAnyH_ready (rs := [19]) (by kernel_rfl) (by simp) ?_
  refine AllReadyH.cons (o := _) rfl (fun K0 hK0 => ?_) AllReadyH.nil
  go_simp
  clear a0' a1' a2' a3'
  refine (implUseTick_any _ _ _ _ L _).mono ?_
  rintro e9 w5 ⟨rfl, hb⟩
  have H5 := Lib.hid ((H2.out.below BL0.out).below hb)
  clear hb
  go_wp2_with fail
  refine hK0.out _ _ (by obtain ⟨_, hm⟩ := H5.out.mb; exact FS.out _ _ _ hm HRUN.out) (fun hHeld => ?_)
  clear hK0 K0
  try simp only [Act.put, zz1, zz2, zz3, zz4, zz5, zz6]
  refine wpAnyH_ready (rs := [20]) (by kernel_rfl) (by simp) ?_
  refine AllReadyH.cons (o := _) rfl (fun K0 hK0 => ?_) AllReadyH.nil
  go_simp
  refine (count_nx H5.out e he4 _ CO.out).mono ?_
  rintro e9 w6 ⟨rfl, hn⟩
  have H6 := Lib.hid hn
  clear hn H5
  go_wp2_with fail
  refine hK0.out _ _ (by obtain ⟨_, hm⟩ := H6.out.mb; exact FS.out _ _ _ hm ((put3_os _ _ _).2.2.2.trans HRUN.out)) (fun hHeld => ?_)
  clear hK0 K0
  try simp only [Act.put, zz1, zz2, zz3, zz4, zz5, zz6]
  refine wpAnyH_done (by kernel_rfl) ?_ _
  go_wp2_with fail
  first | refine bodyPost_ret (results_none rfl _ _ _) rfl ?_ | refine bodyPost_end (results_none rfl _ _ _) rfl ?_
  rw [RE.out]
  exact ⟨rfl, H6.out.forget⟩

set_option maxHeartbeats 4000000 in
theorem meetYield_any {w0 w : World} {g : Nat} {p : Kp} {K : Ker} {ns : List Int} {bs : List (Nat × Obj)} (h : NX w0 w g p K ns bs) (t : TK K) (hr : K.run ≠ -1) (hl : ns.length ≤ 190) (tn : Nat) (ht : tn < 4) :
    Calls Tryz.prog 149 #[.pointer (some ⟨g, 0, none⟩), .agg #[.int .i64 3, .int .i64 (tn : Int)]] w fun e w' => e = .returned (.tuple #[]) ∧ NX w0 w' g p (act3 K 3 tn).1 (ns ++ (act3 K 3 tn).2) bs := by
  obtain ⟨w1, hw1⟩ : ∃ w1, w1 = w.alloc (.cells #[.int .i64 3, .int .i64 (tn : Int)] 53) := ⟨_, rfl⟩
  have R1 : w1.heap[w.heap.size]? = some (.cells #[.int .i64 3, .int .i64 (tn : Int)] 53 (0, 0)) := by rw [hw1]; exact heap_alloc_new w _
  have H1 := Lib.hid (h.guest (show Kept [] w w1 by rw [hw1]; exact (Kept.refl _ _).alloc _) R1 (Nat.le_refl _))
  obtain ⟨bx, hbx⟩ : ∃ bx, bx = w.heap.size := ⟨_, rfl⟩
  rw [← hbx] at H1 R1
  have HBX := Lib.hid hbx
  have HW1 := Lib.hid hw1
  have HL := Lib.hid (show ns.length ≤ 200 by omega)
  have HL2 := Lib.hid hl
  have TT := Lib.hid t
  have HR := Lib.hid hr
  have TI := Lib.hid t.tick.1
  have y0 : (0 : Int) ≤ (tn : Int) := by omega
  have y1 : (tn : Int) < 4 := by omega
  obtain ⟨_, hm⟩ := H1.out.mb
  obtain ⟨o2, hA2, hR2⟩ := hm.alive
  obtain ⟨o3, hA3, hR3⟩ := hm.accs
  have FS : Hid (∀ W ns', NX w0 W g p K ns' ((bx, .cells #[.int .i64 3, .int .i64 (tn : Int)] 53 (0, 0)) :: bs) → W.cell? ⟨bx, 1, none⟩ = some (.int .i64 (tn : Int)) ∧ W.cell? ⟨g, 0, none⟩ = some (.slice p.A1 p.n1 p.c1) ∧ W.cell? ⟨g, 1, none⟩ = some (.slice (some ⟨p.g2, o2, none⟩) 4 p.c2) ∧ W.cell? ⟨g, 2, none⟩ = some (.slice p.A3 4 p.c3) ∧ W.cell? ⟨g, 3, none⟩ = some (.int .i64 K.tick) ∧ W.cell? ⟨g, 4, none⟩ = some (.int .i64 K.run) ∧ W.cell? ⟨p.g2, o2 + tn, none⟩ = some (.bool (gb K.al tn))) := fun W ns' hN => by
    obtain ⟨_, hM⟩ := hN.mb
    obtain ⟨r0, r1, r2, r3, r4⟩ := hM.cells
    obtain ⟨o2', hA2', hR2'⟩ := hM.alive
    rw [hA2] at hA2' r1
    injection hA2' with e1
    injection e1 with _ e1
    subst e1
    exact ⟨cell_of_row W _ 1 _ _ _ hN.at.1, r0, r1, r2, r3, r4, hR2'.cell (k := tn) ht⟩
  have HA3 := Lib.hid hA3
  clear h hl hm R1 hw1 hbx t hr hA2 hR2 hA3 hR3
  by_cases hlt : 6 ≤ K.tick % 9
  · have gl : decide (6 ≤ K.tick % 9) = true := decide_eq_true hlt
    have HLT := Lib.hid hlt
    clear hlt
    go_enter Tryz.func149, Tryz.ntmps149
    go_upto_region 1 with (fail)
    rw [← HW1.out, ← HBX.out]
    clear HW1 HBX
    refine wp_region_held_drew (S := fun W => W.cell? ⟨bx, 1, none⟩ = some (.int .i64 (tn : Int)) ∧ W.cell? ⟨g, 0, none⟩ = some (.slice p.A1 p.n1 p.c1) ∧ W.cell? ⟨g, 1, none⟩ = some (.slice (some ⟨p.g2, o2, none⟩) 4 p.c2) ∧ W.cell? ⟨g, 2, none⟩ = some (.slice p.A3 4 p.c3) ∧ W.cell? ⟨g, 3, none⟩ = some (.int .i64 K.tick) ∧ W.cell? ⟨g, 4, none⟩ = some (.int .i64 K.run) ∧ W.cell? ⟨p.g2, o2 + tn, none⟩ = some (.bool (gb K.al tn))) (by kernel_rfl) (FS.out _ _ (H1.out.below (Below.drew (Below.refl _ _)))) (fun hHeld => ?_)
    obtain ⟨v0, hv0⟩ : ∃ v0, v0 = w1.drew := ⟨_, rfl⟩
    have BL0 : Hid (Below w1.heap.size w1 v0) := by rw [hv0]; exact Below.drew (Below.refl _ _)
    rw [← hv0] at hHeld ⊢
    clear hv0
    refine tkH 0 ?_ rfl ?_ hHeld ?_; rotate_left; (intro w hSw; (try dsimp only at hSw); go_simp; try with_reducible rfl); try simp only [Act.put, zz1, zz2, zz3, zz4, zz5, zz6]
    refine tkH 1 ?_ rfl ?_ hHeld ?_; rotate_left; (intro w hSw; (try dsimp only at hSw); go_simp; try with_reducible rfl); try simp only [Act.put, zz1, zz2, zz3, zz4, zz5, zz6]
    refine tkH 2 ?_ rfl ?_ hHeld ?_; rotate_left; (intro w hSw; (try dsimp only at hSw); go_simp; try with_reducible rfl); try simp only [Act.put, zz1, zz2, zz3, zz4, zz5, zz6]
    refine tkH 3 ?_ rfl ?_ hHeld ?_; rotate_left; (intro w hSw; (try dsimp only at hSw); go_simp; try with_reducible rfl); try simp only [Act.put, zz1, zz2, zz3, zz4, zz5, zz6]
    refine wpAnyH_ready (rs := [4]) (by kernel_rfl) (by simp) ?_
    refine AllReadyH.cons (o := _) rfl (fun K0 hK0 => ?_) AllReadyH.nil
    go_simp
    refine (phaseOf_any _ _ _ _ _ _ TI.out).mono ?_
    rintro e9 w3 ⟨rfl, hb⟩
    have H3 := Lib.hid ((H1.out.below BL0.out).below hb)
    clear hb
    go_wp2_with fail
    refine hK0.out _ _ (FS.out _ _ H3.out) (fun hHeld => ?_)
    clear hK0 K0
    try simp only [Act.put, zz1, zz2, zz3, zz4, zz5, zz6]
    refine tkH 5 ?_ rfl ?_ hHeld ?_; rotate_left; (intro w hSw; (try dsimp only at hSw); go_simp; try with_reducible rfl); try simp only [Act.put, zz1, zz2, zz3, zz4, zz5, zz6]
    refine tkH 6 ?_ rfl ?_ hHeld ?_; rotate_left; (intro w hSw; (try dsimp only at hSw); go_simp; try with_reducible rfl); try simp only [Act.put, zz1, zz2, zz3, zz4, zz5, zz6]
    refine tuH 7 rfl hHeld ?_
    try simp only [Act.put, zz1, zz2, zz3, zz4, zz5, zz6]
    refine tuH 8 rfl hHeld ?_
    try simp only [Act.put, zz1, zz2, zz3, zz4, zz5, zz6]
    refine tuH 9 rfl hHeld ?_
    try simp only [Act.put, zz1, zz2, zz3, zz4, zz5, zz6]
    refine tuH 10 rfl hHeld ?_
    try simp only [Act.put, zz1, zz2, zz3, zz4, zz5, zz6]
    refine tuH 11 rfl hHeld ?_
    try simp only [Act.put, zz1, zz2, zz3, zz4, zz5, zz6]
    refine tuH 12 rfl hHeld ?_
    try simp only [Act.put, zz1, zz2, zz3, zz4, zz5, zz6]
    refine tuH 13 rfl hHeld ?_
    try simp only [Act.put, zz1, zz2, zz3, zz4, zz5, zz6]
    refine tuH 14 rfl hHeld ?_
    try simp only [Act.put, zz1, zz2, zz3, zz4, zz5, zz6]
    refine tuH 15 rfl hHeld ?_
    try simp only [Act.put, zz1, zz2, zz3, zz4, zz5, zz6]
    refine tuH 16 rfl hHeld ?_
    try simp only [Act.put, zz1, zz2, zz3, zz4, zz5, zz6]
    refine tkH 17 ?_ rfl ?_ hHeld ?_; rotate_left; (intro w hSw; (try dsimp only at hSw); go_simp; try with_reducible rfl); try simp only [Act.put, zz1, zz2, zz3, zz4, zz5, zz6]
    refine tkH 18 ?_ rfl ?_ hHeld ?_; rotate_left; (intro w hSw; (try dsimp only at hSw); go_simp; try with_reducible rfl); try simp only [Act.put, zz1, zz2, zz3, zz4, zz5, zz6]
    refine tuH 19 rfl hHeld ?_
    try simp only [Act.put, zz1, zz2, zz3, zz4, zz5, zz6]
    refine tuH 20 rfl hHeld ?_
    try simp only [Act.put, zz1, zz2, zz3, zz4, zz5, zz6]
    refine tuH 21 rfl hHeld ?_
    try simp only [Act.put, zz1, zz2, zz3, zz4, zz5, zz6]
    refine tuH 22 rfl hHeld ?_
    try simp only [Act.put, zz1, zz2, zz3, zz4, zz5, zz6]
    refine tuH 23 rfl hHeld ?_
    try simp only [Act.put, zz1, zz2, zz3, zz4, zz5, zz6]
    refine tuH 24 rfl hHeld ?_
    try simp only [Act.put, zz1, zz2, zz3, zz4, zz5, zz6]
    refine tuH 25 rfl hHeld ?_
    try simp only [Act.put, zz1, zz2, zz3, zz4, zz5, zz6]
    refine tuH 26 rfl hHeld ?_
    try simp only [Act.put, zz1, zz2, zz3, zz4, zz5, zz6]
    refine tkH 27 ?_ rfl ?_ hHeld ?_; rotate_left; (intro w hSw; (try dsimp only at hSw); go_simp; try with_reducible rfl); try simp only [Act.put, zz1, zz2, zz3, zz4, zz5, zz6]
    refine wpAnyH_done (by kernel_rfl) ?_ _
    have b0 := cell_of_row w3 _ 0 _ _ _ H3.out.at.1; have b1 := cell_of_row w3 _ 1 _ _ _ H3.out.at.1
    simp at b0 b1
    go_wp2_with fail
    refine (meetWork_any H3.out TT.out HR.out HL.out 3 (tn : Int)).mono ?_
    rintro e9 w4 ⟨rfl, hn⟩
    go_wp2_with fail
    first | refine bodyPost_ret (results_none rfl _ _ _) rfl ?_ | refine bodyPost_end (results_none rfl _ _ _) rfl ?_
    rw [show act3 K 3 (tn : Int) = (put3 K K.run.toNat (acf K K.run.toNat (fun u x g d => use2 u x g d (decide (6 ≤ K.tick % 9)))), []) by unfold act3; rw [if_neg (by decide), if_neg (by rintro ⟨_, c1, c2, c3⟩; exact c1 HLT.out)], List.append_nil]
    exact ⟨rfl, hn.forget⟩
  have gl : decide (6 ≤ K.tick % 9) = false := decide_eq_false hlt
  have HLT := Lib.hid hlt
  clear hlt
  rcases ha : gb K.al tn with _ | _
  · rw [ha] at FS
    have HA := Lib.hid ha
    clear ha
    go_enter Tryz.func149, Tryz.ntmps149
    go_upto_region 1 with (fail)
    rw [← HW1.out, ← HBX.out]
    clear HW1 HBX
    refine wp_region_held_drew (S := fun W => W.cell? ⟨bx, 1, none⟩ = some (.int .i64 (tn : Int)) ∧ W.cell? ⟨g, 0, none⟩ = some (.slice p.A1 p.n1 p.c1) ∧ W.cell? ⟨g, 1, none⟩ = some (.slice (some ⟨p.g2, o2, none⟩) 4 p.c2) ∧ W.cell? ⟨g, 2, none⟩ = some (.slice p.A3 4 p.c3) ∧ W.cell? ⟨g, 3, none⟩ = some (.int .i64 K.tick) ∧ W.cell? ⟨g, 4, none⟩ = some (.int .i64 K.run) ∧ W.cell? ⟨p.g2, o2 + tn, none⟩ = some (.bool (false))) (by kernel_rfl) (FS.out _ _ (H1.out.below (Below.drew (Below.refl _ _)))) (fun hHeld => ?_)
    obtain ⟨v0, hv0⟩ : ∃ v0, v0 = w1.drew := ⟨_, rfl⟩
    have BL0 : Hid (Below w1.heap.size w1 v0) := by rw [hv0]; exact Below.drew (Below.refl _ _)
    rw [← hv0] at hHeld ⊢
    clear hv0
    refine tkH 0 ?_ rfl ?_ hHeld ?_; rotate_left; (intro w hSw; (try dsimp only at hSw); go_simp; try with_reducible rfl); try simp only [Act.put, zz1, zz2, zz3, zz4, zz5, zz6]
    refine tkH 1 ?_ rfl ?_ hHeld ?_; rotate_left; (intro w hSw; (try dsimp only at hSw); go_simp; try with_reducible rfl); try simp only [Act.put, zz1, zz2, zz3, zz4, zz5, zz6]
    refine tkH 2 ?_ rfl ?_ hHeld ?_; rotate_left; (intro w hSw; (try dsimp only at hSw); go_simp; try with_reducible rfl); try simp only [Act.put, zz1, zz2, zz3, zz4, zz5, zz6]
    refine tkH 3 ?_ rfl ?_ hHeld ?_; rotate_left; (intro w hSw; (try dsimp only at hSw); go_simp; try with_reducible rfl); try simp only [Act.put, zz1, zz2, zz3, zz4, zz5, zz6]
    refine wpAnyH_ready (rs := [4]) (by kernel_rfl) (by simp) ?_
    refine AllReadyH.cons (o := _) rfl (fun K0 hK0 => ?_) AllReadyH.nil
    go_simp
    refine (phaseOf_any _ _ _ _ _ _ TI.out).mono ?_
    rintro e9 w3 ⟨rfl, hb⟩
    have H3 := Lib.hid ((H1.out.below BL0.out).below hb)
    clear hb
    go_wp2_with fail
    refine hK0.out _ _ (FS.out _ _ H3.out) (fun hHeld => ?_)
    clear hK0 K0
    try simp only [Act.put, zz1, zz2, zz3, zz4, zz5, zz6]
    refine tkH 5 ?_ rfl ?_ hHeld ?_; rotate_left; (intro w hSw; (try dsimp only at hSw); go_simp; try with_reducible rfl); try simp only [Act.put, zz1, zz2, zz3, zz4, zz5, zz6]
    refine tkH 6 ?_ rfl ?_ hHeld ?_; rotate_left; (intro w hSw; (try dsimp only at hSw); go_simp; try with_reducible rfl); try simp only [Act.put, zz1, zz2, zz3, zz4, zz5, zz6]
    refine tkH 7 ?_ rfl ?_ hHeld ?_; rotate_left; (intro w hSw; (try dsimp only at hSw); go_simp; try with_reducible rfl); try simp only [Act.put, zz1, zz2, zz3, zz4, zz5, zz6]
    refine tkH 8 ?_ rfl ?_ hHeld ?_; rotate_left; (intro w hSw; (try dsimp only at hSw); go_simp; try with_reducible rfl); try simp only [Act.put, zz1, zz2, zz3, zz4, zz5, zz6]
    refine tkH 9 ?_ rfl ?_ hHeld ?_; rotate_left; (intro w hSw; (try dsimp only at hSw); go_simp; try with_reducible rfl); try simp only [Act.put, zz1, zz2, zz3, zz4, zz5, zz6]
    refine tkH 10 ?_ rfl ?_ hHeld ?_; rotate_left; (intro w hSw; (try dsimp only at hSw); go_simp; try with_reducible rfl); try simp only [Act.put, zz1, zz2, zz3, zz4, zz5, zz6]
    refine tkH 11 ?_ rfl ?_ hHeld ?_; rotate_left; (intro w hSw; (try dsimp only at hSw); go_simp; try with_reducible rfl); try simp only [Act.put, zz1, zz2, zz3, zz4, zz5, zz6]
    refine tkH 12 ?_ rfl ?_ hHeld ?_; rotate_left; (intro w hSw; (try dsimp only at hSw); go_simp; try with_reducible rfl); try simp only [Act.put, zz1, zz2, zz3, zz4, zz5, zz6]
    refine tkH 13 ?_ rfl ?_ hHeld ?_; rotate_left; (intro w hSw; (try dsimp only at hSw); go_simp; try with_reducible rfl); try simp only [Act.put, zz1, zz2, zz3, zz4, zz5, zz6]
    refine tkH 14 ?_ rfl ?_ hHeld ?_; rotate_left; (intro w hSw; (try dsimp only at hSw); go_simp; try with_reducible rfl); try simp only [Act.put, zz1, zz2, zz3, zz4, zz5, zz6]
    refine tkH 15 ?_ rfl ?_ hHeld ?_; rotate_left; (intro w hSw; (try dsimp only at hSw); go_simp; try with_reducible rfl); try simp only [Act.put, zz1, zz2, zz3, zz4, zz5, zz6]
    refine tkH 16 ?_ rfl ?_ hHeld ?_; rotate_left; (intro w hSw; (try dsimp only at hSw); go_simp; try with_reducible rfl); try simp only [Act.put, zz1, zz2, zz3, zz4, zz5, zz6]
    refine tkH 17 ?_ rfl ?_ hHeld ?_; rotate_left; (intro w hSw; (try dsimp only at hSw); go_simp; try with_reducible rfl); try simp only [Act.put, zz1, zz2, zz3, zz4, zz5, zz6]
    refine tkH 18 ?_ rfl ?_ hHeld ?_; rotate_left; (intro w hSw; (try dsimp only at hSw); go_simp; try with_reducible rfl); try simp only [Act.put, zz1, zz2, zz3, zz4, zz5, zz6]
    refine tuH 19 rfl hHeld ?_
    try simp only [Act.put, zz1, zz2, zz3, zz4, zz5, zz6]
    refine tuH 20 rfl hHeld ?_
    try simp only [Act.put, zz1, zz2, zz3, zz4, zz5, zz6]
    refine tuH 21 rfl hHeld ?_
    try simp only [Act.put, zz1, zz2, zz3, zz4, zz5, zz6]
    refine tuH 22 rfl hHeld ?_
    try simp only [Act.put, zz1, zz2, zz3, zz4, zz5, zz6]
    refine tuH 23 rfl hHeld ?_
    try simp only [Act.put, zz1, zz2, zz3, zz4, zz5, zz6]
    refine tuH 24 rfl hHeld ?_
    try simp only [Act.put, zz1, zz2, zz3, zz4, zz5, zz6]
    refine tuH 25 rfl hHeld ?_
    try simp only [Act.put, zz1, zz2, zz3, zz4, zz5, zz6]
    refine tuH 26 rfl hHeld ?_
    try simp only [Act.put, zz1, zz2, zz3, zz4, zz5, zz6]
    refine tkH 27 ?_ rfl ?_ hHeld ?_; rotate_left; (intro w hSw; (try dsimp only at hSw); go_simp; try with_reducible rfl); try simp only [Act.put, zz1, zz2, zz3, zz4, zz5, zz6]
    refine wpAnyH_done (by kernel_rfl) ?_ _
    have b0 := cell_of_row w3 _ 0 _ _ _ H3.out.at.1; have b1 := cell_of_row w3 _ 1 _ _ _ H3.out.at.1
    simp at b0 b1
    go_wp2_with fail
    refine (meetWork_any H3.out TT.out HR.out HL.out 3 (tn : Int)).mono ?_
    rintro e9 w4 ⟨rfl, hn⟩
    go_wp2_with fail
    first | refine bodyPost_ret (results_none rfl _ _ _) rfl ?_ | refine bodyPost_end (results_none rfl _ _ _) rfl ?_
    rw [show act3 K 3 (tn : Int) = (put3 K K.run.toNat (acf K K.run.toNat (fun u x g d => use2 u x g d (decide (6 ≤ K.tick % 9)))), []) by unfold act3; rw [if_neg (by decide), if_neg (by rintro ⟨_, c1, c2, c3⟩; rw [Int.toNat_natCast, HA.out] at c2; exact absurd c2 (by decide))], List.append_nil]
    exact ⟨rfl, hn.forget⟩
  rw [ha] at FS
  have HA := Lib.hid ha
  clear ha
  by_cases hrr : (tn : Int) = K.run
  · have gr : ((tn : Int) == K.run) = true := by simp [hrr]
    have HRR := Lib.hid hrr
    clear hrr
    go_enter Tryz.func149, Tryz.ntmps149
    go_upto_region 1 with (fail)
    rw [← HW1.out, ← HBX.out]
    clear HW1 HBX
    refine wp_region_held_drew (S := fun W => W.cell? ⟨bx, 1, none⟩ = some (.int .i64 (tn : Int)) ∧ W.cell? ⟨g, 0, none⟩ = some (.slice p.A1 p.n1 p.c1) ∧ W.cell? ⟨g, 1, none⟩ = some (.slice (some ⟨p.g2, o2, none⟩) 4 p.c2) ∧ W.cell? ⟨g, 2, none⟩ = some (.slice p.A3 4 p.c3) ∧ W.cell? ⟨g, 3, none⟩ = some (.int .i64 K.tick) ∧ W.cell? ⟨g, 4, none⟩ = some (.int .i64 K.run) ∧ W.cell? ⟨p.g2, o2 + tn, none⟩ = some (.bool (true))) (by kernel_rfl) (FS.out _ _ (H1.out.below (Below.drew (Below.refl _ _)))) (fun hHeld => ?_)
    obtain ⟨v0, hv0⟩ : ∃ v0, v0 = w1.drew := ⟨_, rfl⟩
    have BL0 : Hid (Below w1.heap.size w1 v0) := by rw [hv0]; exact Below.drew (Below.refl _ _)
    rw [← hv0] at hHeld ⊢
    clear hv0
    refine tkH 0 ?_ rfl ?_ hHeld ?_; rotate_left; (intro w hSw; (try dsimp only at hSw); go_simp; try with_reducible rfl); try simp only [Act.put, zz1, zz2, zz3, zz4, zz5, zz6]
    refine tkH 1 ?_ rfl ?_ hHeld ?_; rotate_left; (intro w hSw; (try dsimp only at hSw); go_simp; try with_reducible rfl); try simp only [Act.put, zz1, zz2, zz3, zz4, zz5, zz6]
    refine tkH 2 ?_ rfl ?_ hHeld ?_; rotate_left; (intro w hSw; (try dsimp only at hSw); go_simp; try with_reducible rfl); try simp only [Act.put, zz1, zz2, zz3, zz4, zz5, zz6]
    refine tkH 3 ?_ rfl ?_ hHeld ?_; rotate_left; (intro w hSw; (try dsimp only at hSw); go_simp; try with_reducible rfl); try simp only [Act.put, zz1, zz2, zz3, zz4, zz5, zz6]
    refine wpAnyH_ready (rs := [4]) (by kernel_rfl) (by simp) ?_
    refine AllReadyH.cons (o := _) rfl (fun K0 hK0 => ?_) AllReadyH.nil
    go_simp
    refine (phaseOf_any _ _ _ _ _ _ TI.out).mono ?_
    rintro e9 w3 ⟨rfl, hb⟩
    have H3 := Lib.hid ((H1.out.below BL0.out).below hb)
    clear hb
    go_wp2_with fail
    refine hK0.out _ _ (FS.out _ _ H3.out) (fun hHeld => ?_)
    clear hK0 K0
    try simp only [Act.put, zz1, zz2, zz3, zz4, zz5, zz6]
    refine tkH 5 ?_ rfl ?_ hHeld ?_; rotate_left; (intro w hSw; (try dsimp only at hSw); go_simp; try with_reducible rfl); try simp only [Act.put, zz1, zz2, zz3, zz4, zz5, zz6]
    refine tkH 6 ?_ rfl ?_ hHeld ?_; rotate_left; (intro w hSw; (try dsimp only at hSw); go_simp; try with_reducible rfl); try simp only [Act.put, zz1, zz2, zz3, zz4, zz5, zz6]
    refine tkH 7 ?_ rfl ?_ hHeld ?_; rotate_left; (intro w hSw; (try dsimp only at hSw); go_simp; try with_reducible rfl); try simp only [Act.put, zz1, zz2, zz3, zz4, zz5, zz6]
    refine tkH 8 ?_ rfl ?_ hHeld ?_; rotate_left; (intro w hSw; (try dsimp only at hSw); go_simp; try with_reducible rfl); try simp only [Act.put, zz1, zz2, zz3, zz4, zz5, zz6]
    refine tkH 9 ?_ rfl ?_ hHeld ?_; rotate_left; (intro w hSw; (try dsimp only at hSw); go_simp; try with_reducible rfl); try simp only [Act.put, zz1, zz2, zz3, zz4, zz5, zz6]
    refine tkH 10 ?_ rfl ?_ hHeld ?_; rotate_left; (intro w hSw; (try dsimp only at hSw); go_simp; try with_reducible rfl); try simp only [Act.put, zz1, zz2, zz3, zz4, zz5, zz6]
    refine tkH 11 ?_ rfl ?_ hHeld ?_; rotate_left; (intro w hSw; (try dsimp only at hSw); go_simp; try with_reducible rfl); try simp only [Act.put, zz1, zz2, zz3, zz4, zz5, zz6]
    refine tkH 12 ?_ rfl ?_ hHeld ?_; rotate_left; (intro w hSw; (try dsimp only at hSw); go_simp; try with_reducible rfl); try simp only [Act.put, zz1, zz2, zz3, zz4, zz5, zz6]
    refine tkH 13 ?_ rfl ?_ hHeld ?_; rotate_left; (intro w hSw; (try dsimp only at hSw); go_simp; try with_reducible rfl); try simp only [Act.put, zz1, zz2, zz3, zz4, zz5, zz6]
    refine tkH 14 ?_ rfl ?_ hHeld ?_; rotate_left; (intro w hSw; (try dsimp only at hSw); go_simp; try with_reducible rfl); try simp only [Act.put, zz1, zz2, zz3, zz4, zz5, zz6]
    refine tkH 15 ?_ rfl ?_ hHeld ?_; rotate_left; (intro w hSw; (try dsimp only at hSw); go_simp; try with_reducible rfl); try simp only [Act.put, zz1, zz2, zz3, zz4, zz5, zz6]
    refine tkH 16 ?_ rfl ?_ hHeld ?_; rotate_left; (intro w hSw; (try dsimp only at hSw); go_simp; try with_reducible rfl); try simp only [Act.put, zz1, zz2, zz3, zz4, zz5, zz6]
    refine tkH 17 ?_ rfl ?_ hHeld ?_; rotate_left; (intro w hSw; (try dsimp only at hSw); go_simp; try with_reducible rfl); try simp only [Act.put, zz1, zz2, zz3, zz4, zz5, zz6]
    refine tkH 18 ?_ rfl ?_ hHeld ?_; rotate_left; (intro w hSw; (try dsimp only at hSw); go_simp; try with_reducible rfl); try simp only [Act.put, zz1, zz2, zz3, zz4, zz5, zz6]
    refine tkH 19 ?_ rfl ?_ hHeld ?_; rotate_left; (intro w hSw; (try dsimp only at hSw); go_simp; try with_reducible rfl); try simp only [Act.put, zz1, zz2, zz3, zz4, zz5, zz6]
    refine tkH 20 ?_ rfl ?_ hHeld ?_; rotate_left; (intro w hSw; (try dsimp only at hSw); go_simp; try with_reducible rfl); try simp only [Act.put, zz1, zz2, zz3, zz4, zz5, zz6]
    refine tkH 21 ?_ rfl ?_ hHeld ?_; rotate_left; (intro w hSw; (try dsimp only at hSw); go_simp; try with_reducible rfl); try simp only [Act.put, zz1, zz2, zz3, zz4, zz5, zz6]
    refine tkH 22 ?_ rfl ?_ hHeld ?_; rotate_left; (intro w hSw; (try dsimp only at hSw); go_simp; try with_reducible rfl); try simp only [Act.put, zz1, zz2, zz3, zz4, zz5, zz6]
    refine tkH 23 ?_ rfl ?_ hHeld ?_; rotate_left; (intro w hSw; (try dsimp only at hSw); go_simp; try with_reducible rfl); try simp only [Act.put, zz1, zz2, zz3, zz4, zz5, zz6]
    refine tkH 24 ?_ rfl ?_ hHeld ?_; rotate_left; (intro w hSw; (try dsimp only at hSw); go_simp; try with_reducible rfl); try simp only [Act.put, zz1, zz2, zz3, zz4, zz5, zz6]
    refine tkH 25 ?_ rfl ?_ hHeld ?_; rotate_left; (intro w hSw; (try dsimp only at hSw); go_simp; try with_reducible rfl); try simp only [Act.put, zz1, zz2, zz3, zz4, zz5, zz6]
    refine tkH 26 ?_ rfl ?_ hHeld ?_; rotate_left; (intro w hSw; (try dsimp only at hSw); go_simp; try with_reducible rfl); try simp only [Act.put, zz1, zz2, zz3, zz4, zz5, zz6]
    refine tkH 27 ?_ rfl ?_ hHeld ?_; rotate_left; (intro w hSw; (try dsimp only at hSw); go_simp; try with_reducible rfl); try simp only [Act.put, zz1, zz2, zz3, zz4, zz5, zz6]
    refine wpAnyH_done (by kernel_rfl) ?_ _
    have b0 := cell_of_row w3 _ 0 _ _ _ H3.out.at.1; have b1 := cell_of_row w3 _ 1 _ _ _ H3.out.at.1
    simp at b0 b1
    go_wp2_with fail
    refine (meetWork_any H3.out TT.out HR.out HL.out 3 (tn : Int)).mono ?_
    rintro e9 w4 ⟨rfl, hn⟩
    go_wp2_with fail
    first | refine bodyPost_ret (results_none rfl _ _ _) rfl ?_ | refine bodyPost_end (results_none rfl _ _ _) rfl ?_
    rw [show act3 K 3 (tn : Int) = (put3 K K.run.toNat (acf K K.run.toNat (fun u x g d => use2 u x g d (decide (6 ≤ K.tick % 9)))), []) by unfold act3; rw [if_neg (by decide), if_neg (by rintro ⟨_, c1, c2, c3⟩; exact c3 HRR.out)], List.append_nil]
    exact ⟨rfl, hn.forget⟩
  have gr : ((tn : Int) == K.run) = false := by simp [hrr]
  have HRR := Lib.hid hrr
  clear hrr
  go_enter Tryz.func149, Tryz.ntmps149
  go_upto_region 1 with (fail)
  rw [← HW1.out, ← HBX.out]
  clear HW1 HBX
  refine wp_region_held_drew (S := fun W => W.cell? ⟨bx, 1, none⟩ = some (.int .i64 (tn : Int)) ∧ W.cell? ⟨g, 0, none⟩ = some (.slice p.A1 p.n1 p.c1) ∧ W.cell? ⟨g, 1, none⟩ = some (.slice (some ⟨p.g2, o2, none⟩) 4 p.c2) ∧ W.cell? ⟨g, 2, none⟩ = some (.slice p.A3 4 p.c3) ∧ W.cell? ⟨g, 3, none⟩ = some (.int .i64 K.tick) ∧ W.cell? ⟨g, 4, none⟩ = some (.int .i64 K.run) ∧ W.cell? ⟨p.g2, o2 + tn, none⟩ = some (.bool (true))) (by kernel_rfl) (FS.out _ _ (H1.out.below (Below.drew (Below.refl _ _)))) (fun hHeld => ?_)
  obtain ⟨v0, hv0⟩ : ∃ v0, v0 = w1.drew := ⟨_, rfl⟩
  have BL0 : Hid (Below w1.heap.size w1 v0) := by rw [hv0]; exact Below.drew (Below.refl _ _)
  rw [← hv0] at hHeld ⊢
  clear hv0
  refine tkH 0 ?_ rfl ?_ hHeld ?_; rotate_left; (intro w hSw; (try dsimp only at hSw); go_simp; try with_reducible rfl); try simp only [Act.put, zz1, zz2, zz3, zz4, zz5, zz6]
  refine tkH 1 ?_ rfl ?_ hHeld ?_; rotate_left; (intro w hSw; (try dsimp only at hSw); go_simp; try with_reducible rfl); try simp only [Act.put, zz1, zz2, zz3, zz4, zz5, zz6]
  refine tkH 2 ?_ rfl ?_ hHeld ?_; rotate_left; (intro w hSw; (try dsimp only at hSw); go_simp; try with_reducible rfl); try simp only [Act.put, zz1, zz2, zz3, zz4, zz5, zz6]
  refine tkH 3 ?_ rfl ?_ hHeld ?_; rotate_left; (intro w hSw; (try dsimp only at hSw); go_simp; try with_reducible rfl); try simp only [Act.put, zz1, zz2, zz3, zz4, zz5, zz6]
  refine wpAnyH_ready (rs := [4]) (by kernel_rfl) (by simp) ?_
  refine AllReadyH.cons (o := _) rfl (fun K0 hK0 => ?_) AllReadyH.nil
  go_simp
  refine (phaseOf_any _ _ _ _ _ _ TI.out).mono ?_
  rintro e9 w3 ⟨rfl, hb⟩
  have H3 := Lib.hid ((H1.out.below BL0.out).below hb)
  clear hb
  go_wp2_with fail
  refine hK0.out _ _ (FS.out _ _ H3.out) (fun hHeld => ?_)
  clear hK0 K0
  try simp only [Act.put, zz1, zz2, zz3, zz4, zz5, zz6]
  refine tkH 5 ?_ rfl ?_ hHeld ?_; rotate_left; (intro w hSw; (try dsimp only at hSw); go_simp; try with_reducible rfl); try simp only [Act.put, zz1, zz2, zz3, zz4, zz5, zz6]
  refine tkH 6 ?_ rfl ?_ hHeld ?_; rotate_left; (intro w hSw; (try dsimp only at hSw); go_simp; try with_reducible rfl); try simp only [Act.put, zz1, zz2, zz3, zz4, zz5, zz6]
  refine tkH 7 ?_ rfl ?_ hHeld ?_; rotate_left; (intro w hSw; (try dsimp only at hSw); go_simp; try with_reducible rfl); try simp only [Act.put, zz1, zz2, zz3, zz4, zz5, zz6]
  refine tkH 8 ?_ rfl ?_ hHeld ?_; rotate_left; (intro w hSw; (try dsimp only at hSw); go_simp; try with_reducible rfl); try simp only [Act.put, zz1, zz2, zz3, zz4, zz5, zz6]
  refine tkH 9 ?_ rfl ?_ hHeld ?_; rotate_left; (intro w hSw; (try dsimp only at hSw); go_simp; try with_reducible rfl); try simp only [Act.put, zz1, zz2, zz3, zz4, zz5, zz6]
  refine tkH 10 ?_ rfl ?_ hHeld ?_; rotate_left; (intro w hSw; (try dsimp only at hSw); go_simp; try with_reducible rfl); try simp only [Act.put, zz1, zz2, zz3, zz4, zz5, zz6]
  refine tkH 11 ?_ rfl ?_ hHeld ?_; rotate_left; (intro w hSw; (try dsimp only at hSw); go_simp; try with_reducible rfl); try simp only [Act.put, zz1, zz2, zz3, zz4, zz5, zz6]
  refine tkH 12 ?_ rfl ?_ hHeld ?_; rotate_left; (intro w hSw; (try dsimp only at hSw); go_simp; try with_reducible rfl); try simp only [Act.put, zz1, zz2, zz3, zz4, zz5, zz6]
  refine tkH 13 ?_ rfl ?_ hHeld ?_; rotate_left; (intro w hSw; (try dsimp only at hSw); go_simp; try with_reducible rfl); try simp only [Act.put, zz1, zz2, zz3, zz4, zz5, zz6]
  refine tkH 14 ?_ rfl ?_ hHeld ?_; rotate_left; (intro w hSw; (try dsimp only at hSw); go_simp; try with_reducible rfl); try simp only [Act.put, zz1, zz2, zz3, zz4, zz5, zz6]
  refine tkH 15 ?_ rfl ?_ hHeld ?_; rotate_left; (intro w hSw; (try dsimp only at hSw); go_simp; try with_reducible rfl); try simp only [Act.put, zz1, zz2, zz3, zz4, zz5, zz6]
  refine tkH 16 ?_ rfl ?_ hHeld ?_; rotate_left; (intro w hSw; (try dsimp only at hSw); go_simp; try with_reducible rfl); try simp only [Act.put, zz1, zz2, zz3, zz4, zz5, zz6]
  refine tkH 17 ?_ rfl ?_ hHeld ?_; rotate_left; (intro w hSw; (try dsimp only at hSw); go_simp; try with_reducible rfl); try simp only [Act.put, zz1, zz2, zz3, zz4, zz5, zz6]
  refine tkH 18 ?_ rfl ?_ hHeld ?_; rotate_left; (intro w hSw; (try dsimp only at hSw); go_simp; try with_reducible rfl); try simp only [Act.put, zz1, zz2, zz3, zz4, zz5, zz6]
  refine tkH 19 ?_ rfl ?_ hHeld ?_; rotate_left; (intro w hSw; (try dsimp only at hSw); go_simp; try with_reducible rfl); try simp only [Act.put, zz1, zz2, zz3, zz4, zz5, zz6]
  refine tkH 20 ?_ rfl ?_ hHeld ?_; rotate_left; (intro w hSw; (try dsimp only at hSw); go_simp; try with_reducible rfl); try simp only [Act.put, zz1, zz2, zz3, zz4, zz5, zz6]
  refine tkH 21 ?_ rfl ?_ hHeld ?_; rotate_left; (intro w hSw; (try dsimp only at hSw); go_simp; try with_reducible rfl); try simp only [Act.put, zz1, zz2, zz3, zz4, zz5, zz6]
  refine tkH 22 ?_ rfl ?_ hHeld ?_; rotate_left; (intro w hSw; (try dsimp only at hSw); go_simp; try with_reducible rfl); try simp only [Act.put, zz1, zz2, zz3, zz4, zz5, zz6]
  refine tkH 23 ?_ rfl ?_ hHeld ?_; rotate_left; (intro w hSw; (try dsimp only at hSw); go_simp; try with_reducible rfl); try simp only [Act.put, zz1, zz2, zz3, zz4, zz5, zz6]
  refine tkH 24 ?_ rfl ?_ hHeld ?_; rotate_left; (intro w hSw; (try dsimp only at hSw); go_simp; try with_reducible rfl); try simp only [Act.put, zz1, zz2, zz3, zz4, zz5, zz6]
  refine tkH 25 ?_ rfl ?_ hHeld ?_; rotate_left; (intro w hSw; (try dsimp only at hSw); go_simp; try with_reducible rfl); try simp only [Act.put, zz1, zz2, zz3, zz4, zz5, zz6]
  refine tkH 26 ?_ rfl ?_ hHeld ?_; rotate_left; (intro w hSw; (try dsimp only at hSw); go_simp; try with_reducible rfl); try simp only [Act.put, zz1, zz2, zz3, zz4, zz5, zz6]
  refine tkH 27 ?_ rfl ?_ hHeld ?_; rotate_left; (intro w hSw; (try dsimp only at hSw); go_simp; try with_reducible rfl); try simp only [Act.put, zz1, zz2, zz3, zz4, zz5, zz6]
  refine wpAnyH_done (by kernel_rfl) ?_ _
  have BE : Hid (act3 K 3 (tn : Int) = (put3 { K with run := (tn : Int) } tn (give2 (gi K.ac (tn * 4)) (gi K.ac (tn * 4 + 1)) (gi K.ac (tn * 4 + 2)) (gi K.ac (tn * 4 + 3))), [K.tick, (tn : Int), 4])) := by
    show _ = _
    unfold act3
    rw [if_neg (by decide), if_pos ⟨rfl, (by have := HLT.out; omega), by rw [Int.toNat_natCast]; exact HA.out, HRR.out⟩, Int.toNat_natCast]
    rfl
  have CO : Hid ((give2 (gi K.ac (tn * 4)) (gi K.ac (tn * 4 + 1)) (gi K.ac (tn * 4 + 2)) (gi K.ac (tn * 4 + 3))).1 = 0 ∨ (give2 (gi K.ac (tn * 4)) (gi K.ac (tn * 4 + 1)) (gi K.ac (tn * 4 + 2)) (gi K.ac (tn * 4 + 3))).1 = 8) := code_give (TT.out.ac tn ht)
  have GS : Hid (∀ W (K' : Ker) ns', NX w0 W g p K' ns' ((bx, .cells #[.int .i64 3, .int .i64 (tn : Int)] 53 (0, 0)) :: bs) → W.cell? ⟨bx, 1, none⟩ = some (.int .i64 (tn : Int)) ∧ W.cell? ⟨g, 2, none⟩ = some (.slice (some ⟨p.g3, o3, none⟩) 4 p.c3)) := fun W K' ns' hN => by
    obtain ⟨_, hM⟩ := hN.mb
    obtain ⟨r0, r1, r2, r3, r4⟩ := hM.cells
    rw [HA3.out] at r2
    exact ⟨cell_of_row W _ 1 _ _ _ hN.at.1, r2⟩
  clear gl gr FS H1 hHeld
  have b1 := cell_of_row w3 _ 1 _ _ _ H3.out.at.1
  simp at b1
  obtain ⟨_, hm⟩ := H3.out.mb
  have fg := hm.froz 4
  obtain ⟨q0, q1, q2, q3, q4⟩ := hm.cells
  clear hm q0 q1 q2 q3
  go_upto_region 4 with (fail)
  obtain ⟨w4, hw4⟩ : ∃ w4, w4 = w3.setCell ⟨g, 4, none⟩ (.int .i64 (tn : Int)) := ⟨_, rfl⟩
  first | rw [← hw4] | (trace_state; fail "w4")
  have H4 := Lib.hid (show NX w0 w4 g p { K with run := (tn : Int) } ns _ by rw [hw4]; exact H3.out.setRun (tn : Int))
  clear hw4 fg q4 b1 H3
  have b1 := cell_of_row w4 _ 1 _ _ _ H4.out.at.1
  simp at b1
  go_wp2_with fail
  refine (note_nx H4.out HL.out (tn : Int) 4).mono ?_
  rintro e9 w5 ⟨rfl, hn⟩
  have H5 := Lib.hid hn
  clear hn b1 H4
  obtain ⟨_, hm⟩ := H5.out.mb
  obtain ⟨o3', hA3', hR3⟩ := hm.accs
  obtain rfl : o3' = o3 := by
    have := hA3'.symm.trans HA3.out
    injection this with e1
    injection e1
  have a0 : w5.cell? ⟨p.g3, o3' + tn * 4, none⟩ = some (.int .i64 (gi K.ac (tn * 4))) := hR3.cell (k := tn * 4) (by omega)
  have a1 : w5.cell? ⟨p.g3, o3' + tn * 4 + 1, none⟩ = some (.int .i64 (gi K.ac (tn * 4 + 1))) := hR3.cell (k := tn * 4 + 1) (by omega)
  have a2 : w5.cell? ⟨p.g3, o3' + tn * 4 + 2, none⟩ = some (.int .i64 (gi K.ac (tn * 4 + 2))) := hR3.cell (k := tn * 4 + 2) (by omega)
  have a3 : w5.cell? ⟨p.g3, o3' + tn * 4 + 3, none⟩ = some (.int .i64 (gi K.ac (tn * 4 + 3))) := hR3.cell (k := tn * 4 + 3) (by omega)
  clear hm hA3' hR3
  go_upto_region 5 with (fail)
  refine wp_region_held_drew (S := fun W => W.cell? ⟨bx, 1, none⟩ = some (.int .i64 (tn : Int)) ∧ W.cell? ⟨g, 2, none⟩ = some (.slice (some ⟨p.g3, o3', none⟩) 4 p.c3)) (by kernel_rfl) (GS.out _ _ _ (H5.out.below (Below.drew (Below.refl _ _)))) (fun hHeld => ?_)
  obtain ⟨v0, hv0⟩ : ∃ v0, v0 = w5.drew := ⟨_, rfl⟩
  have BL0 : Hid (Below w5.heap.size w5 v0) := by rw [hv0]; exact Below.drew (Below.refl _ _)
  rw [← hv0] at hHeld ⊢
  clear hv0
  refine tkH 0 ?_ rfl ?_ hHeld ?_; rotate_left; (intro w hSw; (try dsimp only at hSw); go_simp; try with_reducible rfl); try simp only [Act.put, zz1, zz2, zz3, zz4, zz5, zz6]
  refine tkH 1 ?_ rfl ?_ hHeld ?_; rotate_left; (intro w hSw; (try dsimp only at hSw); go_simp; try with_reducible rfl); try simp only [Act.put, zz1, zz2, zz3, zz4, zz5, zz6]
  refine tkH 2 ?_ rfl ?_ hHeld ?_; rotate_left; (intro w hSw; (try dsimp only at hSw); go_simp; try with_reducible rfl); try simp only [Act.put, zz1, zz2, zz3, zz4, zz5, zz6]
  refine tkH 3 ?_ rfl ?_ hHeld ?_; rotate_left; (intro w hSw; (try dsimp only at hSw); go_simp; try with_reducible rfl); try simp only [Act.put, zz1, zz2, zz3, zz4, zz5, zz6]
  refine tkH 4 ?_ rfl ?_ hHeld ?_; rotate_left; (intro w hSw; (try dsimp only at hSw); go_simp; try with_reducible rfl); try simp only [Act.put, zz1, zz2, zz3, zz4, zz5, zz6]
  refine tkH 5 ?_ rfl ?_ hHeld ?_; rotate_left; (intro w hSw; (try dsimp only at hSw); go_simp; try with_reducible rfl); try simp only [Act.put, zz1, zz2, zz3, zz4, zz5, zz6]
  refine tkH 6 ?_ rfl ?_ hHeld ?_; rotate_left; (intro w hSw; (try dsimp only at hSw); go_simp; try with_reducible rfl); try simp only [Act.put, zz1, zz2, zz3, zz4, zz5, zz6]
  refine tkH 7 ?_ rfl ?_ hHeld ?_; rotate_left; (intro w hSw; (try dsimp only at hSw); go_simp; try with_reducible rfl); try simp only [Act.put, zz1, zz2, zz3, zz4, zz5, zz6]
  refine tkH 8 ?_ rfl ?_ hHeld ?_; rotate_left; (intro w hSw; (try dsimp only at hSw); go_simp; try with_reducible rfl); try simp only [Act.put, zz1, zz2, zz3, zz4, zz5, zz6]
  refine tkH 9 ?_ rfl ?_ hHeld ?_; rotate_left; (intro w hSw; (try dsimp only at hSw); go_simp; try with_reducible rfl); try simp only [Act.put, zz1, zz2, zz3, zz4, zz5, zz6]
  refine tkH 10 ?_ rfl ?_ hHeld ?_; rotate_left; (intro w hSw; (try dsimp only at hSw); go_simp; try with_reducible rfl); try simp only [Act.put, zz1, zz2, zz3, zz4, zz5, zz6]
  refine wpAnyH_ready (rs := [11]) (by kernel_rfl) (by simp) ?_
  refine AllReadyH.cons (o := _) rfl (fun K0 hK0 => ?_) AllReadyH.nil
  have a0' := (BL0.out.cell (World.block_lt_of_cell? _ _ a0)).trans a0
  have a1' := (BL0.out.cell (World.block_lt_of_cell? _ _ a1)).trans a1
  have a2' := (BL0.out.cell (World.block_lt_of_cell? _ _ a2)).trans a2
  have a3' := (BL0.out.cell (World.block_lt_of_cell? _ _ a3)).trans a3
  clear a0 a1 a2 a3
  go_simp
  refine hK0.out _ _ (hHeld) (fun hHeld => ?_)
  clear hK0 K0
  try simp only [Act.put, zz1, zz2, zz3, zz4, zz5, zz6]
  refine wpAnyH_ready (rs := [12]) (by kernel_rfl) (by simp) ?_
  refine AllReadyH.cons (o := _) rfl (fun K0 hK0 => ?_) AllReadyH.nil
  go_simp
  clear a0' a1' a2' a3'
  refine (implGiveTick_any _ _ _ _ _).mono ?_
  rintro e9 w6 ⟨rfl, hb⟩
  have H6 := Lib.hid ((H5.out.below BL0.out).below hb)
  clear hb
  go_wp2_with fail
  refine hK0.out _ _ (GS.out _ _ _ H6.out) (fun hHeld => ?_)
  clear hK0 K0
  try simp only [Act.put, zz1, zz2, zz3, zz4, zz5, zz6]
  refine wpAnyH_ready (rs := [13]) (by kernel_rfl) (by simp) ?_
  refine AllReadyH.cons (o := _) rfl (fun K0 hK0 => ?_) AllReadyH.nil
  go_simp
  refine (count_nx H6.out tn ht _ CO.out).mono ?_
  rintro e9 w7 ⟨rfl, hn⟩
  have H7 := Lib.hid hn
  clear hn H6
  go_wp2_with fail
  refine hK0.out _ _ (GS.out _ _ _ H7.out) (fun hHeld => ?_)
  clear hK0 K0
  try simp only [Act.put, zz1, zz2, zz3, zz4, zz5, zz6]
  refine wpAnyH_done (by kernel_rfl) ?_ _
  go_wp2_with fail
  first | refine bodyPost_ret (results_none rfl _ _ _) rfl ?_ | refine bodyPost_end (results_none rfl _ _ _) rfl ?_
  rw [BE.out]
  exact ⟨rfl, H7.out.forget⟩



theorem meet_k {w0 : World} {g : Nat} {p : Kp} {K : Ker} {bs : List (Nat × Obj)} (t : TK K) (hr : K.run ≠ -1) (k : Int) (hk : k = 1 ∨ k = 2 ∨ k = 3) (tn : Nat) (ht : tn < 4) :
    ∃ fid : Nat, akf k = .func (.func fid) #[] #[] ∧ (∀ args W, (callFunc fid args).run Tryz.prog W = .ok (.enter fid args) W) ∧
      ∀ W ns', NX w0 W g p K ns' bs → ns'.length ≤ 190 → Calls Tryz.prog fid #[.pointer (some ⟨g, 0, none⟩), .agg #[.int .i64 k, .int .i64 (tn : Int)]] W fun e w' => e = .returned (.tuple #[]) ∧ NX w0 w' g p (act3 K k tn).1 (ns' ++ (act3 K k tn).2) bs := by
  rcases hk with rfl | rfl | rfl
  · refine ⟨147, rfl, fun _ _ => by kernel_rfl, fun W ns' hN hl => ?_⟩
    refine (meetWork_any hN t hr (by omega) 1 (tn : Int)).mono ?_
    rintro e w' ⟨rfl, hn⟩
    rw [show act3 K 1 (tn : Int) = (put3 K K.run.toNat (acf K K.run.toNat (fun u x g d => use2 u x g d (decide (6 ≤ K.tick % 9)))), []) by unfold act3; rw [if_neg (by decide), if_neg (by rintro ⟨c, _⟩; omega)], List.append_nil]
    exact ⟨rfl, hn⟩
  · refine ⟨148, rfl, fun _ _ => by kernel_rfl, fun W ns' hN hl => ?_⟩
    refine (meetReturn_any hN (by omega) 2 (tn : Int)).mono ?_
    rintro e w' ⟨rfl, hn⟩
    rw [show act3 K 2 (tn : Int) = ({ K with run := -1 }, [K.tick, K.run, 5]) by unfold act3; rw [if_pos rfl]]
    exact ⟨rfl, hn⟩
  · refine ⟨149, rfl, fun _ _ => by kernel_rfl, fun W ns' hN hl => ?_⟩
    exact meetYield_any hN t hr hl tn ht
theorem end3_tick (K : Ker) : (tickE K).1.tick = K.tick := by
  unfold tickE end3
  split
  · exact (put3_os _ _ _).2.2.1
  · rfl
theorem run_af1 (a : Bool) (f : Nat) (w : World) : (Instr.field 157 (.agg #[.bool a, .func (.func f) #[] #[]]) 1).run Tryz.prog w = .ok (.func (.func f) #[] #[]) w := by kernel_rfl

set_option maxHeartbeats 4000000 in
theorem passTick_any {w0 w : World} {g : Nat} {p : Kp} {K : Ker} {ns : List Int} {bs : List (Nat × Obj)} (h : NX w0 w g p K ns bs) (t : TK K) (hl : ns.length ≤ 100) (k : Int) (hk : k = 1 ∨ k = 2 ∨ k = 3) (tn : Nat) (ht : tn < 4) :
    Calls Tryz.prog 73 #[.pointer (some ⟨g, 0, none⟩), .agg #[.int .i64 k, .int .i64 (tn : Int)]] w fun e w' => e = .returned (.tuple #[]) ∧ NX w0 w' g p (tick3 K k tn).1 (ns ++ (tick3 K k tn).2) bs := by
  obtain ⟨w1, hw1⟩ : ∃ w1, w1 = w.alloc (.cells #[.int .i64 k, .int .i64 (tn : Int)] 53) := ⟨_, rfl⟩
  have R1 : w1.heap[w.heap.size]? = some (.cells #[.int .i64 k, .int .i64 (tn : Int)] 53 (0, 0)) := by rw [hw1]; exact heap_alloc_new w _
  have H1 := Lib.hid (h.guest (show Kept [] w w1 by rw [hw1]; exact (Kept.refl _ _).alloc _) R1 (Nat.le_refl _))
  obtain ⟨bx, hbx⟩ : ∃ bx, bx = w.heap.size := ⟨_, rfl⟩
  rw [← hbx] at H1 R1
  have HBX := Lib.hid hbx
  have HW1 := Lib.hid hw1
  have HL := Lib.hid hl
  have TT := Lib.hid t
  have TI := Lib.hid t.tick.1
  have HT := Lib.hid ht
  have HK := Lib.hid hk
  obtain ⟨_, hm⟩ := H1.out.mb
  obtain ⟨q0, q1, q2, q3, q4⟩ := hm.cells
  clear h hl hm R1 hw1 hbx t ht hk
  go_enter Tryz.func73, Tryz.ntmps73
  go_upto_region 1 with (fail)
  rw [← HW1.out, ← HBX.out]
  clear HW1 HBX
  go_wp2_with fail
  refine (phaseOf_any _ _ _ _ _ _ TI.out).mono ?_
  rintro e9 w2 ⟨rfl, hb⟩
  have H2 := Lib.hid (H1.out.below hb)
  clear hb H1 q0 q1 q2 q3 q4
  go_upto_if 9 with (fail)
  go_cut [3] from 4 (fun x wx => x = .pointer (some ⟨bx, 0, none⟩) ∧ NX w0 wx g p (tickB K).1 (ns ++ (tickB K).2) ((bx, .cells #[.int .i64 k, .int .i64 (tn : Int)] 53 (0, 0)) :: bs))
  case first => as_aux_lemma =>
    by_cases hp : K.tick % 9 = 0
    · have gp : (K.tick % 9 == 0) = true := by simp [hp]
      have BE : Hid (tickB K = begin3 K) := by show _ = _; unfold tickB; rw [if_pos hp]
      clear hp
      go_wp2_with fail
      refine (beginWindow_any H2.out TT.out (by have := HL.out; omega)).mono ?_
      rintro e9 w3 ⟨rfl, hn⟩
      go_wp2_with fail
      go_meet
      rw [BE.out]
      exact ⟨rfl, hn⟩
    · have gp : (K.tick % 9 == 0) = false := by simp [hp]
      have BE : Hid (tickB K = (K, [])) := by show _ = _; unfold tickB; rw [if_neg hp]
      clear hp
      go_wp2_with fail
      go_meet
      rw [BE.out, List.append_nil]
      exact ⟨rfl, H2.out⟩
  case rest =>
    obtain ⟨rfl, hn⟩ := hcut
    have T1 := Lib.hid TT.out.tickB
    have K1T := Lib.hid (begin3_tick K)
    have LB := Lib.hid (begin3_len K)
    have TE : Hid (tick3 K k tn = ({ (tickE (tickA (tickB K).1 k tn).1).1 with tick := K.tick + 1 }, (tickB K).2 ++ (tickA (tickB K).1 k tn).2 ++ (tickE (tickA (tickB K).1 k tn).1).2)) := by show _ = _; rfl
    obtain ⟨K1, hK1⟩ : ∃ K1, K1 = (tickB K).1 := ⟨_, rfl⟩
    obtain ⟨n1, hn1⟩ : ∃ n1, n1 = (tickB K).2 := ⟨_, rfl⟩
    rw [← hK1] at T1 K1T TE hn
    rw [← hn1] at LB TE hn
    have H3 := Lib.hid hn
    clear hn hK1 hn1 H2
    obtain ⟨_, hm⟩ := H3.out.mb
    obtain ⟨q0, q1, q2, q3, q4⟩ := hm.cells
    clear hm q0 q1 q2 q3
    go_upto_if 17 with (fail)
    go_cut [3] from 12 (fun x wx => x = .pointer (some ⟨bx, 0, none⟩) ∧ NX w0 wx g p (tickA K1 k tn).1 (ns ++ n1 ++ (tickA K1 k tn).2) ((bx, .cells #[.int .i64 k, .int .i64 (tn : Int)] 53 (0, 0)) :: bs))
    case first => as_aux_lemma =>
      by_cases hr : K1.run = -1
      · have gr : (K1.run != -1) = false := by simp [hr]
        have BE : Hid (tickA K1 k tn = (K1, [])) := by show _ = _; unfold tickA; rw [if_neg (fun hh => hh hr)]
        clear hr
        go_wp2_with fail
        go_meet
        rw [BE.out, List.append_nil]
        exact ⟨rfl, H3.out⟩
      · have gr : (K1.run != -1) = true := by simp [hr]
        have BE : Hid (tickA K1 k tn = act3 K1 k tn) := by show _ = _; unfold tickA; rw [if_pos hr]
        obtain ⟨fid, kv, hcf, MC⟩ := meet_k (w0 := w0) (g := g) (p := p) (bs := ((bx, .cells #[.int .i64 k, .int .i64 (tn : Int)] 53 (0, 0)) :: bs)) T1.out hr k HK.out tn HT.out
        have MCH := Lib.hid MC
        have FS : Hid (∀ W (K' : Ker) ns', NX w0 W g p K' ns' ((bx, .cells #[.int .i64 k, .int .i64 (tn : Int)] 53 (0, 0)) :: bs) → W.cell? ⟨bx, 0, none⟩ = some (.int .i64 k) ∧ W.cell? ⟨bx, 1, none⟩ = some (.int .i64 (tn : Int))) := fun W K' ns' hN => ⟨cell_of_row W _ 0 _ _ _ hN.at.1, cell_of_row W _ 1 _ _ _ hN.at.1⟩
        have fl := run_af1
        clear hr MC
        go_upto_region 4 with (fail)
        refine wp_region_held_drew (S := fun W => W.cell? ⟨bx, 0, none⟩ = some (.int .i64 k) ∧ W.cell? ⟨bx, 1, none⟩ = some (.int .i64 (tn : Int))) (by kernel_rfl) (FS.out _ _ _ (H3.out.below (Below.drew (Below.refl _ _)))) (fun hHeld => ?_)
        obtain ⟨v0, hv0⟩ : ∃ v0, v0 = wc.drew := ⟨_, rfl⟩
        have BL0 : Hid (Below wc.heap.size wc v0) := by rw [hv0]; exact Below.drew (Below.refl _ _)
        rw [← hv0] at hHeld ⊢
        clear hv0
        refine tkH 1 ?_ rfl ?_ hHeld ?_; rotate_left; (intro w hSw; (try dsimp only at hSw); go_simp; try with_reducible rfl); try simp only [Act.put, zz1, zz2, zz3, zz4, zz5, zz6]
        refine tkH 2 ?_ rfl ?_ hHeld ?_; rotate_left; (intro w hSw; (try dsimp only at hSw); go_simp; try with_reducible rfl); try simp only [Act.put, zz1, zz2, zz3, zz4, zz5, zz6]
        refine tkH 5 ?_ rfl ?_ hHeld ?_; rotate_left; (intro w hSw; (try dsimp only at hSw); go_simp; try with_reducible rfl); try simp only [Act.put, zz1, zz2, zz3, zz4, zz5, zz6]
        refine tkH 6 ?_ rfl ?_ hHeld ?_; rotate_left; (intro w hSw; (try dsimp only at hSw); go_simp; try with_reducible rfl); try simp only [Act.put, zz1, zz2, zz3, zz4, zz5, zz6]
        refine wpAnyH_ready (rs := [0]) (by kernel_rfl) (by simp) ?_
        refine AllReadyH.cons (o := _) rfl (fun K0 hK0 => ?_) AllReadyH.nil
        go_simp
        refine (actKinds_any _).mono ?_
        rintro e9 v1 ⟨rfl, hv1⟩
        have BL1 := Lib.hid (show Below wc.heap.size wc v1 by rw [hv1]; exact BL0.out.alloc BL0.out.size _)
        have L1 := actKinds_look k false v1 v0.heap.size (by rw [hv1]; exact heap_alloc_new v0 _)
        rw [kv] at L1
        simp only [Bool.false_eq_true, if_false] at L1
        clear hv1
        go_wp2_with fail
        refine hK0.out _ _ (FS.out _ _ _ (H3.out.below BL1.out)) (fun hHeld => ?_)
        clear hK0 K0
        try simp only [Act.put, zz1, zz2, zz3, zz4, zz5, zz6]
        refine wpAnyH_ready (rs := [3]) (by kernel_rfl) (by simp) ?_
        refine AllReadyH.cons (o := _) rfl (fun K0 hK0 => ?_) AllReadyH.nil
        go_simp
        refine hK0.out _ _ (hHeld) (fun hHeld => ?_)
        clear hK0 K0
        try simp only [Act.put, zz1, zz2, zz3, zz4, zz5, zz6]
        refine tkH 4 ?_ rfl ?_ hHeld ?_; rotate_left; (intro w hSw; (try dsimp only at hSw); go_simp; try with_reducible rfl); try simp only [Act.put, zz1, zz2, zz3, zz4, zz5, zz6]
        refine wpAnyH_ready (rs := [7]) (by kernel_rfl) (by simp) ?_
        refine AllReadyH.cons (o := _) rfl (fun K0 hK0 => ?_) AllReadyH.nil
        go_simp
        refine (MCH.out _ _ (H3.out.below BL1.out) (by have := HL.out; have := LB.out; simp; omega)).mono ?_
        rintro e9 w6 ⟨rfl, hn⟩
        have H6 := Lib.hid hn
        clear hn
        go_wp2_with fail
        refine hK0.out _ _ (FS.out _ _ _ H6.out) (fun hHeld => ?_)
        clear hK0 K0
        try simp only [Act.put, zz1, zz2, zz3, zz4, zz5, zz6]
        refine wpAnyH_done (by kernel_rfl) ?_ _
        go_wp2_with fail
        go_meet
        rw [BE.out]
        exact ⟨rfl, H6.out⟩
    case rest =>
      obtain ⟨rfl, hn⟩ := hcut
      have T2 := Lib.hid (show TK (tickA K1 k tn).1 by
        unfold tickA
        split
        · rename_i hh; exact T1.out.act hh k tn ⟨by omega, by have := HT.out; omega⟩
        · exact T1.out)
      have K2T := Lib.hid ((act3_tick K1 k tn).trans K1T.out)
      have LA := Lib.hid (act3_len K1 k tn)
      obtain ⟨K2, hK2⟩ : ∃ K2, K2 = (tickA K1 k tn).1 := ⟨_, rfl⟩
      obtain ⟨n2, hn2⟩ : ∃ n2, n2 = (tickA K1 k tn).2 := ⟨_, rfl⟩
      rw [← hK2] at T2 K2T TE hn
      rw [← hn2] at LA TE hn
      have H4 := Lib.hid hn
      clear hn hK2 hn2 H3 q4
      have W1 : IntKind.i64.wrap (K.tick + 1) = K.tick + 1 := IntWalk.i64_in _ (by have := TT.out.tick; omega)
      have TI2 := Lib.hid (show 0 ≤ K2.tick by rw [K2T.out]; exact TI.out)
      have PH : Hid (∀ a b c r W, Calls Tryz.prog 101 #[.agg #[a, b, c, .int .i64 K2.tick, .int .i64 r]] W fun e w' => e = .returned (.int .i64 (K2.tick % 9)) ∧ Below W.heap.size W w') := fun a b c r W => phaseOf_any a b c _ r W TI2.out
      obtain ⟨_, hm⟩ := H4.out.mb
      obtain ⟨q0, q1, q2, q3, q4⟩ := hm.cells
      clear hm
      by_cases hp : K2.tick % 9 = 8
      · have gp : (K2.tick % 9 == 8) = true := by simp [hp]
        by_cases hr : K2.run = -1
        · have gr : (K2.run != -1) = false := by simp [hr]
          have BE : Hid (tickE K2 = (K2, [])) := by show _ = _; unfold tickE; rw [if_neg (fun hh => hh.2 hr)]
          clear hr hp
          go_wp2_with fail
          refine (PH.out _ _ _ _ _).mono ?_
          rintro e9 w5 ⟨rfl, hb⟩
          have H5 := Lib.hid (H4.out.below hb)
          clear hb q0 q1 q2 q3 q4 H4
          obtain ⟨_, hm⟩ := H5.out.mb
          obtain ⟨q0, q1, q2, q3, q4⟩ := hm.cells
          clear hm q0 q1 q2 q3
          go_upto_region 7 with (fail)
          clear q4
          obtain ⟨_, hm⟩ := H5.out.mb
          have fg := hm.froz 3
          obtain ⟨q0, q1, q2, q3, q4⟩ := hm.cells
          rw [K2T.out] at q3
          clear hm q0 q1 q2 q4
          go_wp2_with fail
          first | refine bodyPost_ret (results_none rfl _ _ _) rfl ?_ | refine bodyPost_end (results_none rfl _ _ _) rfl ?_
          rw [TE.out, BE.out, ← List.append_assoc, ← List.append_assoc]
          exact ⟨rfl, by simp only [List.append_nil]; exact (H5.out.setTick _).forget⟩
        · have gr : (K2.run != -1) = true := by simp [hr]
          have BE : Hid (tickE K2 = end3 K2) := by show _ = _; unfold tickE; rw [if_pos ⟨hp, hr⟩]
          have HR := Lib.hid hr
          clear hr hp
          go_wp2_with fail
          refine (PH.out _ _ _ _ _).mono ?_
          rintro e9 w5 ⟨rfl, hb⟩
          have H5 := Lib.hid (H4.out.below hb)
          clear hb q0 q1 q2 q3 q4 H4
          obtain ⟨_, hm⟩ := H5.out.mb
          obtain ⟨q0, q1, q2, q3, q4⟩ := hm.cells
          clear hm q0 q1 q2 q3
          go_wp2_with fail
          refine (endWindow_any H5.out T2.out HR.out (by have := HL.out; have := LB.out; have := LA.out; simp; omega)).mono ?_
          rintro e9 w6 ⟨rfl, hn⟩
          have H6 := Lib.hid hn
          have K3T : Hid ((end3 K2).1.tick = K.tick) := by show _ = _; rw [← BE.out, end3_tick]; exact K2T.out
          clear hn q4 H5
          obtain ⟨_, hm⟩ := H6.out.mb
          have fg := hm.froz 3
          obtain ⟨q0, q1, q2, q3, q4⟩ := hm.cells
          rw [K3T.out] at q3
          clear hm q0 q1 q2 q4
          go_wp2_with fail
          first | refine bodyPost_ret (results_none rfl _ _ _) rfl ?_ | refine bodyPost_end (results_none rfl _ _ _) rfl ?_
          rw [TE.out, BE.out, ← List.append_assoc, ← List.append_assoc]
          exact ⟨rfl, (H6.out.setTick _).forget⟩
      · have gp : (K2.tick % 9 == 8) = false := by simp [hp]
        have BE : Hid (tickE K2 = (K2, [])) := by show _ = _; unfold tickE; rw [if_neg (fun hh => hp hh.1)]
        clear hp
        go_wp2_with fail
        refine (PH.out _ _ _ _ _).mono ?_
        rintro e9 w5 ⟨rfl, hb⟩
        have H5 := Lib.hid (H4.out.below hb)
        clear hb q0 q1 q2 q3 q4 H4
        go_upto_region 7 with (fail)
        obtain ⟨_, hm⟩ := H5.out.mb
        have fg := hm.froz 3
        obtain ⟨q0, q1, q2, q3, q4⟩ := hm.cells
        rw [K2T.out] at q3
        clear hm q0 q1 q2 q4
        go_wp2_with fail
        first | refine bodyPost_ret (results_none rfl _ _ _) rfl ?_ | refine bodyPost_end (results_none rfl _ _ _) rfl ?_
        rw [TE.out, BE.out, ← List.append_assoc, ← List.append_assoc]
        exact ⟨rfl, by simp only [List.append_nil]; exact (H5.out.setTick _).forget⟩

end Go.Proofs.YtckapndpefkcgaaGreat
