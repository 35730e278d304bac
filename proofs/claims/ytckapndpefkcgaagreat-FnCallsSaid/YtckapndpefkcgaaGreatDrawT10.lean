/-
  What the draws of a tick and of a call answer: a kernel that was perhaps bent, and an act, or a call. For codes of at most 2^20 bytes.
-/
import Derived.Test.YtckapndpefkcgaaGreatBent10
import Derived.Test.YtckapndpefkcgaaGreatDrawB3
set_option maxHeartbeats 1000000
namespace Go.Proofs.YtckapndpefkcgaaGreat
open Go.RowKit
set_option maxRecDepth 100000

theorem results_two10 {P : Program} {fn : Func} {p u : Tmp} {ty ty' : TypeId} (h : fn.results = #[.cell p ty, .cell u ty']) (tmps : Array Value) (w : World) (g g2 : Nat) (t t2 : TypeId) (cs cs2 : Array Value) (fr fr2 : Nat × Nat) (d d2 : TypeDesc)
    (hp : tmps.getD p undef = .pointer (some ⟨g, 0, none⟩)) (hp2 : tmps.getD u undef = .pointer (some ⟨g2, 0, none⟩)) (hg : w.heap[g]? = some (.cells cs t fr)) (hg2 : w.heap[g2]? = some (.cells cs2 t2 fr2))
    (hu : P.underlying ty = some d) (hd : (match d with | .struct _ | .array _ _ => true | _ => false) = true) (hi : (P.info? ty).map (·.size) = some cs.size)
    (hu2 : P.underlying ty' = some d2) (hd2 : (match d2 with | .struct _ | .array _ _ => true | _ => false) = true) (hi2 : (P.info? ty').map (·.size) = some cs2.size) :
    (results fn tmps).run P w = .ok (.tuple #[.agg cs, .agg cs2]) w := by
  have hp' : tmps[p]?.getD undef = .pointer (some ⟨g, 0, none⟩) := by simpa using hp
  have hp2' : tmps[u]?.getD undef = .pointer (some ⟨g2, 0, none⟩) := by simpa using hp2
  simp [results, h, hp', hp2', asAddr, run_loadVar_row w g t ty cs fr d hg hu hd hi, run_loadVar_row w g2 t2 ty' cs2 fr2 d2 hg2 hu2 hd2 hi2, Result.andThen]
theorem run_ea10 (k a b c d e f : Int) (W : World) : (Instr.field 57 (.agg #[.int .i64 k, .int .i64 a, .int .i64 b, .int .i64 c, .int .i64 d, .int .i64 e, .int .i64 f]) 1).run Tryz.prog W = .ok (.agg #[.int .i64 a, .int .i64 b]) W := by kernel_rfl
theorem l1Max10_any (a b : Int) (w : World) : Calls Tryz.prog 84 #[.int .i64 a, .int .i64 b] w fun e w' => e = .returned (.int .i64 (max a b)) ∧ Below w.heap.size w w' := by
  by_cases h : a > b
  · have y : decide (a > b) = true := decide_eq_true h
    have E : Hid (max a b = a) := by show _ = _; omega
    go_enter Tryz.func84, Tryz.ntmps84
    go_wp2
    go_ret
    exact ⟨by rw [E.out]; first | done | rfl, Below.refl _ _⟩
  · have y : decide (a > b) = false := decide_eq_false h
    have E : Hid (max a b = b) := by show _ = _; omega
    go_enter Tryz.func84, Tryz.ntmps84
    go_wp2
    go_ret
    exact ⟨by rw [E.out]; first | done | rfl, Below.refl _ _⟩
theorem World.heap_setCell_ne10 (w : World) {g : Nat} (i : Nat) (v : Value) (b : Nat) (h : b ≠ g) : (w.setCell ⟨g, i, none⟩ v).heap[b]? = w.heap[b]? := Below.heap_setCell w ⟨g, i, none⟩ v b h

def TickD (w : World) (e : Ending) (w' : World) : Prop :=
  ∃ (A1 : Option Addr) (n1 c1 : Nat) (A2 : Option Addr) (n2 c2 : Nat) (A3 : Option Addr) (n3 c3 : Nat) (K : Ker) (x0 x1 : Int), e = .returned (.tuple #[.agg #[.slice A1 n1 c1, .slice A2 n2 c2, .slice A3 n3 c3, .int .i64 K.tick, .int .i64 K.run], .agg #[.int .i64 x0, .int .i64 x1]]) ∧
    KRead w' w.heap.size w'.heap.size A1 n1 A2 n2 A3 n3 K ∧ (A1 = none → c1 = 0) ∧ (n1 ≤ 12 ∧ n2 ≤ 4 ∧ n3 ≤ 5) ∧ Below w.heap.size w w'

set_option maxHeartbeats 8000000 in
theorem DrawDoTick_any (lo hi : Nat) (A : Option Addr) (k c : Nat) (b : Nat → Int) (w : World) (hk : k ≤ 1048576) (hb : ∀ j, 0 ≤ b j ∧ b j ≤ 255) (h : Sl w lo hi A k (fun j => .int .u8 (b j))) :
    Calls Tryz.prog 23 #[.slice A k c] w (TickD w) := by
  have HBY := Lib.hid hb
  have CD : Hid (∀ W, Below w.heap.size w W → Sl W lo (min hi w.heap.size) A k (fun j => .int .u8 (b j))) := fun W hW => h.lt.below hW (by omega)
  obtain ⟨w1, hw1⟩ : ∃ w1, w1 = w.alloc (.cells #[.slice none 0 0, .slice none 0 0, .slice none 0 0, .int .i64 0, .int .i64 0] 39) := ⟨_, rfl⟩
  obtain ⟨w2, hw2⟩ : ∃ w2, w2 = w1.alloc (.cells #[.int .i64 0, .int .i64 0] 53) := ⟨_, rfl⟩
  have z1 : w1.heap.size = w.heap.size + 1 := by rw [hw1]; simp
  have z2 : w2.heap.size = w1.heap.size + 1 := by rw [hw2]; simp
  have N1 : Below w.heap.size w w1 := by rw [hw1]; exact below_new w _
  have N2 : Below w1.heap.size w1 w2 := by rw [hw2]; exact below_new w1 _
  have K1 : w1.heap[w.heap.size]? = some (.cells #[.slice none 0 0, .slice none 0 0, .slice none 0 0, .int .i64 0, .int .i64 0] 39 (0, 0)) := by rw [hw1]; exact heap_alloc_new w _
  have A2' : w2.heap[w.heap.size + 1]? = some (.cells #[.int .i64 0, .int .i64 0] 53 (0, 0)) := by rw [hw2, ← z1]; exact heap_alloc_new w1 _
  have K2 := (N2.block w.heap.size (by omega)).trans K1
  have FB : Hid (∀ W, Below w2.heap.size w2 W → W.heap[w.heap.size]? = some (.cells #[.slice none 0 0, .slice none 0 0, .slice none 0 0, .int .i64 0, .int .i64 0] 39 (0, 0)) ∧ W.heap[w.heap.size + 1]? = some (.cells #[.int .i64 0, .int .i64 0] 53 (0, 0)) ∧ Below w.heap.size w W) := fun W hW =>
    ⟨(hW.block _ (by omega)).trans K2, (hW.block _ (by omega)).trans A2', N1.trans ((N2.trans (hW.mono (by omega))).mono (by omega))⟩
  have Z2 : Hid (w2.heap.size = w.heap.size + 2) := by show _ = _; omega
  have HW1 := Lib.hid hw1; have HW2 := Lib.hid hw2
  obtain ⟨g, hgz⟩ : ∃ g, g = w2.heap.size := ⟨_, rfl⟩
  have C1 := Lib.hid (l1Source_any A k c w2)
  rw [← hgz] at C1
  have hg1 : g ≤ w2.heap.size := by omega
  have hg2 : w2.heap.size ≤ g := by omega
  have hg3 : w.heap.size + 2 = g := by omega
  clear h hb hw1 hw2 z1 z2 N1 N2 K1 A2' K2 hgz
  go_enter Tryz.func23, Tryz.ntmps23
  go_upto_region 1 with (fail)
  rw [← HW1.out, ← HW2.out]
  clear HW1 HW2
  go_wp2_with fail
  refine C1.out.mono ?_
  rintro e w3 ⟨rfl, hs3, hb3⟩
  have S3 := Lib.hid hs3
  have B3 : Hid (Below w2.heap.size w2 w3) := hb3.mono hg2
  have z3 : g < w3.heap.size := hs3.lt
  clear hs3 hb3 C1
  have C2 := Lib.hid (l3Bent_any lo (min hi w.heap.size) g A k c 0 b w3 hk (by omega) HBY.out (CD.out w3 (FB.out w3 B3.out).2.2) (by omega) S3.out)
  go_wp2_with fail
  refine C2.out.mono ?_
  rintro e w4 ⟨A1, n1, c1, A2, n2, c2, A3, n3, c3, K, a4, rfl, hkd, hnil, hnn, ha4, hs4, ho4⟩
  have NIL := Lib.hid hnil; have NN := Lib.hid hnn
  have z4 := ho4.1.size
  have B4 : Hid (Below w2.heap.size w2 w4) := B3.out.trans (ho4.1.mono hg2 |>.mono (Nat.le_refl _))
  obtain ⟨w5, hw5⟩ : ∃ V, V = w4.alloc (.cells #[.slice A1 n1 c1, .slice A2 n2 c2, .slice A3 n3 c3, .int .i64 K.tick, .int .i64 K.run] 39) := ⟨_, rfl⟩
  obtain ⟨s, hsz⟩ : ∃ s, s = w4.heap.size := ⟨_, rfl⟩
  have N5 : Below w4.heap.size w4 w5 := by rw [hw5]; exact below_new w4 _
  have z5 : w5.heap.size = s + 1 := by rw [hw5, hsz]; simp
  have hsl : w3.heap.size ≤ s := by omega
  have B5 : Hid (Below w2.heap.size w2 w5) := B4.out.trans (N5.mono (by have := B4.out.size; omega))
  have X5 : Hid (w5.heap[s]? = some (.cells #[.slice A1 n1 c1, .slice A2 n2 c2, .slice A3 n3 c3, .int .i64 K.tick, .int .i64 K.run] 39 (0, 0))) := by show _ = _; rw [hw5, hsz]; exact heap_alloc_new w4 _
  have D5 : Hid (KRead w5 w3.heap.size s A1 n1 A2 n2 A3 n3 K) := by have := hkd.below N5 (Nat.le_refl _); rw [← hsz] at this; exact this
  have S5 : Hid (Src w5 g A k c a4) := hs4.below N5
  have HW5 := Lib.hid hw5; have HS := Lib.hid hsz
  clear hkd hnil hnn hs4 ho4 C2 hw5 hsz N5 S3
  go_upto_region 3 with (fail)
  rw [← HW5.out, ← HS.out]
  clear HW5 HS
  have STEP : Hid (∀ (V V' : World) (t : TypeId) (cs : Array Value) (j : Nat), Only g (g + 1) V V' → Below w2.heap.size w2 V → V.heap[s]? = some (.cells #[.slice A1 n1 c1, .slice A2 n2 c2, .slice A3 n3 c3, .int .i64 K.tick, .int .i64 K.run] 39 (0, 0)) → KRead V w3.heap.size s A1 n1 A2 n2 A3 n3 K → Below w2.heap.size w2 V' ∧ V'.heap[s]? = some (.cells #[.slice A1 n1 c1, .slice A2 n2 c2, .slice A3 n3 c3, .int .i64 K.tick, .int .i64 K.run] 39 (0, 0)) ∧ KRead V' w3.heap.size s A1 n1 A2 n2 A3 n3 K ∧ (j ≠ g → V.heap[j]? = some (.cells cs t (0, 0)) → V'.heap[j]? = some (.cells cs t (0, 0)))) := by
    intro V V' t cs j ho hb hx hd
    have hsV : s < V.heap.size := (Array.getElem?_eq_some_iff.1 hx).1
    refine ⟨hb.trans (ho.1.mono hg2), (ho.2 s (by omega) hsV).trans hx, hd.keep fun q h1 h2 => ho.2 q (by omega) (by omega), fun hj hc => ?_⟩
    have hl := (Array.getElem?_eq_some_iff.1 hc).1
    rcases Nat.lt_or_ge j g with q | q
    · exact (ho.1.block j q).trans hc
    · exact (ho.2 j (by omega) hl).trans hc
  have C3 := Lib.hid (l3DrawAct_any lo (min hi w.heap.size) g A k c a4 b w5 hk (by omega) HBY.out (CD.out w5 (FB.out w5 B5.out).2.2) (by omega) S5.out)
  go_wp2_with fail
  refine C3.out.mono ?_
  rintro e w6 ⟨x0, x1, a6, rfl, _, _, ha6, hs6, ho6⟩
  have Q6 := Lib.hid (STEP.out w5 w6 53 #[.int .i64 0, .int .i64 0] 0 ho6 B5.out X5.out D5.out)
  have S6 := Lib.hid hs6
  clear ho6 hs6 C3 S5 X5 D5 B5 B4 B3
  obtain ⟨w7, hw7⟩ : ∃ V, V = w6.alloc (.cells #[.int .i64 x0, .int .i64 x1] 53) := ⟨_, rfl⟩
  obtain ⟨s6, hs6z⟩ : ∃ s, s = w6.heap.size := ⟨_, rfl⟩
  have N7 : Below w6.heap.size w6 w7 := by rw [hw7]; exact below_new w6 _
  have s56 : s < s6 := by rw [hs6z]; exact (Array.getElem?_eq_some_iff.1 Q6.out.2.1).1
  have B7 : Hid (Below w2.heap.size w2 w7) := Q6.out.1.trans (N7.mono Q6.out.1.size)
  have X7 : Hid (w7.heap[s]? = some (.cells #[.slice A1 n1 c1, .slice A2 n2 c2, .slice A3 n3 c3, .int .i64 K.tick, .int .i64 K.run] 39 (0, 0))) := (N7.block s (by omega)).trans Q6.out.2.1
  have D7 : Hid (KRead w7 w3.heap.size s A1 n1 A2 n2 A3 n3 K) := Q6.out.2.2.1.below N7 (by omega)
  have Y7 : Hid (w7.heap[s6]? = some (.cells #[.int .i64 x0, .int .i64 x1] 53 (0, 0))) := by show _ = _; rw [hw7, hs6z]; exact heap_alloc_new w6 _
  have S7 := Lib.hid (S6.out.below N7)
  have HW7 := Lib.hid hw7; have HS6 := Lib.hid hs6z
  clear hw7 hs6z N7 Q6 S6
  go_upto_region 4 with (fail)
  rw [← HW7.out, ← HS6.out]
  clear HW7 HS6
  have CH := Lib.hid (l1Chance_any lo (min hi w.heap.size) g A k c a6 12 b w7 (by omega) hk (by omega) HBY.out (CD.out w7 (FB.out w7 B7.out).2.2) (by omega) S7.out)
  go_wp2_with fail
  refine CH.out.mono ?_
  rintro e w8 ⟨y, rfl, _, ho8⟩
  have Q8 := Lib.hid (STEP.out w7 w8 53 #[.int .i64 x0, .int .i64 x1] s6 ho8 B7.out X7.out D7.out)
  have B8 := Lib.hid Q8.out.1
  have X8 := Lib.hid Q8.out.2.1
  have D8 := Lib.hid Q8.out.2.2.1
  have Y8 := Lib.hid (Q8.out.2.2.2 (by omega) Y7.out)
  have z6 : s6 < w8.heap.size := (Array.getElem?_eq_some_iff.1 Y8.out).1
  clear ho8 CH S7 B7 X7 D7 Y7 Q8 STEP
  have DONE : Hid (∀ (W V : World) (y0 y1 : Int), Below w2.heap.size w2 W → KRead W w3.heap.size s A1 n1 A2 n2 A3 n3 K → s < W.heap.size → (∀ q, q ≠ w.heap.size → q ≠ w.heap.size + 1 → V.heap[q]? = W.heap[q]?) → W.heap.size ≤ V.heap.size → Below w.heap.size w V → TickD w (.returned (.tuple #[.agg #[.slice A1 n1 c1, .slice A2 n2 c2, .slice A3 n3 c3, .int .i64 K.tick, .int .i64 K.run], .agg #[.int .i64 y0, .int .i64 y1]])) V) := by
    intro W V y0 y1 hW hd hsW hV hz hb
    exact ⟨A1, n1, c1, A2, n2, c2, A3, n3, c3, K, y0, y1, rfl, (hd.keep fun q h1 h2 => hV q (by omega) (by omega)).wide (by omega) (by omega), NIL.out, NN.out, hb⟩
  rcases y with _ | _
  · have r0 := cell_of_row w8 _ 0 _ _ _ (FB.out w8 B8.out).1; have r1 := cell_of_row w8 _ 1 _ _ _ (FB.out w8 B8.out).1; have r2 := cell_of_row w8 _ 2 _ _ _ (FB.out w8 B8.out).1; have r3 := cell_of_row w8 _ 3 _ _ _ (FB.out w8 B8.out).1; have r4 := cell_of_row w8 _ 4 _ _ _ (FB.out w8 B8.out).1
    have f0 := frozen_of_row w8 _ 0 _ _ (FB.out w8 B8.out).1; have f1 := frozen_of_row w8 _ 1 _ _ (FB.out w8 B8.out).1; have f2 := frozen_of_row w8 _ 2 _ _ (FB.out w8 B8.out).1; have f3 := frozen_of_row w8 _ 3 _ _ (FB.out w8 B8.out).1; have f4 := frozen_of_row w8 _ 4 _ _ (FB.out w8 B8.out).1
    have u0 := cell_of_row w8 _ 0 _ _ _ (FB.out w8 B8.out).2.1; have v0 := frozen_of_row w8 _ 0 _ _ (FB.out w8 B8.out).2.1
    have u1 := cell_of_row w8 _ 1 _ _ _ (FB.out w8 B8.out).2.1; have v1 := frozen_of_row w8 _ 1 _ _ (FB.out w8 B8.out).2.1
    have q0 := cell_of_row w8 _ 0 _ _ _ X8.out; have q1 := cell_of_row w8 _ 1 _ _ _ X8.out; have q2 := cell_of_row w8 _ 2 _ _ _ X8.out; have q3 := cell_of_row w8 _ 3 _ _ _ X8.out; have q4 := cell_of_row w8 _ 4 _ _ _ X8.out
    have t0 := cell_of_row w8 _ 0 _ _ _ Y8.out
    have t1 := cell_of_row w8 _ 1 _ _ _ Y8.out
    simp at q0 q1 q2 q3 q4 r0 r1 r2 r3 r4 u0 t0 u1 t1
    have hsW : s < w8.heap.size := (Array.getElem?_eq_some_iff.1 X8.out).1
    have d1 : ¬ w.heap.size + 1 = w.heap.size := by omega
    go_wp2_with fail
    first | go_region | fail
    go_wp2
    obtain ⟨wf, hwf⟩ : ∃ V, V = (((((((w8.setCell ⟨w.heap.size, 0, none⟩ (.slice A1 n1 c1)).setCell ⟨w.heap.size, 1, none⟩ (.slice A2 n2 c2)).setCell ⟨w.heap.size, 2, none⟩ (.slice A3 n3 c3)).setCell ⟨w.heap.size, 3, none⟩ (.int .i64 K.tick)).setCell ⟨w.heap.size, 4, none⟩ (.int .i64 K.run)).setCell ⟨w.heap.size + 1, 0, none⟩ (.int .i64 x0)).setCell ⟨w.heap.size + 1, 1, none⟩ (.int .i64 x1)) := ⟨_, rfl⟩
    have HK : wf.heap[w.heap.size]? = some (.cells #[.slice A1 n1 c1, .slice A2 n2 c2, .slice A3 n3 c3, .int .i64 K.tick, .int .i64 K.run] 39 (0, 0)) := by rw [hwf]; exact ((Below.heap_setCell _ ⟨w.heap.size + 1, 1, none⟩ _ w.heap.size (by simp)).trans ((Below.heap_setCell _ ⟨w.heap.size + 1, 0, none⟩ _ w.heap.size (by simp)).trans (five3 (FB.out w8 B8.out).1 _ _ _ _ _)))
    have HA : wf.heap[w.heap.size + 1]? = some (.cells #[.int .i64 x0, .int .i64 x1] 53 (0, 0)) := by rw [hwf]; exact (heap_setCell_same _ _ 1 _ _ _ (heap_setCell_same _ _ 0 _ _ _ ((five_other3 w8 w.heap.size (w.heap.size + 1) (by omega) _ _ _ _ _).trans (FB.out w8 B8.out).2.1)))
    have HV : ∀ q, q ≠ w.heap.size → q ≠ w.heap.size + 1 → wf.heap[q]? = w8.heap[q]? := fun q h1 h2 => by rw [hwf]; simp only [World.heap_setCell_ne10 _ _ _ q h1, World.heap_setCell_ne10 _ _ _ q h2]
    have HZ : w8.heap.size ≤ wf.heap.size := by rw [hwf]; simp
    have HBL : Below w.heap.size w wf := by rw [hwf]; exact ((((((((FB.out w8 B8.out).2.2.setCell (p := ⟨w.heap.size, 0, none⟩) (by simp) _).setCell (p := ⟨w.heap.size, 1, none⟩) (by simp) _).setCell (p := ⟨w.heap.size, 2, none⟩) (by simp) _).setCell (p := ⟨w.heap.size, 3, none⟩) (by simp) _).setCell (p := ⟨w.heap.size, 4, none⟩) (by simp) _).setCell (p := ⟨w.heap.size + 1, 0, none⟩) (by simp) _).setCell (p := ⟨w.heap.size + 1, 1, none⟩) (by simp) _)
    rw [← hwf]
    clear hwf
    have HK2 : wf.drew.heap[w.heap.size]? = some (.cells #[.slice A1 n1 c1, .slice A2 n2 c2, .slice A3 n3 c3, .int .i64 K.tick, .int .i64 K.run] 39 (0, 0)) := HK
    have HA2 : wf.drew.heap[w.heap.size + 1]? = some (.cells #[.int .i64 x0, .int .i64 x1] 53 (0, 0)) := HA
    refine bodyPost_ret (results_two10 rfl _ _ w.heap.size (w.heap.size + 1) _ _ _ _ (0, 0) (0, 0) _ _ rfl rfl HK2 HA2 Tryz.underlying39 rfl (by kernel_rfl) Tryz.underlying53 rfl (by kernel_rfl)) rfl ?_
    exact DONE.out w8 wf.drew x0 x1 B8.out D8.out hsW HV HZ HBL.drew
  · have CF := Lib.hid (DrawEventFault_any lo (min hi w.heap.size) A k c b w8 hk HBY.out (CD.out w8 (FB.out w8 B8.out).2.2))
    have RE := fun a b c d e f g W => run_ea10 a b c d e f g W
    go_wp2_with fail
    refine CF.out.mono ?_
    rintro e w9 ⟨y0, y1, y2, y3, y4, y5, y6, rfl, hb9⟩
    have B9 : Hid (Below w2.heap.size w2 w9) := B8.out.trans (hb9.mono B8.out.size)
    have X9 := Lib.hid ((hb9.block s (by omega)).trans X8.out)
    have D9 := Lib.hid (D8.out.below hb9 (by omega))
    have Y9 := Lib.hid ((hb9.block s6 z6).trans Y8.out)
    clear hb9 CF B8 X8 D8 Y8
    have t0 := cell_of_row w9 _ 0 _ _ _ Y9.out; have v0 := frozen_of_row w9 _ 0 _ _ Y9.out
    have t1 := cell_of_row w9 _ 1 _ _ _ Y9.out; have v1 := frozen_of_row w9 _ 1 _ _ Y9.out
    simp at t0 t1
    go_upto_region 6 with (fail)
    obtain ⟨wa, hwa⟩ : ∃ V, V = ((w9.setCell ⟨s6, 0, none⟩ (.int .i64 y1)).setCell ⟨s6, 1, none⟩ (.int .i64 y2)) := ⟨_, rfl⟩
    rw [← hwa]
    have far : ∀ j, j ≠ s6 → wa.heap[j]? = w9.heap[j]? := fun j hj => by rw [hwa]; simp only [World.heap_setCell_ne10 _ _ _ j hj]
    have Ba : Hid (Below w2.heap.size w2 wa) := by rw [hwa]; exact ((B9.out.setCell (p := ⟨s6, 0, none⟩) (by simp; omega) _).setCell (p := ⟨s6, 1, none⟩) (by simp; omega) _)
    have Xa := Lib.hid ((far s (by omega)).trans X9.out)
    have Da := Lib.hid (D9.out.keep fun q h1 h2 => far q (by omega))
    have Ya : Hid (wa.heap[s6]? = some (.cells #[.int .i64 y1, .int .i64 y2] 53 (0, 0))) := by show _ = _; rw [hwa]; exact (heap_setCell_same _ _ 1 _ _ _ (heap_setCell_same _ _ 0 _ _ _ Y9.out))
    clear far hwa t0 v0 t1 v1 B9 X9 D9 Y9
    have r0 := cell_of_row wa _ 0 _ _ _ (FB.out wa Ba.out).1; have r1 := cell_of_row wa _ 1 _ _ _ (FB.out wa Ba.out).1; have r2 := cell_of_row wa _ 2 _ _ _ (FB.out wa Ba.out).1; have r3 := cell_of_row wa _ 3 _ _ _ (FB.out wa Ba.out).1; have r4 := cell_of_row wa _ 4 _ _ _ (FB.out wa Ba.out).1
    have f0 := frozen_of_row wa _ 0 _ _ (FB.out wa Ba.out).1; have f1 := frozen_of_row wa _ 1 _ _ (FB.out wa Ba.out).1; have f2 := frozen_of_row wa _ 2 _ _ (FB.out wa Ba.out).1; have f3 := frozen_of_row wa _ 3 _ _ (FB.out wa Ba.out).1; have f4 := frozen_of_row wa _ 4 _ _ (FB.out wa Ba.out).1
    have u0 := cell_of_row wa _ 0 _ _ _ (FB.out wa Ba.out).2.1; have v0 := frozen_of_row wa _ 0 _ _ (FB.out wa Ba.out).2.1
    have u1 := cell_of_row wa _ 1 _ _ _ (FB.out wa Ba.out).2.1; have v1 := frozen_of_row wa _ 1 _ _ (FB.out wa Ba.out).2.1
    have q0 := cell_of_row wa _ 0 _ _ _ Xa.out; have q1 := cell_of_row wa _ 1 _ _ _ Xa.out; have q2 := cell_of_row wa _ 2 _ _ _ Xa.out; have q3 := cell_of_row wa _ 3 _ _ _ Xa.out; have q4 := cell_of_row wa _ 4 _ _ _ Xa.out
    have t0 := cell_of_row wa _ 0 _ _ _ Ya.out
    have t1 := cell_of_row wa _ 1 _ _ _ Ya.out
    simp at q0 q1 q2 q3 q4 r0 r1 r2 r3 r4 u0 t0 u1 t1
    have hsW : s < wa.heap.size := (Array.getElem?_eq_some_iff.1 Xa.out).1
    have d1 : ¬ w.heap.size + 1 = w.heap.size := by omega
    go_wp2_with fail
    first | go_region | fail
    go_wp2
    obtain ⟨wf, hwf⟩ : ∃ V, V = (((((((wa.setCell ⟨w.heap.size, 0, none⟩ (.slice A1 n1 c1)).setCell ⟨w.heap.size, 1, none⟩ (.slice A2 n2 c2)).setCell ⟨w.heap.size, 2, none⟩ (.slice A3 n3 c3)).setCell ⟨w.heap.size, 3, none⟩ (.int .i64 K.tick)).setCell ⟨w.heap.size, 4, none⟩ (.int .i64 K.run)).setCell ⟨w.heap.size + 1, 0, none⟩ (.int .i64 y1)).setCell ⟨w.heap.size + 1, 1, none⟩ (.int .i64 y2)) := ⟨_, rfl⟩
    have HK : wf.heap[w.heap.size]? = some (.cells #[.slice A1 n1 c1, .slice A2 n2 c2, .slice A3 n3 c3, .int .i64 K.tick, .int .i64 K.run] 39 (0, 0)) := by rw [hwf]; exact ((Below.heap_setCell _ ⟨w.heap.size + 1, 1, none⟩ _ w.heap.size (by simp)).trans ((Below.heap_setCell _ ⟨w.heap.size + 1, 0, none⟩ _ w.heap.size (by simp)).trans (five3 (FB.out wa Ba.out).1 _ _ _ _ _)))
    have HA : wf.heap[w.heap.size + 1]? = some (.cells #[.int .i64 y1, .int .i64 y2] 53 (0, 0)) := by rw [hwf]; exact (heap_setCell_same _ _ 1 _ _ _ (heap_setCell_same _ _ 0 _ _ _ ((five_other3 wa w.heap.size (w.heap.size + 1) (by omega) _ _ _ _ _).trans (FB.out wa Ba.out).2.1)))
    have HV : ∀ q, q ≠ w.heap.size → q ≠ w.heap.size + 1 → wf.heap[q]? = wa.heap[q]? := fun q h1 h2 => by rw [hwf]; simp only [World.heap_setCell_ne10 _ _ _ q h1, World.heap_setCell_ne10 _ _ _ q h2]
    have HZ : wa.heap.size ≤ wf.heap.size := by rw [hwf]; simp
    have HBL : Below w.heap.size w wf := by rw [hwf]; exact ((((((((FB.out wa Ba.out).2.2.setCell (p := ⟨w.heap.size, 0, none⟩) (by simp) _).setCell (p := ⟨w.heap.size, 1, none⟩) (by simp) _).setCell (p := ⟨w.heap.size, 2, none⟩) (by simp) _).setCell (p := ⟨w.heap.size, 3, none⟩) (by simp) _).setCell (p := ⟨w.heap.size, 4, none⟩) (by simp) _).setCell (p := ⟨w.heap.size + 1, 0, none⟩) (by simp) _).setCell (p := ⟨w.heap.size + 1, 1, none⟩) (by simp) _)
    rw [← hwf]
    clear hwf
    have HK2 : wf.drew.heap[w.heap.size]? = some (.cells #[.slice A1 n1 c1, .slice A2 n2 c2, .slice A3 n3 c3, .int .i64 K.tick, .int .i64 K.run] 39 (0, 0)) := HK
    have HA2 : wf.drew.heap[w.heap.size + 1]? = some (.cells #[.int .i64 y1, .int .i64 y2] 53 (0, 0)) := HA
    refine bodyPost_ret (results_two10 rfl _ _ w.heap.size (w.heap.size + 1) _ _ _ _ (0, 0) (0, 0) _ _ rfl rfl HK2 HA2 Tryz.underlying39 rfl (by kernel_rfl) Tryz.underlying53 rfl (by kernel_rfl)) rfl ?_
    exact DONE.out wa wf.drew y1 y2 Ba.out Da.out hsW HV HZ HBL.drew

def CallDD (w : World) (e : Ending) (w' : World) : Prop :=
  ∃ (A1 : Option Addr) (n1 c1 : Nat) (A2 : Option Addr) (n2 c2 : Nat) (A3 : Option Addr) (n3 c3 : Nat) (K : Ker) (x0 x1 x2 x3 : Int), e = .returned (.tuple #[.agg #[.slice A1 n1 c1, .slice A2 n2 c2, .slice A3 n3 c3, .int .i64 K.tick, .int .i64 K.run], .agg #[.int .i64 x0, .int .i64 x1, .int .i64 x2, .int .i64 x3]]) ∧
    KRead w' w.heap.size w'.heap.size A1 n1 A2 n2 A3 n3 K ∧ (A1 = none → c1 = 0) ∧ (n1 ≤ 12 ∧ n2 ≤ 4 ∧ n3 ≤ 5) ∧ Below w.heap.size w w'

set_option maxHeartbeats 8000000 in
theorem DrawDoCall_any (lo hi : Nat) (A : Option Addr) (k c : Nat) (b : Nat → Int) (w : World) (hk : k ≤ 1048576) (hb : ∀ j, 0 ≤ b j ∧ b j ≤ 255) (h : Sl w lo hi A k (fun j => .int .u8 (b j))) :
    Calls Tryz.prog 30 #[.slice A k c] w (CallDD w) := by
  have HBY := Lib.hid hb
  have CD : Hid (∀ W, Below w.heap.size w W → Sl W lo (min hi w.heap.size) A k (fun j => .int .u8 (b j))) := fun W hW => h.lt.below hW (by omega)
  obtain ⟨w1, hw1⟩ : ∃ w1, w1 = w.alloc (.cells #[.slice none 0 0, .slice none 0 0, .slice none 0 0, .int .i64 0, .int .i64 0] 39) := ⟨_, rfl⟩
  obtain ⟨w2, hw2⟩ : ∃ w2, w2 = w1.alloc (.cells #[.int .i64 0, .int .i64 0, .int .i64 0, .int .i64 0] 55) := ⟨_, rfl⟩
  have z1 : w1.heap.size = w.heap.size + 1 := by rw [hw1]; simp
  have z2 : w2.heap.size = w1.heap.size + 1 := by rw [hw2]; simp
  have N1 : Below w.heap.size w w1 := by rw [hw1]; exact below_new w _
  have N2 : Below w1.heap.size w1 w2 := by rw [hw2]; exact below_new w1 _
  have K1 : w1.heap[w.heap.size]? = some (.cells #[.slice none 0 0, .slice none 0 0, .slice none 0 0, .int .i64 0, .int .i64 0] 39 (0, 0)) := by rw [hw1]; exact heap_alloc_new w _
  have A2' : w2.heap[w.heap.size + 1]? = some (.cells #[.int .i64 0, .int .i64 0, .int .i64 0, .int .i64 0] 55 (0, 0)) := by rw [hw2, ← z1]; exact heap_alloc_new w1 _
  have K2 := (N2.block w.heap.size (by omega)).trans K1
  have FB : Hid (∀ W, Below w2.heap.size w2 W → W.heap[w.heap.size]? = some (.cells #[.slice none 0 0, .slice none 0 0, .slice none 0 0, .int .i64 0, .int .i64 0] 39 (0, 0)) ∧ W.heap[w.heap.size + 1]? = some (.cells #[.int .i64 0, .int .i64 0, .int .i64 0, .int .i64 0] 55 (0, 0)) ∧ Below w.heap.size w W) := fun W hW =>
    ⟨(hW.block _ (by omega)).trans K2, (hW.block _ (by omega)).trans A2', N1.trans ((N2.trans (hW.mono (by omega))).mono (by omega))⟩
  have Z2 : Hid (w2.heap.size = w.heap.size + 2) := by show _ = _; omega
  have HW1 := Lib.hid hw1; have HW2 := Lib.hid hw2
  obtain ⟨g, hgz⟩ : ∃ g, g = w2.heap.size := ⟨_, rfl⟩
  have C1 := Lib.hid (l1Source_any A k c w2)
  rw [← hgz] at C1
  have hg1 : g ≤ w2.heap.size := by omega
  have hg2 : w2.heap.size ≤ g := by omega
  have hg3 : w.heap.size + 2 = g := by omega
  clear h hb hw1 hw2 z1 z2 N1 N2 K1 A2' K2 hgz
  go_enter Tryz.func30, Tryz.ntmps30
  go_upto_region 1 with (fail)
  rw [← HW1.out, ← HW2.out]
  clear HW1 HW2
  go_wp2_with fail
  refine C1.out.mono ?_
  rintro e w3 ⟨rfl, hs3, hb3⟩
  have S3 := Lib.hid hs3
  have B3 : Hid (Below w2.heap.size w2 w3) := hb3.mono hg2
  have z3 : g < w3.heap.size := hs3.lt
  clear hs3 hb3 C1
  have C2 := Lib.hid (l3Bent_any lo (min hi w.heap.size) g A k c 0 b w3 hk (by omega) HBY.out (CD.out w3 (FB.out w3 B3.out).2.2) (by omega) S3.out)
  go_wp2_with fail
  refine C2.out.mono ?_
  rintro e w4 ⟨A1, n1, c1, A2, n2, c2, A3, n3, c3, K, a4, rfl, hkd, hnil, hnn, ha4, hs4, ho4⟩
  have NIL := Lib.hid hnil; have NN := Lib.hid hnn
  have z4 := ho4.1.size
  have B4 : Hid (Below w2.heap.size w2 w4) := B3.out.trans (ho4.1.mono hg2 |>.mono (Nat.le_refl _))
  obtain ⟨w5, hw5⟩ : ∃ V, V = w4.alloc (.cells #[.slice A1 n1 c1, .slice A2 n2 c2, .slice A3 n3 c3, .int .i64 K.tick, .int .i64 K.run] 39) := ⟨_, rfl⟩
  obtain ⟨s, hsz⟩ : ∃ s, s = w4.heap.size := ⟨_, rfl⟩
  have N5 : Below w4.heap.size w4 w5 := by rw [hw5]; exact below_new w4 _
  have z5 : w5.heap.size = s + 1 := by rw [hw5, hsz]; simp
  have hsl : w3.heap.size ≤ s := by omega
  have B5 : Hid (Below w2.heap.size w2 w5) := B4.out.trans (N5.mono (by have := B4.out.size; omega))
  have X5 : Hid (w5.heap[s]? = some (.cells #[.slice A1 n1 c1, .slice A2 n2 c2, .slice A3 n3 c3, .int .i64 K.tick, .int .i64 K.run] 39 (0, 0))) := by show _ = _; rw [hw5, hsz]; exact heap_alloc_new w4 _
  have D5 : Hid (KRead w5 w3.heap.size s A1 n1 A2 n2 A3 n3 K) := by have := hkd.below N5 (Nat.le_refl _); rw [← hsz] at this; exact this
  have S5 : Hid (Src w5 g A k c a4) := hs4.below N5
  have HW5 := Lib.hid hw5; have HS := Lib.hid hsz
  clear hkd hnil hnn hs4 ho4 C2 hw5 hsz N5 S3
  go_upto_region 3 with (fail)
  rw [← HW5.out, ← HS.out]
  clear HW5 HS
  have STEP : Hid (∀ (V V' : World) (t : TypeId) (cs : Array Value) (j : Nat), Only g (g + 1) V V' → Below w2.heap.size w2 V → V.heap[s]? = some (.cells #[.slice A1 n1 c1, .slice A2 n2 c2, .slice A3 n3 c3, .int .i64 K.tick, .int .i64 K.run] 39 (0, 0)) → KRead V w3.heap.size s A1 n1 A2 n2 A3 n3 K → Below w2.heap.size w2 V' ∧ V'.heap[s]? = some (.cells #[.slice A1 n1 c1, .slice A2 n2 c2, .slice A3 n3 c3, .int .i64 K.tick, .int .i64 K.run] 39 (0, 0)) ∧ KRead V' w3.heap.size s A1 n1 A2 n2 A3 n3 K ∧ (j ≠ g → V.heap[j]? = some (.cells cs t (0, 0)) → V'.heap[j]? = some (.cells cs t (0, 0)))) := by
    intro V V' t cs j ho hb hx hd
    have hsV : s < V.heap.size := (Array.getElem?_eq_some_iff.1 hx).1
    refine ⟨hb.trans (ho.1.mono hg2), (ho.2 s (by omega) hsV).trans hx, hd.keep fun q h1 h2 => ho.2 q (by omega) (by omega), fun hj hc => ?_⟩
    have hl := (Array.getElem?_eq_some_iff.1 hc).1
    rcases Nat.lt_or_ge j g with q | q
    · exact (ho.1.block j q).trans hc
    · exact (ho.2 j (by omega) hl).trans hc
  have q0 := cell_of_row w5 _ 0 _ _ _ X5.out
  simp at q0
  have MX := Lib.hid (l1Max10_any (n1 : Int) 1 w5)
  go_wp2_with fail
  refine MX.out.mono ?_
  rintro e w5' ⟨rfl, hb⟩
  have S5' := Lib.hid (S5.out.below hb)
  have X5' : Hid (w5'.heap[s]? = some (.cells #[.slice A1 n1 c1, .slice A2 n2 c2, .slice A3 n3 c3, .int .i64 K.tick, .int .i64 K.run] 39 (0, 0))) := (hb.block s (by omega)).trans X5.out
  have D5' : Hid (KRead w5' w3.heap.size s A1 n1 A2 n2 A3 n3 K) := D5.out.below hb (by omega)
  have B5' : Hid (Below w2.heap.size w2 w5') := B5.out.trans (hb.mono B5.out.size)
  have n12 := NN.out.1
  clear hb MX S5 X5 D5 B5 q0
  have C3 := Lib.hid (l3DrawCall_any lo (min hi w.heap.size) g A k c a4 b (max (n1 : Int) 1) w5' hk (by omega) HBY.out (CD.out w5' (FB.out w5' B5'.out).2.2) (by omega) S5'.out (by omega))
  go_wp2_with fail
  refine C3.out.mono ?_
  rintro e w6 ⟨x0, x1, x2, x3, a6, rfl, ha6, hs6, ho6⟩
  have Q6 := Lib.hid (STEP.out w5' w6 55 #[.int .i64 0, .int .i64 0, .int .i64 0, .int .i64 0] 0 ho6 B5'.out X5'.out D5'.out)
  have S6 := Lib.hid hs6
  clear ho6 hs6 C3 S5' X5' D5' B5' B4 B3
  obtain ⟨w7, hw7⟩ : ∃ V, V = w6.alloc (.cells #[.int .i64 x0, .int .i64 x1, .int .i64 x2, .int .i64 x3] 55) := ⟨_, rfl⟩
  obtain ⟨s6, hs6z⟩ : ∃ s, s = w6.heap.size := ⟨_, rfl⟩
  have N7 : Below w6.heap.size w6 w7 := by rw [hw7]; exact below_new w6 _
  have s56 : s < s6 := by rw [hs6z]; exact (Array.getElem?_eq_some_iff.1 Q6.out.2.1).1
  have B7 : Hid (Below w2.heap.size w2 w7) := Q6.out.1.trans (N7.mono Q6.out.1.size)
  have X7 : Hid (w7.heap[s]? = some (.cells #[.slice A1 n1 c1, .slice A2 n2 c2, .slice A3 n3 c3, .int .i64 K.tick, .int .i64 K.run] 39 (0, 0))) := (N7.block s (by omega)).trans Q6.out.2.1
  have D7 : Hid (KRead w7 w3.heap.size s A1 n1 A2 n2 A3 n3 K) := Q6.out.2.2.1.below N7 (by omega)
  have Y7 : Hid (w7.heap[s6]? = some (.cells #[.int .i64 x0, .int .i64 x1, .int .i64 x2, .int .i64 x3] 55 (0, 0))) := by show _ = _; rw [hw7, hs6z]; exact heap_alloc_new w6 _
  have S7 := Lib.hid (S6.out.below N7)
  have HW7 := Lib.hid hw7; have HS6 := Lib.hid hs6z
  clear hw7 hs6z N7 Q6 S6
  go_upto_region 4 with (fail)
  rw [← HW7.out, ← HS6.out]
  clear HW7 HS6
  have CH := Lib.hid (l1Chance_any lo (min hi w.heap.size) g A k c a6 12 b w7 (by omega) hk (by omega) HBY.out (CD.out w7 (FB.out w7 B7.out).2.2) (by omega) S7.out)
  go_wp2_with fail
  refine CH.out.mono ?_
  rintro e w8 ⟨y, rfl, _, ho8⟩
  have Q8 := Lib.hid (STEP.out w7 w8 55 #[.int .i64 x0, .int .i64 x1, .int .i64 x2, .int .i64 x3] s6 ho8 B7.out X7.out D7.out)
  have B8 := Lib.hid Q8.out.1
  have X8 := Lib.hid Q8.out.2.1
  have D8 := Lib.hid Q8.out.2.2.1
  have Y8 := Lib.hid (Q8.out.2.2.2 (by omega) Y7.out)
  have z6 : s6 < w8.heap.size := (Array.getElem?_eq_some_iff.1 Y8.out).1
  clear ho8 CH S7 B7 X7 D7 Y7 Q8 STEP
  have DONE : Hid (∀ (W V : World) (y0 y1 y2 y3 : Int), Below w2.heap.size w2 W → KRead W w3.heap.size s A1 n1 A2 n2 A3 n3 K → s < W.heap.size → (∀ q, q ≠ w.heap.size → q ≠ w.heap.size + 1 → V.heap[q]? = W.heap[q]?) → W.heap.size ≤ V.heap.size → Below w.heap.size w V → CallDD w (.returned (.tuple #[.agg #[.slice A1 n1 c1, .slice A2 n2 c2, .slice A3 n3 c3, .int .i64 K.tick, .int .i64 K.run], .agg #[.int .i64 y0, .int .i64 y1, .int .i64 y2, .int .i64 y3]])) V) := by
    intro W V y0 y1 y2 y3 hW hd hsW hV hz hb
    exact ⟨A1, n1, c1, A2, n2, c2, A3, n3, c3, K, y0, y1, y2, y3, rfl, (hd.keep fun q h1 h2 => hV q (by omega) (by omega)).wide (by omega) (by omega), NIL.out, NN.out, hb⟩
  rcases y with _ | _
  · have r0 := cell_of_row w8 _ 0 _ _ _ (FB.out w8 B8.out).1; have r1 := cell_of_row w8 _ 1 _ _ _ (FB.out w8 B8.out).1; have r2 := cell_of_row w8 _ 2 _ _ _ (FB.out w8 B8.out).1; have r3 := cell_of_row w8 _ 3 _ _ _ (FB.out w8 B8.out).1; have r4 := cell_of_row w8 _ 4 _ _ _ (FB.out w8 B8.out).1
    have f0 := frozen_of_row w8 _ 0 _ _ (FB.out w8 B8.out).1; have f1 := frozen_of_row w8 _ 1 _ _ (FB.out w8 B8.out).1; have f2 := frozen_of_row w8 _ 2 _ _ (FB.out w8 B8.out).1; have f3 := frozen_of_row w8 _ 3 _ _ (FB.out w8 B8.out).1; have f4 := frozen_of_row w8 _ 4 _ _ (FB.out w8 B8.out).1
    have u0 := cell_of_row w8 _ 0 _ _ _ (FB.out w8 B8.out).2.1; have v0 := frozen_of_row w8 _ 0 _ _ (FB.out w8 B8.out).2.1
    have u1 := cell_of_row w8 _ 1 _ _ _ (FB.out w8 B8.out).2.1; have v1 := frozen_of_row w8 _ 1 _ _ (FB.out w8 B8.out).2.1
    have u2 := cell_of_row w8 _ 2 _ _ _ (FB.out w8 B8.out).2.1; have v2 := frozen_of_row w8 _ 2 _ _ (FB.out w8 B8.out).2.1
    have u3 := cell_of_row w8 _ 3 _ _ _ (FB.out w8 B8.out).2.1; have v3 := frozen_of_row w8 _ 3 _ _ (FB.out w8 B8.out).2.1
    have q0 := cell_of_row w8 _ 0 _ _ _ X8.out; have q1 := cell_of_row w8 _ 1 _ _ _ X8.out; have q2 := cell_of_row w8 _ 2 _ _ _ X8.out; have q3 := cell_of_row w8 _ 3 _ _ _ X8.out; have q4 := cell_of_row w8 _ 4 _ _ _ X8.out
    have t0 := cell_of_row w8 _ 0 _ _ _ Y8.out
    have t1 := cell_of_row w8 _ 1 _ _ _ Y8.out
    have t2 := cell_of_row w8 _ 2 _ _ _ Y8.out
    have t3 := cell_of_row w8 _ 3 _ _ _ Y8.out
    simp at q0 q1 q2 q3 q4 r0 r1 r2 r3 r4 u0 t0 u1 t1 u2 t2 u3 t3
    have hsW : s < w8.heap.size := (Array.getElem?_eq_some_iff.1 X8.out).1
    have d1 : ¬ w.heap.size + 1 = w.heap.size := by omega
    go_wp2_with fail
    first | go_region | fail
    go_wp2
    obtain ⟨wf, hwf⟩ : ∃ V, V = (((((((((w8.setCell ⟨w.heap.size, 0, none⟩ (.slice A1 n1 c1)).setCell ⟨w.heap.size, 1, none⟩ (.slice A2 n2 c2)).setCell ⟨w.heap.size, 2, none⟩ (.slice A3 n3 c3)).setCell ⟨w.heap.size, 3, none⟩ (.int .i64 K.tick)).setCell ⟨w.heap.size, 4, none⟩ (.int .i64 K.run)).setCell ⟨w.heap.size + 1, 0, none⟩ (.int .i64 x0)).setCell ⟨w.heap.size + 1, 1, none⟩ (.int .i64 x1)).setCell ⟨w.heap.size + 1, 2, none⟩ (.int .i64 x2)).setCell ⟨w.heap.size + 1, 3, none⟩ (.int .i64 x3)) := ⟨_, rfl⟩
    have HK : wf.heap[w.heap.size]? = some (.cells #[.slice A1 n1 c1, .slice A2 n2 c2, .slice A3 n3 c3, .int .i64 K.tick, .int .i64 K.run] 39 (0, 0)) := by rw [hwf]; exact ((Below.heap_setCell _ ⟨w.heap.size + 1, 3, none⟩ _ w.heap.size (by simp)).trans ((Below.heap_setCell _ ⟨w.heap.size + 1, 2, none⟩ _ w.heap.size (by simp)).trans ((Below.heap_setCell _ ⟨w.heap.size + 1, 1, none⟩ _ w.heap.size (by simp)).trans ((Below.heap_setCell _ ⟨w.heap.size + 1, 0, none⟩ _ w.heap.size (by simp)).trans (five3 (FB.out w8 B8.out).1 _ _ _ _ _)))))
    have HA : wf.heap[w.heap.size + 1]? = some (.cells #[.int .i64 x0, .int .i64 x1, .int .i64 x2, .int .i64 x3] 55 (0, 0)) := by rw [hwf]; exact (heap_setCell_same _ _ 3 _ _ _ (heap_setCell_same _ _ 2 _ _ _ (heap_setCell_same _ _ 1 _ _ _ (heap_setCell_same _ _ 0 _ _ _ ((five_other3 w8 w.heap.size (w.heap.size + 1) (by omega) _ _ _ _ _).trans (FB.out w8 B8.out).2.1)))))
    have HV : ∀ q, q ≠ w.heap.size → q ≠ w.heap.size + 1 → wf.heap[q]? = w8.heap[q]? := fun q h1 h2 => by rw [hwf]; simp only [World.heap_setCell_ne10 _ _ _ q h1, World.heap_setCell_ne10 _ _ _ q h2]
    have HZ : w8.heap.size ≤ wf.heap.size := by rw [hwf]; simp
    have HBL : Below w.heap.size w wf := by rw [hwf]; exact ((((((((((FB.out w8 B8.out).2.2.setCell (p := ⟨w.heap.size, 0, none⟩) (by simp) _).setCell (p := ⟨w.heap.size, 1, none⟩) (by simp) _).setCell (p := ⟨w.heap.size, 2, none⟩) (by simp) _).setCell (p := ⟨w.heap.size, 3, none⟩) (by simp) _).setCell (p := ⟨w.heap.size, 4, none⟩) (by simp) _).setCell (p := ⟨w.heap.size + 1, 0, none⟩) (by simp) _).setCell (p := ⟨w.heap.size + 1, 1, none⟩) (by simp) _).setCell (p := ⟨w.heap.size + 1, 2, none⟩) (by simp) _).setCell (p := ⟨w.heap.size + 1, 3, none⟩) (by simp) _)
    rw [← hwf]
    clear hwf
    have HK2 : wf.drew.heap[w.heap.size]? = some (.cells #[.slice A1 n1 c1, .slice A2 n2 c2, .slice A3 n3 c3, .int .i64 K.tick, .int .i64 K.run] 39 (0, 0)) := HK
    have HA2 : wf.drew.heap[w.heap.size + 1]? = some (.cells #[.int .i64 x0, .int .i64 x1, .int .i64 x2, .int .i64 x3] 55 (0, 0)) := HA
    refine bodyPost_ret (results_two10 rfl _ _ w.heap.size (w.heap.size + 1) _ _ _ _ (0, 0) (0, 0) _ _ rfl rfl HK2 HA2 Tryz.underlying39 rfl (by kernel_rfl) Tryz.underlying55 rfl (by kernel_rfl)) rfl ?_
    exact DONE.out w8 wf.drew x0 x1 x2 x3 B8.out D8.out hsW HV HZ HBL.drew
  · have CF := Lib.hid (DrawCallFault_any lo (min hi w.heap.size) A k c b w8 hk HBY.out (CD.out w8 (FB.out w8 B8.out).2.2))
    skip
    go_wp2_with fail
    refine CF.out.mono ?_
    rintro e w9 ⟨y0, y1, y2, y3, rfl, hb9⟩
    have B9 : Hid (Below w2.heap.size w2 w9) := B8.out.trans (hb9.mono B8.out.size)
    have X9 := Lib.hid ((hb9.block s (by omega)).trans X8.out)
    have D9 := Lib.hid (D8.out.below hb9 (by omega))
    have Y9 := Lib.hid ((hb9.block s6 z6).trans Y8.out)
    clear hb9 CF B8 X8 D8 Y8
    have t0 := cell_of_row w9 _ 0 _ _ _ Y9.out; have v0 := frozen_of_row w9 _ 0 _ _ Y9.out
    have t1 := cell_of_row w9 _ 1 _ _ _ Y9.out; have v1 := frozen_of_row w9 _ 1 _ _ Y9.out
    have t2 := cell_of_row w9 _ 2 _ _ _ Y9.out; have v2 := frozen_of_row w9 _ 2 _ _ Y9.out
    have t3 := cell_of_row w9 _ 3 _ _ _ Y9.out; have v3 := frozen_of_row w9 _ 3 _ _ Y9.out
    simp at t0 t1 t2 t3
    go_upto_region 6 with (fail)
    obtain ⟨wa, hwa⟩ : ∃ V, V = ((((w9.setCell ⟨s6, 0, none⟩ (.int .i64 y0)).setCell ⟨s6, 1, none⟩ (.int .i64 y1)).setCell ⟨s6, 2, none⟩ (.int .i64 y2)).setCell ⟨s6, 3, none⟩ (.int .i64 y3)) := ⟨_, rfl⟩
    rw [← hwa]
    have far : ∀ j, j ≠ s6 → wa.heap[j]? = w9.heap[j]? := fun j hj => by rw [hwa]; simp only [World.heap_setCell_ne10 _ _ _ j hj]
    have Ba : Hid (Below w2.heap.size w2 wa) := by rw [hwa]; exact ((((B9.out.setCell (p := ⟨s6, 0, none⟩) (by simp; omega) _).setCell (p := ⟨s6, 1, none⟩) (by simp; omega) _).setCell (p := ⟨s6, 2, none⟩) (by simp; omega) _).setCell (p := ⟨s6, 3, none⟩) (by simp; omega) _)
    have Xa := Lib.hid ((far s (by omega)).trans X9.out)
    have Da := Lib.hid (D9.out.keep fun q h1 h2 => far q (by omega))
    have Ya : Hid (wa.heap[s6]? = some (.cells #[.int .i64 y0, .int .i64 y1, .int .i64 y2, .int .i64 y3] 55 (0, 0))) := by show _ = _; rw [hwa]; exact (heap_setCell_same _ _ 3 _ _ _ (heap_setCell_same _ _ 2 _ _ _ (heap_setCell_same _ _ 1 _ _ _ (heap_setCell_same _ _ 0 _ _ _ Y9.out))))
    clear far hwa t0 v0 t1 v1 t2 v2 t3 v3 B9 X9 D9 Y9
    have r0 := cell_of_row wa _ 0 _ _ _ (FB.out wa Ba.out).1; have r1 := cell_of_row wa _ 1 _ _ _ (FB.out wa Ba.out).1; have r2 := cell_of_row wa _ 2 _ _ _ (FB.out wa Ba.out).1; have r3 := cell_of_row wa _ 3 _ _ _ (FB.out wa Ba.out).1; have r4 := cell_of_row wa _ 4 _ _ _ (FB.out wa Ba.out).1
    have f0 := frozen_of_row wa _ 0 _ _ (FB.out wa Ba.out).1; have f1 := frozen_of_row wa _ 1 _ _ (FB.out wa Ba.out).1; have f2 := frozen_of_row wa _ 2 _ _ (FB.out wa Ba.out).1; have f3 := frozen_of_row wa _ 3 _ _ (FB.out wa Ba.out).1; have f4 := frozen_of_row wa _ 4 _ _ (FB.out wa Ba.out).1
    have u0 := cell_of_row wa _ 0 _ _ _ (FB.out wa Ba.out).2.1; have v0 := frozen_of_row wa _ 0 _ _ (FB.out wa Ba.out).2.1
    have u1 := cell_of_row wa _ 1 _ _ _ (FB.out wa Ba.out).2.1; have v1 := frozen_of_row wa _ 1 _ _ (FB.out wa Ba.out).2.1
    have u2 := cell_of_row wa _ 2 _ _ _ (FB.out wa Ba.out).2.1; have v2 := frozen_of_row wa _ 2 _ _ (FB.out wa Ba.out).2.1
    have u3 := cell_of_row wa _ 3 _ _ _ (FB.out wa Ba.out).2.1; have v3 := frozen_of_row wa _ 3 _ _ (FB.out wa Ba.out).2.1
    have q0 := cell_of_row wa _ 0 _ _ _ Xa.out; have q1 := cell_of_row wa _ 1 _ _ _ Xa.out; have q2 := cell_of_row wa _ 2 _ _ _ Xa.out; have q3 := cell_of_row wa _ 3 _ _ _ Xa.out; have q4 := cell_of_row wa _ 4 _ _ _ Xa.out
    have t0 := cell_of_row wa _ 0 _ _ _ Ya.out
    have t1 := cell_of_row wa _ 1 _ _ _ Ya.out
    have t2 := cell_of_row wa _ 2 _ _ _ Ya.out
    have t3 := cell_of_row wa _ 3 _ _ _ Ya.out
    simp at q0 q1 q2 q3 q4 r0 r1 r2 r3 r4 u0 t0 u1 t1 u2 t2 u3 t3
    have hsW : s < wa.heap.size := (Array.getElem?_eq_some_iff.1 Xa.out).1
    have d1 : ¬ w.heap.size + 1 = w.heap.size := by omega
    go_wp2_with fail
    first | go_region | fail
    go_wp2
    obtain ⟨wf, hwf⟩ : ∃ V, V = (((((((((wa.setCell ⟨w.heap.size, 0, none⟩ (.slice A1 n1 c1)).setCell ⟨w.heap.size, 1, none⟩ (.slice A2 n2 c2)).setCell ⟨w.heap.size, 2, none⟩ (.slice A3 n3 c3)).setCell ⟨w.heap.size, 3, none⟩ (.int .i64 K.tick)).setCell ⟨w.heap.size, 4, none⟩ (.int .i64 K.run)).setCell ⟨w.heap.size + 1, 0, none⟩ (.int .i64 y0)).setCell ⟨w.heap.size + 1, 1, none⟩ (.int .i64 y1)).setCell ⟨w.heap.size + 1, 2, none⟩ (.int .i64 y2)).setCell ⟨w.heap.size + 1, 3, none⟩ (.int .i64 y3)) := ⟨_, rfl⟩
    have HK : wf.heap[w.heap.size]? = some (.cells #[.slice A1 n1 c1, .slice A2 n2 c2, .slice A3 n3 c3, .int .i64 K.tick, .int .i64 K.run] 39 (0, 0)) := by rw [hwf]; exact ((Below.heap_setCell _ ⟨w.heap.size + 1, 3, none⟩ _ w.heap.size (by simp)).trans ((Below.heap_setCell _ ⟨w.heap.size + 1, 2, none⟩ _ w.heap.size (by simp)).trans ((Below.heap_setCell _ ⟨w.heap.size + 1, 1, none⟩ _ w.heap.size (by simp)).trans ((Below.heap_setCell _ ⟨w.heap.size + 1, 0, none⟩ _ w.heap.size (by simp)).trans (five3 (FB.out wa Ba.out).1 _ _ _ _ _)))))
    have HA : wf.heap[w.heap.size + 1]? = some (.cells #[.int .i64 y0, .int .i64 y1, .int .i64 y2, .int .i64 y3] 55 (0, 0)) := by rw [hwf]; exact (heap_setCell_same _ _ 3 _ _ _ (heap_setCell_same _ _ 2 _ _ _ (heap_setCell_same _ _ 1 _ _ _ (heap_setCell_same _ _ 0 _ _ _ ((five_other3 wa w.heap.size (w.heap.size + 1) (by omega) _ _ _ _ _).trans (FB.out wa Ba.out).2.1)))))
    have HV : ∀ q, q ≠ w.heap.size → q ≠ w.heap.size + 1 → wf.heap[q]? = wa.heap[q]? := fun q h1 h2 => by rw [hwf]; simp only [World.heap_setCell_ne10 _ _ _ q h1, World.heap_setCell_ne10 _ _ _ q h2]
    have HZ : wa.heap.size ≤ wf.heap.size := by rw [hwf]; simp
    have HBL : Below w.heap.size w wf := by rw [hwf]; exact ((((((((((FB.out wa Ba.out).2.2.setCell (p := ⟨w.heap.size, 0, none⟩) (by simp) _).setCell (p := ⟨w.heap.size, 1, none⟩) (by simp) _).setCell (p := ⟨w.heap.size, 2, none⟩) (by simp) _).setCell (p := ⟨w.heap.size, 3, none⟩) (by simp) _).setCell (p := ⟨w.heap.size, 4, none⟩) (by simp) _).setCell (p := ⟨w.heap.size + 1, 0, none⟩) (by simp) _).setCell (p := ⟨w.heap.size + 1, 1, none⟩) (by simp) _).setCell (p := ⟨w.heap.size + 1, 2, none⟩) (by simp) _).setCell (p := ⟨w.heap.size + 1, 3, none⟩) (by simp) _)
    rw [← hwf]
    clear hwf
    have HK2 : wf.drew.heap[w.heap.size]? = some (.cells #[.slice A1 n1 c1, .slice A2 n2 c2, .slice A3 n3 c3, .int .i64 K.tick, .int .i64 K.run] 39 (0, 0)) := HK
    have HA2 : wf.drew.heap[w.heap.size + 1]? = some (.cells #[.int .i64 y0, .int .i64 y1, .int .i64 y2, .int .i64 y3] 55 (0, 0)) := HA
    refine bodyPost_ret (results_two10 rfl _ _ w.heap.size (w.heap.size + 1) _ _ _ _ (0, 0) (0, 0) _ _ rfl rfl HK2 HA2 Tryz.underlying39 rfl (by kernel_rfl) Tryz.underlying55 rfl (by kernel_rfl)) rfl ?_
    exact DONE.out wa wf.drew y0 y1 y2 y3 Ba.out Da.out hsW HV HZ HBL.drew

end Go.Proofs.YtckapndpefkcgaaGreat
