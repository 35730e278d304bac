/-
  What the draws of chapter 4 answer: heaps that were perhaps bent, entries, lists of entries. For codes of at most 2^20 bytes.
-/
import Derived.Test.YtckapndpefkcgaaDrawH10
set_option maxHeartbeats 1000000
namespace Go.Proofs.Ytckapndpefkcgaa
open Go.RowKit
set_option maxRecDepth 100000

theorem results_twoH {P : Program} {fn : Func} {p u : Tmp} {ty : TypeId} (h : fn.results = #[.cell p ty, .cell u ty]) (tmps : Array Value) (w : World) (g g2 : Nat) (t t2 : TypeId) (cs cs2 : Array Value) (fr fr2 : Nat × Nat) (d : TypeDesc)
    (hp : tmps.getD p undef = .pointer (some ⟨g, 0, none⟩)) (hp2 : tmps.getD u undef = .pointer (some ⟨g2, 0, none⟩)) (hg : w.heap[g]? = some (.cells cs t fr)) (hg2 : w.heap[g2]? = some (.cells cs2 t2 fr2))
    (hu : P.underlying ty = some d) (hd : (match d with | .struct _ | .array _ _ => true | _ => false) = true) (hi : (P.info? ty).map (·.size) = some cs.size) (hi2 : (P.info? ty).map (·.size) = some cs2.size) :
    (results fn tmps).run P w = .ok (.tuple #[.agg cs, .agg cs2]) w := by
  have hp' : tmps[p]?.getD undef = .pointer (some ⟨g, 0, none⟩) := by simpa using hp
  have hp2' : tmps[u]?.getD undef = .pointer (some ⟨g2, 0, none⟩) := by simpa using hp2
  simp [results, h, hp', hp2', asAddr, run_loadVar_row w g t ty cs fr d hg hu hd hi, run_loadVar_row w g2 t2 ty cs2 fr2 d hg2 hu hd hi2, Result.andThen]
theorem results_tmpH {P : Program} {fn : Func} {p u : Tmp} {ty : TypeId} (h : fn.results = #[.tmp u, .cell p ty]) (tmps : Array Value) (w : World) (g : Nat) (t : TypeId) (cs : Array Value) (fr : Nat × Nat) (d : TypeDesc)
    (hp : tmps.getD p undef = .pointer (some ⟨g, 0, none⟩)) (hg : w.heap[g]? = some (.cells cs t fr))
    (hu : P.underlying ty = some d) (hd : (match d with | .struct _ | .array _ _ => true | _ => false) = true) (hi : (P.info? ty).map (·.size) = some cs.size) :
    (results fn tmps).run P w = .ok (.tuple #[tmps.getD u undef, .agg cs]) w := by
  have hp' : tmps[p]?.getD undef = .pointer (some ⟨g, 0, none⟩) := by simpa using hp
  simp [results, h, hp', asAddr, run_loadVar_row w g t ty cs fr d hg hu hd hi, Result.andThen]
def HpC (w : World) (e : Ending) (w' : World) : Prop :=
  ∃ (B : Option Addr) (n c' : Nat) (xs : List Int), e = .returned (.slice B n c') ∧ n ≤ 13 ∧ OR 26 2 w' w.heap.size B n c' xs ∧ Below w.heap.size w w'
def LessD (w : World) (e : Ending) (w' : World) : Prop :=
  ∃ p d p' d' : Int, e = .returned (.tuple #[.agg #[.int .i64 p, .int .i64 d], .agg #[.int .i64 p', .int .i64 d']]) ∧ Below w.heap.size w w'
def PushD (w : World) (e : Ending) (w' : World) : Prop :=
  ∃ (B : Option Addr) (n c' : Nat) (xs : List Int) (p d : Int), e = .returned (.tuple #[.slice B n c', .agg #[.int .i64 p, .int .i64 d]]) ∧ n ≤ 13 ∧ OR 26 2 w' w.heap.size B n c' xs ∧ Below w.heap.size w w'
theorem EH.app {w W : World} {g k c a n c' : Nat} {A B : Option Addr} {xs : List Int} (h : EH w W g A k c a B n c' xs) (e0 e1 : Int) {V : World} {v : Value} (hown : V.ownsRow w.heap.size 26 2 v (n + 1) (vals xs ++ [.int .i64 e0, .int .i64 e1]))
    (hg : (W.alloc (.cells #[.int .i64 e0, .int .i64 e1] 26)).grownBy V (Value.slice B n c').ownBlock) : ∃ B' d, v = .slice B' (n + 1) d ∧ EH w V g A k c a B' (n + 1) d (xs ++ [e0, e1]) := by
  rw [show vals xs ++ [.int .i64 e0, .int .i64 e1] = vals (xs ++ [e0, e1]) by simp [vals]] at hown
  have gw := h.gw
  have ob : ∀ q, (Value.slice B n c').ownBlock = some q → w.heap.size ≤ q := fun q hq => by
    rcases B with _ | ad
    · cases hq
    · obtain ⟨g', e, hb, _⟩ := h.ow.at_ (by simp)
      injection e with e
      subst e
      injection hq with hq
      subst hq
      exact hb
  have key : ∃ B' d, v = .slice B' (n + 1) d := by
    rcases hown.2 with ⟨rfl, h0⟩ | ⟨g', cap, cur, rfl, _⟩
    · omega
    · exact ⟨_, _, rfl⟩
  obtain ⟨B', d, rfl⟩ := key
  exact ⟨B', d, rfl, hown, (h.sr.alloc _).grown hg (fun q hq => by have := ob q hq; omega), (h.on.alloc (by omega) _).grown hg (by omega) ob, gw⟩
theorem Try.info_EntryH : (Try.prog.info? 26).map (fun i => (i.zero, i.size, i.bytes)) = some (some (.agg #[.int .i64 0, .int .i64 0]), 2, 16) := by kernel_rfl
theorem list_newH (W : World) (l : List Value) (t : TypeId) : ∀ j u, l[j]? = some u → (W.alloc (.cells l.toArray t)).cell? ((⟨W.heap.size, 0, none⟩ : Addr).add j) = some u := by
  intro j u hu
  rw [Go.WideShapes.add_plain]
  have h := cell_of_row (W.alloc (.cells l.toArray t)) W.heap.size (0 + j) _ _ _ (heap_alloc_new W _)
  rw [h]
  simpa using hu

theorem DrawPopHeap_any (lo hi : Nat) (A : Option Addr) (k c : Nat) (b : Nat → Int) (w : World) (hk : k ≤ 1048576) (hb : ∀ j, 0 ≤ b j ∧ b j ≤ 255) (h : Sl w lo hi A k (fun j => .int .u8 (b j))) :
    Calls Try.prog 10 #[.slice A k c] w (HpC w) := by
  have HBY := Lib.hid hb
  have CD : Hid (∀ W, Below w.heap.size w W → Sl W lo (min hi w.heap.size) A k (fun j => .int .u8 (b j))) := fun W hW => h.lt.below hW (by omega)
  have C1 := Lib.hid (l1Source_any A k c w)
  obtain ⟨g, hgz⟩ : ∃ g, g = w.heap.size := ⟨_, rfl⟩
  rw [← hgz] at C1
  have hg1 : g ≤ w.heap.size := by omega
  have hg2 : w.heap.size ≤ g := by omega
  clear h hb hgz
  go_enter Try.func10, Try.ntmps10
  go_wp2_with fail
  refine C1.out.mono ?_
  rintro e w1 ⟨rfl, hs1, hb1⟩
  have B1 : Hid (Below w.heap.size w w1) := hb1.mono hg2
  have CB := Lib.hid (l4Bent_any lo (min hi w.heap.size) g A k c 0 b w1 hk (by omega) HBY.out (CD.out w1 B1.out) (by omega) hs1)
  clear hs1 hb1 C1
  go_wp2_with fail
  refine CB.out.mono ?_
  rintro e w2 ⟨B, n, c', xs, a2, rfl, hn, _, hJ⟩
  go_wp2
  go_ret
  exact ⟨B, n, c', xs, rfl, hn, hJ.ow.mono B1.out.size, B1.out.trans (hJ.on.1.mono hg2)⟩

theorem DrawSortedOf_any (lo hi : Nat) (A : Option Addr) (k c : Nat) (b : Nat → Int) (w : World) (hk : k ≤ 1048576) (hb : ∀ j, 0 ≤ b j ∧ b j ≤ 255) (h : Sl w lo hi A k (fun j => .int .u8 (b j))) :
    Calls Try.prog 14 #[.slice A k c] w (HpC w) := by
  have HBY := Lib.hid hb
  have CD : Hid (∀ W, Below w.heap.size w W → Sl W lo (min hi w.heap.size) A k (fun j => .int .u8 (b j))) := fun W hW => h.lt.below hW (by omega)
  have C1 := Lib.hid (l1Source_any A k c w)
  obtain ⟨g, hgz⟩ : ∃ g, g = w.heap.size := ⟨_, rfl⟩
  rw [← hgz] at C1
  have hg1 : g ≤ w.heap.size := by omega
  have hg2 : w.heap.size ≤ g := by omega
  clear h hb hgz
  go_enter Try.func14, Try.ntmps14
  go_wp2_with fail
  refine C1.out.mono ?_
  rintro e w1 ⟨rfl, hs1, hb1⟩
  have B1 : Hid (Below w.heap.size w w1) := hb1.mono hg2
  have CB := Lib.hid (l4Bent_any lo (min hi w.heap.size) g A k c 0 b w1 hk (by omega) HBY.out (CD.out w1 B1.out) (by omega) hs1)
  clear hs1 hb1 C1
  go_wp2_with fail
  refine CB.out.mono ?_
  rintro e w2 ⟨B, n, c', xs, a2, rfl, hn, _, hJ⟩
  go_wp2
  go_ret
  exact ⟨B, n, c', xs, rfl, hn, hJ.ow.mono B1.out.size, B1.out.trans (hJ.on.1.mono hg2)⟩

set_option maxHeartbeats 4000000 in
theorem DrawIsLess_any (lo hi : Nat) (A : Option Addr) (k c : Nat) (b : Nat → Int) (w : World) (hk : k ≤ 1048576) (hb : ∀ j, 0 ≤ b j ∧ b j ≤ 255) (h : Sl w lo hi A k (fun j => .int .u8 (b j))) :
    Calls Try.prog 16 #[.slice A k c] w (LessD w) := by
  have HBY := Lib.hid hb
  have CD : Hid (∀ W, Below w.heap.size w W → Sl W lo (min hi w.heap.size) A k (fun j => .int .u8 (b j))) := fun W hW => h.lt.below hW (by omega)
  obtain ⟨w1, hw1⟩ : ∃ w1, w1 = w.alloc (.cells #[.int .i64 0, .int .i64 0] 26) := ⟨_, rfl⟩
  obtain ⟨w2, hw2⟩ : ∃ w2, w2 = w1.alloc (.cells #[.int .i64 0, .int .i64 0] 26) := ⟨_, rfl⟩
  have z1 : w1.heap.size = w.heap.size + 1 := by rw [hw1]; simp
  have z2 : w2.heap.size = w1.heap.size + 1 := by rw [hw2]; simp
  have N1 : Below w.heap.size w w1 := by rw [hw1]; exact below_new w _
  have N2 : Below w1.heap.size w1 w2 := by rw [hw2]; exact below_new w1 _
  have K1 : w1.heap[w.heap.size]? = some (.cells #[.int .i64 0, .int .i64 0] 26 (0, 0)) := by rw [hw1]; exact heap_alloc_new w _
  have A2' : w2.heap[w.heap.size + 1]? = some (.cells #[.int .i64 0, .int .i64 0] 26 (0, 0)) := by rw [hw2, ← z1]; exact heap_alloc_new w1 _
  have K2 := (N2.block w.heap.size (by omega)).trans K1
  have FB : Hid (∀ W, Below w2.heap.size w2 W → W.heap[w.heap.size]? = some (.cells #[.int .i64 0, .int .i64 0] 26 (0, 0)) ∧ W.heap[w.heap.size + 1]? = some (.cells #[.int .i64 0, .int .i64 0] 26 (0, 0)) ∧ Below w.heap.size w W) := fun W hW =>
    ⟨(hW.block _ (by omega)).trans K2, (hW.block _ (by omega)).trans A2', N1.trans ((N2.trans (hW.mono (by omega))).mono (by omega))⟩
  have HW1 := Lib.hid hw1; have HW2 := Lib.hid hw2
  have C1 := Lib.hid (l1Source_any A k c w2)
  obtain ⟨g, hgz⟩ : ∃ g, g = w2.heap.size := ⟨_, rfl⟩
  rw [← hgz] at C1
  have hg2 : w2.heap.size ≤ g := by omega
  have hg3 : w.heap.size + 2 = g := by omega
  clear h hb hw1 hw2 z1 z2 N1 N2 K1 A2' K2 hgz
  go_enter Try.func16, Try.ntmps16
  go_upto_region 1 with (fail)
  rw [← HW1.out, ← HW2.out]
  clear HW1 HW2
  go_wp2_with fail
  refine C1.out.mono ?_
  rintro e w3 ⟨rfl, hs3, hb3⟩
  have B3 : Hid (Below w2.heap.size w2 w3) := hb3.mono hg2
  have CE := Lib.hid (l4DrawEntry_any lo (min hi w.heap.size) g A k c 0 b w3 hk (by omega) HBY.out (CD.out w3 (FB.out w3 B3.out).2.2) (by omega) hs3)
  clear hs3 hb3 C1
  go_wp2_with fail
  refine CE.out.mono ?_
  rintro e w4 ⟨p, d, rfl, hs4, ho4⟩
  have B4 : Hid (Below w2.heap.size w2 w4) := B3.out.trans (ho4.1.mono hg2)
  have CE2 := Lib.hid (l4DrawEntry_any lo (min hi w.heap.size) g A k c (0 + 3) b w4 hk (by omega) HBY.out (CD.out w4 (FB.out w4 B4.out).2.2) (by omega) hs4)
  clear hs4 ho4 CE B3
  go_wp2_with fail
  refine CE2.out.mono ?_
  rintro e w5 ⟨p', d', rfl, _, ho5⟩
  have B5 : Hid (Below w2.heap.size w2 w5) := B4.out.trans (ho5.1.mono hg2)
  clear ho5 CE2 B4
  have r0 := cell_of_row w5 _ 0 _ _ _ (FB.out w5 B5.out).1; have r1 := cell_of_row w5 _ 1 _ _ _ (FB.out w5 B5.out).1
  have f0 := frozen_of_row w5 _ 0 _ _ (FB.out w5 B5.out).1; have f1 := frozen_of_row w5 _ 1 _ _ (FB.out w5 B5.out).1
  have u0 := cell_of_row w5 _ 0 _ _ _ (FB.out w5 B5.out).2.1; have u1 := cell_of_row w5 _ 1 _ _ _ (FB.out w5 B5.out).2.1
  have v0 := frozen_of_row w5 _ 0 _ _ (FB.out w5 B5.out).2.1; have v1 := frozen_of_row w5 _ 1 _ _ (FB.out w5 B5.out).2.1
  simp at r0 r1 u0 u1
  have d1 : ¬ w.heap.size + 1 = w.heap.size := by omega
  go_wp2
  obtain ⟨wf, hwf⟩ : ∃ V, V = (((w5.setCell ⟨w.heap.size, 0, none⟩ (.int .i64 p)).setCell ⟨w.heap.size, 1, none⟩ (.int .i64 d)).setCell ⟨w.heap.size + 1, 0, none⟩ (.int .i64 p')).setCell ⟨w.heap.size + 1, 1, none⟩ (.int .i64 d') := ⟨_, rfl⟩
  have HK : wf.heap[w.heap.size]? = some (.cells #[.int .i64 p, .int .i64 d] 26 (0, 0)) := by
    rw [hwf]; exact (Below.heap_setCell _ ⟨w.heap.size + 1, 1, none⟩ _ w.heap.size (by simp)).trans ((Below.heap_setCell _ ⟨w.heap.size + 1, 0, none⟩ _ w.heap.size (by simp)).trans (heap_setCell_same _ _ 1 _ _ _ (heap_setCell_same _ _ 0 _ _ _ (FB.out w5 B5.out).1)))
  have HA : wf.heap[w.heap.size + 1]? = some (.cells #[.int .i64 p', .int .i64 d'] 26 (0, 0)) := by
    rw [hwf]; exact heap_setCell_same _ _ 1 _ _ _ (heap_setCell_same _ _ 0 _ _ _ ((Below.heap_setCell _ ⟨w.heap.size, 1, none⟩ _ (w.heap.size + 1) (by simp)).trans ((Below.heap_setCell _ ⟨w.heap.size, 0, none⟩ _ (w.heap.size + 1) (by simp)).trans (FB.out w5 B5.out).2.1)))
  have HBL : Below w.heap.size w wf := by
    rw [hwf]; exact ((((FB.out w5 B5.out).2.2.setCell (p := ⟨w.heap.size, 0, none⟩) (by simp) _).setCell (p := ⟨w.heap.size, 1, none⟩) (by simp) _).setCell (p := ⟨w.heap.size + 1, 0, none⟩) (by simp) _).setCell (p := ⟨w.heap.size + 1, 1, none⟩) (by simp) _
  rw [← hwf]
  refine bodyPost_ret (results_twoH rfl _ _ w.heap.size (w.heap.size + 1) _ _ _ _ (0, 0) (0, 0) _ rfl rfl HK HA Try.underlying26 rfl (by kernel_rfl) (by kernel_rfl)) rfl ?_
  exact ⟨p, d, p', d', rfl, HBL⟩

set_option maxHeartbeats 8000000 in
theorem DrawPushHeap_any (lo hi : Nat) (A : Option Addr) (k c : Nat) (b : Nat → Int) (w : World) (hk : k ≤ 1048576) (hb : ∀ j, 0 ≤ b j ∧ b j ≤ 255) (h : Sl w lo hi A k (fun j => .int .u8 (b j))) :
    Calls Try.prog 8 #[.slice A k c] w (PushD w) := by
  have HBY := Lib.hid hb
  have CD : Hid (∀ W, Below w.heap.size w W → Sl W lo (min hi w.heap.size) A k (fun j => .int .u8 (b j))) := fun W hW => h.lt.below hW (by omega)
  obtain ⟨w1, hw1⟩ : ∃ w1, w1 = w.alloc (.cells #[.int .i64 0, .int .i64 0] 26) := ⟨_, rfl⟩
  have z1 : w1.heap.size = w.heap.size + 1 := by rw [hw1]; simp
  have N1 : Below w.heap.size w w1 := by rw [hw1]; exact below_new w _
  have K1 : w1.heap[w.heap.size]? = some (.cells #[.int .i64 0, .int .i64 0] 26 (0, 0)) := by rw [hw1]; exact heap_alloc_new w _
  have FB : Hid (∀ W, Below w1.heap.size w1 W → W.heap[w.heap.size]? = some (.cells #[.int .i64 0, .int .i64 0] 26 (0, 0)) ∧ Below w.heap.size w W) := fun W hW =>
    ⟨(hW.block _ (by omega)).trans K1, N1.trans (hW.mono (by omega))⟩
  have HW1 := Lib.hid hw1
  have C1 := Lib.hid (l1Source_any A k c w1)
  obtain ⟨g, hgz⟩ : ∃ g, g = w1.heap.size := ⟨_, rfl⟩
  rw [← hgz] at C1
  have hg2 : w1.heap.size ≤ g := by omega
  have hg3 : w.heap.size + 1 = g := by omega
  clear h hb hw1 z1 N1 K1 hgz
  go_enter Try.func8, Try.ntmps8
  go_upto_region 1 with (fail)
  rw [← HW1.out]
  clear HW1
  go_wp2_with fail
  refine C1.out.mono ?_
  rintro e w3 ⟨rfl, hs3, hb3⟩
  have B3 : Hid (Below w1.heap.size w1 w3) := hb3.mono hg2
  have z3 : g < w3.heap.size := hs3.lt
  have CB := Lib.hid (l4Bent_any lo (min hi w.heap.size) g A k c 0 b w3 hk (by omega) HBY.out (CD.out w3 (FB.out w3 B3.out).2) (by omega) hs3)
  clear hs3 hb3 C1
  go_wp2_with fail
  refine CB.out.mono ?_
  rintro e w4 ⟨B, n, c', xs, a4, rfl, hn, ha4, hJ⟩
  have J4 := Lib.hid hJ
  have B4 : Hid (Below w1.heap.size w1 w4) := B3.out.trans (hJ.on.1.mono hg2)
  have CE := Lib.hid (l4DrawEntry_any lo (min hi w.heap.size) g A k c a4 b w4 hk (by omega) HBY.out (CD.out w4 (FB.out w4 B4.out).2) (by omega) hJ.sr)
  clear hJ CB
  go_wp2_with fail
  refine CE.out.mono ?_
  rintro e w5 ⟨p, d, rfl, hs5, ho5⟩
  have J5 := Lib.hid (J4.out.step hs5 ho5)
  have B5 : Hid (Below w1.heap.size w1 w5) := B4.out.trans (ho5.1.mono hg2)
  clear hs5 ho5 CE J4 B4
  obtain ⟨w6, hw6⟩ : ∃ V, V = w5.alloc (.cells #[.int .i64 p, .int .i64 d] 26) := ⟨_, rfl⟩
  obtain ⟨be, hbe⟩ : ∃ b, b = w5.heap.size := ⟨_, rfl⟩
  have X6 : Hid (w6.heap[be]? = some (.cells #[.int .i64 p, .int .i64 d] 26 (0, 0))) := by show _ = _; rw [hw6, hbe]; exact heap_alloc_new w5 _
  have J6 : Hid (EH w3 w6 g A k c (a4 + 3) B n c' xs) := by rw [hw6]; exact J5.out.new _
  have B6 : Hid (Below w1.heap.size w1 w6) := by rw [hw6]; exact B5.out.alloc B5.out.size _
  have BB : Hid (∀ q, B = some ⟨q, 0, none⟩ → q < be) := fun q e => by
    subst e
    rw [hbe]; exact J5.out.ow.lt.2
  have zbe : w3.heap.size ≤ be := by rw [hbe]; exact J5.out.on.1.size
  have HW6 := Lib.hid hw6; have HBE := Lib.hid hbe
  clear hw6 hbe J5 B5
  go_upto_region 4 with (fail)
  rw [← HW6.out, ← HBE.out]
  clear HW6 HBE
  have CN := Lib.hid (l1Next_any lo (min hi w.heap.size) g A k c (a4 + 3) 12 b w6 (by omega) hk (by omega) HBY.out (CD.out w6 (FB.out w6 B6.out).2) (by omega) J6.out.sr)
  go_wp2_with fail
  refine CN.out.mono ?_
  rintro e w7 ⟨r, rfl, hr, _, hs, ho⟩
  have J7 := Lib.hid (J6.out.step hs ho)
  have B7 : Hid (Below w1.heap.size w1 w7) := B6.out.trans (ho.1.mono hg2)
  have X7 := Lib.hid ((ho.2 be (by omega) (Array.getElem?_eq_some_iff.1 X6.out).1).trans X6.out)
  have Xw7 := X7
  clear hs ho CN J6 B6 X6 hr
  by_cases e0 : r = 0
  · subst e0
    have n0 : (((0 : Nat) : Int) == 0) = true := by simp
    have CP := Lib.hid (pick_lit lo (min hi w.heap.size) g A k c (a4 + 3 + 1) 2 2 #[.int .i64 (-1), .int .i64 100000001] b [-1, 100000001] w7 hk (by omega) HBY.out (CD.out w7 (FB.out w7 B7.out).2) (by omega) J7.out.sr rfl (by omega) (by omega) (fun q hq => by rcases (show q = 0 ∨ q = 1 by omega) with rfl | rfl <;> rfl))
    go_wp2_with fail
    refine CP.out.mono ?_
    rintro e w8 ⟨r9, hr9, rfl, hs, ho, hz9⟩
    generalize gi [-1, 100000001] r9 = v9 at *
    have J8 := Lib.hid (J7.out.step hs ho)
    have B8 : Hid (Below w1.heap.size w1 w8) := B7.out.trans (ho.1.mono hg2)
    have X8 := Lib.hid ((ho.2 be (by omega) (Array.getElem?_eq_some_iff.1 X7.out).1).trans X7.out)
    clear CP hr9 hs ho hz9 J7 B7 X7 Xw7
    have t0 := cell_of_row w8 _ 0 _ _ _ X8.out
    have y0 := frozen_of_row w8 _ 0 _ _ X8.out
    simp at t0
    go_upto_region 9 with (fail)
    obtain ⟨w9, hw9⟩ : ∃ V, V = w8.setCell ⟨be, 0, none⟩ (.int .i64 v9) := ⟨_, rfl⟩
    rw [← hw9]
    have far : ∀ q, q ≠ be → w9.heap[q]? = w8.heap[q]? := fun q hq => by rw [hw9]; exact Below.heap_setCell w8 ⟨be, 0, none⟩ _ q (by simpa using hq)
    have Xw9 : Hid (w9.heap[be]? = some (.cells #[.int .i64 v9, .int .i64 d] 26 (0, 0))) := by show _ = _; rw [hw9]; exact heap_setCell_same w8 be 0 _ _ _ X8.out
    have B9 : Hid (Below w1.heap.size w1 w9) := by rw [hw9]; exact B8.out.setCell (p := ⟨be, 0, none⟩) (by simp; omega) _
    have J9 : Hid (EH w3 w9 g A k c (a4 + 3 + 1 + 1) B n c' xs) := ⟨J8.out.ow.keepAll fun q e => far q (by have := BB.out q e; omega), (far g (by omega)).trans J8.out.sr, ⟨by rw [hw9]; exact J8.out.on.1.setCell (p := ⟨be, 0, none⟩) (by simp; omega) _, fun q h1 h2 => (far q (by omega)).trans (J8.out.on.2 q h1 h2)⟩, J8.out.gw⟩
    clear hw9 far t0 y0 J8 B8 X8
    have r0 := cell_of_row w9 _ 0 _ _ _ (FB.out w9 B9.out).1; have r1 := cell_of_row w9 _ 1 _ _ _ (FB.out w9 B9.out).1
    have f0 := frozen_of_row w9 _ 0 _ _ (FB.out w9 B9.out).1; have f1 := frozen_of_row w9 _ 1 _ _ (FB.out w9 B9.out).1
    have t0 := cell_of_row w9 _ 0 _ _ _ Xw9.out; have t1 := cell_of_row w9 _ 1 _ _ _ Xw9.out
    simp at r0 r1 t0 t1
    go_wp2_with fail
    first | go_region | fail
    obtain ⟨wf, hwf⟩ : ∃ V, V = (w9.setCell ⟨w.heap.size, 0, none⟩ (.int .i64 v9)).setCell ⟨w.heap.size, 1, none⟩ (.int .i64 d) := ⟨_, rfl⟩
    have HK0 : wf.heap[w.heap.size]? = some (.cells #[.int .i64 v9, .int .i64 d] 26 (0, 0)) := by rw [hwf]; exact heap_setCell_same _ _ 1 _ _ _ (heap_setCell_same _ _ 0 _ _ _ (FB.out w9 B9.out).1)
    have HK : wf.drew.heap[w.heap.size]? = some (.cells #[.int .i64 v9, .int .i64 d] 26 (0, 0)) := HK0
    have HV : ∀ q, q ≠ w.heap.size → wf.heap[q]? = w9.heap[q]? := fun q hq => by rw [hwf]; exact (Below.heap_setCell _ ⟨w.heap.size, 1, none⟩ _ q (by simpa using hq)).trans (Below.heap_setCell _ ⟨w.heap.size, 0, none⟩ _ q (by simpa using hq))
    have HBL : Below w.heap.size w wf := by rw [hwf]; exact ((FB.out w9 B9.out).2.setCell (p := ⟨w.heap.size, 0, none⟩) (by simp) _).setCell (p := ⟨w.heap.size, 1, none⟩) (by simp) _
    rw [← hwf]
    clear hwf
    go_wp2
    refine bodyPost_ret (results_tmpH rfl _ _ w.heap.size _ _ (0, 0) _ rfl HK Try.underlying26 rfl (by kernel_rfl)) rfl ?_
    have OZ : OR 26 2 wf.drew w3.heap.size B n c' xs := J9.out.ow.keepAll fun q e => by
      subst e
      have := J9.out.ow.lt
      exact HV q (by omega)
    exact ⟨B, n, c', xs, v9, d, rfl, hn, OZ.mono (by omega), HBL.drew⟩
  have n0 : ((r : Int) == 0) = false := by simp; omega
  by_cases e1 : r = 1
  · subst e1
    have n0 : (((1 : Nat) : Int) == 0) = false := by simp
    have n1 : (((1 : Nat) : Int) == 1) = true := by simp
    have CP := Lib.hid (pick_lit lo (min hi w.heap.size) g A k c (a4 + 3 + 1) 3 2 #[.int .i64 (-1), .int .i64 99, .int .i64 100] b [-1, 99, 100] w7 hk (by omega) HBY.out (CD.out w7 (FB.out w7 B7.out).2) (by omega) J7.out.sr rfl (by omega) (by omega) (fun q hq => by rcases (show q = 0 ∨ q = 1 ∨ q = 2 by omega) with rfl | rfl | rfl <;> rfl))
    go_wp2_with fail
    refine CP.out.mono ?_
    rintro e w8 ⟨r9, hr9, rfl, hs, ho, hz9⟩
    generalize gi [-1, 99, 100] r9 = v9 at *
    have J8 := Lib.hid (J7.out.step hs ho)
    have B8 : Hid (Below w1.heap.size w1 w8) := B7.out.trans (ho.1.mono hg2)
    have X8 := Lib.hid ((ho.2 be (by omega) (Array.getElem?_eq_some_iff.1 X7.out).1).trans X7.out)
    clear CP hr9 hs ho hz9 J7 B7 X7 Xw7
    have t0 := cell_of_row w8 _ 1 _ _ _ X8.out
    have y0 := frozen_of_row w8 _ 1 _ _ X8.out
    simp at t0
    go_upto_region 9 with (fail)
    obtain ⟨w9, hw9⟩ : ∃ V, V = w8.setCell ⟨be, 1, none⟩ (.int .i64 v9) := ⟨_, rfl⟩
    rw [← hw9]
    have far : ∀ q, q ≠ be → w9.heap[q]? = w8.heap[q]? := fun q hq => by rw [hw9]; exact Below.heap_setCell w8 ⟨be, 1, none⟩ _ q (by simpa using hq)
    have Xw9 : Hid (w9.heap[be]? = some (.cells #[.int .i64 p, .int .i64 v9] 26 (0, 0))) := by show _ = _; rw [hw9]; exact heap_setCell_same w8 be 1 _ _ _ X8.out
    have B9 : Hid (Below w1.heap.size w1 w9) := by rw [hw9]; exact B8.out.setCell (p := ⟨be, 1, none⟩) (by simp; omega) _
    have J9 : Hid (EH w3 w9 g A k c (a4 + 3 + 1 + 1) B n c' xs) := ⟨J8.out.ow.keepAll fun q e => far q (by have := BB.out q e; omega), (far g (by omega)).trans J8.out.sr, ⟨by rw [hw9]; exact J8.out.on.1.setCell (p := ⟨be, 1, none⟩) (by simp; omega) _, fun q h1 h2 => (far q (by omega)).trans (J8.out.on.2 q h1 h2)⟩, J8.out.gw⟩
    clear hw9 far t0 y0 J8 B8 X8
    have r0 := cell_of_row w9 _ 0 _ _ _ (FB.out w9 B9.out).1; have r1 := cell_of_row w9 _ 1 _ _ _ (FB.out w9 B9.out).1
    have f0 := frozen_of_row w9 _ 0 _ _ (FB.out w9 B9.out).1; have f1 := frozen_of_row w9 _ 1 _ _ (FB.out w9 B9.out).1
    have t0 := cell_of_row w9 _ 0 _ _ _ Xw9.out; have t1 := cell_of_row w9 _ 1 _ _ _ Xw9.out
    simp at r0 r1 t0 t1
    go_wp2_with fail
    first | go_region | fail
    obtain ⟨wf, hwf⟩ : ∃ V, V = (w9.setCell ⟨w.heap.size, 0, none⟩ (.int .i64 p)).setCell ⟨w.heap.size, 1, none⟩ (.int .i64 v9) := ⟨_, rfl⟩
    have HK0 : wf.heap[w.heap.size]? = some (.cells #[.int .i64 p, .int .i64 v9] 26 (0, 0)) := by rw [hwf]; exact heap_setCell_same _ _ 1 _ _ _ (heap_setCell_same _ _ 0 _ _ _ (FB.out w9 B9.out).1)
    have HK : wf.drew.heap[w.heap.size]? = some (.cells #[.int .i64 p, .int .i64 v9] 26 (0, 0)) := HK0
    have HV : ∀ q, q ≠ w.heap.size → wf.heap[q]? = w9.heap[q]? := fun q hq => by rw [hwf]; exact (Below.heap_setCell _ ⟨w.heap.size, 1, none⟩ _ q (by simpa using hq)).trans (Below.heap_setCell _ ⟨w.heap.size, 0, none⟩ _ q (by simpa using hq))
    have HBL : Below w.heap.size w wf := by rw [hwf]; exact ((FB.out w9 B9.out).2.setCell (p := ⟨w.heap.size, 0, none⟩) (by simp) _).setCell (p := ⟨w.heap.size, 1, none⟩) (by simp) _
    rw [← hwf]
    clear hwf
    go_wp2
    refine bodyPost_ret (results_tmpH rfl _ _ w.heap.size _ _ (0, 0) _ rfl HK Try.underlying26 rfl (by kernel_rfl)) rfl ?_
    have OZ : OR 26 2 wf.drew w3.heap.size B n c' xs := J9.out.ow.keepAll fun q e => by
      subst e
      have := J9.out.ow.lt
      exact HV q (by omega)
    exact ⟨B, n, c', xs, p, v9, rfl, hn, OZ.mono (by omega), HBL.drew⟩
  have n1 : ((r : Int) == 1) = false := by simp; omega
  have r0 := cell_of_row w7 _ 0 _ _ _ (FB.out w7 B7.out).1; have r1 := cell_of_row w7 _ 1 _ _ _ (FB.out w7 B7.out).1
  have f0 := frozen_of_row w7 _ 0 _ _ (FB.out w7 B7.out).1; have f1 := frozen_of_row w7 _ 1 _ _ (FB.out w7 B7.out).1
  have t0 := cell_of_row w7 _ 0 _ _ _ Xw7.out; have t1 := cell_of_row w7 _ 1 _ _ _ Xw7.out
  simp at r0 r1 t0 t1
  go_wp2_with fail
  first | go_region | fail
  obtain ⟨wf, hwf⟩ : ∃ V, V = (w7.setCell ⟨w.heap.size, 0, none⟩ (.int .i64 p)).setCell ⟨w.heap.size, 1, none⟩ (.int .i64 d) := ⟨_, rfl⟩
  have HK0 : wf.heap[w.heap.size]? = some (.cells #[.int .i64 p, .int .i64 d] 26 (0, 0)) := by rw [hwf]; exact heap_setCell_same _ _ 1 _ _ _ (heap_setCell_same _ _ 0 _ _ _ (FB.out w7 B7.out).1)
  have HK : wf.drew.heap[w.heap.size]? = some (.cells #[.int .i64 p, .int .i64 d] 26 (0, 0)) := HK0
  have HV : ∀ q, q ≠ w.heap.size → wf.heap[q]? = w7.heap[q]? := fun q hq => by rw [hwf]; exact (Below.heap_setCell _ ⟨w.heap.size, 1, none⟩ _ q (by simpa using hq)).trans (Below.heap_setCell _ ⟨w.heap.size, 0, none⟩ _ q (by simpa using hq))
  have HBL : Below w.heap.size w wf := by rw [hwf]; exact ((FB.out w7 B7.out).2.setCell (p := ⟨w.heap.size, 0, none⟩) (by simp) _).setCell (p := ⟨w.heap.size, 1, none⟩) (by simp) _
  rw [← hwf]
  clear hwf
  go_wp2
  refine bodyPost_ret (results_tmpH rfl _ _ w.heap.size _ _ (0, 0) _ rfl HK Try.underlying26 rfl (by kernel_rfl)) rfl ?_
  have OZ : OR 26 2 wf.drew w3.heap.size B n c' xs := J7.out.ow.keepAll fun q e => by
    subst e
    have := J7.out.ow.lt
    exact HV q (by omega)
  exact ⟨B, n, c', xs, p, d, rfl, hn, OZ.mono (by omega), HBL.drew⟩

set_option maxHeartbeats 8000000 in
theorem DrawHeapOf_any (lo hi : Nat) (A : Option Addr) (k c : Nat) (b : Nat → Int) (w : World) (hk : k ≤ 1048576) (hb : ∀ j, 0 ≤ b j ∧ b j ≤ 255) (h : Sl w lo hi A k (fun j => .int .u8 (b j))) :
    Calls Try.prog 12 #[.slice A k c] w (HpC w) := by
  have HBY := Lib.hid hb
  have CD : Hid (∀ W, Below w.heap.size w W → Sl W lo (min hi w.heap.size) A k (fun j => .int .u8 (b j))) := fun W hW => h.lt.below hW (by omega)
  obtain ⟨i0, hi0, hz0, hz1, hz2⟩ := info_parts Try.info_EntryH
  have C1 := Lib.hid (l1Source_any A k c w)
  obtain ⟨g, hgz⟩ : ∃ g, g = w.heap.size := ⟨_, rfl⟩
  rw [← hgz] at C1
  have hg1 : g ≤ w.heap.size := by omega
  have hg2 : w.heap.size ≤ g := by omega
  clear h hb hgz
  go_enter Try.func12, Try.ntmps12
  go_wp2_with fail
  refine C1.out.mono ?_
  rintro e w1 ⟨rfl, hs1, hb1⟩
  have B1 : Hid (Below w.heap.size w w1) := hb1.mono hg2
  have zg : g < w1.heap.size := hs1.lt
  obtain ⟨w2, hw2⟩ : ∃ V, V = w1.alloc (.cells #[] 26) := ⟨_, rfl⟩
  obtain ⟨B0, hB0⟩ : ∃ B0 : Option Addr, B0 = some ⟨w1.heap.size, 0, none⟩ := ⟨_, rfl⟩
  have J2 : Hid (EH w1 w2 g A k c 0 B0 0 0 []) := by
    rw [hw2, hB0]
    exact ⟨OR.empty w1 (Nat.le_refl _), hs1.alloc _, (Only.refl _ _ _).alloc (by omega) _, zg⟩
  have HW2 := Lib.hid hw2; have HB0 := Lib.hid hB0
  have CD1 : Hid (∀ W, Only g (g + 1) w1 W → Sl W lo (min hi w.heap.size) A k (fun j => .int .u8 (b j))) := fun W hW => CD.out W (B1.out.trans (hW.1.mono hg2))
  clear hs1 hb1 C1 hw2 hB0
  go_upto_region 3 with (fail)
  rw [← HW2.out, ← HB0.out]
  clear HW2 HB0
  have CN := Lib.hid (l1Next_any lo (min hi w.heap.size) g A k c 0 10 b w2 (by omega) hk (by omega) HBY.out (CD1.out w2 J2.out.on) (by omega) J2.out.sr)
  go_wp2_with fail
  refine CN.out.mono ?_
  rintro e w3 ⟨N, rfl, hN, _, hs, ho⟩
  have J3 := Lib.hid (J2.out.step hs ho)
  have hN9 : N ≤ 9 := by have := hN (by omega); omega
  clear hs ho hN CN J2
  go_wp2_with fail
  go_loopw [4, 5] (fun x y wr => ∃ (n' c' : Nat) (B : Option Addr) (xs : List Int) (m a' : Nat), x = .slice B n' c' ∧ y = .int .i64 (m : Int) ∧ m ≤ 9 ∧ n' + m ≤ 9 ∧ a' + 4 * m ≤ 60 ∧ EH w1 wr g A k c a' B n' c' xs) (fun _ y _ => (intOf y).toNat)
  case atStart => exact ⟨0, 0, B0, [], N, 0 + 1, rfl, rfl, hN9, by omega, by omega, J3.out⟩
  case round =>
    obtain ⟨n', c', B, xs, m, a', rfl, rfl, hm, hn', ha', hJ⟩ := hrel
    have J := Lib.hid hJ
    clear hJ J3
    by_cases hlt : 0 < m
    · have h3 : (0 : Int) < (m : Int) := by omega
      have CE := Lib.hid (l4DrawEntry_any lo (min hi w.heap.size) g A k c a' b wr hk (by omega) HBY.out (CD1.out wr J.out.on) (by omega) J.out.sr)
      go_wp2_with fail
      refine CE.out.mono ?_
      rintro e w5 ⟨p, d, rfl, hs, ho⟩
      have J5 := Lib.hid (J.out.step hs ho)
      clear hs ho CE J
      obtain ⟨w6, hw6⟩ : ∃ V, V = w5.alloc (.cells #[.int .i64 p, .int .i64 d] 26) := ⟨_, rfl⟩
      obtain ⟨be, hbe⟩ : ∃ b, b = w5.heap.size := ⟨_, rfl⟩
      have K6 : Hid (w6.heap[be]? = some (.cells #[.int .i64 p, .int .i64 d] 26 (0, 0))) := by show _ = _; rw [hw6, hbe]; exact heap_alloc_new w5 _
      have J6 : Hid (EH w1 w6 g A k c (a' + 3) B n' c' xs) := by rw [hw6]; exact J5.out.new _
      have BB : Hid (∀ q, B = some ⟨q, 0, none⟩ → q < be) := fun q e => by
        subst e
        rw [hbe]; exact J5.out.ow.lt.2
      have zbe : w1.heap.size ≤ be := by rw [hbe]; exact J5.out.on.1.size
      have HW6 := Lib.hid hw6; have HBE := Lib.hid hbe
      clear hw6 hbe J5
      go_upto_region 7 with (fail)
      rw [← HW6.out, ← HBE.out]
      clear HW6 HBE
      have CN := Lib.hid (l1Next_any lo (min hi w.heap.size) g A k c (a' + 3) 2 b w6 (by omega) hk (by omega) HBY.out (CD1.out w6 J6.out.on) (by omega) J6.out.sr)
      go_wp2_with fail
      refine CN.out.mono ?_
      rintro e w7 ⟨r, rfl, hr, _, hs, ho⟩
      have hr2 : r < 2 := by have := hr (by omega); omega
      have J7 := Lib.hid (J6.out.step hs ho)
      have K7 := Lib.hid ((ho.2 be (by omega) (Array.getElem?_eq_some_iff.1 K6.out).1).trans K6.out)
      clear hs ho hr CN J6 K6
      have wr1 : IntKind.i64.wrap ((n' : Int) + (r : Int)) = (n' : Int) + (r : Int) := IntWalk.i64_in _ (by omega)
      have t0 := cell_of_row w7 _ 1 _ _ _ K7.out
      have y0 := frozen_of_row w7 _ 1 _ _ K7.out
      simp at t0
      go_upto_region 8 with (fail)
      obtain ⟨w8, hw8⟩ : ∃ V, V = w7.setCell ⟨be, 1, none⟩ (.int .i64 ((n' : Int) + (r : Int))) := ⟨_, rfl⟩
      rw [← hw8]
      have far : ∀ q, q ≠ be → w8.heap[q]? = w7.heap[q]? := fun q hq => by rw [hw8]; exact Below.heap_setCell w7 ⟨be, 1, none⟩ _ q (by simpa using hq)
      have K8 : Hid (w8.heap[be]? = some (.cells #[.int .i64 p, .int .i64 ((n' : Int) + (r : Int))] 26 (0, 0))) := by show _ = _; rw [hw8]; exact heap_setCell_same w7 be 1 _ _ _ K7.out
      have J8 : Hid (EH w1 w8 g A k c (a' + 3 + 1) B n' c' xs) := ⟨J7.out.ow.keepAll fun q e => far q (by have := BB.out q e; omega), (far g (by omega)).trans J7.out.sr, ⟨by rw [hw8]; exact J7.out.on.1.setCell (p := ⟨be, 1, none⟩) (by simp; omega) _, fun q h1 h2 => (far q (by omega)).trans (J7.out.on.2 q h1 h2)⟩, J7.out.gw⟩
      clear hw8 far t0 y0 wr1 J7 K7
      obtain ⟨id, hid⟩ : ∃ id : Int, id = ((n' : Int) + (r : Int)) := ⟨_, rfl⟩
      rw [← hid] at K8
      clear hid
      have q0 := cell_of_row w8 _ 0 _ _ _ K8.out; have q1 := cell_of_row w8 _ 1 _ _ _ K8.out
      simp at q0 q1
      have LN : Hid (n' ≤ 8) := by show _ ≤ _; omega
      have NW := Lib.hid (list_newH w8 [.int .i64 p, .int .i64 id] 26)
      have O6 := Lib.hid (OR.alloc J8.out.ow (.cells #[.int .i64 p, .int .i64 id] 26))
      have Z6 : Hid (w1.heap.size ≤ (w8.alloc (.cells #[.int .i64 p, .int .i64 id] 26)).heap.size) := by show _ ≤ _; have := J8.out.on.1.size; simp; omega
      go_wp2_with (at_builtin; refine wpList_append_own _ rfl (.tmp 24) (.tmp 26) 24 rfl w1.heap.size 26 i0 (.agg #[.int .i64 0, .int .i64 0]) 2 16 Try.underlying24 hi0 hz0 hz1 hz2 rfl (by decide) (.slice B n' c') n' (vals xs) rfl O6.out ⟨w8.heap.size, 0, none⟩ 1 1 [.int .i64 p, .int .i64 id] rfl rfl NW.out (by simp [Value.oneCell']) (by have := LN.out; unfold maxLen; omega) (by have := LN.out; omega) Z6.out ?_; intro v7 w9 hown hgrow hat; obtain ⟨I7, d7, rfl, hJ7⟩ := J8.out.app p id hown hgrow; have J9 := Lib.hid hJ7; clear hown hgrow hat hJ7)
      go_roundw
      case rel => exact ⟨n' + 1, d7, I7, _, m - 1, a' + 3 + 1, rfl, by congr 1; omega, by omega, by omega, by omega, J9.out⟩
      case measure => simp [intOf]; omega
    · have h3 : ¬ ((0 : Int) < (m : Int)) := by omega
      have CH := Lib.hid (l1Chance_any lo (min hi w.heap.size) g A k c a' 12 b wr (by omega) hk (by omega) HBY.out (CD1.out wr J.out.on) (by omega) J.out.sr)
      go_wp2_with fail
      refine CH.out.mono ?_
      rintro e w5 ⟨y, rfl, hs, ho⟩
      have J5 := Lib.hid (J.out.step hs ho)
      clear hs ho CH J
      rcases y with _ | _
      · go_wp2
        go_ret
        exact ⟨B, n', c', xs, rfl, by omega, J5.out.ow.mono B1.out.size, B1.out.trans (J5.out.on.1.mono hg2)⟩
      · have CB := Lib.hid (l4Bent_any lo (min hi w.heap.size) g A k c (a' + 1) b w5 hk (by omega) HBY.out (CD1.out w5 J5.out.on) (by omega) J5.out.sr)
        go_wp2_with fail
        refine CB.out.mono ?_
        rintro e w6 ⟨D, n6, c6, ys, a6, rfl, hn6, _, hJ6⟩
        go_wp2
        go_ret
        have u5 : Below w.heap.size w w5 := B1.out.trans (J5.out.on.1.mono hg2)
        exact ⟨D, n6, c6, ys, rfl, hn6, hJ6.ow.mono u5.size, u5.trans (hJ6.on.1.mono hg2)⟩

end Go.Proofs.Ytckapndpefkcgaa
