/-
  The model's l5Join. No conditions beyond that the schedule can be read.
-/
import Derived.Test.YtckapndpefkcgaaSpec5b
set_option maxHeartbeats 1000000
namespace Go.Proofs.Ytckapndpefkcgaa
open Go.RowKit
set_option maxRecDepth 100000

def gt5 (l : List R3) (x : R3) : Bool := l.any fun y => decide (x.1 < y.1)
theorem gt_snoc (l : List R3) (x y : R3) : gt5 (l ++ [y]) x = (gt5 l x || decide (x.1 < y.1)) := by simp [gt5]
theorem ins_no (l : List R3) (x : R3) (h : gt5 l x = false) : ins5 l x = l ++ [x] := by
  induction l with
  | nil => rfl
  | cons y t ih =>
    unfold gt5 at h ih
    simp only [List.any_cons, Bool.or_eq_false_iff, decide_eq_false_iff_not] at h
    unfold ins5
    rw [if_neg h.1, ih h.2]; rfl
theorem ins_app (l : List R3) (x y : R3) (h : gt5 l x = true) : ins5 (l ++ [y]) x = ins5 l x ++ [y] := by
  induction l with
  | nil => simp [gt5] at h
  | cons z t ih =>
    show ins5 (z :: (t ++ [y])) x = _
    unfold ins5
    by_cases e : x.1 < z.1
    · rw [if_pos e, if_pos e]; rfl
    · rw [if_neg e, if_neg e]
      rw [ih (by unfold gt5 at h ⊢; simp only [List.any_cons, Bool.or_eq_true, decide_eq_true_eq] at h; rcases h with h | h; exact absurd h e; exact h)]; rfl
theorem ins_mid (l : List R3) (x y : R3) (h : gt5 l x = false) (hxy : x.1 < y.1) : ins5 (l ++ [y]) x = (l ++ [x]) ++ [y] := by
  induction l with
  | nil => show ins5 [y] x = _; unfold ins5; rw [if_pos hxy]; rfl
  | cons z t ih =>
    unfold gt5 at h ih
    simp only [List.any_cons, Bool.or_eq_false_iff, decide_eq_false_iff_not] at h
    show ins5 (z :: (t ++ [y])) x = _
    unfold ins5
    rw [if_neg h.1, ih h.2]; rfl
def jl5 (l : List R3) (x : R3) : List R3 := if gt5 l x = true then ins5 l x else l
theorem jl_a (l : List R3) (x y : R3) (h : gt5 l x = true) : jl5 (l ++ [y]) x = jl5 l x ++ [y] := by
  unfold jl5; rw [gt_snoc, h, if_pos rfl, if_pos (by simp), ins_app l x y h]
theorem jl_b (l : List R3) (x y : R3) (h : gt5 l x = false) (hxy : x.1 < y.1) : jl5 (l ++ [y]) x = (jl5 l x ++ [x]) ++ [y] := by
  have h2 : gt5 (l ++ [y]) x = true := by rw [gt_snoc, h]; simpa using hxy
  unfold jl5
  rw [if_pos h2, if_neg (by rw [h]; decide), ins_mid l x y h hxy]
theorem jl_c (l : List R3) (x y : R3) (h : gt5 l x = false) (hxy : ¬ x.1 < y.1) : jl5 (l ++ [y]) x = jl5 l x ++ [y] := by
  have h2 : gt5 (l ++ [y]) x = false := by rw [gt_snoc, h]; simpa using hxy
  unfold jl5
  rw [if_neg (by rw [h2]; decide), if_neg (by rw [h]; decide)]
theorem jl_len (l : List R3) (x : R3) : (jl5 l x).length ≤ l.length + 1 := by
  unfold jl5; split
  · rw [ins5_len]; omega
  · omega
theorem jl_t (l : List R3) (x : R3) (h : gt5 l x = true) : jl5 l x = ins5 l x := by unfold jl5; rw [if_pos h]
theorem jl_f (l : List R3) (x : R3) (h : gt5 l x = false) : jl5 l x ++ [x] = ins5 l x := by unfold jl5; rw [if_neg (by rw [h]; decide), ins_no l x h]

structure JS (w W : World) (b x0 x1 x2 : Int) (A : Option Addr) (c : Nat) (ys : List R3) : Prop where
  ob : W.heap[w.heap.size + 2]? = some (.cells #[.int .i64 b, .slice A ys.length c] 43 (0, 0))
  xb : W.heap[w.heap.size]? = some (.cells #[.int .i64 x0, .int .i64 x1, .int .i64 x2] 52 (0, 0))
  rb : W.heap[w.heap.size + 1]? = some (.cells #[.int .i64 0, .slice none 0 0] 43 (0, 0))
  ol : OR 52 3 W (w.heap.size + 3) A ys.length c (fl ys)
  bw : Below w.heap.size w W
  sz : w.heap.size + 3 ≤ W.heap.size
theorem JS.drewN {w W : World} {b x0 x1 x2 : Int} {A : Option Addr} {c : Nat} {ys : List R3} (h : JS w W b x0 x1 x2 A c ys) (n : Nat) : JS w (W.drewN n) b x0 x1 x2 A c ys :=
  ⟨h.ob, h.xb, h.rb, OR.drewN h.ol n, below_drewN h.bw n, h.sz⟩
theorem JS.more {w W W' w7 : World} {b x0 x1 x2 : Int} {A : Option Addr} {c : Nat} {ys : List R3} {y0 y1 y2 : Int} {g cap : Nat} (h : JS w W b x0 x1 x2 A c ys) (hk : Kept [] W W') (hg : W'.grownBy w7 (Value.slice A ys.length c).ownBlock)
    (ho : w7.ownsRow (w.heap.size + 3) 52 3 (.slice (some ⟨g, 0, none⟩) (ys.length + 1) cap) (ys.length + 1) (vals (fl ys) ++ [.int .i64 y0, .int .i64 y1, .int .i64 y2])) :
    JS w (w7.setCell ⟨w.heap.size + 2, 1, none⟩ (.slice (some ⟨g, 0, none⟩) (ys.length + 1) cap)) b x0 x1 x2 (some ⟨g, 0, none⟩) cap (ys ++ [(y0, y1, y2)]) := by
  have hs := h.sz
  have s1 := hk.1.size
  have O1 : OR 52 3 W' (w.heap.size + 3) A ys.length c (fl ys) := OR.kept h.ol hk (by simp)
  have BB : Below (w.heap.size + 3) W' w7 := (Below.refl _ _).grown hg (by omega) fun k e => by
    rcases O1.2 with ⟨h0, _⟩ | ⟨g', cap', cur, h0, hb', _⟩
    · injection h0 with h0 _ _; subst h0; cases e
    · injection h0 with h0 _ _
      subst h0
      have e' : g' = k := Option.some.inj e
      omega
  have blk : ∀ k, k < w.heap.size + 3 → w7.heap[k]? = W.heap[k]? := fun k hk' => (BB.block k hk').trans (hk.2 k (by omega) (by simp))
  have ho : OR 52 3 w7 (w.heap.size + 3) (some ⟨g, 0, none⟩) (ys.length + 1) cap (fl (ys ++ [(y0, y1, y2)])) := by
    rw [show vals (fl ys) ++ [Value.int .i64 y0, .int .i64 y1, .int .i64 y2] = vals (fl (ys ++ [(y0, y1, y2)])) by simp [vals, fl_snoc]] at ho
    exact ho
  have ob7 := (blk (w.heap.size + 2) (by omega)).trans h.ob
  refine ⟨?_, ?_, ?_, ?_, ?_, by have := BB.size; simp; omega⟩
  · simp only [List.length_append, List.length_singleton]; exact heap_setCell_same w7 _ 1 _ _ _ ob7
  · exact (Below.heap_setCell _ _ _ _ (by simp)).trans ((blk _ (by omega)).trans h.xb)
  · exact (Below.heap_setCell _ _ _ _ (by simp)).trans ((blk _ (by omega)).trans h.rb)
  · simp only [List.length_append, List.length_singleton]; exact OR.setOther ho ob7 (by decide) 1 _
  · exact ((h.bw.trans (hk.below (B := w.heap.size) (by omega) (by simp))).trans (BB.mono (by omega))).setCell (p := ⟨w.heap.size + 2, 1, none⟩) (by simp) _

set_option maxHeartbeats 8000000 in
theorem l5Join_big (lo hi : Nat) (A : Option Addr) (c s0 : Nat) (b : Int) (xs : List R3) (x0 x1 xp r : Int) (w : World) (hr : xs.length ≤ 5) (hb : 0 ≤ b ∧ b ≤ 100000000) (hq : 0 ≤ r ∧ r ≤ 1000000000000) (h : RS w lo hi A xs)
    (hs : w.heap[s0]? = some (.cells #[.int .i64 b, .slice A xs.length c] 43 (0, 0))) :
    Calls Try.prog 91 #[.pointer (some ⟨s0, 0, none⟩), .agg #[.int .i64 x0, .int .i64 x1, .int .i64 xp], .int .i64 r] w fun e w' => ∃ A' c', e = .returned (.agg #[.int .i64 (bas (ins5 xs (x0, x1, b + r)) b), .slice A' (ins5 xs (x0, x1, b + r)).length c']) ∧
      OR 52 3 w' w.heap.size A' (ins5 xs (x0, x1, b + r)).length c' (fl (ins5 xs (x0, x1, b + r))) ∧ Below w.heap.size w w' := by
  have H := Lib.hid h.lt
  have HB := Lib.hid hb
  have HL5 := Lib.hid hr
  have HQ := Lib.hid hq
  obtain ⟨i0, hi0, hz0, hz1, hz2⟩ := info_parts infoReady
  obtain ⟨n, hn'⟩ : ∃ n, n = xs.length := ⟨_, rfl⟩
  have HN := Lib.hid hn'
  have hn5 : n ≤ 5 := by have := HL5.out; omega
  rw [← hn'] at hs
  have S0 := Lib.hid (Array.getElem?_eq_some_iff.1 hs).1
  have KS : Hid (∀ W, Below w.heap.size w W → W.cell? ⟨s0, 0, none⟩ = some (.int .i64 b) ∧ W.cell? ⟨s0, 1, none⟩ = some (.slice A n c)) := fun W hW => by
    have j := (hW.block s0 S0.out).trans hs
    exact ⟨cell_of_row W _ 0 _ _ _ j, cell_of_row W _ 1 _ _ _ j⟩
  obtain ⟨x2, hx2⟩ : ∃ x2, x2 = b + r := ⟨_, rfl⟩
  have HX2 := Lib.hid hx2
  rw [← hx2]
  obtain ⟨wA, hwA⟩ : ∃ wA, wA = (w.alloc (.cells #[.int .i64 x0, .int .i64 x1, .int .i64 xp] 52)).alloc (.cells #[.int .i64 0, .slice none 0 0] 43) := ⟨_, rfl⟩
  have HWA := Lib.hid hwA
  have ZA : Hid (wA.heap.size = w.heap.size + 2) := by show _ = _; rw [hwA]; simp
  have KA0 : Hid (wA.heap[w.heap.size]? = some (.cells #[.int .i64 x0, .int .i64 x1, .int .i64 xp] 52 (0, 0))) := by show _ = _; rw [hwA]; exact heap_alloc2_old w _ _
  have KA1 : Hid (wA.heap[w.heap.size + 1]? = some (.cells #[.int .i64 0, .slice none 0 0] 43 (0, 0))) := by show _ = _; rw [hwA]; exact heap_alloc2_new w _ _
  have BA : Hid (Below w.heap.size w wA) := by rw [hwA]; exact (below_new w _).alloc (by simp) _
  obtain ⟨q0, q1⟩ := KS.out wA BA.out
  have p0 := cell_of_row wA _ 0 _ _ _ KA0.out; have p1 := cell_of_row wA _ 1 _ _ _ KA0.out; have p2 := cell_of_row wA _ 2 _ _ _ KA0.out; have fp := frozen_of_row wA _ 2 _ _ KA0.out
  simp at p0 p1 p2
  obtain ⟨wB, hwB⟩ : ∃ wB, wB = wA.setCell ⟨w.heap.size, 2, none⟩ (.int .i64 x2) := ⟨_, rfl⟩
  have HWB := Lib.hid hwB
  have ZB : Hid (wB.heap.size = w.heap.size + 2) := by show _ = _; rw [hwB]; simpa using ZA.out
  have KB0 : Hid (wB.heap[w.heap.size]? = some (.cells #[.int .i64 x0, .int .i64 x1, .int .i64 x2] 52 (0, 0))) := by show _ = _; rw [hwB]; exact heap_setCell_same wA _ 2 _ _ _ KA0.out
  have KB1 : Hid (wB.heap[w.heap.size + 1]? = some (.cells #[.int .i64 0, .slice none 0 0] 43 (0, 0))) := by show _ = _; rw [hwB]; exact (Below.heap_setCell wA ⟨w.heap.size, 2, none⟩ _ _ (by simp)).trans KA1.out
  have BB : Hid (Below w.heap.size w wB) := by rw [hwB]; exact BA.out.setCell (p := ⟨w.heap.size, 2, none⟩) (Nat.le_refl _) _
  clear hwA hwB h hr hb hn' hs hq hx2
  go_enter Try.func91, Try.ntmps91
  go_upto_region 1 with (fail)
  rw [← HWA.out]
  clear HWA
  go_upto_region 2 with (fail)
  rw [show wrap64 (b + r) = x2 from by have := HX2.out; have := HB.out; have := HQ.out; unfold wrap64; omega, ← HWB.out]
  clear HWB p0 p1 p2 fp q0 q1
  obtain ⟨q0, q1⟩ := KS.out wB BB.out
  obtain ⟨wC, hwC⟩ : ∃ wC, wC = wB.alloc (.cells #[.int .i64 b, .slice none 0 0] 43) := ⟨_, rfl⟩
  have JC : Hid (JS w wC b x0 x1 x2 none 0 []) := by
    have e2 : wC.heap[w.heap.size + 2]? = some (.cells #[.int .i64 b, .slice none 0 0] 43 (0, 0)) := by rw [hwC, ← ZB.out]; exact heap_alloc_new wB _
    have nb : Below (w.heap.size + 2) wB wC := by rw [hwC, ← ZB.out]; exact below_new wB _
    refine ⟨e2, (nb.block _ (by omega)).trans KB0.out, (nb.block _ (by omega)).trans KB1.out, OR.void _ _, BB.out.trans (nb.mono (by omega)), ?_⟩
    rw [hwC]; have := ZB.out; simp; omega
  have HWC := Lib.hid hwC
  clear hwC
  go_upto_region 3 with (fail)
  rw [← HWC.out, ZB.out]
  clear HWC q0 q1
  go_wp2
  go_loopw [8, 9] (fun q iv wr => ∃ (k : Nat) (A' : Option Addr) (c' : Nat), k ≤ n ∧ iv = .int .i64 k ∧ q = .bool (gt5 (xs.take k) (x0, x1, x2)) ∧ JS w wr b x0 x1 x2 A' c' (jl5 (xs.take k) (x0, x1, x2))) (fun _ iv _ => n - (intOf iv).toNat)
  case atStart => exact ⟨0, none, 0, Nat.zero_le _, rfl, rfl, JC.out⟩
  case round =>
    obtain ⟨k, A', c', hk, rfl, rfl, hj⟩ := hrel
    have J := Lib.hid hj
    clear hj
    by_cases hlt : k < n
    · have LT := Lib.hid hlt
      have hkx : k < xs.length := by have := HN.out; omega
      have JA := Lib.hid (jl_a (xs.take k) (x0, x1, x2) (g3 xs k))
      have JB := Lib.hid (jl_b (xs.take k) (x0, x1, x2) (g3 xs k))
      have JC' := Lib.hid (jl_c (xs.take k) (x0, x1, x2) (g3 xs k))
      have GS := Lib.hid (gt_snoc (xs.take k) (x0, x1, x2) (g3 xs k))
      rw [← take_snoc xs k hkx] at JA JB JC' GS
      have MLk := Lib.hid (show (jl5 (xs.take k) (x0, x1, x2)).length ≤ 6 by
        have h1 := jl_len (xs.take k) (x0, x1, x2)
        have h2 := HL5.out
        rw [List.length_take] at h1
        omega)
      obtain ⟨bb, off, rfl, e1, e2, hc⟩ := RS.get H.out (i := k) (by have := HN.out; omega)
      obtain ⟨d0, d1, d2⟩ := hc k (by have := HN.out; omega)
      have D0 := Lib.hid e2; have D1 := Lib.hid d0; have D2 := Lib.hid d1; have D3 := Lib.hid d2
      clear hc d0 d1 d2 e1 e2
      obtain ⟨⟨y0, y1, y2⟩, hy⟩ : ∃ y : R3, y = g3 xs k := ⟨_, rfl⟩
      rw [← hy] at D1 D2 D3 JA JB JC' GS
      clear hy
      generalize jl5 (xs.take k) (x0, x1, x2) = ys at *
      obtain ⟨gb, hgb⟩ : ∃ gb, gb = gt5 (xs.take k) (x0, x1, x2) := ⟨_, rfl⟩
      rw [← hgb] at JA JB JC' GS ⊢
      clear hgb
      cases gb with
      | true =>
        have LV := Lib.hid (JA.out rfl)
        have GT : Hid (gt5 (xs.take (k + 1)) (x0, x1, x2) = true) := by show _ = _; rw [GS.out]; rfl
        have MLc : Hid (ys.length ≤ 6) := MLk.out
        clear JA JB JC' GS
        obtain ⟨q0, q1⟩ := KS.out wr J.out.bw
        have o0 := cell_of_row wr _ 0 _ _ _ J.out.ob; have o1 := cell_of_row wr _ 1 _ _ _ J.out.ob
        have p0 := cell_of_row wr _ 0 _ _ _ J.out.xb; have p1 := cell_of_row wr _ 1 _ _ _ J.out.xb; have p2 := cell_of_row wr _ 2 _ _ _ J.out.xb
        simp at o0 o1 p0 p1 p2
        have a0 : wr.cell? ⟨bb, off + k * 3, none⟩ = some (.int .i64 y0) := (J.out.bw.cell (p := ⟨bb, off + k * 3, none⟩) (by have := D0.out; simp; omega)).trans D1.out
        have a1 : wr.cell? ⟨bb, off + k * 3 + 1, none⟩ = some (.int .i64 y1) := (J.out.bw.cell (p := ⟨bb, off + k * 3 + 1, none⟩) (by have := D0.out; simp; omega)).trans D2.out
        have a2 : wr.cell? ⟨bb, off + k * 3 + 2, none⟩ = some (.int .i64 y2) := (J.out.bw.cell (p := ⟨bb, off + k * 3 + 2, none⟩) (by have := D0.out; simp; omega)).trans D3.out
        go_upto_region 7 with (fail)
        go_quiet (fail)
        obtain ⟨wq, hwq⟩ : ∃ wq, wq = wr.drewN nq := ⟨_, rfl⟩
        have JQ : Hid (JS w wq b x0 x1 x2 A' c' ys) := by show JS _ _ _ _ _ _ _ _ _; rw [hwq]; exact J.out.drewN _
        rw [← hwq]
        clear hwq J q0 q1 o0 o1 p0 p1 p2 a0 a1 a2
        obtain ⟨q0, q1⟩ := KS.out wq JQ.out.bw
        have o0 := cell_of_row wq _ 0 _ _ _ JQ.out.ob; have o1 := cell_of_row wq _ 1 _ _ _ JQ.out.ob
        have p0 := cell_of_row wq _ 0 _ _ _ JQ.out.xb; have p1 := cell_of_row wq _ 1 _ _ _ JQ.out.xb; have p2 := cell_of_row wq _ 2 _ _ _ JQ.out.xb
        simp at o0 o1 p0 p1 p2
        have a0 : wq.cell? ⟨bb, off + k * 3, none⟩ = some (.int .i64 y0) := (JQ.out.bw.cell (p := ⟨bb, off + k * 3, none⟩) (by have := D0.out; simp; omega)).trans D1.out
        have a1 : wq.cell? ⟨bb, off + k * 3 + 1, none⟩ = some (.int .i64 y1) := (JQ.out.bw.cell (p := ⟨bb, off + k * 3 + 1, none⟩) (by have := D0.out; simp; omega)).trans D2.out
        have a2 : wq.cell? ⟨bb, off + k * 3 + 2, none⟩ = some (.int .i64 y2) := (JQ.out.bw.cell (p := ⟨bb, off + k * 3 + 2, none⟩) (by have := D0.out; simp; omega)).trans D3.out
        have Y3c : Hid (Kept [] wq (wq.drew.alloc (.cells #[.int .i64 y0, .int .i64 y1, .int .i64 y2] 52))) := by
          have k := (Kept.refl [] wq)
          exact (show Kept [] wq wq.drew from ⟨k.1.drew, k.2⟩).alloc _
        have O3c := Lib.hid (show OR 52 3 (wq.drew.alloc (.cells #[.int .i64 y0, .int .i64 y1, .int .i64 y2] 52)) (w.heap.size + 3) A' (ys.length) c' (fl ys) from OR.kept JQ.out.ol Y3c.out (by simp))
        have NWc := Lib.hid (show ∀ j u, [Value.int .i64 y0, .int .i64 y1, .int .i64 y2][j]? = some u → (wq.drew.alloc (.cells #[.int .i64 y0, .int .i64 y1, .int .i64 y2] 52)).cell? ((⟨wq.heap.size, 0, none⟩ : Addr).add j) = some u from fun j u h => cell_three_new wq.drew _ _ _ _ j u h)
        have Z3c := Lib.hid (show w.heap.size + 3 ≤ (wq.drew.alloc (.cells #[.int .i64 y0, .int .i64 y1, .int .i64 y2] 52)).heap.size by have := JQ.out.sz; simp; omega)
        have XO3c := Lib.hid ((Y3c.out.2 (w.heap.size + 2) (Array.getElem?_eq_some_iff.1 JQ.out.ob).1 (by simp)).trans JQ.out.ob)
        have s5c : (wq.alloc (.cells #[.int .i64 y0, .int .i64 y1, .int .i64 y2] 52)).cell? ⟨w.heap.size + 2, 1, none⟩ = some (.slice A' (ys.length) c') := cell_of_row _ _ 1 _ _ _ XO3c.out
        try go_upto_region 10 with (fail)
        go_region_law (refine step_append_lies _ rfl (.tmp 53) (.tmp 61) 41 rfl (w.heap.size + 3) 52 i0 (.agg #[.int .i64 0, .int .i64 0, .int .i64 0]) 3 24 Try.underlying41 hi0 hz0 hz1 hz2 rfl (by decide) (.slice A' (ys.length) c') (ys.length) _ rfl O3c.out ⟨wq.heap.size, 0, none⟩ 1 1 [.int .i64 y0, .int .i64 y1, .int .i64 y2] rfl rfl NWc.out (by simp [Value.oneCell']) (by decide) (by have := MLc.out; unfold maxLen; omega) (by have := MLc.out; omega) Z3c.out _ rfl ?_; intro g7c capc w7c hown hgrow hat hlt; have K7c := Lib.hid ((hgrow.block (w.heap.size + 2) (Array.getElem?_eq_some_iff.1 XO3c.out).1 (or_own_ne XO3c.out (by decide) O3c.out)).trans XO3c.out); have y1c := cell_of_row w7c _ 1 _ _ _ K7c.out; have f7c := frozen_of_row w7c _ 1 _ _ K7c.out; simp at y1c; have HO7c := Lib.hid hown; have HG7c := Lib.hid hgrow; clear hown hgrow hat hlt)
        all_goals
          obtain ⟨zc, hzc⟩ : ∃ z, z = ys ++ [(y0, y1, y2)] := ⟨_, rfl⟩
          have JNc := Lib.hid (JS.more JQ.out Y3c.out HG7c.out HO7c.out)
          rw [← hzc] at JNc
          obtain ⟨Wc, hWc⟩ : ∃ W', W' = w7c.setCell ⟨w.heap.size + 2, 1, none⟩ (.slice (some ⟨g7c, 0, none⟩) (ys.length + 1) capc) := ⟨_, rfl⟩
          rw [← hWc] at JNc
          go_wp2_with fail
          go_roundw
          case rel => exact ⟨k + 1, some ⟨g7c, 0, none⟩, capc, by have := LT.out; omega, by go_num, by rw [GT.out], by rw [LV.out, ← hzc, ← hWc]; exact JNc.out⟩
          case measure => have := LT.out; simp [intOf]; omega
      | false =>
        by_cases hxy : x0 < y0
        · have LV := Lib.hid (JB.out rfl hxy)
          have GT : Hid (gt5 (xs.take (k + 1)) (x0, x1, x2) = true) := by show _ = _; rw [GS.out]; simpa using hxy
          have MLb : Hid (ys.length ≤ 6) := MLk.out
          clear JA JB JC' GS
          obtain ⟨q0, q1⟩ := KS.out wr J.out.bw
          have o0 := cell_of_row wr _ 0 _ _ _ J.out.ob; have o1 := cell_of_row wr _ 1 _ _ _ J.out.ob
          have p0 := cell_of_row wr _ 0 _ _ _ J.out.xb; have p1 := cell_of_row wr _ 1 _ _ _ J.out.xb; have p2 := cell_of_row wr _ 2 _ _ _ J.out.xb
          simp at o0 o1 p0 p1 p2
          have a0 : wr.cell? ⟨bb, off + k * 3, none⟩ = some (.int .i64 y0) := (J.out.bw.cell (p := ⟨bb, off + k * 3, none⟩) (by have := D0.out; simp; omega)).trans D1.out
          have a1 : wr.cell? ⟨bb, off + k * 3 + 1, none⟩ = some (.int .i64 y1) := (J.out.bw.cell (p := ⟨bb, off + k * 3 + 1, none⟩) (by have := D0.out; simp; omega)).trans D2.out
          have a2 : wr.cell? ⟨bb, off + k * 3 + 2, none⟩ = some (.int .i64 y2) := (J.out.bw.cell (p := ⟨bb, off + k * 3 + 2, none⟩) (by have := D0.out; simp; omega)).trans D3.out
          go_upto_region 7 with (fail)
          go_quiet (fail)
          obtain ⟨wq, hwq⟩ : ∃ wq, wq = wr.drewN nq := ⟨_, rfl⟩
          have JQ : Hid (JS w wq b x0 x1 x2 A' c' ys) := by show JS _ _ _ _ _ _ _ _ _; rw [hwq]; exact J.out.drewN _
          rw [← hwq]
          clear hwq J q0 q1 o0 o1 p0 p1 p2 a0 a1 a2
          obtain ⟨q0, q1⟩ := KS.out wq JQ.out.bw
          have o0 := cell_of_row wq _ 0 _ _ _ JQ.out.ob; have o1 := cell_of_row wq _ 1 _ _ _ JQ.out.ob
          have p0 := cell_of_row wq _ 0 _ _ _ JQ.out.xb; have p1 := cell_of_row wq _ 1 _ _ _ JQ.out.xb; have p2 := cell_of_row wq _ 2 _ _ _ JQ.out.xb
          simp at o0 o1 p0 p1 p2
          have a0 : wq.cell? ⟨bb, off + k * 3, none⟩ = some (.int .i64 y0) := (JQ.out.bw.cell (p := ⟨bb, off + k * 3, none⟩) (by have := D0.out; simp; omega)).trans D1.out
          have a1 : wq.cell? ⟨bb, off + k * 3 + 1, none⟩ = some (.int .i64 y1) := (JQ.out.bw.cell (p := ⟨bb, off + k * 3 + 1, none⟩) (by have := D0.out; simp; omega)).trans D2.out
          have a2 : wq.cell? ⟨bb, off + k * 3 + 2, none⟩ = some (.int .i64 y2) := (JQ.out.bw.cell (p := ⟨bb, off + k * 3 + 2, none⟩) (by have := D0.out; simp; omega)).trans D3.out
          have Y3b : Hid (Kept [] wq (wq.alloc (.cells #[.int .i64 x0, .int .i64 x1, .int .i64 x2] 52))) := by
            have k := (Kept.refl [] wq)
            exact (show Kept [] wq wq from k).alloc _
          have O3b := Lib.hid (show OR 52 3 (wq.alloc (.cells #[.int .i64 x0, .int .i64 x1, .int .i64 x2] 52)) (w.heap.size + 3) A' (ys.length) c' (fl ys) from OR.kept JQ.out.ol Y3b.out (by simp))
          have NWb := Lib.hid (show ∀ j u, [Value.int .i64 x0, .int .i64 x1, .int .i64 x2][j]? = some u → (wq.alloc (.cells #[.int .i64 x0, .int .i64 x1, .int .i64 x2] 52)).cell? ((⟨wq.heap.size, 0, none⟩ : Addr).add j) = some u from fun j u h => cell_three_new wq _ _ _ _ j u h)
          have Z3b := Lib.hid (show w.heap.size + 3 ≤ (wq.alloc (.cells #[.int .i64 x0, .int .i64 x1, .int .i64 x2] 52)).heap.size by have := JQ.out.sz; simp; omega)
          have XO3b := Lib.hid ((Y3b.out.2 (w.heap.size + 2) (Array.getElem?_eq_some_iff.1 JQ.out.ob).1 (by simp)).trans JQ.out.ob)
          have s5b : (wq.alloc (.cells #[.int .i64 x0, .int .i64 x1, .int .i64 x2] 52)).cell? ⟨w.heap.size + 2, 1, none⟩ = some (.slice A' (ys.length) c') := cell_of_row _ _ 1 _ _ _ XO3b.out
          go_upto_region 10 with (at_builtin; refine wpList_append_lies _ rfl (.tmp 47) (.tmp 49) 41 rfl (w.heap.size + 3) 52 i0 (.agg #[.int .i64 0, .int .i64 0, .int .i64 0]) 3 24 Try.underlying41 hi0 hz0 hz1 hz2 rfl (by decide) (.slice A' (ys.length) c') (ys.length) _ rfl O3b.out ⟨wq.heap.size, 0, none⟩ 1 1 [.int .i64 x0, .int .i64 x1, .int .i64 x2] rfl rfl NWb.out (by simp [Value.oneCell']) (by decide) (by have := MLb.out; unfold maxLen; omega) (by have := MLb.out; omega) Z3b.out _ rfl ?_; intro g7b capb w7b hown hgrow hat hlt; have K7b := Lib.hid ((hgrow.block (w.heap.size + 2) (Array.getElem?_eq_some_iff.1 XO3b.out).1 (or_own_ne XO3b.out (by decide) O3b.out)).trans XO3b.out); have y1b := cell_of_row w7b _ 1 _ _ _ K7b.out; have f7b := frozen_of_row w7b _ 1 _ _ K7b.out; simp at y1b; have HO7b := Lib.hid hown; have HG7b := Lib.hid hgrow; clear hown hgrow hat hlt)
          obtain ⟨zb, hzb⟩ : ∃ z, z = ys ++ [(x0, x1, x2)] := ⟨_, rfl⟩
          have JNb := Lib.hid (JS.more JQ.out Y3b.out HG7b.out HO7b.out)
          rw [← hzb] at JNb
          obtain ⟨Wb, hWb⟩ : ∃ W', W' = w7b.setCell ⟨w.heap.size + 2, 1, none⟩ (.slice (some ⟨g7b, 0, none⟩) (ys.length + 1) capb) := ⟨_, rfl⟩
          rw [← hWb] at JNb
          have HWb := Lib.hid hWb; have HZb := Lib.hid hzb
          have MLc : Hid (zb.length ≤ 7) := by show _ ≤ _; rw [hzb]; have := MLb.out; simp; omega
          clear hWb hzb q0 q1 o0 o1 p0 p1 p2 a0 a1 a2 s5b
          rw [← HWb.out]
          rw [← HZb.out] at LV
          clear HWb HZb
          obtain ⟨q0, q1⟩ := KS.out Wb JNb.out.bw
          have o0 := cell_of_row Wb _ 0 _ _ _ JNb.out.ob; have o1 := cell_of_row Wb _ 1 _ _ _ JNb.out.ob
          have p0 := cell_of_row Wb _ 0 _ _ _ JNb.out.xb; have p1 := cell_of_row Wb _ 1 _ _ _ JNb.out.xb; have p2 := cell_of_row Wb _ 2 _ _ _ JNb.out.xb
          simp at o0 o1 p0 p1 p2
          have a0 : Wb.cell? ⟨bb, off + k * 3, none⟩ = some (.int .i64 y0) := (JNb.out.bw.cell (p := ⟨bb, off + k * 3, none⟩) (by have := D0.out; simp; omega)).trans D1.out
          have a1 : Wb.cell? ⟨bb, off + k * 3 + 1, none⟩ = some (.int .i64 y1) := (JNb.out.bw.cell (p := ⟨bb, off + k * 3 + 1, none⟩) (by have := D0.out; simp; omega)).trans D2.out
          have a2 : Wb.cell? ⟨bb, off + k * 3 + 2, none⟩ = some (.int .i64 y2) := (JNb.out.bw.cell (p := ⟨bb, off + k * 3 + 2, none⟩) (by have := D0.out; simp; omega)).trans D3.out
          have Y3c : Hid (Kept [] Wb (Wb.drew.alloc (.cells #[.int .i64 y0, .int .i64 y1, .int .i64 y2] 52))) := by
            have k := (Kept.refl [] Wb)
            exact (show Kept [] Wb Wb.drew from ⟨k.1.drew, k.2⟩).alloc _
          have O3c := Lib.hid (show OR 52 3 (Wb.drew.alloc (.cells #[.int .i64 y0, .int .i64 y1, .int .i64 y2] 52)) (w.heap.size + 3) (some ⟨g7b, 0, none⟩) (zb.length) capb (fl zb) from OR.kept JNb.out.ol Y3c.out (by simp))
          have NWc := Lib.hid (show ∀ j u, [Value.int .i64 y0, .int .i64 y1, .int .i64 y2][j]? = some u → (Wb.drew.alloc (.cells #[.int .i64 y0, .int .i64 y1, .int .i64 y2] 52)).cell? ((⟨Wb.heap.size, 0, none⟩ : Addr).add j) = some u from fun j u h => cell_three_new Wb.drew _ _ _ _ j u h)
          have Z3c := Lib.hid (show w.heap.size + 3 ≤ (Wb.drew.alloc (.cells #[.int .i64 y0, .int .i64 y1, .int .i64 y2] 52)).heap.size by have := JNb.out.sz; simp; omega)
          have XO3c := Lib.hid ((Y3c.out.2 (w.heap.size + 2) (Array.getElem?_eq_some_iff.1 JNb.out.ob).1 (by simp)).trans JNb.out.ob)
          have s5c : (Wb.alloc (.cells #[.int .i64 y0, .int .i64 y1, .int .i64 y2] 52)).cell? ⟨w.heap.size + 2, 1, none⟩ = some (.slice (some ⟨g7b, 0, none⟩) (zb.length) capb) := cell_of_row _ _ 1 _ _ _ XO3c.out
          try go_upto_region 10 with (fail)
          go_region_law (refine step_append_lies _ rfl (.tmp 53) (.tmp 61) 41 rfl (w.heap.size + 3) 52 i0 (.agg #[.int .i64 0, .int .i64 0, .int .i64 0]) 3 24 Try.underlying41 hi0 hz0 hz1 hz2 rfl (by decide) (.slice (some ⟨g7b, 0, none⟩) (zb.length) capb) (zb.length) _ rfl O3c.out ⟨Wb.heap.size, 0, none⟩ 1 1 [.int .i64 y0, .int .i64 y1, .int .i64 y2] rfl rfl NWc.out (by simp [Value.oneCell']) (by decide) (by have := MLc.out; unfold maxLen; omega) (by have := MLc.out; omega) Z3c.out _ rfl ?_; intro g7c capc w7c hown hgrow hat hlt; have K7c := Lib.hid ((hgrow.block (w.heap.size + 2) (Array.getElem?_eq_some_iff.1 XO3c.out).1 (or_own_ne XO3c.out (by decide) O3c.out)).trans XO3c.out); have y1c := cell_of_row w7c _ 1 _ _ _ K7c.out; have f7c := frozen_of_row w7c _ 1 _ _ K7c.out; simp at y1c; have HO7c := Lib.hid hown; have HG7c := Lib.hid hgrow; clear hown hgrow hat hlt)
          all_goals
            obtain ⟨zc, hzc⟩ : ∃ z, z = zb ++ [(y0, y1, y2)] := ⟨_, rfl⟩
            have JNc := Lib.hid (JS.more JNb.out Y3c.out HG7c.out HO7c.out)
            rw [← hzc] at JNc
            obtain ⟨Wc, hWc⟩ : ∃ W', W' = w7c.setCell ⟨w.heap.size + 2, 1, none⟩ (.slice (some ⟨g7c, 0, none⟩) (zb.length + 1) capc) := ⟨_, rfl⟩
            rw [← hWc] at JNc
            go_wp2_with fail
            go_roundw
            case rel => exact ⟨k + 1, some ⟨g7c, 0, none⟩, capc, by have := LT.out; omega, by go_num, by rw [GT.out], by rw [LV.out, ← hzc, ← hWc]; exact JNc.out⟩
            case measure => have := LT.out; simp [intOf]; omega
        · have LV := Lib.hid (JC'.out rfl hxy)
          have GT : Hid (gt5 (xs.take (k + 1)) (x0, x1, x2) = false) := by show _ = _; rw [GS.out]; simpa using hxy
          have MLc : Hid (ys.length ≤ 6) := MLk.out
          clear JA JB JC' GS
          obtain ⟨q0, q1⟩ := KS.out wr J.out.bw
          have o0 := cell_of_row wr _ 0 _ _ _ J.out.ob; have o1 := cell_of_row wr _ 1 _ _ _ J.out.ob
          have p0 := cell_of_row wr _ 0 _ _ _ J.out.xb; have p1 := cell_of_row wr _ 1 _ _ _ J.out.xb; have p2 := cell_of_row wr _ 2 _ _ _ J.out.xb
          simp at o0 o1 p0 p1 p2
          have a0 : wr.cell? ⟨bb, off + k * 3, none⟩ = some (.int .i64 y0) := (J.out.bw.cell (p := ⟨bb, off + k * 3, none⟩) (by have := D0.out; simp; omega)).trans D1.out
          have a1 : wr.cell? ⟨bb, off + k * 3 + 1, none⟩ = some (.int .i64 y1) := (J.out.bw.cell (p := ⟨bb, off + k * 3 + 1, none⟩) (by have := D0.out; simp; omega)).trans D2.out
          have a2 : wr.cell? ⟨bb, off + k * 3 + 2, none⟩ = some (.int .i64 y2) := (J.out.bw.cell (p := ⟨bb, off + k * 3 + 2, none⟩) (by have := D0.out; simp; omega)).trans D3.out
          go_upto_region 7 with (fail)
          go_quiet (fail)
          obtain ⟨wq, hwq⟩ : ∃ wq, wq = wr.drewN nq := ⟨_, rfl⟩
          have JQ : Hid (JS w wq b x0 x1 x2 A' c' ys) := by show JS _ _ _ _ _ _ _ _ _; rw [hwq]; exact J.out.drewN _
          rw [← hwq]
          clear hwq J q0 q1 o0 o1 p0 p1 p2 a0 a1 a2
          obtain ⟨q0, q1⟩ := KS.out wq JQ.out.bw
          have o0 := cell_of_row wq _ 0 _ _ _ JQ.out.ob; have o1 := cell_of_row wq _ 1 _ _ _ JQ.out.ob
          have p0 := cell_of_row wq _ 0 _ _ _ JQ.out.xb; have p1 := cell_of_row wq _ 1 _ _ _ JQ.out.xb; have p2 := cell_of_row wq _ 2 _ _ _ JQ.out.xb
          simp at o0 o1 p0 p1 p2
          have a0 : wq.cell? ⟨bb, off + k * 3, none⟩ = some (.int .i64 y0) := (JQ.out.bw.cell (p := ⟨bb, off + k * 3, none⟩) (by have := D0.out; simp; omega)).trans D1.out
          have a1 : wq.cell? ⟨bb, off + k * 3 + 1, none⟩ = some (.int .i64 y1) := (JQ.out.bw.cell (p := ⟨bb, off + k * 3 + 1, none⟩) (by have := D0.out; simp; omega)).trans D2.out
          have a2 : wq.cell? ⟨bb, off + k * 3 + 2, none⟩ = some (.int .i64 y2) := (JQ.out.bw.cell (p := ⟨bb, off + k * 3 + 2, none⟩) (by have := D0.out; simp; omega)).trans D3.out
          have Y3c : Hid (Kept [] wq (wq.drew.alloc (.cells #[.int .i64 y0, .int .i64 y1, .int .i64 y2] 52))) := by
            have k := (Kept.refl [] wq)
            exact (show Kept [] wq wq.drew from ⟨k.1.drew, k.2⟩).alloc _
          have O3c := Lib.hid (show OR 52 3 (wq.drew.alloc (.cells #[.int .i64 y0, .int .i64 y1, .int .i64 y2] 52)) (w.heap.size + 3) A' (ys.length) c' (fl ys) from OR.kept JQ.out.ol Y3c.out (by simp))
          have NWc := Lib.hid (show ∀ j u, [Value.int .i64 y0, .int .i64 y1, .int .i64 y2][j]? = some u → (wq.drew.alloc (.cells #[.int .i64 y0, .int .i64 y1, .int .i64 y2] 52)).cell? ((⟨wq.heap.size, 0, none⟩ : Addr).add j) = some u from fun j u h => cell_three_new wq.drew _ _ _ _ j u h)
          have Z3c := Lib.hid (show w.heap.size + 3 ≤ (wq.drew.alloc (.cells #[.int .i64 y0, .int .i64 y1, .int .i64 y2] 52)).heap.size by have := JQ.out.sz; simp; omega)
          have XO3c := Lib.hid ((Y3c.out.2 (w.heap.size + 2) (Array.getElem?_eq_some_iff.1 JQ.out.ob).1 (by simp)).trans JQ.out.ob)
          have s5c : (wq.alloc (.cells #[.int .i64 y0, .int .i64 y1, .int .i64 y2] 52)).cell? ⟨w.heap.size + 2, 1, none⟩ = some (.slice A' (ys.length) c') := cell_of_row _ _ 1 _ _ _ XO3c.out
          try go_upto_region 10 with (fail)
          go_region_law (refine step_append_lies _ rfl (.tmp 53) (.tmp 61) 41 rfl (w.heap.size + 3) 52 i0 (.agg #[.int .i64 0, .int .i64 0, .int .i64 0]) 3 24 Try.underlying41 hi0 hz0 hz1 hz2 rfl (by decide) (.slice A' (ys.length) c') (ys.length) _ rfl O3c.out ⟨wq.heap.size, 0, none⟩ 1 1 [.int .i64 y0, .int .i64 y1, .int .i64 y2] rfl rfl NWc.out (by simp [Value.oneCell']) (by decide) (by have := MLc.out; unfold maxLen; omega) (by have := MLc.out; omega) Z3c.out _ rfl ?_; intro g7c capc w7c hown hgrow hat hlt; have K7c := Lib.hid ((hgrow.block (w.heap.size + 2) (Array.getElem?_eq_some_iff.1 XO3c.out).1 (or_own_ne XO3c.out (by decide) O3c.out)).trans XO3c.out); have y1c := cell_of_row w7c _ 1 _ _ _ K7c.out; have f7c := frozen_of_row w7c _ 1 _ _ K7c.out; simp at y1c; have HO7c := Lib.hid hown; have HG7c := Lib.hid hgrow; clear hown hgrow hat hlt)
          all_goals
            obtain ⟨zc, hzc⟩ : ∃ z, z = ys ++ [(y0, y1, y2)] := ⟨_, rfl⟩
            have JNc := Lib.hid (JS.more JQ.out Y3c.out HG7c.out HO7c.out)
            rw [← hzc] at JNc
            obtain ⟨Wc, hWc⟩ : ∃ W', W' = w7c.setCell ⟨w.heap.size + 2, 1, none⟩ (.slice (some ⟨g7c, 0, none⟩) (ys.length + 1) capc) := ⟨_, rfl⟩
            rw [← hWc] at JNc
            go_wp2_with fail
            go_roundw
            case rel => exact ⟨k + 1, some ⟨g7c, 0, none⟩, capc, by have := LT.out; omega, by go_num, by rw [GT.out], by rw [LV.out, ← hzc, ← hWc]; exact JNc.out⟩
            case measure => have := LT.out; simp [intOf]; omega
    · obtain rfl : k = n := by omega
      have TKN : Hid (xs.take k = xs) := List.take_of_length_le (by have := HN.out; omega)
      rw [TKN.out] at J ⊢
      clear TKN
      have JT := Lib.hid (jl_t xs (x0, x1, x2))
      have JF := Lib.hid (jl_f xs (x0, x1, x2))
      have MLk := Lib.hid (show (jl5 xs (x0, x1, x2)).length ≤ 6 by
        have h1 := jl_len xs (x0, x1, x2)
        have h2 := HL5.out
        omega)
      obtain ⟨ys, hys⟩ : ∃ ys, ys = jl5 xs (x0, x1, x2) := ⟨_, rfl⟩
      rw [← hys] at J MLk JT JF
      clear hys
      obtain ⟨gb, hgb⟩ : ∃ gb, gb = gt5 xs (x0, x1, x2) := ⟨_, rfl⟩
      rw [← hgb] at JT JF ⊢
      clear hgb
      cases gb with
      | true =>
        have EQ := Lib.hid (JT.out rfl).symm
        have MLf : Hid (ys.length ≤ 6) := MLk.out
        clear JT JF
        have LE : Hid (∀ V, Below wr.heap.size wr V → Calls Try.prog 97 #[.slice A' ys.length c', .int .i64 b] V fun e w' => e = .returned (.int .i64 (bas ys b)) ∧ V = w') := fun V hV =>
          l5Least_any (w.heap.size + 3) wr.heap.size A' c' b ys V (by have := MLf.out; omega) (Sl.below (OR.sl0 J.out.ol) hV (Nat.le_refl _))
        obtain ⟨nb, hnb⟩ : ∃ nb, nb = bas ys b := ⟨_, rfl⟩
        rw [← hnb] at LE
        have HNB := Lib.hid hnb
        clear hnb
        obtain ⟨q0, q1⟩ := KS.out wr J.out.bw
        have o0 := cell_of_row wr _ 0 _ _ _ J.out.ob; have o1 := cell_of_row wr _ 1 _ _ _ J.out.ob
        have p0 := cell_of_row wr _ 0 _ _ _ J.out.xb; have p1 := cell_of_row wr _ 1 _ _ _ J.out.xb; have p2 := cell_of_row wr _ 2 _ _ _ J.out.xb
        simp at o0 o1 p0 p1 p2
        have fo0 := frozen_of_row wr _ 0 _ _ J.out.ob
        go_upto_region 13 with (fail)
        go_region_with (refine (LE.out _ (by first | exact Below.refl _ _ | exact Below.drew (Below.refl _ _))).mono ?_; rintro e9 w9 ⟨rfl, rfl⟩)
        all_goals
          obtain ⟨w8, hw8⟩ : ∃ w8, w8 = (wr.setCell ⟨w.heap.size + 2, 0, none⟩ (.int .i64 nb)).drew := ⟨_, rfl⟩
          rw [← hw8]
          have X8 : Hid (w8.heap[w.heap.size + 2]? = some (.cells #[.int .i64 nb, .slice A' ys.length c'] 43 (0, 0))) := by show _ = _; rw [hw8]; exact heap_setCell_same wr _ 0 _ _ _ J.out.ob
          have R8 : Hid (w8.heap[w.heap.size + 1]? = some (.cells #[.int .i64 0, .slice none 0 0] 43 (0, 0))) := by show _ = _; rw [hw8]; exact (Below.heap_setCell wr ⟨w.heap.size + 2, 0, none⟩ _ _ (by simp)).trans J.out.rb
          have O8 : Hid (OR 52 3 w8 (w.heap.size + 3) A' ys.length c' (fl ys)) := by rw [hw8]; exact OR.drewN (OR.setOther J.out.ol J.out.ob (by decide) 0 _) 1
          have B8 : Hid (Below w.heap.size w w8) := by rw [hw8]; exact (J.out.bw.setCell (p := ⟨w.heap.size + 2, 0, none⟩) (by simp) _).drew
          have t0 := cell_of_row w8 _ 0 _ _ _ X8.out; have t1 := cell_of_row w8 _ 1 _ _ _ X8.out
          have z0 := cell_of_row w8 _ 0 _ _ _ R8.out; have z1 := cell_of_row w8 _ 1 _ _ _ R8.out; have f0 := frozen_of_row w8 _ 0 _ _ R8.out; have f1 := frozen_of_row w8 _ 1 _ _ R8.out
          simp at t0 t1 z0 z1
          clear hw8 q0 q1 o0 o1 fo0 p0 p1 p2
          go_wp2
          refine bodyPost_ret (results_cell_row rfl _ _ (w.heap.size + 1) _ _ (0, 0) _ rfl (heap_setCell_same _ _ 1 _ _ _ (heap_setCell_same _ _ 0 _ _ _ R8.out)) Try.underlying43 rfl (by kernel_rfl)) rfl ?_
          refine ⟨A', c', by rw [EQ.out, ← HNB.out]; rfl, ?_, (B8.out.setCell (p := ⟨w.heap.size + 1, 0, none⟩) (by simp) _).setCell (p := ⟨w.heap.size + 1, 1, none⟩) (by simp) _⟩
          rw [EQ.out]
          exact OR.mono (OR.setOther (OR.setOther O8.out R8.out (by decide) 0 _) (heap_setCell_same _ _ 0 _ _ _ R8.out) (by decide) 1 _) (by omega)
      | false =>
        have EQ := Lib.hid (JF.out rfl).symm
        have MLb : Hid (ys.length ≤ 6) := MLk.out
        clear JT JF
        obtain ⟨q0, q1⟩ := KS.out wr J.out.bw
        have o0 := cell_of_row wr _ 0 _ _ _ J.out.ob; have o1 := cell_of_row wr _ 1 _ _ _ J.out.ob
        have p0 := cell_of_row wr _ 0 _ _ _ J.out.xb; have p1 := cell_of_row wr _ 1 _ _ _ J.out.xb; have p2 := cell_of_row wr _ 2 _ _ _ J.out.xb
        simp at o0 o1 p0 p1 p2
        have Y3b : Hid (Kept [] wr (wr.alloc (.cells #[.int .i64 x0, .int .i64 x1, .int .i64 x2] 52))) := by
          have k := (Kept.refl [] wr)
          exact (show Kept [] wr wr from k).alloc _
        have O3b := Lib.hid (show OR 52 3 (wr.alloc (.cells #[.int .i64 x0, .int .i64 x1, .int .i64 x2] 52)) (w.heap.size + 3) A' (ys.length) c' (fl ys) from OR.kept J.out.ol Y3b.out (by simp))
        have NWb := Lib.hid (show ∀ j u, [Value.int .i64 x0, .int .i64 x1, .int .i64 x2][j]? = some u → (wr.alloc (.cells #[.int .i64 x0, .int .i64 x1, .int .i64 x2] 52)).cell? ((⟨wr.heap.size, 0, none⟩ : Addr).add j) = some u from fun j u h => cell_three_new wr _ _ _ _ j u h)
        have Z3b := Lib.hid (show w.heap.size + 3 ≤ (wr.alloc (.cells #[.int .i64 x0, .int .i64 x1, .int .i64 x2] 52)).heap.size by have := J.out.sz; simp; omega)
        have XO3b := Lib.hid ((Y3b.out.2 (w.heap.size + 2) (Array.getElem?_eq_some_iff.1 J.out.ob).1 (by simp)).trans J.out.ob)
        have s5b : (wr.alloc (.cells #[.int .i64 x0, .int .i64 x1, .int .i64 x2] 52)).cell? ⟨w.heap.size + 2, 1, none⟩ = some (.slice A' (ys.length) c') := cell_of_row _ _ 1 _ _ _ XO3b.out
        go_upto_region 13 with (at_builtin; refine wpList_append_lies _ rfl (.tmp 67) (.tmp 69) 41 rfl (w.heap.size + 3) 52 i0 (.agg #[.int .i64 0, .int .i64 0, .int .i64 0]) 3 24 Try.underlying41 hi0 hz0 hz1 hz2 rfl (by decide) (.slice A' (ys.length) c') (ys.length) _ rfl O3b.out ⟨wr.heap.size, 0, none⟩ 1 1 [.int .i64 x0, .int .i64 x1, .int .i64 x2] rfl rfl NWb.out (by simp [Value.oneCell']) (by decide) (by have := MLb.out; unfold maxLen; omega) (by have := MLb.out; omega) Z3b.out _ rfl ?_; intro g7b capb w7b hown hgrow hat hlt; have K7b := Lib.hid ((hgrow.block (w.heap.size + 2) (Array.getElem?_eq_some_iff.1 XO3b.out).1 (or_own_ne XO3b.out (by decide) O3b.out)).trans XO3b.out); have y1b := cell_of_row w7b _ 1 _ _ _ K7b.out; have f7b := frozen_of_row w7b _ 1 _ _ K7b.out; simp at y1b; have HO7b := Lib.hid hown; have HG7b := Lib.hid hgrow; clear hown hgrow hat hlt)
        obtain ⟨zb, hzb⟩ : ∃ z, z = ys ++ [(x0, x1, x2)] := ⟨_, rfl⟩
        have JNb := Lib.hid (JS.more J.out Y3b.out HG7b.out HO7b.out)
        rw [← hzb] at JNb
        obtain ⟨Wb, hWb⟩ : ∃ W', W' = w7b.setCell ⟨w.heap.size + 2, 1, none⟩ (.slice (some ⟨g7b, 0, none⟩) (ys.length + 1) capb) := ⟨_, rfl⟩
        rw [← hWb] at JNb
        have HWb := Lib.hid hWb; have HZb := Lib.hid hzb
        have MLf : Hid (zb.length ≤ 7) := by show _ ≤ _; rw [hzb]; have := MLb.out; simp; omega
        clear hWb hzb q0 q1 o0 o1 p0 p1 p2 s5b
        rw [← HWb.out]
        rw [← HZb.out] at EQ
        clear HWb HZb
        have LE : Hid (∀ V, Below Wb.heap.size Wb V → Calls Try.prog 97 #[.slice (some ⟨g7b, 0, none⟩) zb.length capb, .int .i64 b] V fun e w' => e = .returned (.int .i64 (bas zb b)) ∧ V = w') := fun V hV =>
          l5Least_any (w.heap.size + 3) Wb.heap.size (some ⟨g7b, 0, none⟩) capb b zb V (by have := MLf.out; omega) (Sl.below (OR.sl0 JNb.out.ol) hV (Nat.le_refl _))
        obtain ⟨nb, hnb⟩ : ∃ nb, nb = bas zb b := ⟨_, rfl⟩
        rw [← hnb] at LE
        have HNB := Lib.hid hnb
        clear hnb
        obtain ⟨q0, q1⟩ := KS.out Wb JNb.out.bw
        have o0 := cell_of_row Wb _ 0 _ _ _ JNb.out.ob; have o1 := cell_of_row Wb _ 1 _ _ _ JNb.out.ob
        have p0 := cell_of_row Wb _ 0 _ _ _ JNb.out.xb; have p1 := cell_of_row Wb _ 1 _ _ _ JNb.out.xb; have p2 := cell_of_row Wb _ 2 _ _ _ JNb.out.xb
        simp at o0 o1 p0 p1 p2
        have fo0 := frozen_of_row Wb _ 0 _ _ JNb.out.ob
        go_region_with (refine (LE.out _ (by first | exact Below.refl _ _ | exact Below.drew (Below.refl _ _))).mono ?_; rintro e9 w9 ⟨rfl, rfl⟩)
        all_goals
          obtain ⟨w8, hw8⟩ : ∃ w8, w8 = (Wb.setCell ⟨w.heap.size + 2, 0, none⟩ (.int .i64 nb)).drew := ⟨_, rfl⟩
          rw [← hw8]
          have X8 : Hid (w8.heap[w.heap.size + 2]? = some (.cells #[.int .i64 nb, .slice (some ⟨g7b, 0, none⟩) zb.length capb] 43 (0, 0))) := by show _ = _; rw [hw8]; exact heap_setCell_same Wb _ 0 _ _ _ JNb.out.ob
          have R8 : Hid (w8.heap[w.heap.size + 1]? = some (.cells #[.int .i64 0, .slice none 0 0] 43 (0, 0))) := by show _ = _; rw [hw8]; exact (Below.heap_setCell Wb ⟨w.heap.size + 2, 0, none⟩ _ _ (by simp)).trans JNb.out.rb
          have O8 : Hid (OR 52 3 w8 (w.heap.size + 3) (some ⟨g7b, 0, none⟩) zb.length capb (fl zb)) := by rw [hw8]; exact OR.drewN (OR.setOther JNb.out.ol JNb.out.ob (by decide) 0 _) 1
          have B8 : Hid (Below w.heap.size w w8) := by rw [hw8]; exact (JNb.out.bw.setCell (p := ⟨w.heap.size + 2, 0, none⟩) (by simp) _).drew
          have t0 := cell_of_row w8 _ 0 _ _ _ X8.out; have t1 := cell_of_row w8 _ 1 _ _ _ X8.out
          have z0 := cell_of_row w8 _ 0 _ _ _ R8.out; have z1 := cell_of_row w8 _ 1 _ _ _ R8.out; have f0 := frozen_of_row w8 _ 0 _ _ R8.out; have f1 := frozen_of_row w8 _ 1 _ _ R8.out
          simp at t0 t1 z0 z1
          clear hw8 q0 q1 o0 o1 fo0 p0 p1 p2
          go_wp2
          refine bodyPost_ret (results_cell_row rfl _ _ (w.heap.size + 1) _ _ (0, 0) _ rfl (heap_setCell_same _ _ 1 _ _ _ (heap_setCell_same _ _ 0 _ _ _ R8.out)) Try.underlying43 rfl (by kernel_rfl)) rfl ?_
          refine ⟨(some ⟨g7b, 0, none⟩), capb, by rw [EQ.out, ← HNB.out]; rfl, ?_, (B8.out.setCell (p := ⟨w.heap.size + 1, 0, none⟩) (by simp) _).setCell (p := ⟨w.heap.size + 1, 1, none⟩) (by simp) _⟩
          rw [EQ.out]
          exact OR.mono (OR.setOther (OR.setOther O8.out R8.out (by decide) 0 _) (heap_setCell_same _ _ 0 _ _ _ R8.out) (by decide) 1 _) (by omega)

end Go.Proofs.Ytckapndpefkcgaa
