/-
  What the program's MutedEvents is made of: a copy of events, whether one is a tick, and the copy beside an audit. No conditions beyond that the events can be read.
-/
import Derived.BigQuiet
import Derived.StillTailTactics
import Derived.Laws.CopyOwn
import Derived.Test.YtckapndpefkcgaaGreatMuteS9
import Derived.Test.YtckapndpefkcgaaGreatActs9
set_option maxHeartbeats 1000000
namespace Go.Proofs.YtckapndpefkcgaaGreat
open Go.RowKit
set_option maxRecDepth 100000

set_option maxHeartbeats 1000000 in
theorem cloneV_any (lo hi : Nat) (A : Option Addr) (n c : Nat) (xs : List Int) (w : World) (hn : n * 56 ≤ 140737488351232) (ex : xs.length = n * 7) (hA : A = none → c = 0) (h : Sl w lo hi A (n * 7) (fun k => .int .i64 (gi xs k))) :
    Calls Tryz.prog 59 #[.slice A n c] w fun e w' => ∃ A' c', e = .returned (.slice A' n c') ∧ OR 57 7 w' w.heap.size A' n c' xs ∧ Below w.heap.size w w' := by
  have H := Lib.hid h
  have EX := Lib.hid ex
  have HA := Lib.hid hA
  clear h ex hA
  obtain ⟨i0, hi0, hz0, hz1, hz2⟩ := info_parts Tryz.info_EventD
  have own0 : Hid ((w.alloc (.cells #[] 57)).ownsRow w.heap.size 57 7 (.slice (some ⟨w.heap.size, 0, none⟩) 0 0) 0 []) :=
    ⟨rfl, .inr ⟨w.heap.size, 0, #[], rfl, Nat.le_refl _, heap_alloc_new _ _, Nat.le_refl _, by simp [maxLen], rfl, rfl⟩⟩
  have b0 : Hid (Below w.heap.size w (w.alloc (.cells #[] 57))) := (Below.refl _ _).alloc (Nat.le_refl _) _
  rcases A with _ | ad
  · have hn0 : n = 0 := by
      rcases Nat.eq_zero_or_pos n with h0 | h0
      · exact h0
      · obtain ⟨_, _, hx, _⟩ := H.out 0 (by omega)
        cases hx
    subst hn0
    obtain rfl := HA.out rfl
    obtain rfl : xs = [] := by have := EX.out; simpa using this
    have hnl : ∀ W, (binOp .eql 24 (.slice none 0 0) (.slice none 0 0)).run Tryz.prog W = .ok (.bool true) W := fun W => by first | rfl | kernel_rfl | simp [go_sem, Tryz.underlying24]
    go_enter Tryz.func59, Tryz.ntmps59
    go_wp2
    go_ret
    first | exact ⟨none, 0, rfl, OR.void _ _, Below.refl _ _⟩ | exact ⟨⟨none, 0, rfl, OR.void _ _⟩, Below.refl _ _⟩ | exact ⟨none, ⟨0, rfl, OR.void _ _⟩, Below.refl _ _⟩ | exact ⟨none, 0, ⟨rfl, OR.void _ _⟩, Below.refl _ _⟩
  · have NW : Hid (∀ j u, (vals xs)[j]? = some u → (w.alloc (.cells #[] 57)).cell? (ad.add j) = some u) := by
      intro j u hu
      have hj : j < xs.length := by have := (List.getElem?_eq_some_iff.1 hu).1; simpa [vals] using this
      rw [vals_get xs j hj] at hu
      injection hu with hu
      subst hu
      obtain ⟨b, off, hx, h1, h2, hc⟩ := (H.out.lt) j (by rw [← EX.out]; exact hj)
      injection hx with hx
      subst hx
      rw [Go.WideShapes.add_plain]
      exact (b0.out.cell (p := ⟨b, off + j, none⟩) (by simp; omega)).trans hc
    have ON : Hid (∀ u ∈ vals xs, u.oneCell' = true) := by
      intro u hu
      simp only [vals, List.mem_map] at hu
      obtain ⟨_, _, rfl⟩ := hu
      rfl
    have LN : Hid ((vals xs).length = n * 7) := by simp [Hid, vals, EX.out]
    have hnl : ∀ W, (binOp .eql 24 (.slice (some ad) n c) (.slice none 0 0)).run Tryz.prog W = .ok (.bool false) W := fun W => by first | rfl | kernel_rfl | simp [go_sem, Tryz.underlying24]
    go_enter Tryz.func59, Tryz.ntmps59
    go_wp2_with (at_builtin; refine wpList_append_own _ rfl (.tmp 5) (.tmp 6) 24 rfl w.heap.size 57 i0 (.agg #[.int .i64 0, .int .i64 0, .int .i64 0, .int .i64 0, .int .i64 0, .int .i64 0, .int .i64 0]) 7 56 Tryz.underlying24 hi0 hz0 hz1 hz2 rfl (by decide) _ 0 [] rfl own0.out ad n c (vals xs) rfl LN.out NW.out ON.out (by unfold maxLen; omega) (by omega) b0.out.size ?_; intro v' w1 hown hgrow _; have HO := Lib.hid hown; have HG := Lib.hid hgrow; clear hown hgrow)
    go_ret
    have hb : Below w.heap.size w w1 := b0.out.grown HG.out b0.out.size (fun k hk => by have hk' : some w.heap.size = some k := hk; injection hk' with e; omega)
    have ho := HO.out
    simp only [Nat.zero_add, List.nil_append] at ho
    obtain ⟨A', c', rfl, ho⟩ := or_of3 ho
    exact ⟨A', c', rfl, ho, hb⟩

theorem gi_left9 (a b : List Int) (i : Nat) (h : i < a.length) : gi (a ++ b) i = gi a i := by
  unfold gi
  simp [List.getD_eq_getElem?_getD, List.getElem?_append_left h]
theorem gi_right9 (a b : List Int) (i : Nat) : gi (a ++ b) (a.length + i) = gi b i := by
  unfold gi
  simp [List.getD_eq_getElem?_getD, List.getElem?_append_right]
theorem isTick9_any (a0 a1 a2 a3 a4 a5 a6 : Int) (w : World) :
    Calls Tryz.prog 60 #[.agg #[.int .i64 a0, .int .i64 a1, .int .i64 a2, .int .i64 a3, .int .i64 a4, .int .i64 a5, .int .i64 a6]] w fun e w' => e = .returned (.bool (decide (evf a0 a1 a2 a3 a4 a5 a6 = 0 ∧ a0 = 1))) ∧ Below w.heap.size w w' := by
  obtain ⟨w1, hw1⟩ : ∃ w1, w1 = w.alloc (.cells #[.int .i64 a0, .int .i64 a1, .int .i64 a2, .int .i64 a3, .int .i64 a4, .int .i64 a5, .int .i64 a6] 57) := ⟨_, rfl⟩
  have K1 : Hid (w1.heap[w.heap.size]? = some (.cells #[.int .i64 a0, .int .i64 a1, .int .i64 a2, .int .i64 a3, .int .i64 a4, .int .i64 a5, .int .i64 a6] 57 (0, 0))) := by show _ = _; rw [hw1]; exact heap_alloc_new w _
  have B1 : Hid (Below w.heap.size w w1) := by rw [hw1]; exact below_new w _
  have EF := Lib.hid (fun W => implEventFault_any a0 a1 a2 a3 a4 a5 a6 W)
  obtain ⟨q, hq⟩ : ∃ q, q = evf a0 a1 a2 a3 a4 a5 a6 := ⟨_, rfl⟩
  rw [← hq] at EF ⊢
  have HW1 := Lib.hid hw1
  clear hw1 hq
  go_enter Tryz.func60, Tryz.ntmps60
  go_upto_region 1 with (fail)
  rw [← HW1.out]
  clear HW1
  have kb := K1.out
  have v0 := cell_of_row w1 _ 0 _ _ _ kb; have v1 := cell_of_row w1 _ 1 _ _ _ kb; have v2 := cell_of_row w1 _ 2 _ _ _ kb; have v3 := cell_of_row w1 _ 3 _ _ _ kb; have v4 := cell_of_row w1 _ 4 _ _ _ kb; have v5 := cell_of_row w1 _ 5 _ _ _ kb; have v6 := cell_of_row w1 _ 6 _ _ _ kb
  simp at v0 v1 v2 v3 v4 v5 v6
  clear kb
  by_cases e1 : a0 = 1
  case neg =>
    have y1 : (a0 == 1) = false := by simp [e1]
    have E : Hid (decide (q = 0 ∧ a0 = 1) = false) := by show _ = _; simp [e1]
    clear e1
    go_wp2
    go_ret
    exact ⟨ret_bool E.out.symm, B1.out⟩
  have y1 : (a0 == 1) = true := by simp [e1]
  have E : Hid (decide (q = 0 ∧ a0 = 1) = (q == 0)) := by show _ = _; by_cases h0 : q = 0 <;> simp [e1, h0]
  clear e1
  go_wp2_with fail
  refine (EF.out w1).mono ?_
  rintro e w2 ⟨rfl, hb⟩
  have B2 := Lib.hid (B1.out.trans (hb.mono B1.out.size))
  clear hb v0 v1 v2 v3 v4 v5 v6 EF
  go_wp2
  go_ret
  exact ⟨ret_bool E.out.symm, B2.out⟩

def GQ (x : Nat → Int) (n : Nat) (us : Array Value) (es : List Int) (k : Nat) : Prop :=
  es.length = k * 7 ∧ (∀ j, j < k * 7 → us[j]? = some (.int .i64 (gi es j))) ∧ ∀ j, k * 7 ≤ j → j < n * 7 → us[j]? = some (.int .i64 (x j))
theorem GQ.step {x : Nat → Int} {n : Nat} {us : Array Value} {es : List Int} {k : Nat} (h : GQ x n us es k) (hk : k < n) {us' : Array Value} {e1 e2 : Int} (h1 : us'[k * 7 + 1]? = some (.int .i64 e1)) (h2 : us'[k * 7 + 2]? = some (.int .i64 e2)) (hh : ∀ j, j ≠ k * 7 + 1 → j ≠ k * 7 + 2 → us'[j]? = us[j]?) :
    GQ x n us' (es ++ [x (k * 7), e1, e2, x (k * 7 + 3), x (k * 7 + 4), x (k * 7 + 5), x (k * 7 + 6)]) (k + 1) := by
  obtain ⟨hl, ha, hb⟩ := h
  refine ⟨by simp [hl]; omega, fun j hj => ?_, fun j h3 h4 => ?_⟩
  · by_cases hlt : j < k * 7
    · rw [hh j (by omega) (by omega), ha j hlt, gi_left9 _ _ _ (by omega)]
    · obtain ⟨i, rfl⟩ : ∃ i, j = k * 7 + i := ⟨j - k * 7, by omega⟩
      have hi : i < 7 := by omega
      have e := gi_right9 es [x (k * 7), e1, e2, x (k * 7 + 3), x (k * 7 + 4), x (k * 7 + 5), x (k * 7 + 6)] i
      rw [hl] at e
      rw [e]
      have hx : ∀ i, i < 7 → us[k * 7 + i]? = some (.int .i64 (x (k * 7 + i))) := fun i hi => hb _ (by omega) (by omega)
      rcases i with _ | _ | _ | _ | _ | _ | _ | i
      · rw [hh _ (by omega) (by omega)]; exact hx 0 (by omega)
      · exact h1
      · exact h2
      · rw [hh _ (by omega) (by omega)]; exact hx 3 (by omega)
      · rw [hh _ (by omega) (by omega)]; exact hx 4 (by omega)
      · rw [hh _ (by omega) (by omega)]; exact hx 5 (by omega)
      · rw [hh _ (by omega) (by omega)]; exact hx 6 (by omega)
      · omega
  · rw [hh j (by omega) (by omega)]
    exact hb j (by omega) h4
theorem LoopA.setG {w W : World} {h : Nat} {p : Kp} {K : Ker} {A4 : Option Addr} {k c4 : Nat} {cs : List Int} {A5 : Option Addr} {m c5 : Nat} {ns : List Int} {ev : Int} {b : Nat} {us us' : Array Value} (J : LoopA w W h p K A4 k c4 cs A5 m c5 ns ev ⟨none, 0, 0, [], some b, 57, us⟩) {W1 : World} (kk : Kept [b] W W1) (hk : W1.heap[b]? = some (.cells us' 57 (0, 0))) : LoopA w W1 h p K A4 k c4 cs A5 m c5 ns ev ⟨none, 0, 0, [], some b, 57, us'⟩ := by
  obtain ⟨x1, hx1⟩ := mine_blk J.own.m1 (by have := J.n1; omega)
  obtain ⟨x2, hx2⟩ := mine_blk J.own.m2 (by decide)
  obtain ⟨x3, hx3⟩ := mine_blk J.own.m3 (by decide)
  obtain ⟨hb0, hbk, ht⟩ := J.ob b rfl
  have keep : ∀ {b' : Nat} {cs' : Array Value} {t : TypeId}, W.heap[b']? = some (.cells cs' t (0, 0)) → t ≠ 57 → W1.heap[b']? = W.heap[b']? := fun h1 h2 => kk.2 _ (Array.getElem?_eq_some_iff.1 h1).1 (by
    simp only [List.mem_cons, List.not_mem_nil, or_false]
    exact blk_ne h1 hbk h2)
  refine ⟨J.own.keepB (keep hx1 (by decide)) (keep hx2 (by decide)) (keep hx3 (by decide)), J.n1, (keep J.box (by decide)).trans J.box, J.oc.keepAll (fun b' e => ?_), J.on.keepAll (fun b' e => ?_), J.ap, J.lo, J.bw.trans (kk.below J.bw.size fun b' hb' => ?_), OR.void _ _, (fun b e => by cases e), fun b' e => ?_⟩
  · have hoc := J.oc
    rw [e] at hoc
    obtain ⟨_, hx⟩ := or_blk hoc
    exact keep hx (by decide)
  · have hoc := J.on
    rw [e] at hoc
    obtain ⟨_, hx⟩ := or_blk hoc
    exact keep hx (by decide)
  · simp only [List.mem_cons, List.not_mem_nil, or_false] at hb'
    subst hb'
    exact hb0
  · have e : some b = some b' := e
    injection e with e
    subst e
    exact ⟨hb0, hk, ht⟩
theorem finG {w W : World} {n c : Nat} {A : Option Addr} {ts : List Int} {r : Int × List Int} {u0 u1 : Value} (hr : r = (0, ts)) (hl : ts.length = n * 7) (hA : A = none → c = 0) (hg : n = 0 ∨ ∃ gb us, A = some ⟨gb, 0, none⟩ ∧ w.heap.size < gb ∧ W.heap[gb]? = some (.cells us 57 (0, 0)) ∧ ∀ j, j < n * 7 → us[j]? = some (.int .i64 (gi ts j)))
    (bw : Below w.heap.size w W) (hk : W.heap[w.heap.size]? = some (.cells #[u0, u1] 46 (0, 0))) :
    AnsM r w (.returned (.agg #[.int .i64 0, .slice A n c])) ((W.setCell ⟨w.heap.size, 0, none⟩ (.int .i64 0)).setCell ⟨w.heap.size, 1, none⟩ (.slice A n c)) := by
  subst hr
  refine ⟨A, n, c, rfl, hl, hA, ?_, (bw.setCell (Nat.le_refl _) _).setCell (Nat.le_refl _) _⟩
  rcases hg with rfl | ⟨gb, us, rfl, h1, h2, h3⟩
  · exact .inl (by omega)
  · have hne : gb ≠ w.heap.size := by omega
    have hlt := (Array.getElem?_eq_some_iff.1 h2).1
    refine .inr ⟨gb, 0, rfl, by omega, by simpa using hlt, us, ((Below.heap_setCell _ ⟨w.heap.size, 1, none⟩ _ _ hne).trans (Below.heap_setCell _ ⟨w.heap.size, 0, none⟩ _ _ hne)).trans h2, fun j hj => ?_⟩
    rw [Nat.zero_add]
    exact h3 j hj

end Go.Proofs.YtckapndpefkcgaaGreat
