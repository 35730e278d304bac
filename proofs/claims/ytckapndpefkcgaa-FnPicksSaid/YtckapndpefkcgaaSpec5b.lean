/-
  The model's l5Find and l5Leave. No conditions beyond that the schedule can be read.
-/
import Derived.Deep.AppendLies
import Derived.Deep.RegionLaw
import Derived.Test.YtckapndpefkcgaaSpec5a
import Derived.Test.YtckapndpefkcgaaAns5
set_option maxHeartbeats 1000000
namespace Go.Proofs.Ytckapndpefkcgaa
open Go.RowKit
set_option maxRecDepth 100000

theorem mth_first {xs : List R3} {i : Int} {k : Nat} (h : k < xs.length) (hk : (g3 xs k).1 = i) : mth xs i ≠ none := fun e => mth_none.1 e _ (g3_mem h) hk
set_option maxHeartbeats 1000000 in
theorem l5Find_any (lo hi : Nat) (A : Option Addr) (c : Nat) (xs : List R3) (i : Int) (w : World) (hn : xs.length ≤ 1000000) (h : RS w lo hi A xs) :
    Calls Try.prog 90 #[.slice A xs.length c, .int .i64 i] w fun e w' => ∃ r : Int, e = .returned (.int .i64 r) ∧ (r < 0 ↔ mth xs i = none) ∧ w = w' := by
  have H := Lib.hid h
  obtain ⟨n, hn'⟩ : ∃ n, n = xs.length := ⟨_, rfl⟩
  have HN := Lib.hid hn'
  rw [← hn'] at hn ⊢
  clear h hn'
  go_enter Try.func90, Try.ntmps90
  go_wp2
  go_loop [5] (fun q => ∃ k : Nat, k ≤ n ∧ q = .int .i64 k ∧ ∀ j, j < k → (g3 xs j).1 ≠ i) (fun q => n - (intOf q).toNat)
  case atStart => exact ⟨0, Nat.zero_le _, rfl, fun j hj => absurd hj (by omega)⟩
  case round =>
    obtain ⟨k, hk, rfl, hs⟩ := hrel
    have HS := Lib.hid hs
    clear hs
    by_cases hlt : k < n
    · obtain ⟨bb, off, rfl, h1, h2, hc⟩ := RS.get H.out (i := k) (by have := HN.out; omega)
      have a0 := (hc k (by have := HN.out; omega)).1
      clear hc
      by_cases hx : (g3 xs k).1 = i
      · have F : Hid (mth xs i ≠ none) := mth_first (by have := HN.out; omega) hx
        clear H
        rw [hx] at a0
        clear hx
        go_wp2
        go_ret
        exact ⟨_, rfl, ⟨fun h => by omega, fun h => absurd h F.out⟩, rfl⟩
      · have GO : Hid (∀ j, j < k + 1 → (g3 xs j).1 ≠ i) := fun j hj => by
          rcases Nat.lt_succ_iff_lt_or_eq.1 hj with h | rfl
          · exact HS.out j h
          · exact hx
        clear H
        go_wp2
        go_round
        case rel => exact ⟨k + 1, by omega, by go_num, GO.out⟩
        case measure => simp [intOf]; omega
    · have F : Hid (mth xs i = none) := mth_none.2 fun x hx => by
        obtain ⟨j, hj, rfl⟩ := mem_g3 hx
        exact HS.out j (by have := HN.out; omega)
      go_wp2
      go_ret
      exact ⟨_, rfl, ⟨fun _ => F.out, fun _ => by omega⟩, rfl⟩
theorem or_own_ne {t t' : TypeId} {m : Nat} {w : World} {base n c s : Nat} {A : Option Addr} {hs : List Int} {cs : Array Value} (hk : w.heap[s]? = some (.cells cs t' (0, 0))) (ht : t ≠ t') (h : OR t m w base A n c hs) : some s ≠ (Value.slice A n c).ownBlock := by
  intro e
  rcases h.2 with ⟨h0, _⟩ | ⟨g', cap', cur, h0, _, hg, _⟩
  · injection h0 with h0 _ _; subst h0; cases e
  · injection h0 with h0 _ _
    subst h0
    have e' : s = g' := Option.some.inj e
    subst e'
    rw [hk] at hg
    injection hg with hg
    injection hg with _ hg _
    exact ht hg.symm
theorem below_append {t : TypeId} {m : Nat} {w0 w w7 : World} {base n c : Nat} {A : Option Addr} {hs : List Int} (hb : Below base w0 w) (hz : base ≤ w.heap.size) (h : OR t m w base A n c hs) (hg : w.grownBy w7 (Value.slice A n c).ownBlock) : Below base w0 w7 :=
  hb.grown hg hz fun k e => by
    rcases h.2 with ⟨h0, _⟩ | ⟨g', cap', cur, h0, hb', _⟩
    · injection h0 with h0 _ _; subst h0; cases e
    · injection h0 with h0 _ _
      subst h0
      have e' : g' = k := Option.some.inj e
      omega

def rst5 (b : Int) (xs : List R3) (i : Int) : Int := if mth xs i = none then 0 else pass5 xs i - b
theorem rst_snoc (b : Int) (xs : List R3) (x : R3) (i : Int) (h : ∀ y, y ∈ xs → y.1 ≠ x.1) : rst5 b (xs ++ [x]) i = if x.1 = i then x.2.2 - b else rst5 b xs i := by
  unfold rst5 pass5
  simp only [mth_snoc xs x h]
  by_cases e : i = x.1
  · subst e; simp
  · simp only [if_neg e]
    rw [if_neg (show ¬ x.1 = i from fun h => e h.symm)]
theorem results_row_tmp {P : Program} {fn : Func} {p u : Tmp} {ty : TypeId} (h : fn.results = #[.cell p ty, .tmp u]) (tmps : Array Value) (w : World) (g : Nat) (t : TypeId) (cs : Array Value) (fr : Nat × Nat) (d : TypeDesc)
    (hp : tmps.getD p undef = .pointer (some ⟨g, 0, none⟩)) (hg : w.heap[g]? = some (.cells cs t fr))
    (hu : P.underlying ty = some d) (hd : (match d with | .struct _ | .array _ _ => true | _ => false) = true) (hi : (P.info? ty).map (·.size) = some cs.size) :
    (results fn tmps).run P w = .ok (.tuple #[.agg cs, tmps.getD u undef]) w := by
  have hp' : tmps[p]?.getD undef = .pointer (some ⟨g, 0, none⟩) := by simpa using hp
  simp [results, h, hp', asAddr, run_loadVar_row w g t ty cs fr d hg hu hd hi, Result.andThen]
theorem lv_snoc (xs : List R3) (x : R3) (i : Int) : lv5 (xs ++ [x]) i = if x.1 = i then lv5 xs i else lv5 xs i ++ [x] := by
  unfold lv5
  rw [List.filter_append]
  by_cases e : x.1 = i
  · rw [if_pos e]; simp [e]
  · rw [if_neg e]; simp [e]
theorem Ris.new {xs : List R3} (h : Ris xs) {k : Nat} (hk : k < xs.length) : ∀ y, y ∈ xs.take k → y.1 ≠ (g3 xs k).1 := fun y hy => by
  have h3 : (xs.take (k + 1)).Pairwise fun a b => a.1 < b.1 := h.up.sublist (List.take_sublist _ _)
  rw [take_snoc xs k hk, List.pairwise_append] at h3
  have := h3.2.2 y hy (g3 xs k) (by simp)
  omega

set_option maxHeartbeats 8000000 in
theorem l5Leave_big (lo hi : Nat) (A : Option Addr) (c s0 : Nat) (b : Int) (xs : List R3) (i : Int) (w : World) (hr : Ris xs) (ho : anyTo xs.length (badR b xs) = false) (hb : 0 ≤ b ∧ b ≤ 100000000) (h : RS w lo hi A xs)
    (hs : w.heap[s0]? = some (.cells #[.int .i64 b, .slice A xs.length c] 43 (0, 0))) :
    Calls Try.prog 93 #[.pointer (some ⟨s0, 0, none⟩), .int .i64 i] w fun e w' => ∃ A' c', e = .returned (.tuple #[.agg #[.int .i64 (bas (lv5 xs i) b), .slice A' (lv5 xs i).length c'], .int .i64 (rst5 b xs i)]) ∧
      OR 52 3 w' w.heap.size A' (lv5 xs i).length c' (fl (lv5 xs i)) ∧ Below w.heap.size w w' := by
  have H := Lib.hid h.lt
  have HR := Lib.hid hr; have HO := Lib.hid ho; have HB := Lib.hid hb
  have HL5 := Lib.hid hr.len
  obtain ⟨n, hn'⟩ : ∃ n, n = xs.length := ⟨_, rfl⟩
  have HN := Lib.hid hn'
  have hn5 : n ≤ 5 := by have := HL5.out; omega
  rw [← hn'] at hs
  have S0 := Lib.hid (Array.getElem?_eq_some_iff.1 hs).1
  have KS : Hid (∀ W, Below w.heap.size w W → W.cell? ⟨s0, 0, none⟩ = some (.int .i64 b) ∧ W.cell? ⟨s0, 1, none⟩ = some (.slice A n c)) := fun W hW => by
    have j := (hW.block s0 S0.out).trans hs
    exact ⟨cell_of_row W _ 0 _ _ _ j, cell_of_row W _ 1 _ _ _ j⟩
  obtain ⟨w1, hw1⟩ : ∃ w1, w1 = (w.alloc (.cells #[.int .i64 0, .slice none 0 0] 43)).alloc (.cells #[.int .i64 0, .slice none 0 0] 43) := ⟨_, rfl⟩
  have K1 : Hid (w1.heap[w.heap.size]? = some (.cells #[.int .i64 0, .slice none 0 0] 43 (0, 0))) := by show _ = _; rw [hw1]; exact heap_alloc2_old w _ _
  have K2 : Hid (w1.heap[w.heap.size + 1]? = some (.cells #[.int .i64 0, .slice none 0 0] 43 (0, 0))) := by show _ = _; rw [hw1]; exact heap_alloc2_new w _ _
  have B1 : Hid (Below w.heap.size w w1) := by rw [hw1]; exact (below_new w _).alloc (by simp) _
  have HW1 := Lib.hid hw1
  clear hw1 h hr ho hb hn' hs
  go_enter Try.func93, Try.ntmps93
  go_upto_region 2 with (fail)
  rw [← HW1.out]
  clear HW1
  go_wp2
  go_loopw [7, 8] (fun q iv wr => ∃ (k : Nat) (A' : Option Addr) (c' : Nat), k ≤ n ∧ iv = .int .i64 k ∧ q = .int .i64 (rst5 b (xs.take k) i) ∧ wr.heap[w.heap.size + 1]? = some (.cells #[.int .i64 0, .slice A' (lv5 (xs.take k) i).length c'] 43 (0, 0)) ∧ wr.heap[w.heap.size]? = some (.cells #[.int .i64 0, .slice none 0 0] 43 (0, 0)) ∧ OR 52 3 wr w.heap.size A' (lv5 (xs.take k) i).length c' (fl (lv5 (xs.take k) i)) ∧ Below w.heap.size w wr) (fun _ iv _ => n - (intOf iv).toNat)
  case atStart => exact ⟨0, none, 0, Nat.zero_le _, rfl, rfl, K2.out, K1.out, OR.void _ _, B1.out⟩
  case round =>
    obtain ⟨k, A', c', hk, rfl, rfl, ho, hres, hol, hbw⟩ := hrel
    have XO := Lib.hid ho; have XR := Lib.hid hres; have OL := Lib.hid hol; have BW := Lib.hid hbw
    obtain ⟨q0, q1⟩ := KS.out wr hbw
    have o0 := cell_of_row wr _ 0 _ _ _ ho; have o1 := cell_of_row wr _ 1 _ _ _ ho
    simp at o0 o1
    clear ho hres hol
    by_cases hlt : k < n
    · have LT := Lib.hid hlt
      have hkx : k < xs.length := by have := HN.out; omega
      have NEW := Lib.hid (HR.out.new hkx)
      have RS1 := Lib.hid (rst_snoc b (xs.take k) (g3 xs k) i NEW.out)
      have LV1 := Lib.hid (lv_snoc (xs.take k) (g3 xs k) i)
      rw [← take_snoc xs k hkx] at RS1 LV1
      have OKX := Lib.hid (okR_mem HO.out (g3_mem hkx))
      have ML := Lib.hid (show (lv5 (xs.take k) i).length ≤ 5 by
        have h1 : (lv5 (xs.take k) i).length ≤ (xs.take k).length := List.length_filter_le _ _
        have h2 := HL5.out
        rw [List.length_take] at h1
        omega)
      obtain ⟨bb, off, rfl, e1, e2, hc⟩ := RS.get H.out (i := k) (by have := HN.out; omega)
      obtain ⟨d0, d1, d2⟩ := hc k (by have := HN.out; omega)
      have a0 : wr.cell? ⟨bb, off + k * 3, none⟩ = some (.int .i64 (g3 xs k).1) := (hbw.cell (p := ⟨bb, off + k * 3, none⟩) (by simp; omega)).trans d0
      have a1 : wr.cell? ⟨bb, off + k * 3 + 1, none⟩ = some (.int .i64 (g3 xs k).2.1) := (hbw.cell (p := ⟨bb, off + k * 3 + 1, none⟩) (by simp; omega)).trans d1
      have a2 : wr.cell? ⟨bb, off + k * 3 + 2, none⟩ = some (.int .i64 (g3 xs k).2.2) := (hbw.cell (p := ⟨bb, off + k * 3 + 2, none⟩) (by simp; omega)).trans d2
      clear hc d0 d1 d2
      obtain ⟨⟨x0, x1, x2⟩, hx⟩ : ∃ x : R3, x = g3 xs k := ⟨_, rfl⟩
      rw [← hx] at a0 a1 a2 RS1 LV1 OKX
      clear hx hbw NEW
      generalize lv5 (xs.take k) i = ys at *
      generalize rst5 b (xs.take k) i = rv5 at *
      by_cases he : x0 = i
      · have RS2 : Hid (rst5 b (xs.take (k + 1)) i = x2 - b) := by show _ = _; rw [RS1.out, if_pos he]
        have LV2 : Hid (lv5 (xs.take (k + 1)) i = ys) := by show _ = _; rw [LV1.out, if_pos he]
        have wr' : IntKind.i64.wrap (x2 - b) = x2 - b := IntWalk.i64_in _ (by
          have h1 := OKX.out
          unfold okR at h1
          simp at h1
          have := strd_in h1.1.2
          have := HB.out
          omega)
        subst he
        go_upto_region 7 with (fail)
        go_quiet (fail)
        go_wp2
        go_roundw
        case rel => exact ⟨k + 1, A', c', by have := LT.out; omega, by go_num, by rw [RS2.out], by rw [LV2.out]; exact XO.out, XR.out, by rw [LV2.out]; exact OR.drewN OL.out _, below_drewN BW.out _⟩
        case measure => have := LT.out; simp [intOf]; omega
      · have RS2 : Hid (rst5 b (xs.take (k + 1)) i = rv5) := by show _ = _; rw [RS1.out, if_neg he]
        have LV2 : Hid (lv5 (xs.take (k + 1)) i = ys ++ [(x0, x1, x2)]) := by show _ = _; rw [LV1.out, if_neg he]
        obtain ⟨i0, hi0, hz0, hz1, hz2⟩ := info_parts infoReady
        have Y3 : Hid (Kept [] wr (wr.drew.alloc (.cells #[.int .i64 x0, .int .i64 x1, .int .i64 x2] 52))) := by
          have k := (Kept.refl [] wr)
          exact (show Kept [] wr wr.drew from ⟨k.1.drew, k.2⟩).alloc _
        have O3 := Lib.hid (show OR 52 3 (wr.drew.alloc (.cells #[.int .i64 x0, .int .i64 x1, .int .i64 x2] 52)) w.heap.size A' ys.length c' (fl ys) from OR.kept OL.out Y3.out (by simp))
        have NW := Lib.hid (show ∀ j u, [Value.int .i64 x0, .int .i64 x1, .int .i64 x2][j]? = some u → (wr.drew.alloc (.cells #[.int .i64 x0, .int .i64 x1, .int .i64 x2] 52)).cell? ((⟨wr.heap.size, 0, none⟩ : Addr).add j) = some u from fun j u h => cell_three_new wr.drew _ _ _ _ j u h)
        have Z3 := Lib.hid (show w.heap.size ≤ (wr.drew.alloc (.cells #[.int .i64 x0, .int .i64 x1, .int .i64 x2] 52)).heap.size by have := BW.out.size; simp; omega)
        have XO3 := Lib.hid ((Y3.out.2 (w.heap.size + 1) (Array.getElem?_eq_some_iff.1 XO.out).1 (by simp)).trans XO.out)
        have s5 : (wr.alloc (.cells #[.int .i64 x0, .int .i64 x1, .int .i64 x2] 52)).cell? ⟨w.heap.size + 1, 1, none⟩ = some (.slice A' ys.length c') := cell_of_row _ _ 1 _ _ _ XO3.out
        go_upto_region 8 with (fail)
        go_region_law (refine step_append_lies _ rfl (.tmp 43) (.tmp 51) 41 rfl w.heap.size 52 i0 (.agg #[.int .i64 0, .int .i64 0, .int .i64 0]) 3 24 Try.underlying41 hi0 hz0 hz1 hz2 rfl (by decide) _ ys.length _ rfl O3.out ⟨wr.heap.size, 0, none⟩ 1 1 [.int .i64 x0, .int .i64 x1, .int .i64 x2] rfl rfl NW.out (by simp [Value.oneCell']) (by decide) (by have := ML.out; unfold maxLen; omega) (by have := ML.out; omega) Z3.out _ rfl ?_; intro g7 cap w7 hown hgrow hat hlt; have K7 := Lib.hid ((hgrow.block (w.heap.size + 1) (Array.getElem?_eq_some_iff.1 XO3.out).1 (or_own_ne XO3.out (by decide) O3.out)).trans XO3.out); have y1 := cell_of_row w7 _ 1 _ _ _ K7.out; have f7 := frozen_of_row w7 _ 1 _ _ K7.out; simp at y1; have HO7 := Lib.hid hown; have HG7 := Lib.hid hgrow; clear hown hgrow hat hlt)
        all_goals
          have BY : Below w.heap.size w (wr.drew.alloc (.cells #[.int .i64 x0, .int .i64 x1, .int .i64 x2] 52)) := (BW.out.drew).alloc BW.out.size _
          have B7 := Lib.hid (below_append BY Z3.out O3.out HG7.out)
          clear BY
          go_wp2_with fail
          go_roundw
          case rel =>
            have ho := HO7.out
            rw [show vals (fl ys) ++ [Value.int .i64 x0, .int .i64 x1, .int .i64 x2] = vals (fl (ys ++ [(x0, x1, x2)])) by simp [vals, fl_snoc]] at ho
            have ho : OR 52 3 w7 w.heap.size (some ⟨g7, 0, none⟩) (ys.length + 1) cap (fl (ys ++ [(x0, x1, x2)])) := ho
            refine ⟨k + 1, some ⟨g7, 0, none⟩, cap, by have := LT.out; omega, by go_num, by rw [RS2.out], ?_, ?_, ?_, ?_⟩
            · rw [LV2.out]; simp only [List.length_append, List.length_singleton]; exact heap_setCell_same w7 _ 1 _ _ _ K7.out
            · rw [Below.heap_setCell _ _ _ _ (by simp)]
              have XR3 := (Y3.out.2 w.heap.size (Array.getElem?_eq_some_iff.1 XR.out).1 (by simp)).trans XR.out
              exact (HG7.out.block w.heap.size (Array.getElem?_eq_some_iff.1 XR3).1 (or_own_ne XR3 (by decide) O3.out)).trans XR3
            · rw [LV2.out]; simp only [List.length_append, List.length_singleton]; exact OR.setOther ho K7.out (by decide) 1 _
            · exact B7.out.setCell (p := ⟨w.heap.size + 1, 1, none⟩) (by simp) _
          case measure => have := LT.out; simp [intOf]; omega
    · obtain rfl : k = n := by omega
      have TKN : Hid (xs.take k = xs) := List.take_of_length_le (by have := HN.out; omega)
      have ML := Lib.hid (show (lv5 xs i).length ≤ 5 by
        have h1 : (lv5 xs i).length ≤ xs.length := List.length_filter_le _ _
        have h2 := HL5.out
        omega)
      rw [TKN.out] at XO OL o1 ⊢
      clear TKN hbw
      obtain ⟨ys, hys⟩ : ∃ ys, ys = lv5 xs i := ⟨_, rfl⟩
      obtain ⟨rv5, hrv⟩ : ∃ r, r = rst5 b xs i := ⟨_, rfl⟩
      rw [← hys] at XO OL o1 ML
      rw [← hrv]
      have HYS := Lib.hid hys; have HRV := Lib.hid hrv
      clear hys hrv
      have LE : Hid (∀ W, Below wr.heap.size wr W → Calls Try.prog 97 #[.slice A' ys.length c', .int .i64 b] W fun e w' => e = .returned (.int .i64 (bas ys b)) ∧ W = w') := fun W hW =>
        l5Least_any w.heap.size wr.heap.size A' c' b ys W (by have := ML.out; omega) (Sl.below (OR.sl0 OL.out) hW (Nat.le_refl _))
      obtain ⟨nb, hnb⟩ : ∃ nb, nb = bas ys b := ⟨_, rfl⟩
      rw [← hnb] at LE
      have HNB := Lib.hid hnb
      clear hnb
      have fo0 := frozen_of_row wr _ 0 _ _ XO.out
      go_upto_region 9 with (fail)
      go_region_with (refine (LE.out _ (by first | exact Below.refl _ _ | exact Below.drew (Below.refl _ _))).mono ?_; rintro e9 w9 ⟨rfl, rfl⟩)
      all_goals
        obtain ⟨w8, hw8⟩ : ∃ w8, w8 = (wr.setCell ⟨w.heap.size + 1, 0, none⟩ (.int .i64 nb)).drew := ⟨_, rfl⟩
        rw [← hw8]
        have X8 : Hid (w8.heap[w.heap.size + 1]? = some (.cells #[.int .i64 nb, .slice A' ys.length c'] 43 (0, 0))) := by show _ = _; rw [hw8]; exact heap_setCell_same wr _ 0 _ _ _ XO.out
        have R8 : Hid (w8.heap[w.heap.size]? = some (.cells #[.int .i64 0, .slice none 0 0] 43 (0, 0))) := by show _ = _; rw [hw8]; exact (Below.heap_setCell wr ⟨w.heap.size + 1, 0, none⟩ _ _ (by simp)).trans XR.out
        have O8 : Hid (OR 52 3 w8 w.heap.size A' ys.length c' (fl ys)) := by rw [hw8]; exact OR.drewN (OR.setOther OL.out XO.out (by decide) 0 _) 1
        have B8 : Hid (Below w.heap.size w w8) := by rw [hw8]; exact (BW.out.setCell (p := ⟨w.heap.size + 1, 0, none⟩) (by simp) _).drew
        have x0 := cell_of_row w8 _ 0 _ _ _ X8.out; have x1 := cell_of_row w8 _ 1 _ _ _ X8.out
        have z0 := cell_of_row w8 _ 0 _ _ _ R8.out; have z1 := cell_of_row w8 _ 1 _ _ _ R8.out; have f0 := frozen_of_row w8 _ 0 _ _ R8.out; have f1 := frozen_of_row w8 _ 1 _ _ R8.out
        simp at x0 x1 z0 z1
        clear hw8 q0 q1 o0 o1 fo0
        go_wp2
        refine bodyPost_ret (results_row_tmp rfl _ _ w.heap.size _ _ (0, 0) _ rfl (heap_setCell_same _ _ 1 _ _ _ (heap_setCell_same _ _ 0 _ _ _ R8.out)) Try.underlying43 rfl (by kernel_rfl)) rfl ?_
        refine ⟨A', c', by rw [← HYS.out, ← HRV.out, ← HNB.out]; rfl, ?_, (B8.out.setCell (p := ⟨w.heap.size, 0, none⟩) (Nat.le_refl _) _).setCell (p := ⟨w.heap.size, 1, none⟩) (Nat.le_refl _) _⟩
        rw [← HYS.out]
        exact OR.setOther (OR.setOther O8.out R8.out (by decide) 0 _) (heap_setCell_same _ _ 0 _ _ _ R8.out) (by decide) 1 _

end Go.Proofs.Ytckapndpefkcgaa
