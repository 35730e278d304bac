/-
  The program's faults of chapter 1 (VectorFault, envsFault, slotFault): each answers as Math1 says.
-/
import Derived.Laws.CopyOwn
import Derived.Test.YtckapndpefkcgaaGreatSpec1
set_option maxHeartbeats 1000000

namespace Go.Proofs.YtckapndpefkcgaaGreat
open Go.RowKit

def VecIs (cs : Array Value) (xs : List Int) : Prop := cs.size = 13 ∧ xs.length ≤ 12 ∧ (∀ k, k < 12 → cs[k]? = some (.int .i64 (gi xs k))) ∧ cs[12]? = some (.int .i64 xs.length)

theorem VecIs.one {cs : Array Value} {xs : List Int} (h : VecIs cs xs) : cs.all (·.oneCell') = true := by
  obtain ⟨h1, _, h2, h3⟩ := h
  rw [Array.all_eq_true]
  intro i hi
  by_cases h12 : i < 12
  · have := h2 i h12
    rw [Array.getElem?_eq_getElem hi] at this
    injection this with this
    rw [this]; rfl
  · obtain rfl : i = 12 := by omega
    rw [Array.getElem?_eq_getElem hi] at h3
    injection h3 with h3
    rw [h3]; rfl
theorem VecIs.set {cs : Array Value} {xs : List Int} (h : VecIs cs xs) {k : Nat} (hk : k < xs.length) (v : Int) : VecIs (cs.setIfInBounds k (.int .i64 v)) (xs.set k v) := by
  obtain ⟨h1, h0, h2, h3⟩ := h
  refine ⟨by simpa using h1, by simpa using h0, fun j hj => ?_, ?_⟩
  · rw [Array.getElem?_setIfInBounds, gi_set]
    by_cases e : k = j
    · subst e
      rw [if_pos rfl, if_pos (by omega), if_pos ⟨rfl, hk⟩]
    · rw [if_neg e, if_neg (fun h => e h.1.symm)]
      exact h2 j hj
  · rw [Array.getElem?_setIfInBounds, if_neg (by omega), h3]
    simp

theorem Tryz.size_vec : (Tryz.prog.info? 168).map (·.size) = some 13 := by kernel_rfl

theorem with_any (cs : Array Value) (xs : List Int) (k : Nat) (v : Int) (w : World) (hv : VecIs cs xs) (hk : k < xs.length) :
    Calls Tryz.prog 134 #[.agg cs, .int .i64 k, .int .i64 v] w fun e w' => e = .returned (.agg (cs.setIfInBounds k (.int .i64 v))) ∧ Below w.heap.size w w' := by
  have hck := hv.2.2.1 k (by have := hv.2.1; omega)
  have h12 : k < 12 := by have := hv.2.1; omega
  have SZ : Hid ((cs.setIfInBounds k (.int .i64 v)).size = 13) := (hv.set hk v).1
  have ONE := Lib.hid (hv.set hk v).one
  clear hv hk
  go_enter Tryz.func134, Tryz.ntmps134
  go_wp2_with (first
    | (refine wpList_load_row rfl 168 (.tmp 3) rfl w.heap.size rfl _ (cs.setIfInBounds k (.int .i64 v)) (0, 0) _ (heap_alloc2_old w _ _) Tryz.underlying168 rfl (by rw [SZ.out]; exact Tryz.size_vec) ?_)
    | (refine wpList_store_row rfl 168 (.tmp 6) (.tmp 11) rfl (w.heap.size + 1) (cs.setIfInBounds k (.int .i64 v)) rfl rfl _ _ (heap_alloc2_new w _ _) (by rw [SZ.out]; exact Tryz.size_vec) SZ.out.symm ONE.out ?_))
  refine bodyPost_ret (results_cell_row rfl _ _ (w.heap.size + 1) _ (cs.setIfInBounds k (.int .i64 v)) (0, 0) _ rfl (setRow_heap _ _ _ _ _ _ (heap_alloc2_new w _ _)) Tryz.underlying168 rfl (by rw [SZ.out]; exact Tryz.size_vec)) rfl ⟨rfl, ?_⟩
  exact below_setRow ((below_new w _).alloc (by simp) _) (by omega) _

def zv (n : Nat) : List Value := [.int .i64 0, .int .i64 0, .int .i64 0, .int .i64 0, .int .i64 0, .int .i64 0, .int .i64 0, .int .i64 0, .int .i64 0, .int .i64 0, .int .i64 0, .int .i64 0, .int .i64 n]
theorem zv_get (n k : Nat) (h : k < 12) : (zv n)[k]? = some (.int .i64 0) := by
  rcases (show k = 0 ∨ k = 1 ∨ k = 2 ∨ k = 3 ∨ k = 4 ∨ k = 5 ∨ k = 6 ∨ k = 7 ∨ k = 8 ∨ k = 9 ∨ k = 10 ∨ k = 11 by omega) with rfl | rfl | rfl | rfl | rfl | rfl | rfl | rfl | rfl | rfl | rfl | rfl <;> rfl
theorem vec_splice (xs : List Int) (h : xs.length ≤ 12) : VecIs (splice (zv xs.length) 0 (vals xs)).toArray xs := by
  have hl : (vals xs).length = xs.length := by simp [vals]
  have e : splice (zv xs.length) 0 (vals xs) = vals xs ++ (zv xs.length).drop xs.length := by simp [splice, hl]
  have hz : (zv xs.length).length = 13 := rfl
  rw [e]
  refine ⟨by simp [hl, hz]; omega, h, fun k hk => ?_, ?_⟩
  · rw [List.getElem?_toArray]
    by_cases hkx : k < xs.length
    · rw [List.getElem?_append_left (by omega), vals_get xs k hkx]
    · rw [List.getElem?_append_right (by omega), List.getElem?_drop, hl, show xs.length + (k - xs.length) = k by omega, zv_get _ _ hk, gi_ge xs k (by omega)]
  · rw [List.getElem?_toArray, List.getElem?_append_right (by omega), List.getElem?_drop, hl, show xs.length + (12 - xs.length) = 12 by omega]
    rfl

theorem Tryz.size_i64 : (Tryz.prog.info? 2).map (·.size) = some 1 := by kernel_rfl

theorem vectorOf_any (lo hi : Nat) (A : Option Addr) (n c : Nat) (xs : List Int) (w : World) (hn : n ≤ 12) (ex : xs.length = n) (h : Sl w lo hi A n (fun k => .int .i64 (gi xs k))) :
    Calls Tryz.prog 120 #[.slice A n c] w fun e w' => ∃ cs, e = .returned (.agg cs) ∧ VecIs cs xs ∧ Below w.heap.size w w' := by
  have EX := Lib.hid ex
  have VI : Hid (VecIs (splice (zv n) 0 (vals xs)).toArray xs) := by have := vec_splice xs (by omega); rwa [ex] at this
  have ON : Hid (∀ u ∈ vals xs, u.oneCell' = true) := by
    intro u hu
    simp only [vals, List.mem_map] at hu
    obtain ⟨_, _, rfl⟩ := hu
    rfl
  have LN : Hid ((vals xs).length = Nat.min n 12) := by show (vals xs).length = min n 12; rw [Nat.min_eq_left hn]; simp [vals, ex]
  have LN2 : Hid ((vals xs).length = n) := by simp [Hid, vals, ex]
  have b2 : Hid (∀ o o', Below w.heap.size w ((w.alloc o).alloc o')) := fun o o' => ((Below.refl _ _).alloc (Nat.le_refl _) o).alloc (by simp) o'
  have NW : Hid (∀ o o', 0 < (vals xs).length → ∃ ad, A = some ad ∧ ∀ j v, (vals xs)[j]? = some v → ((w.alloc o).alloc o').cell? (ad.add j) = some v) := by
    intro o o' hpos
    obtain ⟨b, off, rfl, _⟩ := h 0 (by rw [← LN2.out]; exact hpos)
    refine ⟨_, rfl, fun j u hu => ?_⟩
    have hj : j < xs.length := by have := (List.getElem?_eq_some_iff.1 hu).1; simpa [vals] using this
    rw [vals_get xs j hj] at hu
    injection hu with hu
    subst hu
    obtain ⟨b', off', hx, h1, h2, hc⟩ := (h.lt) j (by rw [← ex]; exact hj)
    injection hx with hx
    injection hx with e1 e2
    subst e1 e2
    rw [Go.WideShapes.add_plain]
    exact ((b2.out o o').cell (p := ⟨b, off + j, none⟩) (by simp; omega)).trans hc
  clear ex h
  go_enter Tryz.func120, Tryz.ntmps120
  go_wp2_with (first
    | (refine wpList_copy_splice rfl (.tmp 8) (.tmp 9) 35 35 rfl 2 Tryz.underlying35 Tryz.size_i64 (some ⟨w.heap.size + 1, 0, none⟩) A 12 12 n c rfl rfl (w.heap.size + 1) 0 (zv n) 168 (heap_alloc2_new w _ _) (vals xs) LN.out (fun hp => ⟨rfl, NW.out _ _ hp⟩) (by rw [LN2.out]; show 0 + n ≤ 13; omega) ON.out (w.heap.size + 1) _ (Below.refl _ _) (Nat.le_refl _) ?_; intro w2 hg2 hb2; have HG2 := Lib.hid hg2.out; have HB2 := Lib.hid hb2; clear hg2 hb2)
    | (refine wpList_load_row rfl 168 (.tmp 3) rfl (w.heap.size + 1) rfl _ _ (0, 0) _ HG2.out Tryz.underlying168 rfl (by rw [VI.out.1]; exact Tryz.size_vec) ?_)
    | (refine wpList_store_row rfl 168 (.tmp 2) (.tmp 11) rfl w.heap.size _ rfl rfl _ _ ((HB2.out.block w.heap.size (by omega)).trans (heap_alloc2_old w _ _)) (by rw [VI.out.1]; exact Tryz.size_vec) VI.out.1.symm VI.out.one ?_))
  refine bodyPost_ret (results_cell_row rfl _ _ w.heap.size _ _ (0, 0) _ rfl (setRow_heap _ _ _ _ _ _ ((HB2.out.block w.heap.size (by omega)).trans (heap_alloc2_old w _ _))) Tryz.underlying168 rfl (by rw [VI.out.1]; exact Tryz.size_vec)) rfl ⟨_, rfl, VI.out, ?_⟩
  exact below_setRow ((b2.out _ _).trans (HB2.out.mono (by omega))) (Nat.le_refl _) _

theorem isEnv_any (v : Int) (w : World) :
    Calls Tryz.prog 92 #[.int .i64 v] w fun e w' => e = .returned (.bool (inEnv v)) ∧ w = w' := by
  by_cases h1 : 0 ≤ v
  · by_cases h2 : v < 4
    · go_enter Tryz.func92, Tryz.ntmps92
      go_wp2
      go_ret
      exact ⟨ret_bool (inEnv_true ⟨h1, h2⟩).symm, rfl⟩
    · go_enter Tryz.func92, Tryz.ntmps92
      go_wp2
      go_ret
      exact ⟨ret_bool (inEnv_false (by omega)).symm, rfl⟩
  · go_enter Tryz.func92, Tryz.ntmps92
    go_wp2
    go_ret
    exact ⟨ret_bool (inEnv_false (by omega)).symm, rfl⟩

def above (most : Int) (xs : List Int) : Bool := xs.any fun x => decide (most < x)
theorem above_true {most : Int} {xs : List Int} {k : Nat} (hk : k < xs.length) (h : most < gi xs k) : above most xs = true := any_gi xs _ k hk (decide_eq_true h)
theorem above_false {most : Int} {xs : List Int} (h : ∀ k, k < xs.length → ¬ most < gi xs k) : above most xs = false := none_gi xs _ fun k hk => decide_eq_false (h k hk)

theorem anyAbove_any (lo hi : Nat) (A : Option Addr) (n c : Nat) (most : Int) (xs : List Int) (w : World) (hn : n * 8 ≤ 140737488351232) (ex : xs.length = n) (h : Sl w lo hi A n (fun k => .int .i64 (gi xs k))) :
    Calls Tryz.prog 122 #[.int .i64 most, .slice A n c] w fun e w' => e = .returned (.bool (above most xs)) ∧ w = w' := by
  have H := Lib.hid h
  have EX := Lib.hid ex
  clear h ex
  go_enter Tryz.func122, Tryz.ntmps122
  go_wp2
  go_loop [9] (fun i => ∃ k : Nat, k ≤ n ∧ i = .int .i64 k ∧ ∀ j, j < k → ¬ most < gi xs j) (fun i => n - (intOf i).toNat)
  case atStart => exact ⟨0, Nat.zero_le _, rfl, fun j hj => absurd hj (Nat.not_lt_zero _)⟩
  case round =>
    obtain ⟨k, hk, rfl, hs⟩ := hrel
    have HS := Lib.hid hs
    clear hs
    by_cases hlt : k < n
    · obtain ⟨b, off, rfl, h1, h2, hc⟩ := H.out.at_ hlt
      have hck := hc k hlt
      clear hc H
      by_cases hb : most < gi xs k
      · go_wp2
        go_ret
        exact ⟨ret_bool (above_true (by rw [EX.out]; exact hlt) hb).symm, rfl⟩
      · go_wp2
        go_round
        case rel => exact ⟨k + 1, by omega, by go_num, upto_succ HS.out hb⟩
        case measure => simp [intOf]; omega
    · go_wp2
      go_ret
      exact ⟨ret_bool (above_false (fun k hk => by have := HS.out k (by rw [EX.out] at hk; omega); omega)).symm, rfl⟩

def cnts (xs : List Int) : Array Value := #[.int .i64 (cnt xs 0), .int .i64 (cnt xs 1), .int .i64 (cnt xs 2), .int .i64 (cnt xs 3)]
theorem cnts_of {cur : Array Value} {xs : List Int} (h : cur.size = 4) (hc : ∀ e, e < 4 → cur[e]? = some (.int .i64 (cnt xs (e : Int)))) : cur = cnts xs := by
  apply Array.ext_getElem?
  intro i
  by_cases hi : i < 4
  · rw [hc i hi]
    rcases (show i = 0 ∨ i = 1 ∨ i = 2 ∨ i = 3 by omega) with rfl | rfl | rfl | rfl <;> rfl
  · rw [Array.getElem?_eq_none (by omega), Array.getElem?_eq_none (by show 4 ≤ i; omega)]
theorem cnts_one (xs : List Int) : (cnts xs).all (·.oneCell') = true := by simp [cnts, Value.oneCell']
theorem Tryz.size_cnt : (Tryz.prog.info? 165).map (·.size) = some 4 := by kernel_rfl

theorem Tryz.elem_arr : Tryz.prog.underlying 166 = some (.array (Tryz.prog.arrayLen 166) (Tryz.prog.elem 166)) := by kernel_rfl
theorem Tryz.len_arr : Tryz.prog.arrayLen 166 = 12 := by kernel_rfl
theorem Tryz.el_arr : Tryz.prog.elem 166 = 2 := by kernel_rfl
theorem run_slice12 (n : Nat) (hn : n ≤ 12) (a : Addr) (W : World) :
    (Instr.sliceAt 166 (.pointer (some a)) none (some (.int .i64 (n : Int))) none).run Tryz.prog W = .ok (.slice (some a) n 12) W := by
  have h := run_sliceAt_array_h (P := Tryz.prog) W 166 a Tryz.elem_arr .i64 (n : Int) (by omega) (by rw [Tryz.len_arr]; omega)
  rw [h, Tryz.el_arr, Tryz.len_arr]
  have hs : (sizeOf 2).run Tryz.prog W = .ok 1 W := by
    obtain ⟨i0, hi0, hz0, hz1, hz2⟩ := info_parts Tryz.info_i64
    simp [sizeOf, typeInfo, hi0, hz1]
  rw [hs]
  have e0 : a.add 0 = a := by simp [Addr.add]
  simp [Result.andThen, slicedAt, e0]

theorem counts_any (cs : Array Value) (xs : List Int) (w : World) (hv : VecIs cs xs) (hb : ∀ k, k < xs.length → bad (gi xs k) = false) :
    Calls Tryz.prog 121 #[.agg cs] w fun e w' => e = .returned (.agg (cnts xs)) ∧ Below w.heap.size w w' := by
  obtain ⟨hv1, hv0, hv2, hv3⟩ := hv
  have HV2 := Lib.hid hv2
  have SZ := Lib.hid hv1
  have HBAD := Lib.hid hb
  clear hv1 hv2 hb
  generalize hn : xs.length = n at *
  have EX := Lib.hid hn
  clear hn
  have hsl := run_slice12 n hv0
  have hb3 : Hid (∀ o o' o'', Below w.heap.size w (((w.alloc o).alloc o').alloc o'')) := fun o o' o'' => (((Below.refl _ _).alloc (Nat.le_refl _) o).alloc (by simp) o').alloc (by simp; omega) o''
  have hblk0 : Hid (∀ o' o'', (((w.alloc (.cells cs 168)).alloc o').alloc o'').heap[w.heap.size]? = some (.cells cs 168 (0, 0))) := fun o' o'' =>
    (Below.heap_alloc _ _ _ (by simp; omega)).trans ((Below.heap_alloc _ _ _ (by simp)).trans (heap_alloc_new w _))
  have hblk1 : Hid (∀ o' o'', (((w.alloc (.cells cs 168)).alloc o').alloc o'').heap[w.heap.size + 1]? = some o') := fun o' o'' => by
    have := heap_alloc2_old (w.alloc (.cells cs 168)) o' o''
    simpa using this
  have hrow0 : Hid (∀ o', (((w.alloc (.cells cs 168)).alloc o').alloc (.cells #[.int .i64 0, .int .i64 0, .int .i64 0, .int .i64 0] 165)).rowIs (w.heap.size + 2) 165 4 (fun _ => .int .i64 0)) := fun o' => by
    have := World.rowIs_alloc ((w.alloc (.cells cs 168)).alloc o') #[.int .i64 0, .int .i64 0, .int .i64 0, .int .i64 0] 165 (fun _ => .int .i64 0) (by
      intro i hi
      have hi : i < 4 := hi
      rcases (show i = 0 ∨ i = 1 ∨ i = 2 ∨ i = 3 by omega) with rfl | rfl | rfl | rfl <;> rfl)
    simpa using this
  go_enter Tryz.func121, Tryz.ntmps121
  go_wp2
  go_loopw [11] (fun i wr => ∃ k : Nat, k ≤ n ∧ i = .int .i64 k ∧ wr.rowIs (w.heap.size + 2) 165 4 (fun e => .int .i64 (cnt (xs.take k) (e : Int))) ∧ Below (w.heap.size + 2) (((w.alloc (.cells cs 168)).alloc (.cells #[.int .i64 0, .int .i64 0, .int .i64 0, .int .i64 0] 165)).alloc (.cells #[.int .i64 0, .int .i64 0, .int .i64 0, .int .i64 0] 165)) wr) (fun i _ => n - (intOf i).toNat)
  case atStart => exact ⟨0, Nat.zero_le _, rfl, (hrow0.out _).congr (fun i _ => by simp [cnt]), Below.refl _ _⟩
  case round =>
    obtain ⟨k, hk, rfl, hrow, hb⟩ := hrel
    by_cases hlt : k < n
    · have hck : wr.cell? ⟨w.heap.size, k, none⟩ = some (.int .i64 (gi xs k)) := by
        rw [cell_of_row wr _ k _ _ _ ((hb.block w.heap.size (by omega)).trans (hblk0.out _ _))]
        exact HV2.out k (by omega)
      have CT : Hid (∀ e, cnt (xs.take (k + 1)) e = cnt (xs.take k) e + if gi xs k = e then 1 else 0) := fun e => cnt_take xs k e (by rw [EX.out]; exact hlt)
      by_cases hf : gi xs k = -1
      · have hq : (gi xs k != -1) = false := by simp [hf]
        have HF := Lib.hid hf
        have HR := Lib.hid hrow
        have HB := Lib.hid hb
        clear hf hrow hb
        go_wp2
        go_roundw
        case rel =>
          refine ⟨k + 1, by omega, by go_num, HR.out.congr fun i _ => ?_, HB.out⟩
          rw [CT.out, if_neg (by rw [HF.out]; omega)]
          simp
        case measure => simp [intOf]; omega
      · have hq : (gi xs k != -1) = true := by simp [hf]
        obtain ⟨hx0, hx4⟩ := (bad_false (HBAD.out k hlt)).resolve_left hf
        obtain ⟨e, he⟩ : ∃ e : Nat, gi xs k = (e : Int) := ⟨(gi xs k).toNat, by omega⟩
        rw [he] at hck hq hx4
        have he4 : e < 4 := by omega
        have HE := Lib.hid he
        clear he hf hx0 hx4
        have hce := hrow.cell he4
        have hfe := hrow.frozen e
        have hcl := cnt_le (xs.take k) (e : Int)
        have hcl2 : (xs.take k).length ≤ k := List.length_take_le _ _
        have HR := Lib.hid (hrow.set e (.int .i64 ((cnt (xs.take k) (e : Int) : Int) + 1)))
        have HB := Lib.hid (hb.setCell (p := ⟨w.heap.size + 2, e, none⟩) (Nat.le_refl _) (.int .i64 ((cnt (xs.take k) (e : Int) : Int) + 1)))
        clear hrow hb
        go_wp2
        go_roundw
        case rel =>
          refine ⟨k + 1, by omega, by go_num, HR.out.congr fun i _ => ?_, HB.out⟩
          rw [CT.out, HE.out]
          by_cases h : i = e
          · subst h; simp
          · rw [if_neg h, if_neg (by omega)]; simp
        case measure => simp [intOf]; omega
    · obtain ⟨cur, hh, hsz, hcur⟩ := hrow
      have hcc : cur = cnts xs := cnts_of hsz (fun e he => by
        have := hcur e he
        rwa [List.take_of_length_le (by rw [EX.out]; omega)] at this)
      subst hcc
      have HH := Lib.hid hh
      have H1 := Lib.hid ((hb.block (w.heap.size + 1) (by omega)).trans (hblk1.out _ _))
      have HB := Lib.hid hb
      clear hh hsz hcur hb
      go_wp2_with (first
        | (refine wpList_load_row rfl 165 (.tmp 3) rfl (w.heap.size + 2) rfl _ _ (0, 0) _ HH.out Tryz.underlying165 rfl Tryz.size_cnt ?_)
        | (refine wpList_store_row rfl 165 (.tmp 2) (.tmp 23) rfl (w.heap.size + 1) (cnts xs) rfl rfl _ _ H1.out Tryz.size_cnt rfl (cnts_one xs) ?_))
      refine bodyPost_ret (results_cell_row rfl _ _ (w.heap.size + 1) _ (cnts xs) (0, 0) _ rfl (setRow_heap _ _ _ _ _ _ H1.out) Tryz.underlying165 rfl Tryz.size_cnt) rfl ⟨rfl, ?_⟩
      exact below_setRow ((hb3.out _ _ _).trans (HB.out.mono (by omega))) (by omega) _

theorem run_cnt (xs : List Int) (e : Nat) (he : e < 4) (W : World) : (Instr.index 165 (.agg (cnts xs)) (.int .i64 (e : Int))).run Tryz.prog W = .ok (.int .i64 (cnt xs (e : Int))) W := by
  rcases (show e = 0 ∨ e = 1 ∨ e = 2 ∨ e = 3 by omega) with rfl | rfl | rfl | rfl <;> kernel_rfl

def full (xs : List Int) (e : Int) : Bool := decide ((6 : Int) ≤ (cnt xs e : Int))
theorem full_true {xs : List Int} {e : Int} (h : 6 ≤ cnt xs e) : full xs e = true := decide_eq_true (by omega)
theorem full_false {xs : List Int} {e : Int} (h : ¬ 6 ≤ cnt xs e) : full xs e = false := decide_eq_false (by omega)

theorem isFull_any (cs : Array Value) (xs : List Int) (e : Nat) (w : World) (hv : VecIs cs xs) (hb : ∀ k, k < xs.length → bad (gi xs k) = false) (he : e < 4) :
    Calls Tryz.prog 172 #[.agg cs, .int .i64 e] w fun r w' => r = .returned (.bool (full xs (e : Int))) ∧ Below w.heap.size w w' := by
  have C := Lib.hid (counts_any cs xs (w.alloc (.cells cs 168)) hv hb)
  have SZ := Lib.hid hv.1
  have hix := fun W => run_cnt xs e he W
  clear hv hb
  go_enter Tryz.func172, Tryz.ntmps172
  go_wp2_with (first
    | (refine wpList_load_row rfl 168 (.tmp 2) rfl w.heap.size rfl _ cs (0, 0) _ (heap_alloc_new w _) Tryz.underlying168 rfl (by rw [SZ.out]; exact Tryz.size_vec) ?_)
    | fail)
  refine C.out.mono ?_
  rintro r w1 ⟨rfl, hb1⟩
  have HB := Lib.hid ((below_new w _).trans (hb1.mono (by simp)))
  clear hb1 C
  go_wp2
  go_ret
  exact ⟨ret_bool rfl, HB.out⟩

theorem answer_any (cs : Array Value) (xs : List Int) (w : World) (hv : VecIs cs xs) :
    Calls Tryz.prog 135 #[.agg cs] w (Ans 2 (0, xs) w) := by
  obtain ⟨hv1, hv0, hv2, hv3⟩ := hv
  have HV2 := Lib.hid hv2
  clear hv1 hv2
  generalize hn : xs.length = n at *
  have EX := Lib.hid hn
  clear hn
  have hsl := run_slice12 n hv0
  have hmk := run_make_row' (P := Tryz.prog) 35 2 (.int .i64 0) 8 Tryz.underlying35 Tryz.info_i64 rfl .i64 .i64 n (by omega) (by omega)
  have ON : Hid (∀ u ∈ vals xs, u.oneCell' = true) := by
    intro u hu
    simp only [vals, List.mem_map] at hu
    obtain ⟨_, _, rfl⟩ := hu
    rfl
  have LN : Hid ((vals xs).length = Nat.min n n) := by show (vals xs).length = min n n; simp [vals, EX.out]
  have LN2 : Hid ((vals xs).length = n) := by simp [Hid, vals, EX.out]
  have hb2 : Hid (∀ o o', Below w.heap.size w ((w.alloc o).alloc o')) := fun o o' => ((Below.refl _ _).alloc (Nat.le_refl _) o).alloc (by simp) o'
  have MZ : Hid ((madeCells #[.int .i64 0] n) = (List.replicate n (Value.int .i64 0)).toArray) := by
    show _ = _
    apply Array.ext'
    rw [toList_madeCells_one]
  have SPL : Hid ((splice (List.replicate n (Value.int .i64 0)) 0 (vals xs)).toArray = (vals xs).toArray) := by
    show _ = _
    rw [splice]
    simp [LN2.out]
  rw [MZ.out] at hmk
  have hg3 : Hid (∀ o o', (((w.alloc o).alloc o').alloc (.cells (List.replicate n (Value.int .i64 0)).toArray 2)).heap[w.heap.size + 2]? = some (.cells (List.replicate n (Value.int .i64 0)).toArray 2 (0, 0))) := fun o o' => by
    have := heap_alloc_new ((w.alloc o).alloc o') (.cells (List.replicate n (Value.int .i64 0)).toArray 2)
    simpa using this
  have hblk0 : Hid (∀ o' o'', (((w.alloc (.cells cs 168)).alloc o').alloc o'').heap[w.heap.size]? = some (.cells cs 168 (0, 0))) := fun o' o'' =>
    (Below.heap_alloc _ _ _ (by simp; omega)).trans ((Below.heap_alloc _ _ _ (by simp)).trans (heap_alloc_new w _))
  have hblk1 : Hid (∀ o' o'', (((w.alloc (.cells cs 168)).alloc o').alloc o'').heap[w.heap.size + 1]? = some o') := fun o' o'' => by
    have := heap_alloc2_old (w.alloc (.cells cs 168)) o' o''
    simpa using this
  have NW : Hid (∀ o' o'', 0 < (vals xs).length → ∃ ad, (some ⟨w.heap.size, 0, none⟩ : Option Addr) = some ad ∧ ∀ j v, (vals xs)[j]? = some v → (((w.alloc (.cells cs 168)).alloc o').alloc o'').cell? (ad.add j) = some v) := by
    intro o' o'' _
    refine ⟨_, rfl, fun j u hu => ?_⟩
    have hj : j < xs.length := by have := (List.getElem?_eq_some_iff.1 hu).1; simpa [vals] using this
    rw [vals_get xs j hj] at hu
    injection hu with hu
    subst hu
    rw [Go.WideShapes.add_plain, Nat.zero_add, cell_of_row _ _ j _ _ _ (hblk0.out o' o'')]
    exact HV2.out j (by have := EX.out; omega)
  go_enter Tryz.func135, Tryz.ntmps135
  go_wp2_with (refine wpList_copy_splice rfl (.tmp 7) (.tmp 11) 35 35 rfl 2 Tryz.underlying35 Tryz.size_i64 (some ⟨w.heap.size + 2, 0, none⟩) (some ⟨w.heap.size, 0, none⟩) n n n 12 rfl rfl (w.heap.size + 2) 0 (List.replicate n (.int .i64 0)) 2 (hg3.out _ _) (vals xs) LN.out (fun hp => ⟨rfl, NW.out _ _ hp⟩) (by rw [LN2.out]; simp) ON.out (w.heap.size + 2) _ (Below.refl _ _) (Nat.le_refl _) ?_; intro w2 hg2 hb2'; have HG2 := Lib.hid hg2.out; have HB2 := Lib.hid hb2'; have hq := (hb2'.block (w.heap.size + 1) (by omega)).trans (hblk1.out _ _); have q0 := cell_of_row _ _ 0 _ _ _ hq; have q1 := cell_of_row _ _ 1 _ _ _ hq; have f0 := frozen_of_row _ _ 0 _ _ hq; have f1 := frozen_of_row _ _ 1 _ _ hq; have HQ := Lib.hid hq; simp at q0 q1; clear hg2 hb2' hq)
  refine bodyPost_ret (results_cell_row rfl _ _ (w.heap.size + 1) _ _ (0, 0) _ rfl (blk2_set HQ.out _ _) Tryz.underlying49 rfl (by kernel_rfl)) rfl ?_
  have hz : w.heap.size + 2 < w2.heap.size := by have := HB2.out.size; simp at this; omega
  refine ⟨_, n, n, rfl, EX.out, fun h => by simp at h, .inr ⟨w.heap.size + 2, 0, rfl, by omega, by simp [World.setCell]; omega, ?_⟩, ?_⟩
  · refine Row.far (p := ⟨w.heap.size + 1, 1, none⟩) (Row.far (p := ⟨w.heap.size + 1, 0, none⟩) ?_ (by simp) _) (by simp) _
    refine ⟨(vals xs).toArray, by have := HG2.out; rwa [SPL.out] at this, fun k hk => ?_⟩
    rw [Nat.zero_add, List.getElem?_toArray]
    exact vals_get xs k (by rw [EX.out]; exact hk)
  · exact ((((hb2.out _ _).alloc (by simp; omega) _).trans (HB2.out.mono (by omega))).setCell (by simp) _).setCell (by simp) _



def cntl (xs : List Int) : List Int := [cnt xs 0, cnt xs 1, cnt xs 2, cnt xs 3]
theorem cntl_row (xs : List Int) (k : Nat) (h : k < 4) : (cnts xs)[k]? = some (.int .i64 (gi (cntl xs) k)) := by
  rcases (show k = 0 ∨ k = 1 ∨ k = 2 ∨ k = 3 by omega) with rfl | rfl | rfl | rfl <;> rfl
theorem above_cntl {xs : List Int} (h1 : 1 ≤ xs.length) (h2 : xs.length ≤ 12) (hb : ∀ k, k < xs.length → bad (gi xs k) = false) : vf xs = if above 6 (cntl xs) then 8 else 0 := by
  unfold vf
  rw [if_neg (by omega), if_neg (by rw [none_gi xs bad hb]; simp)]
  by_cases h : 6 < cnt xs 0 ∨ 6 < cnt xs 1 ∨ 6 < cnt xs 2 ∨ 6 < cnt xs 3
  · rw [if_pos h]
    have : above 6 (cntl xs) = true := by
      unfold above cntl
      simp only [List.any_cons, List.any_nil, Bool.or_false, Bool.or_eq_true, decide_eq_true_eq]
      omega
    rw [this]; rfl
  · rw [if_neg h]
    have : above 6 (cntl xs) = false := by
      unfold above cntl
      simp only [List.any_cons, List.any_nil, Bool.or_false, Bool.or_eq_false_iff, decide_eq_false_iff_not]
      omega
    rw [this]; rfl

theorem implVectorFault_any (lo hi : Nat) (A : Option Addr) (n c : Nat) (xs : List Int) (w : World) (hn : n * 8 ≤ 140737488351232) (ex : xs.length = n) (h : Sl w lo hi A n (fun k => .int .i64 (gi xs k))) :
    Calls Tryz.prog 79 #[.slice A n c] w fun e w' => e = .returned (.int .i64 (vf xs)) ∧ Below w.heap.size w w' := by
  have H := Lib.hid h
  have EX := Lib.hid ex
  clear h ex
  by_cases hn1 : n < 1
  · go_enter Tryz.func79, Tryz.ntmps79
    go_wp2
    go_ret
    exact ⟨ret_i64 (vf_many (by rw [EX.out]; omega)).symm, Below.refl _ _⟩
  by_cases hn2 : 12 < n
  · go_enter Tryz.func79, Tryz.ntmps79
    go_wp2
    go_ret
    exact ⟨ret_i64 (vf_many (by rw [EX.out]; omega)).symm, Below.refl _ _⟩
  go_enter Tryz.func79, Tryz.ntmps79
  go_wp2
  go_loop [16] (fun i => ∃ k : Nat, k ≤ n ∧ i = .int .i64 k ∧ ∀ j, j < k → bad (gi xs j) = false) (fun i => n - (intOf i).toNat)
  case atStart => exact ⟨0, Nat.zero_le _, rfl, fun j hj => absurd hj (Nat.not_lt_zero _)⟩
  case round =>
    obtain ⟨k, hk, rfl, hs⟩ := hrel
    have HS := Lib.hid hs
    clear hs
    by_cases hlt : k < n
    · obtain ⟨b, off, rfl, h1, h2, hc⟩ := H.out.at_ hlt
      have hck := hc k hlt
      clear hc H
      by_cases hb : gi xs k = -1
      · have hB := Lib.hid (bad_ok (.inl hb))
        have hd : (gi xs k != -1) = false := by simp [hb]
        clear hb
        go_wp2
        go_round
        case rel => exact ⟨k + 1, by omega, by go_num, upto_succ HS.out hB.out⟩
        case measure => simp [intOf]; omega
      · have hd : (gi xs k != -1) = true := by simp [hb]
        by_cases he : 0 ≤ gi xs k ∧ gi xs k < 4
        · have hB := Lib.hid (bad_ok (.inr he))
          have hie : inEnv (gi xs k) = true := inEnv_true he
          clear he hb
          go_wp2_with (go_at_call 92; refine (isEnv_any _ _).mono ?_; rintro e w' ⟨rfl, rfl⟩)
          go_round
          case rel => exact ⟨k + 1, by omega, by go_num, upto_succ HS.out hB.out⟩
          case measure => simp [intOf]; omega
        · have hB := Lib.hid (bad_true hb he)
          have hie : inEnv (gi xs k) = false := inEnv_false he
          clear he hb
          go_wp2_with (go_at_call 92; refine (isEnv_any _ _).mono ?_; rintro e w' ⟨rfl, rfl⟩)
          go_ret
          exact ⟨ret_i64 (vf_range (by rw [EX.out]; omega) (by rw [EX.out]; omega) (by rw [EX.out]; exact hlt) hB.out).symm, Below.refl _ _⟩
    · have HBAD : Hid (∀ k, k < xs.length → bad (gi xs k) = false) := fun j hj => HS.out j (by rw [EX.out] at hj; omega)
      have C := Lib.hid (vectorOf_any lo hi A n c xs w (by omega) EX.out H.out)
      have VF := Lib.hid (above_cntl (by rw [EX.out]; omega) (by rw [EX.out]; omega) HBAD.out)
      go_wp2_with fail
      refine C.out.mono ?_
      rintro e w1 ⟨cs, rfl, hvec, hb1⟩
      have C2 := Lib.hid (counts_any cs xs w1 hvec HBAD.out)
      clear hvec C
      go_wp2_with fail
      refine C2.out.mono ?_
      rintro e w2 ⟨rfl, hb2⟩
      have B2 := Lib.hid (hb1.trans (hb2.mono hb1.size))
      have B3 : Hid (Below w.heap.size w (w2.alloc (.cells (cnts xs) 165))) := B2.out.alloc B2.out.size _
      have SL : Hid (Sl (w2.alloc (.cells (cnts xs) 165)) 0 (w2.heap.size + 1) (some ⟨w2.heap.size, 0, none⟩) 4 (fun k => .int .i64 (gi (cntl xs) k))) :=
        (Row.new w2 (cnts xs) 165 _ 4 (fun k hk => cntl_row xs k hk)).sl (Nat.zero_le _) (by omega)
      clear hb1 hb2 C2
      cases hab : above 6 (cntl xs)
      all_goals
        simp only [cnts] at SL B3
        simp only [cnts]
        go_wp2_with (go_at_call 122; refine (anyAbove_any 0 (w2.heap.size + 1) _ 4 4 6 (cntl xs) _ (by omega) rfl SL.out).mono ?_; rintro e w' ⟨rfl, rfl⟩)
        go_ret
        exact ⟨ret_i64 (by rw [VF.out, hab]; rfl), B3.out⟩

theorem envsFault_any (lo hi lo' hi' : Nat) (A A' : Option Addr) (n c n' c' : Nat) (xs es : List Int) (w : World) (hn : n * 8 ≤ 140737488351232) (ex : xs.length = n) (h : Sl w lo hi A n (fun k => .int .i64 (gi xs k)))
    (hn' : n' * 8 ≤ 140737488351232) (ey : es.length = n') (h' : Sl w lo' hi' A' n' (fun k => .int .i64 (gi es k))) :
    Calls Tryz.prog 170 #[.slice A n c, .slice A' n' c'] w fun e w' => e = .returned (.int .i64 (ef xs es)) ∧ Below w.heap.size w w' := by
  have C := Lib.hid (implVectorFault_any lo hi A n c xs w hn ex h)
  have H' := Lib.hid h'.lt
  have EY := Lib.hid ey
  clear h ex h' ey
  by_cases hv : vf xs = 0
  · have hv' : (vf xs != 0) = false := by simp [hv]
    have HV := Lib.hid hv
    clear hv
    go_enter Tryz.func170, Tryz.ntmps170
    go_wp2_with fail
    refine C.out.mono ?_
    rintro e w1 ⟨rfl, hb1⟩
    have HB := Lib.hid hb1
    have H1 := Lib.hid (H'.out.below hb1 (by omega))
    clear hb1 C
    go_wp2
    go_loop [15] (fun i => ∃ k : Nat, k ≤ n' ∧ i = .int .i64 k ∧ ∀ j, j < k → (!inEnv (gi es j)) = false) (fun i => n' - (intOf i).toNat)
    case atStart => exact ⟨0, Nat.zero_le _, rfl, fun j hj => absurd hj (Nat.not_lt_zero _)⟩
    case round =>
      obtain ⟨k, hk, rfl, hs⟩ := hrel
      have HS := Lib.hid hs
      clear hs
      by_cases hlt : k < n'
      · obtain ⟨b, off, rfl, h1, h2, hc⟩ := H1.out.at_ hlt
        have hck := hc k hlt
        clear hc
        cases hie : inEnv (gi es k)
        · have HE : Hid (ef xs es = 3) := by
            show ef xs es = 3
            rw [ef_ok HV.out, if_pos (any_gi es _ k (by rw [EY.out]; exact hlt) (by rw [hie]; rfl))]
          go_wp2_with (go_at_call 92; refine (isEnv_any _ _).mono ?_; rintro e w' ⟨rfl, rfl⟩)
          go_ret
          exact ⟨ret_i64 HE.out.symm, HB.out⟩
        · go_wp2_with (go_at_call 92; refine (isEnv_any _ _).mono ?_; rintro e w' ⟨rfl, rfl⟩)
          go_round
          case rel => exact ⟨k + 1, by omega, by go_num, upto_succ HS.out (by rw [hie]; rfl)⟩
          case measure => simp [intOf]; omega
      · have HE : Hid (ef xs es = 0) := by
          show ef xs es = 0
          rw [ef_ok HV.out, if_neg (by rw [none_gi es _ (fun j hj => HS.out j (by rw [EY.out] at hj; omega))]; simp)]
        go_wp2
        go_ret
        exact ⟨ret_i64 HE.out.symm, HB.out⟩
  · have hv' : (vf xs != 0) = true := by simp [hv]
    have HV := Lib.hid (ef_fault (es := es) hv)
    clear hv
    go_enter Tryz.func170, Tryz.ntmps170
    go_wp2_with fail
    refine C.out.mono ?_
    rintro e w1 ⟨rfl, hb1⟩
    have HB := Lib.hid hb1
    clear hb1 C
    go_wp2
    go_ret
    exact ⟨ret_i64 HV.out.symm, HB.out⟩

theorem slotFault_any (lo hi lo' hi' : Nat) (A A' : Option Addr) (n c n' c' : Nat) (xs es : List Int) (slot : Int) (w : World) (hn : n * 8 ≤ 140737488351232) (ex : xs.length = n) (h : Sl w lo hi A n (fun k => .int .i64 (gi xs k)))
    (hn' : n' * 8 ≤ 140737488351232) (ey : es.length = n') (h' : Sl w lo' hi' A' n' (fun k => .int .i64 (gi es k))) :
    Calls Tryz.prog 171 #[.slice A n c, .int .i64 slot, .slice A' n' c'] w fun e w' => e = .returned (.int .i64 (sf xs slot es)) ∧ Below w.heap.size w w' := by
  have C := Lib.hid (envsFault_any lo hi lo' hi' A A' n c n' c' xs es w hn ex h hn' ey h')
  have EX := Lib.hid ex
  clear h ex h' ey
  by_cases hv : ef xs es = 0
  · have hv' : (ef xs es != 0) = false := by simp [hv]
    have HV := Lib.hid hv
    clear hv
    by_cases h1 : slot < 0
    · have HS : Hid (sf xs slot es = 4) := by show _ = _; rw [sf_ok HV.out, if_pos (.inl h1)]
      go_enter Tryz.func171, Tryz.ntmps171
      go_wp2_with fail
      refine C.out.mono ?_
      rintro e w1 ⟨rfl, hb1⟩
      have HB := Lib.hid hb1
      clear hb1 C
      go_wp2
      go_ret
      exact ⟨ret_i64 HS.out.symm, HB.out⟩
    · by_cases h2 : (n : Int) ≤ slot
      · have HS : Hid (sf xs slot es = 4) := by show _ = _; rw [sf_ok HV.out, if_pos (.inr (by rw [EX.out]; exact h2))]
        go_enter Tryz.func171, Tryz.ntmps171
        go_wp2_with fail
        refine C.out.mono ?_
        rintro e w1 ⟨rfl, hb1⟩
        have HB := Lib.hid hb1
        clear hb1 C
        go_wp2
        go_ret
        exact ⟨ret_i64 HS.out.symm, HB.out⟩
      · have HS : Hid (sf xs slot es = 0) := by show _ = _; rw [sf_ok HV.out, if_neg (by rw [EX.out]; omega)]
        go_enter Tryz.func171, Tryz.ntmps171
        go_wp2_with fail
        refine C.out.mono ?_
        rintro e w1 ⟨rfl, hb1⟩
        have HB := Lib.hid hb1
        clear hb1 C
        go_wp2
        go_ret
        exact ⟨ret_i64 HS.out.symm, HB.out⟩
  · have hv' : (ef xs es != 0) = true := by simp [hv]
    have HV := Lib.hid (sf_fault (s := slot) hv)
    clear hv
    go_enter Tryz.func171, Tryz.ntmps171
    go_wp2_with fail
    refine C.out.mono ?_
    rintro e w1 ⟨rfl, hb1⟩
    have HB := Lib.hid hb1
    clear hb1 C
    go_wp2
    go_ret
    exact ⟨ret_i64 HV.out.symm, HB.out⟩

end Go.Proofs.YtckapndpefkcgaaGreat
