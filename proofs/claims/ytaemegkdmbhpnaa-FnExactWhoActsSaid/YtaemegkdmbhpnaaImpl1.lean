/-
  The program's vector of chapter 1 (an array of owners and its size, by value): what each of its methods makes of it.
-/
import Derived.Test.YtaemegkdmbhpnaaSpec1
import Derived.Laws.CopyOwn
namespace Go.Proofs.Ytaemegkdmbhpnaa
open Go.RowKit

/-- thirteen cells: twelve owners and the size, of a list xs -/
def VecIs (cs : Array Value) (xs : List Int) : Prop := cs.size = 13 ∧ xs.length ≤ 12 ∧ (∀ k, k < 12 → cs[k]? = some (.int .i64 (gi xs k))) ∧ cs[12]? = some (.int .i64 xs.length)

theorem VecIs.one {cs : Array Value} {xs : List Int} (h : VecIs cs xs) : cs.all (·.oneCell') = true := by
  obtain ⟨h1, _, h2, h3⟩ := h
  rw [Array.all_eq_true]
  intro i hi
  by_cases h12 : i < 12
  · have := h2 i h12
    rw [Array.getElem?_eq_getElem hi] at this
    injection this with this
    rw [this]; rfl
  · obtain rfl : i = 12 := by omega
    rw [Array.getElem?_eq_getElem hi] at h3
    injection h3 with h3
    rw [h3]; rfl
theorem VecIs.set {cs : Array Value} {xs : List Int} (h : VecIs cs xs) {k : Nat} (hk : k < xs.length) (v : Int) : VecIs (cs.setIfInBounds k (.int .i64 v)) (xs.set k v) := by
  obtain ⟨h1, h0, h2, h3⟩ := h
  refine ⟨by simpa using h1, by simpa using h0, fun j hj => ?_, ?_⟩
  · rw [Array.getElem?_setIfInBounds, gi_set]
    by_cases e : k = j
    · subst e
      rw [if_pos rfl, if_pos (by omega), if_pos ⟨rfl, hk⟩]
    · rw [if_neg e, if_neg (fun h => e h.1.symm)]
      exact h2 j hj
  · rw [Array.getElem?_setIfInBounds, if_neg (by omega), h3]
    simp

theorem Try.size_vec : (Try.prog.info? 221).map (·.size) = some 13 := by kernel_rfl

/-- twelve zeros and the size n -/
def zv (n : Nat) : List Value := [.int .i64 0, .int .i64 0, .int .i64 0, .int .i64 0, .int .i64 0, .int .i64 0, .int .i64 0, .int .i64 0, .int .i64 0, .int .i64 0, .int .i64 0, .int .i64 0, .int .i64 n]
theorem zv_get (n k : Nat) (h : k < 12) : (zv n)[k]? = some (.int .i64 0) := by
  rcases (show k = 0 ∨ k = 1 ∨ k = 2 ∨ k = 3 ∨ k = 4 ∨ k = 5 ∨ k = 6 ∨ k = 7 ∨ k = 8 ∨ k = 9 ∨ k = 10 ∨ k = 11 by omega) with rfl | rfl | rfl | rfl | rfl | rfl | rfl | rfl | rfl | rfl | rfl | rfl <;> rfl
theorem vec_splice (xs : List Int) (h : xs.length ≤ 12) : VecIs (splice (zv xs.length) 0 (vals xs)).toArray xs := by
  have hl : (vals xs).length = xs.length := by simp [vals]
  have e : splice (zv xs.length) 0 (vals xs) = vals xs ++ (zv xs.length).drop xs.length := by simp [splice, hl]
  have hz : (zv xs.length).length = 13 := rfl
  rw [e]
  refine ⟨by simp [hl, hz]; omega, h, fun k hk => ?_, ?_⟩
  · rw [List.getElem?_toArray]
    by_cases hkx : k < xs.length
    · rw [List.getElem?_append_left (by omega), vals_get xs k hkx]
    · rw [List.getElem?_append_right (by omega), List.getElem?_drop, hl, show xs.length + (k - xs.length) = k by omega, zv_get _ _ hk, gi_ge xs k (by omega)]
  · rw [List.getElem?_toArray, List.getElem?_append_right (by omega), List.getElem?_drop, hl, show xs.length + (12 - xs.length) = 12 by omega]
    rfl

theorem Try.size_i64 : (Try.prog.info? 2).map (·.size) = some 1 := by kernel_rfl

theorem vectorOf_any (lo hi : Nat) (A : Option Addr) (n c : Nat) (xs : List Int) (w : World) (hn : n ≤ 12) (ex : xs.length = n) (h : Sl w lo hi A n (fun k => .int .i64 (gi xs k))) :
    Calls Try.prog 182 #[.slice A n c] w fun e w' => ∃ cs, e = .returned (.agg cs) ∧ VecIs cs xs ∧ Below w.heap.size w w' := by
  have EX := Lib.hid ex
  have VI : Hid (VecIs (splice (zv n) 0 (vals xs)).toArray xs) := by have := vec_splice xs (by omega); rwa [ex] at this
  have ON : Hid (∀ u ∈ vals xs, u.oneCell' = true) := by
    intro u hu
    simp only [vals, List.mem_map] at hu
    obtain ⟨_, _, rfl⟩ := hu
    rfl
  have LN : Hid ((vals xs).length = Nat.min n 12) := by show (vals xs).length = min n 12; rw [Nat.min_eq_left hn]; simp [vals, ex]
  have LN2 : Hid ((vals xs).length = n) := by simp [Hid, vals, ex]
  have b2 : Hid (∀ o o', Below w.heap.size w ((w.alloc o).alloc o')) := fun o o' => ((Below.refl _ _).alloc (Nat.le_refl _) o).alloc (by simp) o'
  have NW : Hid (∀ o o', 0 < (vals xs).length → ∃ ad, A = some ad ∧ ∀ j v, (vals xs)[j]? = some v → ((w.alloc o).alloc o').cell? (ad.add j) = some v) := by
    intro o o' hpos
    obtain ⟨b, off, rfl, _⟩ := h 0 (by rw [← LN2.out]; exact hpos)
    refine ⟨_, rfl, fun j u hu => ?_⟩
    have hj : j < xs.length := by have := (List.getElem?_eq_some_iff.1 hu).1; simpa [vals] using this
    rw [vals_get xs j hj] at hu
    injection hu with hu
    subst hu
    obtain ⟨b', off', hx, h1, h2, hc⟩ := (h.lt) j (by rw [← ex]; exact hj)
    injection hx with hx
    injection hx with e1 e2
    subst e1 e2
    rw [Go.WideShapes.add_plain]
    exact ((b2.out o o').cell (p := ⟨b, off + j, none⟩) (by simp; omega)).trans hc
  clear ex h
  go_enter Try.func182, Try.ntmps182
  go_wp2_with (first
    | (refine wpList_copy_splice rfl (.tmp 8) (.tmp 9) 22 22 rfl 2 Try.underlying22 Try.size_i64 (some ⟨w.heap.size + 1, 0, none⟩) A 12 12 n c rfl rfl (w.heap.size + 1) 0 (zv n) 221 (heap_alloc2_new w _ _) (vals xs) LN.out (fun hp => ⟨rfl, NW.out _ _ hp⟩) (by rw [LN2.out]; show 0 + n ≤ 13; omega) ON.out (w.heap.size + 1) _ (Below.refl _ _) (Nat.le_refl _) ?_; intro w2 hg2 hb2; have HG2 := Lib.hid hg2.out; have HB2 := Lib.hid hb2; clear hg2 hb2)
    | (refine wpList_load_row rfl 221 (.tmp 3) rfl (w.heap.size + 1) rfl _ _ (0, 0) _ HG2.out Try.underlying221 rfl (by rw [VI.out.1]; exact Try.size_vec) ?_)
    | (refine wpList_store_row rfl 221 (.tmp 2) (.tmp 11) rfl w.heap.size _ rfl rfl _ _ ((HB2.out.block w.heap.size (by omega)).trans (heap_alloc2_old w _ _)) (by rw [VI.out.1]; exact Try.size_vec) VI.out.1.symm VI.out.one ?_))
  refine bodyPost_ret (results_cell_row rfl _ _ w.heap.size _ _ (0, 0) _ rfl (setRow_heap _ _ _ _ _ _ ((HB2.out.block w.heap.size (by omega)).trans (heap_alloc2_old w _ _))) Try.underlying221 rfl (by rw [VI.out.1]; exact Try.size_vec)) rfl ⟨_, rfl, VI.out, ?_⟩
  exact below_setRow ((b2.out _ _).trans (HB2.out.mono (by omega))) (Nat.le_refl _) _

theorem isEnv_any (v : Int) (w : World) :
    Calls Try.prog 181 #[.int .i64 v] w fun e w' => e = .returned (.bool (inEnv v)) ∧ w = w' := by
  by_cases h1 : 0 ≤ v
  · by_cases h2 : v < 4
    · go_enter Try.func181, Try.ntmps181
      go_wp2
      go_ret
      exact ⟨ret_bool (inEnv_true ⟨h1, h2⟩).symm, rfl⟩
    · go_enter Try.func181, Try.ntmps181
      go_wp2
      go_ret
      exact ⟨ret_bool (inEnv_false (by omega)).symm, rfl⟩
  · go_enter Try.func181, Try.ntmps181
    go_wp2
    go_ret
    exact ⟨ret_bool (inEnv_false (by omega)).symm, rfl⟩

/-- is one of them above most? -/
def above (most : Int) (xs : List Int) : Bool := xs.any fun x => decide (most < x)
theorem above_true {most : Int} {xs : List Int} {k : Nat} (hk : k < xs.length) (h : most < gi xs k) : above most xs = true := any_gi xs _ k hk (decide_eq_true h)
theorem above_false {most : Int} {xs : List Int} (h : ∀ k, k < xs.length → ¬ most < gi xs k) : above most xs = false := none_gi xs _ fun k hk => decide_eq_false (h k hk)

theorem anyAbove_any (lo hi : Nat) (A : Option Addr) (n c : Nat) (most : Int) (xs : List Int) (w : World) (hn : n * 8 ≤ 140737488351232) (ex : xs.length = n) (h : Sl w lo hi A n (fun k => .int .i64 (gi xs k))) :
    Calls Try.prog 184 #[.int .i64 most, .slice A n c] w fun e w' => e = .returned (.bool (above most xs)) ∧ w = w' := by
  have H := Lib.hid h
  have EX := Lib.hid ex
  clear h ex
  go_enter Try.func184, Try.ntmps184
  go_wp2
  go_loop [9] (fun i => ∃ k : Nat, k ≤ n ∧ i = .int .i64 k ∧ ∀ j, j < k → ¬ most < gi xs j) (fun i => n - (intOf i).toNat)
  case atStart => exact ⟨0, Nat.zero_le _, rfl, fun j hj => absurd hj (Nat.not_lt_zero _)⟩
  case round =>
    obtain ⟨k, hk, rfl, hs⟩ := hrel
    have HS := Lib.hid hs
    clear hs
    by_cases hlt : k < n
    · obtain ⟨b, off, rfl, h1, h2, hc⟩ := H.out.at_ hlt
      have hck := hc k hlt
      clear hc H
      by_cases hb : most < gi xs k
      · go_wp2
        go_ret
        exact ⟨ret_bool (above_true (by rw [EX.out]; exact hlt) hb).symm, rfl⟩
      · go_wp2
        go_round
        case rel => exact ⟨k + 1, by omega, by go_num, upto_succ HS.out hb⟩
        case measure => simp [intOf]; omega
    · go_wp2
      go_ret
      exact ⟨ret_bool (above_false (fun k hk => by have := HS.out k (by rw [EX.out] at hk; omega); omega)).symm, rfl⟩

/-- the four counts as cells -/
def cnts (xs : List Int) : Array Value := #[.int .i64 (cnt xs 0), .int .i64 (cnt xs 1), .int .i64 (cnt xs 2), .int .i64 (cnt xs 3)]
theorem cnts_of {cur : Array Value} {xs : List Int} (h : cur.size = 4) (hc : ∀ e, e < 4 → cur[e]? = some (.int .i64 (cnt xs (e : Int)))) : cur = cnts xs := by
  apply Array.ext_getElem?
  intro i
  by_cases hi : i < 4
  · rw [hc i hi]
    rcases (show i = 0 ∨ i = 1 ∨ i = 2 ∨ i = 3 by omega) with rfl | rfl | rfl | rfl <;> rfl
  · rw [Array.getElem?_eq_none (by omega), Array.getElem?_eq_none (by show 4 ≤ i; omega)]
theorem cnts_one (xs : List Int) : (cnts xs).all (·.oneCell') = true := by simp [cnts, Value.oneCell']
theorem Try.size_cnt : (Try.prog.info? 218).map (·.size) = some 4 := by kernel_rfl

theorem Try.elem_arr : Try.prog.underlying 219 = some (.array (Try.prog.arrayLen 219) (Try.prog.elem 219)) := by kernel_rfl
theorem Try.len_arr : Try.prog.arrayLen 219 = 12 := by kernel_rfl
theorem Try.el_arr : Try.prog.elem 219 = 2 := by kernel_rfl
theorem run_slice12 (n : Nat) (hn : n ≤ 12) (a : Addr) (W : World) :
    (Instr.sliceAt 219 (.pointer (some a)) none (some (.int .i64 (n : Int))) none).run Try.prog W = .ok (.slice (some a) n 12) W := by
  have h := run_sliceAt_array_h (P := Try.prog) W 219 a Try.elem_arr .i64 (n : Int) (by omega) (by rw [Try.len_arr]; omega)
  rw [h, Try.el_arr, Try.len_arr]
  have hs : (sizeOf 2).run Try.prog W = .ok 1 W := by
    obtain ⟨i0, hi0, hz0, hz1, hz2⟩ := info_parts Try.info_i64
    simp [sizeOf, typeInfo, hi0, hz1]
  rw [hs]
  have e0 : a.add 0 = a := by simp [Addr.add]
  simp [Result.andThen, slicedAt, e0]

theorem counts_any (cs : Array Value) (xs : List Int) (w : World) (hv : VecIs cs xs) (hb : ∀ k, k < xs.length → bad (gi xs k) = false) :
    Calls Try.prog 183 #[.agg cs] w fun e w' => e = .returned (.agg (cnts xs)) ∧ Below w.heap.size w w' := by
  obtain ⟨hv1, hv0, hv2, hv3⟩ := hv
  have HV2 := Lib.hid hv2
  have SZ := Lib.hid hv1
  have HBAD := Lib.hid hb
  clear hv1 hv2 hb
  generalize hn : xs.length = n at *
  have EX := Lib.hid hn
  clear hn
  have hsl := run_slice12 n hv0
  have hb3 : Hid (∀ o o' o'', Below w.heap.size w (((w.alloc o).alloc o').alloc o'')) := fun o o' o'' => (((Below.refl _ _).alloc (Nat.le_refl _) o).alloc (by simp) o').alloc (by simp; omega) o''
  have hblk0 : Hid (∀ o' o'', (((w.alloc (.cells cs 221)).alloc o').alloc o'').heap[w.heap.size]? = some (.cells cs 221 (0, 0))) := fun o' o'' =>
    (Below.heap_alloc _ _ _ (by simp; omega)).trans ((Below.heap_alloc _ _ _ (by simp)).trans (heap_alloc_new w _))
  have hblk1 : Hid (∀ o' o'', (((w.alloc (.cells cs 221)).alloc o').alloc o'').heap[w.heap.size + 1]? = some o') := fun o' o'' => by
    have := heap_alloc2_old (w.alloc (.cells cs 221)) o' o''
    simpa using this
  have hrow0 : Hid (∀ o', (((w.alloc (.cells cs 221)).alloc o').alloc (.cells #[.int .i64 0, .int .i64 0, .int .i64 0, .int .i64 0] 218)).rowIs (w.heap.size + 2) 218 4 (fun _ => .int .i64 0)) := fun o' => by
    have := World.rowIs_alloc ((w.alloc (.cells cs 221)).alloc o') #[.int .i64 0, .int .i64 0, .int .i64 0, .int .i64 0] 218 (fun _ => .int .i64 0) (by
      intro i hi
      have hi : i < 4 := hi
      rcases (show i = 0 ∨ i = 1 ∨ i = 2 ∨ i = 3 by omega) with rfl | rfl | rfl | rfl <;> rfl)
    simpa using this
  go_enter Try.func183, Try.ntmps183
  go_wp2
  go_loopw [11] (fun i wr => ∃ k : Nat, k ≤ n ∧ i = .int .i64 k ∧ wr.rowIs (w.heap.size + 2) 218 4 (fun e => .int .i64 (cnt (xs.take k) (e : Int))) ∧ Below (w.heap.size + 2) (((w.alloc (.cells cs 221)).alloc (.cells #[.int .i64 0, .int .i64 0, .int .i64 0, .int .i64 0] 218)).alloc (.cells #[.int .i64 0, .int .i64 0, .int .i64 0, .int .i64 0] 218)) wr) (fun i _ => n - (intOf i).toNat)
  case atStart => exact ⟨0, Nat.zero_le _, rfl, (hrow0.out _).congr (fun i _ => by simp [cnt]), Below.refl _ _⟩
  case round =>
    obtain ⟨k, hk, rfl, hrow, hb⟩ := hrel
    by_cases hlt : k < n
    · have hck : wr.cell? ⟨w.heap.size, k, none⟩ = some (.int .i64 (gi xs k)) := by
        rw [cell_of_row wr _ k _ _ _ ((hb.block w.heap.size (by omega)).trans (hblk0.out _ _))]
        exact HV2.out k (by omega)
      have CT : Hid (∀ e, cnt (xs.take (k + 1)) e = cnt (xs.take k) e + if gi xs k = e then 1 else 0) := fun e => cnt_take xs k e (by rw [EX.out]; exact hlt)
      by_cases hf : gi xs k = -1
      · have hq : (gi xs k != -1) = false := by simp [hf]
        have HF := Lib.hid hf
        have HR := Lib.hid hrow
        have HB := Lib.hid hb
        clear hf hrow hb
        go_wp2
        go_roundw
        case rel =>
          refine ⟨k + 1, by omega, by go_num, HR.out.congr fun i _ => ?_, HB.out⟩
          rw [CT.out, if_neg (by rw [HF.out]; omega)]
          simp
        case measure => simp [intOf]; omega
      · have hq : (gi xs k != -1) = true := by simp [hf]
        obtain ⟨hx0, hx4⟩ := (bad_false (HBAD.out k hlt)).resolve_left hf
        obtain ⟨e, he⟩ : ∃ e : Nat, gi xs k = (e : Int) := ⟨(gi xs k).toNat, by omega⟩
        rw [he] at hck hq hx4
        have he4 : e < 4 := by omega
        have HE := Lib.hid he
        clear he hf hx0 hx4
        have hce := hrow.cell he4
        have hfe := hrow.frozen e
        have hcl := cnt_le (xs.take k) (e : Int)
        have hcl2 : (xs.take k).length ≤ k := List.length_take_le _ _
        have HR := Lib.hid (hrow.set e (.int .i64 ((cnt (xs.take k) (e : Int) : Int) + 1)))
        have HB := Lib.hid (hb.setCell (p := ⟨w.heap.size + 2, e, none⟩) (Nat.le_refl _) (.int .i64 ((cnt (xs.take k) (e : Int) : Int) + 1)))
        clear hrow hb
        go_wp2
        go_roundw
        case rel =>
          refine ⟨k + 1, by omega, by go_num, HR.out.congr fun i _ => ?_, HB.out⟩
          rw [CT.out, HE.out]
          by_cases h : i = e
          · subst h; simp
          · rw [if_neg h, if_neg (by omega)]; simp
        case measure => simp [intOf]; omega
    · obtain ⟨cur, hh, hsz, hcur⟩ := hrow
      have hcc : cur = cnts xs := cnts_of hsz (fun e he => by
        have := hcur e he
        rwa [List.take_of_length_le (by rw [EX.out]; omega)] at this)
      subst hcc
      have HH := Lib.hid hh
      have H1 := Lib.hid ((hb.block (w.heap.size + 1) (by omega)).trans (hblk1.out _ _))
      have HB := Lib.hid hb
      clear hh hsz hcur hb
      go_wp2_with (first
        | (refine wpList_load_row rfl 218 (.tmp 3) rfl (w.heap.size + 2) rfl _ _ (0, 0) _ HH.out Try.underlying218 rfl Try.size_cnt ?_)
        | (refine wpList_store_row rfl 218 (.tmp 2) (.tmp 23) rfl (w.heap.size + 1) (cnts xs) rfl rfl _ _ H1.out Try.size_cnt rfl (cnts_one xs) ?_))
      refine bodyPost_ret (results_cell_row rfl _ _ (w.heap.size + 1) _ (cnts xs) (0, 0) _ rfl (setRow_heap _ _ _ _ _ _ H1.out) Try.underlying218 rfl Try.size_cnt) rfl ⟨rfl, ?_⟩
      exact below_setRow ((hb3.out _ _ _).trans (HB.out.mono (by omega))) (by omega) _

theorem run_cnt (xs : List Int) (e : Nat) (he : e < 4) (W : World) : (Instr.index 218 (.agg (cnts xs)) (.int .i64 (e : Int))).run Try.prog W = .ok (.int .i64 (cnt xs (e : Int))) W := by
  rcases (show e = 0 ∨ e = 1 ∨ e = 2 ∨ e = 3 by omega) with rfl | rfl | rfl | rfl <;> kernel_rfl

/-- six slots or more -/
def full (xs : List Int) (e : Int) : Bool := decide ((6 : Int) ≤ (cnt xs e : Int))
theorem full_true {xs : List Int} {e : Int} (h : 6 ≤ cnt xs e) : full xs e = true := decide_eq_true (by omega)
theorem full_false {xs : List Int} {e : Int} (h : ¬ 6 ≤ cnt xs e) : full xs e = false := decide_eq_false (by omega)

end Go.Proofs.Ytaemegkdmbhpnaa
