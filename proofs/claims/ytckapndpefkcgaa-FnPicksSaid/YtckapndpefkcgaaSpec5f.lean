/-
  The model's l5Pick and its PickSched. No conditions beyond that the list can be read.
-/
import Derived.Test.YtckapndpefkcgaaSpec5e
set_option maxHeartbeats 1000000
namespace Go.Proofs.Ytckapndpefkcgaa
open Go.RowKit
set_option maxRecDepth 100000

theorem fl_set (xs : List R3) (k : Nat) (h : k < xs.length) (q : Int) : (fl xs).set (k * 3 + 2) q = fl (xs.set k ((g3 xs k).1, (g3 xs k).2.1, q)) := by
  induction xs generalizing k with
  | nil => simp at h
  | cons x t ih =>
    cases k with
    | zero => rfl
    | succ k =>
      have h' : k < t.length := by simpa using h
      have e1 : (k + 1) * 3 + 2 = (k * 3 + 2) + 3 := by omega
      have e2 : g3 (x :: t) (k + 1) = g3 t k := rfl
      rw [e1, e2]
      show ([x.1, x.2.1, x.2.2] ++ fl t).set ((k * 3 + 2) + 3) q = [x.1, x.2.1, x.2.2] ++ fl (t.set k _)
      rw [List.set_append_right _ _ (by simp)]
      rw [← ih k h']
      rfl
theorem pk_set {xs : List R3} (h : Ris xs) {k : Nat} (hk : k < xs.length) {v : R3} (hv : v.1 = (g3 xs k).1) : pk5 xs v = xs.set k v := by
  have up := h.up
  clear h
  induction xs generalizing k with
  | nil => simp at hk
  | cons x t ih =>
    rw [List.pairwise_cons] at up
    cases k with
    | zero =>
      have e : (g3 (x :: t) 0).1 = x.1 := rfl
      show (if x.1 = v.1 then v else x) :: pk5 t v = v :: t
      rw [if_pos (by rw [hv, e])]
      congr 1
      unfold pk5
      conv => rhs; rw [← List.map_id t]
      refine List.map_congr_left fun y hy => ?_
      have := up.1 y hy
      rw [if_neg (by rw [hv, e]; omega)]
      rfl
    | succ k =>
      have hk' : k < t.length := by simpa using hk
      have hv' : v.1 = (g3 t k).1 := hv
      have := up.1 _ (g3_mem hk')
      show (if x.1 = v.1 then v else x) :: pk5 t v = x :: t.set k v
      rw [if_neg (by rw [hv']; omega), ih hk' hv' up.2]

structure PS (w W : World) (O g c : Nat) (b : Int) (n : Nat) (fs : List Int) : Prop where
  ob : W.heap[O]? = some (.cells #[.int .i64 b, .slice (some ⟨g, 0, none⟩) n c] 43 (0, 0))
  rb : W.heap[w.heap.size]? = some (.cells #[.int .i64 0, .slice none 0 0] 43 (0, 0))
  ol : OR 52 3 W (w.heap.size + 1) (some ⟨g, 0, none⟩) n c fs
  bw : Below w.heap.size w W
theorem PS.drewN {w W : World} {O g c n : Nat} {b : Int} {fs : List Int} (h : PS w W O g c b n fs) (k : Nat) : PS w (W.drewN k) O g c b n fs := ⟨h.ob, h.rb, OR.drewN h.ol k, below_drewN h.bw k⟩

set_option maxHeartbeats 8000000 in
theorem l5Pick_any (lo hi : Nat) (A : Option Addr) (c s0 : Nat) (b : Int) (xs : List R3) (w : World) (hr : Ris xs) (h0 : 0 < xs.length) (ho : anyTo xs.length (badR b xs) = false) (hb : 0 ≤ b ∧ b ≤ 10000000) (h : RS w lo hi A xs)
    (hs : w.heap[s0]? = some (.cells #[.int .i64 b, .slice A xs.length c] 43 (0, 0))) :
    Calls Try.prog 76 #[.pointer (some ⟨s0, 0, none⟩)] w fun e w' => ∃ A' c', e = .returned (.tuple #[.agg #[.int .i64 (bas (pk5 xs (nxt5 (lst xs).1)) b), .slice A' (pk5 xs (nxt5 (lst xs).1)).length c'], .int .i64 (lst xs).1.1]) ∧
      OR 52 3 w' w.heap.size A' (pk5 xs (nxt5 (lst xs).1)).length c' (fl (pk5 xs (nxt5 (lst xs).1))) ∧ Below w.heap.size w w' := by
  have HR := Lib.hid hr; have HO := Lib.hid ho; have HB := Lib.hid hb; have HL5 := Lib.hid hr.len
  have hPL : (pk5 xs (nxt5 (lst xs).1)).length = xs.length := by unfold pk5; simp
  rw [hPL]
  obtain ⟨w1, hw1⟩ : ∃ w1, w1 = w.alloc (.cells #[.int .i64 0, .slice none 0 0] 43) := ⟨_, rfl⟩
  have K1 : Hid (w1.heap[w.heap.size]? = some (.cells #[.int .i64 0, .slice none 0 0] 43 (0, 0))) := by show _ = _; rw [hw1]; exact heap_alloc_new w _
  have N1 : Below w.heap.size w w1 := by rw [hw1]; exact below_new w _
  have B1 := Lib.hid N1
  have Z1 : Hid (w1.heap.size = w.heap.size + 1) := by show _ = _; rw [hw1]; simp
  have CP := Lib.hid (l5Copy_any lo (min hi w.heap.size) A c s0 b xs w1 hr.len h0 (Sl.below h.lt N1 (Nat.min_le_right _ _)) ((N1.block s0 (Array.getElem?_eq_some_iff.1 hs).1).trans hs))
  obtain ⟨n, hn'⟩ : ∃ n, n = xs.length := ⟨_, rfl⟩
  have HN := Lib.hid hn'
  have hn5 : n ≤ 5 := by have := HL5.out; omega
  have hn1 : 0 < n := by omega
  rw [← hn'] at CP ⊢
  have HW1 := Lib.hid hw1
  clear hr ho hb h hs hw1 N1 hn' h0 hPL
  go_enter Try.func76, Try.ntmps76
  go_upto_region 1 with (fail)
  rw [← HW1.out]
  clear HW1
  go_wp2_with fail
  refine CP.out.mono ?_
  rintro e w2 ⟨A', c', rfl, ho, hb⟩
  obtain ⟨g, rfl, g1, g2⟩ := ho.pos hn1
  obtain ⟨O, hO⟩ : ∃ O, O = w2.heap.size := ⟨_, rfl⟩
  obtain ⟨w3, hw3⟩ : ∃ w3, w3 = w2.alloc (.cells #[.int .i64 b, .slice (some ⟨g, 0, none⟩) n c'] 43) := ⟨_, rfl⟩
  have P3 : Hid (PS w w3 O g c' b n (fl xs)) := by
    have nb : Below w2.heap.size w2 w3 := by rw [hw3]; exact below_new w2 _
    refine ⟨?_, ?_, OR.mono (OR.below ho nb (Nat.le_refl _)) (by have := Z1.out; omega), (B1.out.trans (hb.mono B1.out.size)).trans (nb.mono (Nat.le_trans B1.out.size hb.size))⟩
    · rw [hw3, hO]; exact heap_alloc_new w2 _
    · exact (nb.block _ (by have := hb.size; have := Z1.out; omega)).trans ((hb.block _ (by have := Z1.out; omega)).trans K1.out)
  have OG : Hid (w.heap.size < O ∧ w.heap.size < g ∧ O ≠ g) := by show _ ∧ _ ∧ _; have := hb.size; have := Z1.out; omega
  have HW3 := Lib.hid hw3; have HO3 := Lib.hid hO
  clear hw3 ho hb g1 g2 CP hO
  go_upto_region 2 with (fail)
  rw [← HW3.out, ← HO3.out]
  clear HW3 HO3
  go_wp2
  go_loopw [5, 6] (fun q iv wr => ∃ (k at_ : Nat), k + 1 ≤ n ∧ at_ < k + 1 ∧ iv = .int .i64 ((k : Int) + 1) ∧ q = .int .i64 at_ ∧ lst (xs.take (k + 1)) = (g3 xs at_, true) ∧ PS w wr O g c' b n (fl xs)) (fun _ iv _ => n - (intOf iv).toNat)
  case atStart =>
    refine ⟨0, 0, by omega, by omega, rfl, rfl, ?_, P3.out⟩
    rw [take_snoc xs 0 (by have := HN.out; omega), List.take_zero, List.nil_append]
    unfold lst
    simp
  case round =>
    obtain ⟨k, at_, hk, hat, rfl, rfl, hl, hp⟩ := hrel
    have J := Lib.hid hp
    have HLS := Lib.hid hl
    have AT := Lib.hid hat
    have o0 := cell_of_row wr _ 0 _ _ _ hp.ob; have o1 := cell_of_row wr _ 1 _ _ _ hp.ob
    simp at o0 o1
    clear hp hl
    by_cases hlt : k + 1 < n
    · have LT := Lib.hid hlt
      have hlt' : (k : Int) + 1 < (n : Int) := by omega
      have LS := Lib.hid (lst_snoc (xs.take (k + 1)) (g3 xs (k + 1)))
      rw [← take_snoc xs (k + 1) (by have := HN.out; omega), HLS.out] at LS
      have a2 : wr.cell? ⟨g, (k + 1) * 3 + 2, none⟩ = some (.int .i64 (g3 xs (k + 1)).2.2) := by have e := J.out.ol.cell (j := (k + 1) * 3 + 2) (by have := HN.out; omega); rw [(fl_get xs (k + 1) (by have := HN.out; omega)).2.2] at e; exact e
      have b2 : wr.cell? ⟨g, at_ * 3 + 2, none⟩ = some (.int .i64 (g3 xs at_).2.2) := by have e := J.out.ol.cell (j := at_ * 3 + 2) (by have := HN.out; omega); rw [(fl_get xs at_ (by have := HN.out; omega)).2.2] at e; exact e
      have ha : at_ < n := by omega
      by_cases hx : (g3 xs (k + 1)).2.2 < (g3 xs at_).2.2
      · have L2 : Hid (lst (xs.take (k + 1 + 1)) = (g3 xs (k + 1), true)) := by show _ = _; rw [LS.out, if_pos (by right; exact hx)]
        clear LS HLS
        go_upto_region 6 with (fail)
        go_quiet (fail)
        go_wp2
        go_roundw
        case rel => exact ⟨k + 1, k + 1, by have := LT.out; omega, by omega, by go_num, by go_num, L2.out, J.out.drewN _⟩
        case measure => have := LT.out; simp [intOf]; omega
      · have L2 : Hid (lst (xs.take (k + 1 + 1)) = (g3 xs at_, true)) := by show _ = _; rw [LS.out, if_neg (by rintro (h | h); cases h; exact hx h)]
        clear LS HLS
        go_upto_region 6 with (fail)
        go_quiet (fail)
        go_wp2
        go_roundw
        case rel => exact ⟨k + 1, at_, by have := LT.out; omega, by have := AT.out; omega, by go_num, rfl, L2.out, J.out.drewN _⟩
        case measure => have := LT.out; simp [intOf]; omega
    · obtain rfl : n = k + 1 := by omega
      have TKN : Hid (xs.take (k + 1) = xs) := List.take_of_length_le (by have := HN.out; omega)
      rw [TKN.out] at HLS
      clear TKN
      have hax : at_ < xs.length := by have := HN.out; omega
      have OKX := Lib.hid (okR_mem HO.out (g3_mem hax))
      have NX : Hid ((nxt5 (lst xs).1).1 = (g3 xs at_).1) := by show _ = _; rw [HLS.out]; rfl
      have PK := Lib.hid (pk_set HR.out hax NX.out)
      have FS := Lib.hid (fl_set xs at_ hax ((g3 xs at_).2.2 + strd (g3 xs at_).2.1))
      have NE : Hid (nxt5 (lst xs).1 = ((g3 xs at_).1, (g3 xs at_).2.1, (g3 xs at_).2.2 + strd (g3 xs at_).2.1)) := by show _ = _; rw [HLS.out]; rfl
      rw [← NE.out, ← PK.out] at FS
      have LL : Hid ((lst xs).1.1 = (g3 xs at_).1) := by show _ = _; rw [HLS.out]
      have PL : Hid ((pk5 xs (nxt5 (lst xs).1)).length = k + 1) := by show _ = _; unfold pk5; have := HN.out; simp; omega
      have a1 : wr.cell? ⟨g, at_ * 3 + 1, none⟩ = some (.int .i64 (g3 xs at_).2.1) := by have e := J.out.ol.cell (j := at_ * 3 + 1) (by have := HN.out; omega); rw [(fl_get xs at_ (by have := HN.out; omega)).2.1] at e; exact e
      have a2 : wr.cell? ⟨g, at_ * 3 + 2, none⟩ = some (.int .i64 (g3 xs at_).2.2) := by have e := J.out.ol.cell (j := at_ * 3 + 2) (by have := HN.out; omega); rw [(fl_get xs at_ (by have := HN.out; omega)).2.2] at e; exact e
      have a0 : wr.cell? ⟨g, at_ * 3, none⟩ = some (.int .i64 (g3 xs at_).1) := by have e := J.out.ol.cell (j := at_ * 3) (by have := HN.out; omega); rw [(fl_get xs at_ (by have := HN.out; omega)).1] at e; exact e
      have fr := J.out.ol.frozen (at_ * 3 + 2)
      have GIS : Hid (∀ q, gi ((fl xs).set (at_ * 3 + 2) q) (at_ * 3) = (g3 xs at_).1) := fun q => by
        unfold gi
        rw [List.getD_eq_getElem?_getD, List.getElem?_set_ne (by omega), ← List.getD_eq_getElem?_getD]
        exact (fl_get xs at_ hax).1
      obtain ⟨⟨x0, x1, x2⟩, hx⟩ : ∃ x : R3, x = g3 xs at_ := ⟨_, rfl⟩
      rw [← hx] at a0 a1 a2 OKX NX FS NE LL GIS
      obtain ⟨ys, hys⟩ : ∃ ys, ys = pk5 xs (nxt5 (lst xs).1) := ⟨_, rfl⟩
      rw [← hys] at FS PL
      have HYS := Lib.hid hys
      clear hx hys NX PK NE HLS
      have OK2 := Lib.hid (show okT x1 = true ∧ b ≤ x2 ∧ x2 ≤ b + 2520 by
        have h1 := OKX.out
        unfold okR at h1
        simp at h1
        have := strd_in h1.1.2
        exact ⟨h1.1.2, by omega, by omega⟩)
      obtain ⟨t1, t2⟩ := okT_iff.1 OK2.out.1
      have SI := Lib.hid (strd_in OK2.out.1)
      have tn : ¬ x1 = 0 := by omega
      have hd : (2520 : Int).tdiv x1 = strd x1 := Int.tdiv_eq_ediv_of_nonneg (by omega)
      have hw : IntKind.i64.wrap (strd x1) = strd x1 := IntWalk.i64_in _ (by have := SI.out; omega)
      have hw2 : IntKind.i64.wrap (x2 + strd x1) = x2 + strd x1 := IntWalk.i64_in _ (by have := SI.out; have := OK2.out; have := HB.out; omega)
      have ha : at_ < k + 1 := AT.out
      have A0 : Hid (x0 = gi (fl ys) (at_ * 3)) := by
        show _ = _
        rw [← FS.out, GIS.out]
      clear t1 t2
      go_upto_region 8 with (fail)
      go_region
      obtain ⟨w8, hw8⟩ : ∃ w8, w8 = (wr.setCell ⟨g, at_ * 3 + 2, none⟩ (.int .i64 (x2 + strd x1))).drew := ⟨_, rfl⟩
      rw [← hw8]
      have P8 : Hid (PS w w8 O g c' b (k + 1) (fl ys)) := by
        rw [hw8, ← FS.out]
        have h1 := OG.out
        exact ⟨(Below.heap_setCell _ _ _ _ (by simp; omega)).trans J.out.ob, (Below.heap_setCell _ _ _ _ (by simp; omega)).trans J.out.rb, OR.drewN (OR.set J.out.ol _ _) 1, (J.out.bw.setCell (p := ⟨g, at_ * 3 + 2, none⟩) (by simp; omega) _).drew⟩
      have LE : Hid (∀ V, Below w8.heap.size w8 V → Calls Try.prog 97 #[.slice (some ⟨g, 0, none⟩) (k + 1) c', .int .i64 b] V fun e w' => e = .returned (.int .i64 (bas ys b)) ∧ V = w') := fun V hV => by
        have o := P8.out.ol
        rw [← PL.out] at o ⊢
        exact l5Least_any (w.heap.size + 1) w8.heap.size _ c' b ys V (by have := PL.out; omega) (Sl.below (OR.sl0 o) hV (Nat.le_refl _))
      obtain ⟨nb, hnb⟩ : ∃ nb, nb = bas ys b := ⟨_, rfl⟩
      rw [← hnb] at LE
      have HNB := Lib.hid hnb
      clear hnb o0 o1 a0 a1 a2 fr hd hw hw2 tn hw8
      have o0 := cell_of_row w8 _ 0 _ _ _ P8.out.ob; have o1 := cell_of_row w8 _ 1 _ _ _ P8.out.ob; have fo0 := frozen_of_row w8 _ 0 _ _ P8.out.ob
      simp at o0 o1
      go_wp2_with fail
      refine (LE.out _ (Below.refl _ _)).mono ?_
      rintro e9 w9' ⟨rfl, rfl⟩
      obtain ⟨w9, hw9⟩ : ∃ w9, w9 = w8.setCell ⟨O, 0, none⟩ (.int .i64 nb) := ⟨_, rfl⟩
      have P9 : Hid (PS w w9 O g c' nb (k + 1) (fl ys)) := by
        rw [hw9]
        have h1 := OG.out
        exact ⟨heap_setCell_same _ _ 0 _ _ _ P8.out.ob, (Below.heap_setCell _ _ _ _ (by simp; omega)).trans P8.out.rb, OR.setOther P8.out.ol P8.out.ob (by decide) 0 _, P8.out.bw.setCell (p := ⟨O, 0, none⟩) (by simp; omega) _⟩
      have HW9 := Lib.hid hw9
      clear hw9
      go_upto_region 10 with (fail)
      rw [← HW9.out]
      clear HW9 o0 o1 fo0 LE
      have a0 : w9.cell? ⟨g, at_ * 3, none⟩ = some (.int .i64 x0) := by
        have e := P9.out.ol.cell (j := at_ * 3) (by have := AT.out; omega)
        rw [← A0.out] at e
        exact e
      have t0 := cell_of_row w9 _ 0 _ _ _ P9.out.ob; have t1 := cell_of_row w9 _ 1 _ _ _ P9.out.ob
      have z0 := cell_of_row w9 _ 0 _ _ _ P9.out.rb; have z1 := cell_of_row w9 _ 1 _ _ _ P9.out.rb; have f0 := frozen_of_row w9 _ 0 _ _ P9.out.rb; have f1 := frozen_of_row w9 _ 1 _ _ P9.out.rb
      simp at t0 t1 z0 z1
      have h1 : w.heap.size ≠ g := by have := OG.out; omega
      have h2 : w.heap.size ≠ O := by have := OG.out; omega
      have h3 : g ≠ w.heap.size := by have := OG.out; omega
      have h4 : O ≠ w.heap.size := by have := OG.out; omega
      go_region
      obtain ⟨w10, hw10⟩ : ∃ w10, w10 = ((w9.setCell ⟨w.heap.size, 0, none⟩ (.int .i64 nb)).setCell ⟨w.heap.size, 1, none⟩ (.slice (some ⟨g, 0, none⟩) (k + 1) c')).drew := ⟨_, rfl⟩
      rw [← hw10]
      have X10 : Hid (w10.heap[w.heap.size]? = some (.cells #[.int .i64 nb, .slice (some ⟨g, 0, none⟩) (k + 1) c'] 43 (0, 0))) := by show _ = _; rw [hw10]; exact heap_setCell_same _ _ 1 _ _ _ (heap_setCell_same _ _ 0 _ _ _ P9.out.rb)
      have O10 : Hid (OR 52 3 w10 (w.heap.size + 1) (some ⟨g, 0, none⟩) (k + 1) c' (fl ys)) := by rw [hw10]; exact OR.drewN (OR.setOther (OR.setOther P9.out.ol P9.out.rb (by decide) 0 _) (heap_setCell_same _ _ 0 _ _ _ P9.out.rb) (by decide) 1 _) 1
      have B10 : Hid (Below w.heap.size w w10) := by rw [hw10]; exact ((P9.out.bw.setCell (p := ⟨w.heap.size, 0, none⟩) (Nat.le_refl _) _).setCell (p := ⟨w.heap.size, 1, none⟩) (Nat.le_refl _) _).drew
      clear hw10 z0 z1 f0 f1 t0 t1 a0
      go_wp2
      refine bodyPost_ret (results_row_tmp rfl _ _ w.heap.size _ _ (0, 0) _ rfl X10.out Try.underlying43 rfl (by kernel_rfl)) rfl ?_
      refine ⟨some ⟨g, 0, none⟩, c', by rw [← HYS.out, LL.out, ← HNB.out]; rfl, ?_, B10.out⟩
      rw [← HYS.out]
      exact OR.mono O10.out (by omega)

def pq5 (b : Int) (xs : List R3) : Int := if xs = [] then 4 else if 10000000 < b + 2520 then 8 else 0
theorem l5Picks_big (A : Option Addr) (c s0 : Nat) (b : Int) (xs : List R3) (w : World) (hb : 0 ≤ b ∧ b ≤ 100000000) (hl : xs.length ≤ 5) (hs : w.heap[s0]? = some (.cells #[.int .i64 b, .slice A xs.length c] 43 (0, 0))) :
    Calls Try.prog 75 #[.pointer (some ⟨s0, 0, none⟩)] w fun e w' => e = .returned (.int .i64 (pq5 b xs)) ∧ w = w' := by
  have q0 := cell_of_row w _ 0 _ _ _ hs; have q1 := cell_of_row w _ 1 _ _ _ hs
  simp at q0 q1
  have hw : IntKind.i64.wrap (b + 2520) = b + 2520 := IntWalk.i64_in _ (by omega)
  have HX : Hid (xs = [] ↔ xs.length = 0) := by show _ ↔ _; exact List.length_eq_zero_iff.symm
  obtain ⟨n, hn⟩ : ∃ n, n = xs.length := ⟨_, rfl⟩
  rw [← hn] at q1 HX
  clear hs hn
  by_cases h0 : n = 0
  · have Q : Hid (pq5 b xs = 4) := by show _ = _; unfold pq5; rw [if_pos (HX.out.2 h0)]
    have h0'' : (n : Int) = 0 := by omega
    go_enter Try.func75, Try.ntmps75
    go_wp2
    go_ret
    exact ⟨ret_i64 Q.out.symm, rfl⟩
  · have hn : ¬ (n : Int) = 0 := by omega
    by_cases hf : 10000000 < b + 2520
    · have Q : Hid (pq5 b xs = 8) := by show _ = _; unfold pq5; rw [if_neg (fun h => h0 (HX.out.1 h)), if_pos hf]
      go_enter Try.func75, Try.ntmps75
      go_wp2
      go_ret
      exact ⟨ret_i64 Q.out.symm, rfl⟩
    · have Q : Hid (pq5 b xs = 0) := by show _ = _; unfold pq5; rw [if_neg (fun h => h0 (HX.out.1 h)), if_neg hf]
      go_enter Try.func75, Try.ntmps75
      go_wp2
      go_ret
      exact ⟨ret_i64 Q.out.symm, rfl⟩

theorem l5Picks_any (A : Option Addr) (c s0 : Nat) (b : Int) (xs : List R3) (w : World) (hb : 0 ≤ b ∧ b ≤ 10000000) (hl : xs.length ≤ 5) (hs : w.heap[s0]? = some (.cells #[.int .i64 b, .slice A xs.length c] 43 (0, 0))) :
    Calls Try.prog 75 #[.pointer (some ⟨s0, 0, none⟩)] w fun e w' => e = .returned (.int .i64 (pq5 b xs)) ∧ w = w' :=
  l5Picks_big A c s0 b xs w ⟨hb.1, by omega⟩ hl hs
set_option maxHeartbeats 8000000 in
theorem specPickSched_any (lo hi : Nat) (A : Option Addr) (c : Nat) (b : Int) (xs : List R3) (w : World) (hn : xs.length ≤ 9223372036854775807) (h : RS w lo hi A xs) :
    Calls Try.prog 49 #[.agg #[.int .i64 b, .slice A xs.length c]] w (SA (pick5 b xs) w) := by
  have H := Lib.hid h.lt
  obtain ⟨n, hn'⟩ : ∃ n, n = xs.length := ⟨_, rfl⟩
  have HN := Lib.hid hn'
  have HNN := Lib.hid hn
  rw [← hn']
  clear h hn' hn
  obtain ⟨w1, hw1⟩ : ∃ w1, w1 = (w.alloc (.cells #[.int .i64 b, .slice A n c] 43)).alloc (.cells #[.int .i64 0, .int .i64 0, .int .i64 0, .int .i64 0, .slice none 0 0] 56) := ⟨_, rfl⟩
  have K1 : Hid (w1.heap[w.heap.size]? = some (.cells #[.int .i64 b, .slice A n c] 43 (0, 0))) := by show _ = _; rw [hw1]; exact heap_alloc2_old w _ _
  have K2 : Hid (w1.heap[w.heap.size + 1]? = some (.cells #[.int .i64 0, .int .i64 0, .int .i64 0, .int .i64 0, .slice none 0 0] 56 (0, 0))) := by show _ = _; rw [hw1]; exact heap_alloc2_new w _ _
  have B1 : Hid (Below w.heap.size w w1) := by rw [hw1]; exact (below_new w _).alloc (by simp) _
  have Z1 : Hid (w1.heap.size = w.heap.size + 2) := by show _ = _; rw [hw1]; simp
  have KS : Hid (∀ W, Below w1.heap.size w1 W → W.cell? ⟨w.heap.size, 0, none⟩ = some (.int .i64 b) ∧ W.cell? ⟨w.heap.size, 1, none⟩ = some (.slice A n c)) := fun W hW => by
    have j := (hW.block w.heap.size (by have := Z1.out; omega)).trans K1.out
    exact ⟨cell_of_row W _ 0 _ _ _ j, cell_of_row W _ 1 _ _ _ j⟩
  have KR : Hid (∀ W, Below w1.heap.size w1 W → W.heap[w.heap.size + 1]? = some (.cells #[.int .i64 0, .int .i64 0, .int .i64 0, .int .i64 0, .slice none 0 0] 56 (0, 0))) := fun W hW => (hW.block (w.heap.size + 1) (by have := Z1.out; omega)).trans K2.out
  have FIN : Hid (∀ W, Below w1.heap.size w1 W → Below w.heap.size w W) := fun W hW => B1.out.trans (hW.mono (by have := Z1.out; omega))
  have H1 := Lib.hid (H.out.below B1.out (Nat.min_le_right _ _))
  have SF := Lib.hid (specSchedFault_any lo (min hi w.heap.size) A c b xs w1 HNN.out H1.out)
  rw [← HN.out] at SF
  obtain ⟨q0, q1⟩ := KS.out w1 (Below.refl _ _)
  have HW1 := Lib.hid hw1
  clear hw1
  by_cases hk : sf5 b xs = 0
  rotate_left
  · have HA : Hid (pick5 b xs = e5 (sf5 b xs)) := by show _ = _; unfold pick5; rw [if_pos hk]
    have hk2 : (sf5 b xs != 0) = true := by simpa using hk
    go_enter Try.func49, Try.ntmps49
    go_upto_region 1 with (fail)
    rw [← HW1.out]
    clear HW1
    go_wp2_with fail
    refine SF.out.mono ?_
    rintro e w2 ⟨rfl, hb⟩
    have B2 := Lib.hid hb
    clear hb SF
    have RB := KR.out w2 B2.out
    have r0 := cell_of_row w2 _ 0 _ _ _ RB; have f0 := frozen_of_row w2 _ 0 _ _ RB
    have r1 := cell_of_row w2 _ 1 _ _ _ RB; have f1 := frozen_of_row w2 _ 1 _ _ RB
    have r2 := cell_of_row w2 _ 2 _ _ _ RB; have f2 := frozen_of_row w2 _ 2 _ _ RB
    have r3 := cell_of_row w2 _ 3 _ _ _ RB; have f3 := frozen_of_row w2 _ 3 _ _ RB
    have r4 := cell_of_row w2 _ 4 _ _ _ RB; have f4 := frozen_of_row w2 _ 4 _ _ RB
    simp at r0 r1 r2 r3 r4
    have HRB := Lib.hid RB
    clear RB
    generalize sf5 b xs = q at *
    go_wp2
    refine bodyPost_ret (results_cell_row rfl _ _ _ _ _ (0, 0) _ rfl (set5_block HRB.out _ _ _ _ _) Try.underlying56 rfl (by kernel_rfl)) rfl ?_
    rw [HA.out]
    exact sa_box HRB.out (by omega) (FIN.out _ B2.out) (e5 (q)) (OR.void _ _)
  obtain ⟨z1, z2, z3, z4⟩ := sf5_zero hk
  have HB := Lib.hid z1; have HO := Lib.hid z2; have HR := Lib.hid z3; have HM := Lib.hid z4
  have HK := Lib.hid hk
  rw [hk] at SF
  clear hk z1 z2 z3 z4
  go_enter Try.func49, Try.ntmps49
  go_upto_region 1 with (fail)
  rw [← HW1.out]
  clear HW1
  go_wp2_with fail
  refine SF.out.mono ?_
  rintro e w2 ⟨rfl, hb⟩
  have B2 := Lib.hid hb
  clear hb SF q0 q1
  obtain ⟨q0, q1⟩ := KS.out w2 B2.out
  have HA : Hid (pick5 b xs = if xs = [] then e5 4 else if 10000000 < b + 2520 then e5 8 else (0, (lst xs).1.1, 0, bas (pk5 xs (nxt5 (lst xs).1)) b, pk5 xs (nxt5 (lst xs).1))) := by
    show _ = _
    unfold pick5
    rw [if_neg (by rw [HK.out]; decide)]
  have PQ := Lib.hid (l5Picks_any A c w.heap.size b xs w2 HB.out HR.out.len (by rw [← HN.out]; exact (B2.out.block w.heap.size (by have := Z1.out; omega)).trans K1.out))
  by_cases hq : pq5 b xs = 0
  rotate_left
  · have H4 : Hid (pick5 b xs = e5 (pq5 b xs)) := by
      show _ = _
      rw [HA.out]
      unfold pq5 at hq ⊢
      by_cases h1 : xs = []
      · rw [if_pos h1, if_pos h1]
      · rw [if_neg h1] at hq ⊢
        rw [if_neg h1]
        by_cases h2 : 10000000 < b + 2520
        · rw [if_pos h2, if_pos h2]
        · rw [if_neg h2] at hq; exact absurd rfl hq
    have hk2 : (pq5 b xs != 0) = true := by simpa using hq
    generalize pq5 b xs = q at *
    go_wp2_with fail
    refine PQ.out.mono ?_
    rintro e9 w9 ⟨rfl, rfl⟩
    clear PQ
    have RB := KR.out _ B2.out
    have r0 := cell_of_row w2 _ 0 _ _ _ RB; have f0 := frozen_of_row w2 _ 0 _ _ RB
    have r1 := cell_of_row w2 _ 1 _ _ _ RB; have f1 := frozen_of_row w2 _ 1 _ _ RB
    have r2 := cell_of_row w2 _ 2 _ _ _ RB; have f2 := frozen_of_row w2 _ 2 _ _ RB
    have r3 := cell_of_row w2 _ 3 _ _ _ RB; have f3 := frozen_of_row w2 _ 3 _ _ RB
    have r4 := cell_of_row w2 _ 4 _ _ _ RB; have f4 := frozen_of_row w2 _ 4 _ _ RB
    simp at r0 r1 r2 r3 r4
    have HRB := Lib.hid RB
    clear RB
    go_wp2
    refine bodyPost_ret (results_cell_row rfl _ _ _ _ _ (0, 0) _ rfl (set5_block HRB.out _ _ _ _ _) Try.underlying56 rfl (by kernel_rfl)) rfl ?_
    rw [H4.out]
    exact sa_box HRB.out (by omega) (FIN.out _ B2.out) (e5 (q)) (OR.void _ _)
  have h1 : xs ≠ [] := fun h => by unfold pq5 at hq; rw [if_pos h] at hq; exact absurd hq (by decide)
  have h2 : ¬ 10000000 < b + 2520 := fun h => by unfold pq5 at hq; rw [if_neg h1, if_pos h] at hq; exact absurd hq (by decide)
  have H0 : Hid (pick5 b xs = (0, (lst xs).1.1, 0, bas (pk5 xs (nxt5 (lst xs).1)) b, pk5 xs (nxt5 (lst xs).1))) := by show _ = _; rw [HA.out, if_neg h1, if_neg h2]
  have PI := Lib.hid (l5Pick_any lo (min hi w.heap.size) A c w.heap.size b xs w2 HR.out (List.length_pos_iff.2 h1) HO.out HB.out (H1.out.below B2.out (by have := Z1.out; omega)) (by rw [← HN.out]; exact (B2.out.block w.heap.size (by have := Z1.out; omega)).trans K1.out))
  rw [hq] at PQ
  generalize pk5 xs (nxt5 (lst xs).1) = ys at *
  generalize bas ys b = nb at *
  generalize (lst xs).1.1 = iv5 at *
  clear h1 h2 hq
  go_wp2_with fail
  refine PQ.out.mono ?_
  rintro e9 w9 ⟨rfl, rfl⟩
  clear PQ
  go_wp2_with fail
  refine PI.out.mono ?_
  rintro e w3 ⟨A', c', rfl, ho, hb⟩
  obtain ⟨w4, hw4⟩ : ∃ w4, w4 = w3.alloc (.cells #[.int .i64 nb, .slice A' ys.length c'] 43) := ⟨_, rfl⟩
  have X4 := Lib.hid (show w4.heap[w3.heap.size]? = some (.cells #[.int .i64 nb, .slice A' ys.length c'] 43 (0, 0)) by rw [hw4]; exact heap_alloc_new w3 _)
  have N4 : Below w3.heap.size w3 w4 := by rw [hw4]; exact below_new w3 _
  have B4 := Lib.hid ((B2.out.trans (hb.mono B2.out.size)).trans (N4.mono (Nat.le_trans B2.out.size hb.size)))
  have O4 := Lib.hid (OR.below (OR.mono (base' := w.heap.size) ho (by have := B2.out.size; have := Z1.out; omega)) N4 (Nat.le_refl _))
  have HW4 := Lib.hid hw4
  have l0 := cell_of_row w4 _ 0 _ _ _ X4.out; have l1 := cell_of_row w4 _ 1 _ _ _ X4.out
  simp at l0 l1
  clear ho hb hw4 N4 PI q0 q1
  go_upto_region 8 with (fail)
  rw [← HW4.out]
  clear HW4
  have RB := KR.out _ B4.out
  have r0 := cell_of_row w4 _ 0 _ _ _ RB; have f0 := frozen_of_row w4 _ 0 _ _ RB
  have r1 := cell_of_row w4 _ 1 _ _ _ RB; have f1 := frozen_of_row w4 _ 1 _ _ RB
  have r2 := cell_of_row w4 _ 2 _ _ _ RB; have f2 := frozen_of_row w4 _ 2 _ _ RB
  have r3 := cell_of_row w4 _ 3 _ _ _ RB; have f3 := frozen_of_row w4 _ 3 _ _ RB
  have r4 := cell_of_row w4 _ 4 _ _ _ RB; have f4 := frozen_of_row w4 _ 4 _ _ RB
  simp at r0 r1 r2 r3 r4
  have HRB := Lib.hid RB
  clear RB
  go_wp2
  refine bodyPost_ret (results_cell_row rfl _ _ _ _ _ (0, 0) _ rfl (set5_block HRB.out _ _ _ _ _) Try.underlying56 rfl (by kernel_rfl)) rfl ?_
  rw [H0.out]
  exact sa_box HRB.out (by omega) (FIN.out _ B4.out) ((0, iv5, 0, nb, ys)) (O4.out)

end Go.Proofs.Ytckapndpefkcgaa
