/-
  The program's RebaseSched. No conditions beyond that the list can be read.
-/
import Derived.Test.YtckapndpefkcgaaAns5
import Derived.Test.YtckapndpefkcgaaRange5
set_option maxHeartbeats 1000000
namespace Go.Proofs.Ytckapndpefkcgaa
open Go.RowKit Go.Shelf
set_option maxRecDepth 100000
attribute [local go_sem] Oper.semAt_some

def mp5 (b : Int) (xs pre : List R3) (j : Int) : Option R3 := match mth pre j with
  | some x => some (sh5 b x)
  | none => mth xs j
theorem upTo_id {xs : List R3} {k : Nat} {y : R3} (h : y ∈ upTo (mth xs) k) : 0 ≤ y.1 ∧ y.1 < k := by
  unfold upTo at h
  simp only [List.mem_filterMap, List.mem_range] at h
  obtain ⟨j, hj, hy⟩ := h
  have := (mth_mem hy).2
  omega
theorem mp5_at (b : Int) (xs : List R3) (k : Nat) : mp5 b xs (upTo (mth xs) k) (k : Int) = mth xs (k : Int) := by
  have h : mth (upTo (mth xs) k) (k : Int) = none := mth_none.2 fun y hy => by have := upTo_id hy; omega
  unfold mp5
  rw [h]
theorem mp5_snoc (b : Int) {xs pre : List R3} {x : R3} (h : nextOf (mth xs) pre x) (j : Int) : mp5 b xs (pre ++ [x]) j = if j = x.1 then some (sh5 b x) else mp5 b xs pre j := by
  obtain ⟨k, hk, rfl, hx⟩ := h
  have hi := (mth_mem hx).2
  unfold mp5
  rw [mth_snoc _ _ (fun y hy => by have := upTo_id hy; omega) j]
  by_cases e : j = x.1
  · rw [if_pos e, if_pos e]
  · rw [if_neg e, if_neg e]
theorem mth_sh (b : Int) (xs : List R3) (j : Int) : mth (xs.map (sh5 b)) j = (mth xs j).map (sh5 b) := by
  unfold mth
  rw [List.find?_map]
  rfl
theorem mp5_all (b : Int) (xs : List R3) (j : Int) : mp5 b xs xs j = mth (xs.map (sh5 b)) j := by
  rw [mth_sh]
  unfold mp5
  cases mth xs j <;> rfl
theorem lst_sh (b : Int) (xs : List R3) : (lst (xs.map (sh5 b))).2 = (lst xs).2 ∧ ((lst xs).2 = true → (lst (xs.map (sh5 b))).1 = sh5 b (lst xs).1) := by
  have key : ∀ n, ∀ xs : List R3, xs.length = n → (lst (xs.map (sh5 b))).2 = (lst xs).2 ∧ ((lst xs).2 = true → (lst (xs.map (sh5 b))).1 = sh5 b (lst xs).1) := by
    intro n
    induction n with
    | zero => intro xs h; rw [List.length_eq_zero_iff.1 h]; exact ⟨rfl, fun h => by cases h⟩
    | succ n ih =>
      intro xs h
      obtain ⟨ys, y, rfl⟩ : ∃ ys y, xs = ys ++ [y] := by
        rcases List.eq_nil_or_concat xs with h0 | ⟨ys, y, h0⟩
        · rw [h0] at h; cases h
        · exact ⟨ys, y, by rw [h0, List.concat_eq_append]⟩
      obtain ⟨i1, i2⟩ := ih ys (by simpa using h)
      rw [List.map_append]
      show (lst (ys.map (sh5 b) ++ [sh5 b y])).2 = _ ∧ (_ → (lst (ys.map (sh5 b) ++ [sh5 b y])).1 = _)
      rw [lst_snoc, lst_snoc, i1]
      rcases hb : (lst ys).2 with _ | _
      · rw [if_pos (.inl rfl), if_pos (.inl rfl)]; exact ⟨rfl, fun _ => rfl⟩
      · have i3 := i2 hb
        rw [i3]
        by_cases e : y.2.2 < (lst ys).1.2.2
        · rw [if_pos (.inr (by show y.2.2 - b < (lst ys).1.2.2 - b; omega)), if_pos (.inr e)]; exact ⟨rfl, fun _ => rfl⟩
        · rw [if_neg (by rintro (h | h); cases h; exact e (by have h : y.2.2 - b < (lst ys).1.2.2 - b := h; omega)), if_neg (by rintro (h | h); cases h; exact e h)]
          exact ⟨i1, fun _ => i3⟩
  exact key _ xs rfl
theorem bas_sh {b : Int} {xs : List R3} (h : bas xs b = b) : bas (xs.map (sh5 b)) 0 = 0 := by
  obtain ⟨i1, i2⟩ := lst_sh b xs
  unfold bas at h ⊢
  rw [i1]
  rcases hb : (lst xs).2 with _ | _
  · rfl
  · rw [hb] at h
    rw [if_pos rfl, i2 hb]
    show (lst xs).1.2.2 - b = 0
    rw [if_pos rfl] at h
    omega

set_option maxHeartbeats 8000000 in
theorem implRebaseSched_any (lo hi : Nat) (A : Option Addr) (c : Nat) (b : Int) (xs : List R3) (w : World) (hn : xs.length ≤ 9223372036854775807) (h : RS w lo hi A xs) :
    Calls Try.prog 47 #[.agg #[.int .i64 b, .slice A xs.length c]] w (SA (rebase5 b xs) w) := by
  have H := Lib.hid h.lt
  obtain ⟨n, hn'⟩ : ∃ n, n = xs.length := ⟨_, rfl⟩
  have HN := Lib.hid hn'
  have HNN := Lib.hid hn
  rw [← hn']
  clear h hn' hn
  obtain ⟨w1, hw1⟩ : ∃ w1, w1 = (w.alloc (.cells #[.int .i64 b, .slice A n c] 43)).alloc (.cells #[.int .i64 0, .int .i64 0, .int .i64 0, .int .i64 0, .slice none 0 0] 56) := ⟨_, rfl⟩
  have K1 : Hid (w1.heap[w.heap.size]? = some (.cells #[.int .i64 b, .slice A n c] 43 (0, 0))) := by show _ = _; rw [hw1]; exact heap_alloc2_old w _ _
  have K2 : Hid (w1.heap[w.heap.size + 1]? = some (.cells #[.int .i64 0, .int .i64 0, .int .i64 0, .int .i64 0, .slice none 0 0] 56 (0, 0))) := by show _ = _; rw [hw1]; exact heap_alloc2_new w _ _
  have B1 : Hid (Below w.heap.size w w1) := by rw [hw1]; exact (below_new w _).alloc (by simp) _
  have Z1 : Hid (w1.heap.size = w.heap.size + 2) := by show _ = _; rw [hw1]; simp
  have KS : Hid (∀ W, Below w1.heap.size w1 W → W.cell? ⟨w.heap.size, 0, none⟩ = some (.int .i64 b) ∧ W.cell? ⟨w.heap.size, 1, none⟩ = some (.slice A n c)) := fun W hW => by
    have j := (hW.block w.heap.size (by have := Z1.out; omega)).trans K1.out
    exact ⟨cell_of_row W _ 0 _ _ _ j, cell_of_row W _ 1 _ _ _ j⟩
  have KR : Hid (∀ W, Below w1.heap.size w1 W → W.heap[w.heap.size + 1]? = some (.cells #[.int .i64 0, .int .i64 0, .int .i64 0, .int .i64 0, .slice none 0 0] 56 (0, 0))) := fun W hW => (hW.block (w.heap.size + 1) (by have := Z1.out; omega)).trans K2.out
  have FIN : Hid (∀ W, Below w1.heap.size w1 W → Below w.heap.size w W) := fun W hW => B1.out.trans (hW.mono (by have := Z1.out; omega))
  have H1 := Lib.hid (H.out.below B1.out (Nat.min_le_right _ _))
  have SF := Lib.hid (implSchedFault_any lo (min hi w.heap.size) A c b xs w1 HNN.out H1.out)
  rw [← HN.out] at SF
  obtain ⟨q0, q1⟩ := KS.out w1 (Below.refl _ _)
  have HW1 := Lib.hid hw1
  clear hw1
  by_cases hk : sf5 b xs = 0
  rotate_left
  · have HA : Hid (rebase5 b xs = e5 (sf5 b xs)) := by show _ = _; unfold rebase5; rw [if_pos hk]
    have hk2 : (sf5 b xs != 0) = true := by simpa using hk
    refine (callsIn_wide (n := 3)).1 ?_
    refine callsIn_of_wp_marks Try.func47 rfl trivial ?_ rfl
    simp only [Try.ntmps47, List.size_toArray, List.length_cons, List.length_nil, Nat.reduceAdd, Nat.reduceSub, Array.replicate_succ, Array.replicate_zero, List.push_toArray, List.append_toArray, List.nil_append, List.cons_append]
    refine wpIn_wide.2 ?_
    go_upto_region 1 with (fail)
    rw [← HW1.out]
    clear HW1
    go_wp2_with fail
    refine SF.out.mono ?_
    rintro e w2 ⟨rfl, hb⟩
    have B2 := Lib.hid hb
    clear hb SF
    have RB := KR.out w2 B2.out
    have r0 := cell_of_row w2 _ 0 _ _ _ RB; have f0 := frozen_of_row w2 _ 0 _ _ RB
    have r1 := cell_of_row w2 _ 1 _ _ _ RB; have f1 := frozen_of_row w2 _ 1 _ _ RB
    have r2 := cell_of_row w2 _ 2 _ _ _ RB; have f2 := frozen_of_row w2 _ 2 _ _ RB
    have r3 := cell_of_row w2 _ 3 _ _ _ RB; have f3 := frozen_of_row w2 _ 3 _ _ RB
    have r4 := cell_of_row w2 _ 4 _ _ _ RB; have f4 := frozen_of_row w2 _ 4 _ _ RB
    simp at r0 r1 r2 r3 r4
    have HRB := Lib.hid RB
    clear RB
    generalize sf5 b xs = q at *
    go_wp2
    refine ⟨_, results_cell_row rfl _ _ _ _ _ (0, 0) _ rfl (set5_block HRB.out _ _ _ _ _) Try.underlying56 rfl (by kernel_rfl), ?_⟩
    rw [HA.out]
    exact sa_box HRB.out (by omega) (FIN.out _ B2.out) (e5 (q)) (OR.void _ _)
  obtain ⟨z1, z2, z3, z4⟩ := sf5_zero hk
  have HB := Lib.hid z1; have HO := Lib.hid z2; have HR := Lib.hid z3; have HM := Lib.hid z4
  have HK := Lib.hid hk
  rw [hk] at SF
  clear hk z1 z2 z3 z4
  refine (callsIn_wide (n := 3)).1 ?_
  refine callsIn_of_wp_marks Try.func47 rfl trivial ?_ rfl
  simp only [Try.ntmps47, List.size_toArray, List.length_cons, List.length_nil, Nat.reduceAdd, Nat.reduceSub, Array.replicate_succ, Array.replicate_zero, List.push_toArray, List.append_toArray, List.nil_append, List.cons_append]
  refine wpIn_wide.2 ?_
  go_upto_region 1 with (fail)
  rw [← HW1.out]
  clear HW1
  go_wp2_with fail
  refine SF.out.mono ?_
  rintro e w2 ⟨rfl, hb⟩
  have B2 := Lib.hid hb
  clear hb SF q0 q1
  obtain ⟨q0, q1⟩ := KS.out w2 B2.out
  have HA : Hid (rebase5 b xs = (0, 0, b, 0, xs.map (sh5 b))) := by
    show _ = _
    unfold rebase5
    rw [if_neg (by rw [HK.out]; decide)]
  have TH := Lib.hid (threadsOf_any lo (min hi w.heap.size) A c b xs HR.out w2 (H1.out.below B2.out (by have := Z1.out; omega)))
  rw [← HN.out] at TH
  go_wp2_with fail
  refine TH.out.mono ?_
  rintro e w3 ⟨rfl, hm, hb⟩
  have B3 := Lib.hid (B2.out.trans (hb.mono B2.out.size))
  obtain ⟨rr, hrr⟩ : ∃ rr, rr = w2.heap.size + 1 := ⟨_, rfl⟩
  rw [← hrr] at hm ⊢
  have M3 := Lib.hid hm
  have RRL := Lib.hid (show w1.heap.size ≤ rr by have := B2.out.size; omega)
  clear hm hb TH q0 q1 hrr
  obtain ⟨q0, q1⟩ := KS.out w3 B3.out
  obtain ⟨w4, hw4⟩ : ∃ w4, w4 = w3.alloc (.cells #[.map (some rr)] 108) := ⟨_, rfl⟩
  obtain ⟨w5, hw5⟩ : ∃ w5, w5 = w4.alloc (.cells #[.map (some rr)] 108) := ⟨_, rfl⟩
  obtain ⟨rx, hrx⟩ : ∃ rx, rx = w3.heap.size := ⟨_, rfl⟩
  have Z4 : w4.heap.size = rx + 1 := by rw [hw4, hrx]; simp
  have Z5 : w5.heap.size = rx + 2 := by rw [hw5]; simp; omega
  have X4 : w4.heap[rx]? = some (.cells #[.map (some rr)] 108 (0, 0)) := by rw [hw4, hrx]; exact heap_alloc_new w3 _
  have N4 : Below w3.heap.size w3 w4 := by rw [hw4]; exact below_new w3 _
  have N5 : Below w4.heap.size w4 w5 := by rw [hw5]; exact below_new w4 _
  have X5 : w5.heap[rx]? = some (.cells #[.map (some rr)] 108 (0, 0)) := (N5.block rx (by omega)).trans X4
  have Y5 : w5.heap[rx + 1]? = some (.cells #[.map (some rr)] 108 (0, 0)) := by rw [hw5, ← Z4]; exact heap_alloc_new w4 _
  have rlt := IM.lt M3.out
  have M5 : RM w5 rr (mth xs) := IM.below (IM.below M3.out N4 rlt) N5 (by omega)
  have B5 := Lib.hid ((B3.out.trans (N4.mono B3.out.size)).trans (N5.mono (by have := B3.out.size; omega)))
  have c0 := cell_of_row w4 _ 0 _ _ _ X4
  simp at c0
  have HW4 := Lib.hid hw4; have HW5 := Lib.hid hw5; have HRX := Lib.hid hrx
  have RXL : w1.heap.size ≤ rx := by rw [hrx]; exact B3.out.size
  have RRX : rr < rx := by rw [hrx]; exact rlt
  clear hw4 hw5 hrx
  go_upto_region 5 with (fail)
  rw [← HW4.out, ← HRX.out]
  clear HW4 HRX
  go_wp2_with (refine (rising_any _ _).mono ?_; rintro e9 w9 ⟨rfl, rfl⟩)
  rw [← HW5.out]
  clear HW5 c0
  refine (wpIn_wide (n := 3)).1 ?_
  refine range_on rfl (by omega) (gf := 110) (lb := #[.pointer (some ⟨rx + 1, 0, none⟩)]) rfl trivial (enters_of Try.func110 (by kernel_rfl) rfl) (encs := fun x : R3 => #[rv x]) (fun _ => rfl)
    (fun pre W => RM W rr (mp5 b xs pre) ∧ W.heap[rx]? = some (.cells #[.map (some rr)] 108 (0, 0)) ∧ W.heap[rx + 1]? = some (.cells #[.map (some rr)] 108 (0, 0)) ∧ Below w1.heap.size w1 W ∧ w5.heap.size ≤ W.heap.size)
    (nextOf (mth xs)) (fun ys => ys = upTo (mth xs) 5)
    (fun pre V V' row hs hgr hr => by
      obtain ⟨g1, g2, g3, g4, g5⟩ := hs
      have ne : ∀ k, k < w5.heap.size → some k ≠ row := fun k hk e => by have := (hr k e.symm).1; omega
      exact ⟨g1.keepAll (hgr.block rr g1.lt (ne rr (by omega))), (hgr.block rx (by omega) (ne rx (by omega))).trans g2, (hgr.block (rx + 1) (by omega) (ne _ (by omega))).trans g3, g4.grown hgr (by have := g4.size; omega) (fun k e => by have := (hr k e).1; omega), Nat.le_trans g5 hgr.size⟩)
    ⟨M5.ext (fun j => rfl), X5, Y5, B5.out, Nat.le_refl _⟩
    (fun l J W _ hJ hV hY h0 => rising1_on 2 (by omega) l (rx + 1) rr W.heap.size (mth xs) (mp5 b xs) (fun k _ => mp5_at b xs k) J hJ (fun pre V hj => ⟨(hV pre V hj).2.2.1, (hV pre V hj).1⟩) hY W h0)
    (fun x a' W => ∃ Bx, rx + 1 < Bx ∧ W.heap[Bx]? = some (.cells (r3c x) 52 (0, 0)) ∧ a' = { tmps := #[.agg #[.int .i64 b, .slice A n c], .pointer (some ⟨w.heap.size, 0, none⟩), .pointer (some ⟨w.heap.size + 1, 0, none⟩), .int .i64 0, .pointer (some ⟨rx, 0, none⟩), .pointer (some ⟨Bx, 0, none⟩), .agg #[.int .i64 b, .slice A n c], .int .i64 0, .int .i64 0, .bool false, undef, undef, .agg #[.int .i64 b, .slice A n c], .map (some rr), .map (some rr), .func (.func 110) #[] #[.pointer (some ⟨rx + 1, 0, none⟩)], rv x, undef, undef, undef, undef, undef, undef, undef, undef, undef, undef, undef, undef, undef, undef, undef], defers := [] })
    (fun x a' s V V' row hs hgr hr => by obtain ⟨Bx, g1, g2, g3⟩ := hs; exact ⟨Bx, g1, block_own w5.heap.size Bx (fun (_ : Unit) => .cells (r3c x) 52 (0, 0)) (fun _ => rfl) () V V' row g2 hgr hr, g3⟩)
    ?assign ?body ?done
  case assign =>
    rintro l pre x W K ⟨g1, g2, g3, g4, g5⟩ hok hK
    have hK' := Lib.hid hK
    unfold rv
    gi_wp2
    exact hK'.out _ _ ((KeepsOthers.alloc _ _).from _) ⟨IM.below g1 (below_new W _) g1.lt, (Below.heap_alloc _ _ _ (by omega)).trans g2, (Below.heap_alloc _ _ _ (by omega)).trans g3, g4.alloc g4.size _, by simp; omega⟩ ⟨W.heap.size, by omega, heap_alloc_new _ _, rfl⟩
  case body =>
    rintro l pre x a' W hl ⟨g1, g2, g3, g4, g5⟩ hok ⟨Bx, hBx, eX, rfl⟩
    have hmp := fun j => mp5_snoc b hok j
    have OKX : b ≤ x.2.2 ∧ x.2.2 ≤ b + 2520 := by
      obtain ⟨k, _, _, hx⟩ := hok
      have h1 := okR_mem HO.out (mth_mem hx).1
      unfold okR at h1
      simp at h1
      have := strd_in h1.1.2
      omega
    obtain ⟨x0, x1, x2⟩ := x
    have wr : IntKind.i64.wrap (x2 - b) = x2 - b := IntWalk.i64_in _ (by have := HB.out; simp at OKX; omega)
    unfold r3c at eX
    have c0 := cell_of_row W _ 0 _ _ _ eX; have c1 := cell_of_row W _ 1 _ _ _ eX; have c2 := cell_of_row W _ 2 _ _ _ eX; have f2 := frozen_of_row W _ 2 _ _ eX
    have e0 := cell_of_row W _ 0 _ _ _ g2
    simp at c0 c1 c2 e0
    obtain ⟨q0, q1⟩ := KS.out W g4
    have hne : rx ≠ Bx := by omega
    have hne2 : w.heap.size ≠ Bx := by have := Z1.out; omega
    have M2 : RM (W.setCell ⟨Bx, 2, none⟩ (.int .i64 (x2 - b))) rr (mp5 b xs pre) := g1.keepAll (Below.heap_setCell _ _ _ _ (by simp; omega))
    obtain ⟨W3, hrun, im, kp, sz⟩ := IM.put (P := Try.prog) M2 Try.underlying108 Try.underlying2 x0 (rv (x0, x1, x2 - b))
    unfold rv at hrun
    have FIN3 : Hid (KeepsFrom w5.heap.size W W3 ∧ (RM W3 rr (mp5 b xs (pre ++ [(x0, x1, x2)])) ∧ W3.heap[rx]? = some (.cells #[.map (some rr)] 108 (0, 0)) ∧ W3.heap[rx + 1]? = some (.cells #[.map (some rr)] 108 (0, 0)) ∧ Below w1.heap.size w1 W3 ∧ w5.heap.size ≤ W3.heap.size)) := by
      have sb : ∀ k, k ≠ Bx → (W.setCell ⟨Bx, 2, none⟩ (.int .i64 (x2 - b))).heap[k]? = W.heap[k]? := fun k hk => Below.heap_setCell _ _ _ _ (by simpa using hk)
      have lt2 : rx + 1 < W.heap.size := by omega
      refine ⟨?_, ?_, ?_, ?_, ?_, ?_⟩
      · refine ⟨by rw [sz]; simp, fun k o hk ho hc => ?_⟩
        have hkB : k ≠ Bx := fun e => by rw [e, eX] at ho; cases ho; cases hc
        refine (kp.2 k (by have := (Array.getElem?_eq_some_iff.1 ho).1; simpa using this) (by simp; omega)).trans ((sb k hkB).trans ho)
      · exact IM.ext im fun j => by
          rw [hmp j]
          by_cases e : j = x0
          · rw [if_pos e, if_pos e]; rfl
          · rw [if_neg e, if_neg e]
      · exact (kp.2 rx (by simp; omega) (by simp; omega)).trans ((sb rx hne).trans g2)
      · exact (kp.2 (rx + 1) (by simp; omega) (by simp; omega)).trans ((sb (rx + 1) (by omega)).trans g3)
      · exact (g4.setCell (p := ⟨Bx, 2, none⟩) (by simp; omega) _).trans (kp.below (B := w1.heap.size) (by have := g4.size; simp; omega) (by simpa using RRL.out))
      · rw [sz]; simpa using g5
    clear im kp sz M2 hmp g1 g2 g3 hok Z5 g5
    gi_wp2
    exact FIN3.out
  case done =>
    rintro D ys W hD hys ⟨g1, g2, g3, g4, g5⟩ hK
    rw [HR.out.all] at hys
    rw [hys] at g1
    clear hys
    have hris : Ris (xs.map (sh5 b)) := HR.out.map _ (fun _ => rfl)
    have MW : RM W rr (mth (xs.map (sh5 b))) := g1.ext (fun j => by rw [mp5_all])
    have SC : Hid (∀ V, Below W.heap.size W V → Calls Try.prog 86 #[.map (some rr), .int .i64 0] V fun e w' => ∃ A c, e = .returned (.agg #[.int .i64 0, .slice A (xs.map (sh5 b)).length c]) ∧ OR 52 3 w' W.heap.size A (xs.map (sh5 b)).length c (fl (xs.map (sh5 b))) ∧ Below W.heap.size W w') := fun V hV => by
      have h := sched_any rr (mth (xs.map (sh5 b))) 0 V (IM.below MW hV g1.lt)
      rw [hris.all, bas_sh HM.out] at h
      refine h.mono ?_
      rintro e w' ⟨A', c', he, ho, hb⟩
      exact ⟨A', c', he, OR.mono ho hV.size, hV.trans (hb.mono hV.size)⟩
    generalize xs.map (sh5 b) = ys at *
    obtain ⟨q0, q1⟩ := KS.out W g4
    have e0 := cell_of_row W _ 0 _ _ _ g2
    simp at e0
    have WB := Lib.hid g4; have HD := Lib.hid (show w.heap.size + 1 < D ∧ D < W.heap.size from ⟨by have := Z1.out; omega, (Array.getElem?_eq_some_iff.1 hK).1⟩); have HKD := Lib.hid hK
    clear g1 g2 g3 g4 g5 hK hris MW hD
    go_upto_region 9 with (fail)
    refine wp_region_noPanic ?_
    go_region_with (refine (SC.out _ (by first | exact Below.refl _ _ | exact Below.drew (Below.refl _ _))).mono ?_; rintro e9 w9 ⟨A', c', rfl, ho, hb⟩; have O9 := Lib.hid ho; have B9 := Lib.hid hb; have BW := Lib.hid (WB.out.trans (hb.mono WB.out.size)); clear ho hb; have HRB := Lib.hid (KR.out w9 BW.out); have r0 := cell_of_row w9 _ 0 _ _ _ HRB.out; have r1 := cell_of_row w9 _ 1 _ _ _ HRB.out; have r2 := cell_of_row w9 _ 2 _ _ _ HRB.out; have r3 := cell_of_row w9 _ 3 _ _ _ HRB.out; have r4 := cell_of_row w9 _ 4 _ _ _ HRB.out; have f0 := frozen_of_row w9 _ 0 _ _ HRB.out; have f1 := frozen_of_row w9 _ 1 _ _ HRB.out; have f2 := frozen_of_row w9 _ 2 _ _ HRB.out; have f3 := frozen_of_row w9 _ 3 _ _ HRB.out; have f4 := frozen_of_row w9 _ 4 _ _ HRB.out; simp at r0 r1 r2 r3 r4; obtain ⟨s0, s1⟩ := KS.out w9 BW.out)
    all_goals
      obtain ⟨W9, hW9⟩ : ∃ W9, W9 = (((((w9.setCell ⟨w.heap.size + 1, 0, none⟩ (.int .i64 0)).setCell ⟨w.heap.size + 1, 1, none⟩ (.int .i64 0)).setCell ⟨w.heap.size + 1, 2, none⟩ (.int .i64 b)).setCell ⟨w.heap.size + 1, 3, none⟩ (.int .i64 0)).setCell ⟨w.heap.size + 1, 4, none⟩ (.slice A' ys.length c')) := ⟨_, rfl⟩
      have X9 : Hid (W9.heap[w.heap.size + 1]? = some (.cells #[.int .i64 0, .int .i64 0, .int .i64 b, .int .i64 0, .slice A' ys.length c'] 56 (0, 0))) := by
        show _ = _; rw [hW9]; exact set5_block HRB.out _ _ _ _ _
      have D9 : Hid (W9.heap[D]? = some (.deferred (some []))) := by
        have h1 := HD.out
        show _ = _
        rw [hW9]
        refine Eq.trans ?_ ((B9.out.block D h1.2).trans HKD.out)
        rw [Below.heap_setCell _ _ _ _ (by simp; omega), Below.heap_setCell _ _ _ _ (by simp; omega), Below.heap_setCell _ _ _ _ (by simp; omega), Below.heap_setCell _ _ _ _ (by simp; omega), Below.heap_setCell _ _ _ _ (by simp; omega)]
      have O9' : Hid (OR 52 3 W9 W.heap.size A' ys.length c' (fl ys)) := by rw [hW9]; exact OR.set5 O9.out HRB.out _ _ _ _ _
      have B9' : Hid (Below w.heap.size w W9) := by rw [hW9]; exact below_five (FIN.out _ BW.out) (by omega) _ _ _ _ _
      rw [← hW9]
      clear hW9
      refine NoPanic.normal ?_
      go_wp2
      refine ⟨by simp, .inl ⟨_, _, rfl, run_takeDeferred D9.out, ?_⟩⟩
      have Y9 := (World.putObj_heap_other (w := W9) (o := .deferred none) (show w.heap.size + 1 ≠ D by have := HD.out; omega)).trans X9.out
      refine ⟨_, results_cell_row rfl _ _ (w.heap.size + 1) _ _ (0, 0) _ rfl Y9 Try.underlying56 rfl (by kernel_rfl), ?_⟩
      rw [HA.out]
      refine ⟨A', c', rfl, ?_, B9'.out.trans (belowK_b (w := w) (Nat.le_refl _) W9 D _ _ (by have := HD.out; omega) D9.out rfl rfl)⟩
      exact OR.mono (OR.keepAll O9'.out (fun g e => World.putObj_heap_other (by subst e; have h1 := OR.lt O9'.out; have := HD.out; omega))) (by have := HD.out; omega)

end Go.Proofs.Ytckapndpefkcgaa
