/-
  RunsOf, the model's and the program's. No conditions beyond that the events can be read.
-/
import Derived.Maps.AppendAt
import Derived.Test.YtckapndpefkcgaaGreatActs9
import Derived.Test.YtckapndpefkcgaaGreatMuteL9
set_option maxHeartbeats 1000000
namespace Go.Proofs.YtckapndpefkcgaaGreat
open Go.RowKit
set_option maxRecDepth 100000

noncomputable def runs9 (mm : Int) (x : Nat → Int) (n : Nat) (ev : Int) : Int × List Int := if ask9 mm n ev ≠ 0 then (ask9 mm n ev, []) else (0, tks (acts9 ev) (new3 mm) x n)
theorem runs9_len (mm : Int) (x : Nat → Int) (n : Nat) (ev : Int) : (runs9 mm x n ev).2.length ≤ 400 := by
  unfold runs9
  by_cases h : ask9 mm n ev = 0
  · rw [if_neg (by simp [h])]
    have h1 := tks_le (acts9 ev) (new3 mm) x n
    have h2 := (rk3_good (x := x) (ask9_zero h).1).2.2
    show (tks (acts9 ev) (new3 mm) x n).length ≤ 400
    omega
  · rw [if_pos h]; simp
theorem or_mine9 {t : TypeId} {w : World} {base n c : Nat} {A : Option Addr} {hs : List Int} (h : OR t 1 w base A n c hs) {lo : Nat} (hl : lo ≤ base) : Mine w lo w.heap.size t A n (fun k => .int .i64 (gi hs k)) := by
  rcases Nat.eq_zero_or_pos n with h0 | h0
  · exact .inl h0
  · obtain ⟨g, rfl, h1, h2⟩ := h.pos h0
    have hr := h.row
    rw [Nat.mul_one] at hr
    exact .inr ⟨g, 0, rfl, by omega, h2, hr⟩
theorem or_none9 {t : TypeId} {w : World} {base n c : Nat} {A : Option Addr} {hs : List Int} (h : OR t 1 w base A n c hs) : A = none → c = 0 := fun e => by
  subst e
  exact (OR.nil0 h).2

theorem fin9 {w W : World} {base n c : Nat} {A : Option Addr} {ts : List Int} {r : Int × List Int} {u0 u1 : Value} (hr : r = (0, ts)) (h : OR 2 1 W base A n c ts) (hb : w.heap.size ≤ base) (bw : Below w.heap.size w W) (hk : W.heap[w.heap.size]? = some (.cells #[u0, u1] 49 (0, 0))) :
    Ans 2 r w (.returned (.agg #[.int .i64 0, .slice A n c])) ((W.setCell ⟨w.heap.size, 0, none⟩ (.int .i64 0)).setCell ⟨w.heap.size, 1, none⟩ (.slice A n c)) := by
  subst hr
  have h2 : OR 2 1 ((W.setCell ⟨w.heap.size, 0, none⟩ (.int .i64 0)).setCell ⟨w.heap.size, 1, none⟩ (.slice A n c)) base A n c ts := h.keepAll fun b e => by
    subst e
    obtain ⟨_, hx⟩ := or_blk h
    have hne := blk_ne hx hk (by decide)
    exact (Below.heap_setCell _ ⟨w.heap.size, 1, none⟩ _ _ hne).trans (Below.heap_setCell _ ⟨w.heap.size, 0, none⟩ _ _ hne)
  refine ⟨A, n, c, rfl, ?_, or_none9 h, or_mine9 h2 hb, (bw.setCell (Nat.le_refl _) _).setCell (Nat.le_refl _) _⟩
  have := h.len
  show ts.length = n
  omega

structure LoopT (w W : World) (g : Nat) (p : Kp) (K : Ker) (ob : Nat) (A : Option Addr) (n c : Nat) (ts : List Int) : Prop where
  lk : LoopK w W g p K
  box : W.heap[ob]? = some (.cells #[.int .i64 0, .slice A n c] 49 (0, 0))
  own : OR 2 1 W w.heap.size A n c ts
  gp : ∀ b, A = some ⟨b, 0, none⟩ → b ≠ p.g1
  lo : w.heap.size ≤ ob
section
variable {w W : World} {g : Nat} {p : Kp} {K : Ker} {ob : Nat} {A : Option Addr} {n c : Nat} {ts : List Int}
theorem LoopT.below (J : LoopT w W g p K ob A n c ts) {W1 : World} (hb : Below W.heap.size W W1) : LoopT w W1 g p K ob A n c ts :=
  ⟨J.lk.below hb, (hb.block _ (Array.getElem?_eq_some_iff.1 J.box).1).trans J.box, J.own.below hb (Nat.le_refl _), J.gp, J.lo⟩
theorem LoopT.event (J : LoopT w W g p K ob A n c ts) {W1 : World} {p' : Kp} {K' : Ker} (kb : KB W1 g p' K') (sk : SK K') (e1 : p'.g1 = p.g1 ∨ W.heap.size ≤ p'.g1 ∧ p'.g1 < W1.heap.size) (e2 : p'.g2 = p.g2) (e3 : p'.g3 = p.g3) (kk : Kept [g, p.g2, p.g3] W W1) : LoopT w W1 g p' K' ob A n c ts := by
  obtain ⟨x2, hx2⟩ := mine_blk J.lk.kb.own.m2 (by decide)
  obtain ⟨x3, hx3⟩ := mine_blk J.lk.kb.own.m3 (by decide)
  have nb : ∀ {b : Nat} {cs' : Array Value} {t : TypeId}, W.heap[b]? = some (.cells cs' t (0, 0)) → t ≠ 39 → t ≠ 4 → t ≠ 68 → b ∉ [g, p.g2, p.g3] := fun hb n1 n2 n3 => by
    simp only [List.mem_cons, List.not_mem_nil, or_false, not_or]
    exact ⟨blk_ne hb J.lk.kb.box n1, blk_ne hb hx2 n2, blk_ne hb hx3 n3⟩
  refine ⟨J.lk.event kb sk e1 e2 e3 kk, (kk.2 ob (Array.getElem?_eq_some_iff.1 J.box).1 (nb J.box (by decide) (by decide) (by decide))).trans J.box, J.own.kept kk (fun b e => ?_), fun b e => ?_, J.lo⟩
  · have hoc := J.own
    rw [e] at hoc
    obtain ⟨_, hx⟩ := or_blk hoc
    exact nb hx (by decide) (by decide) (by decide)
  · rcases e1 with e1 | e1
    · rw [e1]; exact J.gp b e
    · have hoc := J.own
      rw [e] at hoc
      have := hoc.lt
      omega
theorem LoopT.add (J : LoopT w W g p K ob A n c ts) (q : Int) {V : World} {A' : Option Addr} {cap : Nat} (hown : OR 2 1 V w.heap.size A' (n + 1) cap (ts ++ [q])) (hg : (W.alloc (.cells #[.int .i64 q] 2)).grownBy V (Value.slice A n c).ownBlock)
    (hat : (Value.slice A' (n + 1) cap).ownBlock = (Value.slice A n c).ownBlock ∨ (Value.slice A' (n + 1) cap).ownBlock = some (W.alloc (.cells #[.int .i64 q] 2)).heap.size) :
    LoopT w (V.setCell ⟨ob, 1, none⟩ (.slice A' (n + 1) cap)) g p K ob A' (n + 1) cap (ts ++ [q]) := by
  have kb := J.lk.kb
  obtain ⟨x1, hx1⟩ := mine_blk kb.own.m1 (by have := J.lk.n1; omega)
  obtain ⟨x2, hx2⟩ := mine_blk kb.own.m2 (by decide)
  obtain ⟨x3, hx3⟩ := mine_blk kb.own.m3 (by decide)
  have lt : ∀ {b : Nat} {o : Obj}, W.heap[b]? = some o → b < W.heap.size := fun hb' => (Array.getElem?_eq_some_iff.1 hb').1
  have KV : ∀ b, b < W.heap.size → some b ≠ (Value.slice A n c).ownBlock → V.heap[b]? = W.heap[b]? := fun b hb hne => (hg.block b (by simp; omega) hne).trans (Below.heap_alloc _ _ _ hb)
  have S : ∀ b, b ≠ ob → (V.setCell ⟨ob, 1, none⟩ (.slice A' (n + 1) cap)).heap[b]? = V.heap[b]? := fun b hb => Below.heap_setCell _ _ _ _ hb
  have hV : V.heap[ob]? = some (.cells #[.int .i64 0, .slice A n c] 49 (0, 0)) := (KV ob (lt J.box) (own_ne3 J.box (by decide) J.own)).trans J.box
  have k1 := (S _ (blk_ne hx1 J.box (by decide))).trans (KV _ (lt hx1) (own_ap3 J.own J.gp))
  have k2 := (S _ (blk_ne hx2 J.box (by decide))).trans (KV _ (lt hx2) (own_ne3 hx2 (by decide) J.own))
  have k3 := (S _ (blk_ne hx3 J.box (by decide))).trans (KV _ (lt hx3) (own_ne3 hx3 (by decide) J.own))
  have kg := (S _ (blk_ne kb.box J.box (by decide))).trans (KV _ (lt kb.box) (own_ne3 kb.box (by decide) J.own))
  have hz : w.heap.size ≤ W.heap.size := J.lk.bw.size
  have bV : Below w.heap.size w V := (J.lk.bw.alloc hz _).grown hg (by simp; omega) (fun b e => by
    have hoc := J.own
    rcases A with _ | ad
    · cases e
    · obtain ⟨b', e1, h1, _⟩ := OR.at_ hoc (by simp)
      injection e1 with e1
      subst e1
      have e2 : b' = b := Option.some.inj e
      omega)
  refine ⟨⟨⟨kg.trans kb.box, kb.own.keepB k1 k2 k3, kb.e1, kb.e2, kb.e3⟩, J.lk.n1, J.lk.lo, bV.setCell (p := ⟨ob, 1, none⟩) J.lo _⟩, heap_setCell_same _ _ 1 _ _ _ hV, hown.keepAll fun b e => S b (by
    subst e
    obtain ⟨_, hx⟩ := or_blk hown
    exact blk_ne hx hV (by decide)), fun b e => ?_, J.lo⟩
  subst e
  rcases hat with h1 | h1
  · intro e2
    exact own_ap3 J.own J.gp ((congrArg some e2).symm.trans h1)
  · have e2 : b = (W.alloc (.cells #[.int .i64 q] 2)).heap.size := Option.some.inj h1
    have := lt hx1
    simp at e2
    omega
end

set_option maxHeartbeats 16000000 in
theorem specRunsOf_any (lo hi : Nat) (A : Option Addr) (n c : Nat) (x : Nat → Int) (mm ev : Int) (w : World) (hn : n ≤ 9223372036854775807) (h : Sl w lo hi A (n * 7) (fun k => .int .i64 (x k))) :
    Calls Tryz.prog 21 #[.int .i64 mm, .slice A n c, .int .i64 ev] w (Ans 2 (runs9 mm x n ev) w) := by
  obtain ⟨i0, hi0, hz0, hz1, hz2⟩ := info_parts Tryz.info_i64
  obtain ⟨w1, hw1⟩ : ∃ w1, w1 = w.alloc (.cells #[.int .i64 0, .slice none 0 0] 49) := ⟨_, rfl⟩
  have K1 : Hid (w1.heap[w.heap.size]? = some (.cells #[.int .i64 0, .slice none 0 0] 49 (0, 0))) := by show _ = _; rw [hw1]; exact heap_alloc_new w _
  have B1 : Hid (Below w.heap.size w w1) := by rw [hw1]; exact below_new w _
  have Z1 : Hid (w1.heap.size = w.heap.size + 1) := by show _ = _; rw [hw1]; simp
  have H := Lib.hid (h.lt.below B1.out (Nat.min_le_right _ _))
  have AS := Lib.hid (l9Asked_any mm A n c ev w1 hn)
  have HW1 := Lib.hid hw1
  obtain ⟨q, hq⟩ : ∃ q, q = ask9 mm n ev := ⟨_, rfl⟩
  rw [← hq] at AS
  have HQ := Lib.hid hq
  clear hw1 h hq
  go_enter Tryz.func21, Tryz.ntmps21
  go_upto_region 1 with (fail)
  rw [← HW1.out]
  clear HW1
  go_wp2_with fail
  refine AS.out.mono ?_
  rintro e w2 ⟨rfl, hb⟩
  have B12 := Lib.hid hb
  have B2 := Lib.hid (B1.out.trans (hb.mono (by have := Z1.out; omega)))
  have K2 := Lib.hid ((hb.block w.heap.size (by have := Z1.out; omega)).trans K1.out)
  have Z2 : Hid (w.heap.size + 1 ≤ w2.heap.size) := by show _ ≤ _; have := Z1.out; have := hb.size; omega
  clear hb AS
  by_cases h0 : q = 0
  case neg =>
    have y : (q != 0) = true := by simp [h0]
    have E : Hid (runs9 mm x n ev = (q, [])) := by show _ = _; unfold runs9; rw [← HQ.out, if_pos h0]
    have hblk := K2.out
    have p0 := cell_of_row _ _ 0 _ _ _ hblk
    have p1 := cell_of_row _ _ 1 _ _ _ hblk
    have f0 := frozen_of_row _ _ 0 _ _ hblk
    have f1 := frozen_of_row _ _ 1 _ _ hblk
    have HK := Lib.hid (fun a b => blk2_set hblk a b)
    simp at p0 p1
    clear hblk h0
    go_wp2
    refine bodyPost_ret (results_cell_row rfl _ _ w.heap.size _ _ _ _ rfl (HK.out _ _) Tryz.underlying49 rfl (by kernel_rfl)) rfl ?_
    exact ans_code E.out ((B2.out.setCell (Nat.le_refl _) _).setCell (Nat.le_refl _) _)
  have E : Hid (runs9 mm x n ev = (0, tks (acts9 ev) (new3 mm) x n)) := by show _ = _; unfold runs9; rw [← HQ.out, if_neg (by simp [h0])]
  obtain ⟨_, hm0, hn4⟩ := rk3_good (x := x) (ask9_zero (HQ.out.symm.trans h0)).1
  have N4 := Lib.hid hn4
  obtain ⟨sk0, hlen, hm1, hm2⟩ := sk_new hm0
  have ALL := Lib.hid (run3_all (x := x) sk0 rfl)
  have SK0 := Lib.hid sk0
  have NW := Lib.hid (l3New_any mm w2 ⟨hm1, hm2⟩)
  subst h0
  clear hm0 hn4 hlen hm1 hm2 sk0 HQ
  go_wp2_with fail
  refine NW.out.mono ?_
  rintro e w3 ⟨p0, rfl, ho, hbd, hb⟩
  have B3 := Lib.hid (B12.out.trans (hb.mono B12.out.size))
  obtain ⟨w4, hw4⟩ : ∃ w4, w4 = w3.alloc (.cells #[.slice p0.A1 p0.n1 p0.c1, .slice p0.A2 4 p0.c2, .slice p0.A3 4 p0.c3, .int .i64 0, .int .i64 (-1)] 39) := ⟨_, rfl⟩
  obtain ⟨g, hg⟩ : ∃ g, g = w3.heap.size := ⟨_, rfl⟩
  have K4 : w4.heap[g]? = some (.cells #[.slice p0.A1 p0.n1 p0.c1, .slice p0.A2 4 p0.c2, .slice p0.A3 4 p0.c3, .int .i64 0, .int .i64 (-1)] 39 (0, 0)) := by rw [hw4, hg]; exact heap_alloc_new w3 _
  have BN4 : Below w3.heap.size w3 w4 := by rw [hw4]; exact below_new w3 _
  have J4 : Hid (LoopK w1 w4 g p0 (new3 mm)) := by
    have l1 := ho.l1
    obtain ⟨v1, _⟩ := vf_zero SK0.out.v
    have l1 : (new3 mm).os.length = p0.n1 := l1
    have s := hb.size
    have s2 := B12.out.size
    exact ⟨⟨K4, ho.keepB (BN4.block _ (by omega)) (BN4.block _ (by omega)) (BN4.block _ (by omega)), by omega, by omega, by omega⟩, by omega, by omega, B3.out.trans (BN4.mono B3.out.size)⟩
  obtain ⟨w5, hw5⟩ : ∃ w5, w5 = w4.alloc (.cells #[.int .i64 0, .slice none 0 0] 49) := ⟨_, rfl⟩
  obtain ⟨ob, hob⟩ : ∃ ob, ob = w4.heap.size := ⟨_, rfl⟩
  have J0 : Hid (LoopT w1 w5 g p0 (new3 mm) ob none 0 0 []) := by
    have BN5 : Below w4.heap.size w4 w5 := by rw [hw5]; exact below_new w4 _
    exact ⟨J4.out.below BN5, by rw [hw5, hob]; exact heap_alloc_new w4 _, OR.void _ _, (fun b e => by cases e), by rw [hob]; exact J4.out.bw.size⟩
  have HW4 := Lib.hid hw4; have HG := Lib.hid hg; have HW5 := Lib.hid hw5; have HOB := Lib.hid hob
  clear ho hbd hb hw4 hg K4 BN4 NW J4 hw5 hob
  go_upto_region 5 with (fail)
  rw [← HW4.out, ← HG.out]
  clear HW4 HG
  go_upto_region 6 with (fail)
  rw [← HW5.out, ← HOB.out]
  clear HW5 HOB
  go_wp2_with fail
  go_loopw [10] (fun i wr => ∃ (k : Nat) (p : Kp) (At : Option Addr) (tn tc : Nat), k ≤ n ∧ i = .int .i64 (k : Int) ∧ LoopT w1 wr g p (run3 (new3 mm) x k).1 ob At tn tc (tks (acts9 ev) (new3 mm) x k)) (fun i _ => n - (intOf i).toNat)
  case atStart => exact ⟨0, p0, none, 0, 0, Nat.zero_le _, rfl, J0.out⟩
  case round =>
    obtain ⟨k, p, At, tn, tc, hk, rfl, hJ⟩ := hrel
    have J := Lib.hid hJ
    by_cases hlt : k < n
    · obtain ⟨hs, htk, _, _⟩ := ALL.out k (by have := N4.out; omega)
      have SKk := Lib.hid hs
      have HT : Hid ((run3 (new3 mm) x k).1.tick < 100000) := by show _ < _; have := N4.out; omega
      have FXk := Lib.hid (fx_of (kf_of hs))
      have ST : Hid (SK (stp x k (run3 (new3 mm) x k).1).2.1) := (step3_sk SKk.out HT.out (x (k * 7)) (x (k * 7 + 1)) (x (k * 7 + 2)) (x (k * 7 + 3)) (x (k * 7 + 4)) (x (k * 7 + 5)) (x (k * 7 + 6))).1
      have NX : Hid ((run3 (new3 mm) x (k + 1)).1 = (stp x k (run3 (new3 mm) x k).1).2.1) := rfl
      have TN : Hid ((tks (acts9 ev) (new3 mm) x (k + 1)) = (tks (acts9 ev) (new3 mm) x k) ++ (if tk9 x k = true ∧ acts9 ev (run3 (new3 mm) x k).1 = true then [(run3 (new3 mm) x k).1.tick] else [])) := rfl
      have TL : Hid (tn ≤ 400) := by
        have l1 := hJ.own.len
        have l2 := tks_le (acts9 ev) (new3 mm) x k
        have := N4.out
        show tn ≤ 400
        omega
      generalize (run3 (new3 mm) x k).1 = K at *
      generalize (tks (acts9 ev) (new3 mm) x k) = ts at *
      obtain ⟨b, off, rfl, h1, h2, hc⟩ := H.out.at_ (show k * 7 < n * 7 by omega)
      have KC : Hid (∀ W, Below w1.heap.size w1 W → W.cell? ⟨b, off + k * 7, none⟩ = some (.int .i64 (x (k * 7))) ∧ W.cell? ⟨b, off + k * 7 + 1, none⟩ = some (.int .i64 (x (k * 7 + 1))) ∧ W.cell? ⟨b, off + k * 7 + 2, none⟩ = some (.int .i64 (x (k * 7 + 2))) ∧ W.cell? ⟨b, off + k * 7 + 3, none⟩ = some (.int .i64 (x (k * 7 + 3))) ∧ W.cell? ⟨b, off + k * 7 + 4, none⟩ = some (.int .i64 (x (k * 7 + 4))) ∧ W.cell? ⟨b, off + k * 7 + 5, none⟩ = some (.int .i64 (x (k * 7 + 5))) ∧ W.cell? ⟨b, off + k * 7 + 6, none⟩ = some (.int .i64 (x (k * 7 + 6)))) := fun W hW => ⟨(hW.cell (p := ⟨b, off + (k * 7), none⟩) (by simp; have := Z1.out; omega)).trans (hc (k * 7) (by omega)), (hW.cell (p := ⟨b, off + (k * 7 + 1), none⟩) (by simp; have := Z1.out; omega)).trans (hc (k * 7 + 1) (by omega)), (hW.cell (p := ⟨b, off + (k * 7 + 2), none⟩) (by simp; have := Z1.out; omega)).trans (hc (k * 7 + 2) (by omega)), (hW.cell (p := ⟨b, off + (k * 7 + 3), none⟩) (by simp; have := Z1.out; omega)).trans (hc (k * 7 + 3) (by omega)), (hW.cell (p := ⟨b, off + (k * 7 + 4), none⟩) (by simp; have := Z1.out; omega)).trans (hc (k * 7 + 4) (by omega)), (hW.cell (p := ⟨b, off + (k * 7 + 5), none⟩) (by simp; have := Z1.out; omega)).trans (hc (k * 7 + 5) (by omega)), (hW.cell (p := ⟨b, off + (k * 7 + 6), none⟩) (by simp; have := Z1.out; omega)).trans (hc (k * 7 + 6) (by omega))⟩
      have NE : Hid (b ≠ g ∧ b ≠ p.g2 ∧ b ≠ p.g3) := by have := J.out.lk.lo; have := Z1.out; show _ ∧ _ ∧ _; omega
      obtain ⟨s3, hs3⟩ : ∃ s3, s3 = stp x k K := ⟨_, rfl⟩
      have EVC : Hid (∀ W At tn tc ts, LoopT w1 W g p K ob At tn tc ts → Calls Tryz.prog 64 #[.pointer (some ⟨g, 0, none⟩), .pointer (some ⟨b, off + k * 7, none⟩)] W fun r w' => ∃ (p' : Kp) (A' : Option Addr) (mq cq : Nat), r = .returned (.tuple #[.int .i64 s3.1, .slice A' mq cq]) ∧ LoopT w1 w' g p' s3.2.1 ob At tn tc ts) := fun W At tn tc ts hJ => by
        refine (l3Event_any hJ.lk.kb SKk.out HT.out b (off + k * 7) (x (k * 7)) (x (k * 7 + 1)) (x (k * 7 + 2)) (x (k * 7 + 3)) (x (k * 7 + 4)) (x (k * 7 + 5)) (x (k * 7 + 6)) NE.out (KC.out W hJ.lk.bw)).mono ?_
        rintro e wz ⟨p', A', mq, cq, rfl, _, hkb, hg1, hg2, hg3, hkk⟩
        rw [hs3]
        exact ⟨p', A', mq, cq, rfl, hJ.event hkb ST.out hg1 hg2 hg3 hkk⟩
      rw [← hs3] at NX
      obtain ⟨ef, hef⟩ : ∃ ef, ef = evf (x (k * 7)) (x (k * 7 + 1)) (x (k * 7 + 2)) (x (k * 7 + 3)) (x (k * 7 + 4)) (x (k * 7 + 5)) (x (k * 7 + 6)) := ⟨_, rfl⟩
      have EF := Lib.hid (fun W => specEventFault_any (x (k * 7)) (x (k * 7 + 1)) (x (k * 7 + 2)) (x (k * 7 + 3)) (x (k * 7 + 4)) (x (k * 7 + 5)) (x (k * 7 + 6)) W)
      rw [← hef] at EF
      have TK : Hid (tk9 x k = decide (ef = 0 ∧ x (k * 7) = 1)) := by show _ = _; rw [hef]; rfl
      have z0 : (0 : Int) ≤ (k : Int) := by omega
      have z1 : (k : Int) < (n : Int) := by omega
      have hn4 : n ≤ 400 := N4.out
      clear hc hef hJ hs htk hs3
      obtain ⟨v0, v1, v2, v3, v4, v5, v6⟩ := KC.out wr J.out.lk.bw
      go_wp2_with fail
      refine (EF.out wr).mono ?_
      rintro e wa ⟨rfl, hb⟩
      have JA := Lib.hid (J.out.below hb)
      clear hb EF v0 v1 v2 v3 v4 v5 v6 J
      obtain ⟨v0, -⟩ := KC.out wa JA.out.lk.bw
      by_cases e0 : ef = 0
      case neg =>
        have y0 : (ef == 0) = false := by simp [e0]
        have E2 : Hid (¬ (tk9 x k = true ∧ acts9 ev K = true)) := fun hh => by have := hh.1; rw [TK.out] at this; simp [e0] at this
        clear e0
        obtain ⟨v0, v1, v2, v3, v4, v5, v6⟩ := KC.out _ JA.out.lk.bw
        go_wp2_with fail
        refine (EVC.out _ _ _ _ _ JA.out).mono ?_
        rintro e wz ⟨p', A2, mq, cq, rfl, hz⟩
        have JZ := Lib.hid hz
        clear hz EVC v0 v1 v2 v3 v4 v5 v6
        go_wp2
        go_roundw
        case rel => exact ⟨k + 1, p', At, tn, tc, by omega, by go_num, by rw [NX.out, TN.out, if_neg E2.out, List.append_nil]; exact JZ.out⟩
        case measure => simp [intOf]; omega
      by_cases e1 : x (k * 7) = 1
      case neg =>
        have y0 : (ef == 0) = true := by simp [e0]
        have y1 : (x (k * 7) == 1) = false := by simp [e1]
        have E2 : Hid (¬ (tk9 x k = true ∧ acts9 ev K = true)) := fun hh => by have := hh.1; rw [TK.out] at this; simp [e1] at this
        clear e0
        obtain ⟨v0, v1, v2, v3, v4, v5, v6⟩ := KC.out _ JA.out.lk.bw
        go_wp2_with fail
        refine (EVC.out _ _ _ _ _ JA.out).mono ?_
        rintro e wz ⟨p', A2, mq, cq, rfl, hz⟩
        have JZ := Lib.hid hz
        clear hz EVC v0 v1 v2 v3 v4 v5 v6
        go_wp2
        go_roundw
        case rel => exact ⟨k + 1, p', At, tn, tc, by omega, by go_num, by rw [NX.out, TN.out, if_neg E2.out, List.append_nil]; exact JZ.out⟩
        case measure => simp [intOf]; omega
      have y0 : (ef == 0) = true := by simp [e0]
      have y1 : (x (k * 7) == 1) = true := by simp [e1]
      have TT : Hid (tk9 x k = true) := by show _ = _; rw [TK.out]; simp [e0, e1]
      obtain ⟨o, ho⟩ : ∃ o, o = who8 K := ⟨_, rfl⟩
      have HO := Lib.hid ho
      have WA := Lib.hid (l8Who8_any g 0 wa.heap.size p.A1 p.n1 p.c1 p.A2 p.c2 p.A3 p.c3 K wa JA.out.lk.kb.box (JA.out.lk.kb.own.read9 JA.out.lk.n1) FXk.out)
      rw [← ho] at WA
      clear e0 ho
      go_wp2_with fail
      refine WA.out.mono ?_
      rintro e wb ⟨rfl, hb⟩
      have JB := Lib.hid (JA.out.below hb)
      clear hb WA v0
      by_cases e2 : o = ev
      case neg =>
        have y2 : (o == ev) = false := by simp [e2]
        have E2 : Hid (¬ (tk9 x k = true ∧ acts9 ev K = true)) := fun hh => by have := hh.2; unfold acts9 at this; rw [← HO.out] at this; simp [e2] at this
        clear e2
        have JA := JB
        obtain ⟨v0, v1, v2, v3, v4, v5, v6⟩ := KC.out _ JA.out.lk.bw
        go_wp2_with fail
        refine (EVC.out _ _ _ _ _ JA.out).mono ?_
        rintro e wz ⟨p', A2, mq, cq, rfl, hz⟩
        have JZ := Lib.hid hz
        clear hz EVC v0 v1 v2 v3 v4 v5 v6
        go_wp2
        go_roundw
        case rel => exact ⟨k + 1, p', At, tn, tc, by omega, by go_num, by rw [NX.out, TN.out, if_neg E2.out, List.append_nil]; exact JZ.out⟩
        case measure => simp [intOf]; omega
      have y2 : (o == ev) = true := by simp [e2]
      have E2 : Hid (tk9 x k = true ∧ acts9 ev K = true) := ⟨TT.out, by unfold acts9; rw [← HO.out]; simp [e2]⟩
      have OA := Lib.hid (OR.alloc JB.out.own (.cells #[.int .i64 K.tick] 2))
      have NWc := Lib.hid (cell_one_new wb (.int .i64 K.tick) 2)
      have ZA := Lib.hid (show w1.heap.size ≤ (wb.alloc (.cells #[.int .i64 K.tick] 2)).heap.size by have := JB.out.lk.bw.size; simp; omega)
      have HA := Lib.hid ((Below.heap_alloc wb (.cells #[.int .i64 K.tick] 2) ob (Array.getElem?_eq_some_iff.1 JB.out.box).1).trans JB.out.box)
      have o1 := cell_of_row wb _ 1 _ _ _ JB.out.box
      have a1 := cell_of_row (wb.alloc (.cells #[.int .i64 K.tick] 2)) _ 1 _ _ _ HA.out
      obtain ⟨_, _, _, q3, _⟩ := JB.out.lk.kb.cells
      simp at o1 a1
      clear e2
      go_upto_region 11 with (at_builtin; refine wpList_append_own_at _ rfl (.tmp 48) (.tmp 51) 35 rfl w1.heap.size 2 i0 (.int .i64 0) 1 8 Tryz.underlying35 hi0 hz0 hz1 hz2 rfl (by decide) (.slice At tn tc) tn _ rfl OA.out ⟨wb.heap.size, 0, none⟩ 1 1 [.int .i64 K.tick] rfl rfl NWc.out (by simp [Value.oneCell']) (by have := TL.out; unfold maxLen; omega) (by have := TL.out; omega) ZA.out ?_; intro v' wd hown hgrow _ hat; rw [show vals ts ++ [Value.int .i64 K.tick] = vals (ts ++ [K.tick]) by simp [vals]] at hown; obtain ⟨A', c', rfl, hown⟩ := or_of3 hown; have K7 := (hgrow.block ob (Array.getElem?_eq_some_iff.1 HA.out).1 (own_ne3 HA.out (by decide) OA.out)).trans HA.out; have y6 := cell_of_row wd _ 1 _ _ _ K7; have f6 := frozen_of_row wd _ 1 _ _ K7; simp at y6; have HO := Lib.hid hown; have HGR := Lib.hid hgrow; have HAT := Lib.hid hat; clear hown hgrow hat K7)
      obtain ⟨we, hwe⟩ : ∃ we, we = wd.setCell ⟨ob, 1, none⟩ (.slice A' (tn + 1) c') := ⟨_, rfl⟩
      have JA : Hid (LoopT w1 we g p K ob A' (tn + 1) c' (ts ++ [K.tick])) := by rw [hwe]; exact JB.out.add K.tick HO.out HGR.out HAT.out
      have HWE := Lib.hid hwe
      clear hwe o1 a1 q3 y6 f6
      rw [← HWE.out]
      clear HWE
      obtain ⟨v0, v1, v2, v3, v4, v5, v6⟩ := KC.out _ JA.out.lk.bw
      go_wp2_with fail
      refine (EVC.out _ _ _ _ _ JA.out).mono ?_
      rintro e wz ⟨p', A2, mq, cq, rfl, hz⟩
      have JZ := Lib.hid hz
      clear hz EVC v0 v1 v2 v3 v4 v5 v6
      go_wp2
      go_roundw
      case rel => exact ⟨k + 1, p', A', tn + 1, c', by omega, by go_num, by rw [NX.out, TN.out, if_pos E2.out]; exact JZ.out⟩
      case measure => simp [intOf]; omega
    · obtain rfl : k = n := by omega
      have hkn : ¬ ((k : Int) < (k : Int)) := by omega
      have RB := Lib.hid ((J.out.lk.bw.block w.heap.size (by have := Z1.out; omega)).trans K1.out)
      have jb := J.out.box
      have o0 := cell_of_row wr _ 0 _ _ _ jb; have o1 := cell_of_row wr _ 1 _ _ _ jb
      have hblk := RB.out
      have p0 := cell_of_row _ _ 0 _ _ _ hblk
      have p1 := cell_of_row _ _ 1 _ _ _ hblk
      have f0 := frozen_of_row _ _ 0 _ _ hblk
      have f1 := frozen_of_row _ _ 1 _ _ hblk
      have HK := Lib.hid (fun a b => blk2_set hblk a b)
      have SZR := Lib.hid (show w.heap.size + 1 ≤ wr.heap.size by have := J.out.lk.bw.size; have := Z1.out; omega)
      simp at o0 o1 p0 p1
      clear jb hblk
      go_wp2
      refine bodyPost_ret (results_cell_row rfl _ _ w.heap.size _ _ _ _ rfl (HK.out _ _) Tryz.underlying49 rfl (by kernel_rfl)) rfl ?_
      exact fin9 (W := wr) E.out J.out.own (by have := Z1.out; omega) (B1.out.trans (J.out.lk.bw.mono (by have := Z1.out; omega))) RB.out

set_option maxHeartbeats 4000000 in
theorem implRunsOf_any (lo hi : Nat) (A : Option Addr) (n c : Nat) (x : Nat → Int) (mm ev : Int) (w : World) (hn : n ≤ 9223372036854775807) (h : Sl w lo hi A (n * 7) (fun k => .int .i64 (x k))) :
    Calls Tryz.prog 20 #[.int .i64 mm, .slice A n c, .int .i64 ev] w (Ans 2 (runs9 mm x n ev) w) := by
  obtain ⟨w1, hw1⟩ : ∃ w1, w1 = w.alloc (.cells #[.int .i64 0, .slice none 0 0] 49) := ⟨_, rfl⟩
  have K1 : Hid (w1.heap[w.heap.size]? = some (.cells #[.int .i64 0, .slice none 0 0] 49 (0, 0))) := by show _ = _; rw [hw1]; exact heap_alloc_new w _
  have B1 : Hid (Below w.heap.size w w1) := by rw [hw1]; exact below_new w _
  have Z1 : Hid (w1.heap.size = w.heap.size + 1) := by show _ = _; rw [hw1]; simp
  have H := Lib.hid (h.lt.below B1.out (Nat.min_le_right _ _))
  have AS := Lib.hid (auditOf_any mm A n c ev w1 hn)
  have HW1 := Lib.hid hw1
  clear hw1 h
  go_enter Tryz.func20, Tryz.ntmps20
  go_upto_region 1 with (fail)
  rw [← HW1.out]
  clear HW1
  go_wp2_with fail
  refine AS.out.mono ?_
  rintro e w2 ⟨h, rfl, hh, hbad, hgood, hb⟩
  have B2 := Lib.hid (B1.out.trans (hb.mono (by have := Z1.out; omega)))
  have K2 := Lib.hid ((hb.block w.heap.size (by have := Z1.out; omega)).trans K1.out)
  have H2 := Lib.hid (H.out.below hb (by have := Z1.out; omega))
  clear hb AS
  by_cases h0 : ask9 mm n ev = 0
  case neg =>
    have hk := hbad h0
    clear hgood hbad
    obtain ⟨q, hq⟩ : ∃ q, q = ask9 mm n ev := ⟨_, rfl⟩
    rw [← hq] at hk
    have E : Hid (runs9 mm x n ev = (q, [])) := by show _ = _; unfold runs9; rw [if_pos h0, ← hq]
    have y : (q != 0) = true := by simp [hq, h0]
    have c0 := cell_of_row w2 _ 0 _ _ _ hk
    simp at c0
    have hblk := K2.out
    have p0 := cell_of_row _ _ 0 _ _ _ hblk
    have p1 := cell_of_row _ _ 1 _ _ _ hblk
    have f0 := frozen_of_row _ _ 0 _ _ hblk
    have f1 := frozen_of_row _ _ 1 _ _ hblk
    have HK := Lib.hid (fun a b => blk2_set hblk a b)
    simp at p0 p1
    clear hblk h0 hq hk
    go_wp2
    refine bodyPost_ret (results_cell_row rfl _ _ w.heap.size _ _ _ _ rfl (HK.out _ _) Tryz.underlying49 rfl (by kernel_rfl)) rfl ?_
    exact ans_code E.out ((B2.out.setCell (Nat.le_refl _) _).setCell (Nat.le_refl _) _)
  obtain ⟨p0, hJ⟩ := hgood h0
  have E : Hid (runs9 mm x n ev = (0, tks (acts9 ev) (new3 mm) x n)) := by show _ = _; unfold runs9; rw [if_neg (by simp [h0])]
  have ha := (ask9_zero h0).1
  have hk := hJ.box
  have c0 := cell_of_row w2 _ 0 _ _ _ hk
  simp at c0
  have TW := Lib.hid (ticksA_any hJ ha A c lo (min hi w.heap.size) x H2.out (by have := Z1.out; omega))
  clear hbad hgood hJ hk ha h0
  go_upto_region 4 with (fail)
  clear c0
  go_wp2_with fail
  refine TW.out.mono ?_
  rintro e w3 ⟨p', A4, c4, A5, m, c5, T, tn, tc, rfl, hJ, hb⟩
  have OT := Lib.hid hJ.og
  have KB3 := Lib.hid ((hb.block w.heap.size (by have := Z1.out; omega)).trans K1.out)
  have hblk := KB3.out
  have HB := Lib.hid (B1.out.trans (hb.mono (by have := Z1.out; omega)))
  have p0 := cell_of_row _ _ 0 _ _ _ hblk
  have p1 := cell_of_row _ _ 1 _ _ _ hblk
  have f0 := frozen_of_row _ _ 0 _ _ hblk
  have f1 := frozen_of_row _ _ 1 _ _ hblk
  have HK := Lib.hid (fun a b => blk2_set hblk a b)
  simp at p0 p1
  clear hblk hb hJ TW
  go_wp2
  refine bodyPost_ret (results_cell_row rfl _ _ w.heap.size _ _ _ _ rfl (HK.out _ _) Tryz.underlying49 rfl (by kernel_rfl)) rfl ?_
  exact fin9 (W := w3) E.out OT.out (by have := Z1.out; omega) HB.out KB3.out

end Go.Proofs.YtckapndpefkcgaaGreat
