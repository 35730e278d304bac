/-
  A right kernel is drawn: a new one that some events have met. For codes of at most 2^20 bytes.
-/
import Derived.Test.YtckapndpefkcgaaGreatDrawC3
import Derived.Test.YtckapndpefkcgaaGreatCap3n
set_option maxHeartbeats 1000000
namespace Go.Proofs.YtckapndpefkcgaaGreat
open Go.RowKit
set_option maxRecDepth 100000

structure KL (w W : World) (g g4 : Nat) (A : Option Addr) (k c a z : Nat) (B : Option Addr) (n c' : Nat) (xs : List Int) (p : Kp) (K : Ker) : Prop where
  kb : KB W g4 p K
  sk : SK K
  ev : OR 57 7 W z B n c' xs
  sr : Src W g A k c a
  on : Only g (g + 1) w W
  kr : W.heap[w.heap.size]? = some (.cells #[.slice none 0 0, .slice none 0 0, .slice none 0 0, .int .i64 0, .int .i64 0] 39 (0, 0))
  gw : g < w.heap.size
  lo : (w.heap.size < g4 ∧ g4 < z) ∧ w.heap.size < p.g1 ∧ (w.heap.size < p.g2 ∧ p.g2 < z) ∧ (w.heap.size < p.g3 ∧ p.g3 < z)
theorem KL.event {w W : World} {g g4 k c a z n c' : Nat} {A B : Option Addr} {xs : List Int} {p : Kp} {K : Ker} (J : KL w W g g4 A k c a z B n c' xs p K) {W' : World} {p' : Kp} {K' : Ker} (kb : KB W' g4 p' K') (sk : SK K') (h1 : p'.g1 = p.g1 ∨ W.heap.size ≤ p'.g1 ∧ p'.g1 < W'.heap.size) (h2 : p'.g2 = p.g2) (h3 : p'.g3 = p.g3) (kk : Kept [g4, p.g2, p.g3] W W') :
    KL w W' g g4 A k c a z B n c' xs p' K' := by
  obtain ⟨⟨l1, l2⟩, l3, ⟨l4, l5⟩, ⟨l6, l7⟩⟩ := J.lo
  have gw := J.gw
  have zs := J.on.1.size
  have key : ∀ j, j < W.heap.size → j ≠ g4 → j ≠ p.g2 → j ≠ p.g3 → W'.heap[j]? = W.heap[j]? := fun j hj a1 a2 a3 => kk.2 j hj (by simp [a1, a2, a3])
  have ws : w.heap.size < W.heap.size := (Array.getElem?_eq_some_iff.1 J.kr).1
  refine ⟨kb, sk, J.ev.keepAll fun b e => ?_, (key g (by omega) (by omega) (by omega) (by omega)).trans J.sr, ⟨J.on.1.trans (kk.below (by omega) fun j hj => ?_), fun j a1 a2 => ?_⟩, (key _ ws (by omega) (by omega) (by omega)).trans J.kr, gw, ?_⟩
  · subst e
    have hl := J.ev.lt
    exact key b hl.2 (by omega) (by omega) (by omega)
  · simp only [List.mem_cons, List.not_mem_nil, or_false] at hj
    rcases hj with rfl | rfl | rfl <;> omega
  · exact (key j (by omega) (by omega) (by omega) (by omega)).trans (J.on.2 j a1 a2)
  · rw [h2, h3]
    refine ⟨⟨l1, l2⟩, ?_, ⟨l4, l5⟩, ⟨l6, l7⟩⟩
    rcases h1 with q | q
    · rw [q]; exact l3
    · omega
def KerD (g : Nat) (A : Option Addr) (k c a : Nat) (w : World) (e : Ending) (w' : World) : Prop :=
  ∃ (p : Kp) (K : Ker) (a' : Nat), e = .returned (.agg #[.slice p.A1 p.n1 p.c1, .slice p.A2 4 p.c2, .slice p.A3 4 p.c3, .int .i64 K.tick, .int .i64 K.run]) ∧ KOwn w' p K ∧ SK K ∧ K.tick ≤ 75 ∧ (w.heap.size ≤ p.g1 ∧ w.heap.size ≤ p.g2 ∧ w.heap.size ≤ p.g3 ∧ p.g1 < w'.heap.size ∧ p.g2 < w'.heap.size ∧ p.g3 < w'.heap.size) ∧ a' ≤ a + 2010 ∧ Src w' g A k c a' ∧ Only g (g + 1) w w' ∧ p.cap4

theorem five3 {W : World} {s : Nat} {t : TypeId} {v0 v1 v2 v3 v4 : Value} (h : W.heap[s]? = some (.cells #[v0, v1, v2, v3, v4] t (0, 0))) (u0 u1 u2 u3 u4 : Value) :
    (((((W.setCell ⟨s, 0, none⟩ u0).setCell ⟨s, 1, none⟩ u1).setCell ⟨s, 2, none⟩ u2).setCell ⟨s, 3, none⟩ u3).setCell ⟨s, 4, none⟩ u4).heap[s]? = some (.cells #[u0, u1, u2, u3, u4] t (0, 0)) :=
  heap_setCell_same _ _ 4 _ _ _ (heap_setCell_same _ _ 3 _ _ _ (heap_setCell_same _ _ 2 _ _ _ (heap_setCell_same _ _ 1 _ _ _ (heap_setCell_same _ _ 0 _ _ _ h))))
theorem five_other3 (W : World) (s j : Nat) (hj : j ≠ s) (u0 u1 u2 u3 u4 : Value) :
    (((((W.setCell ⟨s, 0, none⟩ u0).setCell ⟨s, 1, none⟩ u1).setCell ⟨s, 2, none⟩ u2).setCell ⟨s, 3, none⟩ u3).setCell ⟨s, 4, none⟩ u4).heap[j]? = W.heap[j]? := by
  rw [Below.heap_setCell _ _ _ _ (by simpa using hj), Below.heap_setCell _ _ _ _ (by simpa using hj), Below.heap_setCell _ _ _ _ (by simpa using hj), Below.heap_setCell _ _ _ _ (by simpa using hj), Below.heap_setCell _ _ _ _ (by simpa using hj)]
theorem KL.done {w W : World} {g g4 k c a' z n c' : Nat} {A B : Option Addr} {xs : List Int} {p : Kp} {K : Ker} (J : KL w W g g4 A k c a' z B n c' xs p K) {a : Nat} (ha : a' ≤ a + 2010) (ht : K.tick ≤ 75) (hz : p.g1 < W.heap.size ∧ p.g2 < W.heap.size ∧ p.g3 < W.heap.size) (h4 : p.cap4) :
    KerD g A k c a w (.returned (.agg #[.slice p.A1 p.n1 p.c1, .slice p.A2 4 p.c2, .slice p.A3 4 p.c3, .int .i64 K.tick, .int .i64 K.run])) (((((W.setCell ⟨w.heap.size, 0, none⟩ (.slice p.A1 p.n1 p.c1)).setCell ⟨w.heap.size, 1, none⟩ (.slice p.A2 4 p.c2)).setCell ⟨w.heap.size, 2, none⟩ (.slice p.A3 4 p.c3)).setCell ⟨w.heap.size, 3, none⟩ (.int .i64 K.tick)).setCell ⟨w.heap.size, 4, none⟩ (.int .i64 K.run)) := by
  obtain ⟨⟨l1, l2⟩, l3, ⟨l4, l5⟩, ⟨l6, l7⟩⟩ := J.lo
  have gw := J.gw
  refine ⟨p, K, a', rfl, J.kb.own.keepB (five_other3 W _ _ (by omega) _ _ _ _ _) (five_other3 W _ _ (by omega) _ _ _ _ _) (five_other3 W _ _ (by omega) _ _ _ _ _), J.sk, ht, ⟨by omega, by omega, by omega, ?_, ?_, ?_⟩, ha, (five_other3 W _ _ (by omega) _ _ _ _ _).trans J.sr, (((((J.on.setNew3 (Nat.le_refl _) gw _).setNew3 (Nat.le_refl _) gw _).setNew3 (Nat.le_refl _) gw _).setNew3 (Nat.le_refl _) gw _).setNew3 (Nat.le_refl _) gw _), h4⟩
  all_goals (simp [World.setCell]; omega)

set_option maxHeartbeats 20000000 in
theorem l3Kernel_any (lo hi g : Nat) (A : Option Addr) (k c a : Nat) (b : Nat → Int) (w : World) (hk : k ≤ 1048576) (ha : a ≤ 900000)
    (hb : ∀ j, 0 ≤ b j ∧ b j ≤ 255) (h : Sl w lo hi A k (fun j => .int .u8 (b j))) (hg : hi ≤ g) (hs : Src w g A k c a) :
    Calls Tryz.prog 91 #[.pointer (some ⟨g, 0, none⟩)] w (KerD g A k c a w) := by
  have hgw := hs.lt
  have H := Lib.hid h
  have HBY := Lib.hid hb
  have CD : Hid (∀ W, Only g (g + 1) w W → Sl W lo (min hi w.heap.size) A k (fun j => .int .u8 (b j))) := fun W hW => H.out.lt.only hW (by omega) (.inl (by omega))
  obtain ⟨w1, hw1⟩ : ∃ w1, w1 = w.alloc (.cells #[.slice none 0 0, .slice none 0 0, .slice none 0 0, .int .i64 0, .int .i64 0] 39) := ⟨_, rfl⟩
  have K1 : Hid (w1.heap[w.heap.size]? = some (.cells #[.slice none 0 0, .slice none 0 0, .slice none 0 0, .int .i64 0, .int .i64 0] 39 (0, 0))) := by show _ = _; rw [hw1]; exact heap_alloc_new w _
  have O1 : Hid (Only g (g + 1) w w1) := by rw [hw1]; exact (Only.refl _ _ _).alloc (by omega) _
  have S1 : Hid (Src w1 g A k c a) := by rw [hw1]; exact hs.alloc _
  have Z1 : Hid (w1.heap.size = w.heap.size + 1) := by show _ = _; rw [hw1]; simp
  have HW1 := Lib.hid hw1
  clear h hb hs hw1
  go_enter Tryz.func91, Tryz.ntmps91
  go_upto_region 1 with (fail)
  rw [← HW1.out]
  clear HW1
  have CP := Lib.hid (pick_lit lo (min hi w.heap.size) g A k c (a) 4 2 #[.int .i64 1, .int .i64 2, .int .i64 3, .int .i64 5] b [1, 2, 3, 5] w1 hk (by omega) HBY.out (CD.out w1 O1.out) (by omega) S1.out rfl (by omega) (by omega) (fun q hq => by rcases (show q = 0 ∨ q = 1 ∨ q = 2 ∨ q = 3 by omega) with rfl | rfl | rfl | rfl <;> rfl))
  go_wp2_with fail
  refine CP.out.mono ?_
  rintro e w2 ⟨r9, hr9, rfl, hs, ho, _⟩
  have hv : 1 ≤ gi [1, 2, 3, 5] r9 ∧ gi [1, 2, 3, 5] r9 ≤ 5 := by rcases (show r9 = 0 ∨ r9 = 1 ∨ r9 = 2 ∨ r9 = 3 by omega) with rfl | rfl | rfl | rfl <;> decide
  generalize gi [1, 2, 3, 5] r9 = vv at *
  obtain ⟨S, rfl⟩ : ∃ S : Nat, vv = (S : Int) := ⟨vv.toNat, by omega⟩
  have hbS : 1 ≤ S ∧ S ≤ 5 := by omega
  clear hv hr9
  have S2 := Lib.hid hs
  have O2 := Lib.hid (O1.out.trans ho)
  have K2 := Lib.hid ((ho.2 w.heap.size (by omega) (by have := Z1.out; omega)).trans K1.out)
  clear hs ho CP S1 O1 K1
  have NW := Lib.hid (l3NewC_any (S : Int) w2 (by omega))
  obtain ⟨sk0, hlen, hm1, hm2⟩ := sk_new (m := (S : Int)) (by
    unfold new1
    rw [if_neg (by omega)])
  have SK0 := Lib.hid sk0
  clear sk0 hlen hm1 hm2
  go_wp2_with fail
  refine NW.out.mono ?_
  rintro e w3 ⟨p, rfl, ho, hbd, hb, hp40⟩
  have HP4 := Lib.hid hp40
  clear hp40
  obtain ⟨K, hK⟩ : ∃ K, K = new3 (S : Int) := ⟨_, rfl⟩
  have KT0 : K.tick = 0 := by rw [hK]; rfl
  have KR0 : K.run = -1 := by rw [hK]; rfl
  have OW3 : Hid (KOwn w3 p K) := by rw [hK]; exact ho
  rw [← hK] at SK0
  have z2 := O2.out.1.size
  obtain ⟨w4, hw4⟩ : ∃ w4, w4 = w3.alloc (.cells #[.slice p.A1 p.n1 p.c1, .slice p.A2 4 p.c2, .slice p.A3 4 p.c3, .int .i64 0, .int .i64 (-1)] 39) := ⟨_, rfl⟩
  obtain ⟨g4, hg4⟩ : ∃ g, g = w3.heap.size := ⟨_, rfl⟩
  have B4 : Below w2.heap.size w2 w4 := by rw [hw4]; exact hb.alloc hb.size _
  have zb : w2.heap.size ≤ w3.heap.size := hb.size
  have z4 : w4.heap.size = g4 + 1 := by rw [hw4, hg4]; simp
  have z1 := Z1.out
  have KB4 : Hid (KB w4 g4 p K) := by
    have hx : w4.heap[g4]? = some (.cells #[.slice p.A1 p.n1 p.c1, .slice p.A2 4 p.c2, .slice p.A3 4 p.c3, .int .i64 0, .int .i64 (-1)] 39 (0, 0)) := by rw [hw4, hg4]; exact heap_alloc_new w3 _
    have hy : Below w3.heap.size w3 w4 := by rw [hw4]; exact below_new w3 _
    refine ⟨by rw [KT0, KR0]; exact hx, OW3.out.keepB (hy.block _ (by omega)) (hy.block _ (by omega)) (hy.block _ (by omega)), by omega, by omega, by omega⟩
  have L4 : Hid (w.heap.size < g4 ∧ g4 < w4.heap.size ∧ w.heap.size < p.g1 ∧ p.g1 < g4 ∧ w.heap.size < p.g2 ∧ p.g2 < g4 ∧ w.heap.size < p.g3 ∧ p.g3 < g4) := ⟨by omega, by omega, by omega, by omega, by omega, by omega, by omega, by omega⟩
  have O4 : Hid (Only g (g + 1) w w4) := ⟨O2.out.1.trans (B4.mono (by omega)), fun j a1 a2 => (B4.block j (by omega)).trans (O2.out.2 j a1 a2)⟩
  have S4 : Hid (Src w4 g A k c (a + 1)) := (B4.block g (by omega)).trans S2.out
  have K4 : Hid (w4.heap[w.heap.size]? = some (.cells #[.slice none 0 0, .slice none 0 0, .slice none 0 0, .int .i64 0, .int .i64 0] 39 (0, 0))) := (B4.block _ (by omega)).trans K2.out
  have HW4 := Lib.hid hw4
  have HG4 := Lib.hid hg4
  have HT := Lib.hid KT0
  clear ho hbd hb hK KT0 KR0 OW3 hw4 hg4 B4 zb z4 z1 z2 NW S2 K2 O2 Z1
  go_upto_region 3 with (fail)
  rw [← HW4.out, ← HG4.out]
  clear HW4 HG4
  have CP := Lib.hid (pick_lit lo (min hi w.heap.size) g A k c (a + 1) 4 2 #[.int .i64 0, .int .i64 5, .int .i64 30, .int .i64 60] b [0, 5, 30, 60] w4 hk (by omega) HBY.out (CD.out w4 O4.out) (by omega) S4.out rfl (by omega) (by omega) (fun q hq => by rcases (show q = 0 ∨ q = 1 ∨ q = 2 ∨ q = 3 by omega) with rfl | rfl | rfl | rfl <;> rfl))
  go_wp2_with fail
  refine CP.out.mono ?_
  rintro e w5 ⟨r9, hr9, rfl, hs, ho, _⟩
  have hv : 0 ≤ gi [0, 5, 30, 60] r9 ∧ gi [0, 5, 30, 60] r9 ≤ 60 := by rcases (show r9 = 0 ∨ r9 = 1 ∨ r9 = 2 ∨ r9 = 3 by omega) with rfl | rfl | rfl | rfl <;> decide
  generalize gi [0, 5, 30, 60] r9 = vv at *
  obtain ⟨N, rfl⟩ : ∃ N : Nat, vv = (N : Int) := ⟨vv.toNat, by omega⟩
  have hbN : 0 ≤ N ∧ N ≤ 60 := by omega
  clear hv hr9
  have S5 := Lib.hid hs
  have O5 := Lib.hid (O4.out.trans ho)
  have KB5 : Hid (KB w5 g4 p K) := by
    have l := L4.out
    have kk : Kept [g] w4 w5 := ⟨ho.1.mono (Nat.zero_le _), fun j hj hn => by
      simp only [List.mem_cons, List.not_mem_nil, or_false] at hn
      rcases Nat.lt_or_ge j g with q | q
      · exact ho.1.block j q
      · exact ho.2 j (by omega) hj⟩
    exact KB4.out.kept kk (by simp; omega) (by simp; omega) (by simp; omega) (by simp; omega)
  have K5 := Lib.hid ((ho.2 w.heap.size (by omega) (by have := L4.out; omega)).trans K4.out)
  have Z5 : Hid (w4.heap.size ≤ w5.heap.size) := ho.1.size
  clear hs ho CP S4 O4 K4 KB4
  have CE := Lib.hid (l3Events_any lo (min hi w.heap.size) g A k c (a + 1 + 1) b S N w5 hk (by omega) (by omega) (by omega) HBY.out (CD.out w5 O5.out) (by omega) S5.out)
  go_wp2_with fail
  refine CE.out.mono ?_
  rintro e w6 ⟨B, n, c', xs, a6, rfl, hn6, ha6, hJ⟩
  have J6 : Hid (KL w w6 g g4 A k c a6 w5.heap.size B n c' xs p K) := by
    have l := L4.out
    have z := hJ.on.1.size
    have o := hJ.on
    have kk : Kept [g] w5 w6 := ⟨o.1.mono (Nat.zero_le _), fun j hj hn => by
      simp only [List.mem_cons, List.not_mem_nil, or_false] at hn
      rcases Nat.lt_or_ge j g with q | q
      · exact o.1.block j q
      · exact o.2 j (by omega) hj⟩
    have s5 := Z5.out
    exact ⟨KB5.out.kept kk (by simp; omega) (by simp; omega) (by simp; omega) (by simp; omega), SK0.out, hJ.ow, hJ.sr, O5.out.trans o, (o.2 _ (by omega) (by omega)).trans K5.out, hgw, ⟨⟨by omega, by omega⟩, by omega, ⟨by omega, by omega⟩, ⟨by omega, by omega⟩⟩⟩
  have PZ : Hid (p.g1 < w6.heap.size ∧ p.g2 < w6.heap.size ∧ p.g3 < w6.heap.size) := by
    have l := L4.out
    have s5 := Z5.out
    have z := hJ.on.1.size
    exact ⟨by omega, by omega, by omega⟩
  clear hJ CE S5 K5 KB5 O5 L4 Z5 SK0
  go_wp2_with fail
  go_loopw [6] (fun i wr => ∃ (j : Nat) (p : Kp) (K : Ker), j ≤ n ∧ i = .int .i64 (j : Int) ∧ K.tick ≤ j ∧ p.cap4 ∧ (p.g1 < wr.heap.size ∧ p.g2 < wr.heap.size ∧ p.g3 < wr.heap.size) ∧ KL w wr g g4 A k c a6 w5.heap.size B n c' xs p K) (fun i _ => n - (intOf i).toNat)
  case atStart => exact ⟨0, p, K, Nat.zero_le _, rfl, by rw [HT.out]; exact Int.le_refl _, HP4.out, PZ.out, J6.out⟩
  case round =>
    clear J6 PZ HT
    obtain ⟨j, p, K, hj, rfl, htk, hp4, hz, hJ⟩ := hrel
    have HP := Lib.hid hp4
    clear hp4
    have J := Lib.hid hJ
    have PZ := Lib.hid hz
    clear hJ hz
    by_cases hlt : j < n
    · obtain ⟨ge, rfl, hge1, hge2⟩ := J.out.ev.pos (by omega)
      have hc : ∀ i, i < 7 → wr.cell? ⟨ge, j * 7 + i, none⟩ = some (.int .i64 (gi xs (j * 7 + i))) := fun i hi => J.out.ev.cell (by omega)
      have CE := Lib.hid (l3EventC_any J.out.kb J.out.sk (by omega) ge (j * 7) (gi xs (j * 7)) (gi xs (j * 7 + 1)) (gi xs (j * 7 + 2)) (gi xs (j * 7 + 3)) (gi xs (j * 7 + 4)) (gi xs (j * 7 + 5)) (gi xs (j * 7 + 6)) (by have := J.out.lo; omega) (by
        exact ⟨hc 0 (by omega), hc 1 (by omega), hc 2 (by omega), hc 3 (by omega), hc 4 (by omega), hc 5 (by omega), hc 6 (by omega)⟩))
      have ST := Lib.hid (step3_sk J.out.sk (by omega) (gi xs (j * 7)) (gi xs (j * 7 + 1)) (gi xs (j * 7 + 2)) (gi xs (j * 7 + 3)) (gi xs (j * 7 + 4)) (gi xs (j * 7 + 5)) (gi xs (j * 7 + 6)))
      generalize step3 K (gi xs (j * 7)) (gi xs (j * 7 + 1)) (gi xs (j * 7 + 2)) (gi xs (j * 7 + 3)) (gi xs (j * 7 + 4)) (gi xs (j * 7 + 5)) (gi xs (j * 7 + 6)) = r3 at *
      have z0 : (0 : Int) ≤ (j : Int) := by omega
      have z1 : (j : Int) < (n : Int) := by omega
      have z2 : n ≤ 75 := by omega
      have HC := Lib.hid hc
      clear hc
      go_wp2_with fail
      refine CE.out.mono ?_
      rintro e w7 ⟨p', A7, n7, c7, rfl, _, hkb, h1, h2, h3r, hkk⟩
      have h3 : p'.g3 = p.g3 := congrArg Prod.fst h3r
      have P4 : Hid p'.cap4 := ⟨(congrArg (fun r => r.2.1) h3r).trans HP.out.1, (congrArg (fun r => r.2.2) h3r).trans HP.out.2⟩
      have J7 := Lib.hid (J.out.event hkb ST.out.1 h1 h2 h3 hkk)
      have PZ7 : Hid (p'.g1 < w7.heap.size ∧ p'.g2 < w7.heap.size ∧ p'.g3 < w7.heap.size) := by
        have z := hkk.1.size
        have q := PZ.out
        refine ⟨?_, by omega, by omega⟩
        rcases h1 with h1 | h1 <;> omega
      clear hkb h1 h2 h3 h3r hkk CE J HC
      go_wp2
      go_roundw
      case rel => exact ⟨j + 1, p', r3.2.1, by omega, by rw [show ((j + 1 : Nat) : Int) = (j : Int) + 1 by omega], by have := ST.out.2.1; omega, P4.out, PZ7.out, J7.out⟩
      case measure => simp [intOf]; omega
    · have hjn : ¬ ((j : Int) < (n : Int)) := by omega
      have q0 := cell_of_row wr _ 0 _ _ _ J.out.kb.box; have q1 := cell_of_row wr _ 1 _ _ _ J.out.kb.box; have q2 := cell_of_row wr _ 2 _ _ _ J.out.kb.box; have q3 := cell_of_row wr _ 3 _ _ _ J.out.kb.box; have q4 := cell_of_row wr _ 4 _ _ _ J.out.kb.box
      have r0 := cell_of_row wr _ 0 _ _ _ J.out.kr; have r1 := cell_of_row wr _ 1 _ _ _ J.out.kr; have r2 := cell_of_row wr _ 2 _ _ _ J.out.kr; have r3 := cell_of_row wr _ 3 _ _ _ J.out.kr; have r4 := cell_of_row wr _ 4 _ _ _ J.out.kr
      have f0 := frozen_of_row wr _ 0 _ _ J.out.kr; have f1 := frozen_of_row wr _ 1 _ _ J.out.kr; have f2 := frozen_of_row wr _ 2 _ _ J.out.kr; have f3 := frozen_of_row wr _ 3 _ _ J.out.kr; have f4 := frozen_of_row wr _ 4 _ _ J.out.kr
      simp at q0 q1 q2 q3 q4 r0 r1 r2 r3 r4
      go_wp2
      refine bodyPost_ret (results_cell_row rfl _ _ w.heap.size _ _ (0, 0) _ rfl (five3 J.out.kr _ _ _ _ _) Tryz.underlying39 rfl (by kernel_rfl)) rfl ?_
      exact J.out.done (by omega) (by omega) PZ.out HP.out
end Go.Proofs.YtckapndpefkcgaaGreat
