/-
  The model's audit: what it asks, and at how many ticks a window of one began. No conditions beyond that the events can be read.
-/
import Derived.Test.YtckapndpefkcgaaGreatSpec3z
import Derived.Test.YtckapndpefkcgaaGreatSpec3n
import Derived.Test.YtckapndpefkcgaaGreatMath9b
import Derived.Test.YtckapndpefkcgaaGreatU8s
set_option maxHeartbeats 1000000
namespace Go.Proofs.YtckapndpefkcgaaGreat
open List renaming getElem_toArray → zz1, getElem_cons_succ → zz2, getElem_cons_zero → zz3, setIfInBounds_toArray → zz4, set_cons_zero → zz5, set_cons_succ → zz6
open Go.RowKit
set_option maxRecDepth 100000

def ask9 (mm : Int) (n : Nat) (ev : Int) : Int := if ask3 mm n ≠ 0 then ask3 mm n else if inEnv ev = true then 0 else 3
def wnd9 (mm : Int) (x : Nat → Int) (n : Nat) (ev : Int) : Int × Int := if ask9 mm n ev ≠ 0 then (ask9 mm n ev, 0) else (0, ((tks (opens9 ev) (new3 mm) x n).length : Nat))
theorem ask9_zero {mm : Int} {n : Nat} {ev : Int} (h : ask9 mm n ev = 0) : ask3 mm n = 0 ∧ inEnv ev = true := by
  unfold ask9 at h
  by_cases h1 : ask3 mm n = 0
  · rw [if_neg (by simp [h1])] at h
    by_cases h2 : inEnv ev = true
    · exact ⟨h1, h2⟩
    · rw [if_neg h2] at h; omega
  · rw [if_pos h1] at h; exact absurd h h1
theorem l9Asked_any (mm : Int) (A : Option Addr) (n c : Nat) (ev : Int) (w : World) (hn : n ≤ 9223372036854775807) :
    Calls Tryz.prog 55 #[.int .i64 mm, .slice A n c, .int .i64 ev] w fun e w' => e = .returned (.int .i64 (ask9 mm n ev)) ∧ Below w.heap.size w w' := by
  have AS := Lib.hid (l3Asked_any mm A n c w hn)
  obtain ⟨q, hq⟩ : ∃ q, q = ask3 mm n := ⟨_, rfl⟩
  have HA : Hid (ask9 mm n ev = if q ≠ 0 then q else if inEnv ev = true then 0 else 3) := by show _ = _; rw [hq]; rfl
  rw [← hq] at AS
  have EV := Lib.hid (fun W => l1Env_any ev W)
  clear hq
  go_enter Tryz.func55, Tryz.ntmps55
  go_wp2_with fail
  refine AS.out.mono ?_
  rintro e w2 ⟨rfl, hb⟩
  have B2 := Lib.hid hb
  clear hb AS
  by_cases h0 : q = 0
  case neg =>
    have y : (q != 0) = true := by simp [h0]
    have E : Hid (ask9 mm n ev = q) := by show _ = _; rw [HA.out, if_pos h0]
    go_wp2
    go_ret
    exact ⟨ret_i64 E.out.symm, B2.out⟩
  subst h0
  go_wp2_with fail
  refine (EV.out w2).mono ?_
  rintro e w3 ⟨rfl, rfl⟩
  rcases hb : inEnv ev with _ | _
  · have E : Hid (ask9 mm n ev = 3) := by show _ = _; rw [HA.out, if_neg (by simp), if_neg (by simp [hb])]
    go_wp2
    go_ret
    exact ⟨ret_i64 E.out.symm, B2.out⟩
  · have E : Hid (ask9 mm n ev = 0) := by show _ = _; rw [HA.out, if_neg (by simp), if_pos hb]
    go_wp2
    go_ret
    exact ⟨ret_i64 E.out.symm, B2.out⟩

set_option maxHeartbeats 16000000 in
theorem l9Windows_any (lo hi : Nat) (A : Option Addr) (n c : Nat) (x : Nat → Int) (mm ev : Int) (w : World) (ha : ask3 mm n = 0) (h : Sl w lo hi A (n * 7) (fun k => .int .i64 (x k))) :
    Calls Tryz.prog 56 #[.int .i64 mm, .slice A n c, .int .i64 ev] w fun e w' => e = .returned (.int .i64 (((tks (opens9 ev) (new3 mm) x n).length : Nat) : Int)) ∧ Below w.heap.size w w' := by
  have H := Lib.hid h.lt
  obtain ⟨_, hm0, hn4⟩ := rk3_good (x := x) ha
  have N4 := Lib.hid hn4
  obtain ⟨sk0, hlen, hm1, hm2⟩ := sk_new hm0
  have ALL := Lib.hid (run3_all (x := x) sk0 rfl)
  have SK0 := Lib.hid sk0
  have NW := Lib.hid (l3New_any mm w ⟨hm1, hm2⟩)
  clear h ha hm0 hn4 hlen hm1 hm2 sk0
  go_enter Tryz.func56, Tryz.ntmps56
  go_wp2_with fail
  refine NW.out.mono ?_
  rintro e w3 ⟨p0, rfl, ho, hbd, hb⟩
  obtain ⟨w4, hw4⟩ : ∃ w4, w4 = w3.alloc (.cells #[.slice p0.A1 p0.n1 p0.c1, .slice p0.A2 4 p0.c2, .slice p0.A3 4 p0.c3, .int .i64 0, .int .i64 (-1)] 39) := ⟨_, rfl⟩
  obtain ⟨g, hg⟩ : ∃ g, g = w3.heap.size := ⟨_, rfl⟩
  have K4 : w4.heap[g]? = some (.cells #[.slice p0.A1 p0.n1 p0.c1, .slice p0.A2 4 p0.c2, .slice p0.A3 4 p0.c3, .int .i64 0, .int .i64 (-1)] 39 (0, 0)) := by rw [hw4, hg]; exact heap_alloc_new w3 _
  have BN4 : Below w3.heap.size w3 w4 := by rw [hw4]; exact below_new w3 _
  have J0 : Hid (LoopK w w4 g p0 (new3 mm)) := by
    have l1 := ho.l1
    obtain ⟨v1, _⟩ := vf_zero SK0.out.v
    have l1 : (new3 mm).os.length = p0.n1 := l1
    have s := hb.size
    exact ⟨⟨K4, ho.keepB (BN4.block _ (by omega)) (BN4.block _ (by omega)) (BN4.block _ (by omega)), by omega, by omega, by omega⟩, by omega, by omega, hb.trans (BN4.mono hb.size)⟩
  have HW4 := Lib.hid hw4; have HG := Lib.hid hg
  clear ho hbd hb hw4 hg K4 BN4 NW
  go_upto_region 2 with (fail)
  rw [← HW4.out, ← HG.out]
  clear HW4 HG
  go_wp2_with fail
  go_loopw [8, 9] (fun q i wr => ∃ (k : Nat) (p : Kp), k ≤ n ∧ i = .int .i64 (k : Int) ∧ q = .int .i64 (((tks (opens9 ev) (new3 mm) x k).length : Nat) : Int) ∧ LoopK w wr g p (run3 (new3 mm) x k).1) (fun _ i _ => n - (intOf i).toNat)
  case atStart => exact ⟨0, p0, Nat.zero_le _, rfl, rfl, J0.out⟩
  case round =>
    obtain ⟨k, p, hk, rfl, rfl, hJ⟩ := hrel
    have J := Lib.hid hJ
    by_cases hlt : k < n
    · obtain ⟨hs, htk, _, _⟩ := ALL.out k (by have := N4.out; omega)
      have SKk := Lib.hid hs
      have HT : Hid ((run3 (new3 mm) x k).1.tick < 100000) := by show _ < _; have := N4.out; omega
      have FXk := Lib.hid (fx_of (kf_of hs))
      have ST : Hid (SK (stp x k (run3 (new3 mm) x k).1).2.1) := (step3_sk SKk.out HT.out (x (k * 7)) (x (k * 7 + 1)) (x (k * 7 + 2)) (x (k * 7 + 3)) (x (k * 7 + 4)) (x (k * 7 + 5)) (x (k * 7 + 6))).1
      have NX : Hid ((run3 (new3 mm) x (k + 1)).1 = (stp x k (run3 (new3 mm) x k).1).2.1) := rfl
      have TN : Hid ((tks (opens9 ev) (new3 mm) x (k + 1)) = tks (opens9 ev) (new3 mm) x k ++ (if tk9 x k = true ∧ opens9 ev (run3 (new3 mm) x k).1 = true then [(run3 (new3 mm) x k).1.tick] else [])) := rfl
      have TL := tks_le (opens9 ev) (new3 mm) x k
      generalize (run3 (new3 mm) x k).1 = K at *
      obtain ⟨b, off, rfl, h1, h2, hc⟩ := H.out.at_ (show k * 7 < n * 7 by omega)
      have KC : Hid (∀ W, Below wr.heap.size wr W → W.cell? ⟨b, off + k * 7, none⟩ = some (.int .i64 (x (k * 7))) ∧ W.cell? ⟨b, off + k * 7 + 1, none⟩ = some (.int .i64 (x (k * 7 + 1))) ∧ W.cell? ⟨b, off + k * 7 + 2, none⟩ = some (.int .i64 (x (k * 7 + 2))) ∧ W.cell? ⟨b, off + k * 7 + 3, none⟩ = some (.int .i64 (x (k * 7 + 3))) ∧ W.cell? ⟨b, off + k * 7 + 4, none⟩ = some (.int .i64 (x (k * 7 + 4))) ∧ W.cell? ⟨b, off + k * 7 + 5, none⟩ = some (.int .i64 (x (k * 7 + 5))) ∧ W.cell? ⟨b, off + k * 7 + 6, none⟩ = some (.int .i64 (x (k * 7 + 6)))) := fun W hW => ⟨((hW.cell (by have := J.out.bw.size; simp; omega)).trans ((J.out.bw.cell (p := ⟨b, off + (k * 7), none⟩) (by simp; omega)).trans (hc (k * 7) (by omega)))), ((hW.cell (by have := J.out.bw.size; simp; omega)).trans ((J.out.bw.cell (p := ⟨b, off + (k * 7 + 1), none⟩) (by simp; omega)).trans (hc (k * 7 + 1) (by omega)))), ((hW.cell (by have := J.out.bw.size; simp; omega)).trans ((J.out.bw.cell (p := ⟨b, off + (k * 7 + 2), none⟩) (by simp; omega)).trans (hc (k * 7 + 2) (by omega)))), ((hW.cell (by have := J.out.bw.size; simp; omega)).trans ((J.out.bw.cell (p := ⟨b, off + (k * 7 + 3), none⟩) (by simp; omega)).trans (hc (k * 7 + 3) (by omega)))), ((hW.cell (by have := J.out.bw.size; simp; omega)).trans ((J.out.bw.cell (p := ⟨b, off + (k * 7 + 4), none⟩) (by simp; omega)).trans (hc (k * 7 + 4) (by omega)))), ((hW.cell (by have := J.out.bw.size; simp; omega)).trans ((J.out.bw.cell (p := ⟨b, off + (k * 7 + 5), none⟩) (by simp; omega)).trans (hc (k * 7 + 5) (by omega)))), ((hW.cell (by have := J.out.bw.size; simp; omega)).trans ((J.out.bw.cell (p := ⟨b, off + (k * 7 + 6), none⟩) (by simp; omega)).trans (hc (k * 7 + 6) (by omega))))⟩
      have NE : Hid (b ≠ g ∧ b ≠ p.g2 ∧ b ≠ p.g3) := by have := J.out.lo; show _ ∧ _ ∧ _; omega
      have EVC : Hid (∀ W, Below wr.heap.size wr W → Calls Tryz.prog 64 #[.pointer (some ⟨g, 0, none⟩), .pointer (some ⟨b, off + k * 7, none⟩)] W fun r w' => ∃ (p' : Kp) (A' : Option Addr) (mq cq : Nat), r = .returned (.tuple #[.int .i64 (stp x k K).1, .slice A' mq cq]) ∧ OR 96 3 w' W.heap.size A' mq cq (stp x k K).2.2 ∧ KB w' g p' (stp x k K).2.1 ∧ (p'.g1 = p.g1 ∨ W.heap.size ≤ p'.g1 ∧ p'.g1 < w'.heap.size) ∧ p'.g2 = p.g2 ∧ p'.g3 = p.g3 ∧ Kept [g, p.g2, p.g3] W w') := fun W hW =>
        l3Event_any (J.out.below hW).kb SKk.out HT.out b (off + k * 7) (x (k * 7)) (x (k * 7 + 1)) (x (k * 7 + 2)) (x (k * 7 + 3)) (x (k * 7 + 4)) (x (k * 7 + 5)) (x (k * 7 + 6)) NE.out (KC.out W hW)
      obtain ⟨ef, hef⟩ : ∃ ef, ef = evf (x (k * 7)) (x (k * 7 + 1)) (x (k * 7 + 2)) (x (k * 7 + 3)) (x (k * 7 + 4)) (x (k * 7 + 5)) (x (k * 7 + 6)) := ⟨_, rfl⟩
      have EF := Lib.hid (fun W => specEventFault_any (x (k * 7)) (x (k * 7 + 1)) (x (k * 7 + 2)) (x (k * 7 + 3)) (x (k * 7 + 4)) (x (k * 7 + 5)) (x (k * 7 + 6)) W)
      rw [← hef] at EF
      have TK : Hid (tk9 x k = decide (ef = 0 ∧ x (k * 7) = 1)) := by show _ = _; rw [hef]; rfl
      have z0 : (0 : Int) ≤ (k : Int) := by omega
      have z1 : (k : Int) < (n : Int) := by omega
      have hn4 : n ≤ 400 := N4.out
      clear hc hef hJ hs htk
      have JA := J
      obtain ⟨q0, _, _, q3, _⟩ := J.out.kb.cells
      obtain ⟨ph, hph⟩ : ∃ ph, ph = K.tick % 9 := ⟨_, rfl⟩
      obtain ⟨s, hs⟩ : ∃ s : Nat, s = ((K.tick / 9) % (K.os.length : Int)).toNat := ⟨_, rfl⟩
      have es : (K.tick / 9) % (K.os.length : Int) = (s : Int) := by have := FXk.out.slot; omega
      have hsn : s < p.n1 := by have := FXk.out.slot; have := J.out.kb.own.l1; omega
      obtain ⟨o, ho⟩ : ∃ o, o = own3 K := ⟨_, rfl⟩
      obtain ⟨b1, o1, hA1, _, hbw, hcc⟩ := J.out.kb.own.m1.sl.at_ hsn
      have c0' := hcc s hsn
      rw [show gi K.os s = o by rw [ho]; unfold own3; rw [← hs]] at c0'
      rw [hA1] at q0
      have KH : Hid (∀ W, Below wr.heap.size wr W → (W.cell? ⟨b, off + k * 7, none⟩ = some (.int .i64 (x (k * 7))) ∧ W.cell? ⟨b, off + k * 7 + 1, none⟩ = some (.int .i64 (x (k * 7 + 1))) ∧ W.cell? ⟨b, off + k * 7 + 2, none⟩ = some (.int .i64 (x (k * 7 + 2))) ∧ W.cell? ⟨b, off + k * 7 + 3, none⟩ = some (.int .i64 (x (k * 7 + 3))) ∧ W.cell? ⟨b, off + k * 7 + 4, none⟩ = some (.int .i64 (x (k * 7 + 4))) ∧ W.cell? ⟨b, off + k * 7 + 5, none⟩ = some (.int .i64 (x (k * 7 + 5))) ∧ W.cell? ⟨b, off + k * 7 + 6, none⟩ = some (.int .i64 (x (k * 7 + 6)))) ∧ (W.cell? ⟨g, 0, none⟩ = some (.slice (some ⟨b1, o1, none⟩) p.n1 p.c1) ∧ W.cell? ⟨g, 3, none⟩ = some (.int .i64 K.tick)) ∧ W.cell? ⟨b1, o1 + s, none⟩ = some (.int .i64 o) ∧ Below wr.heap.size wr W) := fun W hW => ⟨KC.out W hW, ⟨(hW.cell (World.block_lt_of_cell? _ _ q0)).trans q0, (hW.cell (World.block_lt_of_cell? _ _ q3)).trans q3⟩, (hW.cell (World.block_lt_of_cell? _ _ c0')).trans c0', hW⟩
      have EF : Hid (∀ W, Below wr.heap.size wr W → Calls Tryz.prog 41 #[.agg #[.int .i64 (x (k * 7)), .int .i64 (x (k * 7 + 1)), .int .i64 (x (k * 7 + 2)), .int .i64 (x (k * 7 + 3)), .int .i64 (x (k * 7 + 4)), .int .i64 (x (k * 7 + 5)), .int .i64 (x (k * 7 + 6))]] W fun r w' => r = .returned (.int .i64 ef) ∧ Below wr.heap.size wr w') := fun W hW => (EF.out W).mono fun e w' hh => ⟨hh.1, hW.trans (hh.2.mono hW.size)⟩
      have PH : Hid (∀ W, Below wr.heap.size wr W → Calls Tryz.prog 105 #[.pointer (some ⟨g, 0, none⟩)] W fun e w' => e = .returned (.int .i64 ph) ∧ Below wr.heap.size wr w') := fun W hW =>
        (specPhase_any g K.tick W (by have := FXk.out.tick; omega) (KH.out W hW).2.1.2).mono fun e w' hh => ⟨by rw [hph]; exact hh.1, hh.2 ▸ hW⟩
      have SLT : Hid (∀ W, Below wr.heap.size wr W → Calls Tryz.prog 106 #[.pointer (some ⟨g, 0, none⟩)] W fun e w' => e = .returned (.int .i64 (s : Int)) ∧ Below wr.heap.size wr w') := fun W hW =>
        (specSlot8_any g (some ⟨b1, o1, none⟩) p.n1 p.c1 K W (KH.out W hW).2.1.1 (KH.out W hW).2.1.2 J.out.kb.own.l1 FXk.out).mono fun e w' hh => ⟨by rw [← es]; exact hh.1, hW.trans (hh.2.mono hW.size)⟩
      have OP : Hid (opens9 ev K = decide (ph = 0 ∧ o = ev)) := by show _ = _; rw [hph, ho]; rfl
      have z4 : (0 : Int) ≤ (s : Int) := by omega
      have z5 : (s : Int) < (p.n1 : Int) := by omega
      have z6 : p.n1 ≤ 12 := by have := J.out.kb.own.l1; have := FXk.out.l1; omega
      clear hph hs es hsn ho hA1 hbw hcc c0' q0 q3 JA
      go_upto_region 6 with (fail)
      go_cut [18, 19, 20, 21, 22, 23, 24, 25, 26, 27, 28, 29, 30, 31, 32, 33, 34, 35, 36, 37, 38, 39, 40, 41, 42, 43, 44] from 52 (fun _ _ _ _ _ _ _ _ _ _ _ _ _ _ _ _ _ _ _ _ _ _ _ _ _ _ x44 wx => x44 = .bool (tk9 x k && opens9 ev K) ∧ Below wr.heap.size wr wx)
      case first => as_aux_lemma =>
        obtain ⟨⟨v0, v1, v2, v3, v4, v5, v6⟩, ⟨q0, q3⟩, c0, _⟩ := KH.out wr (Below.refl _ _)
        by_cases e0 : ef = 0
        case neg =>
          have y0 : (ef == 0) = false := by simp [e0]
          have E : Hid ((tk9 x k && opens9 ev K) = false) := by show _ = _; rw [TK.out]; simp [e0]
          clear e0
          refine wp_region_held_drew (S := fun W => (W.cell? ⟨b, off + k * 7, none⟩ = some (.int .i64 (x (k * 7))) ∧ W.cell? ⟨b, off + k * 7 + 1, none⟩ = some (.int .i64 (x (k * 7 + 1))) ∧ W.cell? ⟨b, off + k * 7 + 2, none⟩ = some (.int .i64 (x (k * 7 + 2))) ∧ W.cell? ⟨b, off + k * 7 + 3, none⟩ = some (.int .i64 (x (k * 7 + 3))) ∧ W.cell? ⟨b, off + k * 7 + 4, none⟩ = some (.int .i64 (x (k * 7 + 4))) ∧ W.cell? ⟨b, off + k * 7 + 5, none⟩ = some (.int .i64 (x (k * 7 + 5))) ∧ W.cell? ⟨b, off + k * 7 + 6, none⟩ = some (.int .i64 (x (k * 7 + 6)))) ∧ (W.cell? ⟨g, 0, none⟩ = some (.slice (some ⟨b1, o1, none⟩) p.n1 p.c1) ∧ W.cell? ⟨g, 3, none⟩ = some (.int .i64 K.tick)) ∧ W.cell? ⟨b1, o1 + s, none⟩ = some (.int .i64 o) ∧ Below wr.heap.size wr W) (by kernel_rfl) (KH.out _ (Below.drew (Below.refl _ _))) (fun hHeld => ?_)
          obtain ⟨v0, hv0⟩ : ∃ v0, v0 = wr.drew := ⟨_, rfl⟩
          have BL0 : Hid (Below wr.heap.size wr v0) := by rw [hv0]; exact Below.drew (Below.refl _ _)
          rw [← hv0] at hHeld ⊢
          clear hv0
          refine tkH 0 ?_ rfl ?_ hHeld ?_; rotate_left; (intro w hSw; (try dsimp only at hSw); go_simp; try with_reducible rfl); try simp only [Act.put, zz1, zz2, zz3, zz4, zz5, zz6]
          refine tkH 1 ?_ rfl ?_ hHeld ?_; rotate_left; (intro w hSw; (try dsimp only at hSw); go_simp; try with_reducible rfl); try simp only [Act.put, zz1, zz2, zz3, zz4, zz5, zz6]
          refine tkH 2 ?_ rfl ?_ hHeld ?_; rotate_left; (intro w hSw; (try dsimp only at hSw); go_simp; try with_reducible rfl); try simp only [Act.put, zz1, zz2, zz3, zz4, zz5, zz6]
          refine tkH 3 ?_ rfl ?_ hHeld ?_; rotate_left; (intro w hSw; (try dsimp only at hSw); go_simp; try with_reducible rfl); try simp only [Act.put, zz1, zz2, zz3, zz4, zz5, zz6]
          refine wpAnyH_ready (rs := [4]) (by kernel_rfl) (by simp) ?_
          refine AllReadyH.cons (o := _) rfl (fun K0 hK0 => ?_) AllReadyH.nil
          go_simp
          refine (EF.out _ (by go_split_ands; assumption)).mono ?_
          rintro e9 w9 ⟨rfl, hb9⟩
          go_wp2_with fail
          have hb0 := hb9
          refine hK0.out _ _ (KH.out _ hb9) (fun hHeld => ?_)
          clear hK0 K0
          try simp only [Act.put, zz1, zz2, zz3, zz4, zz5, zz6]
          refine tkH 5 ?_ rfl ?_ hHeld ?_; rotate_left; (intro w hSw; (try dsimp only at hSw); go_simp; try with_reducible rfl); try simp only [Act.put, zz1, zz2, zz3, zz4, zz5, zz6]
          refine tkH 6 ?_ rfl ?_ hHeld ?_; rotate_left; (intro w hSw; (try dsimp only at hSw); go_simp; try with_reducible rfl); try simp only [Act.put, zz1, zz2, zz3, zz4, zz5, zz6]
          refine tuH 7 rfl hHeld ?_
          try simp only [Act.put, zz1, zz2, zz3, zz4, zz5, zz6]
          refine tuH 8 rfl hHeld ?_
          try simp only [Act.put, zz1, zz2, zz3, zz4, zz5, zz6]
          refine tuH 9 rfl hHeld ?_
          try simp only [Act.put, zz1, zz2, zz3, zz4, zz5, zz6]
          refine tuH 10 rfl hHeld ?_
          try simp only [Act.put, zz1, zz2, zz3, zz4, zz5, zz6]
          refine tuH 11 rfl hHeld ?_
          try simp only [Act.put, zz1, zz2, zz3, zz4, zz5, zz6]
          refine tuH 12 rfl hHeld ?_
          try simp only [Act.put, zz1, zz2, zz3, zz4, zz5, zz6]
          refine tkH 13 ?_ rfl ?_ hHeld ?_; rotate_left; (intro w hSw; (try dsimp only at hSw); go_simp; try with_reducible rfl); try simp only [Act.put, zz1, zz2, zz3, zz4, zz5, zz6]
          refine tkH 14 ?_ rfl ?_ hHeld ?_; rotate_left; (intro w hSw; (try dsimp only at hSw); go_simp; try with_reducible rfl); try simp only [Act.put, zz1, zz2, zz3, zz4, zz5, zz6]
          refine tuH 15 rfl hHeld ?_
          try simp only [Act.put, zz1, zz2, zz3, zz4, zz5, zz6]
          refine tuH 16 rfl hHeld ?_
          try simp only [Act.put, zz1, zz2, zz3, zz4, zz5, zz6]
          refine tkH 17 ?_ rfl ?_ hHeld ?_; rotate_left; (intro w hSw; (try dsimp only at hSw); go_simp; try with_reducible rfl); try simp only [Act.put, zz1, zz2, zz3, zz4, zz5, zz6]
          refine tkH 18 ?_ rfl ?_ hHeld ?_; rotate_left; (intro w hSw; (try dsimp only at hSw); go_simp; try with_reducible rfl); try simp only [Act.put, zz1, zz2, zz3, zz4, zz5, zz6]
          refine tuH 19 rfl hHeld ?_
          try simp only [Act.put, zz1, zz2, zz3, zz4, zz5, zz6]
          refine tuH 20 rfl hHeld ?_
          try simp only [Act.put, zz1, zz2, zz3, zz4, zz5, zz6]
          refine tuH 21 rfl hHeld ?_
          try simp only [Act.put, zz1, zz2, zz3, zz4, zz5, zz6]
          refine tuH 22 rfl hHeld ?_
          try simp only [Act.put, zz1, zz2, zz3, zz4, zz5, zz6]
          refine tuH 23 rfl hHeld ?_
          try simp only [Act.put, zz1, zz2, zz3, zz4, zz5, zz6]
          refine tuH 24 rfl hHeld ?_
          try simp only [Act.put, zz1, zz2, zz3, zz4, zz5, zz6]
          refine tuH 25 rfl hHeld ?_
          try simp only [Act.put, zz1, zz2, zz3, zz4, zz5, zz6]
          refine tkH 26 ?_ rfl ?_ hHeld ?_; rotate_left; (intro w hSw; (try dsimp only at hSw); go_simp; try with_reducible rfl); try simp only [Act.put, zz1, zz2, zz3, zz4, zz5, zz6]
          refine wpAnyH_done (by kernel_rfl) ?_ _
          go_wp2_with fail
          go_meet
          exact ⟨by rw [E.out], by assumption⟩
        have y0 : (ef == 0) = true := by simp [e0]
        by_cases e1 : x (k * 7) = 1
        case neg =>
          have y1 : (x (k * 7) == 1) = false := by simp [e1]
          have E : Hid ((tk9 x k && opens9 ev K) = false) := by show _ = _; rw [TK.out]; simp [e1]
          clear e0 e1
          refine wp_region_held_drew (S := fun W => (W.cell? ⟨b, off + k * 7, none⟩ = some (.int .i64 (x (k * 7))) ∧ W.cell? ⟨b, off + k * 7 + 1, none⟩ = some (.int .i64 (x (k * 7 + 1))) ∧ W.cell? ⟨b, off + k * 7 + 2, none⟩ = some (.int .i64 (x (k * 7 + 2))) ∧ W.cell? ⟨b, off + k * 7 + 3, none⟩ = some (.int .i64 (x (k * 7 + 3))) ∧ W.cell? ⟨b, off + k * 7 + 4, none⟩ = some (.int .i64 (x (k * 7 + 4))) ∧ W.cell? ⟨b, off + k * 7 + 5, none⟩ = some (.int .i64 (x (k * 7 + 5))) ∧ W.cell? ⟨b, off + k * 7 + 6, none⟩ = some (.int .i64 (x (k * 7 + 6)))) ∧ (W.cell? ⟨g, 0, none⟩ = some (.slice (some ⟨b1, o1, none⟩) p.n1 p.c1) ∧ W.cell? ⟨g, 3, none⟩ = some (.int .i64 K.tick)) ∧ W.cell? ⟨b1, o1 + s, none⟩ = some (.int .i64 o) ∧ Below wr.heap.size wr W) (by kernel_rfl) (KH.out _ (Below.drew (Below.refl _ _))) (fun hHeld => ?_)
          obtain ⟨v0, hv0⟩ : ∃ v0, v0 = wr.drew := ⟨_, rfl⟩
          have BL0 : Hid (Below wr.heap.size wr v0) := by rw [hv0]; exact Below.drew (Below.refl _ _)
          rw [← hv0] at hHeld ⊢
          clear hv0
          refine tkH 0 ?_ rfl ?_ hHeld ?_; rotate_left; (intro w hSw; (try dsimp only at hSw); go_simp; try with_reducible rfl); try simp only [Act.put, zz1, zz2, zz3, zz4, zz5, zz6]
          refine tkH 1 ?_ rfl ?_ hHeld ?_; rotate_left; (intro w hSw; (try dsimp only at hSw); go_simp; try with_reducible rfl); try simp only [Act.put, zz1, zz2, zz3, zz4, zz5, zz6]
          refine tkH 2 ?_ rfl ?_ hHeld ?_; rotate_left; (intro w hSw; (try dsimp only at hSw); go_simp; try with_reducible rfl); try simp only [Act.put, zz1, zz2, zz3, zz4, zz5, zz6]
          refine tkH 3 ?_ rfl ?_ hHeld ?_; rotate_left; (intro w hSw; (try dsimp only at hSw); go_simp; try with_reducible rfl); try simp only [Act.put, zz1, zz2, zz3, zz4, zz5, zz6]
          refine wpAnyH_ready (rs := [4]) (by kernel_rfl) (by simp) ?_
          refine AllReadyH.cons (o := _) rfl (fun K0 hK0 => ?_) AllReadyH.nil
          go_simp
          refine (EF.out _ (by go_split_ands; assumption)).mono ?_
          rintro e9 w9 ⟨rfl, hb9⟩
          go_wp2_with fail
          have hb0 := hb9
          refine hK0.out _ _ (KH.out _ hb9) (fun hHeld => ?_)
          clear hK0 K0
          try simp only [Act.put, zz1, zz2, zz3, zz4, zz5, zz6]
          refine tkH 5 ?_ rfl ?_ hHeld ?_; rotate_left; (intro w hSw; (try dsimp only at hSw); go_simp; try with_reducible rfl); try simp only [Act.put, zz1, zz2, zz3, zz4, zz5, zz6]
          refine tkH 6 ?_ rfl ?_ hHeld ?_; rotate_left; (intro w hSw; (try dsimp only at hSw); go_simp; try with_reducible rfl); try simp only [Act.put, zz1, zz2, zz3, zz4, zz5, zz6]
          refine tkH 7 ?_ rfl ?_ hHeld ?_; rotate_left; (intro w hSw; (try dsimp only at hSw); go_simp; try with_reducible rfl); try simp only [Act.put, zz1, zz2, zz3, zz4, zz5, zz6]
          refine tkH 8 ?_ rfl ?_ hHeld ?_; rotate_left; (intro w hSw; (try dsimp only at hSw); go_simp; try with_reducible rfl); try simp only [Act.put, zz1, zz2, zz3, zz4, zz5, zz6]
          refine tkH 9 ?_ rfl ?_ hHeld ?_; rotate_left; (intro w hSw; (try dsimp only at hSw); go_simp; try with_reducible rfl); try simp only [Act.put, zz1, zz2, zz3, zz4, zz5, zz6]
          refine tkH 10 ?_ rfl ?_ hHeld ?_; rotate_left; (intro w hSw; (try dsimp only at hSw); go_simp; try with_reducible rfl); try simp only [Act.put, zz1, zz2, zz3, zz4, zz5, zz6]
          refine tkH 11 ?_ rfl ?_ hHeld ?_; rotate_left; (intro w hSw; (try dsimp only at hSw); go_simp; try with_reducible rfl); try simp only [Act.put, zz1, zz2, zz3, zz4, zz5, zz6]
          refine tkH 12 ?_ rfl ?_ hHeld ?_; rotate_left; (intro w hSw; (try dsimp only at hSw); go_simp; try with_reducible rfl); try simp only [Act.put, zz1, zz2, zz3, zz4, zz5, zz6]
          refine tkH 13 ?_ rfl ?_ hHeld ?_; rotate_left; (intro w hSw; (try dsimp only at hSw); go_simp; try with_reducible rfl); try simp only [Act.put, zz1, zz2, zz3, zz4, zz5, zz6]
          refine tkH 14 ?_ rfl ?_ hHeld ?_; rotate_left; (intro w hSw; (try dsimp only at hSw); go_simp; try with_reducible rfl); try simp only [Act.put, zz1, zz2, zz3, zz4, zz5, zz6]
          refine tuH 15 rfl hHeld ?_
          try simp only [Act.put, zz1, zz2, zz3, zz4, zz5, zz6]
          refine tuH 16 rfl hHeld ?_
          try simp only [Act.put, zz1, zz2, zz3, zz4, zz5, zz6]
          refine tkH 17 ?_ rfl ?_ hHeld ?_; rotate_left; (intro w hSw; (try dsimp only at hSw); go_simp; try with_reducible rfl); try simp only [Act.put, zz1, zz2, zz3, zz4, zz5, zz6]
          refine tkH 18 ?_ rfl ?_ hHeld ?_; rotate_left; (intro w hSw; (try dsimp only at hSw); go_simp; try with_reducible rfl); try simp only [Act.put, zz1, zz2, zz3, zz4, zz5, zz6]
          refine tuH 19 rfl hHeld ?_
          try simp only [Act.put, zz1, zz2, zz3, zz4, zz5, zz6]
          refine tuH 20 rfl hHeld ?_
          try simp only [Act.put, zz1, zz2, zz3, zz4, zz5, zz6]
          refine tuH 21 rfl hHeld ?_
          try simp only [Act.put, zz1, zz2, zz3, zz4, zz5, zz6]
          refine tuH 22 rfl hHeld ?_
          try simp only [Act.put, zz1, zz2, zz3, zz4, zz5, zz6]
          refine tuH 23 rfl hHeld ?_
          try simp only [Act.put, zz1, zz2, zz3, zz4, zz5, zz6]
          refine tuH 24 rfl hHeld ?_
          try simp only [Act.put, zz1, zz2, zz3, zz4, zz5, zz6]
          refine tuH 25 rfl hHeld ?_
          try simp only [Act.put, zz1, zz2, zz3, zz4, zz5, zz6]
          refine tkH 26 ?_ rfl ?_ hHeld ?_; rotate_left; (intro w hSw; (try dsimp only at hSw); go_simp; try with_reducible rfl); try simp only [Act.put, zz1, zz2, zz3, zz4, zz5, zz6]
          refine wpAnyH_done (by kernel_rfl) ?_ _
          go_wp2_with fail
          go_meet
          exact ⟨by rw [E.out], by assumption⟩
        have y1 : (x (k * 7) == 1) = true := by simp [e1]
        by_cases e2 : ph = 0
        case neg =>
          have y2 : (ph == 0) = false := by simp [e2]
          have E : Hid ((tk9 x k && opens9 ev K) = false) := by show _ = _; rw [OP.out]; simp [e2]
          clear e0 e1 e2
          refine wp_region_held_drew (S := fun W => (W.cell? ⟨b, off + k * 7, none⟩ = some (.int .i64 (x (k * 7))) ∧ W.cell? ⟨b, off + k * 7 + 1, none⟩ = some (.int .i64 (x (k * 7 + 1))) ∧ W.cell? ⟨b, off + k * 7 + 2, none⟩ = some (.int .i64 (x (k * 7 + 2))) ∧ W.cell? ⟨b, off + k * 7 + 3, none⟩ = some (.int .i64 (x (k * 7 + 3))) ∧ W.cell? ⟨b, off + k * 7 + 4, none⟩ = some (.int .i64 (x (k * 7 + 4))) ∧ W.cell? ⟨b, off + k * 7 + 5, none⟩ = some (.int .i64 (x (k * 7 + 5))) ∧ W.cell? ⟨b, off + k * 7 + 6, none⟩ = some (.int .i64 (x (k * 7 + 6)))) ∧ (W.cell? ⟨g, 0, none⟩ = some (.slice (some ⟨b1, o1, none⟩) p.n1 p.c1) ∧ W.cell? ⟨g, 3, none⟩ = some (.int .i64 K.tick)) ∧ W.cell? ⟨b1, o1 + s, none⟩ = some (.int .i64 o) ∧ Below wr.heap.size wr W) (by kernel_rfl) (KH.out _ (Below.drew (Below.refl _ _))) (fun hHeld => ?_)
          obtain ⟨v0, hv0⟩ : ∃ v0, v0 = wr.drew := ⟨_, rfl⟩
          have BL0 : Hid (Below wr.heap.size wr v0) := by rw [hv0]; exact Below.drew (Below.refl _ _)
          rw [← hv0] at hHeld ⊢
          clear hv0
          refine tkH 0 ?_ rfl ?_ hHeld ?_; rotate_left; (intro w hSw; (try dsimp only at hSw); go_simp; try with_reducible rfl); try simp only [Act.put, zz1, zz2, zz3, zz4, zz5, zz6]
          refine tkH 1 ?_ rfl ?_ hHeld ?_; rotate_left; (intro w hSw; (try dsimp only at hSw); go_simp; try with_reducible rfl); try simp only [Act.put, zz1, zz2, zz3, zz4, zz5, zz6]
          refine tkH 2 ?_ rfl ?_ hHeld ?_; rotate_left; (intro w hSw; (try dsimp only at hSw); go_simp; try with_reducible rfl); try simp only [Act.put, zz1, zz2, zz3, zz4, zz5, zz6]
          refine tkH 3 ?_ rfl ?_ hHeld ?_; rotate_left; (intro w hSw; (try dsimp only at hSw); go_simp; try with_reducible rfl); try simp only [Act.put, zz1, zz2, zz3, zz4, zz5, zz6]
          refine wpAnyH_ready (rs := [4]) (by kernel_rfl) (by simp) ?_
          refine AllReadyH.cons (o := _) rfl (fun K0 hK0 => ?_) AllReadyH.nil
          go_simp
          refine (EF.out _ (by go_split_ands; assumption)).mono ?_
          rintro e9 w9 ⟨rfl, hb9⟩
          go_wp2_with fail
          have hb0 := hb9
          refine hK0.out _ _ (KH.out _ hb9) (fun hHeld => ?_)
          clear hK0 K0
          try simp only [Act.put, zz1, zz2, zz3, zz4, zz5, zz6]
          refine tkH 5 ?_ rfl ?_ hHeld ?_; rotate_left; (intro w hSw; (try dsimp only at hSw); go_simp; try with_reducible rfl); try simp only [Act.put, zz1, zz2, zz3, zz4, zz5, zz6]
          refine tkH 6 ?_ rfl ?_ hHeld ?_; rotate_left; (intro w hSw; (try dsimp only at hSw); go_simp; try with_reducible rfl); try simp only [Act.put, zz1, zz2, zz3, zz4, zz5, zz6]
          refine tkH 7 ?_ rfl ?_ hHeld ?_; rotate_left; (intro w hSw; (try dsimp only at hSw); go_simp; try with_reducible rfl); try simp only [Act.put, zz1, zz2, zz3, zz4, zz5, zz6]
          refine tkH 8 ?_ rfl ?_ hHeld ?_; rotate_left; (intro w hSw; (try dsimp only at hSw); go_simp; try with_reducible rfl); try simp only [Act.put, zz1, zz2, zz3, zz4, zz5, zz6]
          refine tkH 9 ?_ rfl ?_ hHeld ?_; rotate_left; (intro w hSw; (try dsimp only at hSw); go_simp; try with_reducible rfl); try simp only [Act.put, zz1, zz2, zz3, zz4, zz5, zz6]
          refine tkH 10 ?_ rfl ?_ hHeld ?_; rotate_left; (intro w hSw; (try dsimp only at hSw); go_simp; try with_reducible rfl); try simp only [Act.put, zz1, zz2, zz3, zz4, zz5, zz6]
          refine tkH 11 ?_ rfl ?_ hHeld ?_; rotate_left; (intro w hSw; (try dsimp only at hSw); go_simp; try with_reducible rfl); try simp only [Act.put, zz1, zz2, zz3, zz4, zz5, zz6]
          refine tkH 12 ?_ rfl ?_ hHeld ?_; rotate_left; (intro w hSw; (try dsimp only at hSw); go_simp; try with_reducible rfl); try simp only [Act.put, zz1, zz2, zz3, zz4, zz5, zz6]
          refine tkH 13 ?_ rfl ?_ hHeld ?_; rotate_left; (intro w hSw; (try dsimp only at hSw); go_simp; try with_reducible rfl); try simp only [Act.put, zz1, zz2, zz3, zz4, zz5, zz6]
          refine tkH 14 ?_ rfl ?_ hHeld ?_; rotate_left; (intro w hSw; (try dsimp only at hSw); go_simp; try with_reducible rfl); try simp only [Act.put, zz1, zz2, zz3, zz4, zz5, zz6]
          refine wpAnyH_ready (rs := [15]) (by kernel_rfl) (by simp) ?_
          refine AllReadyH.cons (o := _) rfl (fun K0 hK0 => ?_) AllReadyH.nil
          go_simp
          refine (PH.out _ (by go_split_ands; assumption)).mono ?_
          rintro e9 w9 ⟨rfl, hb9⟩
          go_wp2_with fail
          have hb0 := hb9
          refine hK0.out _ _ (KH.out _ hb9) (fun hHeld => ?_)
          clear hK0 K0
          try simp only [Act.put, zz1, zz2, zz3, zz4, zz5, zz6]
          refine tkH 16 ?_ rfl ?_ hHeld ?_; rotate_left; (intro w hSw; (try dsimp only at hSw); go_simp; try with_reducible rfl); try simp only [Act.put, zz1, zz2, zz3, zz4, zz5, zz6]
          refine tkH 17 ?_ rfl ?_ hHeld ?_; rotate_left; (intro w hSw; (try dsimp only at hSw); go_simp; try with_reducible rfl); try simp only [Act.put, zz1, zz2, zz3, zz4, zz5, zz6]
          refine tkH 18 ?_ rfl ?_ hHeld ?_; rotate_left; (intro w hSw; (try dsimp only at hSw); go_simp; try with_reducible rfl); try simp only [Act.put, zz1, zz2, zz3, zz4, zz5, zz6]
          refine tuH 19 rfl hHeld ?_
          try simp only [Act.put, zz1, zz2, zz3, zz4, zz5, zz6]
          refine tuH 20 rfl hHeld ?_
          try simp only [Act.put, zz1, zz2, zz3, zz4, zz5, zz6]
          refine tuH 21 rfl hHeld ?_
          try simp only [Act.put, zz1, zz2, zz3, zz4, zz5, zz6]
          refine tuH 22 rfl hHeld ?_
          try simp only [Act.put, zz1, zz2, zz3, zz4, zz5, zz6]
          refine tuH 23 rfl hHeld ?_
          try simp only [Act.put, zz1, zz2, zz3, zz4, zz5, zz6]
          refine tuH 24 rfl hHeld ?_
          try simp only [Act.put, zz1, zz2, zz3, zz4, zz5, zz6]
          refine tuH 25 rfl hHeld ?_
          try simp only [Act.put, zz1, zz2, zz3, zz4, zz5, zz6]
          refine tkH 26 ?_ rfl ?_ hHeld ?_; rotate_left; (intro w hSw; (try dsimp only at hSw); go_simp; try with_reducible rfl); try simp only [Act.put, zz1, zz2, zz3, zz4, zz5, zz6]
          refine wpAnyH_done (by kernel_rfl) ?_ _
          go_wp2_with fail
          go_meet
          exact ⟨by rw [E.out], by assumption⟩
        have y2 : (ph == 0) = true := by simp [e2]
        by_cases e3 : o = ev
        case neg =>
          have y3 : (o == ev) = false := by simp [e3]
          have E : Hid ((tk9 x k && opens9 ev K) = false) := by show _ = _; rw [OP.out]; simp [e3]
          clear e0 e1 e2 e3
          refine wp_region_held_drew (S := fun W => (W.cell? ⟨b, off + k * 7, none⟩ = some (.int .i64 (x (k * 7))) ∧ W.cell? ⟨b, off + k * 7 + 1, none⟩ = some (.int .i64 (x (k * 7 + 1))) ∧ W.cell? ⟨b, off + k * 7 + 2, none⟩ = some (.int .i64 (x (k * 7 + 2))) ∧ W.cell? ⟨b, off + k * 7 + 3, none⟩ = some (.int .i64 (x (k * 7 + 3))) ∧ W.cell? ⟨b, off + k * 7 + 4, none⟩ = some (.int .i64 (x (k * 7 + 4))) ∧ W.cell? ⟨b, off + k * 7 + 5, none⟩ = some (.int .i64 (x (k * 7 + 5))) ∧ W.cell? ⟨b, off + k * 7 + 6, none⟩ = some (.int .i64 (x (k * 7 + 6)))) ∧ (W.cell? ⟨g, 0, none⟩ = some (.slice (some ⟨b1, o1, none⟩) p.n1 p.c1) ∧ W.cell? ⟨g, 3, none⟩ = some (.int .i64 K.tick)) ∧ W.cell? ⟨b1, o1 + s, none⟩ = some (.int .i64 o) ∧ Below wr.heap.size wr W) (by kernel_rfl) (KH.out _ (Below.drew (Below.refl _ _))) (fun hHeld => ?_)
          obtain ⟨v0, hv0⟩ : ∃ v0, v0 = wr.drew := ⟨_, rfl⟩
          have BL0 : Hid (Below wr.heap.size wr v0) := by rw [hv0]; exact Below.drew (Below.refl _ _)
          rw [← hv0] at hHeld ⊢
          clear hv0
          refine tkH 0 ?_ rfl ?_ hHeld ?_; rotate_left; (intro w hSw; (try dsimp only at hSw); go_simp; try with_reducible rfl); try simp only [Act.put, zz1, zz2, zz3, zz4, zz5, zz6]
          refine tkH 1 ?_ rfl ?_ hHeld ?_; rotate_left; (intro w hSw; (try dsimp only at hSw); go_simp; try with_reducible rfl); try simp only [Act.put, zz1, zz2, zz3, zz4, zz5, zz6]
          refine tkH 2 ?_ rfl ?_ hHeld ?_; rotate_left; (intro w hSw; (try dsimp only at hSw); go_simp; try with_reducible rfl); try simp only [Act.put, zz1, zz2, zz3, zz4, zz5, zz6]
          refine tkH 3 ?_ rfl ?_ hHeld ?_; rotate_left; (intro w hSw; (try dsimp only at hSw); go_simp; try with_reducible rfl); try simp only [Act.put, zz1, zz2, zz3, zz4, zz5, zz6]
          refine wpAnyH_ready (rs := [4]) (by kernel_rfl) (by simp) ?_
          refine AllReadyH.cons (o := _) rfl (fun K0 hK0 => ?_) AllReadyH.nil
          go_simp
          refine (EF.out _ (by go_split_ands; assumption)).mono ?_
          rintro e9 w9 ⟨rfl, hb9⟩
          go_wp2_with fail
          have hb0 := hb9
          refine hK0.out _ _ (KH.out _ hb9) (fun hHeld => ?_)
          clear hK0 K0
          try simp only [Act.put, zz1, zz2, zz3, zz4, zz5, zz6]
          refine tkH 5 ?_ rfl ?_ hHeld ?_; rotate_left; (intro w hSw; (try dsimp only at hSw); go_simp; try with_reducible rfl); try simp only [Act.put, zz1, zz2, zz3, zz4, zz5, zz6]
          refine tkH 6 ?_ rfl ?_ hHeld ?_; rotate_left; (intro w hSw; (try dsimp only at hSw); go_simp; try with_reducible rfl); try simp only [Act.put, zz1, zz2, zz3, zz4, zz5, zz6]
          refine tkH 7 ?_ rfl ?_ hHeld ?_; rotate_left; (intro w hSw; (try dsimp only at hSw); go_simp; try with_reducible rfl); try simp only [Act.put, zz1, zz2, zz3, zz4, zz5, zz6]
          refine tkH 8 ?_ rfl ?_ hHeld ?_; rotate_left; (intro w hSw; (try dsimp only at hSw); go_simp; try with_reducible rfl); try simp only [Act.put, zz1, zz2, zz3, zz4, zz5, zz6]
          refine tkH 9 ?_ rfl ?_ hHeld ?_; rotate_left; (intro w hSw; (try dsimp only at hSw); go_simp; try with_reducible rfl); try simp only [Act.put, zz1, zz2, zz3, zz4, zz5, zz6]
          refine tkH 10 ?_ rfl ?_ hHeld ?_; rotate_left; (intro w hSw; (try dsimp only at hSw); go_simp; try with_reducible rfl); try simp only [Act.put, zz1, zz2, zz3, zz4, zz5, zz6]
          refine tkH 11 ?_ rfl ?_ hHeld ?_; rotate_left; (intro w hSw; (try dsimp only at hSw); go_simp; try with_reducible rfl); try simp only [Act.put, zz1, zz2, zz3, zz4, zz5, zz6]
          refine tkH 12 ?_ rfl ?_ hHeld ?_; rotate_left; (intro w hSw; (try dsimp only at hSw); go_simp; try with_reducible rfl); try simp only [Act.put, zz1, zz2, zz3, zz4, zz5, zz6]
          refine tkH 13 ?_ rfl ?_ hHeld ?_; rotate_left; (intro w hSw; (try dsimp only at hSw); go_simp; try with_reducible rfl); try simp only [Act.put, zz1, zz2, zz3, zz4, zz5, zz6]
          refine tkH 14 ?_ rfl ?_ hHeld ?_; rotate_left; (intro w hSw; (try dsimp only at hSw); go_simp; try with_reducible rfl); try simp only [Act.put, zz1, zz2, zz3, zz4, zz5, zz6]
          refine wpAnyH_ready (rs := [15]) (by kernel_rfl) (by simp) ?_
          refine AllReadyH.cons (o := _) rfl (fun K0 hK0 => ?_) AllReadyH.nil
          go_simp
          refine (PH.out _ (by go_split_ands; assumption)).mono ?_
          rintro e9 w9 ⟨rfl, hb9⟩
          go_wp2_with fail
          have hb0 := hb9
          refine hK0.out _ _ (KH.out _ hb9) (fun hHeld => ?_)
          clear hK0 K0
          try simp only [Act.put, zz1, zz2, zz3, zz4, zz5, zz6]
          refine tkH 16 ?_ rfl ?_ hHeld ?_; rotate_left; (intro w hSw; (try dsimp only at hSw); go_simp; try with_reducible rfl); try simp only [Act.put, zz1, zz2, zz3, zz4, zz5, zz6]
          refine tkH 17 ?_ rfl ?_ hHeld ?_; rotate_left; (intro w hSw; (try dsimp only at hSw); go_simp; try with_reducible rfl); try simp only [Act.put, zz1, zz2, zz3, zz4, zz5, zz6]
          refine tkH 18 ?_ rfl ?_ hHeld ?_; rotate_left; (intro w hSw; (try dsimp only at hSw); go_simp; try with_reducible rfl); try simp only [Act.put, zz1, zz2, zz3, zz4, zz5, zz6]
          refine tkH 19 ?_ rfl ?_ hHeld ?_; rotate_left; (intro w hSw; (try dsimp only at hSw); go_simp; try with_reducible rfl); try simp only [Act.put, zz1, zz2, zz3, zz4, zz5, zz6]
          refine tkH 20 ?_ rfl ?_ hHeld ?_; rotate_left; (intro w hSw; (try dsimp only at hSw); go_simp; try with_reducible rfl); try simp only [Act.put, zz1, zz2, zz3, zz4, zz5, zz6]
          refine tkH 24 ?_ rfl ?_ hHeld ?_; rotate_left; (intro w hSw; (try dsimp only at hSw); go_simp; try with_reducible rfl); try simp only [Act.put, zz1, zz2, zz3, zz4, zz5, zz6]
          refine wpAnyH_ready (rs := [21]) (by kernel_rfl) (by simp) ?_
          refine AllReadyH.cons (o := _) rfl (fun K0 hK0 => ?_) AllReadyH.nil
          go_simp
          refine (SLT.out _ (by go_split_ands; assumption)).mono ?_
          rintro e9 w9 ⟨rfl, hb9⟩
          go_wp2_with fail
          have hb0 := hb9
          refine hK0.out _ _ (KH.out _ hb9) (fun hHeld => ?_)
          clear hK0 K0
          try simp only [Act.put, zz1, zz2, zz3, zz4, zz5, zz6]
          refine tkH 22 ?_ rfl ?_ hHeld ?_; rotate_left; (intro w hSw; (try dsimp only at hSw); go_simp; try with_reducible rfl); try simp only [Act.put, zz1, zz2, zz3, zz4, zz5, zz6]
          refine tkH 23 ?_ rfl ?_ hHeld ?_; rotate_left; (intro w hSw; (try dsimp only at hSw); go_simp; try with_reducible rfl); try simp only [Act.put, zz1, zz2, zz3, zz4, zz5, zz6]
          refine tkH 25 ?_ rfl ?_ hHeld ?_; rotate_left; (intro w hSw; (try dsimp only at hSw); go_simp; try with_reducible rfl); try simp only [Act.put, zz1, zz2, zz3, zz4, zz5, zz6]
          refine tkH 26 ?_ rfl ?_ hHeld ?_; rotate_left; (intro w hSw; (try dsimp only at hSw); go_simp; try with_reducible rfl); try simp only [Act.put, zz1, zz2, zz3, zz4, zz5, zz6]
          refine wpAnyH_done (by kernel_rfl) ?_ _
          go_wp2_with fail
          go_meet
          exact ⟨by rw [E.out], by assumption⟩
        have y3 : (o == ev) = true := by simp [e3]
        have E : Hid ((tk9 x k && opens9 ev K) = true) := by show _ = _; rw [OP.out, TK.out]; simp [e0, e1, e2, e3]
        clear e0 e1 e2 e3
        refine wp_region_held_drew (S := fun W => (W.cell? ⟨b, off + k * 7, none⟩ = some (.int .i64 (x (k * 7))) ∧ W.cell? ⟨b, off + k * 7 + 1, none⟩ = some (.int .i64 (x (k * 7 + 1))) ∧ W.cell? ⟨b, off + k * 7 + 2, none⟩ = some (.int .i64 (x (k * 7 + 2))) ∧ W.cell? ⟨b, off + k * 7 + 3, none⟩ = some (.int .i64 (x (k * 7 + 3))) ∧ W.cell? ⟨b, off + k * 7 + 4, none⟩ = some (.int .i64 (x (k * 7 + 4))) ∧ W.cell? ⟨b, off + k * 7 + 5, none⟩ = some (.int .i64 (x (k * 7 + 5))) ∧ W.cell? ⟨b, off + k * 7 + 6, none⟩ = some (.int .i64 (x (k * 7 + 6)))) ∧ (W.cell? ⟨g, 0, none⟩ = some (.slice (some ⟨b1, o1, none⟩) p.n1 p.c1) ∧ W.cell? ⟨g, 3, none⟩ = some (.int .i64 K.tick)) ∧ W.cell? ⟨b1, o1 + s, none⟩ = some (.int .i64 o) ∧ Below wr.heap.size wr W) (by kernel_rfl) (KH.out _ (Below.drew (Below.refl _ _))) (fun hHeld => ?_)
        obtain ⟨v0, hv0⟩ : ∃ v0, v0 = wr.drew := ⟨_, rfl⟩
        have BL0 : Hid (Below wr.heap.size wr v0) := by rw [hv0]; exact Below.drew (Below.refl _ _)
        rw [← hv0] at hHeld ⊢
        clear hv0
        refine tkH 0 ?_ rfl ?_ hHeld ?_; rotate_left; (intro w hSw; (try dsimp only at hSw); go_simp; try with_reducible rfl); try simp only [Act.put, zz1, zz2, zz3, zz4, zz5, zz6]
        refine tkH 1 ?_ rfl ?_ hHeld ?_; rotate_left; (intro w hSw; (try dsimp only at hSw); go_simp; try with_reducible rfl); try simp only [Act.put, zz1, zz2, zz3, zz4, zz5, zz6]
        refine tkH 2 ?_ rfl ?_ hHeld ?_; rotate_left; (intro w hSw; (try dsimp only at hSw); go_simp; try with_reducible rfl); try simp only [Act.put, zz1, zz2, zz3, zz4, zz5, zz6]
        refine tkH 3 ?_ rfl ?_ hHeld ?_; rotate_left; (intro w hSw; (try dsimp only at hSw); go_simp; try with_reducible rfl); try simp only [Act.put, zz1, zz2, zz3, zz4, zz5, zz6]
        refine wpAnyH_ready (rs := [4]) (by kernel_rfl) (by simp) ?_
        refine AllReadyH.cons (o := _) rfl (fun K0 hK0 => ?_) AllReadyH.nil
        go_simp
        refine (EF.out _ (by go_split_ands; assumption)).mono ?_
        rintro e9 w9 ⟨rfl, hb9⟩
        go_wp2_with fail
        have hb0 := hb9
        refine hK0.out _ _ (KH.out _ hb9) (fun hHeld => ?_)
        clear hK0 K0
        try simp only [Act.put, zz1, zz2, zz3, zz4, zz5, zz6]
        refine tkH 5 ?_ rfl ?_ hHeld ?_; rotate_left; (intro w hSw; (try dsimp only at hSw); go_simp; try with_reducible rfl); try simp only [Act.put, zz1, zz2, zz3, zz4, zz5, zz6]
        refine tkH 6 ?_ rfl ?_ hHeld ?_; rotate_left; (intro w hSw; (try dsimp only at hSw); go_simp; try with_reducible rfl); try simp only [Act.put, zz1, zz2, zz3, zz4, zz5, zz6]
        refine tkH 7 ?_ rfl ?_ hHeld ?_; rotate_left; (intro w hSw; (try dsimp only at hSw); go_simp; try with_reducible rfl); try simp only [Act.put, zz1, zz2, zz3, zz4, zz5, zz6]
        refine tkH 8 ?_ rfl ?_ hHeld ?_; rotate_left; (intro w hSw; (try dsimp only at hSw); go_simp; try with_reducible rfl); try simp only [Act.put, zz1, zz2, zz3, zz4, zz5, zz6]
        refine tkH 9 ?_ rfl ?_ hHeld ?_; rotate_left; (intro w hSw; (try dsimp only at hSw); go_simp; try with_reducible rfl); try simp only [Act.put, zz1, zz2, zz3, zz4, zz5, zz6]
        refine tkH 10 ?_ rfl ?_ hHeld ?_; rotate_left; (intro w hSw; (try dsimp only at hSw); go_simp; try with_reducible rfl); try simp only [Act.put, zz1, zz2, zz3, zz4, zz5, zz6]
        refine tkH 11 ?_ rfl ?_ hHeld ?_; rotate_left; (intro w hSw; (try dsimp only at hSw); go_simp; try with_reducible rfl); try simp only [Act.put, zz1, zz2, zz3, zz4, zz5, zz6]
        refine tkH 12 ?_ rfl ?_ hHeld ?_; rotate_left; (intro w hSw; (try dsimp only at hSw); go_simp; try with_reducible rfl); try simp only [Act.put, zz1, zz2, zz3, zz4, zz5, zz6]
        refine tkH 13 ?_ rfl ?_ hHeld ?_; rotate_left; (intro w hSw; (try dsimp only at hSw); go_simp; try with_reducible rfl); try simp only [Act.put, zz1, zz2, zz3, zz4, zz5, zz6]
        refine tkH 14 ?_ rfl ?_ hHeld ?_; rotate_left; (intro w hSw; (try dsimp only at hSw); go_simp; try with_reducible rfl); try simp only [Act.put, zz1, zz2, zz3, zz4, zz5, zz6]
        refine wpAnyH_ready (rs := [15]) (by kernel_rfl) (by simp) ?_
        refine AllReadyH.cons (o := _) rfl (fun K0 hK0 => ?_) AllReadyH.nil
        go_simp
        refine (PH.out _ (by go_split_ands; assumption)).mono ?_
        rintro e9 w9 ⟨rfl, hb9⟩
        go_wp2_with fail
        have hb0 := hb9
        refine hK0.out _ _ (KH.out _ hb9) (fun hHeld => ?_)
        clear hK0 K0
        try simp only [Act.put, zz1, zz2, zz3, zz4, zz5, zz6]
        refine tkH 16 ?_ rfl ?_ hHeld ?_; rotate_left; (intro w hSw; (try dsimp only at hSw); go_simp; try with_reducible rfl); try simp only [Act.put, zz1, zz2, zz3, zz4, zz5, zz6]
        refine tkH 17 ?_ rfl ?_ hHeld ?_; rotate_left; (intro w hSw; (try dsimp only at hSw); go_simp; try with_reducible rfl); try simp only [Act.put, zz1, zz2, zz3, zz4, zz5, zz6]
        refine tkH 18 ?_ rfl ?_ hHeld ?_; rotate_left; (intro w hSw; (try dsimp only at hSw); go_simp; try with_reducible rfl); try simp only [Act.put, zz1, zz2, zz3, zz4, zz5, zz6]
        refine tkH 19 ?_ rfl ?_ hHeld ?_; rotate_left; (intro w hSw; (try dsimp only at hSw); go_simp; try with_reducible rfl); try simp only [Act.put, zz1, zz2, zz3, zz4, zz5, zz6]
        refine tkH 20 ?_ rfl ?_ hHeld ?_; rotate_left; (intro w hSw; (try dsimp only at hSw); go_simp; try with_reducible rfl); try simp only [Act.put, zz1, zz2, zz3, zz4, zz5, zz6]
        refine tkH 24 ?_ rfl ?_ hHeld ?_; rotate_left; (intro w hSw; (try dsimp only at hSw); go_simp; try with_reducible rfl); try simp only [Act.put, zz1, zz2, zz3, zz4, zz5, zz6]
        refine wpAnyH_ready (rs := [21]) (by kernel_rfl) (by simp) ?_
        refine AllReadyH.cons (o := _) rfl (fun K0 hK0 => ?_) AllReadyH.nil
        go_simp
        refine (SLT.out _ (by go_split_ands; assumption)).mono ?_
        rintro e9 w9 ⟨rfl, hb9⟩
        go_wp2_with fail
        have hb0 := hb9
        refine hK0.out _ _ (KH.out _ hb9) (fun hHeld => ?_)
        clear hK0 K0
        try simp only [Act.put, zz1, zz2, zz3, zz4, zz5, zz6]
        refine tkH 22 ?_ rfl ?_ hHeld ?_; rotate_left; (intro w hSw; (try dsimp only at hSw); go_simp; try with_reducible rfl); try simp only [Act.put, zz1, zz2, zz3, zz4, zz5, zz6]
        refine tkH 23 ?_ rfl ?_ hHeld ?_; rotate_left; (intro w hSw; (try dsimp only at hSw); go_simp; try with_reducible rfl); try simp only [Act.put, zz1, zz2, zz3, zz4, zz5, zz6]
        refine tkH 25 ?_ rfl ?_ hHeld ?_; rotate_left; (intro w hSw; (try dsimp only at hSw); go_simp; try with_reducible rfl); try simp only [Act.put, zz1, zz2, zz3, zz4, zz5, zz6]
        refine tkH 26 ?_ rfl ?_ hHeld ?_; rotate_left; (intro w hSw; (try dsimp only at hSw); go_simp; try with_reducible rfl); try simp only [Act.put, zz1, zz2, zz3, zz4, zz5, zz6]
        refine wpAnyH_done (by kernel_rfl) ?_ _
        go_wp2_with fail
        go_meet
        exact ⟨by rw [E.out], by assumption⟩
      case rest =>
        obtain ⟨rfl, hb⟩ := hcut
        have BW := Lib.hid hb
        clear hb EF PH SLT KH
        obtain ⟨v0, v1, v2, v3, v4, v5, v6⟩ := KC.out _ BW.out
        rcases hy : tk9 x k && opens9 ev K with _ | _
        · have E : Hid (¬ (tk9 x k = true ∧ opens9 ev K = true)) := fun hh => by simp [hh.1, hh.2] at hy
          clear hy
          go_wp2_with fail
          refine (EVC.out _ BW.out).mono ?_
          rintro e wz ⟨p', A', mq, cq, rfl, _, hkb, hg1, hg2, hg3, hkk⟩
          have JZ := Lib.hid ((J.out.below BW.out).event hkb ST.out hg1 hg2 hg3 hkk)
          clear hkb hg1 hg2 hg3 hkk EVC
          go_wp2
          go_roundw
          case rel => exact ⟨k + 1, p', by omega, by go_num, by rw [TN.out, if_neg E.out, List.append_nil], by rw [NX.out]; exact JZ.out⟩
          case measure => simp [intOf]; omega
        · have E : Hid (tk9 x k = true ∧ opens9 ev K = true) := by rw [Bool.and_eq_true] at hy; exact hy
          clear hy
          go_wp2_with fail
          refine (EVC.out _ BW.out).mono ?_
          rintro e wz ⟨p', A', mq, cq, rfl, _, hkb, hg1, hg2, hg3, hkk⟩
          have JZ := Lib.hid ((J.out.below BW.out).event hkb ST.out hg1 hg2 hg3 hkk)
          clear hkb hg1 hg2 hg3 hkk EVC
          go_wp2
          go_roundw
          case rel => exact ⟨k + 1, p', by omega, by go_num, by rw [TN.out, if_pos E.out, List.length_append]; go_num, by rw [NX.out]; exact JZ.out⟩
          case measure => simp [intOf]; omega
    · obtain rfl : k = n := by omega
      have hkn : ¬ ((k : Int) < (k : Int)) := by omega
      go_wp2
      go_ret
      exact ⟨rfl, J.out.bw⟩

end Go.Proofs.YtckapndpefkcgaaGreat
