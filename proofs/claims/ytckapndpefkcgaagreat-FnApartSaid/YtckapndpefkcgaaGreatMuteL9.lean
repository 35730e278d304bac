/-
  MutedEvents, the model's. No conditions beyond that the events can be read.
  Ahead of it:
  The events of a run, muted for one: their acts turned where it is not that one who acts. No program's function is named here.
  Ahead of it:
  The model's audit: what it asks, and at how many ticks a window of one began. No conditions beyond that the events can be read.
  Ahead of it:
  What an audit of a run says: the ticks ahead of which something was so. No program's function is named here.
  Ahead of it:
  The model's RunKernel. No conditions beyond that the events can be read.
-/
import Derived.Maps.AppendAt
import Derived.Test.YtckapndpefkcgaaGreatDrawC3
import Derived.Test.YtckapndpefkcgaaGreatSpec3n
import Derived.Test.YtckapndpefkcgaaGreatMath3r
import Derived.Test.YtckapndpefkcgaaGreatLoop3
import Derived.Test.YtckapndpefkcgaaGreatWho8
import Derived.Test.YtckapndpefkcgaaGreatSpec3x
set_option maxHeartbeats 1000000

namespace Go.Proofs.YtckapndpefkcgaaGreat
open Go.RowKit
set_option maxRecDepth 100000

set_option maxHeartbeats 2000000 in
theorem l3Event_any {w : World} {g : Nat} {p : Kp} {K : Ker} (h : KB w g p K) (sk : SK K) (ht : K.tick < 100000) (ge oe : Nat) (k a b c e s t : Int) (hne : ge ≠ g ∧ ge ≠ p.g2 ∧ ge ≠ p.g3) (hc : w.cell? ⟨ge, oe, none⟩ = some (.int .i64 k) ∧ w.cell? ⟨ge, oe + 1, none⟩ = some (.int .i64 a) ∧ w.cell? ⟨ge, oe + 2, none⟩ = some (.int .i64 b) ∧ w.cell? ⟨ge, oe + 3, none⟩ = some (.int .i64 c) ∧ w.cell? ⟨ge, oe + 4, none⟩ = some (.int .i64 e) ∧ w.cell? ⟨ge, oe + 5, none⟩ = some (.int .i64 s) ∧ w.cell? ⟨ge, oe + 6, none⟩ = some (.int .i64 t)) :
    Calls Tryz.prog 64 #[.pointer (some ⟨g, 0, none⟩), .pointer (some ⟨ge, oe, none⟩)] w (fun r w' => ∃ (p' : Kp) (A : Option Addr) (n cc : Nat), r = .returned (.tuple #[.int .i64 (step3 K k a b c e s t).1, .slice A n cc]) ∧ OR 96 3 w' w.heap.size A n cc (step3 K k a b c e s t).2.2 ∧ KB w' g p' (step3 K k a b c e s t).2.1 ∧ (p'.g1 = p.g1 ∨ w.heap.size ≤ p'.g1 ∧ p'.g1 < w'.heap.size) ∧ p'.g2 = p.g2 ∧ p'.g3 = p.g3 ∧ Kept [g, p.g2, p.g3] w w') := by
  have EF := Lib.hid (specEventFault_any k a b c e s t w)
  have HK := Lib.hid h
  have HS := Lib.hid sk
  have HT := Lib.hid ht
  have NE := Lib.hid hne
  have HC := Lib.hid hc
  obtain ⟨q, hq⟩ : ∃ q, q = evf k a b c e s t := ⟨_, rfl⟩
  rw [← hq] at EF
  have HQ := Lib.hid hq
  have LE := Lib.hid (World.block_lt_of_cell? _ _ hc.1)
  obtain ⟨r3, hr3⟩ : ∃ r3, r3 = step3 K k a b c e s t := ⟨_, rfl⟩
  rw [← hr3]
  have HR := Lib.hid hr3
  obtain ⟨c0, c1, c2, c3, c4, c5, c6⟩ := hc
  clear h sk ht hne hq hr3
  go_enter Tryz.func64, Tryz.ntmps64
  go_wp2_with fail
  refine EF.out.mono ?_
  rintro r w2 ⟨rfl, hb⟩
  have X2 : Hid (∀ gs, Kept gs w w2) := fun gs => Kept.of_below hb gs
  have S2 := Lib.hid hb.size
  have H2 := Lib.hid (HK.out.kept (X2.out []) (by simp) (by simp) (by simp) (by simp))
  have HC2 : Hid (w2.cell? ⟨ge, oe, none⟩ = some (.int .i64 k) ∧ w2.cell? ⟨ge, oe + 1, none⟩ = some (.int .i64 a) ∧ w2.cell? ⟨ge, oe + 2, none⟩ = some (.int .i64 b) ∧ w2.cell? ⟨ge, oe + 3, none⟩ = some (.int .i64 c) ∧ w2.cell? ⟨ge, oe + 4, none⟩ = some (.int .i64 e) ∧ w2.cell? ⟨ge, oe + 5, none⟩ = some (.int .i64 s) ∧ w2.cell? ⟨ge, oe + 6, none⟩ = some (.int .i64 t)) := by
    obtain ⟨c0, c1, c2, c3, c4, c5, c6⟩ := HC.out
    exact ⟨(hb.cell (p := ⟨ge, oe, none⟩) LE.out).trans c0, (hb.cell (p := ⟨ge, oe + 1, none⟩) LE.out).trans c1, (hb.cell (p := ⟨ge, oe + 2, none⟩) LE.out).trans c2, (hb.cell (p := ⟨ge, oe + 3, none⟩) LE.out).trans c3, (hb.cell (p := ⟨ge, oe + 4, none⟩) LE.out).trans c4, (hb.cell (p := ⟨ge, oe + 5, none⟩) LE.out).trans c5, (hb.cell (p := ⟨ge, oe + 6, none⟩) LE.out).trans c6⟩
  clear hb c0 c1 c2 c3 c4 c5 c6 HC EF HK
  by_cases h0 : q = 0
  case neg =>
    have y : (q != 0) = true := by simp [h0]
    have e3 : r3 = (q, K, []) := by rw [HR.out]; unfold step3; rw [if_pos (by rw [← HQ.out]; exact h0), ← HQ.out]
    subst e3
    go_wp2
    go_ret2
    exact ⟨p, none, 0, 0, rfl, OR.void _ _, H2.out, .inl rfl, rfl, rfl, X2.out _⟩
  have HZ := Lib.hid (show evf k a b c e s t = 0 by rw [← HQ.out]; exact h0)
  subst h0
  obtain ⟨c0, c1, c2, c3, c4, c5, c6⟩ := HC2.out
  by_cases k2 : k = 2
  · have hcf : cf c e s t = 0 := by
      rcases evf_z HZ.out with ⟨k1, _⟩ | ⟨_, hh⟩
      · omega
      · exact hh
    have e3 : r3 = ((call3 K c e s t).1, (call3 K c e s t).2, []) := by rw [HR.out]; unfold step3; rw [if_neg (by simp [HZ.out]), if_pos k2]
    subst e3
    have CC := Lib.hid (l3Call_any g ge (oe + 3) p K c e s t w2 H2.out c3 c4 c5 c6 NE.out.1 NE.out.2.1 NE.out.2.2 HS.out.v hcf)
    subst k2
    clear hcf c3 c4 c5 c6 c1 c2
    go_wp2_with fail
    refine CC.out.mono ?_
    rintro r w3 ⟨p', rfl, hkb, h1, h2, h3, hkk⟩
    have H3 := Lib.hid hkb
    have G3 := Lib.hid (show p'.g1 = p.g1 ∨ w.heap.size ≤ p'.g1 ∧ p'.g1 < w3.heap.size by have := S2.out; omega)
    have E2 := Lib.hid h2; have E3 := Lib.hid h3
    have X3 := Lib.hid ((X2.out [g, p.g2, p.g3]).trans hkk)
    clear hkb h1 h2 h3 hkk c0
    go_wp2
    go_ret2
    exact ⟨p', none, 0, 0, rfl, OR.void _ _, H3.out, G3.out, E2.out, E3.out, X3.out⟩
  · have hto : k = 1 ∧ (0 ≤ b ∧ b < 4) := by
      rcases evf_z HZ.out with ⟨k1, hh, _⟩ | ⟨hh, _⟩
      · exact ⟨k1, hh⟩
      · exact absurd hh k2
    have y : (k == 2) = false := by simp [k2]
    have e3 : r3 = (0, (tick3 K a b).1, (tick3 K a b).2) := by rw [HR.out]; unfold step3; rw [if_neg (by simp [HZ.out]), if_neg k2]
    subst e3
    have CC := Lib.hid (specTick_any H2.out (HS.out.tk HT.out) ge (oe + 1) a b hto.2 ⟨NE.out.1, NE.out.2.2⟩ c1 c2)
    clear k2 hto c1 c2 c3 c4 c5 c6
    go_wp2_with fail
    refine CC.out.mono ?_
    rintro r w3 ⟨A, n, cc, rfl, ho, hkb, hkk⟩
    have O3 := Lib.hid (ho.mono S2.out)
    have H3 := Lib.hid hkb
    have X3 := Lib.hid ((X2.out [g, p.g2, p.g3]).trans (hkk.mono (gs' := [g, p.g2, p.g3]) (by simp)))
    clear ho hkb hkk c0
    go_wp2
    go_ret2
    exact ⟨p, A, n, cc, rfl, O3.out, H3.out, .inl rfl, rfl, rfl, X3.out⟩



def ask3 (m : Int) (n : Nat) : Int := if (new1 m).1 ≠ 0 then (new1 m).1 else if 400 < n then 2 else 0
theorem l3Asked_any (m : Int) (A : Option Addr) (n c : Nat) (w : World) (hn : n ≤ 9223372036854775807) : Calls Tryz.prog 104 #[.int .i64 m, .slice A n c] w fun e w' => e = .returned (.int .i64 (ask3 m n)) ∧ Below w.heap.size w w' := by
  have fl0 := run_fr0
  have NV := Lib.hid (specNewVector_any m w)
  obtain ⟨q, hq⟩ : ∃ q, q = new1 m := ⟨_, rfl⟩
  have HA : Hid (ask3 m n = if q.1 ≠ 0 then q.1 else if 400 < n then 2 else 0) := by show _ = _; rw [hq]; rfl
  rw [← hq] at NV
  obtain ⟨q1, qs⟩ := q
  clear hq
  go_enter Tryz.func104, Tryz.ntmps104
  go_wp2_with fail
  refine NV.out.mono ?_
  rintro e w2 ⟨A', n', c', rfl, _, _, _, hb⟩
  have HB := Lib.hid hb
  clear hb NV
  by_cases h0 : q1 = 0
  · subst h0
    by_cases h4 : 400 < n
    · have h5 : (400 : Int) < n := by omega
      have EA : Hid (ask3 m n = 2) := by show _ = _; rw [HA.out, if_neg (by simp), if_pos h4]
      clear h4
      go_wp2
      go_ret
      exact ⟨ret_i64 EA.out.symm, HB.out⟩
    · have h5 : ¬ ((400 : Int) < n) := by omega
      have EA : Hid (ask3 m n = 0) := by show _ = _; rw [HA.out, if_neg (by simp), if_neg h4]
      clear h4
      go_wp2
      go_ret
      exact ⟨ret_i64 EA.out.symm, HB.out⟩
  · have y : (q1 != 0) = true := by simp [h0]
    have EA : Hid (ask3 m n = q1) := by show _ = _; rw [HA.out, if_pos h0]
    go_wp2
    go_ret
    exact ⟨ret_i64 EA.out.symm, HB.out⟩

theorem rk3_good {m : Int} {x : Nat → Int} {n : Nat} (h : ask3 m n = 0) : rk3 m x n = (0, run3 (new3 m) x n) ∧ (new1 m).1 = 0 ∧ n ≤ 400 := by
  unfold ask3 at h
  unfold rk3
  by_cases h1 : (new1 m).1 = 0
  · by_cases h4 : 400 < n
    · simp [h1, h4] at h
    · simp [h1, h4]; omega
  · simp [h1] at h
theorem grown_refl3 (w : World) (r : Option Nat) : w.grownBy w r := ⟨rfl, rfl, rfl, Nat.le_refl _, fun _ _ _ => rfl⟩
theorem one_vals3 (hs : List Int) : ∀ u ∈ vals hs, u.oneCell' = true := by
  intro u hu
  simp only [vals, List.mem_map] at hu
  obtain ⟨_, _, rfl⟩ := hu
  rfl



def tk9 (x : Nat → Int) (i : Nat) : Bool := decide (evf (x (i * 7)) (x (i * 7 + 1)) (x (i * 7 + 2)) (x (i * 7 + 3)) (x (i * 7 + 4)) (x (i * 7 + 5)) (x (i * 7 + 6)) = 0 ∧ x (i * 7) = 1)
def acts9 (ev : Int) (K : Ker) : Bool := decide (who8 K = ev)
def tks (P : Ker → Bool) (K0 : Ker) (x : Nat → Int) : Nat → List Int
  | 0 => []
  | i + 1 => tks P K0 x i ++ (if tk9 x i = true ∧ P (run3 K0 x i).1 = true then [(run3 K0 x i).1.tick] else [])
theorem tks_le (P : Ker → Bool) (K0 : Ker) (x : Nat → Int) : ∀ n, (tks P K0 x n).length ≤ n
  | 0 => Nat.le_refl _
  | i + 1 => by
    have := tks_le P K0 x i
    unfold tks
    split <;> simp <;> omega
theorem stp_tick {x : Nat → Int} {i : Nat} {K : Ker} (h : SK K) (ht : K.tick < 100000) : (K.tick < (stp x i K).2.1.tick) ↔ tk9 x i = true := by
  unfold stp step3 tk9
  by_cases h0 : evf (x (i * 7)) (x (i * 7 + 1)) (x (i * 7 + 2)) (x (i * 7 + 3)) (x (i * 7 + 4)) (x (i * 7 + 5)) (x (i * 7 + 6)) = 0
  · rw [if_neg (by simp [h0])]
    rcases evf_z h0 with ⟨k1, hb, _⟩ | ⟨k2, hc⟩
    · rw [if_neg (by omega)]
      obtain ⟨_, y, _⟩ := h.next ht (x (i * 7 + 1)) (x (i * 7 + 2)) hb
      exact ⟨fun _ => decide_eq_true ⟨h0, k1⟩, fun _ => show K.tick < (tick3 K (x (i * 7 + 1)) (x (i * 7 + 2))).1.tick by omega⟩
    · rw [if_pos k2]
      refine ⟨fun hh => ?_, fun hh => ?_⟩
      · have hh : K.tick < (call3 K (x (i * 7 + 3)) (x (i * 7 + 4)) (x (i * 7 + 5)) (x (i * 7 + 6))).2.tick := hh
        rw [call3_tk] at hh
        omega
      · have := (of_decide_eq_true hh).2
        omega
  · rw [if_pos h0]
    exact ⟨fun hh => absurd (show K.tick < K.tick from hh) (by omega), fun hh => absurd (of_decide_eq_true hh).1 h0⟩
theorem KOwn.read9 {w : World} {p : Kp} {K : Ker} (h : KOwn w p K) (hn : 1 ≤ p.n1) : KRead w 0 w.heap.size p.A1 p.n1 p.A2 4 p.A3 4 K := by
  obtain ⟨_, h1⟩ := mine_blk h.m1 (by omega)
  obtain ⟨_, h2⟩ := mine_blk h.m2 (by decide)
  obtain ⟨_, h3⟩ := mine_blk h.m3 (by decide)
  have a1 := (Array.getElem?_eq_some_iff.1 h1).1
  have a2 := (Array.getElem?_eq_some_iff.1 h2).1
  have a3 := (Array.getElem?_eq_some_iff.1 h3).1
  exact ⟨⟨h.l1, h.l2, h.l3⟩, h.m1.sl.wide (Nat.zero_le _) (by omega), h.m2.sl.wide (Nat.zero_le _) (by omega), h.m3.sl.wide (Nat.zero_le _) (by omega)⟩

structure LoopK (w W : World) (g : Nat) (p : Kp) (K : Ker) : Prop where
  kb : KB W g p K
  n1 : 1 ≤ p.n1
  lo : w.heap.size ≤ g ∧ w.heap.size ≤ p.g1 ∧ w.heap.size ≤ p.g2 ∧ w.heap.size ≤ p.g3
  bw : Below w.heap.size w W
theorem LoopK.below {w W W1 : World} {g : Nat} {p : Kp} {K : Ker} (J : LoopK w W g p K) (hb : Below W.heap.size W W1) : LoopK w W1 g p K := by
  have l1 := J.kb.lt1 J.n1
  have l2 := J.kb.lt2
  exact ⟨J.kb.low hb J.kb.lt l1 l2.1 l2.2, J.n1, J.lo, J.bw.trans (hb.mono J.bw.size)⟩
theorem LoopK.event {w W : World} {g : Nat} {p : Kp} {K : Ker} (J : LoopK w W g p K) {W1 : World} {p' : Kp} {K' : Ker} (kb : KB W1 g p' K') (sk : SK K') (e1 : p'.g1 = p.g1 ∨ W.heap.size ≤ p'.g1 ∧ p'.g1 < W1.heap.size) (e2 : p'.g2 = p.g2) (e3 : p'.g3 = p.g3) (kk : Kept [g, p.g2, p.g3] W W1) : LoopK w W1 g p' K' := by
  have l1 := kb.own.l1
  obtain ⟨v1, _⟩ := vf_zero sk.v
  have zb := J.bw.size
  have lo := J.lo
  refine ⟨kb, by omega, ⟨lo.1, ?_, by omega, by omega⟩, J.bw.trans (kk.below zb fun b hb => ?_)⟩
  · rcases e1 with e1 | e1
    · rw [e1]; exact lo.2.1
    · omega
  · simp only [List.mem_cons, List.not_mem_nil, or_false] at hb
    rcases hb with rfl | rfl | rfl
    · exact lo.1
    · exact lo.2.2.1
    · exact lo.2.2.2



def ask9 (mm : Int) (n : Nat) (ev : Int) : Int := if ask3 mm n ≠ 0 then ask3 mm n else if inEnv ev = true then 0 else 3
theorem ask9_zero {mm : Int} {n : Nat} {ev : Int} (h : ask9 mm n ev = 0) : ask3 mm n = 0 ∧ inEnv ev = true := by
  unfold ask9 at h
  by_cases h1 : ask3 mm n = 0
  · rw [if_neg (by simp [h1])] at h
    by_cases h2 : inEnv ev = true
    · exact ⟨h1, h2⟩
    · rw [if_neg h2] at h; omega
  · rw [if_pos h1] at h; exact absurd h h1
theorem l9Asked_any (mm : Int) (A : Option Addr) (n c : Nat) (ev : Int) (w : World) (hn : n ≤ 9223372036854775807) :
    Calls Tryz.prog 55 #[.int .i64 mm, .slice A n c, .int .i64 ev] w fun e w' => e = .returned (.int .i64 (ask9 mm n ev)) ∧ Below w.heap.size w w' := by
  have AS := Lib.hid (l3Asked_any mm A n c w hn)
  obtain ⟨q, hq⟩ : ∃ q, q = ask3 mm n := ⟨_, rfl⟩
  have HA : Hid (ask9 mm n ev = if q ≠ 0 then q else if inEnv ev = true then 0 else 3) := by show _ = _; rw [hq]; rfl
  rw [← hq] at AS
  have EV := Lib.hid (fun W => l1Env_any ev W)
  clear hq
  go_enter Tryz.func55, Tryz.ntmps55
  go_wp2_with fail
  refine AS.out.mono ?_
  rintro e w2 ⟨rfl, hb⟩
  have B2 := Lib.hid hb
  clear hb AS
  by_cases h0 : q = 0
  case neg =>
    have y : (q != 0) = true := by simp [h0]
    have E : Hid (ask9 mm n ev = q) := by show _ = _; rw [HA.out, if_pos h0]
    go_wp2
    go_ret
    exact ⟨ret_i64 E.out.symm, B2.out⟩
  subst h0
  go_wp2_with fail
  refine (EV.out w2).mono ?_
  rintro e w3 ⟨rfl, rfl⟩
  rcases hb : inEnv ev with _ | _
  · have E : Hid (ask9 mm n ev = 3) := by show _ = _; rw [HA.out, if_neg (by simp), if_neg (by simp [hb])]
    go_wp2
    go_ret
    exact ⟨ret_i64 E.out.symm, B2.out⟩
  · have E : Hid (ask9 mm n ev = 0) := by show _ = _; rw [HA.out, if_neg (by simp), if_pos hb]
    go_wp2
    go_ret
    exact ⟨ret_i64 E.out.symm, B2.out⟩



def isMu (x : Nat → Int) (ev : Int) (K : Ker) (i : Nat) : Bool := tk9 x i && !(acts9 ev K)
def muA (x : Nat → Int) (ev kd : Int) (K : Ker) (i : Nat) : Int := if isMu x ev K i = true then kd else x (i * 7 + 1)
def muB (x : Nat → Int) (ev : Int) (K : Ker) (i : Nat) : Int := if isMu x ev K i = true then 0 else x (i * 7 + 2)
def muS (x : Nat → Int) (ev kd : Int) (K : Ker) (i : Nat) : Int × Ker × List Int := step3 K (x (i * 7)) (muA x ev kd K i) (muB x ev K i) (x (i * 7 + 3)) (x (i * 7 + 4)) (x (i * 7 + 5)) (x (i * 7 + 6))
def mu9 (x : Nat → Int) (ev kd : Int) (K0 : Ker) : Nat → Ker × List Int × List Int × List Int
  | 0 => (K0, [], [], [])
  | i + 1 => ((muS x ev kd (mu9 x ev kd K0 i).1 i).2.1, (mu9 x ev kd K0 i).2.1 ++ [x (i * 7), muA x ev kd (mu9 x ev kd K0 i).1 i, muB x ev (mu9 x ev kd K0 i).1 i, x (i * 7 + 3), x (i * 7 + 4), x (i * 7 + 5), x (i * 7 + 6)], (mu9 x ev kd K0 i).2.2.1 ++ [(muS x ev kd (mu9 x ev kd K0 i).1 i).1], (mu9 x ev kd K0 i).2.2.2 ++ (muS x ev kd (mu9 x ev kd K0 i).1 i).2.2)
theorem mu9_all {x : Nat → Int} {ev kd : Int} {K0 : Ker} (h : SK K0) (h0 : K0.tick = 0) : ∀ n, n ≤ 400 → SK (mu9 x ev kd K0 n).1 ∧ (mu9 x ev kd K0 n).1.tick ≤ n ∧ (mu9 x ev kd K0 n).2.1.length = n * 7 ∧ (mu9 x ev kd K0 n).2.2.1.length = n ∧ (mu9 x ev kd K0 n).2.2.2.length ≤ 9 * n
  | 0, _ => ⟨h, by show K0.tick ≤ 0; omega, rfl, rfl, Nat.le_refl _⟩
  | n + 1, hn => by
    obtain ⟨a, b, c, d, f⟩ := mu9_all (x := x) (ev := ev) (kd := kd) h h0 n (by omega)
    obtain ⟨s1, s2, s3⟩ := step3_sk a (by omega) (x (n * 7)) (muA x ev kd (mu9 x ev kd K0 n).1 n) (muB x ev (mu9 x ev kd K0 n).1 n) (x (n * 7 + 3)) (x (n * 7 + 4)) (x (n * 7 + 5)) (x (n * 7 + 6))
    have e1 : (mu9 x ev kd K0 (n + 1)).1 = (muS x ev kd (mu9 x ev kd K0 n).1 n).2.1 := rfl
    refine ⟨s1, ?_, ?_, ?_, ?_⟩
    · have s2 : (mu9 x ev kd K0 (n + 1)).1.tick ≤ (mu9 x ev kd K0 n).1.tick + 1 := s2
      omega
    · unfold mu9; simp only [List.length_append, List.length_cons, List.length_nil]; omega
    · unfold mu9; simp only [List.length_append, List.length_cons, List.length_nil]; omega
    · have s3 : (muS x ev kd (mu9 x ev kd K0 n).1 n).2.2.length ≤ 9 := s3
      unfold mu9; simp only [List.length_append]; omega



noncomputable def mut9 (mm : Int) (x : Nat → Int) (n : Nat) (ev kd : Int) : Int × List Int :=
  if ask9 mm n ev ≠ 0 then (ask9 mm n ev, []) else if kd ≠ 1 ∧ kd ≠ 2 then (1, []) else (0, (mu9 x ev kd (new3 mm) n).2.1)
def AnsM (r : Int × List Int) (w : World) (e : Ending) (w' : World) : Prop :=
  ∃ A k c, e = .returned (.agg #[.int .i64 r.1, .slice A k c]) ∧ r.2.length = k * 7 ∧ (A = none → c = 0) ∧ Mine w' w.heap.size w'.heap.size 57 A (k * 7) (fun j => .int .i64 (gi r.2 j)) ∧ Below w.heap.size w w'
theorem ansM_code {q : Int} {r : Int × List Int} {w w' : World} (h : r = (q, [])) (hb : Below w.heap.size w w') : AnsM r w (.returned (.agg #[.int .i64 q, .slice none 0 0])) w' := by
  subst h
  exact ⟨none, 0, 0, rfl, rfl, fun _ => rfl, .inl rfl, hb⟩
theorem or_mineM {t : TypeId} {m : Nat} {w : World} {base n c : Nat} {A : Option Addr} {hs : List Int} (h : OR t m w base A n c hs) {lo : Nat} (hl : lo ≤ base) : Mine w lo w.heap.size t A (n * m) (fun k => .int .i64 (gi hs k)) := by
  rcases Nat.eq_zero_or_pos n with h0 | h0
  · exact .inl (by rw [h0]; omega)
  · obtain ⟨g, rfl, h1, h2⟩ := h.pos h0
    exact .inr ⟨g, 0, rfl, by omega, h2, h.row⟩
theorem finM {w W : World} {base n c : Nat} {A : Option Addr} {ts : List Int} {r : Int × List Int} {u0 u1 : Value} (hr : r = (0, ts)) (h : OR 57 7 W base A n c ts) (hb : w.heap.size ≤ base) (bw : Below w.heap.size w W) (hk : W.heap[w.heap.size]? = some (.cells #[u0, u1] 46 (0, 0))) :
    AnsM r w (.returned (.agg #[.int .i64 0, .slice A n c])) ((W.setCell ⟨w.heap.size, 0, none⟩ (.int .i64 0)).setCell ⟨w.heap.size, 1, none⟩ (.slice A n c)) := by
  subst hr
  have h2 : OR 57 7 ((W.setCell ⟨w.heap.size, 0, none⟩ (.int .i64 0)).setCell ⟨w.heap.size, 1, none⟩ (.slice A n c)) base A n c ts := h.keepAll fun b e => by
    subst e
    obtain ⟨_, hx⟩ := or_blk h
    have hne := blk_ne hx hk (by decide)
    exact (Below.heap_setCell _ ⟨w.heap.size, 1, none⟩ _ _ hne).trans (Below.heap_setCell _ ⟨w.heap.size, 0, none⟩ _ _ hne)
  refine ⟨A, n, c, rfl, h.len, fun e => ?_, or_mineM h2 hb, (bw.setCell (Nat.le_refl _) _).setCell (Nat.le_refl _) _⟩
  subst e
  exact (OR.nil0 h).2

structure LoopV (w W : World) (g : Nat) (p : Kp) (K : Ker) (ob : Nat) (A : Option Addr) (n c : Nat) (es : List Int) : Prop where
  lk : LoopK w W g p K
  box : W.heap[ob]? = some (.cells #[.int .i64 0, .slice A n c] 46 (0, 0))
  own : OR 57 7 W w.heap.size A n c es
  lo : w.heap.size ≤ ob
section
variable {w W : World} {g : Nat} {p : Kp} {K : Ker} {ob : Nat} {A : Option Addr} {n c : Nat} {es : List Int}
theorem LoopV.below (J : LoopV w W g p K ob A n c es) {W1 : World} (hb : Below W.heap.size W W1) : LoopV w W1 g p K ob A n c es :=
  ⟨J.lk.below hb, (hb.block _ (Array.getElem?_eq_some_iff.1 J.box).1).trans J.box, J.own.below hb (Nat.le_refl _), J.lo⟩
theorem LoopV.event (J : LoopV w W g p K ob A n c es) {W1 : World} {p' : Kp} {K' : Ker} (kb : KB W1 g p' K') (sk : SK K') (e1 : p'.g1 = p.g1 ∨ W.heap.size ≤ p'.g1 ∧ p'.g1 < W1.heap.size) (e2 : p'.g2 = p.g2) (e3 : p'.g3 = p.g3) (kk : Kept [g, p.g2, p.g3] W W1) : LoopV w W1 g p' K' ob A n c es := by
  obtain ⟨x2, hx2⟩ := mine_blk J.lk.kb.own.m2 (by decide)
  obtain ⟨x3, hx3⟩ := mine_blk J.lk.kb.own.m3 (by decide)
  have nb : ∀ {b : Nat} {cs' : Array Value} {t : TypeId}, W.heap[b]? = some (.cells cs' t (0, 0)) → t ≠ 39 → t ≠ 4 → t ≠ 68 → b ∉ [g, p.g2, p.g3] := fun hb n1 n2 n3 => by
    simp only [List.mem_cons, List.not_mem_nil, or_false, not_or]
    exact ⟨blk_ne hb J.lk.kb.box n1, blk_ne hb hx2 n2, blk_ne hb hx3 n3⟩
  refine ⟨J.lk.event kb sk e1 e2 e3 kk, (kk.2 ob (Array.getElem?_eq_some_iff.1 J.box).1 (nb J.box (by decide) (by decide) (by decide))).trans J.box, J.own.kept kk (fun b e => ?_), J.lo⟩
  have hoc := J.own
  rw [e] at hoc
  obtain ⟨_, hx⟩ := or_blk hoc
  exact nb hx (by decide) (by decide) (by decide)
theorem LoopV.mod {W0 : World} (J0 : LoopV w W0 g p K ob A n c es) (J : LoopV w W g p K ob A n c es) {ge : Nat} (hge : W0.heap.size ≤ ge) {W1 : World} (kk : Kept [ge] W W1) : LoopV w W1 g p K ob A n c es := by
  have l0 := J0.lk.kb.lt; have l1 := J0.lk.kb.lt1 J0.lk.n1; have l2 := J0.lk.kb.lt2
  have lb := (Array.getElem?_eq_some_iff.1 J0.box).1
  have nm : ∀ b, b < W0.heap.size → b ∉ [ge] := fun b hb => by simp only [List.mem_cons, List.not_mem_nil, or_false]; omega
  have zb := J0.lk.bw.size
  refine ⟨⟨J.lk.kb.kept kk (nm _ l0) (nm _ l1) (nm _ l2.1) (nm _ l2.2), J.lk.n1, J.lk.lo, J.lk.bw.trans (kk.below J.lk.bw.size fun b hb => ?_)⟩, (kk.2 ob (Array.getElem?_eq_some_iff.1 J.box).1 (nm _ lb)).trans J.box, J.own.kept kk (fun b e => ?_), J.lo⟩
  · simp only [List.mem_cons, List.not_mem_nil, or_false] at hb
    omega
  · have hoc := J0.own
    rw [e] at hoc
    exact nm _ hoc.lt.2
theorem LoopV.add (J : LoopV w W g p K ob A n c es) (e0 e1 e2 e3 e4 e5 e6 : Int) {V : World} {A' : Option Addr} {cap : Nat} (hown : OR 57 7 V w.heap.size A' (n + 1) cap (es ++ [e0, e1, e2, e3, e4, e5, e6])) (hg : (W.alloc (.cells #[.int .i64 e0, .int .i64 e1, .int .i64 e2, .int .i64 e3, .int .i64 e4, .int .i64 e5, .int .i64 e6] 57)).grownBy V (Value.slice A n c).ownBlock) :
    LoopV w (V.setCell ⟨ob, 1, none⟩ (.slice A' (n + 1) cap)) g p K ob A' (n + 1) cap (es ++ [e0, e1, e2, e3, e4, e5, e6]) := by
  have kb := J.lk.kb
  obtain ⟨x1, hx1⟩ := mine_blk kb.own.m1 (by have := J.lk.n1; omega)
  obtain ⟨x2, hx2⟩ := mine_blk kb.own.m2 (by decide)
  obtain ⟨x3, hx3⟩ := mine_blk kb.own.m3 (by decide)
  have lt : ∀ {b : Nat} {o : Obj}, W.heap[b]? = some o → b < W.heap.size := fun hb' => (Array.getElem?_eq_some_iff.1 hb').1
  have KV : ∀ b, b < W.heap.size → some b ≠ (Value.slice A n c).ownBlock → V.heap[b]? = W.heap[b]? := fun b hb hne => (hg.block b (by simp; omega) hne).trans (Below.heap_alloc _ _ _ hb)
  have S : ∀ b, b ≠ ob → (V.setCell ⟨ob, 1, none⟩ (.slice A' (n + 1) cap)).heap[b]? = V.heap[b]? := fun b hb => Below.heap_setCell _ _ _ _ hb
  have hV : V.heap[ob]? = some (.cells #[.int .i64 0, .slice A n c] 46 (0, 0)) := (KV ob (lt J.box) (own_ne3 J.box (by decide) J.own)).trans J.box
  have k1 := (S _ (blk_ne hx1 J.box (by decide))).trans (KV _ (lt hx1) (own_ne3 hx1 (by decide) J.own))
  have k2 := (S _ (blk_ne hx2 J.box (by decide))).trans (KV _ (lt hx2) (own_ne3 hx2 (by decide) J.own))
  have k3 := (S _ (blk_ne hx3 J.box (by decide))).trans (KV _ (lt hx3) (own_ne3 hx3 (by decide) J.own))
  have kg := (S _ (blk_ne kb.box J.box (by decide))).trans (KV _ (lt kb.box) (own_ne3 kb.box (by decide) J.own))
  have hz : w.heap.size ≤ W.heap.size := J.lk.bw.size
  have bV : Below w.heap.size w V := (J.lk.bw.alloc hz _).grown hg (by simp; omega) (fun b e => by
    have hoc := J.own
    rcases A with _ | ad
    · cases e
    · obtain ⟨b', e1, h1, _⟩ := OR.at_ hoc (by simp)
      injection e1 with e1
      subst e1
      have e2 : b' = b := Option.some.inj e
      omega)
  exact ⟨⟨⟨kg.trans kb.box, kb.own.keepB k1 k2 k3, kb.e1, kb.e2, kb.e3⟩, J.lk.n1, J.lk.lo, bV.setCell (p := ⟨ob, 1, none⟩) J.lo _⟩, heap_setCell_same _ _ 1 _ _ _ hV, hown.keepAll fun b e => S b (by
    subst e
    obtain ⟨_, hx⟩ := or_blk hown
    exact blk_ne hx hV (by decide)), J.lo⟩
end

end Go.Proofs.YtckapndpefkcgaaGreat
