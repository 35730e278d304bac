/-
  The program's ticksWhere: the ticks ahead of which something was so. No conditions beyond that the events can be read, and are not of the call's own memory.
  Ahead of it:
  The program's audit: how it begins, and what it is asked ahead of a tick. No conditions.
-/
import Derived.Maps.AppendAt
import Derived.Test.YtckapndpefkcgaaGreatMeetA9
import Derived.Test.YtckapndpefkcgaaGreatRun9
import Derived.Test.YtckapndpefkcgaaGreatLoopA9
import Derived.Test.YtckapndpefkcgaaGreatMuteL9
set_option maxHeartbeats 1000000
namespace Go.Proofs.YtckapndpefkcgaaGreat
open Go.RowKit
set_option maxRecDepth 100000

def AudA (mm : Int) (n : Nat) (ev : Int) (w : World) (e : Ending) (w' : World) : Prop :=
  ∃ h, e = .returned (.pointer (some ⟨h, 0, none⟩)) ∧ w.heap.size ≤ h ∧
  (ask9 mm n ev ≠ 0 → w'.heap[h]? = some (.cells #[.int .i64 (ask9 mm n ev), .slice none 0 0, .slice none 0 0, .slice none 0 0, .int .i64 0, .int .i64 0, .slice none 0 0, .slice none 0 0, .int .i64 ev] 83 (0, 0))) ∧
  (ask9 mm n ev = 0 → ∃ p : Kp, LoopA w w' h p (new3 mm) none 0 0 [] none 0 0 [] ev ⟨none, 0, 0, [], none, 57, #[]⟩) ∧
  Below w.heap.size w w'

set_option maxHeartbeats 16000000 in
theorem auditOf_any (mm : Int) (A : Option Addr) (n c : Nat) (ev : Int) (w : World) (hn : n ≤ 9223372036854775807) :
    Calls Tryz.prog 46 #[.int .i64 mm, .slice A n c, .int .i64 ev] w (AudA mm n ev w) := by
  have NK := Lib.hid (runOf_any mm A n c w hn)
  have EV := Lib.hid (fun W => isEnv_any ev W)
  go_enter Tryz.func46, Tryz.ntmps46
  go_wp2_with fail
  refine NK.out.mono ?_
  rintro e w2 ⟨hbad, hgood, hb, hs⟩
  have B2 := Lib.hid hb
  clear hb hs NK
  by_cases h0 : ask3 mm n = 0
  case neg =>
    obtain rfl := hbad h0
    clear hbad hgood
    have EA : Hid (ask9 mm n ev = ask3 mm n ∧ ask9 mm n ev ≠ 0) := by
      show _ ∧ _
      unfold ask9
      rw [if_pos h0]
      exact ⟨rfl, h0⟩
    obtain ⟨q, hq⟩ : ∃ q, q = ask3 mm n := ⟨_, rfl⟩
    rw [← hq] at EA ⊢
    have y : (q == 0) = false := by simp [hq, h0]
    clear hq h0
    obtain ⟨w3, hw3⟩ : ∃ w3, w3 = w2.alloc (.cells #[.int .i64 q, .slice none 0 0, .slice none 0 0, .slice none 0 0, .int .i64 0, .int .i64 0, .slice none 0 0, .slice none 0 0] 41) := ⟨_, rfl⟩
    obtain ⟨g, hg⟩ : ∃ g, g = w2.heap.size := ⟨_, rfl⟩
    have g3k : w3.heap[g]? = some (.cells #[.int .i64 q, .slice none 0 0, .slice none 0 0, .slice none 0 0, .int .i64 0, .int .i64 0, .slice none 0 0, .slice none 0 0] 41 (0, 0)) := by rw [hw3, hg]; exact heap_alloc_new w2 _
    have BN3 : Hid (Below w2.heap.size w2 w3) := by rw [hw3]; exact below_new w2 _
    have HW3 := Lib.hid hw3; have HG := Lib.hid hg
    clear hw3 hg
    have g0 := cell_of_row w3 _ 0 _ _ _ g3k; have g1 := cell_of_row w3 _ 1 _ _ _ g3k; have g2 := cell_of_row w3 _ 2 _ _ _ g3k; have g3 := cell_of_row w3 _ 3 _ _ _ g3k; have g4 := cell_of_row w3 _ 4 _ _ _ g3k; have g5 := cell_of_row w3 _ 5 _ _ _ g3k; have g6 := cell_of_row w3 _ 6 _ _ _ g3k; have g7 := cell_of_row w3 _ 7 _ _ _ g3k
    simp at g0 g1 g2 g3 g4 g5 g6 g7
    go_upto_region 2 with (fail)
    rw [← HW3.out, ← HG.out]
    clear HW3 HG g3k
    go_wp2
    go_ret
    refine ⟨w3.heap.size, rfl, Nat.le_trans B2.out.size BN3.out.size, fun _ => ?_, fun hh => absurd hh EA.out.2, (B2.out.trans (BN3.out.mono B2.out.size)).alloc (Nat.le_trans B2.out.size BN3.out.size) _⟩
    rw [EA.out.1]
    exact heap_alloc_new w3 _
  obtain ⟨p0, rfl, hown, hn1, hlo⟩ := hgood h0
  obtain ⟨w3, hw3⟩ : ∃ w3, w3 = w2.alloc (.cells #[.int .i64 0, .slice p0.A1 p0.n1 p0.c1, .slice p0.A2 4 p0.c2, .slice p0.A3 4 p0.c3, .int .i64 (new3 mm).tick, .int .i64 (new3 mm).run, .slice none 0 0, .slice none 0 0] 41) := ⟨_, rfl⟩
  obtain ⟨g, hg⟩ : ∃ g, g = w2.heap.size := ⟨_, rfl⟩
  have G3 : Hid (w3.heap[g]? = some (.cells #[.int .i64 0, .slice p0.A1 p0.n1 p0.c1, .slice p0.A2 4 p0.c2, .slice p0.A3 4 p0.c3, .int .i64 (new3 mm).tick, .int .i64 (new3 mm).run, .slice none 0 0, .slice none 0 0] 41 (0, 0))) := by show _ = _; rw [hw3, hg]; exact heap_alloc_new w2 _
  have BN3 : Hid (Below w2.heap.size w2 w3) := by rw [hw3]; exact below_new w2 _
  have ZG : Hid (g = w2.heap.size) := hg
  have HW3 := Lib.hid hw3; have HG := Lib.hid hg
  have OW := Lib.hid hown; have N1 := Lib.hid hn1; have LO := Lib.hid hlo
  have H0 := Lib.hid h0
  clear hw3 hg hbad hgood hown hn1 hlo h0
  go_upto_region 2 with (fail)
  rw [← HW3.out, ← HG.out]
  clear HW3 HG
  have g3k := G3.out
  have g0 := cell_of_row w3 _ 0 _ _ _ g3k; have g1 := cell_of_row w3 _ 1 _ _ _ g3k; have g2 := cell_of_row w3 _ 2 _ _ _ g3k; have g3 := cell_of_row w3 _ 3 _ _ _ g3k; have g4 := cell_of_row w3 _ 4 _ _ _ g3k; have g5 := cell_of_row w3 _ 5 _ _ _ g3k; have g6 := cell_of_row w3 _ 6 _ _ _ g3k; have g7 := cell_of_row w3 _ 7 _ _ _ g3k
  have f0 := frozen_of_row w3 _ 0 _ _ g3k; have f1 := frozen_of_row w3 _ 1 _ _ g3k; have f2 := frozen_of_row w3 _ 2 _ _ g3k; have f3 := frozen_of_row w3 _ 3 _ _ g3k; have f4 := frozen_of_row w3 _ 4 _ _ g3k; have f5 := frozen_of_row w3 _ 5 _ _ g3k; have f6 := frozen_of_row w3 _ 6 _ _ g3k; have f7 := frozen_of_row w3 _ 7 _ _ g3k
  simp at g0 g1 g2 g3 g4 g5 g6 g7
  clear g3k
  go_wp2_with fail
  refine (EV.out w3).mono ?_
  rintro e w9 ⟨rfl, rfl⟩
  rcases hb : inEnv ev with _ | _
  · have EA : Hid (ask9 mm n ev = 3) := by show _ = _; unfold ask9; rw [if_neg (by simp [H0.out]), if_neg (by simp [hb])]
    obtain ⟨v3, hv3⟩ : ∃ v3, v3 = ((((((((w3.setCell ⟨g, 0, none⟩ (.int .i64 3)).setCell ⟨g, 1, none⟩ (.slice none 0 0)).setCell ⟨g, 2, none⟩ (.slice none 0 0)).setCell ⟨g, 3, none⟩ (.slice none 0 0)).setCell ⟨g, 4, none⟩ (.int .i64 0)).setCell ⟨g, 5, none⟩ (.int .i64 0)).setCell ⟨g, 6, none⟩ (.slice none 0 0)).setCell ⟨g, 7, none⟩ (.slice none 0 0)) := ⟨_, rfl⟩
    have K3 : v3.heap[g]? = some (.cells #[.int .i64 3, .slice none 0 0, .slice none 0 0, .slice none 0 0, .int .i64 0, .int .i64 0, .slice none 0 0, .slice none 0 0] 41 (0, 0)) := by rw [hv3]; exact (heap_setCell_same _ _ 7 _ _ _ (heap_setCell_same _ _ 6 _ _ _ (heap_setCell_same _ _ 5 _ _ _ (heap_setCell_same _ _ 4 _ _ _ (heap_setCell_same _ _ 3 _ _ _ (heap_setCell_same _ _ 2 _ _ _ (heap_setCell_same _ _ 1 _ _ _ (heap_setCell_same _ _ 0 _ _ _ G3.out))))))))
    have BV : Hid (Below w.heap.size w v3) := by
      have z := ZG.out; have s := B2.out.size
      rw [hv3]
      exact (((((((((B2.out.trans (BN3.out.mono B2.out.size)).setCell (p := ⟨g, 0, none⟩) (by simp; omega) _).setCell (p := ⟨g, 1, none⟩) (by simp; omega) _).setCell (p := ⟨g, 2, none⟩) (by simp; omega) _).setCell (p := ⟨g, 3, none⟩) (by simp; omega) _).setCell (p := ⟨g, 4, none⟩) (by simp; omega) _).setCell (p := ⟨g, 5, none⟩) (by simp; omega) _).setCell (p := ⟨g, 6, none⟩) (by simp; omega) _).setCell (p := ⟨g, 7, none⟩) (by simp; omega) _)
    have HV3 := Lib.hid hv3
    clear hv3
    go_upto_region 4 with (fail)
    rw [← HV3.out]
    clear HV3 g0 g1 g2 g3 g4 g5 g6 g7
    have g0 := cell_of_row v3 _ 0 _ _ _ K3; have g1 := cell_of_row v3 _ 1 _ _ _ K3; have g2 := cell_of_row v3 _ 2 _ _ _ K3; have g3 := cell_of_row v3 _ 3 _ _ _ K3; have g4 := cell_of_row v3 _ 4 _ _ _ K3; have g5 := cell_of_row v3 _ 5 _ _ _ K3; have g6 := cell_of_row v3 _ 6 _ _ _ K3; have g7 := cell_of_row v3 _ 7 _ _ _ K3
    simp at g0 g1 g2 g3 g4 g5 g6 g7
    clear K3
    go_wp2
    go_ret
    refine ⟨v3.heap.size, rfl, BV.out.size, fun _ => ?_, fun hh => absurd hh (by rw [EA.out]; decide), BV.out.alloc BV.out.size _⟩
    rw [EA.out]
    exact heap_alloc_new v3 _
  · have EA : Hid (ask9 mm n ev = 0) := by show _ = _; unfold ask9; rw [if_neg (by simp [H0.out]), if_pos hb]
    go_wp2
    go_ret
    refine ⟨w3.heap.size, rfl, Nat.le_trans B2.out.size BN3.out.size, fun hh => absurd EA.out hh, fun _ => ⟨p0, ?_⟩, (B2.out.trans (BN3.out.mono B2.out.size)).alloc (Nat.le_trans B2.out.size BN3.out.size) _⟩
    obtain ⟨_, hx1⟩ := mine_blk OW.out.m1 (by have := N1.out; omega)
    obtain ⟨_, hx2⟩ := mine_blk OW.out.m2 (by decide)
    obtain ⟨_, hx3⟩ := mine_blk OW.out.m3 (by decide)
    have BB : Below w2.heap.size w2 (w3.alloc (.cells #[.int .i64 0, .slice p0.A1 p0.n1 p0.c1, .slice p0.A2 4 p0.c2, .slice p0.A3 4 p0.c3, .int .i64 (new3 mm).tick, .int .i64 (new3 mm).run, .slice none 0 0, .slice none 0 0, .int .i64 ev] 83)) := BN3.out.trans ((below_new w3 _).mono BN3.out.size)
    exact ⟨OW.out.keepB (BB.block _ (Array.getElem?_eq_some_iff.1 hx1).1) (BB.block _ (Array.getElem?_eq_some_iff.1 hx2).1) (BB.block _ (Array.getElem?_eq_some_iff.1 hx3).1), N1.out, heap_alloc_new w3 _, OR.void _ _, OR.void _ _, (fun b e => by cases e), ⟨Nat.le_trans B2.out.size BN3.out.size, LO.out⟩, B2.out.trans (BB.mono B2.out.size), OR.void _ _, (fun b e => by cases e), (fun b e => by cases e)⟩

theorem LoopA.read9 {w W : World} {h : Nat} {p : Kp} {K : Ker} {A4 : Option Addr} {k c4 : Nat} {cs : List Int} {A5 : Option Addr} {m c5 : Nat} {ns : List Int} {ev : Int} {G : Gst} (J : LoopA w W h p K A4 k c4 cs A5 m c5 ns ev G) : KRead W 0 W.heap.size p.A1 p.n1 p.A2 4 p.A3 4 K := J.own.read9 J.n1


theorem LoopA.guest {w W : World} {h : Nat} {p : Kp} {K : Ker} {A4 : Option Addr} {k c4 : Nat} {cs : List Int} {A5 : Option Addr} {m c5 : Nat} {ns : List Int} {ev : Int} {G : Gst} (J : LoopA w W h p K A4 k c4 cs A5 m c5 ns ev G) (q : Int) {V : World} {A' : Option Addr} {cap : Nat} (hown : OR 2 1 V w.heap.size A' (G.n + 1) cap (G.ts ++ [q])) (hg : (W.alloc (.cells #[.int .i64 q] 2)).grownBy V (Value.slice G.T G.n G.c).ownBlock)
    (hat : (Value.slice A' (G.n + 1) cap).ownBlock = (Value.slice G.T G.n G.c).ownBlock ∨ (Value.slice A' (G.n + 1) cap).ownBlock = some (W.alloc (.cells #[.int .i64 q] 2)).heap.size) :
    LoopA w V h p K A4 k c4 cs A5 m c5 ns ev ⟨A', G.n + 1, cap, G.ts ++ [q], G.B, G.bt, G.cs⟩ := by
  obtain ⟨x1, hx1⟩ := mine_blk J.own.m1 (by have := J.n1; omega)
  obtain ⟨x2, hx2⟩ := mine_blk J.own.m2 (by decide)
  obtain ⟨x3, hx3⟩ := mine_blk J.own.m3 (by decide)
  have KV : ∀ b, b < W.heap.size → some b ≠ (Value.slice G.T G.n G.c).ownBlock → V.heap[b]? = W.heap[b]? := fun b hb hne => (hg.block b (by simp; omega) hne).trans (Below.heap_alloc _ _ _ hb)
  have lt : ∀ {b : Nat} {o : Obj}, W.heap[b]? = some o → b < W.heap.size := fun hb' => (Array.getElem?_eq_some_iff.1 hb').1
  have k1 := KV _ (lt hx1) (own_ap3 J.og fun b e => (J.gp b e).1)
  have k2 := KV _ (lt hx2) (own_ne3 hx2 (by decide) J.og)
  have k3 := KV _ (lt hx3) (own_ne3 hx3 (by decide) J.og)
  have hz : w.heap.size ≤ W.heap.size := J.bw.size
  have bV : Below w.heap.size w V := (J.bw.alloc hz _).grown hg (by simp; omega) (fun b e => by
    have hoc := J.og
    obtain ⟨GT, Gn, Gc, Gts, GB, Gbt, Gcs⟩ := G
    rcases GT with _ | ad
    · cases e
    · obtain ⟨b', e1, h1, _⟩ := OR.at_ hoc (by simp)
      injection e1 with e1
      subst e1
      have e2 : b' = b := Option.some.inj e
      omega)
  have bn : ∀ b, A' = some ⟨b, 0, none⟩ → (some b = (Value.slice G.T G.n G.c).ownBlock ∨ W.heap.size ≤ b) := fun b e => by
    subst e
    rcases hat with h1 | h1
    · exact .inl h1
    · have e2 : b = (W.alloc (.cells #[.int .i64 q] 2)).heap.size := Option.some.inj h1
      simp at e2
      exact .inr (by omega)
  refine ⟨J.own.keepB k1 k2 k3, J.n1, (KV _ (lt J.box) (own_ne3 J.box (by decide) J.og)).trans J.box, J.oc.keepAll (fun b e => ?_), J.on.keepAll (fun b e => ?_), J.ap, J.lo, bV, hown, fun b e => ⟨?_, fun e4 => ?_⟩, fun b e => ⟨(J.ob b e).1, (KV _ (lt (J.ob b e).2.1) (own_ne3 (J.ob b e).2.1 (J.ob b e).2.2.2.1.symm J.og)).trans (J.ob b e).2.1, (J.ob b e).2.2⟩⟩
  · have hoc := J.oc
    rw [e] at hoc
    obtain ⟨_, hx⟩ := or_blk hoc
    exact KV _ (lt hx) (own_ap3 J.og fun b' e' hb => (J.gp b' e').2 (by rw [e, hb]))
  · have hoc := J.on
    rw [e] at hoc
    obtain ⟨_, hx⟩ := or_blk hoc
    exact KV _ (lt hx) (own_ne3 hx (by decide) J.og)
  · intro hb
    rcases bn b e with h1 | h1
    · exact own_ap3 J.og (fun b' e' hb' => (J.gp b' e').1 (hb'.trans hb)) h1
    · have := lt hx1
      omega
  · rcases bn b e with h1 | h1
    · exact own_ap3 J.og (fun b' e' hb' => (J.gp b' e').2 (by rw [hb']; exact e4)) h1
    · have hoc := J.oc
      rw [e4] at hoc
      have := hoc.lt
      omega

end Go.Proofs.YtckapndpefkcgaaGreat
