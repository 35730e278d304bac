/-
  What an audit of a run says: the ticks ahead of which something was so. No program's function is named here.
-/
import Derived.Test.YtkhphkfbjbhgaaaGreatMath3r
import Derived.Test.YtkhphkfbjbhgaaaGreatLoop3
import Derived.Test.YtkhphkfbjbhgaaaGreatWho8
namespace Go.Proofs.YtkhphkfbjbhgaaaGreat
open Go.RowKit
set_option maxRecDepth 100000

/-- the event at place i is a tick without fault -/
def tk9 (x : Nat → Int) (i : Nat) : Bool := decide (evf (x (i * 7)) (x (i * 7 + 1)) (x (i * 7 + 2)) (x (i * 7 + 3)) (x (i * 7 + 4)) (x (i * 7 + 5)) (x (i * 7 + 6)) = 0 ∧ x (i * 7) = 1)
def opens9 (ev : Int) (K : Ker) : Bool := decide (K.tick % 9 = 0 ∧ own3 K = ev)
def acts9 (ev : Int) (K : Ker) : Bool := decide (who8 K = ev)
/-- the ticks ahead of which P is so -/
def tks (P : Ker → Bool) (K0 : Ker) (x : Nat → Int) : Nat → List Int
  | 0 => []
  | i + 1 => tks P K0 x i ++ (if tk9 x i = true ∧ P (run3 K0 x i).1 = true then [(run3 K0 x i).1.tick] else [])
set_option maxHeartbeats 1000000 in
theorem tks_le (P : Ker → Bool) (K0 : Ker) (x : Nat → Int) : ∀ n, (tks P K0 x n).length ≤ n
  | 0 => Nat.le_refl _
  | i + 1 => by
    have := tks_le P K0 x i
    unfold tks
    split <;> simp <;> omega
set_option maxHeartbeats 1000000 in
/-- a tick is the only thing that takes time -/
theorem stp_tick {x : Nat → Int} {i : Nat} {K : Ker} (h : SK K) (ht : K.tick < 100000) : (K.tick < (stp x i K).2.1.tick) ↔ tk9 x i = true := by
  unfold stp step3 tk9
  by_cases h0 : evf (x (i * 7)) (x (i * 7 + 1)) (x (i * 7 + 2)) (x (i * 7 + 3)) (x (i * 7 + 4)) (x (i * 7 + 5)) (x (i * 7 + 6)) = 0
  · rw [if_neg (by simp [h0])]
    rcases evf_z h0 with ⟨k1, hb, _⟩ | ⟨k2, hc⟩
    · rw [if_neg (by omega)]
      obtain ⟨_, y, _⟩ := h.next ht (x (i * 7 + 1)) (x (i * 7 + 2)) hb
      exact ⟨fun _ => decide_eq_true ⟨h0, k1⟩, fun _ => show K.tick < (tick3 K (x (i * 7 + 1)) (x (i * 7 + 2))).1.tick by omega⟩
    · rw [if_pos k2]
      refine ⟨fun hh => ?_, fun hh => ?_⟩
      · have hh : K.tick < (call3 K (x (i * 7 + 3)) (x (i * 7 + 4)) (x (i * 7 + 5)) (x (i * 7 + 6))).2.tick := hh
        rw [call3_tk] at hh
        omega
      · have := (of_decide_eq_true hh).2
        omega
  · rw [if_pos h0]
    exact ⟨fun hh => absurd (show K.tick < K.tick from hh) (by omega), fun hh => absurd (of_decide_eq_true hh).1 h0⟩
set_option maxHeartbeats 1000000 in
theorem KOwn.read9 {w : World} {p : Kp} {K : Ker} (h : KOwn w p K) (hn : 1 ≤ p.n1) : KRead w 0 w.heap.size p.A1 p.n1 p.A2 4 p.A3 4 K := by
  obtain ⟨_, h1⟩ := mine_blk h.m1 (by omega)
  obtain ⟨_, h2⟩ := mine_blk h.m2 (by decide)
  obtain ⟨_, h3⟩ := mine_blk h.m3 (by decide)
  have a1 := (Array.getElem?_eq_some_iff.1 h1).1
  have a2 := (Array.getElem?_eq_some_iff.1 h2).1
  have a3 := (Array.getElem?_eq_some_iff.1 h3).1
  exact ⟨⟨h.l1, h.l2, h.l3⟩, h.m1.sl.wide (Nat.zero_le _) (by omega), h.m2.sl.wide (Nat.zero_le _) (by omega), h.m3.sl.wide (Nat.zero_le _) (by omega)⟩

/-- the model's loop over a kernel alone, in its box g -/
structure LoopK (w W : World) (g : Nat) (p : Kp) (K : Ker) : Prop where
  kb : KB W g p K
  n1 : 1 ≤ p.n1
  lo : w.heap.size ≤ g ∧ w.heap.size ≤ p.g1 ∧ w.heap.size ≤ p.g2 ∧ w.heap.size ≤ p.g3
  bw : Below w.heap.size w W
set_option maxHeartbeats 1000000 in
theorem LoopK.below {w W W1 : World} {g : Nat} {p : Kp} {K : Ker} (J : LoopK w W g p K) (hb : Below W.heap.size W W1) : LoopK w W1 g p K := by
  have l1 := J.kb.lt1 J.n1
  have l2 := J.kb.lt2
  exact ⟨J.kb.low hb J.kb.lt l1 l2.1 l2.2, J.n1, J.lo, J.bw.trans (hb.mono J.bw.size)⟩
set_option maxHeartbeats 1000000 in
theorem LoopK.event {w W : World} {g : Nat} {p : Kp} {K : Ker} (J : LoopK w W g p K) {W1 : World} {p' : Kp} {K' : Ker} (kb : KB W1 g p' K') (sk : SK K') (e1 : p'.g1 = p.g1 ∨ W.heap.size ≤ p'.g1 ∧ p'.g1 < W1.heap.size) (e2 : p'.g2 = p.g2) (e3 : p'.g3 = p.g3) (kk : Kept [g, p.g2, p.g3] W W1) : LoopK w W1 g p' K' := by
  have l1 := kb.own.l1
  obtain ⟨v1, _⟩ := vf_zero sk.v
  have zb := J.bw.size
  have lo := J.lo
  refine ⟨kb, by omega, ⟨lo.1, ?_, by omega, by omega⟩, J.bw.trans (kk.below zb fun b hb => ?_)⟩
  · rcases e1 with e1 | e1
    · rw [e1]; exact lo.2.1
    · omega
  · simp only [List.mem_cons, List.not_mem_nil, or_false] at hb
    rcases hb with rfl | rfl | rfl
    · exact lo.1
    · exact lo.2.2.1
    · exact lo.2.2.2

end Go.Proofs.YtkhphkfbjbhgaaaGreat
