/-
  The model's DoTick, for every kernel that can be read and every act.
-/
import Derived.Test.YtckapndpefkcgaaGreatSpec3f
import Derived.Test.YtckapndpefkcgaaGreatSpec3w
set_option maxHeartbeats 1000000
namespace Go.Proofs.YtckapndpefkcgaaGreat
open Go.RowKit
set_option maxRecDepth 100000

noncomputable def dotick (K : Ker) (k to : Int) : Int × Ker × List Int := if kf K ≠ 0 then (kf K, zeroKer, []) else if evf 1 k to 0 0 0 0 ≠ 0 then (evf 1 k to 0 0 0 0, zeroKer, []) else if 100000 ≤ K.tick then (8, zeroKer, []) else (0, (tick3 K k to).1, (tick3 K k to).2)
theorem vf_os {xs : List Int} (h : vf xs = 0) : (1 ≤ xs.length ∧ xs.length ≤ 12) ∧ ∀ i, i < xs.length → gi xs i = -1 ∨ (0 ≤ gi xs i ∧ gi xs i < 4) := by
  obtain ⟨a, b, c, _⟩ := vf_zero h
  refine ⟨⟨a, b⟩, fun i hi => ?_⟩
  have h1 := c i hi
  unfold bad at h1
  simp [inEnv] at h1
  omega
theorem tk_of {K : Ker} (h : kf K = 0) (ht : ¬ 100000 ≤ K.tick) : TK K := by
  obtain ⟨h1, h2, h3⟩ := kf_zero h
  obtain ⟨a, b⟩ := vf_os h1
  unfold kf at h
  rw [if_neg (by simp [h1]), if_neg (by omega)] at h
  by_cases h4 : ∀ e, e < 4 → afk K e = 0
  · rw [if_neg (by simpa using h4)] at h
    by_cases h5 : ¬ (0 ≤ K.tick ∧ K.tick ≤ 100000) ∨ (K.run ≠ -1 ∧ inEnv K.run = false)
    · rw [if_pos h5] at h; omega
    · refine ⟨a, h2, h3, b, h4, by omega, ?_⟩
      by_cases h6 : K.run = -1
      · exact .inl h6
      · right
        have : inEnv K.run = true := by
          rcases hb : inEnv K.run with _ | _
          · exact absurd (Or.inr ⟨h6, hb⟩) h5
          · rfl
        simpa [inEnv] using this
  · rw [if_pos h4] at h; omega
theorem evf_to {k to : Int} (h : evf 1 k to 0 0 0 0 = 0) : 0 ≤ to ∧ to < 4 := by
  unfold evf at h
  rw [if_pos rfl] at h
  split at h
  · omega
  · split at h
    · rename_i hh; simpa [inEnv] using hh
    · omega
theorem kans_notes {K : Ker} {w w' : World} {p : Kp} {A : Option Addr} {n c g4 : Nat} {ns : List Int} (h : KOwn w' p K) (hl : ns.length = n * 3) (hm : Mine w' g4 (g4 + 1) 96 A (n * 3) (fun k => .int .i64 (gi ns k))) (e1 : p.g1 ≠ g4) (e2 : p.g2 ≠ g4) (e3 : p.g3 ≠ g4) (h4 : w.heap.size ≤ g4 ∧ g4 < w'.heap.size) (h1 : w.heap.size ≤ p.g1 ∧ p.g1 < w'.heap.size) (h2 : w.heap.size ≤ p.g2 ∧ p.g2 < w'.heap.size) (h3 : w.heap.size ≤ p.g3 ∧ p.g3 < w'.heap.size) (hb : Below w.heap.size w w') :
    KAns 0 K ns w (.returned (.agg #[.int .i64 0, .slice p.A1 p.n1 p.c1, .slice p.A2 4 p.c2, .slice p.A3 4 p.c3, .int .i64 K.tick, .int .i64 K.run, .slice A n c])) w' :=
  ⟨⟨p.A1, p.n1, p.c1, p.A2, 4, p.c2, p.A3, 4, p.c3, A, n, c, p.g1, p.g2, p.g3, g4⟩, rfl,
    ⟨h.l1, h.l2, h.l3, hl, h.nil1, h.m1, h.m2, h.m3, hm, fun _ _ => h.d12, fun _ _ => h.d13, fun _ _ => e1, fun _ _ => h.d23, fun _ _ => e2, fun _ _ => e3, h1, h2, h3, h4⟩, hb⟩

end Go.Proofs.YtckapndpefkcgaaGreat
