/-
  What runs make of kernels: a right kernel stays right. Plain mathematics; no program is named here.
-/
import Derived.Test.YtckapndpefkcgaaGreatTick3
import Derived.Test.YtckapndpefkcgaaGreatCall3
import Derived.Test.YtckapndpefkcgaaGreatMath3
set_option maxHeartbeats 1000000
namespace Go.Proofs.YtckapndpefkcgaaGreat
open Go.RowKit

structure SK (K : Ker) : Prop where
  v : vf K.os = 0
  l2 : K.al.length = 4
  l3 : K.ac.length = 16
  ac : ∀ e, e < 4 → afk K e = 0
  tick : 0 ≤ K.tick ∧ K.tick ≤ 100000
  run : K.run = -1 ∨ (0 ≤ K.run ∧ K.run < 4)
  own : ∀ i, i < K.os.length → gi K.os i = -1 ∨ gb K.al (gi K.os i).toNat = true
  rl : K.run = -1 ∨ (gb K.al K.run.toNat = true ∧ K.tick % 9 ≠ 0)
  dead : ∀ e, e < 4 → gb K.al e = true ∨ (gi K.ac (e * 4) = 0 ∧ gi K.ac (e * 4 + 1) = 0 ∧ gi K.ac (e * 4 + 2) = 0 ∧ gi K.ac (e * 4 + 3) = 0)
theorem sk_of {K : Ker} (h : kf K = 0) : SK K := by
  obtain ⟨h1, h2, h3⟩ := kf_zero h
  unfold kf at h
  rw [if_neg (by simp [h1]), if_neg (by omega)] at h
  by_cases h4 : ∀ e, e < 4 → afk K e = 0
  case neg => rw [if_pos h4] at h; omega
  rw [if_neg (by simpa using h4)] at h
  by_cases h5 : ¬ (0 ≤ K.tick ∧ K.tick ≤ 100000) ∨ (K.run ≠ -1 ∧ inEnv K.run = false)
  case pos => rw [if_pos h5] at h; omega
  rw [if_neg h5] at h
  unfold st at h
  by_cases h6 : noneTo K.os.length (badOwner K) ∧ badRun K = false ∧ noneTo 4 (badAcc K)
  case neg => rw [if_neg h6] at h; omega
  obtain ⟨n1, n2, n3⟩ := h6
  have hr : K.run = -1 ∨ (0 ≤ K.run ∧ K.run < 4) := by
    by_cases h6 : K.run = -1
    · exact .inl h6
    · right
      rcases hb : inEnv K.run with _ | _
      · exact absurd (Or.inr ⟨h6, hb⟩) h5
      · simpa [inEnv] using hb
  refine ⟨h1, h2, h3, h4, by omega, hr, fun i hi => ?_, ?_, fun e he => ?_⟩
  · have := n1 i hi
    unfold badOwner at this
    by_cases hh : gi K.os i = -1
    · exact .inl hh
    · right; simpa [hh] using this
  · unfold badRun at n2
    by_cases hh : K.run = -1
    · exact .inl hh
    · right; simpa [hh] using n2
  · have := n3 e he
    unfold badAcc at this
    rcases hb : gb K.al e with _ | _
    · right; simpa [hb, and_assoc] using this
    · exact .inl rfl
theorem kf_of {K : Ker} (h : SK K) : kf K = 0 := by
  unfold kf
  rw [if_neg (by simp [h.v]), if_neg (by have := h.l2; have := h.l3; omega), if_neg (by simpa using h.ac), if_neg]
  · unfold st
    rw [if_pos]
    refine ⟨fun i hi => ?_, ?_, fun e he => ?_⟩
    · unfold badOwner
      rcases h.own i hi with q | q <;> simp [q]
    · unfold badRun
      rcases h.rl with q | ⟨q1, q2⟩
      · simp [q]
      · simp [q1, q2]
    · unfold badAcc
      rcases h.dead e he with q | ⟨q1, q2, q3, q4⟩
      · simp [q]
      · simp [q1, q2, q3, q4]
  · rintro (q | ⟨q1, q2⟩)
    · exact q h.tick
    · rcases h.run with r | r
      · exact q1 r
      · rw [inEnv_true r] at q2; cases q2
theorem SK.tk {K : Ker} (h : SK K) (ht : K.tick < 100000) : TK K := by
  obtain ⟨a, b, c, _⟩ := vf_zero h.v
  exact ⟨⟨a, b⟩, h.l2, h.l3, fun i hi => bad_false (c i hi), h.ac, ⟨h.tick.1, ht⟩, h.run⟩

structure QK (K : Ker) : Prop where
  v : vf K.os = 0
  own : ∀ i, i < K.os.length → gi K.os i = -1 ∨ gb K.al (gi K.os i).toNat = true
  ra : K.run = -1 ∨ gb K.al K.run.toNat = true
  dead : ∀ e, e < 4 → gb K.al e = true ∨ (gi K.ac (e * 4) = 0 ∧ gi K.ac (e * 4 + 1) = 0 ∧ gi K.ac (e * 4 + 2) = 0 ∧ gi K.ac (e * 4 + 3) = 0)
theorem QK.put {K : Ker} {e : Nat} {r : R2} (h : QK K) (t : TK K) (he : e < 4) (ha : gb K.al e = true) : QK (put3 K e r) := by
  unfold put3
  split
  · refine ⟨h.v, h.own, h.ra, fun j hj => ?_⟩
    by_cases hje : j = e
    · subst hje; exact .inl ha
    · rcases h.dead j hj with q | q
      · exact .inl q
      · right
        have hl : e * 4 + 3 < K.ac.length := by rw [t.l3]; omega
        simp only [setAcc_gi _ _ _ _ _ _ _ hl]
        rw [if_neg (by omega), if_neg (by omega), if_neg (by omega), if_neg (by omega), if_neg (by omega), if_neg (by omega), if_neg (by omega), if_neg (by omega), if_neg (by omega), if_neg (by omega), if_neg (by omega), if_neg (by omega), if_neg (by omega), if_neg (by omega), if_neg (by omega), if_neg (by omega)]
        exact q
  · exact h
theorem QK.setRun {K : Ker} (h : QK K) {r : Int} (hr : r = -1 ∨ gb K.al r.toNat = true) : QK { K with run := r } := ⟨h.v, h.own, hr, h.dead⟩
theorem QK.begin {K : Ker} (h : QK K) (t : TK K) : QK (begin3 K).1 := by
  unfold begin3
  have how := t.own
  split
  · exact h
  · rename_i ho
    have oa : gb K.al (own3 K).toNat = true := (h.own _ t.slot.1).resolve_left ho
    split
    · exact h.put t (by omega) oa
    · exact h.setRun (.inr oa)
theorem QK.act {K : Ker} (h : QK K) (t : TK K) (hr : K.run ≠ -1) (k to : Int) (ht : 0 ≤ to ∧ to < 4) : QK (act3 K k to).1 := by
  unfold act3
  have hrun := t.run
  split
  · exact h.setRun (.inl rfl)
  · split
    · rename_i hc
      exact (h.setRun (r := to) (.inr hc.2.2.1)).put (t.setRun (.inr ht)) (by omega) hc.2.2.1
    · exact h.put t (by omega) (h.ra.resolve_left hr)
theorem QK.last {K : Ker} (h : QK K) (t : TK K) (hr : K.run ≠ -1) : QK (end3 K).1 := by
  have hrun := t.run
  exact (h.put (e := K.run.toNat) t (by omega) (h.ra.resolve_left hr)).setRun (.inl rfl)
theorem bg3_tick (K : Ker) : (begin3 K).1.tick = K.tick := by
  unfold begin3
  split
  · rfl
  · split
    · exact (put3_os _ _ _).2.2.1
    · rfl
theorem ac3_tick (K : Ker) (k to : Int) : (act3 K k to).1.tick = K.tick := by
  unfold act3
  split
  · rfl
  · split
    · exact (put3_os _ _ _).2.2.1
    · exact (put3_os _ _ _).2.2.1
theorem en3_tick (K : Ker) : (end3 K).1.tick = K.tick := (put3_os _ _ _).2.2.1
theorem tb_all {K : Ker} (h : QK K) (t : TK K) : QK (tickB K).1 ∧ TK (tickB K).1 ∧ (tickB K).1.tick = K.tick ∧ (tickB K).2.length ≤ 3 := by
  unfold tickB
  split
  · refine ⟨h.begin t, t.begin, bg3_tick K, ?_⟩
    unfold begin3
    split
    · simp
    · split <;> simp
  · exact ⟨h, t, rfl, by simp⟩
theorem ta_all {K : Ker} (h : QK K) (t : TK K) (k to : Int) (ht : 0 ≤ to ∧ to < 4) : QK (tickA K k to).1 ∧ TK (tickA K k to).1 ∧ (tickA K k to).1.tick = K.tick ∧ (tickA K k to).2.length ≤ 3 := by
  unfold tickA
  split
  · rename_i hr
    refine ⟨h.act t hr k to ht, t.act hr k to ht, ac3_tick K k to, ?_⟩
    unfold act3
    split
    · simp
    · split <;> simp
  · exact ⟨h, t, rfl, by simp⟩
theorem te_all {K : Ker} (h : QK K) (t : TK K) : QK (tickE K).1 ∧ TK (tickE K).1 ∧ (tickE K).1.tick = K.tick ∧ (tickE K).2.length ≤ 3 ∧ ((tickE K).1.run = -1 ∨ K.tick % 9 ≠ 8) := by
  unfold tickE
  split
  · rename_i hr
    exact ⟨h.last t hr.2, t.last hr.2, en3_tick K, by simp [end3], .inl rfl⟩
  · rename_i hr
    refine ⟨h, t, rfl, by simp, ?_⟩
    by_cases h1 : K.run = -1
    · exact .inl h1
    · exact .inr fun h2 => hr ⟨h2, h1⟩
theorem SK.next {K : Ker} (h : SK K) (ht : K.tick < 100000) (k to : Int) (hto : 0 ≤ to ∧ to < 4) : SK (tick3 K k to).1 ∧ (tick3 K k to).1.tick = K.tick + 1 ∧ (tick3 K k to).2.length ≤ 9 := by
  have t := h.tk ht
  have q : QK K := ⟨h.v, h.own, h.rl.imp id And.left, h.dead⟩
  obtain ⟨q1, t1, e1, l1⟩ := tb_all q t
  obtain ⟨q2, t2, e2, l2⟩ := ta_all q1 t1 k to hto
  obtain ⟨q3, t3, e3, l3, r3⟩ := te_all q2 t2
  have htk := h.tick
  refine ⟨⟨q3.v, t3.l2, t3.l3, t3.ac, ⟨?_, ?_⟩, t3.run, q3.own, ?_, q3.dead⟩, rfl, ?_⟩
  · show 0 ≤ K.tick + 1; omega
  · show K.tick + 1 ≤ 100000; omega
  · rcases r3 with r | r
    · exact .inl r
    · rcases q3.ra with r2 | r2
      · exact .inl r2
      · refine .inr ⟨r2, ?_⟩
        show (K.tick + 1) % 9 ≠ 0
        rw [e2, e1] at r
        omega
  · unfold tick3
    simp only [List.length_append]
    omega

theorem SK.setOs {K : Ker} (h : SK K) {os' : List Int} (hv : vf os' = 0) (ho : ∀ i, i < os'.length → gi os' i = -1 ∨ gb K.al (gi os' i).toNat = true) : SK { K with os := os' } :=
  ⟨hv, h.l2, h.l3, h.ac, h.tick, h.run, ho, h.rl, h.dead⟩
theorem cf_z {k e s t : Int} (h : cf k e s t = 0) : (k = 1 ∨ k = 2 ∨ k = 3 ∨ k = 4 ∨ k = 5) ∧ (0 ≤ e ∧ e < 4) ∧ (0 ≤ t ∧ t < 4) ∧ 0 ≤ s ∧ s ≤ 11 := by
  have key : ∀ {q : Int}, q = cr e s t → q = 0 → (0 ≤ e ∧ e < 4) ∧ (0 ≤ t ∧ t < 4) ∧ 0 ≤ s ∧ s ≤ 11 := fun {q} hq h0 => by
    rw [h0] at hq
    unfold cr at hq
    split at hq
    · rename_i hh
      simp [inEnv, inR] at hh
      omega
    · omega
  unfold cf at h
  split at h
  · split at h
    · omega
    · exact ⟨by omega, key rfl h⟩
  · split at h
    · split at h
      · omega
      · exact ⟨by omega, key rfl h⟩
    · split at h
      · exact ⟨by omega, key rfl h⟩
      · omega
theorem cnt_bound {xs : List Int} (h : vf xs = 0) {k : Nat} (hk : k < xs.length) (v : Int) (hc : v = -1 ∨ cnt xs v < 6 ∨ gi xs k = v) : ∀ e : Int, 0 ≤ e → e < 4 → cnt (xs.set k v) e ≤ 6 := fun e h1 h2 => by
  have h3 := cnt_set xs k v e hk
  have h4 := (vf_zero h).2.2.2 e h1 h2
  by_cases hv : v = e
  · subst hv
    rcases hc with q | q | q
    · omega
    · rw [if_pos rfl] at h3
      split at h3 <;> omega
    · rw [if_pos rfl, if_pos q] at h3
      omega
  · rw [if_neg hv] at h3
    split at h3 <;> omega
theorem own_set {K : Ker} (h : SK K) {k : Nat} {v : Int} (hv : v = -1 ∨ gb K.al v.toNat = true) : ∀ i, i < (K.os.set k v).length → gi (K.os.set k v) i = -1 ∨ gb K.al (gi (K.os.set k v) i).toNat = true := fun i hi => by
  rw [gi_set]
  split
  · exact hv
  · exact h.own i (by simpa using hi)
theorem SK.lists {K : Ker} (h : SK K) {r : Int × List Int} (hr : r.1 = 0 → vf r.2 = 0 ∧ ∀ i, i < r.2.length → gi r.2 i = -1 ∨ gb K.al (gi r.2 i).toNat = true) : SK (Proofs.YtckapndpefkcgaaGreat.lists K r).2 := by
  unfold Proofs.YtckapndpefkcgaaGreat.lists
  split
  · exact h
  · rename_i h0
    obtain ⟨a, b⟩ := hr (by omega)
    exact h.setOs a b
theorem gi_map3 (f : Int → Int) (xs : List Int) (i : Nat) (hi : i < xs.length) : gi (xs.map f) i = f (gi xs i) := by
  rw [gi_lt _ _ (by simpa using hi), gi_lt _ _ hi]
  simp
theorem SK.call {K : Ker} (h : SK K) {k e s t : Int} (hc : cf k e s t = 0) : SK (call3 K k e s t).2 := by
  obtain ⟨hk, he, ht, hs⟩ := cf_z hc
  obtain ⟨va, vb, vc, vd⟩ := vf_zero h.v
  unfold call3
  by_cases k1 : k = 1
  · rw [if_pos k1]
    split
    · exact h
    · refine ⟨h.v, by simpa using h.l2, h.l3, h.ac, h.tick, h.run, fun i hi => ?_, ?_, fun j hj => ?_⟩
      · rcases h.own i hi with q | q
        · exact .inl q
        · right
          show gb (K.al.set e.toNat true) _ = true
          rw [gb_set]
          split
          · rfl
          · exact q
      · rcases h.rl with q | ⟨q1, q2⟩
        · exact .inl q
        · refine .inr ⟨?_, q2⟩
          show gb (K.al.set e.toNat true) _ = true
          rw [gb_set]
          split
          · rfl
          · exact q1
      · rcases h.dead j hj with q | q
        · left
          show gb (K.al.set e.toNat true) _ = true
          rw [gb_set]
          split
          · rfl
          · exact q
        · exact .inr q
  rw [if_neg k1]
  by_cases ha : gb K.al e.toNat = false
  · rw [if_pos ha]; exact h
  rw [if_neg ha]
  have ha : gb K.al e.toNat = true := by simpa using ha
  by_cases k2 : k = 2
  · rw [if_pos k2]
    have hd : (drop1 K.os e).2 = K.os.map fun x => if x = e then -1 else x := by
      unfold drop1
      rw [if_neg (by rw [ef_of h.v (by simpa using he)]; simp)]
    have hne : e ≠ -1 := by omega
    refine ⟨?_, by simpa using h.l2, by simpa [zac_len] using h.l3, fun j hj => ?_, h.tick, ?_, fun i hi => ?_, ?_, fun j hj => ?_⟩
    · show vf (drop1 K.os e).2 = 0
      rw [hd]
      refine vf_ok (by simpa using va) (by simpa using vb) (fun i hi => ?_) (fun e' h1 h2 => ?_)
      · rw [gi_map3 _ _ _ (by simpa using hi)]
        have := vc i (by simpa using hi)
        split
        · exact bad_ok (.inl rfl)
        · exact this
      · rw [cnt_drop _ _ _ hne (by omega)]
        have := vd e' h1 h2
        split <;> omega
    · have h1 := h.ac j hj
      have hl : e.toNat * 4 + 3 < K.ac.length := by rw [h.l3]; omega
      unfold afk at h1 ⊢
      show af (gi (zac K.ac e.toNat) _) (gi (zac K.ac e.toNat) _) (gi (zac K.ac e.toNat) _) (gi (zac K.ac e.toNat) _) = 0
      simp only [gi_zac hl]
      by_cases hje : j = e.toNat
      · subst hje
        rw [if_pos (by omega), if_pos (by omega), if_pos (by omega), if_pos (by omega)]
        decide
      · rw [if_neg (by omega), if_neg (by omega), if_neg (by omega), if_neg (by omega)]
        exact h1
    · show (if K.run = e then -1 else K.run) = -1 ∨ _
      have := h.run
      split
      · exact .inl rfl
      · rename_i hr; simpa [hr] using this
    · show gi (drop1 K.os e).2 i = -1 ∨ gb (K.al.set e.toNat false) (gi (drop1 K.os e).2 i).toNat = true
      have hi' : i < (drop1 K.os e).2.length := hi
      rw [hd] at hi' ⊢
      have hi2 : i < K.os.length := by simpa using hi'
      rw [gi_map3 _ _ _ hi2]
      by_cases hx : gi K.os i = e
      · rw [if_pos hx]; exact .inl rfl
      · rw [if_neg hx]
        rcases bad_false (vc i hi2) with r | r
        · exact .inl r
        · have q := (h.own i hi2).resolve_left (by omega)
          right
          rw [gb_set, if_neg (by omega)]
          exact q
    · show (if K.run = e then -1 else K.run) = -1 ∨ (gb (K.al.set e.toNat false) (if K.run = e then -1 else K.run).toNat = true ∧ K.tick % 9 ≠ 0)
      by_cases hr : K.run = e
      · rw [if_pos hr]; exact .inl rfl
      · rw [if_neg hr]
        rcases h.rl with q | ⟨q1, q2⟩
        · exact .inl q
        · refine (Classical.em (K.run = -1)).imp id fun hm => ⟨?_, q2⟩
          rw [gb_set, if_neg]
          · exact q1
          · have := h.run; omega
    · show gb (K.al.set e.toNat false) j = true ∨ (gi (zac K.ac e.toNat) (j * 4) = 0 ∧ gi (zac K.ac e.toNat) (j * 4 + 1) = 0 ∧ gi (zac K.ac e.toNat) (j * 4 + 2) = 0 ∧ gi (zac K.ac e.toNat) (j * 4 + 3) = 0)
      have hl : e.toNat * 4 + 3 < K.ac.length := by rw [h.l3]; omega
      simp only [gi_zac hl]
      by_cases hje : j = e.toNat
      · right
        rw [if_pos (by omega), if_pos (by omega), if_pos (by omega), if_pos (by omega)]
        simp
      · rw [if_neg (by omega), if_neg (by omega), if_neg (by omega), if_neg (by omega), gb_set, if_neg (by omega)]
        exact h.dead j hj
  rw [if_neg k2]
  split
  · refine h.lists fun h0 => ?_
    obtain ⟨i, _, hi, _, _, hf, hcn, h2⟩ := take1_done h0
    rw [h2]
    exact ⟨vf_set h.v (bad_ok (.inr he)) (cnt_bound h.v hi e (.inr (.inl hcn))), own_set h (.inr ha)⟩
  · split
    · refine h.lists fun h0 => ?_
      obtain ⟨i, _, hi, _, _, _, h2⟩ := free1_done h0
      rw [h2]
      exact ⟨vf_set h.v (bad_ok (.inl rfl)) (cnt_bound h.v hi (-1) (.inl rfl)), own_set h (.inl rfl)⟩
    · split
      · exact h
      · rename_i hta
        have hta : gb K.al t.toNat = true := by simpa using hta
        refine h.lists fun h0 => ?_
        obtain ⟨i, _, hi, _, _, _, hg, hcn, h2⟩ := move1_done h0
        rw [h2]
        exact ⟨vf_set h.v (bad_ok (.inr ht)) (cnt_bound h.v hi t (by rcases hcn with q | q; exact .inr (.inr (by rw [hg, q])); exact .inr (.inl q))), own_set h (.inr hta)⟩
theorem lists_tick (K : Ker) (r : Int × List Int) : (lists K r).2.tick = K.tick := by unfold lists; split <;> rfl
theorem call3_tk (K : Ker) (k e s t : Int) : (call3 K k e s t).2.tick = K.tick := by
  unfold call3
  repeat' split
  all_goals first | rfl | exact lists_tick _ _
def step3 (K : Ker) (k a b c e s t : Int) : Int × Ker × List Int :=
  if evf k a b c e s t ≠ 0 then (evf k a b c e s t, K, []) else if k = 2 then ((call3 K c e s t).1, (call3 K c e s t).2, []) else (0, (tick3 K a b).1, (tick3 K a b).2)
theorem evf_z {k a b c e s t : Int} (h : evf k a b c e s t = 0) : (k = 1 ∧ (0 ≤ b ∧ b < 4) ∧ evf 1 a b 0 0 0 0 = 0) ∨ (k = 2 ∧ cf c e s t = 0) := by
  unfold evf at h
  by_cases k1 : k = 1
  · rw [if_pos k1] at h
    split at h
    · omega
    · rename_i hn
      split at h
      · rename_i hb
        refine .inl ⟨k1, by simpa [inEnv] using hb, ?_⟩
        unfold evf
        rw [if_pos rfl, if_neg (by omega), if_pos hb]
      · omega
  · rw [if_neg k1] at h
    by_cases k2 : k = 2
    · rw [if_pos k2] at h
      split at h
      · omega
      · exact .inr ⟨k2, h⟩
    · rw [if_neg k2] at h; omega
theorem step3_sk {K : Ker} (h : SK K) (ht : K.tick < 100000) (k a b c e s t : Int) : SK (step3 K k a b c e s t).2.1 ∧ (step3 K k a b c e s t).2.1.tick ≤ K.tick + 1 ∧ (step3 K k a b c e s t).2.2.length ≤ 9 := by
  unfold step3
  by_cases h0 : evf k a b c e s t = 0
  · rw [if_neg (by simp [h0])]
    rcases evf_z h0 with ⟨k1, hb, _⟩ | ⟨k2, hc⟩
    · rw [if_neg (by omega)]
      obtain ⟨x, y, z⟩ := h.next ht a b hb
      exact ⟨x, by show (tick3 K a b).1.tick ≤ _; omega, z⟩
    · rw [if_pos k2]
      exact ⟨h.call hc, by show (call3 K c e s t).2.tick ≤ _; rw [call3_tk]; omega, by simp⟩
  · rw [if_pos h0]
    exact ⟨h, by show K.tick ≤ _; omega, by simp⟩
def new3 (m : Int) : Ker := ⟨(new1 m).2, [false, false, false, false], List.replicate 16 0, 0, -1⟩
theorem cnt_rep (n : Nat) (e : Int) (he : e ≠ -1) : cnt (List.replicate n (-1)) e = 0 := by
  induction n with
  | zero => rfl
  | succ n ih => rw [List.replicate_succ, cnt, if_neg (fun h => he h.symm), ih]
theorem sk_new {m : Int} (h : (new1 m).1 = 0) : SK (new3 m) ∧ ((new1 m).2.length : Int) = m ∧ 1 ≤ m ∧ m ≤ 12 := by
  have hm : ¬ (m < 1 ∨ 12 < m) := by
    unfold new1 at h
    split at h
    · simp at h
    · assumption
  have h2 : (new1 m).2 = List.replicate m.toNat (-1) := by unfold new1; rw [if_neg hm]
  have hg : ∀ i, i < m.toNat → gi (List.replicate m.toNat (-1)) i = -1 := fun i hi => by rw [gi_lt _ _ (by simpa using hi)]; simp
  refine ⟨⟨?_, rfl, by simp [new3], fun e he => ?_, by simp [new3], .inl rfl, fun i hi => ?_, .inl rfl, fun e he => ?_⟩, by rw [h2]; simp; omega, by omega, by omega⟩
  · show vf (new1 m).2 = 0
    rw [h2]
    refine vf_ok (by simp; omega) (by simp; omega) (fun i hi => ?_) (fun e h1 _ => ?_)
    · rw [hg i (by simpa using hi)]; exact bad_ok (.inl rfl)
    · rw [cnt_rep _ _ (by omega)]; omega
  · rcases (show e = 0 ∨ e = 1 ∨ e = 2 ∨ e = 3 by omega) with rfl | rfl | rfl | rfl <;> rfl
  · left
    show gi (new1 m).2 i = -1
    have hi' : i < (new1 m).2.length := hi
    rw [h2] at hi' ⊢
    exact hg i (by simpa using hi')
  · right
    rcases (show e = 0 ∨ e = 1 ∨ e = 2 ∨ e = 3 by omega) with rfl | rfl | rfl | rfl <;> exact ⟨rfl, rfl, rfl, rfl⟩
end Go.Proofs.YtckapndpefkcgaaGreat
