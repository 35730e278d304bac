/-
  The model's functions of chapter 1: what each answers, for every list that can be read and is at most 2^20 long. Stated with the lists of Math1.
-/
import Derived.Test.YtckapndpefkcgaaGreatChecked
import Derived.Laws.AppendOwnNone
import Derived.Test.YtckapndpefkcgaaGreatMath3
import Derived.Test.YtckapndpefkcgaaGreatU8s
set_option maxHeartbeats 1000000
namespace Go.Proofs.YtckapndpefkcgaaGreat
open Go.RowKit
set_option maxRecDepth 100000

theorem l1In_any (v lo hi : Int) (w : World) :
    Calls Tryz.prog 94 #[.int .i64 v, .int .i64 lo, .int .i64 hi] w fun e w' => e = .returned (.bool (inR lo hi v)) ∧ w = w' := by
  by_cases h1 : lo ≤ v
  · by_cases h2 : v ≤ hi
    · go_enter Tryz.func94, Tryz.ntmps94
      go_wp2
      go_ret
      exact ⟨ret_bool (inR_true ⟨h1, h2⟩).symm, rfl⟩
    · go_enter Tryz.func94, Tryz.ntmps94
      go_wp2
      go_ret
      exact ⟨ret_bool (inR_false (by omega)).symm, rfl⟩
  · go_enter Tryz.func94, Tryz.ntmps94
    go_wp2
    go_ret
    exact ⟨ret_bool (inR_false (by omega)).symm, rfl⟩

theorem l1Env_any (v : Int) (w : World) :
    Calls Tryz.prog 93 #[.int .i64 v] w fun e w' => e = .returned (.bool (inEnv v)) ∧ w = w' := by
  go_enter Tryz.func93, Tryz.ntmps93
  go_wp2_with fail
  refine (l1In_any v 0 3 _).mono ?_
  rintro e w' ⟨rfl, rfl⟩
  go_wp2
  go_ret
  exact ⟨ret_bool (inR_env v), rfl⟩

theorem l1Count_any (lo hi : Nat) (A : Option Addr) (n c : Nat) (xs : List Int) (env : Int) (w : World) (hn : n * 8 ≤ 140737488351232) (ex : xs.length = n) (h : Sl w lo hi A n (fun k => .int .i64 (gi xs k))) :
    Calls Tryz.prog 140 #[.slice A n c, .int .i64 env] w fun e w' => e = .returned (.int .i64 (cnt xs env)) ∧ w = w' := by
  have H := Lib.hid h
  have EX := Lib.hid ex
  clear h ex
  go_enter Tryz.func140, Tryz.ntmps140
  go_wp2
  go_loop [5, 6] (fun q i => ∃ k : Nat, k ≤ n ∧ i = .int .i64 k ∧ q = .int .i64 (cnt (xs.take k) env)) (fun _ i => n - (intOf i).toNat)
  case atStart => exact ⟨0, Nat.zero_le _, rfl, rfl⟩
  case round =>
    obtain ⟨k, hk, rfl, rfl⟩ := hrel
    have hc1 := cnt_le (xs.take k) env
    have hc2 : (xs.take k).length ≤ k := List.length_take_le _ _
    by_cases hlt : k < n
    · obtain ⟨b, off, rfl, h1, h2, hc⟩ := H.out.at_ hlt
      have hck := hc k hlt
      have CT := Lib.hid (cnt_take xs k env (by rw [EX.out]; exact hlt))
      clear hc H
      by_cases he : gi xs k = env
      · subst he
        go_wp2
        go_round
        case rel => exact ⟨k + 1, by omega, by go_num, by rw [CT.out, if_pos rfl]; go_num⟩
        case measure => simp [intOf]; omega
      · go_wp2
        go_round
        case rel => exact ⟨k + 1, by omega, by go_num, by rw [CT.out, if_neg he]; go_num⟩
        case measure => simp [intOf]; omega
    · go_wp2
      go_ret
      exact ⟨ret_i64 (by rw [List.take_of_length_le (by rw [EX.out]; omega)]), rfl⟩

theorem specVectorFault_any (lo hi : Nat) (A : Option Addr) (n c : Nat) (xs : List Int) (w : World) (hn : n * 8 ≤ 140737488351232) (ex : xs.length = n) (h : Sl w lo hi A n (fun k => .int .i64 (gi xs k))) :
    Calls Tryz.prog 98 #[.slice A n c] w fun e w' => e = .returned (.int .i64 (vf xs)) ∧ w = w' := by
  have H := Lib.hid h
  have EX := Lib.hid ex
  clear h ex
  by_cases hn1 : n < 1
  · go_enter Tryz.func98, Tryz.ntmps98
    go_wp2
    go_ret
    exact ⟨ret_i64 (vf_many (by rw [EX.out]; omega)).symm, rfl⟩
  by_cases hn2 : 12 < n
  · go_enter Tryz.func98, Tryz.ntmps98
    go_wp2
    go_ret
    exact ⟨ret_i64 (vf_many (by rw [EX.out]; omega)).symm, rfl⟩
  go_enter Tryz.func98, Tryz.ntmps98
  go_wp2
  go_loop [3] (fun i => ∃ k : Nat, k ≤ n ∧ i = .int .i64 k ∧ ∀ j, j < k → bad (gi xs j) = false) (fun i => n - (intOf i).toNat)
  case atStart => exact ⟨0, Nat.zero_le _, rfl, fun j hj => absurd hj (Nat.not_lt_zero _)⟩
  case round =>
    obtain ⟨k, hk, rfl, hs⟩ := hrel
    have HS := Lib.hid hs
    clear hs
    by_cases hlt : k < n
    · obtain ⟨b, off, rfl, h1, h2, hc⟩ := H.out.at_ hlt
      have hck := hc k hlt
      clear hc H
      by_cases hb : gi xs k = -1
      · have hB := Lib.hid (bad_ok (.inl hb))
        have hd : (gi xs k != -1) = false := by simp [hb]
        have HBB := Lib.hid hb
        clear hb
        go_wp2
        go_round
        case rel => exact ⟨k + 1, by omega, by go_num, upto_succ HS.out hB.out⟩
        case measure => simp [intOf]; omega
      · have hd : (gi xs k != -1) = true := by simp [hb]
        by_cases he : 0 ≤ gi xs k ∧ gi xs k < 4
        · have hB := Lib.hid (bad_ok (.inr he))
          have hie : inEnv (gi xs k) = true := inEnv_true he
          clear he hb
          go_wp2_with (go_at_call 93; refine (l1Env_any _ _).mono ?_; rintro e w' ⟨rfl, rfl⟩)
          go_round
          case rel => exact ⟨k + 1, by omega, by go_num, upto_succ HS.out hB.out⟩
          case measure => simp [intOf]; omega
        · have hB := Lib.hid (bad_true hb he)
          have hie : inEnv (gi xs k) = false := inEnv_false he
          clear he hb
          go_wp2_with (go_at_call 93; refine (l1Env_any _ _).mono ?_; rintro e w' ⟨rfl, rfl⟩)
          go_ret
          exact ⟨ret_i64 (vf_range (by rw [EX.out]; omega) (by rw [EX.out]; omega) (by rw [EX.out]; exact hlt) hB.out).symm, rfl⟩
    · have e0 : k = n := by omega
      subst e0
      go_wp2
      go_loop [4] (fun i => ∃ e : Nat, e ≤ 4 ∧ i = .int .i64 e ∧ ∀ j : Nat, j < e → cnt xs j ≤ 6) (fun i => 4 - (intOf i).toNat)
      case atStart => exact ⟨0, Nat.zero_le _, rfl, fun j hj => absurd hj (Nat.not_lt_zero _)⟩
      case round =>
        obtain ⟨e, he, rfl, hs2⟩ := hrel
        have HS2 := Lib.hid hs2
        clear hs2
        by_cases hlt2 : e < 4
        · by_cases hc : 6 < cnt xs e
          · go_wp2_with (go_at_call 140; refine (l1Count_any lo hi A _ _ xs _ _ (by omega) EX.out H.out).mono ?_; rintro e w' ⟨rfl, rfl⟩)
            go_ret
            exact ⟨ret_i64 (vf_full (by rw [EX.out]; omega) (by rw [EX.out]; omega) (fun k hk => HS.out k (by rw [← EX.out]; exact hk)) (e := (e : Int)) (by omega) hc).symm, rfl⟩
          · go_wp2_with (go_at_call 140; refine (l1Count_any lo hi A _ _ xs _ _ (by omega) EX.out H.out).mono ?_; rintro e w' ⟨rfl, rfl⟩)
            go_round
            case rel => exact ⟨e + 1, by omega, by go_num, upto_succ HS2.out (by omega)⟩
            case measure => simp [intOf]; omega
        · go_wp2
          go_ret
          refine ⟨ret_i64 (vf_ok (by rw [EX.out]; omega) (by rw [EX.out]; omega) (fun k hk => HS.out k (by rw [← EX.out]; exact hk)) (fun e' h1 h2 => ?_)).symm, rfl⟩
          have := HS2.out e'.toNat (by omega)
          rwa [show ((e'.toNat : Nat) : Int) = e' by omega] at this

def vals (xs : List Int) : List Value := xs.map (Value.int .i64)
theorem vals_get (xs : List Int) (k : Nat) (h : k < xs.length) : (vals xs)[k]? = some (.int .i64 (gi xs k)) := by
  simp [vals, h, gi_lt xs k h]
theorem vals_getD (xs : List Int) (k : Nat) (h : k < xs.length) : (vals xs).getD k undef = .int .i64 (gi xs k) := by
  rw [List.getD_eq_getElem?_getD, vals_get xs k h]; rfl

theorem l1Ints_any (lo hi : Nat) (A : Option Addr) (n c : Nat) (xs : List Int) (w : World) (hn : n * 8 ≤ 140737488351232) (ex : xs.length = n) (hA : A = none → c = 0) (h : Sl w lo hi A n (fun k => .int .i64 (gi xs k))) :
    Calls Tryz.prog 116 #[.slice A n c] w fun e w' => ∃ A' c', e = .returned (.slice A' n c') ∧ (A' = none → c' = 0) ∧ Mine w' w.heap.size w'.heap.size 2 A' n (fun k => .int .i64 (gi xs k)) ∧ Below w.heap.size w w' := by
  have H := Lib.hid h
  have EX := Lib.hid ex
  have HA := Lib.hid hA
  clear h ex hA
  obtain ⟨i0, hi0, hz0, hz1, hz2⟩ := info_parts Tryz.info_i64
  have fin : ∀ (v' : Value) (w1 : World), w1.ownsRow w.heap.size 2 1 v' n (vals xs) → Below w.heap.size w w1 →
      ∃ A' c', v' = .slice A' n c' ∧ (A' = none → c' = 0) ∧ Mine w1 w.heap.size w1.heap.size 2 A' n (fun k => .int .i64 (gi xs k)) ∧ Below w.heap.size w w1 := by
    intro v' w1 h1 h2
    obtain ⟨A', c', rfl, _, hc, hm⟩ := mine_of_own h1
    exact ⟨A', c', rfl, hc, hm.congr (fun k hk => vals_getD xs k (by rw [EX.out]; exact hk)), h2⟩
  have FIN := Lib.hid fin
  clear fin
  have own0 : Hid ((w.alloc (.cells #[] 2)).ownsRow w.heap.size 2 1 (.slice (some ⟨w.heap.size, 0, none⟩) 0 0) 0 []) :=
    ⟨rfl, .inr ⟨w.heap.size, 0, #[], rfl, Nat.le_refl _, heap_alloc_new _ _, Nat.le_refl _, by simp [maxLen], rfl, rfl⟩⟩
  have b0 : Hid (Below w.heap.size w (w.alloc (.cells #[] 2))) := (Below.refl _ _).alloc (Nat.le_refl _) _
  rcases A with _ | ad
  · have hn0 : n = 0 := by
      rcases Nat.eq_zero_or_pos n with h0 | h0
      · exact h0
      · obtain ⟨_, _, hx, _⟩ := H.out 0 h0
        cases hx
    subst hn0
    obtain rfl := HA.out rfl
    go_enter Tryz.func116, Tryz.ntmps116
    go_wp2_with (at_builtin; refine wpList_append_own_none rfl (.tmp 3) (.tmp 4) 35 rfl w.heap.size 2 i0 1 Tryz.underlying35 hi0 _ 0 [] rfl own0.out rfl ?_)
    go_ret
    exact ⟨_, _, rfl, fun h => by simp at h, .inl rfl, b0.out⟩
  · have NW : Hid (∀ j u, (vals xs)[j]? = some u → (w.alloc (.cells #[] 2)).cell? (ad.add j) = some u) := by
      intro j u hu
      have hj : j < xs.length := by have := (List.getElem?_eq_some_iff.1 hu).1; simpa [vals] using this
      rw [vals_get xs j hj] at hu
      injection hu with hu
      subst hu
      obtain ⟨b, off, hx, h1, h2, hc⟩ := (H.out.lt) j (by rw [← EX.out]; exact hj)
      injection hx with hx
      subst hx
      rw [Go.WideShapes.add_plain]
      exact (b0.out.cell (p := ⟨b, off + j, none⟩) (by simp; omega)).trans hc
    have ON : Hid (∀ u ∈ vals xs, u.oneCell' = true) := by
      intro u hu
      simp only [vals, List.mem_map] at hu
      obtain ⟨_, _, rfl⟩ := hu
      rfl
    have LN : Hid ((vals xs).length = n * 1) := by simp [Hid, vals, EX.out]
    go_enter Tryz.func116, Tryz.ntmps116
    go_wp2_with (at_builtin; refine wpList_append_own _ rfl (.tmp 3) (.tmp 4) 35 rfl w.heap.size 2 i0 (.int .i64 0) 1 8 Tryz.underlying35 hi0 hz0 hz1 hz2 rfl (by decide) _ 0 [] rfl own0.out ad n c (vals xs) rfl LN.out NW.out ON.out (by unfold maxLen; omega) (by omega) b0.out.size ?_; intro v' w1 hown hgrow _; have HO := Lib.hid hown; have HG := Lib.hid hgrow; clear hown hgrow)
    go_ret
    have hb : Below w.heap.size w w1 := b0.out.grown HG.out b0.out.size (fun k hk => by have hk' : some w.heap.size = some k := hk; injection hk' with e; omega)
    have ho := HO.out
    simp only [Nat.zero_add, List.nil_append] at ho
    obtain ⟨A', c', rfl, h1, h2, h3⟩ := FIN.out _ _ ho hb
    exact ⟨A', c', rfl, h1, h2, h3⟩

theorem l1Asked_any (lo hi : Nat) (A : Option Addr) (n c : Nat) (xs : List Int) (env to slot : Int) (w : World) (hn : n * 8 ≤ 140737488351232) (ex : xs.length = n) (h : Sl w lo hi A n (fun k => .int .i64 (gi xs k))) :
    Calls Tryz.prog 162 #[.slice A n c, .int .i64 env, .int .i64 to, .int .i64 slot] w fun e w' => e = .returned (.int .i64 (sf xs slot [env, to])) ∧ w = w' := by
  have C := Lib.hid (specVectorFault_any lo hi A n c xs w hn ex h)
  have EX := Lib.hid ex
  clear h ex
  by_cases hv : vf xs = 0
  · have hv' : (vf xs != 0) = false := by simp [hv]
    have HV := Lib.hid hv
    obtain ⟨hn1, hn2, _, _⟩ := vf_zero hv
    rw [EX.out] at hn1 hn2
    clear hv
    by_cases he : 0 ≤ env ∧ env < 4
    · have hie : inEnv env = true := inEnv_true he
      have HE := Lib.hid he
      clear he
      by_cases ht : 0 ≤ to ∧ to < 4
      · have hit : inEnv to = true := inEnv_true ht
        have HT := Lib.hid ht
        clear ht
        have HF : Hid (ef xs [env, to] = 0) := by
          show ef xs [env, to] = 0
          rw [ef_ok HV.out]
          simp [hie, hit]
        by_cases hs : 0 ≤ slot ∧ slot ≤ n - 1
        · have hr : inR 0 ((n : Int) - 1) slot = true := inR_true hs
          have HS : Hid (sf xs slot [env, to] = 0) := by
            show sf xs slot [env, to] = 0
            rw [sf_ok HF.out, if_neg (by rw [EX.out]; omega)]
          clear hs
          go_enter Tryz.func162, Tryz.ntmps162
          go_wp2_with (first | (go_at_call 98; refine C.out.mono ?_; rintro e w' ⟨rfl, rfl⟩) | (go_at_call 93; refine (l1Env_any _ _).mono ?_; rintro e w' ⟨rfl, rfl⟩) | (go_at_call 94; refine (l1In_any _ _ _ _).mono ?_; rintro e w' ⟨rfl, rfl⟩))
          go_ret
          exact ⟨ret_i64 HS.out.symm, rfl⟩
        · have hr : inR 0 ((n : Int) - 1) slot = false := inR_false hs
          have HS : Hid (sf xs slot [env, to] = 4) := by
            show sf xs slot [env, to] = 4
            rw [sf_ok HF.out, if_pos (by rw [EX.out]; omega)]
          clear hs
          go_enter Tryz.func162, Tryz.ntmps162
          go_wp2_with (first | (go_at_call 98; refine C.out.mono ?_; rintro e w' ⟨rfl, rfl⟩) | (go_at_call 93; refine (l1Env_any _ _).mono ?_; rintro e w' ⟨rfl, rfl⟩) | (go_at_call 94; refine (l1In_any _ _ _ _).mono ?_; rintro e w' ⟨rfl, rfl⟩))
          go_ret
          exact ⟨ret_i64 HS.out.symm, rfl⟩
      · have hit : inEnv to = false := inEnv_false ht
        have HS : Hid (sf xs slot [env, to] = 3) := by
          show sf xs slot [env, to] = 3
          have : ef xs [env, to] = 3 := by rw [ef_ok HV.out]; simp [hie, hit]
          rw [sf_fault (by omega), this]
        clear ht
        go_enter Tryz.func162, Tryz.ntmps162
        go_wp2_with (first | (go_at_call 98; refine C.out.mono ?_; rintro e w' ⟨rfl, rfl⟩) | (go_at_call 93; refine (l1Env_any _ _).mono ?_; rintro e w' ⟨rfl, rfl⟩))
        go_ret
        exact ⟨ret_i64 HS.out.symm, rfl⟩
    · have hie : inEnv env = false := inEnv_false he
      have HS : Hid (sf xs slot [env, to] = 3) := by
        show sf xs slot [env, to] = 3
        have : ef xs [env, to] = 3 := by rw [ef_ok HV.out]; simp [hie]
        rw [sf_fault (by omega), this]
      clear he
      go_enter Tryz.func162, Tryz.ntmps162
      go_wp2_with (first | (go_at_call 98; refine C.out.mono ?_; rintro e w' ⟨rfl, rfl⟩) | (go_at_call 93; refine (l1Env_any _ _).mono ?_; rintro e w' ⟨rfl, rfl⟩))
      go_ret
      exact ⟨ret_i64 HS.out.symm, rfl⟩
  · have hv' : (vf xs != 0) = true := by simp [hv]
    have HS : Hid (sf xs slot [env, to] = vf xs) := by
      show sf xs slot [env, to] = vf xs
      have : ef xs [env, to] = vf xs := ef_fault hv
      rw [sf_fault (by omega), this]
    clear hv
    go_enter Tryz.func162, Tryz.ntmps162
    go_wp2_with (go_at_call 98; refine C.out.mono ?_; rintro e w' ⟨rfl, rfl⟩)
    go_ret
    exact ⟨ret_i64 HS.out.symm, rfl⟩

end Go.Proofs.YtckapndpefkcgaaGreat
