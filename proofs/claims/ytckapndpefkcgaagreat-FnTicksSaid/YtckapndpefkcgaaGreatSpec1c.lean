/-
  The model's NewVector and DropSlots: each answers as Math1 says.
-/
import Derived.Test.YtckapndpefkcgaaGreatSpec1
set_option maxHeartbeats 1000000
namespace Go.Proofs.YtckapndpefkcgaaGreat
open Go.RowKit

theorem vals_rep (k : Nat) : vals (List.replicate k (-1)) ++ [.int .i64 (-1)] = vals (List.replicate (k + 1) (-1)) := by
  simp [vals, List.replicate_succ']

theorem specNewVector_any (m : Int) (w : World) :
    Calls Tryz.prog 96 #[.int .i64 m] w (Ans 2 (new1 m) w) := by
  by_cases hm : 1 ≤ m ∧ m ≤ 12
  · have hr : inR 1 12 m = true := inR_true hm
    obtain ⟨n, rfl⟩ : ∃ n : Nat, m = (n : Int) := ⟨m.toNat, by omega⟩
    have hn1 : 1 ≤ n := by omega
    have hn2 : n ≤ 12 := by omega
    obtain ⟨i0, hi0, hz0, hz1, hz2⟩ := info_parts Tryz.info_i64
    have own0 : Hid (((w.alloc (.cells #[.int .i64 0, .slice none 0 0] 49)).alloc (.cells #[] 2)).ownsRow (w.heap.size + 1) 2 1 (.slice (some ⟨w.heap.size + 1, 0, none⟩) 0 0) 0 []) :=
      ⟨rfl, .inr ⟨w.heap.size + 1, 0, #[], rfl, Nat.le_refl _, by have := heap_alloc_new (w.alloc (.cells #[.int .i64 0, .slice none 0 0] 49)) (.cells #[] 2); simpa using this, Nat.le_refl _, by simp [maxLen], rfl, rfl⟩⟩
    have b1 : Hid (Below (w.heap.size + 1) (w.alloc (.cells #[.int .i64 0, .slice none 0 0] 49)) ((w.alloc (.cells #[.int .i64 0, .slice none 0 0] 49)).alloc (.cells #[] 2))) := (Below.refl _ _).alloc (by simp) _
    clear hm
    go_enter Tryz.func96, Tryz.ntmps96
    go_wp2_with (go_at_call 94; refine (l1In_any _ _ _ _).mono ?_; rintro e w' ⟨rfl, rfl⟩)
    go_loopw [0, 3] (fun i v wr => ∃ k : Nat, k ≤ n ∧ i = .int .i64 ((n - k : Nat) : Int) ∧ wr.ownsRow (w.heap.size + 1) 2 1 v k (vals (List.replicate k (-1))) ∧ Below (w.heap.size + 1) (w.alloc (.cells #[.int .i64 0, .slice none 0 0] 49)) wr) (fun i _ _ => (intOf i).toNat)
    case atStart => exact ⟨0, Nat.zero_le _, rfl, own0.out, b1.out⟩
    case round =>
      obtain ⟨k, hk, rfl, hown, hb⟩ := hrel
      by_cases hlt : k < n
      · have HN : Hid (((n - k : Nat) : Int) - 1 = ((n - (k + 1) : Nat) : Int)) := by show _ = _; omega
        have hpos : (0 : Int) < ((n - k : Nat) : Int) := by omega
        have hle : ((n - k : Nat) : Int) ≤ 12 := by omega
        have HSZ : Hid (w.heap.size + 1 ≤ wr.heap.size) := by have := hb.size; simp at this; exact this
        have OW := Lib.hid (hown.alloc (.cells #[.int .i64 (-1)] 2))
        have HB := Lib.hid hb
        clear hown hb
        generalize hd : ((n - k : Nat) : Int) = d at *
        have HD := Lib.hid hd
        clear hd
        go_wp2_with (at_builtin; refine wpList_append_own _ rfl (.tmp 13) (.tmp 14) 35 rfl (w.heap.size + 1) 2 i0 (.int .i64 0) 1 8 Tryz.underlying35 hi0 hz0 hz1 hz2 rfl (by decide) _ k _ rfl OW.out ⟨wr.heap.size, 0, none⟩ 1 1 [.int .i64 (-1)] rfl rfl (cell_one_new _ _ _) (by intro u hu; simp at hu; subst hu; rfl) (by unfold maxLen; omega) (by omega) (by have := HSZ.out; simp; omega) ?_; intro v' w1 hown' hgrow' _; have HO := Lib.hid hown'; have HG := Lib.hid hgrow'; clear hown' hgrow')
        have hgr : (wr.alloc (.cells #[.int .i64 (-1)] 2)).grownBy w1 u3.ownBlock := HG.out
        have HB1 := Lib.hid (((HB.out.alloc HSZ.out _).grown hgr (by have := HSZ.out; simp; omega) (own_base OW.out)))
        clear hgr
        go_roundw
        case rel => exact ⟨k + 1, by omega, by rw [HN.out], by have := HO.out; rwa [vals_rep] at this, HB1.out⟩
        case measure => simp [intOf]; omega
      · have hkn : k = n := by omega
        subst hkn
        obtain ⟨A', c', rfl, _, hc', hm⟩ := mine_of_own hown
        have hc0 := Lib.hid hc'
        have hblk := (hb.block w.heap.size (by simp)).trans (heap_alloc_new w _)
        have q0 := cell_of_row _ _ 0 _ _ _ hblk
        have q1 := cell_of_row _ _ 1 _ _ _ hblk
        have f0 := frozen_of_row _ _ 0 _ _ hblk
        have f1 := frozen_of_row _ _ 1 _ _ hblk
        have hz : w.heap.size < wr.heap.size := by have := hb.size; simp at this; omega
        have HK := Lib.hid (blk2_set hblk (.int .i64 0) (.slice A' k c'))
        have HM := Lib.hid hm
        have HB := Lib.hid ((below_new w _).trans (hb.mono (by simp)))
        have e0 : ((k - k : Nat) : Int) = 0 := by omega
        rw [e0]
        clear hm hb hown hblk own0 b1 e0 hc' hi0 hz0 hz1 hz2
        simp at q0 q1
        go_wp2
        refine bodyPost_ret (results_cell_row rfl _ _ w.heap.size _ _ _ _ rfl HK.out Tryz.underlying49 rfl (by kernel_rfl)) rfl ?_
        refine ans_ok (ys := List.replicate k (-1)) ?_ HB.out (by simp) hc0.out HM.out (fun j hj => vals_getD _ j (by simpa using hj)) _ _
        unfold new1
        rw [if_neg (by omega)]
        simp
  · have hr : inR 1 12 m = false := inR_false hm
    have HM := Lib.hid hm
    clear hm
    go_enter Tryz.func96, Tryz.ntmps96
    go_wp2_with (go_at_call 94; refine (l1In_any _ _ _ _).mono ?_; rintro e w' ⟨rfl, rfl⟩)
    go_returns
    refine ans_code (by unfold new1; rw [if_pos (by have := HM.out; omega)]) ?_
    exact (Below.refl _ _).alloc (Nat.le_refl _) _

theorem gi_map (xs : List Int) (f : Int → Int) (k : Nat) (h : k < xs.length) : gi (xs.map f) k = f (gi xs k) := by
  rw [gi_lt _ k (by simpa using h), gi_lt xs k h]; simp

theorem specDropSlots_any (lo hi : Nat) (A : Option Addr) (n c : Nat) (xs : List Int) (env : Int) (w : World) (hn : n * 8 ≤ 140737488351232) (ex : xs.length = n) (hA : A = none → c = 0) (h : Sl w lo hi A n (fun k => .int .i64 (gi xs k))) :
    Calls Tryz.prog 130 #[.slice A n c, .int .i64 env] w (Ans 2 (drop1 xs env) w) := by
  have H : Hid (Sl (w.alloc (.cells #[.int .i64 0, .slice none 0 0] 49)) lo (min hi w.heap.size) A n (fun k => .int .i64 (gi xs k))) := h.lt.below (below_new w _) (by omega)
  have EX := Lib.hid ex
  have b0 : Hid (Below w.heap.size w (w.alloc (.cells #[.int .i64 0, .slice none 0 0] 49))) := below_new w _
  have C := Lib.hid (l1Asked_any lo (min hi w.heap.size) A n c xs env env 0 (w.alloc (.cells #[.int .i64 0, .slice none 0 0] 49)) hn ex H.out)
  have CI := Lib.hid (l1Ints_any lo (min hi w.heap.size) A n c xs (w.alloc (.cells #[.int .i64 0, .slice none 0 0] 49)) hn ex hA H.out)
  clear h ex hA
  by_cases hs : sf xs 0 [env, env] = 0
  · have hs' : (sf xs 0 [env, env] != 0) = false := by simp [hs]
    have HS : Hid (drop1 xs env = (0, xs.map fun x => if x = env then -1 else x)) := by
      show drop1 xs env = _
      rw [sf_at0] at hs
      unfold drop1
      rw [if_neg (by simp [hs])]
    clear hs
    go_enter Tryz.func130, Tryz.ntmps130
    go_wp2_with (first | (go_at_call 162; refine C.out.mono ?_; rintro e w' ⟨rfl, rfl⟩) | fail)
    refine CI.out.mono ?_
    rintro e w1 ⟨A', c', rfl, hc', hm, hb⟩
    have hsz : w.heap.size + 1 ≤ w1.heap.size := by have := hb.size; simp at this; omega
    have HC := Lib.hid hc'
    have HM := Lib.hid hm
    have HB := Lib.hid hb
    clear hm hb hc' C CI H
    go_wp2
    go_loopw [20] (fun i wr => ∃ k : Nat, k ≤ n ∧ i = .int .i64 k ∧ Mine wr (w.heap.size + 1) w1.heap.size 2 A' n (fun j => .int .i64 (if j < k then (if gi xs j = env then -1 else gi xs j) else gi xs j)) ∧ Below (w.heap.size + 1) (w.alloc (.cells #[.int .i64 0, .slice none 0 0] 49)) wr ∧ w1.heap.size = wr.heap.size) (fun i _ => n - (intOf i).toNat)
    case atStart => exact ⟨0, Nat.zero_le _, rfl, (by simpa using HM.out), (by simpa using HB.out), rfl⟩
    case round =>
      obtain ⟨k, hk, rfl, hmine, hb, hsw⟩ := hrel
      by_cases hlt : k < n
      · rcases hmine with h0 | ⟨g, off, rfl, h1, h2, hrow⟩
        · omega
        have hco := hrow.cell hlt
        simp only [Nat.lt_irrefl, if_false] at hco
        have hfo := hrow.frozen (off + k)
        have HSW := Lib.hid hsw
        clear hsw
        by_cases he : gi xs k = env
        · have hq : (gi xs k == env) = true := by simp [he]
          have HR := Lib.hid (hrow.set hlt (.int .i64 (-1)))
          have HB1 := Lib.hid (hb.setCell (p := ⟨g, off + k, none⟩) h1 (.int .i64 (-1)))
          have HE := Lib.hid he
          clear hrow hb he HM HB
          go_wp2
          go_roundw
          case rel =>
            refine ⟨k + 1, by omega, by go_num, .inr ⟨g, off, rfl, h1, h2, HR.out.congr fun j hj => ?_⟩, HB1.out, by have := HSW.out; simp [World.setCell]; exact this⟩
            by_cases e : j = k
            · subst e
              rw [if_pos rfl, if_pos (by omega), if_pos HE.out]
            · rw [if_neg e]
              by_cases e2 : j < k
              · have e3 : j < k + 1 := by omega
                simp only [if_pos e2, if_pos e3]
              · have e3 : ¬ j < k + 1 := by omega
                simp only [if_neg e2, if_neg e3]
          case measure => simp [intOf]; omega
        · have hq : (gi xs k == env) = false := by simp [he]
          have HR := Lib.hid hrow
          have HB1 := Lib.hid hb
          have HE := Lib.hid he
          clear hrow hb he HM HB
          go_wp2
          go_roundw
          case rel =>
            refine ⟨k + 1, by omega, by go_num, .inr ⟨g, off, rfl, h1, h2, HR.out.congr fun j hj => ?_⟩, HB1.out, HSW.out⟩
            by_cases e : j = k
            · subst e
              rw [if_neg (by omega), if_pos (by omega), if_neg HE.out]
            · by_cases e2 : j < k
              · have e3 : j < k + 1 := by omega
                simp only [if_pos e2, if_pos e3]
              · have e3 : ¬ j < k + 1 := by omega
                simp only [if_neg e2, if_neg e3]
          case measure => simp [intOf]; omega
      · have hkn : k = n := by omega
        subst hkn
        have hblk := (hb.block w.heap.size (by simp)).trans (heap_alloc_new w _)
        have q0 := cell_of_row _ _ 0 _ _ _ hblk
        have q1 := cell_of_row _ _ 1 _ _ _ hblk
        have f0 := frozen_of_row _ _ 0 _ _ hblk
        have f1 := frozen_of_row _ _ 1 _ _ hblk
        have hz : w.heap.size < wr.heap.size := by have := hb.size; simp at this; omega
        have HK := Lib.hid (blk2_set hblk (.int .i64 0) (.slice A' k c'))
        have HM1 := Lib.hid hmine
        have HB1 := Lib.hid (b0.out.trans (hb.mono (by simp)))
        have HSW := Lib.hid hsw
        clear hmine hb hblk hsw HM HB b0
        simp at q0 q1
        go_wp2
        refine bodyPost_ret (results_cell_row rfl _ _ w.heap.size _ _ _ _ rfl HK.out Tryz.underlying49 rfl (by kernel_rfl)) rfl ?_
        refine ans_ok (ys := xs.map fun x => if x = env then -1 else x) HS.out HB1.out (by simp [EX.out]) HC.out (by have := HM1.out; rwa [HSW.out] at this) (fun j hj => ?_) _ _
        rw [gi_map _ _ _ (by rw [EX.out]; exact hj), if_pos hj]
  · have hs' : (sf xs 0 [env, env] != 0) = true := by simp [hs]
    have HS : Hid (drop1 xs env = (sf xs 0 [env, env], [])) := by
      show drop1 xs env = _
      rw [sf_at0] at hs ⊢
      unfold drop1
      rw [if_pos hs]
    clear hs
    go_enter Tryz.func130, Tryz.ntmps130
    go_wp2_with (go_at_call 162; refine C.out.mono ?_; rintro e w' ⟨rfl, rfl⟩)
    go_returns
    exact ans_code HS.out ((Below.refl _ _).alloc (Nat.le_refl _) _)

end Go.Proofs.YtckapndpefkcgaaGreat
