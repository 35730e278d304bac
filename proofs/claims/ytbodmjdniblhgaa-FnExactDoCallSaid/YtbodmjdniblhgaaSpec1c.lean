/-
  The model's NewVector and DropSlots: each answers as Math1 says.
-/
import Derived.Test.YtbodmjdniblhgaaSpec1
namespace Go.Proofs.Ytbodmjdniblhgaa
open Go.RowKit

theorem vals_rep (k : Nat) : vals (List.replicate k (-1)) ++ [.int .i64 (-1)] = vals (List.replicate (k + 1) (-1)) := by
  simp [vals, List.replicate_succ']

theorem gi_map (xs : List Int) (f : Int → Int) (k : Nat) (h : k < xs.length) : gi (xs.map f) k = f (gi xs k) := by
  rw [gi_lt _ k (by simpa using h), gi_lt xs k h]; simp

theorem specDropSlots_any (lo hi : Nat) (A : Option Addr) (n c : Nat) (xs : List Int) (env : Int) (w : World) (hn : n * 8 ≤ 140737488351232) (ex : xs.length = n) (hA : A = none → c = 0) (h : Sl w lo hi A n (fun k => .int .i64 (gi xs k))) :
    Calls Try.prog 45 #[.slice A n c, .int .i64 env] w (Ans 2 (drop1 xs env) w) := by
  have H : Hid (Sl (w.alloc (.cells #[.int .i64 0, .slice none 0 0] 80)) lo (min hi w.heap.size) A n (fun k => .int .i64 (gi xs k))) := h.lt.below (below_new w _) (by omega)
  have EX := Lib.hid ex
  have b0 : Hid (Below w.heap.size w (w.alloc (.cells #[.int .i64 0, .slice none 0 0] 80))) := below_new w _
  have C := Lib.hid (l1Asked_any lo (min hi w.heap.size) A n c xs env env 0 (w.alloc (.cells #[.int .i64 0, .slice none 0 0] 80)) hn ex H.out)
  have CI := Lib.hid (l1Ints_any lo (min hi w.heap.size) A n c xs (w.alloc (.cells #[.int .i64 0, .slice none 0 0] 80)) hn ex hA H.out)
  clear h ex hA
  by_cases hs : sf xs 0 [env, env] = 0
  · have hs' : (sf xs 0 [env, env] != 0) = false := by simp [hs]
    have HS : Hid (drop1 xs env = (0, xs.map fun x => if x = env then -1 else x)) := by
      show drop1 xs env = _
      rw [sf_at0] at hs
      unfold drop1
      rw [if_neg (by simp [hs])]
    clear hs
    go_enter Try.func45, Try.ntmps45
    go_wp2_with (first | (go_at_call 68; refine C.out.mono ?_; rintro e w' ⟨rfl, rfl⟩) | fail)
    refine CI.out.mono ?_
    rintro e w1 ⟨A', c', rfl, hc', hm, hb⟩
    have hsz : w.heap.size + 1 ≤ w1.heap.size := by have := hb.size; simp at this; omega
    have HC := Lib.hid hc'
    have HM := Lib.hid hm
    have HB := Lib.hid hb
    clear hm hb hc' C CI H
    go_wp2
    go_loopw [20] (fun i wr => ∃ k : Nat, k ≤ n ∧ i = .int .i64 k ∧ Mine wr (w.heap.size + 1) w1.heap.size 2 A' n (fun j => .int .i64 (if j < k then (if gi xs j = env then -1 else gi xs j) else gi xs j)) ∧ Below (w.heap.size + 1) (w.alloc (.cells #[.int .i64 0, .slice none 0 0] 80)) wr ∧ w1.heap.size = wr.heap.size) (fun i _ => n - (intOf i).toNat)
    case atStart => exact ⟨0, Nat.zero_le _, rfl, (by simpa using HM.out), (by simpa using HB.out), rfl⟩
    case round =>
      obtain ⟨k, hk, rfl, hmine, hb, hsw⟩ := hrel
      by_cases hlt : k < n
      · rcases hmine with h0 | ⟨g, off, rfl, h1, h2, hrow⟩
        · omega
        have hco := hrow.cell hlt
        simp only [Nat.lt_irrefl, if_false] at hco
        have hfo := hrow.frozen (off + k)
        have HSW := Lib.hid hsw
        clear hsw
        by_cases he : gi xs k = env
        · have hq : (gi xs k == env) = true := by simp [he]
          have HR := Lib.hid (hrow.set hlt (.int .i64 (-1)))
          have HB1 := Lib.hid (hb.setCell (p := ⟨g, off + k, none⟩) h1 (.int .i64 (-1)))
          have HE := Lib.hid he
          clear hrow hb he HM HB
          go_wp2
          go_roundw
          case rel =>
            refine ⟨k + 1, by omega, by go_num, .inr ⟨g, off, rfl, h1, h2, HR.out.congr fun j hj => ?_⟩, HB1.out, by have := HSW.out; simp [World.setCell]; exact this⟩
            by_cases e : j = k
            · subst e
              rw [if_pos rfl, if_pos (by omega), if_pos HE.out]
            · rw [if_neg e]
              by_cases e2 : j < k
              · have e3 : j < k + 1 := by omega
                simp only [if_pos e2, if_pos e3]
              · have e3 : ¬ j < k + 1 := by omega
                simp only [if_neg e2, if_neg e3]
          case measure => simp [intOf]; omega
        · have hq : (gi xs k == env) = false := by simp [he]
          have HR := Lib.hid hrow
          have HB1 := Lib.hid hb
          have HE := Lib.hid he
          clear hrow hb he HM HB
          go_wp2
          go_roundw
          case rel =>
            refine ⟨k + 1, by omega, by go_num, .inr ⟨g, off, rfl, h1, h2, HR.out.congr fun j hj => ?_⟩, HB1.out, HSW.out⟩
            by_cases e : j = k
            · subst e
              rw [if_neg (by omega), if_pos (by omega), if_neg HE.out]
            · by_cases e2 : j < k
              · have e3 : j < k + 1 := by omega
                simp only [if_pos e2, if_pos e3]
              · have e3 : ¬ j < k + 1 := by omega
                simp only [if_neg e2, if_neg e3]
          case measure => simp [intOf]; omega
      · have hkn : k = n := by omega
        subst hkn
        have hblk := (hb.block w.heap.size (by simp)).trans (heap_alloc_new w _)
        have q0 := cell_of_row _ _ 0 _ _ _ hblk
        have q1 := cell_of_row _ _ 1 _ _ _ hblk
        have f0 := frozen_of_row _ _ 0 _ _ hblk
        have f1 := frozen_of_row _ _ 1 _ _ hblk
        have hz : w.heap.size < wr.heap.size := by have := hb.size; simp at this; omega
        have HK := Lib.hid (blk2_set hblk (.int .i64 0) (.slice A' k c'))
        have HM1 := Lib.hid hmine
        have HB1 := Lib.hid (b0.out.trans (hb.mono (by simp)))
        have HSW := Lib.hid hsw
        clear hmine hb hblk hsw HM HB b0
        simp at q0 q1
        go_wp2
        refine bodyPost_ret (results_cell_row rfl _ _ w.heap.size _ _ _ _ rfl HK.out Try.underlying80 rfl (by kernel_rfl)) rfl ?_
        refine ans_ok (ys := xs.map fun x => if x = env then -1 else x) HS.out HB1.out (by simp [EX.out]) HC.out (by have := HM1.out; rwa [HSW.out] at this) (fun j hj => ?_) _ _
        rw [gi_map _ _ _ (by rw [EX.out]; exact hj), if_pos hj]
  · have hs' : (sf xs 0 [env, env] != 0) = true := by simp [hs]
    have HS : Hid (drop1 xs env = (sf xs 0 [env, env], [])) := by
      show drop1 xs env = _
      rw [sf_at0] at hs ⊢
      unfold drop1
      rw [if_pos hs]
    clear hs
    go_enter Try.func45, Try.ntmps45
    go_wp2_with (go_at_call 68; refine C.out.mono ?_; rintro e w' ⟨rfl, rfl⟩)
    go_returns
    exact ans_code HS.out ((Below.refl _ _).alloc (Nat.le_refl _) _)

end Go.Proofs.Ytbodmjdniblhgaa
