/-
  The events of chapter 3 are drawn: a list of one's own. For codes of at most 2^20 bytes.
-/
import Derived.Test.YtckapndpefkcgaaGreatDrawB3
import Derived.Test.YtckapndpefkcgaaGreatSpec3w
set_option maxHeartbeats 1000000
namespace Go.Proofs.YtckapndpefkcgaaGreat
open Go.RowKit
set_option maxRecDepth 100000

theorem Tryz.info_EventD : (Tryz.prog.info? 57).map (fun i => (i.zero, i.size, i.bytes)) = some (some (.agg #[.int .i64 0, .int .i64 0, .int .i64 0, .int .i64 0, .int .i64 0, .int .i64 0, .int .i64 0]), 7, 56) := by kernel_rfl
theorem list_new3 (W : World) (l : List Value) (t : TypeId) : ∀ j u, l[j]? = some u → (W.alloc (.cells l.toArray t)).cell? ((⟨W.heap.size, 0, none⟩ : Addr).add j) = some u := by
  intro j u hu
  rw [Go.WideShapes.add_plain]
  have h := cell_of_row (W.alloc (.cells l.toArray t)) W.heap.size (0 + j) _ _ _ (heap_alloc_new W _)
  rw [h]
  simpa using hu
structure EL (w W : World) (g : Nat) (A : Option Addr) (k c a : Nat) (B : Option Addr) (n c' : Nat) (xs : List Int) : Prop where
  ow : OR 57 7 W w.heap.size B n c' xs
  sr : Src W g A k c a
  on : Only g (g + 1) w W
  gw : g < w.heap.size
section
variable {w W W' : World} {g k c a a' n c' : Nat} {A B : Option Addr} {xs : List Int}
theorem EL.size (h : EL w W g A k c a B n c' xs) : w.heap.size ≤ W.heap.size := h.on.1.size
theorem EL.step (h : EL w W g A k c a B n c' xs) (hs : Src W' g A k c a') (ho : Only g (g + 1) W W') : EL w W' g A k c a' B n c' xs :=
  ⟨h.ow.keepAll fun b e => by
    subst e
    have hl := h.ow.lt
    exact ho.2 b (by have := h.gw; omega) hl.2, hs, h.on.trans ho, h.gw⟩
theorem EL.app (h : EL w W g A k c a B n c' xs) (e0 e1 e2 e3 e4 e5 e6 : Int) {V : World} {v : Value} (hown : V.ownsRow w.heap.size 57 7 v (n + 1) (vals xs ++ [.int .i64 e0, .int .i64 e1, .int .i64 e2, .int .i64 e3, .int .i64 e4, .int .i64 e5, .int .i64 e6]))
    (hg : (W.alloc (.cells #[.int .i64 e0, .int .i64 e1, .int .i64 e2, .int .i64 e3, .int .i64 e4, .int .i64 e5, .int .i64 e6] 57)).grownBy V (Value.slice B n c').ownBlock) : ∃ B' d, v = .slice B' (n + 1) d ∧ EL w V g A k c a B' (n + 1) d (xs ++ [e0, e1, e2, e3, e4, e5, e6]) := by
  rw [show vals xs ++ [.int .i64 e0, .int .i64 e1, .int .i64 e2, .int .i64 e3, .int .i64 e4, .int .i64 e5, .int .i64 e6] = vals (xs ++ [e0, e1, e2, e3, e4, e5, e6]) by simp [vals]] at hown
  obtain ⟨B', d, rfl, ho⟩ := or_of3 hown
  have ob := own_base (OR.alloc h.ow (.cells #[.int .i64 e0, .int .i64 e1, .int .i64 e2, .int .i64 e3, .int .i64 e4, .int .i64 e5, .int .i64 e6] 57))
  exact ⟨B', d, rfl, ho, (h.sr.alloc _).grown hg (fun q hq => by have := ob q hq; have := h.gw; omega), (h.on.alloc (by have := h.gw; omega) _).grown hg (by have := h.gw; omega) ob, h.gw⟩
end
def EvsD (m g : Nat) (A : Option Addr) (k c a s : Nat) (w : World) (e : Ending) (w' : World) : Prop :=
  ∃ B n c' xs a', e = .returned (.slice B n c') ∧ n ≤ m ∧ a' ≤ a + s ∧ EL w w' g A k c a' B n c' xs

set_option maxHeartbeats 20000000 in
theorem l3Events_any (lo hi g : Nat) (A : Option Addr) (k c a : Nat) (b : Nat → Int) (S N : Nat) (w : World) (hk : k ≤ 1048576) (ha : a ≤ 1000000) (hS : S ≤ 12) (hN : N ≤ 300)
    (hb : ∀ j, 0 ≤ b j ∧ b j ≤ 255) (h : Sl w lo hi A k (fun j => .int .u8 (b j))) (hg : hi ≤ g) (hs : Src w g A k c a) :
    Calls Tryz.prog 103 #[.pointer (some ⟨g, 0, none⟩), .int .i64 (S : Int), .int .i64 (N : Int)] w (EvsD (15 + N) g A k c a 2000 w) := by
  obtain ⟨i0, hi0, hz0, hz1, hz2⟩ := info_parts Tryz.info_EventD
  have hgw := hs.lt
  have H := Lib.hid h
  have HBY := Lib.hid hb
  have CD : Hid (∀ W, Only g (g + 1) w W → Sl W lo (min hi w.heap.size) A k (fun j => .int .u8 (b j))) := fun W hW => H.out.lt.only hW (by omega) (.inl (by omega))
  obtain ⟨w1, hw1⟩ : ∃ w1, w1 = w.alloc (.cells #[] 57) := ⟨_, rfl⟩
  obtain ⟨B0, hB0⟩ : ∃ B0 : Option Addr, B0 = some ⟨w.heap.size, 0, none⟩ := ⟨_, rfl⟩
  have J1 : Hid (EL w w1 g A k c a B0 0 0 []) := by
    rw [hw1, hB0]
    exact ⟨OR.empty w (Nat.le_refl _), hs.alloc _, (Only.refl _ _ _).alloc (by omega) _, hgw⟩
  have HW1 := Lib.hid hw1
  have HB0 := Lib.hid hB0
  clear h hb hs hw1 hB0
  go_enter Tryz.func103, Tryz.ntmps103
  go_upto_region 2 with (fail)
  rw [← HW1.out, ← HB0.out]
  clear HW1 HB0
  have CH := Lib.hid (l1Chance_any lo (min hi w.heap.size) g A k c (a) 6 b w1 (by omega) hk (by omega) HBY.out (CD.out w1 J1.out.on) (by omega) J1.out.sr)
  go_wp2_with fail
  refine CH.out.mono ?_
  rintro e w2 ⟨y, rfl, hs, ho⟩
  have J2 := Lib.hid (J1.out.step hs ho)
  clear hs ho CH
  clear J1
  rcases y with _ | _
  · go_wp2_with fail
    go_loopw [8, 7] (fun i v wr => ∃ (j c' : Nat) (B : Option Addr) (xs : List Int), j ≤ 3 ∧ i = .int .i64 (j : Int) ∧ v = .slice B j c' ∧ EL w wr g A k c (a + 1) B j c' xs) (fun i _ _ => 3 - (intOf i).toNat)
    case atStart => exact ⟨0, 0, B0, [], Nat.zero_le _, rfl, rfl, J2.out⟩
    case round =>
      obtain ⟨j, c', B, xs, hj, rfl, rfl, hJ⟩ := hrel
      have J := Lib.hid hJ
      clear hJ J2
      by_cases hlt : j < 3
      · have h3 : (j : Int) < 3 := by omega
        have h0 : (0 : Int) ≤ (j : Int) := by omega
        have LN : Hid (j ≤ 400) := by show _ ≤ _; omega
        have NW := Lib.hid (list_new3 wr [.int .i64 2, .int .i64 0, .int .i64 0, .int .i64 1, .int .i64 (j : Int), .int .i64 0, .int .i64 0] 57)
        have O6 := Lib.hid (OR.alloc J.out.ow (.cells #[.int .i64 2, .int .i64 0, .int .i64 0, .int .i64 1, .int .i64 (j : Int), .int .i64 0, .int .i64 0] 57))
        have Z6 : Hid (w.heap.size ≤ (wr.alloc (.cells #[.int .i64 2, .int .i64 0, .int .i64 0, .int .i64 1, .int .i64 (j : Int), .int .i64 0, .int .i64 0] 57)).heap.size) := by show _ ≤ _; have := J.out.size; simp; omega
        go_wp2_with (at_builtin; refine wpList_append_own _ rfl (.tmp 19) (.tmp 23) 24 rfl w.heap.size 57 i0 (.agg #[.int .i64 0, .int .i64 0, .int .i64 0, .int .i64 0, .int .i64 0, .int .i64 0, .int .i64 0]) 7 56 Tryz.underlying24 hi0 hz0 hz1 hz2 rfl (by decide) (.slice B j c') j (vals xs) rfl O6.out ⟨wr.heap.size, 0, none⟩ 1 1 [.int .i64 2, .int .i64 0, .int .i64 0, .int .i64 1, .int .i64 (j : Int), .int .i64 0, .int .i64 0] rfl rfl NW.out (by simp [Value.oneCell']) (by have := LN.out; unfold maxLen; omega) (by have := LN.out; omega) Z6.out ?_; intro v7 w7 hown hgrow hat; obtain ⟨I7, d7, rfl, hJ7⟩ := J.out.app (2) (0) (0) (1) ((j : Int)) (0) (0) hown hgrow; have J8 := Lib.hid hJ7; clear hown hgrow hat hJ7)
        go_roundw
        case rel => exact ⟨j + 1, d7, I7, _, by omega, by rw [show ((j + 1 : Nat) : Int) = (j : Int) + 1 by omega], rfl, J8.out⟩
        case measure => simp [intOf]; omega
      · have hj3 : j = 3 := by omega
        have e3 : (j : Int) = 3 := by omega
        rw [e3]
        clear e3
        subst hj3
        go_wp2_with fail
        go_loopw [9, 7] (fun i v wr => ∃ (j n' c' a' : Nat) (B : Option Addr) (xs : List Int), j ≤ S ∧ i = .int .i64 (j : Int) ∧ v = .slice B n' c' ∧ n' ≤ 3 + j ∧ a' ≤ a + 1 + j * 2 ∧ EL w wr g A k c a' B n' c' xs) (fun i _ _ => S - (intOf i).toNat)
        case atStart => exact ⟨0, 3, c', a + 1, B, xs, Nat.zero_le _, rfl, rfl, by omega, by omega, J.out⟩
        case round =>
          clear J
          obtain ⟨j, n', c', a', B, xs, hj, rfl, rfl, hn', ha', hJ⟩ := hrel
          have J := Lib.hid hJ
          clear hJ
          by_cases hlt : j < S
          · have h3 : (j : Int) < (S : Int) := by omega
            have h0 : (0 : Int) ≤ (j : Int) := by omega
            have h12 : (S : Int) ≤ 12 := by omega
            have LN : Hid (n' ≤ 400) := by show _ ≤ _; omega
            have CH := Lib.hid (l1Chance_any lo (min hi w.heap.size) g A k c (a') 5 b wr (by omega) hk (by omega) HBY.out (CD.out wr J.out.on) (by omega) J.out.sr)
            go_wp2_with fail
            refine CH.out.mono ?_
            rintro e w6 ⟨y6, rfl, hs, ho⟩
            have J6 := Lib.hid (J.out.step hs ho)
            clear hs ho CH
            rcases y6 with _ | _
            · have CN := Lib.hid (l1Next_any lo (min hi w.heap.size) g A k c (a' + 1) 3 b w6 (by omega) hk (by omega) HBY.out (CD.out w6 J6.out.on) (by omega) J6.out.sr)
              go_wp2_with fail
              refine CN.out.mono ?_
              rintro e wa ⟨x, rfl, _, _, hs, ho⟩
              have J7 := Lib.hid (J6.out.step hs ho)
              clear hs ho CN J6 J
              have NW := Lib.hid (list_new3 wa [.int .i64 2, .int .i64 0, .int .i64 0, .int .i64 3, .int .i64 (x : Int), .int .i64 (j : Int), .int .i64 0] 57)
              have O6 := Lib.hid (OR.alloc J7.out.ow (.cells #[.int .i64 2, .int .i64 0, .int .i64 0, .int .i64 3, .int .i64 (x : Int), .int .i64 (j : Int), .int .i64 0] 57))
              have Z6 : Hid (w.heap.size ≤ (wa.alloc (.cells #[.int .i64 2, .int .i64 0, .int .i64 0, .int .i64 3, .int .i64 (x : Int), .int .i64 (j : Int), .int .i64 0] 57)).heap.size) := by show _ ≤ _; have := J7.out.size; simp; omega
              go_wp2_with (at_builtin; refine wpList_append_own _ rfl (.tmp 33) (.tmp 39) 24 rfl w.heap.size 57 i0 (.agg #[.int .i64 0, .int .i64 0, .int .i64 0, .int .i64 0, .int .i64 0, .int .i64 0, .int .i64 0]) 7 56 Tryz.underlying24 hi0 hz0 hz1 hz2 rfl (by decide) (.slice B n' c') n' (vals xs) rfl O6.out ⟨wa.heap.size, 0, none⟩ 1 1 [.int .i64 2, .int .i64 0, .int .i64 0, .int .i64 3, .int .i64 (x : Int), .int .i64 (j : Int), .int .i64 0] rfl rfl NW.out (by simp [Value.oneCell']) (by have := LN.out; unfold maxLen; omega) (by have := LN.out; omega) Z6.out ?_; intro v7 w7 hown hgrow hat; obtain ⟨I7, d7, rfl, hJ7⟩ := J7.out.app (2) (0) (0) (3) ((x : Int)) ((j : Int)) (0) hown hgrow; have J8 := Lib.hid hJ7; clear hown hgrow hat hJ7)
              go_roundw
              case rel => exact ⟨j + 1, n' + 1, d7, a' + 1 + 1, I7, _, by omega, by rw [show ((j + 1 : Nat) : Int) = (j : Int) + 1 by omega], rfl, by omega, by omega, J8.out⟩
              case measure => simp [intOf]; omega
            · go_wp2
              go_roundw
              case rel => exact ⟨j + 1, n', c', a' + 1, B, xs, by omega, by rw [show ((j + 1 : Nat) : Int) = (j : Int) + 1 by omega], rfl, by omega, by omega, J6.out⟩
              case measure => simp [intOf]; omega
          · have hjS : j = S := by omega
            have hjS := hjS.symm
            subst hjS
            obtain ⟨n3, hn3⟩ : ∃ n3, n3 = n' := ⟨_, rfl⟩
            obtain ⟨a3, ha3⟩ : ∃ a3, a3 = a' := ⟨_, rfl⟩
            have hn4 : n3 ≤ 15 := by omega
            have ha4 : a3 ≤ a + 25 := by omega
            subst hn3 ha3
            clear hn' ha' hj hlt
            have CP := Lib.hid (pick_lit lo (min hi w.heap.size) g A k c (a3) 3 2 #[.int .i64 10, .int .i64 40, .int .i64 200] b [10, 40, 200] wr hk (by omega) HBY.out (CD.out wr J.out.on) (by omega) J.out.sr rfl (by omega) (by omega) (fun q hq => by rcases (show q = 0 ∨ q = 1 ∨ q = 2 by omega) with rfl | rfl | rfl <;> rfl))
            go_wp2_with fail
            refine CP.out.mono ?_
            rintro e w5 ⟨r9, hr9, rfl, hs, ho, _⟩
            have hrare : 0 ≤ gi [10, 40, 200] r9 ∧ gi [10, 40, 200] r9 ≤ 200 := by rcases (show r9 = 0 ∨ r9 = 1 ∨ r9 = 2 by omega) with rfl | rfl | rfl <;> decide
            generalize gi [10, 40, 200] r9 = rare at *
            have J5 := Lib.hid (J.out.step hs ho)
            clear hs ho CP J hr9
            go_wp2_with fail
            go_loopw [2, 7] (fun i v wr => ∃ (j n' c' a' : Nat) (B : Option Addr) (xs : List Int), j ≤ N ∧ i = .int .i64 ((N - j : Nat) : Int) ∧ v = .slice B n' c' ∧ n' ≤ n3 + j ∧ a' ≤ a3 + 1 + j * 5 ∧ EL w wr g A k c a' B n' c' xs) (fun i _ _ => (intOf i).toNat)
            case atStart => exact ⟨0, n3, c', a3 + 1, B, xs, Nat.zero_le _, rfl, rfl, by omega, by omega, J5.out⟩
            case round =>
              obtain ⟨j, n', c', a', B, xs, hj, rfl, rfl, hn', ha', hJ⟩ := hrel
              have J := Lib.hid hJ
              clear hJ J5
              by_cases hlt : j < N
              · have HD1 : Hid (((N - j : Nat) : Int) - 1 = ((N - (j + 1) : Nat) : Int)) := by show _ = _; omega
                have hpos : (0 : Int) < ((N - j : Nat) : Int) := by omega
                have hle : ((N - j : Nat) : Int) ≤ 300 := by omega
                have LN : Hid (n' ≤ 400) := by show _ ≤ _; omega
                have hme : (((N - j : Nat) : Int)).toNat = N - j := by omega
                generalize hd : ((N - j : Nat) : Int) = d at *
                have HD := Lib.hid hd
                clear hd
                have CH := Lib.hid (l1Chance_any lo (min hi w.heap.size) g A k c (a') rare b wr (by omega) hk (by omega) HBY.out (CD.out wr J.out.on) (by omega) J.out.sr)
                go_wp2_with fail
                refine CH.out.mono ?_
                rintro e w6 ⟨y6, rfl, hs, ho⟩
                have J6 := Lib.hid (J.out.step hs ho)
                clear hs ho CH
                rcases y6 with _ | _
                · have CA := Lib.hid (l3DrawAct_any lo (min hi w.heap.size) g A k c (a' + 1) b w6 hk (by omega) HBY.out (CD.out w6 J6.out.on) (by omega) J6.out.sr)
                  go_wp2_with fail
                  refine CA.out.mono ?_
                  rintro e wa ⟨x, y7, a7, rfl, _, _, ha7, hs, ho⟩
                  have J7 := Lib.hid (J6.out.step hs ho)
                  clear hs ho CA J6 J
                  have NW := Lib.hid (list_new3 wa [.int .i64 1, .int .i64 x, .int .i64 y7, .int .i64 0, .int .i64 0, .int .i64 0, .int .i64 0] 57)
                  have O6 := Lib.hid (OR.alloc J7.out.ow (.cells #[.int .i64 1, .int .i64 x, .int .i64 y7, .int .i64 0, .int .i64 0, .int .i64 0, .int .i64 0] 57))
                  have Z6 : Hid (w.heap.size ≤ (wa.alloc (.cells #[.int .i64 1, .int .i64 x, .int .i64 y7, .int .i64 0, .int .i64 0, .int .i64 0, .int .i64 0] 57)).heap.size) := by show _ ≤ _; have := J7.out.size; simp; omega
                  go_wp2_with (at_builtin; refine wpList_append_own _ rfl (.tmp 58) (.tmp 62) 24 rfl w.heap.size 57 i0 (.agg #[.int .i64 0, .int .i64 0, .int .i64 0, .int .i64 0, .int .i64 0, .int .i64 0, .int .i64 0]) 7 56 Tryz.underlying24 hi0 hz0 hz1 hz2 rfl (by decide) (.slice B n' c') n' (vals xs) rfl O6.out ⟨wa.heap.size, 0, none⟩ 1 1 [.int .i64 1, .int .i64 x, .int .i64 y7, .int .i64 0, .int .i64 0, .int .i64 0, .int .i64 0] rfl rfl NW.out (by simp [Value.oneCell']) (by have := LN.out; unfold maxLen; omega) (by have := LN.out; omega) Z6.out ?_; intro v7 w7 hown hgrow hat; obtain ⟨I7, d7, rfl, hJ7⟩ := J7.out.app (1) (x) (y7) (0) (0) (0) (0) hown hgrow; have J8 := Lib.hid hJ7; clear hown hgrow hat hJ7)
                  go_roundw
                  case rel => exact ⟨j + 1, n' + 1, d7, a7, I7, _, by omega, by rw [HD1.out], rfl, by omega, by omega, J8.out⟩
                  case measure => have := HD1.out; simp [intOf]; omega
                · have CA := Lib.hid (l3DrawCall_any lo (min hi w.heap.size) g A k c (a' + 1) b (S : Int) w6 hk (by omega) HBY.out (CD.out w6 J6.out.on) (by omega) J6.out.sr (by omega))
                  go_wp2_with fail
                  refine CA.out.mono ?_
                  rintro e wa ⟨x0, x1, x2, x3, a7, rfl, ha7, hs, ho⟩
                  have J7 := Lib.hid (J6.out.step hs ho)
                  clear hs ho CA J6 J
                  have NW := Lib.hid (list_new3 wa [.int .i64 2, .int .i64 0, .int .i64 0, .int .i64 x0, .int .i64 x1, .int .i64 x2, .int .i64 x3] 57)
                  have O6 := Lib.hid (OR.alloc J7.out.ow (.cells #[.int .i64 2, .int .i64 0, .int .i64 0, .int .i64 x0, .int .i64 x1, .int .i64 x2, .int .i64 x3] 57))
                  have Z6 : Hid (w.heap.size ≤ (wa.alloc (.cells #[.int .i64 2, .int .i64 0, .int .i64 0, .int .i64 x0, .int .i64 x1, .int .i64 x2, .int .i64 x3] 57)).heap.size) := by show _ ≤ _; have := J7.out.size; simp; omega
                  go_wp2_with (at_builtin; refine wpList_append_own _ rfl (.tmp 51) (.tmp 56) 24 rfl w.heap.size 57 i0 (.agg #[.int .i64 0, .int .i64 0, .int .i64 0, .int .i64 0, .int .i64 0, .int .i64 0, .int .i64 0]) 7 56 Tryz.underlying24 hi0 hz0 hz1 hz2 rfl (by decide) (.slice B n' c') n' (vals xs) rfl O6.out ⟨wa.heap.size, 0, none⟩ 1 1 [.int .i64 2, .int .i64 0, .int .i64 0, .int .i64 x0, .int .i64 x1, .int .i64 x2, .int .i64 x3] rfl rfl NW.out (by simp [Value.oneCell']) (by have := LN.out; unfold maxLen; omega) (by have := LN.out; omega) Z6.out ?_; intro v7 w7 hown hgrow hat; obtain ⟨I7, d7, rfl, hJ7⟩ := J7.out.app (2) (0) (0) (x0) (x1) (x2) (x3) hown hgrow; have J8 := Lib.hid hJ7; clear hown hgrow hat hJ7)
                  go_roundw
                  case rel => exact ⟨j + 1, n' + 1, d7, a7, I7, _, by omega, by rw [HD1.out], rfl, by omega, by omega, J8.out⟩
                  case measure => have := HD1.out; simp [intOf]; omega
              · have hjN : j = N := by omega
                subst hjN
                have e0 : ((j - j : Nat) : Int) = 0 := by omega
                rw [e0]
                clear e0
                go_wp2
                go_ret
                exact ⟨B, n', c', xs, a', rfl, by omega, by omega, J.out⟩
  · 
    have CP := Lib.hid (pick_lit lo (min hi w.heap.size) g A k c (a + 1) 3 2 #[.int .i64 10, .int .i64 40, .int .i64 200] b [10, 40, 200] w2 hk (by omega) HBY.out (CD.out w2 J2.out.on) (by omega) J2.out.sr rfl (by omega) (by omega) (fun q hq => by rcases (show q = 0 ∨ q = 1 ∨ q = 2 by omega) with rfl | rfl | rfl <;> rfl))
    go_wp2_with fail
    refine CP.out.mono ?_
    rintro e w5 ⟨r9, hr9, rfl, hs, ho, _⟩
    have hrare : 0 ≤ gi [10, 40, 200] r9 ∧ gi [10, 40, 200] r9 ≤ 200 := by rcases (show r9 = 0 ∨ r9 = 1 ∨ r9 = 2 by omega) with rfl | rfl | rfl <;> decide
    generalize gi [10, 40, 200] r9 = rare at *
    have J5 := Lib.hid (J2.out.step hs ho)
    clear hs ho CP J2 hr9
    go_wp2_with fail
    go_loopw [2, 7] (fun i v wr => ∃ (j n' c' a' : Nat) (B : Option Addr) (xs : List Int), j ≤ N ∧ i = .int .i64 ((N - j : Nat) : Int) ∧ v = .slice B n' c' ∧ n' ≤ 0 + j ∧ a' ≤ a + 1 + 1 + j * 5 ∧ EL w wr g A k c a' B n' c' xs) (fun i _ _ => (intOf i).toNat)
    case atStart => exact ⟨0, 0, 0, a + 1 + 1, B0, [], Nat.zero_le _, rfl, rfl, by omega, by omega, J5.out⟩
    case round =>
      obtain ⟨j, n', c', a', B, xs, hj, rfl, rfl, hn', ha', hJ⟩ := hrel
      have J := Lib.hid hJ
      clear hJ J5
      by_cases hlt : j < N
      · have HD1 : Hid (((N - j : Nat) : Int) - 1 = ((N - (j + 1) : Nat) : Int)) := by show _ = _; omega
        have hpos : (0 : Int) < ((N - j : Nat) : Int) := by omega
        have hle : ((N - j : Nat) : Int) ≤ 300 := by omega
        have LN : Hid (n' ≤ 400) := by show _ ≤ _; omega
        have hme : (((N - j : Nat) : Int)).toNat = N - j := by omega
        generalize hd : ((N - j : Nat) : Int) = d at *
        have HD := Lib.hid hd
        clear hd
        have CH := Lib.hid (l1Chance_any lo (min hi w.heap.size) g A k c (a') rare b wr (by omega) hk (by omega) HBY.out (CD.out wr J.out.on) (by omega) J.out.sr)
        go_wp2_with fail
        refine CH.out.mono ?_
        rintro e w6 ⟨y6, rfl, hs, ho⟩
        have J6 := Lib.hid (J.out.step hs ho)
        clear hs ho CH
        rcases y6 with _ | _
        · have CA := Lib.hid (l3DrawAct_any lo (min hi w.heap.size) g A k c (a' + 1) b w6 hk (by omega) HBY.out (CD.out w6 J6.out.on) (by omega) J6.out.sr)
          go_wp2_with fail
          refine CA.out.mono ?_
          rintro e wa ⟨x, y7, a7, rfl, _, _, ha7, hs, ho⟩
          have J7 := Lib.hid (J6.out.step hs ho)
          clear hs ho CA J6 J
          have NW := Lib.hid (list_new3 wa [.int .i64 1, .int .i64 x, .int .i64 y7, .int .i64 0, .int .i64 0, .int .i64 0, .int .i64 0] 57)
          have O6 := Lib.hid (OR.alloc J7.out.ow (.cells #[.int .i64 1, .int .i64 x, .int .i64 y7, .int .i64 0, .int .i64 0, .int .i64 0, .int .i64 0] 57))
          have Z6 : Hid (w.heap.size ≤ (wa.alloc (.cells #[.int .i64 1, .int .i64 x, .int .i64 y7, .int .i64 0, .int .i64 0, .int .i64 0, .int .i64 0] 57)).heap.size) := by show _ ≤ _; have := J7.out.size; simp; omega
          go_wp2_with (at_builtin; refine wpList_append_own _ rfl (.tmp 58) (.tmp 62) 24 rfl w.heap.size 57 i0 (.agg #[.int .i64 0, .int .i64 0, .int .i64 0, .int .i64 0, .int .i64 0, .int .i64 0, .int .i64 0]) 7 56 Tryz.underlying24 hi0 hz0 hz1 hz2 rfl (by decide) (.slice B n' c') n' (vals xs) rfl O6.out ⟨wa.heap.size, 0, none⟩ 1 1 [.int .i64 1, .int .i64 x, .int .i64 y7, .int .i64 0, .int .i64 0, .int .i64 0, .int .i64 0] rfl rfl NW.out (by simp [Value.oneCell']) (by have := LN.out; unfold maxLen; omega) (by have := LN.out; omega) Z6.out ?_; intro v7 w7 hown hgrow hat; obtain ⟨I7, d7, rfl, hJ7⟩ := J7.out.app (1) (x) (y7) (0) (0) (0) (0) hown hgrow; have J8 := Lib.hid hJ7; clear hown hgrow hat hJ7)
          go_roundw
          case rel => exact ⟨j + 1, n' + 1, d7, a7, I7, _, by omega, by rw [HD1.out], rfl, by omega, by omega, J8.out⟩
          case measure => have := HD1.out; simp [intOf]; omega
        · have CA := Lib.hid (l3DrawCall_any lo (min hi w.heap.size) g A k c (a' + 1) b (S : Int) w6 hk (by omega) HBY.out (CD.out w6 J6.out.on) (by omega) J6.out.sr (by omega))
          go_wp2_with fail
          refine CA.out.mono ?_
          rintro e wa ⟨x0, x1, x2, x3, a7, rfl, ha7, hs, ho⟩
          have J7 := Lib.hid (J6.out.step hs ho)
          clear hs ho CA J6 J
          have NW := Lib.hid (list_new3 wa [.int .i64 2, .int .i64 0, .int .i64 0, .int .i64 x0, .int .i64 x1, .int .i64 x2, .int .i64 x3] 57)
          have O6 := Lib.hid (OR.alloc J7.out.ow (.cells #[.int .i64 2, .int .i64 0, .int .i64 0, .int .i64 x0, .int .i64 x1, .int .i64 x2, .int .i64 x3] 57))
          have Z6 : Hid (w.heap.size ≤ (wa.alloc (.cells #[.int .i64 2, .int .i64 0, .int .i64 0, .int .i64 x0, .int .i64 x1, .int .i64 x2, .int .i64 x3] 57)).heap.size) := by show _ ≤ _; have := J7.out.size; simp; omega
          go_wp2_with (at_builtin; refine wpList_append_own _ rfl (.tmp 51) (.tmp 56) 24 rfl w.heap.size 57 i0 (.agg #[.int .i64 0, .int .i64 0, .int .i64 0, .int .i64 0, .int .i64 0, .int .i64 0, .int .i64 0]) 7 56 Tryz.underlying24 hi0 hz0 hz1 hz2 rfl (by decide) (.slice B n' c') n' (vals xs) rfl O6.out ⟨wa.heap.size, 0, none⟩ 1 1 [.int .i64 2, .int .i64 0, .int .i64 0, .int .i64 x0, .int .i64 x1, .int .i64 x2, .int .i64 x3] rfl rfl NW.out (by simp [Value.oneCell']) (by have := LN.out; unfold maxLen; omega) (by have := LN.out; omega) Z6.out ?_; intro v7 w7 hown hgrow hat; obtain ⟨I7, d7, rfl, hJ7⟩ := J7.out.app (2) (0) (0) (x0) (x1) (x2) (x3) hown hgrow; have J8 := Lib.hid hJ7; clear hown hgrow hat hJ7)
          go_roundw
          case rel => exact ⟨j + 1, n' + 1, d7, a7, I7, _, by omega, by rw [HD1.out], rfl, by omega, by omega, J8.out⟩
          case measure => have := HD1.out; simp [intOf]; omega
      · have hjN : j = N := by omega
        subst hjN
        have e0 : ((j - j : Nat) : Int) = 0 := by omega
        rw [e0]
        clear e0
        go_wp2
        go_ret
        exact ⟨B, n', c', xs, a', rfl, by omega, by omega, J.out⟩
end Go.Proofs.YtckapndpefkcgaaGreat
