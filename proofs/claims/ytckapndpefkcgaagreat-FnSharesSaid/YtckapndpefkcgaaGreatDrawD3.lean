/-
  What a run's draw answers: a number of slots, and a list of events of one's own. For codes of at most 2^20 bytes.
-/
import Derived.Test.YtckapndpefkcgaaGreatDrawC3
import Derived.Test.YtckapndpefkcgaaGreatDraw1d
set_option maxHeartbeats 1000000
namespace Go.Proofs.YtckapndpefkcgaaGreat
open Go.RowKit
set_option maxRecDepth 100000

theorem EL.low {w W W' : World} {g k c a n c' : Nat} {A B : Option Addr} {xs : List Int} (h : EL w W g A k c a B n c' xs) (hb : Below W.heap.size W W') : EL w W' g A k c a B n c' xs :=
  ⟨h.ow.below hb (Nat.le_refl _), h.sr.below hb, ⟨h.on.1.trans (hb.mono (by have := h.gw; have := h.size; omega)), fun q h1 h2 => (hb.block q (by have := h.size; omega)).trans (h.on.2 q h1 h2)⟩, h.gw⟩
def RunD (w : World) (e : Ending) (w' : World) : Prop :=
  ∃ sl B n c' xs, e = .returned (.tuple #[.int .i64 sl, .slice B n c']) ∧ (0 ≤ sl ∧ sl ≤ 13) ∧ n ≤ 401 ∧ OR 57 7 w' w.heap.size B n c' xs ∧ Below w.heap.size w w'

set_option maxHeartbeats 20000000 in
theorem DrawRunKernel_any (lo hi : Nat) (A : Option Addr) (k c : Nat) (b : Nat → Int) (w : World) (hk : k ≤ 1048576)
    (hb : ∀ j, 0 ≤ b j ∧ b j ≤ 255) (h : Sl w lo hi A k (fun j => .int .u8 (b j))) :
    Calls Tryz.prog 52 #[.slice A k c] w (RunD w) := by
  obtain ⟨i0, hi0, hz0, hz1, hz2⟩ := info_parts Tryz.info_EventD
  have HBY := Lib.hid hb
  have CD : Hid (∀ W, Below w.heap.size w W → Sl W lo (min hi w.heap.size) A k (fun j => .int .u8 (b j))) := fun W hW => h.lt.below hW (by omega)
  have C1 := Lib.hid (l1Source_any A k c w)
  obtain ⟨g, hgz⟩ : ∃ g, g = w.heap.size := ⟨_, rfl⟩
  rw [← hgz] at C1
  have G1 : w.heap.size ≤ g := by omega
  clear h hb hgz
  go_enter Tryz.func52, Tryz.ntmps52
  go_wp2_with fail
  refine C1.out.mono ?_
  rintro e w1 ⟨rfl, hs1, hb1⟩
  have S1 := Lib.hid hs1
  have z1 := hs1.lt
  have B1 : Hid (Below w.heap.size w w1) := hb1.mono G1
  clear hs1 hb1 C1
  have CP := Lib.hid (pick_lit lo (min hi w.heap.size) g A k c (0) 5 2 #[.int .i64 1, .int .i64 2, .int .i64 3, .int .i64 5, .int .i64 12] b [1, 2, 3, 5, 12] w1 hk (by omega) HBY.out (CD.out w1 B1.out) (by omega) S1.out rfl (by omega) (by omega) (fun q hq => by rcases (show q = 0 ∨ q = 1 ∨ q = 2 ∨ q = 3 ∨ q = 4 by omega) with rfl | rfl | rfl | rfl | rfl <;> rfl))
  go_wp2_with fail
  refine CP.out.mono ?_
  rintro e w2 ⟨r9, hr9, rfl, hs, ho, _⟩
  have hv : 0 ≤ gi [1, 2, 3, 5, 12] r9 ∧ gi [1, 2, 3, 5, 12] r9 ≤ 12 := by rcases (show r9 = 0 ∨ r9 = 1 ∨ r9 = 2 ∨ r9 = 3 ∨ r9 = 4 by omega) with rfl | rfl | rfl | rfl | rfl <;> decide
  generalize gi [1, 2, 3, 5, 12] r9 = vv at *
  obtain ⟨S, rfl⟩ : ∃ S : Nat, vv = (S : Int) := ⟨vv.toNat, by omega⟩
  have hbS : S ≤ 12 := by omega
  clear hv hr9
  have S2 := Lib.hid hs
  have z2 := ho.1.size
  have B2 : Hid (Below w.heap.size w w2) := B1.out.trans (ho.1.mono (by omega))
  clear hs ho CP S1 B1
  have CP := Lib.hid (pick_lit lo (min hi w.heap.size) g A k c (0 + 1) 4 2 #[.int .i64 5, .int .i64 40, .int .i64 120, .int .i64 300] b [5, 40, 120, 300] w2 hk (by omega) HBY.out (CD.out w2 B2.out) (by omega) S2.out rfl (by omega) (by omega) (fun q hq => by rcases (show q = 0 ∨ q = 1 ∨ q = 2 ∨ q = 3 by omega) with rfl | rfl | rfl | rfl <;> rfl))
  go_wp2_with fail
  refine CP.out.mono ?_
  rintro e w3 ⟨r9, hr9, rfl, hs, ho, _⟩
  have hv : 0 ≤ gi [5, 40, 120, 300] r9 ∧ gi [5, 40, 120, 300] r9 ≤ 300 := by rcases (show r9 = 0 ∨ r9 = 1 ∨ r9 = 2 ∨ r9 = 3 by omega) with rfl | rfl | rfl | rfl <;> decide
  generalize gi [5, 40, 120, 300] r9 = vv at *
  obtain ⟨N, rfl⟩ : ∃ N : Nat, vv = (N : Int) := ⟨vv.toNat, by omega⟩
  have hbN : N ≤ 300 := by omega
  clear hv hr9
  have S3 := Lib.hid hs
  have z3 := ho.1.size
  have B3 : Hid (Below w.heap.size w w3) := B2.out.trans (ho.1.mono (by omega))
  clear hs ho CP S2 B2
  have CE := Lib.hid (l3Events_any lo (min hi w.heap.size) g A k c (0 + 1 + 1) b S N w3 hk (by omega) (by omega) (by omega) HBY.out (CD.out w3 B3.out) (by omega) S3.out)
  go_wp2_with fail
  refine CE.out.mono ?_
  rintro e w4 ⟨B, n, c', xs, a4, rfl, hn4, ha4, hJ⟩
  have J4 := Lib.hid hJ
  clear hJ CE S3
  have CH := Lib.hid (l1Chance_any lo (min hi w.heap.size) g A k c (a4) 9 b w4 (by omega) hk (by omega) HBY.out (CD.out w4 (B3.out.trans (J4.out.on.1.mono (by omega)))) (by omega) J4.out.sr)
  go_wp2_with fail
  refine CH.out.mono ?_
  rintro e w5 ⟨y, rfl, hs, ho⟩
  have J5 := Lib.hid (J4.out.step hs ho)
  clear hs ho CH
  clear J4
  rcases y with _ | _
  · have CH := Lib.hid (l1Chance_any lo (min hi w.heap.size) g A k c (a4 + 1) 16 b w5 (by omega) hk (by omega) HBY.out (CD.out w5 (B3.out.trans (J5.out.on.1.mono (by omega)))) (by omega) J5.out.sr)
    go_wp2_with fail
    refine CH.out.mono ?_
    rintro e w6 ⟨y6, rfl, hs, ho⟩
    have J6 := Lib.hid (J5.out.step hs ho)
    clear hs ho CH
    rcases y6 with _ | _
    · have CH := Lib.hid (l1Chance_any lo (min hi w.heap.size) g A k c (a4 + 1 + 1) 30 b w6 (by omega) hk (by omega) HBY.out (CD.out w6 (B3.out.trans (J6.out.on.1.mono (by omega)))) (by omega) J6.out.sr)
      go_wp2_with fail
      refine CH.out.mono ?_
      rintro e w8 ⟨y8, rfl, hs, ho⟩
      have J8 := Lib.hid (J6.out.step hs ho)
      clear hs ho CH
      rcases y8 with _ | _
      · have hn8 : n ≤ 401 := by omega
        go_wp2
        go_ret2
        exact ⟨(S : Int), B, n, c', xs, rfl, by omega, by omega, OR.mono J8.out.ow (by omega), B3.out.trans (J8.out.on.1.mono (by omega))⟩
      · have CP := Lib.hid (pick_lit lo (min hi w.heap.size) g A k c (a4 + 1 + 1 + 1) 2 2 #[.int .i64 400, .int .i64 401] b [400, 401] w8 hk (by omega) HBY.out (CD.out w8 (B3.out.trans (J8.out.on.1.mono (by omega)))) (by omega) J8.out.sr rfl (by omega) (by omega) (fun q hq => by rcases (show q = 0 ∨ q = 1 by omega) with rfl | rfl <;> rfl))
        go_wp2_with fail
        refine CP.out.mono ?_
        rintro e w9 ⟨r9, hr9, rfl, hs, ho, _⟩
        have hv : 0 ≤ gi [400, 401] r9 ∧ gi [400, 401] r9 ≤ 401 := by rcases (show r9 = 0 ∨ r9 = 1 by omega) with rfl | rfl <;> decide
        generalize gi [400, 401] r9 = vv at *
        obtain ⟨M, rfl⟩ : ∃ M : Nat, vv = (M : Int) := ⟨vv.toNat, by omega⟩
        have hbM : M ≤ 401 := by omega
        clear hv hr9
        have J9 := Lib.hid (J8.out.step hs ho)
        clear hs ho CP J8
        obtain ⟨a9, ha9⟩ : ∃ a9, a9 = a4 + 1 + 1 + 1 + 1 := ⟨_, rfl⟩
        rw [← ha9] at J9
        clear ha9
        go_wp2_with fail
        go_loopw [6] (fun v wr => ∃ (n' c' : Nat) (B : Option Addr) (xs : List Int), v = .slice B n' c' ∧ n' ≤ 401 ∧ EL w3 wr g A k c a9 B n' c' xs) (fun v _ => match v with | .slice _ n' _ => M - n' | _ => 0)
        case atStart => exact ⟨n, c', B, xs, rfl, by omega, J9.out⟩
        case round =>
          obtain ⟨n', c', B, xs, rfl, hn', hJ⟩ := hrel
          have J := Lib.hid hJ
          clear hJ J9
          by_cases hlt : n' < M
          · have h3 : (n' : Int) < (M : Int) := by omega
            have LN : Hid (n' ≤ 400) := by show _ ≤ _; omega
            have NW := Lib.hid (list_new3 wr [.int .i64 1, .int .i64 1, .int .i64 0, .int .i64 0, .int .i64 0, .int .i64 0, .int .i64 0] 57)
            have O6 := Lib.hid (OR.alloc J.out.ow (.cells #[.int .i64 1, .int .i64 1, .int .i64 0, .int .i64 0, .int .i64 0, .int .i64 0, .int .i64 0] 57))
            have Z6 : Hid (w3.heap.size ≤ (wr.alloc (.cells #[.int .i64 1, .int .i64 1, .int .i64 0, .int .i64 0, .int .i64 0, .int .i64 0, .int .i64 0] 57)).heap.size) := by show _ ≤ _; have := J.out.size; simp; omega
            go_wp2_with (at_builtin; refine wpList_append_own _ rfl (.tmp 40) (.tmp 43) 24 rfl w3.heap.size 57 i0 (.agg #[.int .i64 0, .int .i64 0, .int .i64 0, .int .i64 0, .int .i64 0, .int .i64 0, .int .i64 0]) 7 56 Tryz.underlying24 hi0 hz0 hz1 hz2 rfl (by decide) (.slice B n' c') n' (vals xs) rfl O6.out ⟨wr.heap.size, 0, none⟩ 1 1 [.int .i64 1, .int .i64 1, .int .i64 0, .int .i64 0, .int .i64 0, .int .i64 0, .int .i64 0] rfl rfl NW.out (by simp [Value.oneCell']) (by have := LN.out; unfold maxLen; omega) (by have := LN.out; omega) Z6.out ?_; intro v7 w7 hown hgrow hat; obtain ⟨I7, d7, rfl, hJ7⟩ := J.out.app (1) (1) (0) (0) (0) (0) (0) hown hgrow; have J10 := Lib.hid hJ7; clear hown hgrow hat hJ7)
            go_roundw
            case rel => exact ⟨n' + 1, d7, I7, _, rfl, by omega, J10.out⟩
            case measure => show M - (n' + 1) < M - n'; omega
          · have h3 : ¬ ((n' : Int) < (M : Int)) := by omega
            go_wp2
            go_ret2
            exact ⟨(S : Int), B, n', c', xs, rfl, by omega, by omega, OR.mono J.out.ow (by omega), B3.out.trans (J.out.on.1.mono (by omega))⟩
    · have CP := Lib.hid (pick_lit lo (min hi w.heap.size) g A k c (a4 + 1 + 1) 3 2 #[.int .i64 0, .int .i64 13, .int .i64 1] b [0, 13, 1] w6 hk (by omega) HBY.out (CD.out w6 (B3.out.trans (J6.out.on.1.mono (by omega)))) (by omega) J6.out.sr rfl (by omega) (by omega) (fun q hq => by rcases (show q = 0 ∨ q = 1 ∨ q = 2 by omega) with rfl | rfl | rfl <;> rfl))
      go_wp2_with fail
      refine CP.out.mono ?_
      rintro e w7 ⟨r9, hr9, rfl, hs, ho, _⟩
      have hv : 0 ≤ gi [0, 13, 1] r9 ∧ gi [0, 13, 1] r9 ≤ 13 := by rcases (show r9 = 0 ∨ r9 = 1 ∨ r9 = 2 by omega) with rfl | rfl | rfl <;> decide
      generalize gi [0, 13, 1] r9 = vv at *
      obtain ⟨Q, rfl⟩ : ∃ Q : Nat, vv = (Q : Int) := ⟨vv.toNat, by omega⟩
      have hbQ : Q ≤ 13 := by omega
      clear hv hr9
      have J7 := Lib.hid (J6.out.step hs ho)
      clear hs ho CP J6
      have CH := Lib.hid (l1Chance_any lo (min hi w.heap.size) g A k c (a4 + 1 + 1 + 1) 30 b w7 (by omega) hk (by omega) HBY.out (CD.out w7 (B3.out.trans (J7.out.on.1.mono (by omega)))) (by omega) J7.out.sr)
      go_wp2_with fail
      refine CH.out.mono ?_
      rintro e w8 ⟨y8, rfl, hs, ho⟩
      have J8 := Lib.hid (J7.out.step hs ho)
      clear hs ho CH
      rcases y8 with _ | _
      · have hn8 : n ≤ 401 := by omega
        go_wp2
        go_ret2
        exact ⟨(Q : Int), B, n, c', xs, rfl, by omega, by omega, OR.mono J8.out.ow (by omega), B3.out.trans (J8.out.on.1.mono (by omega))⟩
      · have CP := Lib.hid (pick_lit lo (min hi w.heap.size) g A k c (a4 + 1 + 1 + 1 + 1) 2 2 #[.int .i64 400, .int .i64 401] b [400, 401] w8 hk (by omega) HBY.out (CD.out w8 (B3.out.trans (J8.out.on.1.mono (by omega)))) (by omega) J8.out.sr rfl (by omega) (by omega) (fun q hq => by rcases (show q = 0 ∨ q = 1 by omega) with rfl | rfl <;> rfl))
        go_wp2_with fail
        refine CP.out.mono ?_
        rintro e w9 ⟨r9, hr9, rfl, hs, ho, _⟩
        have hv : 0 ≤ gi [400, 401] r9 ∧ gi [400, 401] r9 ≤ 401 := by rcases (show r9 = 0 ∨ r9 = 1 by omega) with rfl | rfl <;> decide
        generalize gi [400, 401] r9 = vv at *
        obtain ⟨M, rfl⟩ : ∃ M : Nat, vv = (M : Int) := ⟨vv.toNat, by omega⟩
        have hbM : M ≤ 401 := by omega
        clear hv hr9
        have J9 := Lib.hid (J8.out.step hs ho)
        clear hs ho CP J8
        obtain ⟨a9, ha9⟩ : ∃ a9, a9 = a4 + 1 + 1 + 1 + 1 + 1 := ⟨_, rfl⟩
        rw [← ha9] at J9
        clear ha9
        go_wp2_with fail
        go_loopw [6] (fun v wr => ∃ (n' c' : Nat) (B : Option Addr) (xs : List Int), v = .slice B n' c' ∧ n' ≤ 401 ∧ EL w3 wr g A k c a9 B n' c' xs) (fun v _ => match v with | .slice _ n' _ => M - n' | _ => 0)
        case atStart => exact ⟨n, c', B, xs, rfl, by omega, J9.out⟩
        case round =>
          obtain ⟨n', c', B, xs, rfl, hn', hJ⟩ := hrel
          have J := Lib.hid hJ
          clear hJ J9
          by_cases hlt : n' < M
          · have h3 : (n' : Int) < (M : Int) := by omega
            have LN : Hid (n' ≤ 400) := by show _ ≤ _; omega
            have NW := Lib.hid (list_new3 wr [.int .i64 1, .int .i64 1, .int .i64 0, .int .i64 0, .int .i64 0, .int .i64 0, .int .i64 0] 57)
            have O6 := Lib.hid (OR.alloc J.out.ow (.cells #[.int .i64 1, .int .i64 1, .int .i64 0, .int .i64 0, .int .i64 0, .int .i64 0, .int .i64 0] 57))
            have Z6 : Hid (w3.heap.size ≤ (wr.alloc (.cells #[.int .i64 1, .int .i64 1, .int .i64 0, .int .i64 0, .int .i64 0, .int .i64 0, .int .i64 0] 57)).heap.size) := by show _ ≤ _; have := J.out.size; simp; omega
            go_wp2_with (at_builtin; refine wpList_append_own _ rfl (.tmp 40) (.tmp 43) 24 rfl w3.heap.size 57 i0 (.agg #[.int .i64 0, .int .i64 0, .int .i64 0, .int .i64 0, .int .i64 0, .int .i64 0, .int .i64 0]) 7 56 Tryz.underlying24 hi0 hz0 hz1 hz2 rfl (by decide) (.slice B n' c') n' (vals xs) rfl O6.out ⟨wr.heap.size, 0, none⟩ 1 1 [.int .i64 1, .int .i64 1, .int .i64 0, .int .i64 0, .int .i64 0, .int .i64 0, .int .i64 0] rfl rfl NW.out (by simp [Value.oneCell']) (by have := LN.out; unfold maxLen; omega) (by have := LN.out; omega) Z6.out ?_; intro v7 w7 hown hgrow hat; obtain ⟨I7, d7, rfl, hJ7⟩ := J.out.app (1) (1) (0) (0) (0) (0) (0) hown hgrow; have J10 := Lib.hid hJ7; clear hown hgrow hat hJ7)
            go_roundw
            case rel => exact ⟨n' + 1, d7, I7, _, rfl, by omega, J10.out⟩
            case measure => show M - (n' + 1) < M - n'; omega
          · have h3 : ¬ ((n' : Int) < (M : Int)) := by omega
            go_wp2
            go_ret2
            exact ⟨(Q : Int), B, n', c', xs, rfl, by omega, by omega, OR.mono J.out.ow (by omega), B3.out.trans (J.out.on.1.mono (by omega))⟩
  · have CF := Lib.hid (DrawEventFault_any lo (min hi w.heap.size) A k c b w5 hk HBY.out (CD.out w5 (B3.out.trans (J5.out.on.1.mono (by omega)))))
    go_wp2_with fail
    refine CF.out.mono ?_
    rintro e we ⟨x0, x1, x2, x3, x4, x5, x6, rfl, hbe⟩
    have J := Lib.hid (J5.out.low hbe)
    clear hbe CF J5
    have LN : Hid (n ≤ 400) := by show _ ≤ _; omega
    have NW := Lib.hid (list_new3 we [.int .i64 x0, .int .i64 x1, .int .i64 x2, .int .i64 x3, .int .i64 x4, .int .i64 x5, .int .i64 x6] 57)
    have O6 := Lib.hid (OR.alloc J.out.ow (.cells #[.int .i64 x0, .int .i64 x1, .int .i64 x2, .int .i64 x3, .int .i64 x4, .int .i64 x5, .int .i64 x6] 57))
    have Z6 : Hid (w3.heap.size ≤ (we.alloc (.cells #[.int .i64 x0, .int .i64 x1, .int .i64 x2, .int .i64 x3, .int .i64 x4, .int .i64 x5, .int .i64 x6] 57)).heap.size) := by show _ ≤ _; have := J.out.size; simp; omega
    go_upto_region 6 with (at_builtin; refine wpList_append_own _ rfl (.tmp 21) (.tmp 24) 24 rfl w3.heap.size 57 i0 (.agg #[.int .i64 0, .int .i64 0, .int .i64 0, .int .i64 0, .int .i64 0, .int .i64 0, .int .i64 0]) 7 56 Tryz.underlying24 hi0 hz0 hz1 hz2 rfl (by decide) (.slice B n c') n (vals xs) rfl O6.out ⟨we.heap.size, 0, none⟩ 1 1 [.int .i64 x0, .int .i64 x1, .int .i64 x2, .int .i64 x3, .int .i64 x4, .int .i64 x5, .int .i64 x6] rfl rfl NW.out (by simp [Value.oneCell']) (by have := LN.out; unfold maxLen; omega) (by have := LN.out; omega) Z6.out ?_; intro v7 w7 hown hgrow hat; obtain ⟨I7, d7, rfl, hJ7⟩ := J.out.app (x0) (x1) (x2) (x3) (x4) (x5) (x6) hown hgrow; have J11 := Lib.hid hJ7; clear hown hgrow hat hJ7)
    clear J NW O6 Z6 LN
    have CH := Lib.hid (l1Chance_any lo (min hi w.heap.size) g A k c (a4 + 1) 16 b w7 (by omega) hk (by omega) HBY.out (CD.out w7 (B3.out.trans (J11.out.on.1.mono (by omega)))) (by omega) J11.out.sr)
    go_wp2_with fail
    refine CH.out.mono ?_
    rintro e w6 ⟨y6, rfl, hs, ho⟩
    have J6 := Lib.hid (J11.out.step hs ho)
    clear hs ho CH
    rcases y6 with _ | _
    · have CH := Lib.hid (l1Chance_any lo (min hi w.heap.size) g A k c (a4 + 1 + 1) 30 b w6 (by omega) hk (by omega) HBY.out (CD.out w6 (B3.out.trans (J6.out.on.1.mono (by omega)))) (by omega) J6.out.sr)
      go_wp2_with fail
      refine CH.out.mono ?_
      rintro e w8 ⟨y8, rfl, hs, ho⟩
      have J8 := Lib.hid (J6.out.step hs ho)
      clear hs ho CH
      rcases y8 with _ | _
      · have hn8 : (n + 1) ≤ 401 := by omega
        go_wp2
        go_ret2
        exact ⟨(S : Int), I7, (n + 1), d7, (xs ++ [x0, x1, x2, x3, x4, x5, x6]), rfl, by omega, by omega, OR.mono J8.out.ow (by omega), B3.out.trans (J8.out.on.1.mono (by omega))⟩
      · have CP := Lib.hid (pick_lit lo (min hi w.heap.size) g A k c (a4 + 1 + 1 + 1) 2 2 #[.int .i64 400, .int .i64 401] b [400, 401] w8 hk (by omega) HBY.out (CD.out w8 (B3.out.trans (J8.out.on.1.mono (by omega)))) (by omega) J8.out.sr rfl (by omega) (by omega) (fun q hq => by rcases (show q = 0 ∨ q = 1 by omega) with rfl | rfl <;> rfl))
        go_wp2_with fail
        refine CP.out.mono ?_
        rintro e w9 ⟨r9, hr9, rfl, hs, ho, _⟩
        have hv : 0 ≤ gi [400, 401] r9 ∧ gi [400, 401] r9 ≤ 401 := by rcases (show r9 = 0 ∨ r9 = 1 by omega) with rfl | rfl <;> decide
        generalize gi [400, 401] r9 = vv at *
        obtain ⟨M, rfl⟩ : ∃ M : Nat, vv = (M : Int) := ⟨vv.toNat, by omega⟩
        have hbM : M ≤ 401 := by omega
        clear hv hr9
        have J9 := Lib.hid (J8.out.step hs ho)
        clear hs ho CP J8
        obtain ⟨a9, ha9⟩ : ∃ a9, a9 = a4 + 1 + 1 + 1 + 1 := ⟨_, rfl⟩
        rw [← ha9] at J9
        clear ha9
        go_wp2_with fail
        go_loopw [6] (fun v wr => ∃ (n' c' : Nat) (B : Option Addr) (xs : List Int), v = .slice B n' c' ∧ n' ≤ 401 ∧ EL w3 wr g A k c a9 B n' c' xs) (fun v _ => match v with | .slice _ n' _ => M - n' | _ => 0)
        case atStart => exact ⟨(n + 1), d7, I7, (xs ++ [x0, x1, x2, x3, x4, x5, x6]), rfl, by omega, J9.out⟩
        case round =>
          obtain ⟨n', c', B, xs, rfl, hn', hJ⟩ := hrel
          have J := Lib.hid hJ
          clear hJ J9
          by_cases hlt : n' < M
          · have h3 : (n' : Int) < (M : Int) := by omega
            have LN : Hid (n' ≤ 400) := by show _ ≤ _; omega
            have NW := Lib.hid (list_new3 wr [.int .i64 1, .int .i64 1, .int .i64 0, .int .i64 0, .int .i64 0, .int .i64 0, .int .i64 0] 57)
            have O6 := Lib.hid (OR.alloc J.out.ow (.cells #[.int .i64 1, .int .i64 1, .int .i64 0, .int .i64 0, .int .i64 0, .int .i64 0, .int .i64 0] 57))
            have Z6 : Hid (w3.heap.size ≤ (wr.alloc (.cells #[.int .i64 1, .int .i64 1, .int .i64 0, .int .i64 0, .int .i64 0, .int .i64 0, .int .i64 0] 57)).heap.size) := by show _ ≤ _; have := J.out.size; simp; omega
            go_wp2_with (at_builtin; refine wpList_append_own _ rfl (.tmp 40) (.tmp 43) 24 rfl w3.heap.size 57 i0 (.agg #[.int .i64 0, .int .i64 0, .int .i64 0, .int .i64 0, .int .i64 0, .int .i64 0, .int .i64 0]) 7 56 Tryz.underlying24 hi0 hz0 hz1 hz2 rfl (by decide) (.slice B n' c') n' (vals xs) rfl O6.out ⟨wr.heap.size, 0, none⟩ 1 1 [.int .i64 1, .int .i64 1, .int .i64 0, .int .i64 0, .int .i64 0, .int .i64 0, .int .i64 0] rfl rfl NW.out (by simp [Value.oneCell']) (by have := LN.out; unfold maxLen; omega) (by have := LN.out; omega) Z6.out ?_; intro v7 w7 hown hgrow hat; obtain ⟨I7, d7, rfl, hJ7⟩ := J.out.app (1) (1) (0) (0) (0) (0) (0) hown hgrow; have J10 := Lib.hid hJ7; clear hown hgrow hat hJ7)
            go_roundw
            case rel => exact ⟨n' + 1, d7, I7, _, rfl, by omega, J10.out⟩
            case measure => show M - (n' + 1) < M - n'; omega
          · have h3 : ¬ ((n' : Int) < (M : Int)) := by omega
            go_wp2
            go_ret2
            exact ⟨(S : Int), B, n', c', xs, rfl, by omega, by omega, OR.mono J.out.ow (by omega), B3.out.trans (J.out.on.1.mono (by omega))⟩
    · have CP := Lib.hid (pick_lit lo (min hi w.heap.size) g A k c (a4 + 1 + 1) 3 2 #[.int .i64 0, .int .i64 13, .int .i64 1] b [0, 13, 1] w6 hk (by omega) HBY.out (CD.out w6 (B3.out.trans (J6.out.on.1.mono (by omega)))) (by omega) J6.out.sr rfl (by omega) (by omega) (fun q hq => by rcases (show q = 0 ∨ q = 1 ∨ q = 2 by omega) with rfl | rfl | rfl <;> rfl))
      go_wp2_with fail
      refine CP.out.mono ?_
      rintro e wq ⟨r9, hr9, rfl, hs, ho, _⟩
      have hv : 0 ≤ gi [0, 13, 1] r9 ∧ gi [0, 13, 1] r9 ≤ 13 := by rcases (show r9 = 0 ∨ r9 = 1 ∨ r9 = 2 by omega) with rfl | rfl | rfl <;> decide
      generalize gi [0, 13, 1] r9 = vv at *
      obtain ⟨Q, rfl⟩ : ∃ Q : Nat, vv = (Q : Int) := ⟨vv.toNat, by omega⟩
      have hbQ : Q ≤ 13 := by omega
      clear hv hr9
      have J7 := Lib.hid (J6.out.step hs ho)
      clear hs ho CP J6
      have CH := Lib.hid (l1Chance_any lo (min hi w.heap.size) g A k c (a4 + 1 + 1 + 1) 30 b wq (by omega) hk (by omega) HBY.out (CD.out wq (B3.out.trans (J7.out.on.1.mono (by omega)))) (by omega) J7.out.sr)
      go_wp2_with fail
      refine CH.out.mono ?_
      rintro e w8 ⟨y8, rfl, hs, ho⟩
      have J8 := Lib.hid (J7.out.step hs ho)
      clear hs ho CH
      rcases y8 with _ | _
      · have hn8 : (n + 1) ≤ 401 := by omega
        go_wp2
        go_ret2
        exact ⟨(Q : Int), I7, (n + 1), d7, (xs ++ [x0, x1, x2, x3, x4, x5, x6]), rfl, by omega, by omega, OR.mono J8.out.ow (by omega), B3.out.trans (J8.out.on.1.mono (by omega))⟩
      · have CP := Lib.hid (pick_lit lo (min hi w.heap.size) g A k c (a4 + 1 + 1 + 1 + 1) 2 2 #[.int .i64 400, .int .i64 401] b [400, 401] w8 hk (by omega) HBY.out (CD.out w8 (B3.out.trans (J8.out.on.1.mono (by omega)))) (by omega) J8.out.sr rfl (by omega) (by omega) (fun q hq => by rcases (show q = 0 ∨ q = 1 by omega) with rfl | rfl <;> rfl))
        go_wp2_with fail
        refine CP.out.mono ?_
        rintro e w9 ⟨r9, hr9, rfl, hs, ho, _⟩
        have hv : 0 ≤ gi [400, 401] r9 ∧ gi [400, 401] r9 ≤ 401 := by rcases (show r9 = 0 ∨ r9 = 1 by omega) with rfl | rfl <;> decide
        generalize gi [400, 401] r9 = vv at *
        obtain ⟨M, rfl⟩ : ∃ M : Nat, vv = (M : Int) := ⟨vv.toNat, by omega⟩
        have hbM : M ≤ 401 := by omega
        clear hv hr9
        have J9 := Lib.hid (J8.out.step hs ho)
        clear hs ho CP J8
        obtain ⟨a9, ha9⟩ : ∃ a9, a9 = a4 + 1 + 1 + 1 + 1 + 1 := ⟨_, rfl⟩
        rw [← ha9] at J9
        clear ha9
        go_wp2_with fail
        go_loopw [6] (fun v wr => ∃ (n' c' : Nat) (B : Option Addr) (xs : List Int), v = .slice B n' c' ∧ n' ≤ 401 ∧ EL w3 wr g A k c a9 B n' c' xs) (fun v _ => match v with | .slice _ n' _ => M - n' | _ => 0)
        case atStart => exact ⟨(n + 1), d7, I7, (xs ++ [x0, x1, x2, x3, x4, x5, x6]), rfl, by omega, J9.out⟩
        case round =>
          obtain ⟨n', c', B, xs, rfl, hn', hJ⟩ := hrel
          have J := Lib.hid hJ
          clear hJ J9
          by_cases hlt : n' < M
          · have h3 : (n' : Int) < (M : Int) := by omega
            have LN : Hid (n' ≤ 400) := by show _ ≤ _; omega
            have NW := Lib.hid (list_new3 wr [.int .i64 1, .int .i64 1, .int .i64 0, .int .i64 0, .int .i64 0, .int .i64 0, .int .i64 0] 57)
            have O6 := Lib.hid (OR.alloc J.out.ow (.cells #[.int .i64 1, .int .i64 1, .int .i64 0, .int .i64 0, .int .i64 0, .int .i64 0, .int .i64 0] 57))
            have Z6 : Hid (w3.heap.size ≤ (wr.alloc (.cells #[.int .i64 1, .int .i64 1, .int .i64 0, .int .i64 0, .int .i64 0, .int .i64 0, .int .i64 0] 57)).heap.size) := by show _ ≤ _; have := J.out.size; simp; omega
            go_wp2_with (at_builtin; refine wpList_append_own _ rfl (.tmp 40) (.tmp 43) 24 rfl w3.heap.size 57 i0 (.agg #[.int .i64 0, .int .i64 0, .int .i64 0, .int .i64 0, .int .i64 0, .int .i64 0, .int .i64 0]) 7 56 Tryz.underlying24 hi0 hz0 hz1 hz2 rfl (by decide) (.slice B n' c') n' (vals xs) rfl O6.out ⟨wr.heap.size, 0, none⟩ 1 1 [.int .i64 1, .int .i64 1, .int .i64 0, .int .i64 0, .int .i64 0, .int .i64 0, .int .i64 0] rfl rfl NW.out (by simp [Value.oneCell']) (by have := LN.out; unfold maxLen; omega) (by have := LN.out; omega) Z6.out ?_; intro v7 w7 hown hgrow hat; obtain ⟨I7, d7, rfl, hJ7⟩ := J.out.app (1) (1) (0) (0) (0) (0) (0) hown hgrow; have J10 := Lib.hid hJ7; clear hown hgrow hat hJ7)
            go_roundw
            case rel => exact ⟨n' + 1, d7, I7, _, rfl, by omega, J10.out⟩
            case measure => show M - (n' + 1) < M - n'; omega
          · have h3 : ¬ ((n' : Int) < (M : Int)) := by omega
            go_wp2
            go_ret2
            exact ⟨(Q : Int), B, n', c', xs, rfl, by omega, by omega, OR.mono J.out.ow (by omega), B3.out.trans (J.out.on.1.mono (by omega))⟩
end Go.Proofs.YtckapndpefkcgaaGreat
