/-
  IsBalanced, the model's and the program's. No conditions beyond that the events can be read.
-/
import Derived.Test.YtckapndpefkcgaaGreatTicks9
import Derived.Test.YtckapndpefkcgaaGreatSpec9
import Derived.Test.YtckapndpefkcgaaGreatMath9b
import Derived.Test.YtckapndpefkcgaaGreatCountN9
import Derived.Test.YtckapndpefkcgaaGreatU8s
set_option maxHeartbeats 1000000
namespace Go.Proofs.YtckapndpefkcgaaGreat
open List renaming getElem_toArray → zz1, getElem_cons_succ → zz2, getElem_cons_zero → zz3, setIfInBounds_toArray → zz4, set_cons_zero → zz5, set_cons_succ → zz6
open Go.RowKit
set_option maxRecDepth 100000

def ad9 (x : Nat → Int) (cs : List Int) (ev : Int) : Nat → Bool
  | 0 => false
  | i + 1 => ad9 x cs ev i || decide (gi cs i = 0 ∧ x (i * 7 + 3) = 2 ∧ x (i * 7 + 4) = ev)
theorem ad9_true {x : Nat → Int} {cs : List Int} {ev : Int} : ∀ n, (ad9 x cs ev n = true ↔ ∃ i, i < n ∧ dst9 x cs ev i)
  | 0 => ⟨fun h => (by cases h), fun ⟨i, h, _⟩ => absurd h (Nat.not_lt_zero i)⟩
  | n + 1 => by
    unfold ad9
    rw [Bool.or_eq_true, ad9_true n]
    refine ⟨fun hh => ?_, fun ⟨i, hi, hd⟩ => ?_⟩
    · rcases hh with ⟨i, hi, hd⟩ | hd
      · exact ⟨i, by omega, hd⟩
      · exact ⟨n, by omega, (show gi cs n = 0 ∧ x (n * 7 + 3) = 2 ∧ x (n * 7 + 4) = ev from of_decide_eq_true hd)⟩
    · by_cases e : i < n
      · exact .inl ⟨i, e, hd⟩
      · obtain rfl : i = n := by omega
        exact .inr (decide_eq_true (show gi cs i = 0 ∧ x (i * 7 + 3) = 2 ∧ x (i * 7 + 4) = ev from hd))
def balr (wn : Nat) (x : Nat → Int) (n : Nat) (ev : Int) (K : Ker) (cs ns : List Int) : Bool :=
  if (wn : Int) ≠ (nct (gi ns) ev 1 (ns.length / 3) : Int) + (nct (gi ns) ev 2 (ns.length / 3) : Int) then false
  else if ad9 x cs ev n = true then true
  else decide (gi K.ac (ev.toNat * 4 + 3) = (nct (gi ns) ev 6 (ns.length / 3) : Int) - (nct (gi ns) ev 2 (ns.length / 3) : Int))
noncomputable def bal9 (mm : Int) (x : Nat → Int) (n : Nat) (ev : Int) : Bool :=
  if ask9 mm n ev ≠ 0 then false else balr (tks (opens9 ev) (new3 mm) x n).length x n ev (run3 (new3 mm) x n).1 (run3 (new3 mm) x n).2.1 (run3 (new3 mm) x n).2.2

set_option maxHeartbeats 16000000 in
theorem specIsBalanced_any (lo hi : Nat) (A : Option Addr) (n c : Nat) (x : Nat → Int) (mm ev : Int) (w : World) (hn : n ≤ 1048576) (h : Sl w lo hi A (n * 7) (fun k => .int .i64 (x k))) :
    Calls Tryz.prog 12 #[.int .i64 mm, .slice A n c, .int .i64 ev] w fun e w' => e = .returned (.bool (bal9 mm x n ev)) ∧ Below w.heap.size w w' := by
  have H := Lib.hid h.lt
  have AS := Lib.hid (l9Asked_any mm A n c ev w (by omega))
  obtain ⟨q, hq⟩ : ∃ q, q = ask9 mm n ev := ⟨_, rfl⟩
  rw [← hq] at AS
  have HQ := Lib.hid hq
  have HN := Lib.hid hn
  clear h hq hn
  go_enter Tryz.func12, Tryz.ntmps12
  go_wp2_with fail
  refine AS.out.mono ?_
  rintro e w2 ⟨rfl, hb⟩
  have B2 := Lib.hid hb
  clear hb AS
  by_cases h0 : q = 0
  case neg =>
    have y : (q != 0) = true := by simp [h0]
    have E : Hid (bal9 mm x n ev = false) := by show _ = _; unfold bal9; rw [← HQ.out, if_pos h0]
    clear h0
    go_wp2
    go_ret
    exact ⟨by rw [E.out]; rfl, B2.out⟩
  have hz := HQ.out.symm.trans h0
  have ha := (ask9_zero hz).1
  have hev : 0 ≤ ev ∧ ev < 4 := by simpa [inEnv] using (ask9_zero hz).2
  obtain ⟨ee, he⟩ : ∃ ee : Nat, ev = (ee : Int) := ⟨ev.toNat, by omega⟩
  subst he
  have EE : Hid (ee < 4) := by show _ < _; omega
  have E : Hid (bal9 mm x n (ee : Int) = balr (tks (opens9 (ee : Int)) (new3 mm) x n).length x n (ee : Int) (run3 (new3 mm) x n).1 (run3 (new3 mm) x n).2.1 (run3 (new3 mm) x n).2.2) := by show _ = _; unfold bal9; rw [← HQ.out, if_neg (by simp [h0])]
  obtain ⟨hrk, hm0, hn4⟩ := rk3_good (x := x) ha
  have N4 := Lib.hid hn4
  have sk0 := (sk_new hm0).1
  have ALL := Lib.hid (run3_all (x := x) sk0 rfl n hn4)
  have CD := Lib.hid (fun i (hi : i < n) => run3_code (new3 mm) x n i hi hn4 sk0 rfl)
  have SR := Lib.hid (specRunKernel_any lo (min hi w.heap.size) A n c x mm w2 HN.out (H.out.below B2.out (Nat.min_le_right _ _)))
  have WN : Hid (∀ W, Below w2.heap.size w2 W → Calls Tryz.prog 56 #[.int .i64 mm, .slice A n c, .int .i64 (ee : Int)] W fun e w' => e = .returned (.int .i64 (((tks (opens9 (ee : Int)) (new3 mm) x n).length : Nat) : Int)) ∧ Below W.heap.size W w') := fun W hW =>
    l9Windows_any lo (min hi w.heap.size) A n c x mm (ee : Int) W ha ((H.out.below B2.out (Nat.min_le_right _ _)).below hW (by have := B2.out.size; omega))
  have EVS : Hid (∀ W, Below w2.heap.size w2 W → Sl W lo (min hi w.heap.size) A (n * 7) (fun k => .int .i64 (x k))) := fun W hW => (H.out.below B2.out (Nat.min_le_right _ _)).below hW (by have := B2.out.size; omega)
  have TL := Lib.hid (tks_le (opens9 (ee : Int)) (new3 mm) x n)
  rw [hrk] at SR
  generalize (tks (opens9 (ee : Int)) (new3 mm) x n).length = wn at *
  have KD : Hid (∀ i, i < n → gi (run3 (new3 mm) x n).2.1 i = 0 → x (i * 7 + 3) = 2 → x (i * 7) = 2) := fun i hi hc hx => stp_kind (by rw [← CD.out i hi]; exact hc) hx
  obtain ⟨r, hr⟩ : ∃ r, r = run3 (new3 mm) x n := ⟨_, rfl⟩
  rw [← hr] at SR E ALL KD
  obtain ⟨K, cs, ns⟩ := r
  have LC : Hid (cs.length = n ∧ ns.length ≤ 3600 ∧ SK K) := ⟨ALL.out.2.2.1, Nat.le_trans ALL.out.2.2.2 (by omega), ALL.out.1⟩
  have KD : Hid (∀ i, i < n → gi cs i = 0 → x (i * 7 + 3) = 2 → x (i * 7) = 2) := KD.out
  have E : Hid (bal9 mm x n (ee : Int) = balr wn x n (ee : Int) K cs ns) := E.out
  subst h0
  clear hz ha hrk hm0 hn4 sk0 ALL CD HQ hr
  go_wp2_with fail
  refine SR.out.mono ?_
  rintro e w3 ⟨p, rfl, ho, hb⟩
  have ho : RQ w3 w2.heap.size w3.heap.size p K cs ns := ho
  unfold Rq.cells
  dsimp only
  obtain ⟨w4, hw4⟩ : ∃ w4, w4 = w3.alloc (.cells #[.int .i64 0, .slice p.A1 p.n1 p.c1, .slice p.A2 p.n2 p.c2, .slice p.A3 p.n3 p.c3, .int .i64 K.tick, .int .i64 K.run, .slice p.A4 p.n4 p.c4, .slice p.A5 p.n5 p.c5] 41) := ⟨_, rfl⟩
  obtain ⟨g, hg⟩ : ∃ g, g = w3.heap.size := ⟨_, rfl⟩
  have K4 : w4.heap[g]? = some (.cells #[.int .i64 0, .slice p.A1 p.n1 p.c1, .slice p.A2 p.n2 p.c2, .slice p.A3 p.n3 p.c3, .int .i64 K.tick, .int .i64 K.run, .slice p.A4 p.n4 p.c4, .slice p.A5 p.n5 p.c5] 41 (0, 0)) := by rw [hw4, hg]; exact heap_alloc_new w3 _
  have BN4 : Below w3.heap.size w3 w4 := by rw [hw4]; exact below_new w3 _
  have B4 := Lib.hid (hb.trans (BN4.mono hb.size))
  have FF : Hid (∀ W, Below w4.heap.size w4 W → (W.cell? ⟨g, 3, none⟩ = some (.slice p.A3 p.n3 p.c3) ∧ W.cell? ⟨g, 6, none⟩ = some (.slice p.A4 p.n4 p.c4) ∧ W.cell? ⟨g, 7, none⟩ = some (.slice p.A5 p.n5 p.c5)) ∧ RQ W w2.heap.size w3.heap.size p K cs ns ∧ Below w2.heap.size w2 W) := fun W hW => by
    have j := (hW.block g (Array.getElem?_eq_some_iff.1 K4).1).trans K4
    exact ⟨⟨cell_of_row W _ 3 _ _ _ j, cell_of_row W _ 6 _ _ _ j, cell_of_row W _ 7 _ _ _ j⟩, (ho.below BN4 (Nat.le_refl _)).below hW BN4.size, B4.out.trans (hW.mono B4.out.size)⟩
  have PL : Hid (p.n4 = n ∧ p.n5 = ns.length / 3 ∧ p.n5 ≤ 1200 ∧ p.n3 = 4) := by
    have a4 := ho.l4; have a5 := ho.l5; have a3 := ho.l3
    have lc := LC.out
    have l3 := lc.2.2.l3
    show _ ∧ _ ∧ _ ∧ _
    omega
  have CN : Hid (∀ kd W, Below w4.heap.size w4 W → Calls Tryz.prog 15 #[.slice p.A5 p.n5 p.c5, .int .i64 (ee : Int), .int .i64 kd] W fun e w' => e = .returned (.int .i64 (nct (gi ns) (ee : Int) kd (ns.length / 3) : Int)) ∧ Below W.heap.size W w') := fun kd W hW => by
    have rq := (FF.out W hW).2.1
    rw [← PL.out.2.1]
    exact (specCountNotes_any _ _ p.A5 p.n5 p.c5 (gi ns) (ee : Int) kd W (by have := PL.out; omega) rq.m5.sl)
  have HW4 := Lib.hid hw4; have HG := Lib.hid hg
  clear ho hb hw4 hg K4 BN4 SR
  go_upto_region 4 with (fail)
  rw [← HW4.out, ← HG.out]
  clear HW4 HG
  obtain ⟨⟨f3, f6, f7⟩, _, _⟩ := FF.out w4 (Below.refl _ _)
  go_wp2_with fail
  refine (CN.out 2 w4 (Below.refl _ _)).mono ?_
  rintro e w5 ⟨rfl, hb⟩
  have B5 := Lib.hid hb
  clear hb f3 f6 f7
  have c1 := nct_le (gi ns) (ee : Int) 1 (ns.length / 3)
  have c2 := nct_le (gi ns) (ee : Int) 2 (ns.length / 3)
  have c6 := nct_le (gi ns) (ee : Int) 6 (ns.length / 3)
  have cl := LC.out.2.1
  obtain ⟨a1, ha1⟩ : ∃ a, a = nct (gi ns) (ee : Int) 1 (ns.length / 3) := ⟨_, rfl⟩
  obtain ⟨a2, ha2⟩ : ∃ a, a = nct (gi ns) (ee : Int) 2 (ns.length / 3) := ⟨_, rfl⟩
  obtain ⟨a6, ha6⟩ : ∃ a, a = nct (gi ns) (ee : Int) 6 (ns.length / 3) := ⟨_, rfl⟩
  have CN1 := Lib.hid (fun W hW => (CN.out 1 W hW).mono fun e w' hh => (⟨hh.1, hW.trans (hh.2.mono hW.size)⟩ : _ ∧ Below w4.heap.size w4 w'))
  have CN6 := Lib.hid (CN.out 6)
  have E : Hid (bal9 mm x n (ee : Int) = if (wn : Int) ≠ (a1 : Int) + (a2 : Int) then false else if ad9 x cs (ee : Int) n = true then true else decide (gi K.ac ((ee : Int).toNat * 4 + 3) = (a6 : Int) - (a2 : Int))) := by show _ = _; rw [E.out, ha1, ha2, ha6]; rfl
  rw [← ha1] at c1 CN1
  rw [← ha6] at c6 CN6
  rw [← ha2] at c2 ⊢
  have WN1 : Hid (∀ W, Below w4.heap.size w4 W → Calls Tryz.prog 56 #[.int .i64 mm, .slice A n c, .int .i64 (ee : Int)] W fun e w' => e = .returned (.int .i64 (wn : Int)) ∧ Below w4.heap.size w4 w') := fun W hW => by
    have bw := B4.out.trans (hW.mono B4.out.size)
    exact (WN.out W bw).mono fun e w' hh => ⟨hh.1, hW.trans (hh.2.mono hW.size)⟩
  have A1 : a1 ≤ 1200 := by omega
  have A2 : a2 ≤ 1200 := by omega
  have A6 : a6 ≤ 1200 := by omega
  have WL : wn ≤ 400 := by have := TL.out; have := N4.out; omega
  clear ha1 ha2 ha6 c1 c2 c6 cl CN WN
  have KH : Hid (∀ W, Below w4.heap.size w4 W → W.cell? ⟨g, 7, none⟩ = some (.slice p.A5 p.n5 p.c5) ∧ Below w4.heap.size w4 W) := fun W hW => ⟨(FF.out W hW).1.2.2, hW⟩
  have wr1 : IntKind.i64.wrap ((a1 : Int) + (a2 : Int)) = (a1 : Int) + (a2 : Int) := IntWalk.i64_in _ (by omega)
  go_upto_region 5 with (fail)
  by_cases e0 : (wn : Int) = (a1 : Int) + (a2 : Int)
  case neg =>
    have y : ((wn : Int) != (a1 : Int) + (a2 : Int)) = true := by simp [e0]
    have E2 : Hid (bal9 mm x n (ee : Int) = false) := by show _ = _; rw [E.out, if_pos e0]
    clear e0
    refine wp_region_held_drew (S := fun W => W.cell? ⟨g, 7, none⟩ = some (.slice p.A5 p.n5 p.c5) ∧ Below w4.heap.size w4 W) (by kernel_rfl) (KH.out _ B5.out.drew) (fun hHeld => ?_)
    obtain ⟨v0, hv0⟩ : ∃ v0, v0 = w5.drew := ⟨_, rfl⟩
    have BL0 : Hid (Below w5.heap.size w5 v0) := by rw [hv0]; exact Below.drew (Below.refl _ _)
    rw [← hv0] at hHeld ⊢
    clear hv0
    refine tkH 0 ?_ rfl ?_ hHeld ?_; rotate_left; (intro w hSw; (try dsimp only at hSw); go_simp; try with_reducible rfl); try simp only [Act.put, zz1, zz2, zz3, zz4, zz5, zz6]
    refine tkH 1 ?_ rfl ?_ hHeld ?_; rotate_left; (intro w hSw; (try dsimp only at hSw); go_simp; try with_reducible rfl); try simp only [Act.put, zz1, zz2, zz3, zz4, zz5, zz6]
    refine tkH 2 ?_ rfl ?_ hHeld ?_; rotate_left; (intro w hSw; (try dsimp only at hSw); go_simp; try with_reducible rfl); try simp only [Act.put, zz1, zz2, zz3, zz4, zz5, zz6]
    refine tkH 4 ?_ rfl ?_ hHeld ?_; rotate_left; (intro w hSw; (try dsimp only at hSw); go_simp; try with_reducible rfl); try simp only [Act.put, zz1, zz2, zz3, zz4, zz5, zz6]
    refine tkH 5 ?_ rfl ?_ hHeld ?_; rotate_left; (intro w hSw; (try dsimp only at hSw); go_simp; try with_reducible rfl); try simp only [Act.put, zz1, zz2, zz3, zz4, zz5, zz6]
    refine tkH 6 ?_ rfl ?_ hHeld ?_; rotate_left; (intro w hSw; (try dsimp only at hSw); go_simp; try with_reducible rfl); try simp only [Act.put, zz1, zz2, zz3, zz4, zz5, zz6]
    refine tkH 8 ?_ rfl ?_ hHeld ?_; rotate_left; (intro w hSw; (try dsimp only at hSw); go_simp; try with_reducible rfl); try simp only [Act.put, zz1, zz2, zz3, zz4, zz5, zz6]
    refine wpAnyH_ready (rs := [3]) (by kernel_rfl) (by simp) ?_
    refine AllReadyH.cons (o := _) rfl (fun K0 hK0 => ?_) AllReadyH.nil
    go_simp
    refine (WN1.out _ (by go_split_ands; assumption)).mono ?_
    rintro e9 w9 ⟨rfl, hb9⟩
    go_wp2_with fail
    have HB9 := Lib.hid hb9
    refine hK0.out _ _ (KH.out _ hb9) (fun hHeld => ?_)
    clear hK0 K0
    try simp only [Act.put, zz1, zz2, zz3, zz4, zz5, zz6]
    refine wpAnyH_ready (rs := [7]) (by kernel_rfl) (by simp) ?_
    refine AllReadyH.cons (o := _) rfl (fun K0 hK0 => ?_) AllReadyH.nil
    go_simp
    refine (CN1.out _ (by go_split_ands; assumption)).mono ?_
    rintro e9 w9 ⟨rfl, hb9⟩
    go_wp2_with fail
    have HB9 := Lib.hid hb9
    refine hK0.out _ _ (KH.out _ hb9) (fun hHeld => ?_)
    clear hK0 K0
    try simp only [Act.put, zz1, zz2, zz3, zz4, zz5, zz6]
    refine tkH 9 ?_ rfl ?_ hHeld ?_; rotate_left; (intro w hSw; (try dsimp only at hSw); go_simp; try with_reducible rfl); try simp only [Act.put, zz1, zz2, zz3, zz4, zz5, zz6]
    refine tkH 10 ?_ rfl ?_ hHeld ?_; rotate_left; (intro w hSw; (try dsimp only at hSw); go_simp; try with_reducible rfl); try simp only [Act.put, zz1, zz2, zz3, zz4, zz5, zz6]
    refine wpAnyH_done (by kernel_rfl) ?_ _
    go_wp2
    go_ret
    exact ⟨by rw [E2.out]; first | done | rfl, B2.out.trans ((B4.out.trans (HB9.out.mono B4.out.size)).mono B2.out.size)⟩
  have y : ((wn : Int) != (a1 : Int) + (a2 : Int)) = false := by simp [e0]
  have E : Hid (bal9 mm x n (ee : Int) = if ad9 x cs (ee : Int) n = true then true else decide (gi K.ac ((ee : Int).toNat * 4 + 3) = (a6 : Int) - (a2 : Int))) := by show _ = _; rw [E.out, if_neg (by simp [e0])]
  clear e0
  refine wp_region_held_drew (S := fun W => W.cell? ⟨g, 7, none⟩ = some (.slice p.A5 p.n5 p.c5) ∧ Below w4.heap.size w4 W) (by kernel_rfl) (KH.out _ B5.out.drew) (fun hHeld => ?_)
  obtain ⟨v0, hv0⟩ : ∃ v0, v0 = w5.drew := ⟨_, rfl⟩
  have BL0 : Hid (Below w5.heap.size w5 v0) := by rw [hv0]; exact Below.drew (Below.refl _ _)
  rw [← hv0] at hHeld ⊢
  clear hv0
  refine tkH 0 ?_ rfl ?_ hHeld ?_; rotate_left; (intro w hSw; (try dsimp only at hSw); go_simp; try with_reducible rfl); try simp only [Act.put, zz1, zz2, zz3, zz4, zz5, zz6]
  refine tkH 1 ?_ rfl ?_ hHeld ?_; rotate_left; (intro w hSw; (try dsimp only at hSw); go_simp; try with_reducible rfl); try simp only [Act.put, zz1, zz2, zz3, zz4, zz5, zz6]
  refine tkH 2 ?_ rfl ?_ hHeld ?_; rotate_left; (intro w hSw; (try dsimp only at hSw); go_simp; try with_reducible rfl); try simp only [Act.put, zz1, zz2, zz3, zz4, zz5, zz6]
  refine tkH 4 ?_ rfl ?_ hHeld ?_; rotate_left; (intro w hSw; (try dsimp only at hSw); go_simp; try with_reducible rfl); try simp only [Act.put, zz1, zz2, zz3, zz4, zz5, zz6]
  refine tkH 5 ?_ rfl ?_ hHeld ?_; rotate_left; (intro w hSw; (try dsimp only at hSw); go_simp; try with_reducible rfl); try simp only [Act.put, zz1, zz2, zz3, zz4, zz5, zz6]
  refine tkH 6 ?_ rfl ?_ hHeld ?_; rotate_left; (intro w hSw; (try dsimp only at hSw); go_simp; try with_reducible rfl); try simp only [Act.put, zz1, zz2, zz3, zz4, zz5, zz6]
  refine tkH 8 ?_ rfl ?_ hHeld ?_; rotate_left; (intro w hSw; (try dsimp only at hSw); go_simp; try with_reducible rfl); try simp only [Act.put, zz1, zz2, zz3, zz4, zz5, zz6]
  refine wpAnyH_ready (rs := [3]) (by kernel_rfl) (by simp) ?_
  refine AllReadyH.cons (o := _) rfl (fun K0 hK0 => ?_) AllReadyH.nil
  go_simp
  refine (WN1.out _ (by go_split_ands; assumption)).mono ?_
  rintro e9 w9 ⟨rfl, hb9⟩
  go_wp2_with fail
  have HB9 := Lib.hid hb9
  refine hK0.out _ _ (KH.out _ hb9) (fun hHeld => ?_)
  clear hK0 K0
  try simp only [Act.put, zz1, zz2, zz3, zz4, zz5, zz6]
  refine wpAnyH_ready (rs := [7]) (by kernel_rfl) (by simp) ?_
  refine AllReadyH.cons (o := _) rfl (fun K0 hK0 => ?_) AllReadyH.nil
  go_simp
  refine (CN1.out _ (by go_split_ands; assumption)).mono ?_
  rintro e9 w9 ⟨rfl, hb9⟩
  go_wp2_with fail
  have HB9 := Lib.hid hb9
  refine hK0.out _ _ (KH.out _ hb9) (fun hHeld => ?_)
  clear hK0 K0
  try simp only [Act.put, zz1, zz2, zz3, zz4, zz5, zz6]
  refine tkH 9 ?_ rfl ?_ hHeld ?_; rotate_left; (intro w hSw; (try dsimp only at hSw); go_simp; try with_reducible rfl); try simp only [Act.put, zz1, zz2, zz3, zz4, zz5, zz6]
  refine tkH 10 ?_ rfl ?_ hHeld ?_; rotate_left; (intro w hSw; (try dsimp only at hSw); go_simp; try with_reducible rfl); try simp only [Act.put, zz1, zz2, zz3, zz4, zz5, zz6]
  refine wpAnyH_done (by kernel_rfl) ?_ _
  have B6 := HB9
  clear y wr1 hHeld
  obtain ⟨w6, hw6⟩ : ∃ w6, w6 = w9 := ⟨_, rfl⟩
  subst hw6
  go_wp2_with fail
  go_loopw [9] (fun i wr => ∃ k : Nat, k ≤ n ∧ i = .int .i64 (k : Int) ∧ ad9 x cs (ee : Int) k = false ∧ Below w4.heap.size w4 wr) (fun i _ => n - (intOf i).toNat)
  case atStart => exact ⟨0, Nat.zero_le _, rfl, rfl, B6.out⟩
  case round =>
    obtain ⟨k, hk, rfl, had, hb⟩ := hrel
    have BR := Lib.hid hb
    have HAD := Lib.hid had
    by_cases hlt : k < n
    · obtain ⟨⟨_, f6, _⟩, rq, bw⟩ := FF.out wr hb
      obtain ⟨bc, oc, hA4, _, _, hcc⟩ := rq.m4.sl.at_ (show k < p.n4 by have := PL.out; omega)
      obtain ⟨b, off, rfl, h1, h2, hc⟩ := (EVS.out wr bw).at_ (show k * 7 < n * 7 by omega)
      have c0 : wr.cell? ⟨bc, oc + k, none⟩ = some (.int .i64 (gi cs k)) := hcc k (by have := PL.out; omega)
      have v0 : wr.cell? ⟨b, off + k * 7, none⟩ = some (.int .i64 (x (k * 7))) := hc (k * 7) (by omega)
      have v3 : wr.cell? ⟨b, off + k * 7 + 3, none⟩ = some (.int .i64 (x (k * 7 + 3))) := hc (k * 7 + 3) (by omega)
      have v4 : wr.cell? ⟨b, off + k * 7 + 4, none⟩ = some (.int .i64 (x (k * 7 + 4))) := hc (k * 7 + 4) (by omega)
      have AN : Hid (ad9 x cs (ee : Int) (k + 1) = (ad9 x cs (ee : Int) k || decide (gi cs k = 0 ∧ x (k * 7 + 3) = 2 ∧ x (k * 7 + 4) = (ee : Int)))) := rfl
      have AT : Hid (gi cs k = 0 → x (k * 7 + 3) = 2 → x (k * 7 + 4) = (ee : Int) → ad9 x cs (ee : Int) n = true) := fun q1 q2 q3 => (ad9_true n).2 ⟨k, hlt, q1, q2, q3⟩
      have KK : Hid (gi cs k = 0 → x (k * 7 + 3) = 2 → x (k * 7) = 2) := KD.out k hlt
      rw [hA4] at f6
      have z0 : (0 : Int) ≤ (k : Int) := by omega
      have z1 : (k : Int) < (n : Int) := by omega
      have z2 : p.n4 = n := PL.out.1
      have hn4 : n ≤ 400 := N4.out
      rw [z2] at f6
      clear hA4 hcc hc hb had rq bw z2
      generalize gi cs k = u0 at *
      generalize x (k * 7) = u1 at *
      generalize x (k * 7 + 3) = u2 at *
      generalize x (k * 7 + 4) = u3 at *
      by_cases e0 : u0 = 0
      case neg =>
        have y0 : (u0 == 0) = false := by simp [e0]
        have E2 : Hid (ad9 x cs (ee : Int) (k + 1) = false) := by show _ = _; rw [AN.out, HAD.out]; simp [e0]
        clear e0
        go_wp2
        go_roundw
        case rel => exact ⟨k + 1, by omega, by go_num, E2.out, BR.out⟩
        case measure => simp [intOf]; omega
      have y0 : (u0 == 0) = true := by simp [e0]
      by_cases e1 : u1 = 2
      case neg =>
        have y1 : (u1 == 2) = false := by simp [e1]
        have E2 : Hid (ad9 x cs (ee : Int) (k + 1) = false) := by
          show _ = _
          rw [AN.out, HAD.out]
          have : ¬ u2 = 2 := fun hh => e1 (KK.out e0 hh)
          simp [this]
        clear e0 e1
        go_wp2
        go_roundw
        case rel => exact ⟨k + 1, by omega, by go_num, E2.out, BR.out⟩
        case measure => simp [intOf]; omega
      have y1 : (u1 == 2) = true := by simp [e1]
      by_cases e2 : u2 = 2
      case neg =>
        have y2 : (u2 == 2) = false := by simp [e2]
        have E2 : Hid (ad9 x cs (ee : Int) (k + 1) = false) := by show _ = _; rw [AN.out, HAD.out]; simp [e2]
        clear e0 e1 e2
        go_wp2
        go_roundw
        case rel => exact ⟨k + 1, by omega, by go_num, E2.out, BR.out⟩
        case measure => simp [intOf]; omega
      have y2 : (u2 == 2) = true := by simp [e2]
      by_cases e3 : u3 = (ee : Int)
      case neg =>
        have y3 : (u3 == (ee : Int)) = false := by simp [e3]
        have E2 : Hid (ad9 x cs (ee : Int) (k + 1) = false) := by show _ = _; rw [AN.out, HAD.out]; simp [e3]
        clear e0 e1 e2 e3
        go_wp2
        go_roundw
        case rel => exact ⟨k + 1, by omega, by go_num, E2.out, BR.out⟩
        case measure => simp [intOf]; omega
      have y3 : (u3 == (ee : Int)) = true := by simp [e3]
      have E2 : Hid (bal9 mm x n (ee : Int) = true) := by show _ = _; rw [E.out, if_pos (AT.out e0 e2 e3)]
      clear e0 e1 e2 e3
      go_wp2
      go_ret
      exact ⟨by rw [E2.out]; first | done | rfl, B2.out.trans ((B4.out.trans (BR.out.mono B4.out.size)).mono B2.out.size)⟩
    · obtain rfl : k = n := by omega
      have hkn : ¬ ((k : Int) < (k : Int)) := by omega
      obtain ⟨_, rq, _⟩ := FF.out wr hb
      obtain ⟨ba, oa, hA3, _, _, hca⟩ := rq.m3.sl.at_ (show ee * 4 + 3 < p.n3 * 4 by have := PL.out; have := EE.out; omega)
      have d0 : wr.cell? ⟨ba, oa + (ee * 4 + 3), none⟩ = some (.int .i64 (gi K.ac (ee * 4 + 3))) := hca (ee * 4 + 3) (by have := PL.out; have := EE.out; omega)
      have E2 : Hid (bal9 mm x k (ee : Int) = decide (gi K.ac (ee * 4 + 3) = (a6 : Int) - (a2 : Int))) := by show _ = _; rw [E.out, HAD.out, if_neg (by simp), Int.toNat_natCast]
      have KH2 : Hid (∀ W, Below wr.heap.size wr W → (W.cell? ⟨g, 3, none⟩ = some (.slice (some ⟨ba, oa, none⟩) 4 p.c3) ∧ W.cell? ⟨g, 7, none⟩ = some (.slice p.A5 p.n5 p.c5) ∧ W.cell? ⟨ba, oa + ee * 4 + 3, none⟩ = some (.int .i64 (gi K.ac (ee * 4 + 3)))) ∧ Below wr.heap.size wr W) := fun W hW => by
        obtain ⟨⟨f3, _, f7⟩, _, _⟩ := FF.out W (BR.out.trans (hW.mono BR.out.size))
        rw [hA3, PL.out.2.2.2] at f3
        exact ⟨⟨f3, f7, (hW.cell (World.block_lt_of_cell? _ _ d0)).trans d0⟩, hW⟩
      have CN7 : Hid (∀ W, Below wr.heap.size wr W → Calls Tryz.prog 15 #[.slice p.A5 p.n5 p.c5, .int .i64 (ee : Int), .int .i64 6] W fun e w' => e = .returned (.int .i64 (a6 : Int)) ∧ Below wr.heap.size wr w') := fun W hW => by
        have rq := (FF.out W (BR.out.trans (hW.mono BR.out.size))).2.1
        exact (CN6.out W (BR.out.trans (hW.mono BR.out.size))).mono fun e w' hh => ⟨hh.1, hW.trans (hh.2.mono hW.size)⟩
      generalize gi K.ac (ee * 4 + 3) = db at *
      have z3 : (0 : Int) ≤ (ee : Int) := by omega
      have z4 : (ee : Int) < 4 := by have := EE.out; omega
      have wr1 : IntKind.i64.wrap ((a6 : Int) - (a2 : Int)) = (a6 : Int) - (a2 : Int) := IntWalk.i64_in _ (by omega)
      clear hA3 hca rq d0 hb had
      go_upto_region 12 with (fail)
      by_cases e0 : db = (a6 : Int) - (a2 : Int)
      · have y : (db == (a6 : Int) - (a2 : Int)) = true := by simp [e0]
        have E3 : Hid (bal9 mm x k (ee : Int) = true) := by show _ = _; rw [E2.out]; simp [e0]
        clear e0
        refine wp_region_held_drew (S := fun W => (W.cell? ⟨g, 3, none⟩ = some (.slice (some ⟨ba, oa, none⟩) 4 p.c3) ∧ W.cell? ⟨g, 7, none⟩ = some (.slice p.A5 p.n5 p.c5) ∧ W.cell? ⟨ba, oa + ee * 4 + 3, none⟩ = some (.int .i64 db)) ∧ Below wr.heap.size wr W) (by kernel_rfl) (KH2.out _ (Below.drew (Below.refl _ _))) (fun hHeld => ?_)
        obtain ⟨v0, hv0⟩ : ∃ v0, v0 = wr.drew := ⟨_, rfl⟩
        have BL0 : Hid (Below wr.heap.size wr v0) := by rw [hv0]; exact Below.drew (Below.refl _ _)
        rw [← hv0] at hHeld ⊢
        clear hv0
        refine tkH 0 ?_ rfl ?_ hHeld ?_; rotate_left; (intro w hSw; (try dsimp only at hSw); go_simp; try with_reducible rfl); try simp only [Act.put, zz1, zz2, zz3, zz4, zz5, zz6]
        refine tkH 1 ?_ rfl ?_ hHeld ?_; rotate_left; (intro w hSw; (try dsimp only at hSw); go_simp; try with_reducible rfl); try simp only [Act.put, zz1, zz2, zz3, zz4, zz5, zz6]
        refine tkH 2 ?_ rfl ?_ hHeld ?_; rotate_left; (intro w hSw; (try dsimp only at hSw); go_simp; try with_reducible rfl); try simp only [Act.put, zz1, zz2, zz3, zz4, zz5, zz6]
        refine tkH 3 ?_ rfl ?_ hHeld ?_; rotate_left; (intro w hSw; (try dsimp only at hSw); go_simp; try with_reducible rfl); try simp only [Act.put, zz1, zz2, zz3, zz4, zz5, zz6]
        refine tkH 4 ?_ rfl ?_ hHeld ?_; rotate_left; (intro w hSw; (try dsimp only at hSw); go_simp; try with_reducible rfl); try simp only [Act.put, zz1, zz2, zz3, zz4, zz5, zz6]
        refine tkH 5 ?_ rfl ?_ hHeld ?_; rotate_left; (intro w hSw; (try dsimp only at hSw); go_simp; try with_reducible rfl); try simp only [Act.put, zz1, zz2, zz3, zz4, zz5, zz6]
        refine tkH 6 ?_ rfl ?_ hHeld ?_; rotate_left; (intro w hSw; (try dsimp only at hSw); go_simp; try with_reducible rfl); try simp only [Act.put, zz1, zz2, zz3, zz4, zz5, zz6]
        refine tkH 7 ?_ rfl ?_ hHeld ?_; rotate_left; (intro w hSw; (try dsimp only at hSw); go_simp; try with_reducible rfl); try simp only [Act.put, zz1, zz2, zz3, zz4, zz5, zz6]
        refine tkH 8 ?_ rfl ?_ hHeld ?_; rotate_left; (intro w hSw; (try dsimp only at hSw); go_simp; try with_reducible rfl); try simp only [Act.put, zz1, zz2, zz3, zz4, zz5, zz6]
        refine tkH 9 ?_ rfl ?_ hHeld ?_; rotate_left; (intro w hSw; (try dsimp only at hSw); go_simp; try with_reducible rfl); try simp only [Act.put, zz1, zz2, zz3, zz4, zz5, zz6]
        refine tkH 11 ?_ rfl ?_ hHeld ?_; rotate_left; (intro w hSw; (try dsimp only at hSw); go_simp; try with_reducible rfl); try simp only [Act.put, zz1, zz2, zz3, zz4, zz5, zz6]
        refine wpAnyH_ready (rs := [10]) (by kernel_rfl) (by simp) ?_
        refine AllReadyH.cons (o := _) rfl (fun K0 hK0 => ?_) AllReadyH.nil
        go_simp
        refine (CN7.out _ (by go_split_ands; assumption)).mono ?_
        rintro e9 w9 ⟨rfl, hb9⟩
        go_wp2_with fail
        have HB9 := Lib.hid hb9
        refine hK0.out _ _ (KH2.out _ hb9) (fun hHeld => ?_)
        clear hK0 K0
        try simp only [Act.put, zz1, zz2, zz3, zz4, zz5, zz6]
        refine tkH 12 ?_ rfl ?_ hHeld ?_; rotate_left; (intro w hSw; (try dsimp only at hSw); go_simp; try with_reducible rfl); try simp only [Act.put, zz1, zz2, zz3, zz4, zz5, zz6]
        refine tkH 13 ?_ rfl ?_ hHeld ?_; rotate_left; (intro w hSw; (try dsimp only at hSw); go_simp; try with_reducible rfl); try simp only [Act.put, zz1, zz2, zz3, zz4, zz5, zz6]
        refine tkH 14 ?_ rfl ?_ hHeld ?_; rotate_left; (intro w hSw; (try dsimp only at hSw); go_simp; try with_reducible rfl); try simp only [Act.put, zz1, zz2, zz3, zz4, zz5, zz6]
        refine wpAnyH_done (by kernel_rfl) ?_ _
        go_wp2
        go_ret
        exact ⟨by rw [E3.out]; first | done | rw [y] | simp [y], B2.out.trans ((B4.out.trans ((BR.out.trans (HB9.out.mono BR.out.size)).mono B4.out.size)).mono B2.out.size)⟩
      · have y : (db == (a6 : Int) - (a2 : Int)) = false := by simp [e0]
        have E3 : Hid (bal9 mm x k (ee : Int) = false) := by show _ = _; rw [E2.out]; simp [e0]
        clear e0
        refine wp_region_held_drew (S := fun W => (W.cell? ⟨g, 3, none⟩ = some (.slice (some ⟨ba, oa, none⟩) 4 p.c3) ∧ W.cell? ⟨g, 7, none⟩ = some (.slice p.A5 p.n5 p.c5) ∧ W.cell? ⟨ba, oa + ee * 4 + 3, none⟩ = some (.int .i64 db)) ∧ Below wr.heap.size wr W) (by kernel_rfl) (KH2.out _ (Below.drew (Below.refl _ _))) (fun hHeld => ?_)
        obtain ⟨v0, hv0⟩ : ∃ v0, v0 = wr.drew := ⟨_, rfl⟩
        have BL0 : Hid (Below wr.heap.size wr v0) := by rw [hv0]; exact Below.drew (Below.refl _ _)
        rw [← hv0] at hHeld ⊢
        clear hv0
        refine tkH 0 ?_ rfl ?_ hHeld ?_; rotate_left; (intro w hSw; (try dsimp only at hSw); go_simp; try with_reducible rfl); try simp only [Act.put, zz1, zz2, zz3, zz4, zz5, zz6]
        refine tkH 1 ?_ rfl ?_ hHeld ?_; rotate_left; (intro w hSw; (try dsimp only at hSw); go_simp; try with_reducible rfl); try simp only [Act.put, zz1, zz2, zz3, zz4, zz5, zz6]
        refine tkH 2 ?_ rfl ?_ hHeld ?_; rotate_left; (intro w hSw; (try dsimp only at hSw); go_simp; try with_reducible rfl); try simp only [Act.put, zz1, zz2, zz3, zz4, zz5, zz6]
        refine tkH 3 ?_ rfl ?_ hHeld ?_; rotate_left; (intro w hSw; (try dsimp only at hSw); go_simp; try with_reducible rfl); try simp only [Act.put, zz1, zz2, zz3, zz4, zz5, zz6]
        refine tkH 4 ?_ rfl ?_ hHeld ?_; rotate_left; (intro w hSw; (try dsimp only at hSw); go_simp; try with_reducible rfl); try simp only [Act.put, zz1, zz2, zz3, zz4, zz5, zz6]
        refine tkH 5 ?_ rfl ?_ hHeld ?_; rotate_left; (intro w hSw; (try dsimp only at hSw); go_simp; try with_reducible rfl); try simp only [Act.put, zz1, zz2, zz3, zz4, zz5, zz6]
        refine tkH 6 ?_ rfl ?_ hHeld ?_; rotate_left; (intro w hSw; (try dsimp only at hSw); go_simp; try with_reducible rfl); try simp only [Act.put, zz1, zz2, zz3, zz4, zz5, zz6]
        refine tkH 7 ?_ rfl ?_ hHeld ?_; rotate_left; (intro w hSw; (try dsimp only at hSw); go_simp; try with_reducible rfl); try simp only [Act.put, zz1, zz2, zz3, zz4, zz5, zz6]
        refine tkH 8 ?_ rfl ?_ hHeld ?_; rotate_left; (intro w hSw; (try dsimp only at hSw); go_simp; try with_reducible rfl); try simp only [Act.put, zz1, zz2, zz3, zz4, zz5, zz6]
        refine tkH 9 ?_ rfl ?_ hHeld ?_; rotate_left; (intro w hSw; (try dsimp only at hSw); go_simp; try with_reducible rfl); try simp only [Act.put, zz1, zz2, zz3, zz4, zz5, zz6]
        refine tkH 11 ?_ rfl ?_ hHeld ?_; rotate_left; (intro w hSw; (try dsimp only at hSw); go_simp; try with_reducible rfl); try simp only [Act.put, zz1, zz2, zz3, zz4, zz5, zz6]
        refine wpAnyH_ready (rs := [10]) (by kernel_rfl) (by simp) ?_
        refine AllReadyH.cons (o := _) rfl (fun K0 hK0 => ?_) AllReadyH.nil
        go_simp
        refine (CN7.out _ (by go_split_ands; assumption)).mono ?_
        rintro e9 w9 ⟨rfl, hb9⟩
        go_wp2_with fail
        have HB9 := Lib.hid hb9
        refine hK0.out _ _ (KH2.out _ hb9) (fun hHeld => ?_)
        clear hK0 K0
        try simp only [Act.put, zz1, zz2, zz3, zz4, zz5, zz6]
        refine tkH 12 ?_ rfl ?_ hHeld ?_; rotate_left; (intro w hSw; (try dsimp only at hSw); go_simp; try with_reducible rfl); try simp only [Act.put, zz1, zz2, zz3, zz4, zz5, zz6]
        refine tkH 13 ?_ rfl ?_ hHeld ?_; rotate_left; (intro w hSw; (try dsimp only at hSw); go_simp; try with_reducible rfl); try simp only [Act.put, zz1, zz2, zz3, zz4, zz5, zz6]
        refine tkH 14 ?_ rfl ?_ hHeld ?_; rotate_left; (intro w hSw; (try dsimp only at hSw); go_simp; try with_reducible rfl); try simp only [Act.put, zz1, zz2, zz3, zz4, zz5, zz6]
        refine wpAnyH_done (by kernel_rfl) ?_ _
        go_wp2
        go_ret
        exact ⟨by rw [E3.out]; first | done | rw [y] | simp [y], B2.out.trans ((B4.out.trans ((BR.out.trans (HB9.out.mono BR.out.size)).mono B4.out.size)).mono B2.out.size)⟩

end Go.Proofs.YtckapndpefkcgaaGreat
