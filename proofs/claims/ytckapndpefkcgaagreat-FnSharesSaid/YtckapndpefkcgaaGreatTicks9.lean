/-
  The program's ticksWhere: the ticks ahead of which something was so. No conditions beyond that the events can be read, and are not of the call's own memory.
-/
import Derived.Maps.AppendAt
import Derived.Test.YtckapndpefkcgaaGreatAudit9
import Derived.Test.YtckapndpefkcgaaGreatMeetA9
import Derived.Test.YtckapndpefkcgaaGreatU8s
set_option maxHeartbeats 1000000
namespace Go.Proofs.YtckapndpefkcgaaGreat
open List renaming getElem_toArray → zz1, getElem_cons_succ → zz2, getElem_cons_zero → zz3, setIfInBounds_toArray → zz4, set_cons_zero → zz5, set_cons_succ → zz6
open Go.RowKit
set_option maxRecDepth 100000

theorem LoopA.guest {w W : World} {h : Nat} {p : Kp} {K : Ker} {A4 : Option Addr} {k c4 : Nat} {cs : List Int} {A5 : Option Addr} {m c5 : Nat} {ns : List Int} {ev : Int} {G : Gst} (J : LoopA w W h p K A4 k c4 cs A5 m c5 ns ev G) (q : Int) {V : World} {A' : Option Addr} {cap : Nat} (hown : OR 2 1 V w.heap.size A' (G.n + 1) cap (G.ts ++ [q])) (hg : (W.alloc (.cells #[.int .i64 q] 2)).grownBy V (Value.slice G.T G.n G.c).ownBlock)
    (hat : (Value.slice A' (G.n + 1) cap).ownBlock = (Value.slice G.T G.n G.c).ownBlock ∨ (Value.slice A' (G.n + 1) cap).ownBlock = some (W.alloc (.cells #[.int .i64 q] 2)).heap.size) :
    LoopA w V h p K A4 k c4 cs A5 m c5 ns ev ⟨A', G.n + 1, cap, G.ts ++ [q], G.B, G.bt, G.cs⟩ := by
  obtain ⟨x1, hx1⟩ := mine_blk J.own.m1 (by have := J.n1; omega)
  obtain ⟨x2, hx2⟩ := mine_blk J.own.m2 (by decide)
  obtain ⟨x3, hx3⟩ := mine_blk J.own.m3 (by decide)
  have KV : ∀ b, b < W.heap.size → some b ≠ (Value.slice G.T G.n G.c).ownBlock → V.heap[b]? = W.heap[b]? := fun b hb hne => (hg.block b (by simp; omega) hne).trans (Below.heap_alloc _ _ _ hb)
  have lt : ∀ {b : Nat} {o : Obj}, W.heap[b]? = some o → b < W.heap.size := fun hb' => (Array.getElem?_eq_some_iff.1 hb').1
  have k1 := KV _ (lt hx1) (own_ap3 J.og fun b e => (J.gp b e).1)
  have k2 := KV _ (lt hx2) (own_ne3 hx2 (by decide) J.og)
  have k3 := KV _ (lt hx3) (own_ne3 hx3 (by decide) J.og)
  have hz : w.heap.size ≤ W.heap.size := J.bw.size
  have bV : Below w.heap.size w V := (J.bw.alloc hz _).grown hg (by simp; omega) (fun b e => by
    have hoc := J.og
    obtain ⟨GT, Gn, Gc, Gts, GB, Gbt, Gcs⟩ := G
    rcases GT with _ | ad
    · cases e
    · obtain ⟨b', e1, h1, _⟩ := OR.at_ hoc (by simp)
      injection e1 with e1
      subst e1
      have e2 : b' = b := Option.some.inj e
      omega)
  have bn : ∀ b, A' = some ⟨b, 0, none⟩ → (some b = (Value.slice G.T G.n G.c).ownBlock ∨ W.heap.size ≤ b) := fun b e => by
    subst e
    rcases hat with h1 | h1
    · exact .inl h1
    · have e2 : b = (W.alloc (.cells #[.int .i64 q] 2)).heap.size := Option.some.inj h1
      simp at e2
      exact .inr (by omega)
  refine ⟨J.own.keepB k1 k2 k3, J.n1, (KV _ (lt J.box) (own_ne3 J.box (by decide) J.og)).trans J.box, J.oc.keepAll (fun b e => ?_), J.on.keepAll (fun b e => ?_), J.ap, J.lo, bV, hown, fun b e => ⟨?_, fun e4 => ?_⟩, fun b e => ⟨(J.ob b e).1, (KV _ (lt (J.ob b e).2.1) (own_ne3 (J.ob b e).2.1 (J.ob b e).2.2.2.1.symm J.og)).trans (J.ob b e).2.1, (J.ob b e).2.2⟩⟩
  · have hoc := J.oc
    rw [e] at hoc
    obtain ⟨_, hx⟩ := or_blk hoc
    exact KV _ (lt hx) (own_ap3 J.og fun b' e' hb => (J.gp b' e').2 (by rw [e, hb]))
  · have hoc := J.on
    rw [e] at hoc
    obtain ⟨_, hx⟩ := or_blk hoc
    exact KV _ (lt hx) (own_ne3 hx (by decide) J.og)
  · intro hb
    rcases bn b e with h1 | h1
    · exact own_ap3 J.og (fun b' e' hb' => (J.gp b' e').1 (hb'.trans hb)) h1
    · have := lt hx1
      omega
  · rcases bn b e with h1 | h1
    · exact own_ap3 J.og (fun b' e' hb' => (J.gp b' e').2 (by rw [hb']; exact e4)) h1
    · have hoc := J.oc
      rw [e4] at hoc
      have := hoc.lt
      omega

set_option maxHeartbeats 16000000 in
theorem ticksO_any {n : Nat} {w W : World} {h : Nat} {p0 : Kp} {mm ev : Int} {GB : Option Nat} {Gt : TypeId} {Gc : Array Value} (J0 : LoopA w W h p0 (new3 mm) none 0 0 [] none 0 0 [] ev ⟨none, 0, 0, [], GB, Gt, Gc⟩) (ha : ask3 mm n = 0) (A : Option Addr) (c lo hi : Nat) (x : Nat → Int) (hs : Sl W lo hi A (n * 7) (fun k => .int .i64 (x k))) (hhi : hi ≤ w.heap.size) :
    Calls Tryz.prog 47 #[.pointer (some ⟨h, 0, none⟩), .slice A n c, .func (.func 48) #[] #[]] W fun e W' => ∃ (p : Kp) (A4 : Option Addr) (c4 : Nat) (A5 : Option Addr) (m c5 : Nat) (T : Option Addr) (tn tc : Nat), e = .returned (.slice T tn tc) ∧ LoopA w W' h p (run3 (new3 mm) x n).1 A4 n c4 (run3 (new3 mm) x n).2.1 A5 m c5 (run3 (new3 mm) x n).2.2 ev ⟨T, tn, tc, tks (opens9 ev) (new3 mm) x n, GB, Gt, Gc⟩ ∧ Below w.heap.size w W' := by
  obtain ⟨i0, hi0, hz0, hz1, hz2⟩ := info_parts Tryz.info_i64
  have J0 := Lib.hid J0
  have H : Hid (∀ V, Below w.heap.size w V → Sl V lo hi A (n * 7) (fun k => .int .i64 (x k))) := fun V hV k hk => by
    obtain ⟨b, off, e, h1, h2, hc⟩ := hs k hk
    refine ⟨b, off, e, h1, h2, ?_⟩
    have hb : b < w.heap.size := by omega
    exact (hV.cell (p := ⟨b, off + k, none⟩) hb).trans ((J0.out.bw.cell (p := ⟨b, off + k, none⟩) hb).symm.trans hc)
  obtain ⟨_, hm0, hn4⟩ := rk3_good (x := x) ha
  have N4 := Lib.hid hn4
  obtain ⟨sk0, hlen, hm1, hm2⟩ := sk_new hm0
  have ALL := Lib.hid (run3_all (x := x) sk0 rfl)
  clear hs hhi ha hm0 hn4 hlen hm1 hm2 sk0
  go_enter Tryz.func47, Tryz.ntmps47
  go_wp2_with fail
  go_loopw [7, 14] (fun v i wr => ∃ (k : Nat) (p : Kp) (A4 : Option Addr) (c4 : Nat) (A5 : Option Addr) (m c5 : Nat) (T : Option Addr) (tn tc : Nat), k ≤ n ∧ i = .int .i64 (k : Int) ∧ v = .slice T tn tc ∧ LoopA w wr h p (run3 (new3 mm) x k).1 A4 k c4 (run3 (new3 mm) x k).2.1 A5 m c5 (run3 (new3 mm) x k).2.2 ev ⟨T, tn, tc, tks (opens9 ev) (new3 mm) x k, GB, Gt, Gc⟩) (fun _ i _ => n - (intOf i).toNat)
  case atStart => exact ⟨0, _, none, 0, none, 0, 0, none, 0, 0, Nat.zero_le _, rfl, rfl, J0.out⟩
  case round =>
    obtain ⟨k, p, A4, c4, A5, m, c5, T, tn, tc, hk, rfl, rfl, hJ⟩ := hrel
    have J := Lib.hid hJ
    by_cases hlt : k < n
    · obtain ⟨hsk, htk, hlc, hln⟩ := ALL.out k (by have := N4.out; omega)
      have SKk := Lib.hid hsk
      have HT : Hid ((run3 (new3 mm) x k).1.tick < 100000) := by show _ < _; have := N4.out; omega
      have LN := Lib.hid (show m ≤ 3600 by have := hJ.on.len; have := N4.out; omega)
      obtain ⟨r3, hr3⟩ : ∃ r3, r3 = run3 (new3 mm) x k := ⟨_, rfl⟩
      have NX : Hid (run3 (new3 mm) x (k + 1) = ((stp x k r3.1).2.1, r3.2.1 ++ [(stp x k r3.1).1], r3.2.2 ++ (stp x k r3.1).2.2)) := by show _ = _; rw [hr3]; rfl
      have TN : Hid (tks (opens9 ev) (new3 mm) x (k + 1) = tks (opens9 ev) (new3 mm) x k ++ (if tk9 x k = true ∧ opens9 ev r3.1 = true then [r3.1.tick] else [])) := by show _ = _; rw [hr3]; rfl
      have TL : Hid (tn ≤ 400) := by
        have l1 := hJ.og.len
        have l2 := tks_le (opens9 ev) (new3 mm) x k
        have := N4.out
        show tn ≤ 400
        simp only at l1
        omega
      rw [← hr3] at J SKk HT
      clear hJ hsk htk hlc hln hr3
      have TG := Lib.hid (stp_tick (x := x) (i := k) SKk.out HT.out)
      obtain ⟨b, off, rfl, h1, h2, hc⟩ := (H.out wr J.out.bw).at_ (show k * 7 < n * 7 by omega)
      have hev : wr.cell? ⟨b, off + k * 7, none⟩ = some (.int .i64 (x (k * 7))) ∧ wr.cell? ⟨b, off + k * 7 + 1, none⟩ = some (.int .i64 (x (k * 7 + 1))) ∧ wr.cell? ⟨b, off + k * 7 + 2, none⟩ = some (.int .i64 (x (k * 7 + 2))) ∧ wr.cell? ⟨b, off + k * 7 + 3, none⟩ = some (.int .i64 (x (k * 7 + 3))) ∧ wr.cell? ⟨b, off + k * 7 + 4, none⟩ = some (.int .i64 (x (k * 7 + 4))) ∧ wr.cell? ⟨b, off + k * 7 + 5, none⟩ = some (.int .i64 (x (k * 7 + 5))) ∧ wr.cell? ⟨b, off + k * 7 + 6, none⟩ = some (.int .i64 (x (k * 7 + 6))) := ⟨hc (k * 7) (by omega), hc (k * 7 + 1) (by omega), hc (k * 7 + 2) (by omega), hc (k * 7 + 3) (by omega), hc (k * 7 + 4) (by omega), hc (k * 7 + 5) (by omega), hc (k * 7 + 6) (by omega)⟩
      obtain ⟨wa, hwa⟩ : ∃ wa, wa = wr.alloc (.cells #[.int .i64 (x (k * 7)), .int .i64 (x (k * 7 + 1)), .int .i64 (x (k * 7 + 2)), .int .i64 (x (k * 7 + 3)), .int .i64 (x (k * 7 + 4)), .int .i64 (x (k * 7 + 5)), .int .i64 (x (k * 7 + 6))] 57) := ⟨_, rfl⟩
      obtain ⟨ge, hge⟩ : ∃ ge, ge = wr.heap.size := ⟨_, rfl⟩
      have KE : wa.heap[ge]? = some (.cells #[.int .i64 (x (k * 7)), .int .i64 (x (k * 7 + 1)), .int .i64 (x (k * 7 + 2)), .int .i64 (x (k * 7 + 3)), .int .i64 (x (k * 7 + 4)), .int .i64 (x (k * 7 + 5)), .int .i64 (x (k * 7 + 6))] 57 (0, 0)) := by rw [hwa, hge]; exact heap_alloc_new wr _
      have JA : Hid (LoopA w wa h p r3.1 A4 k c4 r3.2.1 A5 m c5 r3.2.2 ev ⟨T, tn, tc, tks (opens9 ev) (new3 mm) x k, GB, Gt, Gc⟩) := by rw [hwa]; exact J.out.below (below_new wr _)
      have KE2 : Hid (∀ V, Below wa.heap.size wa V → V.cell? ⟨ge, 0, none⟩ = some (.int .i64 (x (k * 7))) ∧ V.cell? ⟨ge, 1, none⟩ = some (.int .i64 (x (k * 7 + 1))) ∧ V.cell? ⟨ge, 2, none⟩ = some (.int .i64 (x (k * 7 + 2))) ∧ V.cell? ⟨ge, 3, none⟩ = some (.int .i64 (x (k * 7 + 3))) ∧ V.cell? ⟨ge, 4, none⟩ = some (.int .i64 (x (k * 7 + 4))) ∧ V.cell? ⟨ge, 5, none⟩ = some (.int .i64 (x (k * 7 + 5))) ∧ V.cell? ⟨ge, 6, none⟩ = some (.int .i64 (x (k * 7 + 6)))) := fun V hV => by
        have j := (hV.block ge (Array.getElem?_eq_some_iff.1 KE).1).trans KE
        exact ⟨cell_of_row V _ 0 _ _ _ j, cell_of_row V _ 1 _ _ _ j, cell_of_row V _ 2 _ _ _ j, cell_of_row V _ 3 _ _ _ j, cell_of_row V _ 4 _ _ _ j, cell_of_row V _ 5 _ _ _ j, cell_of_row V _ 6 _ _ _ j⟩
      have FC : Hid (∀ V, Below wa.heap.size wa V → Calls Tryz.prog 48 #[.pointer (some ⟨h, 0, none⟩)] V fun e w' => e = .returned (.bool (opens9 ev r3.1)) ∧ Below wa.heap.size wa w') := fun V hV =>
        (opens9_any (JA.out.below hV) SKk.out).mono fun e w' hh => ⟨hh.1, hV.trans (hh.2.mono hV.size)⟩
      have MN : Hid (∀ V, Below wa.heap.size wa V → Calls Tryz.prog 58 #[.pointer (some ⟨h, 0, none⟩), .agg #[.int .i64 (x (k * 7)), .int .i64 (x (k * 7 + 1)), .int .i64 (x (k * 7 + 2)), .int .i64 (x (k * 7 + 3)), .int .i64 (x (k * 7 + 4)), .int .i64 (x (k * 7 + 5)), .int .i64 (x (k * 7 + 6))]] V fun e W' => e = .returned (.tuple #[]) ∧ ∃ (p' : Kp) (A4' : Option Addr) (c4' : Nat) (A5' : Option Addr) (m' c5' : Nat), LoopA w W' h p' (stp x k r3.1).2.1 A4' (k + 1) c4' (r3.2.1 ++ [(stp x k r3.1).1]) A5' m' c5' (r3.2.2 ++ (stp x k r3.1).2.2) ev ⟨T, tn, tc, tks (opens9 ev) (new3 mm) x k, GB, Gt, Gc⟩) := fun V hV =>
        meetNextA_any (JA.out.below hV) SKk.out HT.out (by have := N4.out; omega) LN.out (x (k * 7)) (x (k * 7 + 1)) (x (k * 7 + 2)) (x (k * 7 + 3)) (x (k * 7 + 4)) (x (k * 7 + 5)) (x (k * 7 + 6))
      obtain ⟨K, hK⟩ : ∃ K, K = r3.1 := ⟨_, rfl⟩
      have HK := Lib.hid hK
      have KH : Hid (∀ V, Below wa.heap.size wa V → V.cell? ⟨h, 4, none⟩ = some (.int .i64 K.tick) ∧ Below wa.heap.size wa V) := fun V hV => by
        have j := (JA.out.below hV).box
        rw [hK]
        exact ⟨cell_of_row V _ 4 _ _ _ j, hV⟩
      have HWA := Lib.hid hwa; have HGE := Lib.hid hge
      have z0 : (0 : Int) ≤ (k : Int) := by omega
      have z1 : (k : Int) < (n : Int) := by omega
      have hn4 : n ≤ 400 := N4.out
      obtain ⟨v0, v1, v2, v3, v4, v5, v6⟩ := hev
      clear hc hwa hge KE hK
      go_upto_region 5 with (fail)
      rw [← HWA.out, ← HGE.out]
      clear HWA HGE v0 v1 v2 v3 v4 v5 v6
      refine wp_region_held_drew (S := fun W => W.cell? ⟨h, 4, none⟩ = some (.int .i64 K.tick) ∧ Below wa.heap.size wa W) (by kernel_rfl) (KH.out _ (Below.drew (Below.refl _ _))) (fun hHeld => ?_)
      obtain ⟨v0, hv0⟩ : ∃ v0, v0 = wa.drew := ⟨_, rfl⟩
      have BL0 : Hid (Below wa.heap.size wa v0) := by rw [hv0]; exact Below.drew (Below.refl _ _)
      rw [← hv0] at hHeld ⊢
      clear hv0
      refine tkH 0 ?_ rfl ?_ hHeld ?_; rotate_left; (intro w hSw; (try dsimp only at hSw); go_simp; try with_reducible rfl); try simp only [Act.put, zz1, zz2, zz3, zz4, zz5, zz6]
      refine tkH 1 ?_ rfl ?_ hHeld ?_; rotate_left; (intro w hSw; (try dsimp only at hSw); go_simp; try with_reducible rfl); try simp only [Act.put, zz1, zz2, zz3, zz4, zz5, zz6]
      refine tkH 2 ?_ rfl ?_ hHeld ?_; rotate_left; (intro w hSw; (try dsimp only at hSw); go_simp; try with_reducible rfl); try simp only [Act.put, zz1, zz2, zz3, zz4, zz5, zz6]
      refine tkH 3 ?_ rfl ?_ hHeld ?_; rotate_left; (intro w hSw; (try dsimp only at hSw); go_simp; try with_reducible rfl); try simp only [Act.put, zz1, zz2, zz3, zz4, zz5, zz6]
      refine tkH 4 ?_ rfl ?_ hHeld ?_; rotate_left; (intro w hSw; (try dsimp only at hSw); go_simp; try with_reducible rfl); try simp only [Act.put, zz1, zz2, zz3, zz4, zz5, zz6]
      refine tkH 5 ?_ rfl ?_ hHeld ?_; rotate_left; (intro w hSw; (try dsimp only at hSw); go_simp; try with_reducible rfl); try simp only [Act.put, zz1, zz2, zz3, zz4, zz5, zz6]
      refine tkH 6 ?_ rfl ?_ hHeld ?_; rotate_left; (intro w hSw; (try dsimp only at hSw); go_simp; try with_reducible rfl); try simp only [Act.put, zz1, zz2, zz3, zz4, zz5, zz6]
      refine tkH 7 ?_ rfl ?_ hHeld ?_; rotate_left; (intro w hSw; (try dsimp only at hSw); go_simp; try with_reducible rfl); try simp only [Act.put, zz1, zz2, zz3, zz4, zz5, zz6]
      refine wpAnyH_ready (rs := [8]) (by kernel_rfl) (by simp) ?_
      refine AllReadyH.cons (o := _) rfl (fun K0 hK0 => ?_) AllReadyH.nil
      go_simp
      refine (FC.out _ (by go_split_ands; assumption)).mono ?_
      rintro e9 w9 ⟨rfl, hb9⟩
      go_wp2_with fail
      have HB9 := Lib.hid hb9
      refine hK0.out _ _ (KH.out _ hb9) (fun hHeld => ?_)
      clear hK0 K0
      try simp only [Act.put, zz1, zz2, zz3, zz4, zz5, zz6]
      refine tkH 9 ?_ rfl ?_ hHeld ?_; rotate_left; (intro w hSw; (try dsimp only at hSw); go_simp; try with_reducible rfl); try simp only [Act.put, zz1, zz2, zz3, zz4, zz5, zz6]
      refine tkH 10 ?_ rfl ?_ hHeld ?_; rotate_left; (intro w hSw; (try dsimp only at hSw); go_simp; try with_reducible rfl); try simp only [Act.put, zz1, zz2, zz3, zz4, zz5, zz6]
      refine wpAnyH_done (by kernel_rfl) ?_ _
      obtain ⟨ke0, ke1, ke2, ke3, ke4, ke5, ke6⟩ := KE2.out _ HB9.out
      clear hHeld
      go_wp2_with fail
      obtain ⟨wx, hwx⟩ : ∃ wx, wx = w9 := ⟨_, rfl⟩
      go_region_with (refine (MN.out _ (by first | exact HB9.out | exact HB9.out.drew | exact (below_drewN HB9.out 1))).mono ?_; rintro e wb ⟨rfl, p', A4', c4', A5', m', c5', hj⟩; have JB := Lib.hid hj; clear hj)
      all_goals
        clear ke0 ke1 ke2 ke3 ke4 ke5 ke6 hwx
        have jb := JB.out.box
        have t4 := cell_of_row wb _ 4 _ _ _ jb
        simp at t4
        clear jb
        rcases hp : opens9 ev r3.1 with _ | _
        · have E : Hid (¬ (tk9 x k = true ∧ opens9 ev r3.1 = true)) := fun hh => by have := hh.2; rw [hp] at this; cases this
          clear hp
          go_wp2
          go_roundw
          case rel => exact ⟨k + 1, p', A4', c4', A5', m', c5', T, tn, tc, by omega, by go_num, rfl, by rw [NX.out, TN.out, if_neg E.out, List.append_nil]; exact JB.out⟩
          case measure => simp [intOf]; omega
        · obtain ⟨t1, ht1⟩ : ∃ t1, t1 = (stp x k r3.1).2.1.tick := ⟨_, rfl⟩
          rw [← ht1] at t4 TG
          rw [← HK.out] at TG
          rcases ht : tk9 x k with _ | _
          · have E : Hid (¬ (tk9 x k = true ∧ opens9 ev r3.1 = true)) := fun hh => by have := hh.1; rw [ht] at this; cases this
            have y : decide (t1 > K.tick) = false := decide_eq_false (fun hh => by have := TG.out.1 hh; rw [ht] at this; cases this)
            clear hp ht ht1
            go_wp2
            go_roundw
            case rel => exact ⟨k + 1, p', A4', c4', A5', m', c5', T, tn, tc, by omega, by go_num, rfl, by rw [NX.out, TN.out, if_neg E.out, List.append_nil]; exact JB.out⟩
            case measure => simp [intOf]; omega
          · have E : Hid (tk9 x k = true ∧ opens9 ev r3.1 = true) := ⟨ht, hp⟩
            have y0 : t1 > K.tick := TG.out.2 ht
            have y : decide (t1 > K.tick) = true := decide_eq_true y0
            have OA := Lib.hid (OR.alloc JB.out.og (.cells #[.int .i64 K.tick] 2))
            have OA : Hid (OR 2 1 (wb.alloc (.cells #[.int .i64 K.tick] 2)) w.heap.size T tn tc (tks (opens9 ev) (new3 mm) x k)) := OA.out
            have NWc := Lib.hid (cell_one_new wb (.int .i64 K.tick) 2)
            have ZA := Lib.hid (show w.heap.size ≤ (wb.alloc (.cells #[.int .i64 K.tick] 2)).heap.size by have := JB.out.bw.size; simp; omega)
            clear hp ht ht1
            go_upto_region 9 with (at_builtin; refine wpList_append_own_at _ rfl (.tmp 43) (.tmp 45) 35 rfl w.heap.size 2 i0 (.int .i64 0) 1 8 Tryz.underlying35 hi0 hz0 hz1 hz2 rfl (by decide) (.slice T tn tc) tn _ rfl OA.out ⟨wb.heap.size, 0, none⟩ 1 1 [.int .i64 K.tick] rfl rfl NWc.out (by simp [Value.oneCell']) (by have := TL.out; unfold maxLen; omega) (by have := TL.out; omega) ZA.out ?_; intro v' wd hown hgrow _ hat; rw [show vals (tks (opens9 ev) (new3 mm) x k) ++ [Value.int .i64 K.tick] = vals (tks (opens9 ev) (new3 mm) x k ++ [K.tick]) by simp [vals]] at hown; obtain ⟨A', c', rfl, hown⟩ := or_of3 hown; have HO := Lib.hid hown; have HGR := Lib.hid hgrow; have HAT := Lib.hid hat; clear hown hgrow hat)
            have JD := Lib.hid (JB.out.guest K.tick HO.out HGR.out HAT.out)
            go_wp2
            go_roundw
            case rel => exact ⟨k + 1, p', A4', c4', A5', m', c5', A', tn + 1, c', by omega, by go_num, rfl, by rw [NX.out, TN.out, if_pos E.out, ← HK.out]; exact HK.out ▸ JD.out⟩
            case measure => simp [intOf]; omega
    · obtain rfl : k = n := by omega
      have hkn : ¬ ((k : Int) < (k : Int)) := by omega
      go_wp2
      go_ret
      exact ⟨p, A4, c4, A5, m, c5, T, tn, tc, rfl, J.out, J.out.bw⟩

end Go.Proofs.YtckapndpefkcgaaGreat
