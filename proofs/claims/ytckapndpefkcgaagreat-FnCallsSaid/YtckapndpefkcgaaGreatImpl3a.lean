/-
  The program's CallFault and EventFault, and what they are made of: for every call and event they answer as the model's. No conditions.
-/
import Derived.Maps.OwnOps
import Derived.Deep.RegionHeld3
import Derived.Test.YtckapndpefkcgaaGreatKinds3
import Derived.Test.YtckapndpefkcgaaGreatImpl1b
import Derived.Test.YtckapndpefkcgaaGreatSpec3a
set_option maxHeartbeats 1000000
namespace Go.Proofs.YtckapndpefkcgaaGreat
open Go.RowKit
set_option maxRecDepth 100000

theorem heap_first (w : World) (o o' : Obj) : ((w.alloc o).alloc o').heap[w.heap.size]? = some o := ((Below.refl (w.heap.size + 1) (w.alloc o)).alloc (by simp) o').block _ (by simp) |>.trans (heap_alloc_new w o)
theorem heap_second (w : World) (o o' : Obj) : ((w.alloc o).alloc o').heap[w.heap.size + 1]? = some o' := by have := heap_alloc_new (w.alloc o) o'; rwa [World.size_alloc] at this
theorem Below.grow {w W : World} (h : Below w.heap.size w W) (o : Obj) : Below w.heap.size w (W.alloc o) := h.alloc h.size o
def badK (k s t : Bool) (x y : Int) : Bool := !k || (!s && x != 0) || (!t && y != 0)
theorem cf_eq (kk e s to : Int) : cf kk e s to = if badK (ckk kk) (cks kk) (ckt kk) s to = true then 1 else cr e s to := by
  unfold cf badK ckk cks ckt
  by_cases e1 : kk = 1
  · subst e1; by_cases hs : s = 0 <;> by_cases ht : to = 0 <;> simp [hs, ht]
  by_cases e2 : kk = 2
  · subst e2; by_cases hs : s = 0 <;> by_cases ht : to = 0 <;> simp [hs, ht]
  by_cases e3 : kk = 3
  · subst e3; by_cases ht : to = 0 <;> simp [ht]
  by_cases e4 : kk = 4
  · subst e4; by_cases ht : to = 0 <;> simp [ht]
  by_cases e5 : kk = 5
  · subst e5; simp
  simp [e1, e2, e3, e4, e5]

set_option maxHeartbeats 4000000 in
theorem implCallFault_any (kk e s to : Int) (w : World) :
    Calls Tryz.prog 38 #[.agg #[.int .i64 kk, .int .i64 e, .int .i64 s, .int .i64 to]] w fun r w' => r = .returned (.int .i64 (cf kk e s to)) ∧ Below w.heap.size w w' := by
  obtain ⟨w1, hW1⟩ : ∃ w1, w1 = w.alloc (.cells #[.int .i64 kk, .int .i64 e, .int .i64 s, .int .i64 to] 55) := ⟨_, rfl⟩
  have k1 : w1.heap[w.heap.size]? = some (.cells #[.int .i64 kk, .int .i64 e, .int .i64 s, .int .i64 to] 55 (0, 0)) := by rw [hW1]; exact heap_alloc_new w _
  have B1 : Hid (Below w.heap.size w w1) := by rw [hW1]; exact below_new w _
  have KS : Hid (∀ W, Below w1.heap.size w1 W → (W.cell? ⟨w.heap.size, 0, none⟩ = some (.int .i64 kk) ∧ W.cell? ⟨w.heap.size, 1, none⟩ = some (.int .i64 e) ∧ W.cell? ⟨w.heap.size, 2, none⟩ = some (.int .i64 s) ∧ W.cell? ⟨w.heap.size, 3, none⟩ = some (.int .i64 to) ∧ Below w1.heap.size w1 W)) := fun W h => by
    have k := (h.block w.heap.size (Array.getElem?_eq_some_iff.1 k1).1).trans k1
    exact ⟨cell_of_row W _ 0 _ _ _ k, cell_of_row W _ 1 _ _ _ k, cell_of_row W _ 2 _ _ _ k, cell_of_row W _ 3 _ _ _ k, h⟩
  have R0 : Hid (Below w1.heap.size w1 w1) := Below.refl _ _
  have LT : Hid (w1.heap.size = w.heap.size + 1) := by show _ = _; rw [hW1]; simp
  clear k1
  have L0 : (Instr.lookup 133 (.map (some w1.heap.size)) (.int .i64 kk) true).run Tryz.prog (w1.alloc (.map ckm 5)).drew = .ok (.tuple #[.agg #[.bool (cks kk), .bool (ckt kk), ckf kk], .bool (ckk kk)]) (w1.alloc (.map ckm 5)).drew := callKinds_look kk true _ _ (heap_alloc_new w1 _)
  have L1 : (Instr.lookup 133 (.map (some w1.heap.size)) (.int .i64 kk) true).run Tryz.prog (w1.alloc (.map ckm 5)).drew.drew = .ok (.tuple #[.agg #[.bool (cks kk), .bool (ckt kk), ckf kk], .bool (ckk kk)]) (w1.alloc (.map ckm 5)).drew.drew := callKinds_look kk true _ _ (heap_alloc_new w1 _)
  have L2 : (Instr.lookup 133 (.map (some w1.heap.size)) (.int .i64 kk) true).run Tryz.prog ((w1.alloc (.map ckm 5)).alloc (.cells #[.bool false, .bool false, .nilFunc] 132)).drew = .ok (.tuple #[.agg #[.bool (cks kk), .bool (ckt kk), ckf kk], .bool (ckk kk)]) ((w1.alloc (.map ckm 5)).alloc (.cells #[.bool false, .bool false, .nilFunc] 132)).drew := callKinds_look kk true _ _ (heap_first w1 _ _)
  have L3 : (Instr.lookup 133 (.map (some w1.heap.size)) (.int .i64 kk) true).run Tryz.prog ((w1.alloc (.map ckm 5)).alloc (.cells #[.bool false, .bool false, .nilFunc] 132)).drew.drew = .ok (.tuple #[.agg #[.bool (cks kk), .bool (ckt kk), ckf kk], .bool (ckk kk)]) ((w1.alloc (.map ckm 5)).alloc (.cells #[.bool false, .bool false, .nilFunc] 132)).drew.drew := callKinds_look kk true _ _ (heap_first w1 _ _)
  have L4 : (Instr.lookup 133 (.map (some (w1.heap.size + 1))) (.int .i64 kk) true).run Tryz.prog ((w1.alloc (.cells #[.bool false, .bool false, .nilFunc] 132)).alloc (.map ckm 5)).drew = .ok (.tuple #[.agg #[.bool (cks kk), .bool (ckt kk), ckf kk], .bool (ckk kk)]) ((w1.alloc (.cells #[.bool false, .bool false, .nilFunc] 132)).alloc (.map ckm 5)).drew := callKinds_look kk true _ _ (heap_second w1 _ _)
  have L5 : (Instr.lookup 133 (.map (some (w1.heap.size + 1))) (.int .i64 kk) true).run Tryz.prog ((w1.alloc (.cells #[.bool false, .bool false, .nilFunc] 132)).alloc (.map ckm 5)).drew.drew = .ok (.tuple #[.agg #[.bool (cks kk), .bool (ckt kk), ckf kk], .bool (ckk kk)]) ((w1.alloc (.cells #[.bool false, .bool false, .nilFunc] 132)).alloc (.map ckm 5)).drew.drew := callKinds_look kk true _ _ (heap_second w1 _ _)
  have SV : ∀ (a : Addr) (W : World), (W.cell? a).isSome = true → W.frozen? a = false → (store a (ckf kk)).run Tryz.prog W = .ok () (W.setCell a (ckf kk)) := one_ckf kk Tryz.prog
  go_enter Tryz.func38, Tryz.ntmps38
  go_upto_region 1 with (fail)
  rw [← hW1]
  clear hW1
  go_cut [3, 4] from 2 (fun x y wx => ∃ gb, x = .pointer (some ⟨gb, 0, none⟩) ∧ y = .bool (ckk kk) ∧ w1.heap.size ≤ gb ∧ wx.heap[gb]? = some (.cells #[.bool (cks kk), .bool (ckt kk), ckf kk] 132 (0, 0)) ∧ Below w1.heap.size w1 wx)
  case first => as_aux_lemma =>
    go_region_held3 (fun W => (W.cell? ⟨w.heap.size, 0, none⟩ = some (.int .i64 kk) ∧ W.cell? ⟨w.heap.size, 1, none⟩ = some (.int .i64 e) ∧ W.cell? ⟨w.heap.size, 2, none⟩ = some (.int .i64 s) ∧ W.cell? ⟨w.heap.size, 3, none⟩ = some (.int .i64 to) ∧ Below w1.heap.size w1 W)) (first | with_reducible exact KS.out _ (by repeat (first | with_reducible exact R0.out | with_reducible assumption | with_reducible apply Below.drew | with_reducible apply Below.grow | (with_reducible refine Below.setCell ?_ (by show _ ≤ _; simp) _)))) (first | (go_at_call 86; refine (callKinds_any _).mono ?_; rintro e9 w3 ⟨rfl, hw3⟩))
    all_goals (go_wp2_with fail; go_meet; refine ⟨_, rfl, rfl, ?_, ?_, (by repeat (first | with_reducible exact R0.out | with_reducible assumption | with_reducible apply Below.drew | with_reducible apply Below.grow | (with_reducible refine Below.setCell ?_ (by show _ ≤ _; simp) _)))⟩)
    all_goals first | exact heap_first _ _ _ | exact heap_second _ _ _ | exact Nat.le_refl _ | omega
  case rest =>
    obtain ⟨gb, rfl, rfl, hge, hbx, hb⟩ := hcut
    obtain ⟨q0, q1, q2, q3, _⟩ := KS.out _ hb
    have p0 := cell_of_row wc _ 0 _ _ _ hbx
    have p1 := cell_of_row wc _ 1 _ _ _ hbx
    simp at p0 p1
    have FR := Lib.hid (B1.out.trans (hb.mono (by have := LT.out; omega)))
    have CF := Lib.hid (cf_eq kk e s to)
    clear hb hbx KS SV LT R0 B1 L0 L1 L2 L3 L4 L5
    go_upto_region 2 with (fail)
    go_cut [33] from 34 (fun x wx => x = .bool (badK (ckk kk) (cks kk) (ckt kk) s to) ∧ wx = wc)
    case first => as_aux_lemma =>
      generalize ckk kk = bk at *
      generalize cks kk = bs at *
      generalize ckt kk = bt at *
      rcases bk with _ | _
      · go_wp2
        go_meet
        exact ⟨rfl, rfl⟩
      · rcases bs with _ | _ <;> rcases bt with _ | _
        · rcases hs : (s != 0) with _ | _ <;> rcases ht : (to != 0) with _ | _ <;> (go_wp2; go_meet; refine ⟨?_, rfl⟩; simp [badK, hs, ht])
        · rcases hs : (s != 0) with _ | _ <;> (go_wp2; go_meet; refine ⟨?_, rfl⟩; simp [badK, hs])
        · rcases ht : (to != 0) with _ | _ <;> (go_wp2; go_meet; refine ⟨?_, rfl⟩; simp [badK, ht])
        · go_wp2
          go_meet
          refine ⟨?_, rfl⟩
          simp [badK]
    case rest =>
      obtain ⟨rfl, rfl⟩ := hcut
      clear p0 p1
      generalize badK (ckk kk) (cks kk) (ckt kk) s to = bad at *
      have IE := Lib.hid (isEnv_any e)
      have IT := Lib.hid (isEnv_any to)
      unfold cr inR at CF
      generalize inEnv e = be at *
      generalize inEnv to = bt at *
      rcases bad with _ | _
      · rcases be with _ | _
        · go_wp2_with fail
          refine (IE.out _).mono ?_
          rintro e9 w9 ⟨rfl, rfl⟩
          go_wp2
          go_ret
          exact ⟨by rw [CF.out]; simp, FR.out⟩
        · rcases bt with _ | _
          · go_wp2_with fail
            refine (IE.out _).mono ?_
            rintro e9 w9 ⟨rfl, rfl⟩
            go_wp2_with fail
            refine (IT.out _).mono ?_
            rintro e9 w9 ⟨rfl, rfl⟩
            go_wp2
            go_ret
            exact ⟨by rw [CF.out]; simp, FR.out⟩
          · by_cases h0 : s < 0
            · go_wp2_with fail
              refine (IE.out _).mono ?_
              rintro e9 w9 ⟨rfl, rfl⟩
              go_wp2_with fail
              refine (IT.out _).mono ?_
              rintro e9 w9 ⟨rfl, rfl⟩
              go_wp2
              go_ret
              exact ⟨by have h3 : ¬ 0 ≤ s := (by omega); rw [CF.out]; simp [h3], FR.out⟩
            · by_cases h1 : 12 ≤ s
              · go_wp2_with fail
                refine (IE.out _).mono ?_
                rintro e9 w9 ⟨rfl, rfl⟩
                go_wp2_with fail
                refine (IT.out _).mono ?_
                rintro e9 w9 ⟨rfl, rfl⟩
                go_wp2
                go_ret
                refine ⟨?_, FR.out⟩
                rw [CF.out]
                have : ¬ s ≤ 11 := by omega
                simp [this]
              · go_wp2_with fail
                refine (IE.out _).mono ?_
                rintro e9 w9 ⟨rfl, rfl⟩
                go_wp2_with fail
                refine (IT.out _).mono ?_
                rintro e9 w9 ⟨rfl, rfl⟩
                go_wp2
                go_ret
                refine ⟨?_, FR.out⟩
                rw [CF.out]
                have h2 : s ≤ 11 := by omega
                have h3 : 0 ≤ s := by omega
                simp [h2, h3]
      · go_wp2
        go_ret
        exact ⟨by rw [CF.out]; simp, FR.out⟩

def badT (k t : Bool) (y : Int) (nz : Bool) : Bool := !k || (!t && y != 0) || nz
def nzc (c e s to : Int) : Bool := !(c == 0 && e == 0 && s == 0 && to == 0)
theorem nzc_false {c e s to : Int} (h : nzc c e s to = false) : c = 0 ∧ e = 0 ∧ s = 0 ∧ to = 0 := by
  unfold nzc at h; simp at h; omega
theorem nzc_true {c e s to : Int} (h : nzc c e s to = true) : c ≠ 0 ∨ e ≠ 0 ∨ s ≠ 0 ∨ to ≠ 0 := by
  unfold nzc at h; simp at h; omega
theorem evf1_eq (a b c e s to : Int) : evf 1 a b c e s to = if badT (akk a) (akt a) b (nzc c e s to) = true then 1 else if inEnv b = true then 0 else 3 := by
  unfold evf badT akk akt
  rw [if_pos rfl]
  rcases hz : nzc c e s to with _ | _
  · obtain ⟨rfl, rfl, rfl, rfl⟩ := nzc_false hz
    by_cases e1 : a = 1
    · subst e1; by_cases hb : b = 0 <;> simp [hb]
    by_cases e2 : a = 2
    · subst e2; by_cases hb : b = 0 <;> simp [hb]
    by_cases e3 : a = 3
    · subst e3; simp
    rw [if_pos (.inl (by omega))]
    simp [e1, e2, e3]
  · have := nzc_true hz
    rw [if_pos (by omega)]
    simp
theorem evf2_eq (a b c e s to : Int) : evf 2 a b c e s to = if (!(a == 0 && b == 0)) = true then 1 else cf c e s to := by
  unfold evf
  rw [if_neg (by omega), if_pos rfl]
  by_cases ha : a = 0 <;> by_cases hb : b = 0 <;> simp [ha, hb]
theorem evf3_eq {k : Int} (h1 : k ≠ 1) (h2 : k ≠ 2) (a b c e s to : Int) : evf k a b c e s to = 1 := by
  unfold evf
  rw [if_neg h1, if_neg h2]

set_option maxHeartbeats 4000000 in
theorem faultOfTick_any (k a b c e s to : Int) (w : World) :
    Calls Tryz.prog 136 #[.agg #[.int .i64 k, .int .i64 a, .int .i64 b, .int .i64 c, .int .i64 e, .int .i64 s, .int .i64 to]] w fun r w' => r = .returned (.int .i64 (evf 1 a b c e s to)) ∧ Below w.heap.size w w' := by
  obtain ⟨w1, hW1⟩ : ∃ w1, w1 = w.alloc (.cells #[.int .i64 k, .int .i64 a, .int .i64 b, .int .i64 c, .int .i64 e, .int .i64 s, .int .i64 to] 57) := ⟨_, rfl⟩
  have k1 : w1.heap[w.heap.size]? = some (.cells #[.int .i64 k, .int .i64 a, .int .i64 b, .int .i64 c, .int .i64 e, .int .i64 s, .int .i64 to] 57 (0, 0)) := by rw [hW1]; exact heap_alloc_new w _
  have B1 : Hid (Below w.heap.size w w1) := by rw [hW1]; exact below_new w _
  have KS : Hid (∀ W, Below w1.heap.size w1 W → (W.cell? ⟨w.heap.size, 0, none⟩ = some (.int .i64 k) ∧ W.cell? ⟨w.heap.size, 1, none⟩ = some (.int .i64 a) ∧ W.cell? ⟨w.heap.size, 2, none⟩ = some (.int .i64 b) ∧ W.cell? ⟨w.heap.size, 3, none⟩ = some (.int .i64 c) ∧ W.cell? ⟨w.heap.size, 4, none⟩ = some (.int .i64 e) ∧ W.cell? ⟨w.heap.size, 5, none⟩ = some (.int .i64 s) ∧ W.cell? ⟨w.heap.size, 6, none⟩ = some (.int .i64 to) ∧ Below w1.heap.size w1 W)) := fun W h => by
    have k := (h.block w.heap.size (Array.getElem?_eq_some_iff.1 k1).1).trans k1
    exact ⟨cell_of_row W _ 0 _ _ _ k, cell_of_row W _ 1 _ _ _ k, cell_of_row W _ 2 _ _ _ k, cell_of_row W _ 3 _ _ _ k, cell_of_row W _ 4 _ _ _ k, cell_of_row W _ 5 _ _ _ k, cell_of_row W _ 6 _ _ _ k, h⟩
  have R0 : Hid (Below w1.heap.size w1 w1) := Below.refl _ _
  have LT : Hid (w1.heap.size = w.heap.size + 1) := by show _ = _; rw [hW1]; simp
  clear k1
  have L0 : (Instr.lookup 158 (.map (some w1.heap.size)) (.int .i64 a) true).run Tryz.prog (w1.alloc (.map akm 3)).drew = .ok (.tuple #[.agg #[.bool (akt a), akf a], .bool (akk a)]) (w1.alloc (.map akm 3)).drew := actKinds_look a true _ _ (heap_alloc_new w1 _)
  have L1 : (Instr.lookup 158 (.map (some w1.heap.size)) (.int .i64 a) true).run Tryz.prog (w1.alloc (.map akm 3)).drew.drew = .ok (.tuple #[.agg #[.bool (akt a), akf a], .bool (akk a)]) (w1.alloc (.map akm 3)).drew.drew := actKinds_look a true _ _ (heap_alloc_new w1 _)
  have L2 : (Instr.lookup 158 (.map (some w1.heap.size)) (.int .i64 a) true).run Tryz.prog ((w1.alloc (.map akm 3)).alloc (.cells #[.bool false, .nilFunc] 157)).drew = .ok (.tuple #[.agg #[.bool (akt a), akf a], .bool (akk a)]) ((w1.alloc (.map akm 3)).alloc (.cells #[.bool false, .nilFunc] 157)).drew := actKinds_look a true _ _ (heap_first w1 _ _)
  have L3 : (Instr.lookup 158 (.map (some w1.heap.size)) (.int .i64 a) true).run Tryz.prog ((w1.alloc (.map akm 3)).alloc (.cells #[.bool false, .nilFunc] 157)).drew.drew = .ok (.tuple #[.agg #[.bool (akt a), akf a], .bool (akk a)]) ((w1.alloc (.map akm 3)).alloc (.cells #[.bool false, .nilFunc] 157)).drew.drew := actKinds_look a true _ _ (heap_first w1 _ _)
  have L4 : (Instr.lookup 158 (.map (some (w1.heap.size + 1))) (.int .i64 a) true).run Tryz.prog ((w1.alloc (.cells #[.bool false, .nilFunc] 157)).alloc (.map akm 3)).drew = .ok (.tuple #[.agg #[.bool (akt a), akf a], .bool (akk a)]) ((w1.alloc (.cells #[.bool false, .nilFunc] 157)).alloc (.map akm 3)).drew := actKinds_look a true _ _ (heap_second w1 _ _)
  have L5 : (Instr.lookup 158 (.map (some (w1.heap.size + 1))) (.int .i64 a) true).run Tryz.prog ((w1.alloc (.cells #[.bool false, .nilFunc] 157)).alloc (.map akm 3)).drew.drew = .ok (.tuple #[.agg #[.bool (akt a), akf a], .bool (akk a)]) ((w1.alloc (.cells #[.bool false, .nilFunc] 157)).alloc (.map akm 3)).drew.drew := actKinds_look a true _ _ (heap_second w1 _ _)
  have SV : ∀ (p : Addr) (W : World), (W.cell? p).isSome = true → W.frozen? p = false → (store p (akf a)).run Tryz.prog W = .ok () (W.setCell p (akf a)) := one_akf a Tryz.prog
  go_enter Tryz.func136, Tryz.ntmps136
  go_upto_region 1 with (fail)
  rw [← hW1]
  clear hW1
  go_cut [3, 4] from 2 (fun x y wx => ∃ gb, x = .pointer (some ⟨gb, 0, none⟩) ∧ y = .bool (akk a) ∧ w1.heap.size ≤ gb ∧ wx.heap[gb]? = some (.cells #[.bool (akt a), akf a] 157 (0, 0)) ∧ Below w1.heap.size w1 wx)
  case first => as_aux_lemma =>
    go_region_held3 (fun W => (W.cell? ⟨w.heap.size, 0, none⟩ = some (.int .i64 k) ∧ W.cell? ⟨w.heap.size, 1, none⟩ = some (.int .i64 a) ∧ W.cell? ⟨w.heap.size, 2, none⟩ = some (.int .i64 b) ∧ W.cell? ⟨w.heap.size, 3, none⟩ = some (.int .i64 c) ∧ W.cell? ⟨w.heap.size, 4, none⟩ = some (.int .i64 e) ∧ W.cell? ⟨w.heap.size, 5, none⟩ = some (.int .i64 s) ∧ W.cell? ⟨w.heap.size, 6, none⟩ = some (.int .i64 to) ∧ Below w1.heap.size w1 W)) (first | with_reducible exact KS.out _ (by repeat (first | with_reducible exact R0.out | with_reducible assumption | with_reducible apply Below.drew | with_reducible apply Below.grow | (with_reducible refine Below.setCell ?_ (by show _ ≤ _; simp) _)))) (first | (go_at_call 114; refine (actKinds_any _).mono ?_; rintro e9 w3 ⟨rfl, hw3⟩))
    all_goals (go_wp2_with fail; go_meet; refine ⟨_, rfl, rfl, ?_, ?_, (by repeat (first | with_reducible exact R0.out | with_reducible assumption | with_reducible apply Below.drew | with_reducible apply Below.grow | (with_reducible refine Below.setCell ?_ (by show _ ≤ _; simp) _)))⟩)
    all_goals first | exact heap_first _ _ _ | exact heap_second _ _ _ | exact Nat.le_refl _ | omega
  case rest =>
    obtain ⟨gb, rfl, rfl, hge, hbx, hb⟩ := hcut
    obtain ⟨q0, q1, q2, q3, q4, q5, q6, _⟩ := KS.out _ hb
    have p0 := cell_of_row wc _ 0 _ _ _ hbx
    simp at p0
    have FR := Lib.hid (B1.out.trans (hb.mono (by have := LT.out; omega)))
    have CF := Lib.hid (evf1_eq a b c e s to)
    clear hb hbx KS SV LT R0 B1 L0 L1 L2 L3 L4 L5
    go_upto_region 2 with (fail)
    have nc := run_neq_call c e s to (nzc c e s to) (by unfold nzc; simp)
    go_cut [31] from 32 (fun x wx => x = .bool (badT (akk a) (akt a) b (nzc c e s to)) ∧ wx = wc)
    case first => as_aux_lemma =>
      generalize akk a = bk at *
      generalize akt a = bt at *
      generalize nzc c e s to = bn at *
      rcases bk with _ | _
      · go_wp2
        go_meet
        exact ⟨rfl, rfl⟩
      · rcases bt with _ | _
        · rcases ht : (b != 0) with _ | _ <;> rcases bn with _ | _ <;> (go_wp2; go_meet; refine ⟨?_, rfl⟩; simp [badT, ht])
        · rcases bn with _ | _ <;> (go_wp2; go_meet; refine ⟨?_, rfl⟩; simp [badT])
    case rest =>
      obtain ⟨rfl, rfl⟩ := hcut
      clear p0
      generalize badT (akk a) (akt a) b (nzc c e s to) = bad at *
      have IE := Lib.hid (isEnv_any b)
      generalize inEnv b = be at *
      rcases bad with _ | _
      · rcases be with _ | _ <;> (go_wp2_with fail; refine (IE.out _).mono ?_; rintro e9 w9 ⟨rfl, rfl⟩; go_wp2; go_ret; exact ⟨by rw [CF.out]; simp, FR.out⟩)
      · go_wp2
        go_ret
        exact ⟨by rw [CF.out]; simp, FR.out⟩

set_option maxHeartbeats 1000000 in
theorem faultOfCall_any (k a b c e s to : Int) (w : World) :
    Calls Tryz.prog 138 #[.agg #[.int .i64 k, .int .i64 a, .int .i64 b, .int .i64 c, .int .i64 e, .int .i64 s, .int .i64 to]] w fun r w' => r = .returned (.int .i64 (evf 2 a b c e s to)) ∧ Below w.heap.size w w' := by
  obtain ⟨w1, hW1⟩ : ∃ w1, w1 = w.alloc (.cells #[.int .i64 k, .int .i64 a, .int .i64 b, .int .i64 c, .int .i64 e, .int .i64 s, .int .i64 to] 57) := ⟨_, rfl⟩
  have k1 : w1.heap[w.heap.size]? = some (.cells #[.int .i64 k, .int .i64 a, .int .i64 b, .int .i64 c, .int .i64 e, .int .i64 s, .int .i64 to] 57 (0, 0)) := by rw [hW1]; exact heap_alloc_new w _
  have B1 : Hid (Below w.heap.size w w1) := by rw [hW1]; exact below_new w _
  have KS : Hid (∀ W, Below w1.heap.size w1 W → (W.cell? ⟨w.heap.size, 0, none⟩ = some (.int .i64 k) ∧ W.cell? ⟨w.heap.size, 1, none⟩ = some (.int .i64 a) ∧ W.cell? ⟨w.heap.size, 2, none⟩ = some (.int .i64 b) ∧ W.cell? ⟨w.heap.size, 3, none⟩ = some (.int .i64 c) ∧ W.cell? ⟨w.heap.size, 4, none⟩ = some (.int .i64 e) ∧ W.cell? ⟨w.heap.size, 5, none⟩ = some (.int .i64 s) ∧ W.cell? ⟨w.heap.size, 6, none⟩ = some (.int .i64 to) ∧ Below w1.heap.size w1 W)) := fun W h => by
    have k := (h.block w.heap.size (Array.getElem?_eq_some_iff.1 k1).1).trans k1
    exact ⟨cell_of_row W _ 0 _ _ _ k, cell_of_row W _ 1 _ _ _ k, cell_of_row W _ 2 _ _ _ k, cell_of_row W _ 3 _ _ _ k, cell_of_row W _ 4 _ _ _ k, cell_of_row W _ 5 _ _ _ k, cell_of_row W _ 6 _ _ _ k, h⟩
  have R0 : Hid (Below w1.heap.size w1 w1) := Below.refl _ _
  have LT : Hid (w1.heap.size = w.heap.size + 1) := by show _ = _; rw [hW1]; simp
  clear k1
  have CF := Lib.hid (evf2_eq a b c e s to)
  have nc := run_neq_act a b (!(a == 0 && b == 0)) (by simp)
  have IC := Lib.hid (implCallFault_any c e s to)
  obtain ⟨q0, q1, q2, q3, q4, q5, q6, _⟩ := KS.out _ R0.out
  go_enter Tryz.func138, Tryz.ntmps138
  go_upto_region 1 with (fail)
  rw [← hW1]
  clear hW1 KS
  generalize (!(a == 0 && b == 0)) = z at *
  rcases z with _ | _
  · go_wp2_with fail
    refine (IC.out _).mono ?_
    rintro e9 w9 ⟨rfl, hb9⟩
    have FR := Lib.hid (B1.out.trans (hb9.mono (by have := LT.out; omega)))
    clear hb9
    go_wp2
    go_ret
    exact ⟨by rw [CF.out]; simp, FR.out⟩
  · go_wp2
    go_ret
    exact ⟨by rw [CF.out]; simp, B1.out⟩

set_option maxHeartbeats 4000000 in
theorem implEventFault_any (k a b c e s to : Int) (w : World) :
    Calls Tryz.prog 40 #[.agg #[.int .i64 k, .int .i64 a, .int .i64 b, .int .i64 c, .int .i64 e, .int .i64 s, .int .i64 to]] w fun r w' => r = .returned (.int .i64 (evf k a b c e s to)) ∧ Below w.heap.size w w' := by
  obtain ⟨w1, hW1⟩ : ∃ w1, w1 = w.alloc (.cells #[.int .i64 k, .int .i64 a, .int .i64 b, .int .i64 c, .int .i64 e, .int .i64 s, .int .i64 to] 57) := ⟨_, rfl⟩
  have k1 : w1.heap[w.heap.size]? = some (.cells #[.int .i64 k, .int .i64 a, .int .i64 b, .int .i64 c, .int .i64 e, .int .i64 s, .int .i64 to] 57 (0, 0)) := by rw [hW1]; exact heap_alloc_new w _
  have B1 : Hid (Below w.heap.size w w1) := by rw [hW1]; exact below_new w _
  have KS : Hid (∀ W, Below w1.heap.size w1 W → (W.cell? ⟨w.heap.size, 0, none⟩ = some (.int .i64 k) ∧ W.cell? ⟨w.heap.size, 1, none⟩ = some (.int .i64 a) ∧ W.cell? ⟨w.heap.size, 2, none⟩ = some (.int .i64 b) ∧ W.cell? ⟨w.heap.size, 3, none⟩ = some (.int .i64 c) ∧ W.cell? ⟨w.heap.size, 4, none⟩ = some (.int .i64 e) ∧ W.cell? ⟨w.heap.size, 5, none⟩ = some (.int .i64 s) ∧ W.cell? ⟨w.heap.size, 6, none⟩ = some (.int .i64 to) ∧ Below w1.heap.size w1 W)) := fun W h => by
    have k := (h.block w.heap.size (Array.getElem?_eq_some_iff.1 k1).1).trans k1
    exact ⟨cell_of_row W _ 0 _ _ _ k, cell_of_row W _ 1 _ _ _ k, cell_of_row W _ 2 _ _ _ k, cell_of_row W _ 3 _ _ _ k, cell_of_row W _ 4 _ _ _ k, cell_of_row W _ 5 _ _ _ k, cell_of_row W _ 6 _ _ _ k, h⟩
  have R0 : Hid (Below w1.heap.size w1 w1) := Below.refl _ _
  have LT : Hid (w1.heap.size = w.heap.size + 1) := by show _ = _; rw [hW1]; simp
  clear k1
  have L0 : (Instr.lookup 145 (.map (some w1.heap.size)) (.int .i64 k) true).run Tryz.prog (w1.alloc (.map ekm 2)).drew = .ok (.tuple #[.agg #[ekf k, ekg k], .bool (ekk k)]) (w1.alloc (.map ekm 2)).drew := eventKinds_look k true _ _ (heap_alloc_new w1 _)
  have L1 : (Instr.lookup 145 (.map (some w1.heap.size)) (.int .i64 k) true).run Tryz.prog (w1.alloc (.map ekm 2)).drew.drew = .ok (.tuple #[.agg #[ekf k, ekg k], .bool (ekk k)]) (w1.alloc (.map ekm 2)).drew.drew := eventKinds_look k true _ _ (heap_alloc_new w1 _)
  have L2 : (Instr.lookup 145 (.map (some w1.heap.size)) (.int .i64 k) true).run Tryz.prog ((w1.alloc (.map ekm 2)).alloc (.cells #[.nilFunc, .nilFunc] 143)).drew = .ok (.tuple #[.agg #[ekf k, ekg k], .bool (ekk k)]) ((w1.alloc (.map ekm 2)).alloc (.cells #[.nilFunc, .nilFunc] 143)).drew := eventKinds_look k true _ _ (heap_first w1 _ _)
  have L3 : (Instr.lookup 145 (.map (some w1.heap.size)) (.int .i64 k) true).run Tryz.prog ((w1.alloc (.map ekm 2)).alloc (.cells #[.nilFunc, .nilFunc] 143)).drew.drew = .ok (.tuple #[.agg #[ekf k, ekg k], .bool (ekk k)]) ((w1.alloc (.map ekm 2)).alloc (.cells #[.nilFunc, .nilFunc] 143)).drew.drew := eventKinds_look k true _ _ (heap_first w1 _ _)
  have L4 : (Instr.lookup 145 (.map (some (w1.heap.size + 1))) (.int .i64 k) true).run Tryz.prog ((w1.alloc (.cells #[.nilFunc, .nilFunc] 143)).alloc (.map ekm 2)).drew = .ok (.tuple #[.agg #[ekf k, ekg k], .bool (ekk k)]) ((w1.alloc (.cells #[.nilFunc, .nilFunc] 143)).alloc (.map ekm 2)).drew := eventKinds_look k true _ _ (heap_second w1 _ _)
  have L5 : (Instr.lookup 145 (.map (some (w1.heap.size + 1))) (.int .i64 k) true).run Tryz.prog ((w1.alloc (.cells #[.nilFunc, .nilFunc] 143)).alloc (.map ekm 2)).drew.drew = .ok (.tuple #[.agg #[ekf k, ekg k], .bool (ekk k)]) ((w1.alloc (.cells #[.nilFunc, .nilFunc] 143)).alloc (.map ekm 2)).drew.drew := eventKinds_look k true _ _ (heap_second w1 _ _)
  have SV : ∀ (p : Addr) (W : World), (W.cell? p).isSome = true → W.frozen? p = false → (store p (ekf k)).run Tryz.prog W = .ok () (W.setCell p (ekf k)) := one_ekf k Tryz.prog
  have SG : ∀ (p : Addr) (W : World), (W.cell? p).isSome = true → W.frozen? p = false → (store p (ekg k)).run Tryz.prog W = .ok () (W.setCell p (ekg k)) := one_ekg k Tryz.prog
  go_enter Tryz.func40, Tryz.ntmps40
  go_upto_region 1 with (fail)
  rw [← hW1]
  clear hW1
  go_cut [3, 4] from 2 (fun x y wx => ∃ gb, x = .pointer (some ⟨gb, 0, none⟩) ∧ y = .bool (ekk k) ∧ w1.heap.size ≤ gb ∧ wx.heap[gb]? = some (.cells #[ekf k, ekg k] 143 (0, 0)) ∧ Below w1.heap.size w1 wx)
  case first => as_aux_lemma =>
    go_region_held3 (fun W => (W.cell? ⟨w.heap.size, 0, none⟩ = some (.int .i64 k) ∧ W.cell? ⟨w.heap.size, 1, none⟩ = some (.int .i64 a) ∧ W.cell? ⟨w.heap.size, 2, none⟩ = some (.int .i64 b) ∧ W.cell? ⟨w.heap.size, 3, none⟩ = some (.int .i64 c) ∧ W.cell? ⟨w.heap.size, 4, none⟩ = some (.int .i64 e) ∧ W.cell? ⟨w.heap.size, 5, none⟩ = some (.int .i64 s) ∧ W.cell? ⟨w.heap.size, 6, none⟩ = some (.int .i64 to) ∧ Below w1.heap.size w1 W)) (first | with_reducible exact KS.out _ (by repeat (first | with_reducible exact R0.out | with_reducible assumption | with_reducible apply Below.drew | with_reducible apply Below.grow | (with_reducible refine Below.setCell ?_ (by show _ ≤ _; simp) _)))) (first | (go_at_call 95; refine (eventKinds_any _).mono ?_; rintro e9 w3 ⟨rfl, hw3⟩))
    all_goals (go_wp2_with fail; go_meet; refine ⟨_, rfl, rfl, ?_, ?_, (by repeat (first | with_reducible exact R0.out | with_reducible assumption | with_reducible apply Below.drew | with_reducible apply Below.grow | (with_reducible refine Below.setCell ?_ (by show _ ≤ _; simp) _)))⟩)
    all_goals first | exact heap_first _ _ _ | exact heap_second _ _ _ | exact Nat.le_refl _ | omega
  case rest =>
    obtain ⟨gb, rfl, rfl, hge, hbx, hb⟩ := hcut
    obtain ⟨q0, q1, q2, q3, q4, q5, q6, _⟩ := KS.out _ hb
    have p0 := cell_of_row wc _ 0 _ _ _ hbx
    simp at p0
    have FR := Lib.hid (B1.out.trans (hb.mono (by have := LT.out; omega)))
    have LE := Lib.hid (hb.size)
    clear hb hbx KS SV SG R0 B1 L0 L1 L2 L3 L4 L5
    go_upto_region 2 with (fail)
    by_cases k1 : k = 1
    · subst k1
      have IT := Lib.hid (faultOfTick_any 1 a b c e s to)
      have e1 : ekf 1 = .func (.func 136) #[] #[] := rfl
      have e2 : ekk 1 = true := rfl
      rw [e1] at p0
      rw [e2]
      clear e1 e2
      go_wp2_with fail
      refine (IT.out _).mono ?_
      rintro e9 w9 ⟨rfl, hb9⟩
      have FR := Lib.hid (FR.out.trans (hb9.mono (by have := LT.out; have := LE.out; omega)))
      clear hb9
      go_wp2
      go_ret
      exact ⟨rfl, FR.out⟩
    by_cases k2 : k = 2
    · subst k2
      have IT := Lib.hid (faultOfCall_any 2 a b c e s to)
      have e1 : ekf 2 = .func (.func 138) #[] #[] := rfl
      have e2 : ekk 2 = true := rfl
      rw [e1] at p0
      rw [e2]
      clear e1 e2 k1
      go_wp2_with fail
      refine (IT.out _).mono ?_
      rintro e9 w9 ⟨rfl, hb9⟩
      have FR := Lib.hid (FR.out.trans (hb9.mono (by have := LT.out; have := LE.out; omega)))
      clear hb9
      go_wp2
      go_ret
      exact ⟨rfl, FR.out⟩
    · have CF := Lib.hid (evf3_eq k1 k2 a b c e s to)
      have e2 : ekk k = false := by unfold ekk; simp [k1, k2]
      rw [e2]
      clear e2 k1 k2
      go_wp2
      go_ret
      exact ⟨by rw [CF.out]; simp, FR.out⟩

end Go.Proofs.YtckapndpefkcgaaGreat
