/-
  The program's WordsOf; the law's helpers on lists of strings: compare, mark, look again. No conditions beyond that the lists can be read.
-/
import Derived.Test.YtckapndpefkcgaaDoorTk
import Derived.Test.YtckapndpefkcgaaDoorWordI10
set_option maxHeartbeats 1000000
namespace Go.Proofs.YtckapndpefkcgaaDoor
open List renaming getElem_toArray → zz1, getElem_cons_succ → zz2, getElem_cons_zero → zz3, setIfInBounds_toArray → zz4, set_cons_zero → zz5, set_cons_succ → zz6
open Go.RowKit
set_option maxRecDepth 100000

theorem implWordsOf10 (s : ByteArray) (hs : s.size ≤ 9223372036854775807) (w : World) (hg : ETy w) :
    Calls Tryd.prog 14 #[.string s] w fun e w' => ∃ v, e = .returned (.agg #[.int .i64 (wo s).1, v]) ∧ w'.ownsRow w.heap.size 9 1 v (wo s).2.length (sv (wo s).2) ∧ Below w.heap.size w w' := by
  obtain ⟨w1, hw1⟩ : ∃ w1, w1 = w.alloc (.cells #[.int .i64 0, .slice none 0 0] 38) := ⟨_, rfl⟩
  have K1 : Hid (w1.heap[w.heap.size]? = some (.cells #[.int .i64 0, .slice none 0 0] 38 (0, 0))) := by show _ = _; rw [hw1]; exact heap_alloc_new w _
  have B1 : Hid (Below w.heap.size w w1) := by rw [hw1]; exact below_new w _
  have Z1 : Hid (w1.heap.size = w.heap.size + 1) := by show _ = _; rw [hw1]; simp
  have HW := Lib.hid hw1
  have G := Lib.hid hg
  clear hw1 hg
  by_cases hb : 3000 < s.size
  · have E : Hid (wo s = (2, [])) := Lib.hid (if_pos hb)
    have WD := Lib.hid (wordsInBig10 s hb w1)
    go_enter Tryd.func14, Tryd.ntmps14
    go_upto_region 1 with (fail)
    rw [← HW.out]
    clear HW
    go_wp2_with fail
    refine WD.out.mono ?_
    rintro e w2 ⟨rfl, hb2⟩
    have B2 := Lib.hid (B1.out.trans (hb2.mono B1.out.size))
    go_wp2_with fail
    refine (codeOfS_fault 2 w2 (ETy.below G.out B2.out)).mono ?_
    rintro e w3 ⟨rfl, hb3⟩
    have H3 := Lib.hid (hb2.trans (hb3.mono hb2.size))
    have K3 := Lib.hid ((H3.out.block _ (by have := Z1.out; omega)).trans K1.out)
    have B3 := Lib.hid (B1.out.trans (H3.out.mono B1.out.size))
    have r0 := cell_of_row w3 _ 0 _ _ _ K3.out; have r1 := cell_of_row w3 _ 1 _ _ _ K3.out
    have f0 := frozen_of_row w3 _ 0 _ _ K3.out; have f1 := frozen_of_row w3 _ 1 _ _ K3.out
    simp at r0 r1
    clear hb2 hb3
    go_wp2
    refine bodyPost_ret (results_cell_row rfl _ _ _ _ _ (0, 0) _ rfl (heap_setCell_same _ _ 1 _ _ _ (heap_setCell_same _ _ 0 _ _ _ K3.out)) Tryd.underlying38 rfl (by kernel_rfl)) rfl ?_
    exact ⟨_, (by rw [E.out]; rfl), (by rw [E.out]; exact World.ownsRow_nil _ _ _ _), (B3.out.setCell (p := ⟨w.heap.size, 0, none⟩) (Nat.le_refl _) _).setCell (p := ⟨w.heap.size, 1, none⟩) (Nat.le_refl _) _⟩
  · have E : Hid (wo s = (0, wordsL s)) := Lib.hid (if_neg hb)
    have WD := Lib.hid (wordsIn10 s (by omega) w1)
    go_enter Tryd.func14, Tryd.ntmps14
    go_upto_region 1 with (fail)
    rw [← HW.out]
    clear HW
    go_wp2_with fail
    refine WD.out.mono ?_
    rintro e w2 ⟨v, rfl, ho, hb2⟩
    obtain ⟨Av, cv, rfl, _⟩ := mine_of_own ho
    have B2 := Lib.hid (B1.out.trans (hb2.mono B1.out.size))
    go_wp2_with fail
    refine (codeOfS_nil w2).mono ?_
    rintro e w3 ⟨rfl, hb3⟩
    have H3 := Lib.hid (hb2.trans (hb3.mono hb2.size))
    have K3 := Lib.hid ((H3.out.block _ (by have := Z1.out; omega)).trans K1.out)
    have B3 := Lib.hid (B1.out.trans (H3.out.mono B1.out.size))
    have o3 := ho.kept (row := none) ⟨hb3.os, hb3.tape, hb3.output, hb3.size, fun k hk _ => hb3.block k hk⟩ (Classical.em _)
    have OH : Hid (∀ x y, ((w3.setCell ⟨w.heap.size, 0, none⟩ x).setCell ⟨w.heap.size, 1, none⟩ y).ownsRow w.heap.size 9 1 (.slice Av (wordsL s).length cv) (wordsL s).length (sv (wordsL s))) := Lib.hid (fun x y => own_lower (own_keepAll o3 (fun k hk => by rw [Below.heap_setCell _ _ _ _ (by simp; have := Z1.out; omega), Below.heap_setCell _ _ _ _ (by simp; have := Z1.out; omega)])) (by have := Z1.out; omega))
    have r0 := cell_of_row w3 _ 0 _ _ _ K3.out; have r1 := cell_of_row w3 _ 1 _ _ _ K3.out
    have f0 := frozen_of_row w3 _ 0 _ _ K3.out; have f1 := frozen_of_row w3 _ 1 _ _ K3.out
    simp at r0 r1
    clear hb2 hb3 ho o3
    go_wp2
    refine bodyPost_ret (results_cell_row rfl _ _ _ _ _ (0, 0) _ rfl (heap_setCell_same _ _ 1 _ _ _ (heap_setCell_same _ _ 0 _ _ _ K3.out)) Tryd.underlying38 rfl (by kernel_rfl)) rfl ?_
    exact ⟨_, (by rw [E.out]; rfl), (by rw [E.out]; exact OH.out _ _), (B3.out.setCell (p := ⟨w.heap.size, 0, none⟩) (Nat.le_refl _) _).setCell (p := ⟨w.heap.size, 1, none⟩) (Nat.le_refl _) _⟩

def mtx : Nat → Nat → ByteArray → ByteArray
  | 0, _, u => u
  | f + 1, m, u => if m = 0 then u else mtx f (m / 10) (⟨#[(48 + m % 10).toUInt8]⟩ ++ u)
def mt (m : Nat) : ByteArray := ⟨#[109]⟩ ++ mtx m m ⟨#[]⟩
theorem mtx_zero (f : Nat) (u : ByteArray) : mtx f 0 u = u := by
  cases f with
  | zero => rfl
  | succ f => show (if _ then _ else _) = _; rw [if_pos rfl]
theorem mtx_step (f k : Nat) (u : ByteArray) (h : 0 < k) : mtx (f + 1) k u = mtx f (k / 10) (⟨#[(48 + k % 10).toUInt8]⟩ ++ u) := by
  show (if _ then _ else _) = _
  rw [if_neg (by omega)]
set_option maxHeartbeats 2000000 in
theorem markText10 (m : Nat) (h1 : 1 ≤ m) (h2 : m ≤ 4611686018427387904) (w : World) :
    Calls Tryd.prog 39 #[.int .i64 m] w fun e w' => e = .returned (.string (mt m)) ∧ Below w.heap.size w w' := by
  have hp : ¬ (m : Int) ≤ 0 := by omega
  go_enter Tryd.func39, Tryd.ntmps39
  go_wp2_with fail
  go_loopw [0, 3] (fun q v wr => ∃ (f k : Nat) (u : ByteArray), q = .int .i64 (k : Int) ∧ v = .string u ∧ k ≤ f ∧ mtx f k u = mtx m m ⟨#[]⟩ ∧ u.size + f ≤ m ∧ Below w.heap.size w wr) (fun q _ _ => (intOf q).toNat)
  case atStart => exact ⟨m, m, _, rfl, rfl, Nat.le_refl _, rfl, (by show 0 + m ≤ m; omega), Below.refl _ _⟩
  case round =>
    obtain ⟨f, k, u, rfl, rfl, hkf, hm, hsz, hb⟩ := hrel
    by_cases hk : 0 < k
    · obtain ⟨f', rfl⟩ : ∃ f', f = f' + 1 := ⟨f - 1, by omega⟩
      have HM : Hid (mtx f' (k / 10) (⟨#[(48 + k % 10).toUInt8]⟩ ++ u) = mtx m m ⟨#[]⟩) := by show _ = _; rw [← mtx_step f' k u hk]; exact hm
      have hkI : (0 : Int) < (k : Int) := by omega
      have tm : (k : Int).tmod 10 = ((k % 10 : Nat) : Int) := by rw [Int.tmod_eq_emod_of_nonneg (by omega)]; omega
      have td : (k : Int).tdiv 10 = ((k / 10 : Nat) : Int) := by rw [Int.tdiv_eq_ediv_of_nonneg (by omega)]; omega
      have hd := Nat.mod_lt k (show 0 < 10 by decide)
      have hbt : ((48 + k % 10).toUInt8.toNat : Int) = 48 + ((k % 10 : Nat) : Int) := by
        have : (48 + k % 10).toUInt8.toNat = 48 + k % 10 := by simp; omega
        rw [this]; omega
      have CV := run_convert_bytes_back (P := Tryd.prog) (wr.alloc (.cells #[.int .u8 (48 + ((k % 10 : Nat) : Int))] 5)) 84 9 5 ⟨wr.heap.size, 0, none⟩ 1 [(48 + k % 10).toUInt8] Tryd.underlying84 Tryd.underlying5 Tryd.underlying9 (fun j hj => by
        obtain rfl : j = 0 := by simp at hj; omega
        rw [show ([(48 + k % 10).toUInt8][0]'hj) = (48 + k % 10).toUInt8 from rfl, hbt]
        exact cell_of_row _ _ 0 _ _ _ (heap_alloc_new wr _))
      have w0 : IntKind.i64.wrap ((k % 10 : Nat) : Int) = ((k % 10 : Nat) : Int) := IntWalk.i64_in _ (by omega)
      have w1 : IntKind.i64.wrap (48 + ((k % 10 : Nat) : Int)) = 48 + ((k % 10 : Nat) : Int) := IntWalk.i64_in _ (by omega)
      have w3 : IntKind.i64.wrap ((k / 10 : Nat) : Int) = ((k / 10 : Nat) : Int) := IntWalk.i64_in _ (by omega)
      have w2 : IntKind.u8.wrap (48 + ((k % 10 : Nat) : Int)) = 48 + ((k % 10 : Nat) : Int) := by
        first
          | (show (48 + ((k % 10 : Nat) : Int)) % 256 = _; omega)
          | (simp [IntKind.wrap]; omega)
          | (unfold IntKind.wrap; simp; omega)
      have z1 : ¬ 9223372036854775807 < 1 + u.size := by omega
      have HB := Lib.hid (hb.alloc hb.size (.cells #[.int .u8 (48 + ((k % 10 : Nat) : Int))] 5))
      have HS := Lib.hid (show (⟨#[(48 + k % 10).toUInt8]⟩ ++ u).size + f' ≤ m by rw [ByteArray.size_append]; show 1 + u.size + f' ≤ m; omega)
      have HK := Lib.hid (show k / 10 ≤ f' by omega)
      have HL := Lib.hid (show k / 10 < k by omega)
      simp only [List.length_cons, List.length_nil, Nat.zero_add] at CV
      generalize (48 + k % 10).toUInt8 = b at *
      generalize hd2 : ((k % 10 : Nat) : Int) = d at *
      have hd3 : (0 : Int) ≤ d ∧ d ≤ 9 := by omega
      generalize k / 10 = k' at *
      have CH := Lib.hid CV
      clear hm hb hsz hd hbt hd2 hkf CV
      go_wp2
      rw [CH.out]
      go_wp2
      go_roundw
      case rel => exact ⟨f', k', _, by go_num, rfl, HK.out, HM.out, HS.out, HB.out⟩
      case measure => have := HL.out; simp [intOf]; omega
    · obtain rfl : k = 0 := by omega
      rw [mtx_zero] at hm
      have z1 : ¬ 9223372036854775807 < 1 + u.size := by omega
      have hk0 : ¬ (0 : Int) < ((0 : Nat) : Int) := by decide
      have HM := Lib.hid hm
      clear hm
      go_wp2
      go_ret
      exact ⟨(by unfold mt; rw [← HM.out]; first | done | rfl), hb⟩

set_option maxHeartbeats 2000000
theorem eqStringS_same (lo hi lo' hi' : Nat) (A A' : Option Addr) (n c c' : Nat) (x : Nat → ByteArray) (w : World) (hn : n * 16 ≤ 140737488351232)
    (h : Sl w lo hi A n (fun k => .string (x k))) (h' : Sl w lo' hi' A' n (fun k => .string (x k))) :
    Calls Tryd.prog 28 #[.slice A n c, .slice A' n c'] w fun e w' => e = .returned (.bool true) ∧ Below w.heap.size w w' := by
  have H := Lib.hid h
  have H' := Lib.hid h'
  clear h h'
  go_enter Tryd.func28, Tryd.ntmps28
  go_wp2
  go_loopw [5] (fun i wr => ∃ k : Nat, k ≤ n ∧ i = .int .i64 k ∧ Below w.heap.size w wr) (fun i _ => n - (intOf i).toNat)
  case atStart => exact ⟨0, Nat.zero_le _, rfl, Below.refl _ _⟩
  case round =>
    obtain ⟨k, hk, rfl, hb⟩ := hrel
    by_cases hlt : k < n
    · obtain ⟨b, off, rfl, h1, h2, hc⟩ := H.out.lt.at_ hlt
      obtain ⟨b', off', rfl, h1', h2', hc'⟩ := H'.out.lt.at_ hlt
      have hck := (hb.cell (p := ⟨b, off + k, none⟩) (by simp; omega)).trans (hc k hlt)
      have hck' := (hb.cell (p := ⟨b', off' + k, none⟩) (by simp; omega)).trans (hc' k hlt)
      have HB := Lib.hid hb
      clear hb hc hc' H H'
      go_wp2_with fail
      go_quiet (fail)
      go_wp2
      go_roundw
      case rel => exact ⟨k + 1, by omega, by go_num, below_drewN HB.out _⟩
      case measure => simp [intOf]; omega
    · go_wp2
      go_ret
      exact ⟨rfl, hb⟩

theorem markStringS_any (lo hi : Nat) (A : Option Addr) (n c : Nat) (x : Nat → Value) (m : Nat) (w : World) (hn : n * 16 ≤ 140737488351232) (hm : m ≤ 2305843009213693952) (hm1 : 1 ≤ m)
    (hx : ∀ k, k < n → ∃ y, x k = .string y) (h : Mine w lo hi 9 A n x) :
    Calls Tryd.prog 29 #[.slice A n c, .int .i64 m] w fun e w' =>
      e = .returned (.int .i64 ((m + n : Nat) : Int)) ∧ Mine w' lo hi 9 A n (fun k => .string (mt (m + k))) ∧ Only lo hi w w' := by
  have H := Lib.hid h
  have X := Lib.hid hx
  clear h hx
  go_enter Tryd.func29, Tryd.ntmps29
  go_wp2
  go_loopw [1, 5] (fun q i wr => ∃ k : Nat, k ≤ n ∧ i = .int .i64 k ∧ q = .int .i64 ((m + k : Nat) : Int) ∧ Mine wr lo hi 9 A n (fun j => if j < k then .string (mt (m + j)) else x j) ∧ Only lo hi w wr) (fun _ i _ => n - (intOf i).toNat)
  case atStart => exact ⟨0, Nat.zero_le _, rfl, rfl, H.out.congr (fun k hk => by simp), Only.refl _ _ _⟩
  case round =>
    obtain ⟨k, hk, rfl, rfl, hmine, hb⟩ := hrel
    by_cases hlt : k < n
    · rcases hmine with h0 | ⟨g, off, rfl, h1, h2, hrow⟩
      · omega
      obtain ⟨y, hy⟩ := X.out k hlt
      have e1 : ((m + k : Nat) : Int) = (m : Int) + k := by omega
      have MT := Lib.hid (markText10 (m + k) (by omega) (by omega) wr)
      rw [e1] at MT
      rw [e1]
      go_wp2_with fail
      refine MT.out.mono ?_
      rintro e w2 ⟨rfl, hb2⟩
      clear MT
      have hb := hb.trans (Only.of_below (lo := lo) (hi := hi) hb2 (by have := hrow.lt; omega))
      have hrow := hrow.below hb2 hrow.lt
      have hco := hrow.cell hlt
      simp only [Nat.lt_irrefl, if_false] at hco
      rw [hy] at hco
      have hfo := hrow.frozen (off + k)
      have R : Row (w2.setCell ⟨g, off + k, none⟩ (.string (mt (m + k)))) g off 9 n (fun j => if j < k + 1 then .string (mt (m + j)) else x j) := by
        refine (hrow.set hlt (.string (mt (m + k)))).congr fun j hj => ?_
        by_cases e : j = k
        · subst e; simp
        · by_cases e2 : j < k
          · rw [if_neg e, if_pos e2, if_pos (by omega)]
          · rw [if_neg e, if_neg e2, if_neg (by omega)]
      have HR := Lib.hid R
      have HB := Lib.hid (hb.setCell (p := ⟨g, off + k, none⟩) h1 h2 (.string (mt (m + k))))
      clear e1 R hb hb2 hrow H X hy
      go_wp2
      go_roundw
      case rel => exact ⟨k + 1, by omega, by go_num, by go_num, .inr ⟨g, off, rfl, h1, h2, HR.out⟩, HB.out⟩
      case measure => simp [intOf]; omega
    · have e0 : k = n := by omega
      subst e0
      go_wp2
      go_ret
      exact ⟨rfl, hmine.congr (fun j hj => by rw [if_pos hj]), hb⟩

theorem heldStringS_any (lo hi : Nat) (A : Option Addr) (n c : Nat) (m : Nat) (w : World) (hn : n * 16 ≤ 140737488351232) (hm : m ≤ 2305843009213693952) (hm1 : 1 ≤ m)
    (h : Sl w lo hi A n (fun k => .string (mt (m + k)))) :
    Calls Tryd.prog 30 #[.slice A n c, .int .i64 m] w fun e w' => e = .returned (.int .i64 ((m + n : Nat) : Int)) ∧ Below w.heap.size w w' := by
  have H := Lib.hid h
  clear h
  go_enter Tryd.func30, Tryd.ntmps30
  go_wp2
  go_loopw [1, 5] (fun q i wr => ∃ k : Nat, k ≤ n ∧ i = .int .i64 k ∧ q = .int .i64 ((m + k : Nat) : Int) ∧ Below w.heap.size w wr) (fun _ i _ => n - (intOf i).toNat)
  case atStart => exact ⟨0, Nat.zero_le _, rfl, rfl, Below.refl _ _⟩
  case round =>
    obtain ⟨k, hk, rfl, rfl, hb⟩ := hrel
    by_cases hlt : k < n
    · obtain ⟨b, off, rfl, h1, h2, hc⟩ := H.out.lt.at_ hlt
      have hck := (hb.cell (p := ⟨b, off + k, none⟩) (by simp; omega)).trans (hc k hlt)
      have KH : Hid (∀ V, Below wr.heap.size wr V → (V.cell? ⟨b, off + k, none⟩ = some (.string (mt (m + k)))) ∧ Below wr.heap.size wr V) := fun V hV =>
        ⟨(World.cell?_of_block (a := ⟨b, off + k, none⟩) (hV.block b (World.block_lt_of_cell? _ _ hck))).trans hck, hV⟩
      have e1 : ((m + k : Nat) : Int) = (m : Int) + k := by omega
      have MT : Hid (∀ V, Below wr.heap.size wr V → Calls Tryd.prog 39 #[.int .i64 ((m : Int) + k)] V fun e w' => e = .returned (.string (mt (m + k))) ∧ Below wr.heap.size wr w') := fun V hV => by
        rw [← e1]
        exact (markText10 (m + k) (by omega) (by omega) V).mono fun e w' hh => ⟨hh.1, hV.trans (hh.2.mono hV.size)⟩
      have HB := Lib.hid hb
      rw [e1]
      clear e1 hb hc H hck
      go_wp2_with fail
      refine wp_region_held_drew (S := fun V => (V.cell? ⟨b, off + k, none⟩ = some (.string (mt (m + k)))) ∧ Below wr.heap.size wr V) (by kernel_rfl) (KH.out _ (Below.drew (Below.refl _ _))) (fun hHeld => ?_)
      obtain ⟨v0, hv0⟩ : ∃ v0, v0 = wr.drew := ⟨_, rfl⟩
      have BL0 : Hid (Below wr.heap.size wr v0) := by rw [hv0]; exact Below.drew (Below.refl _ _)
      rw [← hv0] at hHeld ⊢
      clear hv0
      refine tkH 0 ?_ rfl ?_ hHeld ?_; rotate_left; (intro w hSw; (try dsimp only at hSw); go_simp; try with_reducible rfl); try simp only [Act.put, zz1, zz2, zz3, zz4, zz5, zz6]
      refine tkH 1 ?_ rfl ?_ hHeld ?_; rotate_left; (intro w hSw; (try dsimp only at hSw); go_simp; try with_reducible rfl); try simp only [Act.put, zz1, zz2, zz3, zz4, zz5, zz6]
      refine tkH 2 ?_ rfl ?_ hHeld ?_; rotate_left; (intro w hSw; (try dsimp only at hSw); go_simp; try with_reducible rfl); try simp only [Act.put, zz1, zz2, zz3, zz4, zz5, zz6]
      refine tkH 3 ?_ rfl ?_ hHeld ?_; rotate_left; (intro w hSw; (try dsimp only at hSw); go_simp; try with_reducible rfl); try simp only [Act.put, zz1, zz2, zz3, zz4, zz5, zz6]
      refine tkH 4 ?_ rfl ?_ hHeld ?_; rotate_left; (intro w hSw; (try dsimp only at hSw); go_simp; try with_reducible rfl); try simp only [Act.put, zz1, zz2, zz3, zz4, zz5, zz6]
      refine wpAnyH_ready (rs := [5]) (by kernel_rfl) (by simp) ?_
      refine AllReadyH.cons (o := _) rfl (fun K0 hK0 => ?_) AllReadyH.nil
      go_simp
      refine (MT.out _ (by go_split_ands; assumption)).mono ?_
      rintro e9 w9 ⟨rfl, hb9⟩
      go_wp2_with fail
      have HB9 := Lib.hid hb9
      refine hK0.out _ _ (KH.out _ hb9) (fun hHeld => ?_)
      clear hK0 K0
      try simp only [Act.put, zz1, zz2, zz3, zz4, zz5, zz6]
      refine tkH 6 ?_ rfl ?_ hHeld ?_; rotate_left; (intro w hSw; (try dsimp only at hSw); go_simp; try with_reducible rfl); try simp only [Act.put, zz1, zz2, zz3, zz4, zz5, zz6]
      refine wpAnyH_done (by kernel_rfl) ?_ _
      have BN := Lib.hid (HB.out.trans (HB9.out.mono HB.out.size))
      go_wp2
      go_roundw
      case rel => exact ⟨k + 1, by omega, by go_num, by go_num, BN.out⟩
      case measure => simp [intOf]; omega
    · have e0 : k = n := by omega
      subst e0
      go_wp2
      go_ret
      exact ⟨rfl, hb⟩

theorem eqTextsResult_same (lo hi lo' hi' : Nat) (A A' : Option Addr) (n c c' : Nat) (q : Int) (x : Nat → ByteArray) (w : World) (hn : n * 16 ≤ 140737488351232)
    (h : Sl w lo hi A n (fun k => .string (x k))) (h' : Sl w lo' hi' A' n (fun k => .string (x k))) :
    Calls Tryd.prog 15 #[.agg #[.int .i64 q, .slice A n c], .agg #[.int .i64 q, .slice A' n c']] w fun e w' => e = .returned (.bool true) ∧ Below w.heap.size w w' := by
  have H := Lib.hid h
  have H' := Lib.hid h'
  clear h h'
  go_enter Tryd.func15, Tryd.ntmps15
  go_wp2_with fail
  have B2 : ∀ o o', Below w.heap.size w ((w.alloc o).alloc o') := fun o o' => ((Below.refl _ _).alloc (Nat.le_refl _) o).alloc (by simp) o'
  refine (eqStringS_same lo (min hi w.heap.size) lo' (min hi' w.heap.size) A A' n c c' x _ hn (H.out.lt.below (B2 _ _) (by omega)) (H'.out.lt.below (B2 _ _) (by omega))).mono ?_
  rintro e w' ⟨rfl, hb⟩
  have HB := Lib.hid ((B2 _ _).trans (hb.mono (by simp; omega)))
  clear hb B2
  go_wp2
  go_ret
  exact ⟨rfl, HB.out⟩

theorem markTextsResult_any (lo hi : Nat) (A : Option Addr) (n c : Nat) (q : Int) (x : Nat → Value) (m : Nat) (w : World) (hn : n * 16 ≤ 140737488351232) (hm : m ≤ 2305843009213693952) (hm1 : 1 ≤ m) (hlo : lo ≤ w.heap.size)
    (hx : ∀ k, k < n → ∃ y, x k = .string y) (h : Mine w lo hi 9 A n x) (hhi : hi ≤ w.heap.size) :
    Calls Tryd.prog 16 #[.agg #[.int .i64 q, .slice A n c], .int .i64 m] w fun e w' =>
      e = .returned (.int .i64 ((m + n : Nat) : Int)) ∧ Mine w' lo hi 9 A n (fun k => .string (mt (m + k))) ∧ Only lo hi w w' := by
  have H := Lib.hid h
  have X := Lib.hid hx
  clear h hx
  go_enter Tryd.func16, Tryd.ntmps16
  go_wp2_with fail
  have B1 : ∀ o, Below w.heap.size w (w.alloc o) := fun o => (Below.refl _ _).alloc (Nat.le_refl _) o
  refine (markStringS_any lo hi A n c x m _ hn hm hm1 X.out (H.out.below (B1 _) hhi)).mono ?_
  rintro e w' ⟨rfl, hmine, hb⟩
  have HB := Lib.hid ((Only.of_below (B1 _) hlo).trans hb)
  have HM := Lib.hid hmine
  clear hb B1 hmine
  go_wp2
  go_ret
  exact ⟨rfl, HM.out, HB.out⟩

theorem heldTextsResult_any (lo hi : Nat) (A : Option Addr) (n c : Nat) (q : Int) (m : Nat) (w : World) (hn : n * 16 ≤ 140737488351232) (hm : m ≤ 2305843009213693952) (hm1 : 1 ≤ m)
    (h : Sl w lo hi A n (fun k => .string (mt (m + k)))) :
    Calls Tryd.prog 17 #[.agg #[.int .i64 q, .slice A n c], .int .i64 m] w fun e w' => e = .returned (.int .i64 ((m + n : Nat) : Int)) ∧ Below w.heap.size w w' := by
  have H := Lib.hid h
  clear h
  go_enter Tryd.func17, Tryd.ntmps17
  go_wp2_with fail
  have B1 : ∀ o, Below w.heap.size w (w.alloc o) := fun o => (Below.refl _ _).alloc (Nat.le_refl _) o
  refine (heldStringS_any lo (min hi w.heap.size) A n c m _ hn hm hm1 (H.out.lt.below (B1 _) (by omega))).mono ?_
  rintro e w' ⟨rfl, hb⟩
  have HB := Lib.hid ((B1 _).trans (hb.mono (by simp)))
  clear hb B1
  go_wp2
  go_ret
  exact ⟨rfl, HB.out⟩

end Go.Proofs.YtckapndpefkcgaaDoor
