/-
  The words of a line: the mathematics, and the model's WordsOf. No conditions beyond the line's length.
-/
import Derived.Maps.AppendAt
import Derived.Laws.OwnMore
import Derived.Test.YtckapndpefkcgaaDoorStr10
set_option maxHeartbeats 1000000
namespace Go.Proofs.YtckapndpefkcgaaDoor
open Go.RowKit
set_option maxRecDepth 100000

def cw (s : ByteArray) : Nat → List ByteArray × Nat
  | 0 => ([], 0)
  | i + 1 => if i = s.size ∨ bt s i = 32 then ((cw s i).1 ++ [s.extract (cw s i).2 i], i + 1) else cw s i
theorem cw_hit {s : ByteArray} {i : Nat} (h : i = s.size ∨ bt s i = 32) : cw s (i + 1) = ((cw s i).1 ++ [s.extract (cw s i).2 i], i + 1) := by
  show (if _ then _ else _) = _
  rw [if_pos h]
theorem cw_miss {s : ByteArray} {i : Nat} (h : ¬ (i = s.size ∨ bt s i = 32)) : cw s (i + 1) = cw s i := by
  show (if _ then _ else _) = _
  rw [if_neg h]
theorem cw_le (s : ByteArray) : ∀ i, (cw s i).2 ≤ i ∧ (cw s i).1.length ≤ i
  | 0 => ⟨Nat.le_refl _, Nat.le_refl _⟩
  | i + 1 => by
    have ih := cw_le s i
    by_cases h : i = s.size ∨ bt s i = 32
    · rw [cw_hit h]; simp; omega
    · rw [cw_miss h]; omega
def parts (s : ByteArray) : List ByteArray := (cw s (s.size + 1)).1
theorem parts_len (s : ByteArray) : 1 ≤ (parts s).length ∧ (parts s).length ≤ s.size + 1 := by
  refine ⟨?_, (cw_le s _).2⟩
  unfold parts
  rw [cw_hit (.inl rfl)]
  simp
def nz (l : List ByteArray) : List ByteArray := l.filter fun u => decide (0 < u.size)
theorem nz_snoc (l : List ByteArray) (u : ByteArray) : nz (l ++ [u]) = if 0 < u.size then nz l ++ [u] else nz l := by
  unfold nz
  rw [List.filter_append]
  by_cases h : 0 < u.size
  · rw [if_pos h]; simp [h]
  · rw [if_neg h]; simp [h]
def wordsL (s : ByteArray) : List ByteArray := nz (parts s)
theorem nz_len (l : List ByteArray) : (nz l).length ≤ l.length := List.length_filter_le _ _
def At (s : ByteArray) (p : Nat) (ws : List ByteArray) : Prop := p ≤ s.size ∧ (cw s p).2 = p ∧ nz (cw s p).1 = ws
theorem At.zero (s : ByteArray) : At s 0 [] := ⟨Nat.zero_le _, rfl, rfl⟩
theorem At.blank {s : ByteArray} {p : Nat} {ws : List ByteArray} (h : At s p ws) (hp : p < s.size) (hb : bt s p = 32) : At s (p + 1) ws := by
  refine ⟨hp, ?_, ?_⟩
  · rw [cw_hit (.inr hb)]
  · rw [cw_hit (.inr hb), nz_snoc, h.2.1, if_neg (by simp), h.2.2]
theorem At.blanks {s : ByteArray} {p : Nat} {ws : List ByteArray} (h : At s p ws) : ∀ d, p + d ≤ s.size → (∀ i, p ≤ i → i < p + d → bt s i = 32) → At s (p + d) ws
  | 0, _, _ => h
  | d + 1, h1, h2 => (At.blanks h d (by omega) (fun i a b => h2 i a (by omega))).blank (by omega) (h2 _ (by omega) (by omega))
theorem cw_run {s : ByteArray} {p : Nat} : ∀ d, p + d ≤ s.size → (∀ i, p ≤ i → i < p + d → bt s i ≠ 32) → cw s (p + d) = cw s p
  | 0, _, _ => rfl
  | d + 1, h1, h2 => by
    rw [← Nat.add_assoc, cw_miss (by
      have := h2 (p + d) (by omega) (by omega)
      rintro (e | e)
      · omega
      · exact this e)]
    exact cw_run d (by omega) (fun i a b => h2 i a (by omega))
theorem At.end_ {s : ByteArray} {ws : List ByteArray} (h : At s s.size ws) : wordsL s = ws := by
  unfold wordsL parts
  rw [cw_hit (.inl rfl), nz_snoc, h.2.1, if_neg (by simp), h.2.2]
theorem At.word {s : ByteArray} {p q : Nat} {ws : List ByteArray} (h : At s p ws) (hc : isCut s p q) (hp : p < s.size) (hb : bt s p ≠ 32) : p < q ∧ nz (cw s (q + 1)).1 = ws ++ [s.extract p q] ∧ (cw s (q + 1)).2 = q + 1 := by
  obtain ⟨h1, h2, h3, h4⟩ := hc
  have hq : p < q := by
    rcases Nat.lt_or_ge p q with e | e
    · exact e
    · obtain rfl : p = q := by omega
      exact absurd (h4 hp) hb
  have er : cw s q = cw s p := by
    have := cw_run (s := s) (p := p) (q - p) (by omega) (fun i a b => h3 i a (by omega))
    rwa [show p + (q - p) = q by omega] at this
  have hh : q = s.size ∨ bt s q = 32 := by
    rcases Nat.lt_or_ge q s.size with e | e
    · exact .inr (h4 e)
    · exact .inl (by omega)
  refine ⟨hq, ?_, ?_⟩
  · rw [cw_hit hh, nz_snoc, er, h.2.1, if_pos (by simp; omega), h.2.2]
  · rw [cw_hit hh]
theorem At.next {s : ByteArray} {p q : Nat} {ws : List ByteArray} (h : At s p ws) (hc : isCut s p q) (hp : p < s.size) (hb : bt s p ≠ 32) (hq : q < s.size) : At s (q + 1) (ws ++ [s.extract p q]) := ⟨hq, (h.word hc hp hb).2.2, (h.word hc hp hb).2.1⟩
theorem At.last {s : ByteArray} {p : Nat} {ws : List ByteArray} (h : At s p ws) (hc : isCut s p s.size) (hp : p < s.size) (hb : bt s p ≠ 32) : wordsL s = ws ++ [s.extract p s.size] := (h.word hc hp hb).2.1
theorem At.len {s : ByteArray} {p : Nat} {ws : List ByteArray} (h : At s p ws) : ws.length ≤ p := by
  rw [← h.2.2]
  exact Nat.le_trans (nz_len _) (cw_le s p).2

def sv (l : List ByteArray) : List Value := l.map Value.string
theorem sv_snoc (l : List ByteArray) (u : ByteArray) : sv (l ++ [u]) = sv l ++ [.string u] := by unfold sv; simp
theorem infoStr : (Tryd.prog.info? 9).map (fun i => (i.zero, i.size, i.bytes)) = some (some (.string ⟨#[]⟩), 1, 16) := by kernel_rfl
theorem cell_str_new (W : World) (u : Value) (t : TypeId) (j : Nat) (x : Value) (h : [u][j]? = some x) : (W.alloc (.cells #[u] t)).cell? ((⟨W.heap.size, 0, none⟩ : Addr).add j) = some x := by
  match j, h with
  | 0, h => simp at h; subst h; simp [Addr.add]
  | n + 1, h => simp at h

set_option maxHeartbeats 4000000 in
theorem l1Cut10 (s : ByteArray) (hs : s.size ≤ 3000) (w : World) :
    Calls Tryd.prog 35 #[.string s, .int .u8 32] w fun e w' => ∃ v, e = .returned v ∧ w'.ownsRow w.heap.size 9 1 v (parts s).length (sv (parts s)) ∧ Below w.heap.size w w' := by
  obtain ⟨i0, hi0, hz0, hz1, hz2⟩ := info_parts infoStr
  have EQ : Hid (∀ k (h : k < s.size), ((s[k]'h).toNat : Int) = bt s k) := fun k h => bt_eq s k h
  have own0 : Hid ((w.alloc (.cells #[] 9)).ownsRow w.heap.size 9 1 (.slice (some ⟨w.heap.size, 0, none⟩) 0 0) 0 []) :=
    ⟨rfl, .inr ⟨w.heap.size, 0, #[], rfl, Nat.le_refl _, heap_alloc_new w _, Nat.le_refl _, by simp [maxLen], rfl, rfl⟩⟩
  have b1 : Hid (Below w.heap.size w (w.alloc (.cells #[] 9))) := below_new w _
  go_enter Tryd.func35, Tryd.ntmps35
  go_wp2_with fail
  go_loopw [5, 6, 7] (fun v f i wr => ∃ k : Nat, k ≤ s.size + 1 ∧ i = .int .i64 (k : Int) ∧ f = .int .i64 ((cw s k).2 : Int) ∧ wr.ownsRow w.heap.size 9 1 v (cw s k).1.length (sv (cw s k).1) ∧ Below w.heap.size w wr) (fun _ _ i _ => s.size + 1 - (intOf i).toNat)
  case atStart => exact ⟨0, Nat.zero_le _, rfl, rfl, own0.out, b1.out⟩
  case round =>
    obtain ⟨k, hk, rfl, rfl, hown, hb⟩ := hrel
    have CL := cw_le s k
    have SZ := Lib.hid hb.size
    have HB := Lib.hid hb
    by_cases hle : k ≤ s.size
    · have hleI : (k : Int) ≤ (s.size : Int) := by omega
      have wk : IntKind.i64.wrap ((k : Int) + 1) = ((k + 1 : Nat) : Int) := by rw [IntWalk.i64_in _ (by omega)]; omega
      by_cases hh : k = s.size ∨ bt s k = 32
      · have CH := Lib.hid (cw_hit hh)
        have NB := Lib.hid (show (cw s k).1.length ≤ 3001 by omega)
        generalize hf : (cw s k).2 = f at *
        generalize hl : (cw s k).1 = l at *
        have OW := Lib.hid (hown.alloc (.cells #[.string (s.extract f k)] 9))
        have hfk : (f : Int) ≤ (k : Int) := by omega
        have hfk2 : f ≤ k := by omega
        clear hown hb hf hl
        have hz : ((k : Int) == (s.size : Int)) = true ∨ ((k : Int) == (s.size : Int)) = false ∧ k < s.size ∧ bt s k = 32 := by
          rcases Classical.em (k = s.size) with e | e
          · exact .inl (by subst e; simp)
          · refine .inr ⟨?_, by omega, hh.resolve_left e⟩
            rw [beq_eq_false_iff_ne]; omega
        clear hh
        rcases hz with hz | ⟨hz, hlt, hc⟩
        · go_wp2_with (at_builtin; refine wpList_append_own_at _ rfl (.tmp 26) (.tmp 31) 36 rfl w.heap.size 9 i0 (.string ⟨#[]⟩) 1 16 Tryd.underlying36 hi0 hz0 hz1 hz2 rfl (by decide) _ l.length _ rfl OW.out ⟨wr.heap.size, 0, none⟩ 1 1 [.string (s.extract f k)] rfl rfl (cell_str_new _ _ _) (by simp [Value.oneCell']) (by have := NB.out; unfold maxLen; omega) (by have := NB.out; omega) (by have := SZ.out; simp; omega) ?_; intro v' w1 hown' hgrow' _ hat'; have HO := Lib.hid hown'; have HG := Lib.hid hgrow'; have HA := Lib.hid hat'; clear hown' hgrow' hat')
          have hgr : (wr.alloc (.cells #[.string (s.extract f k)] 9)).grownBy w1 u5.ownBlock := HG.out
          have HB1 := Lib.hid ((HB.out.alloc SZ.out _).grown hgr (by have := SZ.out; simp; omega) (own_base OW.out))
          clear hgr
          go_roundw
          case rel => exact ⟨k + 1, by omega, by go_num, (by rw [CH.out]; simp), by rw [CH.out]; have := HO.out; simpa [sv_snoc] using this, HB1.out⟩
          case measure => simp [intOf]; omega
        · have ek := EQ.out k hlt
          rw [hc] at ek
          have hk0I : (0 : Int) ≤ (k : Int) := by omega
          have hltI : (k : Int) < (s.size : Int) := by omega
          go_wp2_with (at_builtin; refine wpList_append_own_at _ rfl (.tmp 26) (.tmp 31) 36 rfl w.heap.size 9 i0 (.string ⟨#[]⟩) 1 16 Tryd.underlying36 hi0 hz0 hz1 hz2 rfl (by decide) _ l.length _ rfl OW.out ⟨wr.heap.size, 0, none⟩ 1 1 [.string (s.extract f k)] rfl rfl (cell_str_new _ _ _) (by simp [Value.oneCell']) (by have := NB.out; unfold maxLen; omega) (by have := NB.out; omega) (by have := SZ.out; simp; omega) ?_; intro v' w1 hown' hgrow' _ hat'; have HO := Lib.hid hown'; have HG := Lib.hid hgrow'; have HA := Lib.hid hat'; clear hown' hgrow' hat')
          have hgr : (wr.alloc (.cells #[.string (s.extract f k)] 9)).grownBy w1 u5.ownBlock := HG.out
          have HB1 := Lib.hid ((HB.out.alloc SZ.out _).grown hgr (by have := SZ.out; simp; omega) (own_base OW.out))
          clear hgr
          go_roundw
          case rel => exact ⟨k + 1, by omega, by go_num, (by rw [CH.out]; simp), by rw [CH.out]; have := HO.out; simpa [sv_snoc] using this, HB1.out⟩
          case measure => simp [intOf]; omega
      · have CH := Lib.hid (cw_miss hh)
        have hlt : k < s.size := by omega
        have hc : (bt s k == 32) = false := by rw [beq_eq_false_iff_ne]; exact fun e => hh (.inr e)
        have hz : ((k : Int) == (s.size : Int)) = false := by rw [beq_eq_false_iff_ne]; omega
        have ek := EQ.out k hlt
        have hk0I : (0 : Int) ≤ (k : Int) := by omega
        have hltI : (k : Int) < (s.size : Int) := by omega
        have OW := Lib.hid hown
        clear hown hb hh
        go_wp2
        go_roundw
        case rel => exact ⟨k + 1, by omega, by go_num, by rw [CH.out], by rw [CH.out]; exact OW.out, HB.out⟩
        case measure => simp [intOf]; omega
    · have hks : k = s.size + 1 := by omega
      have hleI : ¬ (k : Int) ≤ (s.size : Int) := by omega
      have OW := Lib.hid hown
      clear hown hb
      go_wp2
      go_ret
      subst hks
      exact ⟨_, rfl, OW.out, HB.out⟩

theorem own_keepAll {w w' : World} {base : Nat} {v : Value} {n : Nat} {xs : List Value} (h : w.ownsRow base 9 1 v n xs) (hk : ∀ k, base ≤ k → w'.heap[k]? = w.heap[k]?) : w'.ownsRow base 9 1 v n xs := by
  obtain ⟨hl, h⟩ := h
  refine ⟨hl, ?_⟩
  rcases h with ⟨rfl, rfl⟩ | ⟨g, cap, cur, rfl, hg, hh, r⟩
  · exact .inl ⟨rfl, rfl⟩
  · exact .inr ⟨g, cap, cur, rfl, hg, (hk g hg).trans hh, r⟩
theorem own_lower {w : World} {base base' : Nat} {v : Value} {n : Nat} {xs : List Value} (h : w.ownsRow base 9 1 v n xs) (hb : base' ≤ base) : w.ownsRow base' 9 1 v n xs := by
  obtain ⟨hl, h⟩ := h
  refine ⟨hl, ?_⟩
  rcases h with ⟨rfl, rfl⟩ | ⟨g, cap, cur, rfl, hg, r⟩
  · exact .inl ⟨rfl, rfl⟩
  · exact .inr ⟨g, cap, cur, rfl, Nat.le_trans hb hg, r⟩

theorem own_at (w : World) (base : Nat) (v : Value) (n : Nat) (xs : List Value) (h : w.ownsRow base 9 1 v n xs) (h1 : 1 ≤ n) : ∃ g cap cur, v = .slice (some ⟨g, 0, none⟩) n cap ∧ base ≤ g ∧ w.heap[g]? = some (.cells cur 9 (0, 0)) ∧ ∀ j, j < n → w.cell? ⟨g, j, none⟩ = xs[j]? := by
  obtain ⟨hl, h⟩ := h
  rcases h with ⟨rfl, rfl⟩ | ⟨g, cap, cur, rfl, hg, hh, hn, hm, hs, ht⟩
  · omega
  · exact ⟨g, cap, cur, rfl, hg, hh, fun j hj => World.ownsRow.cellAt ⟨hl, .inr ⟨g, cap, cur, rfl, hg, hh, hn, hm, hs, ht⟩⟩ j (by omega)⟩
theorem take_snoc (l : List ByteArray) (k : Nat) (h : k < l.length) : l.take (k + 1) = l.take k ++ [l[k]] := by rw [List.take_succ_eq_append_getElem h]
theorem str_ne (u : ByteArray) : (u.size = 0 → u = ⟨#[]⟩) := fun h => by
  apply ByteArray.ext
  exact Array.eq_empty_of_size_eq_zero h

set_option maxHeartbeats 4000000 in
theorem l10Words10 (s : ByteArray) (hs : s.size ≤ 3000) (w : World) :
    Calls Tryd.prog 26 #[.string s] w fun e w' => ∃ v, e = .returned v ∧ w'.ownsRow w.heap.size 9 1 v (wordsL s).length (sv (wordsL s)) ∧ Below w.heap.size w w' := by
  obtain ⟨i0, hi0, hz0, hz1, hz2⟩ := info_parts infoStr
  obtain ⟨w1, hw1⟩ : ∃ w1, w1 = w.alloc (.cells #[] 9) := ⟨_, rfl⟩
  have own0 : Hid (w1.ownsRow w.heap.size 9 1 (.slice (some ⟨w.heap.size, 0, none⟩) 0 0) 0 []) := by
    show World.ownsRow _ _ _ _ _ _ _
    rw [hw1]
    exact ⟨rfl, .inr ⟨w.heap.size, 0, #[], rfl, Nat.le_refl _, heap_alloc_new w _, Nat.le_refl _, by simp [maxLen], rfl, rfl⟩⟩
  have b1 : Hid (Below w.heap.size w w1) := by rw [hw1]; exact below_new w _
  have z1 : Hid (w1.heap.size = w.heap.size + 1) := by show _ = _; rw [hw1]; simp
  have HW := Lib.hid hw1
  have CT := Lib.hid (l1Cut10 s hs w1)
  have PL := Lib.hid (parts_len s)
  clear hw1
  go_enter Tryd.func26, Tryd.ntmps26
  go_upto_region 2 with (fail)
  rw [← HW.out]
  clear HW
  go_wp2_with fail
  refine CT.out.mono ?_
  rintro e w2 ⟨v2, rfl, ho2, hb2⟩
  obtain ⟨pb, cp, cur, rfl, hpg, hph, hpc⟩ := own_at _ _ _ _ _ ho2 PL.out.1
  have hplt := (Array.getElem?_eq_some_iff.1 hph).1
  have B2 := Lib.hid (b1.out.trans (hb2.mono b1.out.size))
  have O2 : Hid (w2.ownsRow w.heap.size 9 1 (.slice (some ⟨w.heap.size, 0, none⟩) 0 0) 0 []) := Lib.hid (own0.out.kept (row := none) ⟨hb2.os, hb2.tape, hb2.output, hb2.size, fun k hk _ => hb2.block k hk⟩ (.inr (by simp [Value.ownBlock])))
  have PC : Hid (∀ j (h : j < (parts s).length), w2.cell? ⟨pb, j, none⟩ = some (.string (parts s)[j])) := fun j h => by
    rw [hpc j h]; unfold sv; simp [h]
  have PG := Lib.hid hpg; have PLT := Lib.hid hplt; have WL : Hid (wordsL s = nz (parts s)) := Lib.hid rfl
  generalize parts s = ps at *
  clear ho2 hb2 CT own0 hpc hpg hplt hph
  go_wp2_with fail
  go_loopw [3, 5] (fun v i wr => ∃ k : Nat, k ≤ ps.length ∧ i = .int .i64 (k : Int) ∧ wr.ownsRow w.heap.size 9 1 v (nz (ps.take k)).length (sv (nz (ps.take k))) ∧ v.ownBlock ≠ some pb ∧ Below w.heap.size w wr ∧ wr.heap[pb]? = w2.heap[pb]? ∧ pb < wr.heap.size) (fun _ i _ => ps.length - (intOf i).toNat)
  case atStart => exact ⟨0, Nat.zero_le _, rfl, O2.out, by have := PG.out; have := z1.out; simp [Value.ownBlock]; omega, B2.out, rfl, PLT.out⟩
  case round =>
    obtain ⟨k, hk, rfl, hown, hne, hb, hpb, hpl⟩ := hrel
    have SZ := Lib.hid hb.size
    have HB := Lib.hid hb
    have HP := Lib.hid hpb; have HPL := Lib.hid hpl; have HN := Lib.hid hne
    by_cases hlt : k < ps.length
    · have ck := (World.cell?_of_block (a := ⟨pb, k, none⟩) hpb).trans (PC.out k hlt)
      have TS := Lib.hid (take_snoc ps k hlt)
      have wk : IntKind.i64.wrap ((k : Int) + 1) = ((k + 1 : Nat) : Int) := by rw [IntWalk.i64_in _ (by have := PL.out; omega)]; omega
      have hltI : (k : Int) < (ps.length : Int) := by omega
      have NB := Lib.hid (show (nz (ps.take k)).length ≤ 3001 by have h1 := nz_len (ps.take k); have := PL.out; rw [List.length_take] at h1; omega)
      generalize hu : ps[k] = u at *
      generalize hl : nz (ps.take k) = l at *
      by_cases hz : 0 < u.size
      · obtain ⟨hne1, hne2⟩ := ne_nil u hz
        have NZ : Hid (nz (ps.take (k + 1)) = l ++ [u]) := by show _ = _; rw [TS.out, nz_snoc, if_pos hz, hl]
        have OW := Lib.hid (hown.alloc (.cells #[.string u] 9))
        have HPL2 := HPL.out
        clear hown hb hpb hpl hne hz hu hl
        go_wp2_with (at_builtin; refine wpList_append_own_at _ rfl (.tmp 20) (.tmp 25) 36 rfl w.heap.size 9 i0 (.string ⟨#[]⟩) 1 16 Tryd.underlying36 hi0 hz0 hz1 hz2 rfl (by decide) _ l.length _ rfl OW.out ⟨wr.heap.size, 0, none⟩ 1 1 [.string u] rfl rfl (cell_str_new _ _ _) (by simp [Value.oneCell']) (by have := NB.out; unfold maxLen; omega) (by have := NB.out; omega) (by have := SZ.out; simp; omega) ?_; intro v' w1 hown' hgrow' _ hat'; have HO := Lib.hid hown'; have HG := Lib.hid hgrow'; have HA := Lib.hid hat'; clear hown' hgrow' hat')
        have hgr : (wr.alloc (.cells #[.string u] 9)).grownBy w1 u3.ownBlock := HG.out
        have HB1 := Lib.hid ((HB.out.alloc SZ.out _).grown hgr (by have := SZ.out; simp; omega) (own_base OW.out))
        have HP1 : Hid (w1.heap[pb]? = w2.heap[pb]?) := Lib.hid ((hgr.block pb (by simp; omega) (fun e => HN.out e.symm)).trans ((Below.heap_alloc _ _ _ HPL.out).trans HP.out))
        have HL1 : Hid (pb < w1.heap.size) := by have := hgr.size; simp at this; show _ < _; omega
        have HN1 : Hid (v'.ownBlock ≠ some pb) := by
          rcases HA.out with e | e
          · show _ ≠ _; rw [e]; exact HN.out
          · show _ ≠ _; rw [e]; simp; omega
        clear hgr
        go_roundw
        case rel => exact ⟨k + 1, by omega, by go_num, by rw [NZ.out]; have := HO.out; simpa [sv_snoc] using this, HN1.out, HB1.out, HP1.out, HL1.out⟩
        case measure => simp [intOf]; omega
      · have hu0 : u = ⟨#[]⟩ := str_ne u (by omega)
        have NZ : Hid (nz (ps.take (k + 1)) = l) := by show _ = _; rw [TS.out, nz_snoc, if_neg hz, hl]
        have OW := Lib.hid hown
        clear hown hb hpb hpl hne hz hu hl
        subst hu0
        go_wp2
        go_roundw
        case rel => exact ⟨k + 1, by omega, by go_num, by rw [NZ.out]; exact OW.out, HN.out, HB.out, HP.out, HPL.out⟩
        case measure => simp [intOf]; omega
    · have hks : k = ps.length := by omega
      have hltI : ¬ (k : Int) < (ps.length : Int) := by omega
      have OW := Lib.hid hown
      clear hown hb hpb hpl hne
      go_wp2
      go_ret
      subst hks
      exact ⟨_, rfl, by rw [WL.out]; have := OW.out; rwa [List.take_length] at this, HB.out⟩

def wo (s : ByteArray) : Int × List ByteArray := if 3000 < s.size then (2, []) else (0, wordsL s)
theorem specWordsOf10 (s : ByteArray) (hs : s.size ≤ 9223372036854775807) (w : World) :
    Calls Tryd.prog 13 #[.string s] w fun e w' => ∃ v, e = .returned (.agg #[.int .i64 (wo s).1, v]) ∧ w'.ownsRow w.heap.size 9 1 v (wo s).2.length (sv (wo s).2) ∧ Below w.heap.size w w' := by
  obtain ⟨w1, hw1⟩ : ∃ w1, w1 = w.alloc (.cells #[.int .i64 0, .slice none 0 0] 38) := ⟨_, rfl⟩
  have K1 : Hid (w1.heap[w.heap.size]? = some (.cells #[.int .i64 0, .slice none 0 0] 38 (0, 0))) := by show _ = _; rw [hw1]; exact heap_alloc_new w _
  have B1 : Hid (Below w.heap.size w w1) := by rw [hw1]; exact below_new w _
  have Z1 : Hid (w1.heap.size = w.heap.size + 1) := by show _ = _; rw [hw1]; simp
  have HW := Lib.hid hw1
  clear hw1
  by_cases hb : 3000 < s.size
  · have E : Hid (wo s = (2, [])) := Lib.hid (if_pos hb)
    have hbI : (3000 : Int) < (s.size : Int) := by omega
    have r0 := cell_of_row w1 _ 0 _ _ _ K1.out; have r1 := cell_of_row w1 _ 1 _ _ _ K1.out
    have f0 := frozen_of_row w1 _ 0 _ _ K1.out; have f1 := frozen_of_row w1 _ 1 _ _ K1.out
    simp at r0 r1
    go_enter Tryd.func13, Tryd.ntmps13
    go_upto_region 1 with (fail)
    rw [← HW.out]
    clear HW
    go_wp2
    refine bodyPost_ret (results_cell_row rfl _ _ _ _ _ (0, 0) _ rfl (heap_setCell_same _ _ 1 _ _ _ (heap_setCell_same _ _ 0 _ _ _ K1.out)) Tryd.underlying38 rfl (by kernel_rfl)) rfl ?_
    exact ⟨_, (by rw [E.out]; rfl), (by rw [E.out]; exact World.ownsRow_nil _ _ _ _), (B1.out.setCell (p := ⟨w.heap.size, 0, none⟩) (Nat.le_refl _) _).setCell (p := ⟨w.heap.size, 1, none⟩) (Nat.le_refl _) _⟩
  · have E : Hid (wo s = (0, wordsL s)) := Lib.hid (if_neg hb)
    have hbI : ¬ (3000 : Int) < (s.size : Int) := by omega
    have WD := Lib.hid (l10Words10 s (by omega) w1)
    go_enter Tryd.func13, Tryd.ntmps13
    go_upto_region 1 with (fail)
    rw [← HW.out]
    clear HW
    go_wp2_with fail
    refine WD.out.mono ?_
    rintro e w2 ⟨v, rfl, ho, hb2⟩
    have K2 := Lib.hid ((hb2.block _ (by have := Z1.out; omega)).trans K1.out)
    have B2 := Lib.hid (B1.out.trans (hb2.mono B1.out.size))
    have r0 := cell_of_row w2 _ 0 _ _ _ K2.out; have r1 := cell_of_row w2 _ 1 _ _ _ K2.out
    have f0 := frozen_of_row w2 _ 0 _ _ K2.out; have f1 := frozen_of_row w2 _ 1 _ _ K2.out
    simp at r0 r1
    have OH : Hid (∀ x y, ((w2.setCell ⟨w.heap.size, 0, none⟩ x).setCell ⟨w.heap.size, 1, none⟩ y).ownsRow w.heap.size 9 1 v (wordsL s).length (sv (wordsL s))) := Lib.hid (fun x y => own_lower (own_keepAll ho (fun k hk => by rw [Below.heap_setCell _ _ _ _ (by simp; have := Z1.out; omega), Below.heap_setCell _ _ _ _ (by simp; have := Z1.out; omega)])) (by have := Z1.out; omega))
    obtain ⟨Av, cv, rfl, _⟩ := mine_of_own ho
    clear hb2 ho
    go_wp2
    refine bodyPost_ret (results_cell_row rfl _ _ _ _ _ (0, 0) _ rfl (heap_setCell_same _ _ 1 _ _ _ (heap_setCell_same _ _ 0 _ _ _ K2.out)) Tryd.underlying38 rfl (by kernel_rfl)) rfl ?_
    exact ⟨_, (by rw [E.out]; rfl), (by rw [E.out]; exact OH.out _ _), (B2.out.setCell (p := ⟨w.heap.size, 0, none⟩) (Nat.le_refl _) _).setCell (p := ⟨w.heap.size, 1, none⟩) (Nat.le_refl _) _⟩

end Go.Proofs.YtckapndpefkcgaaDoor
