/-
  The program's WordsOf. No conditions beyond the line's length and how errors.errorType lies.
-/
import Derived.ScopeJumps
import Derived.WalkMore
import Derived.Test.YtckapndpefkcgaaDoorWord10
set_option maxHeartbeats 1000000
namespace Go.Proofs.YtckapndpefkcgaaDoor
open Go.RowKit
set_option maxRecDepth 100000

theorem scut10 (s : ByteArray) (p : Nat) (hp : p ≤ s.size) (hs : s.size ≤ 9223372036854775806) (w : World) :
    Calls Tryd.prog 37 #[.string (sx s p), .string ⟨#[32]⟩] w fun e w' => (∃ q r, isCut s p q ∧ (q < s.size ∧ r = sx s (q + 1) ∨ q = s.size ∧ r = ⟨#[]⟩) ∧ ∃ f, e = .returned (.tuple #[.string (s.extract p q), .string r, .bool f])) ∧ Below w.heap.size w w' := by
  have C := Lib.hid (cut10 s p hp hs)
  generalize sx s p = u at *
  go_enter Tryd.func37, Tryd.ntmps37
  go_wp2_with fail
  refine (C.out _).mono ?_
  rintro e w' ⟨⟨q, r, h1, h2, f, rfl⟩, hb⟩
  go_wp2
  go_returns
  exact ⟨⟨q, r, h1, h2, f, rfl⟩, hb⟩

theorem scope_shared {P : Program} {a : Act} {w : World} {Q : Exit → Act → World → Prop} {c rest : Code} (l : Nat) (J : Act → World → Prop) (μ : Act → World → Nat) (hf : findLabel c l = some (.seq .skip rest))
    (pass : ∀ a w, J a w → rest.wp P (Exit.jump l (fun a' w' => J a' w' ∧ μ a' w' < μ a w) Q) a w)
    (start : (∀ a w, J a w → rest.wp P (Exit.jump l J Q) a w) → c.wp P (Exit.jump l J Q) a w) : (Code.scope c).wp P Q a w :=
  wp_scope_jumps l J μ hf (start fun a w h => Code.wp_mono (fun e a' w' q => by
    cases e with
    | goto l' => exact ⟨q.1, q.2.1⟩
    | normal => exact q
    | exit id => exact q
    | ret => exact q
    | panic ch => exact q
    | outgrown => exact q) (pass a w h)) (fun a w h => wp_seq (wp_skip (pass a w h)))

theorem wl_len (s : ByteArray) (hs : s.size ≤ 3000) {p : Nat} {ws : List ByteArray} (hp : p ≤ s.size) (h : At s p ws ∨ p = s.size ∧ wordsL s = ws) : ws.length ≤ 3001 := by
  rcases h with h | ⟨_, rfl⟩
  · have := h.len; omega
  · have h1 := nz_len (parts s); have h2 := (parts_len s).2; unfold wordsL; omega

set_option maxHeartbeats 8000000 in
theorem wordsIn10 (s : ByteArray) (hs : s.size ≤ 3000) (w : World) :
    Calls Tryd.prog 27 #[.string s] w fun e w' => ∃ v, e = .returned (.tuple #[v, .nilIface]) ∧ w'.ownsRow w.heap.size 9 1 v (wordsL s).length (sv (wordsL s)) ∧ Below w.heap.size w w' := by
  obtain ⟨i0, hi0, hz0, hz1, hz2⟩ := info_parts infoStr
  have hbI : ¬ (3000 : Int) < (s.size : Int) := by omega
  have hbD : decide ((3000 : Int) < (s.size : Int)) = false := decide_eq_false hbI
  go_enter Tryd.func27, Tryd.ntmps27
  go_wp2
  refine scope_shared 0 (fun a' w' => ∃ (p : Nat) (ws : List ByteArray) (v : Value) (u5 u6 u7 u12 u13 u14 u15 u16 u17 u18 u19 u20 u21 u22 u23 u24 u25 u26 u27 u28 : Value), a' = { tmps := #[.string (sx s p), undef, .slice none 0 0, .nilIface, v, u5, u6, u7, .string s, .int .i64 (s.size : Int), .bool false, undef, u12, u13, u14, u15, u16, u17, u18, u19, u20, u21, u22, u23, u24, u25, u26, u27, u28], defers := [] } ∧ p ≤ s.size ∧ (At s p ws ∨ p = s.size ∧ wordsL s = ws) ∧ w'.ownsRow w.heap.size 9 1 v ws.length (sv ws) ∧ Below w.heap.size w w') (fun a' _ => (strOf (a'.tmps.getD 0 undef)).size) rfl ?pass ?start
  case start =>
    intro PASS
    go_wp2
    go_step3
    rename_i Kx hKx
    refine hKx _ _ (PASS _ _ ?_)
    exact ⟨0, [], _, _, _, _, _, _, _, _, _, _, _, _, _, _, _, _, _, _, _, _, _, by rw [sx_zero], Nat.zero_le _, .inl (At.zero s), World.ownsRow_nil _ _ _ _, Below.refl _ _⟩
  case pass =>
    rintro a' wr ⟨p, ws, v, u5, u6, u7, u12, u13, u14, u15, u16, u17, u18, u19, u20, u21, u22, u23, u24, u25, u26, u27, u28, rfl, hp, hat, hown, hb⟩
    have TR := Lib.hid (trim10 s p hp (by omega))
    have NB := Lib.hid (wl_len s hs hp hat)
    have SP := Lib.hid (sx_size s p)
    have HAT := Lib.hid hat
    have HP := Lib.hid hp
    have SZ := Lib.hid hb.size
    have HB := Lib.hid hb
    have HO := Lib.hid hown
    clear hat hown hb hp
    generalize hu : sx s p = u at *
    have HU := Lib.hid hu
    clear hu
    go_wp2_with fail
    refine (TR.out _).mono ?_
    rintro e w' ⟨⟨p1, h1, h2, h3, h4, rfl⟩, rfl⟩
    clear TR
    by_cases hlt : p1 < s.size
    · obtain ⟨hne1, hne2⟩ := ne_nil (sx s p1) (by rw [sx_size]; omega)
      have AT : Hid (At s p1 ws) := by
        rcases HAT.out with h | ⟨e, _⟩
        · have := h.blanks (p1 - p) (by omega) (fun i a b => h3 i a (by omega))
          rw [show p + (p1 - p) = p1 by omega] at this
          exact this
        · omega
      have CT := Lib.hid (scut10 s p1 h2 (by omega))
      have BN := Lib.hid (h4 hlt)
      have H1 := Lib.hid h1; have HL := Lib.hid hlt
      clear h3 h4 h1 hlt h2
      generalize sx s p1 = x at *
      go_wp2_with fail
      refine (CT.out _).mono ?_
      rintro e w2 ⟨⟨q, r, hc, hr, f, rfl⟩, hb2⟩
      have CL := Lib.hid (sclone10 (s.extract p1 q) (by simp; omega))
      have HC := Lib.hid hc; have HR := Lib.hid hr; have HB2 := Lib.hid hb2
      generalize hy : s.extract p1 q = y at *
      have HY := Lib.hid hy
      clear CT hc hr hb2 hy
      go_wp2_with fail
      refine (CL.out _).mono ?_
      rintro e w3 ⟨rfl, hb3⟩
      clear CL
      have C3 := Lib.hid (HB2.out.trans (hb3.mono HB2.out.size))
      have OW0 : Hid (w3.ownsRow w.heap.size 9 1 v ws.length (sv ws)) := Lib.hid (HO.out.kept (row := none) ⟨C3.out.os, C3.out.tape, C3.out.output, C3.out.size, fun k hk _ => C3.out.block k hk⟩ (by cases hv : v.ownBlock <;> simp))
      have OW := Lib.hid (OW0.out.alloc (.cells #[.string y] 9))
      have B3 := Lib.hid (HB.out.trans (C3.out.mono SZ.out))
      have SZ := Lib.hid B3.out.size
      clear hb3
      go_wp2_with (at_builtin; refine wpList_append_own_at _ rfl (.tmp 23) (.tmp 26) 36 rfl w.heap.size 9 i0 (.string ⟨#[]⟩) 1 16 Tryd.underlying36 hi0 hz0 hz1 hz2 rfl (by decide) _ ws.length _ rfl OW.out ⟨w3.heap.size, 0, none⟩ 1 1 [.string y] rfl rfl (cell_str_new _ _ _) (by simp [Value.oneCell']) (by have := NB.out; unfold maxLen; omega) (by have := NB.out; omega) (by have := SZ.out; simp; omega) ?_; intro v' w4 hown' hgrow' _ hat'; have HO4 := Lib.hid hown'; have HG4 := Lib.hid hgrow'; clear hown' hgrow' hat')
      have hgr : (w3.alloc (.cells #[.string y] 9)).grownBy w4 v.ownBlock := HG4.out
      have HB4 := Lib.hid ((B3.out.alloc SZ.out _).grown hgr (by have := SZ.out; simp; omega) (own_base OW.out))
      clear hgr
      (try go_step3)
      have KEY : Hid (∃ p2, r = sx s p2 ∧ p2 ≤ s.size ∧ p1 < p2 ∧ (At s p2 (ws ++ [y]) ∨ p2 = s.size ∧ wordsL s = ws ++ [y])) := by
        rcases HR.out with ⟨hq, hr⟩ | ⟨hq, hr⟩
        · exact ⟨q + 1, hr, hq, by have := HC.out.1; omega, .inl (by rw [← HY.out]; exact AT.out.next HC.out HL.out BN.out hq)⟩
        · refine ⟨s.size, by rw [hr, sx_all], Nat.le_refl _, HL.out, .inr ⟨rfl, ?_⟩⟩
          have hc2 := HC.out
          rw [hq] at hc2
          rw [AT.out.last hc2 HL.out BN.out, ← HY.out, hq]
      obtain ⟨p2, hr2, hp2, hp3, hat2⟩ := KEY.out
      subst hr2
      refine ⟨rfl, ⟨p2, ws ++ [y], v', _, _, _, _, _, _, _, _, _, _, _, _, _, _, _, _, _, _, _, _, rfl, hp2, hat2, by have := HO4.out; simpa [sv_snoc] using this, HB4.out⟩, ?_⟩
      show (sx s p2).size < u.size
      rw [sx_size, SP.out]
      have := H1.out
      omega
    · obtain rfl : p1 = s.size := by omega
      have E := Lib.hid (sx_all s)
      have WL : Hid (wordsL s = ws) := by
        rcases HAT.out with h | ⟨_, e⟩
        · have := h.blanks (s.size - p) (by omega) (fun i a b => h3 i a (by omega))
          rw [show p + (s.size - p) = s.size by omega] at this
          exact this.end_
        · exact e
      rw [E.out]
      clear h1 h2 h3 h4 hlt
      go_wp2
      simp only [Exit.jump]
      go_returns
      exact ⟨v, rfl, by rw [WL.out]; exact HO.out, HB.out⟩

theorem wordsInBig10 (s : ByteArray) (hb : 3000 < s.size) (w : World) :
    Calls Tryd.prog 27 #[.string s] w fun e w' => e = .returned (.tuple #[.slice none 0 0, .iface 60 (.int .i64 2)]) ∧ Below w.heap.size w w' := by
  have hbI : (3000 : Int) < (s.size : Int) := by omega
  go_enter Tryd.func27, Tryd.ntmps27
  go_wp2
  go_step3
  go_wp2
  simp only [Exit.noGoto_ret]
  go_returns
  exact ⟨rfl, Below.refl _ _⟩

end Go.Proofs.YtckapndpefkcgaaDoor
