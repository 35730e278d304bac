/-
  FnExactCountNotes holds: whatever notes, environment and kind came in, the program's CountNotes answers as the model's. No conditions.
-/
import Derived.Test.YtkhphkfbjbhgaaaCountN9
import Derived.Test.YtkhphkfbjbhgaaaLaw
import Derived.Test.YtkhphkfbjbhgaaaOpen3b
namespace Go.Proofs.Ytkhphkfbjbhgaaa
open Go.ChangeShapes Go.WideShapes Go.ChangeAt Go.RowKit Go.Deep
set_option maxRecDepth 100000

section
variable {H : Type} {enc : TypeId × Value → H} {W : World}
theorem three_of9 {α : Type} {l : List α} (h : l.length = 3) : ∃ c0 c1 c2, l = [c0, c1, c2] := by
  match l, h with
  | [c0, c1, c2], _ => exact ⟨c0, c1, c2, rfl⟩
theorem open_notes {r : Reach} {b0 : Nat} {v : Value} {d : DataW H} {ps : List MemPlace}
    (hval : Value.okWide Try.prog W r b0 22 v) (h : DataW.Trod enc Try.prog W 0 (fun _ => true) true 22 v d ps) :
    ∃ (A : Option Addr) (n c : Nat) (x : Nat → Int), v = .slice A n c ∧ n ≤ maxLen ∧ Sl W 0 W.heap.size A (n * 3) (fun k => .int .i64 (x k)) := by
  obtain ⟨a0, len0, cap0, rfl⟩ := okWide_slice Try.underlying22 hval
  obtain ⟨fuel, hf⟩ := h
  have k0 : Try.prog.cellsOf 2 = 1 := by kernel_rfl
  have k3 : Try.prog.cellsOf 43 = 3 := by kernel_rfl
  rcases open_slice Try.underlying22 hf with ⟨hcs, _⟩ | ⟨a, len, cap, mm, n, D, Pl, hcs, _, hl, hm, hmm, _, hx⟩
  · simp [Value.cells] at hcs
    obtain ⟨rfl, rfl, rfl⟩ := hcs
    exact ⟨none, 0, 0, fun _ => 0, rfl, Nat.zero_le _, fun k hk => by omega⟩
  · simp [Value.cells] at hcs
    obtain ⟨rfl, rfl, rfl⟩ := hcs
    have hmc : mm = cap0 := by simpa using hmm
    rw [k3] at hx
    have each : ∀ k, k < len0 * 3 → ∃ z : Int, W.cell? (a.add k) = some (.int .i64 z) := fun k hk => by
      obtain ⟨cs', h1, h2⟩ := hx (k / 3) (by omega)
      obtain ⟨_, hlen, hcell⟩ := World.cells?_some h1
      have hcc := hcell (k % 3) (by omega)
      rw [add_add, show k / 3 * 3 + k % 3 = k by omega] at hcc
      rw [hcc]
      obtain ⟨c0, c1, c2, rfl⟩ := three_of9 hlen
      obtain ⟨xs, nn, _, _, _, hxl, hf2⟩ := DataW.trod_struct Try.underlying43 h2
      match xs, hxl with
      | [y0, y1, y2], _ =>
        have g0 := hf2 0 _ rfl
        have g1 := hf2 1 _ rfl
        have g2 := hf2 2 _ rfl
        simp [k0] at g0 g1 g2
        obtain ⟨z0, e0, _⟩ := DataW.trod_int Try.underlying2 g0
        obtain ⟨z1, e1, _⟩ := DataW.trod_int Try.underlying2 g1
        obtain ⟨z2, e2, _⟩ := DataW.trod_int Try.underlying2 g2
        simp at e0 e1 e2
        subst e0 e1 e2
        have h3 : k % 3 < 3 := Nat.mod_lt _ (by omega)
        match k % 3, h3 with
        | 0, _ => exact ⟨_, rfl⟩
        | 1, _ => exact ⟨_, rfl⟩
        | 2, _ => exact ⟨_, rfl⟩
    obtain ⟨Z, hZ⟩ := choose_lt each
    refine ⟨some a, len0, cap0, Z, rfl, by omega, fun k hk => ?_⟩
    have hck := hZ k hk
    obtain ⟨b, off, spot⟩ := a
    have hspot : spot = none := by simpa [Addr.add] using plain_addr (hZ 0 (by omega))
    subst hspot
    rw [add_plain] at hck
    exact ⟨b, off, rfl, Nat.zero_le _, World.block_lt_of_cell? _ _ hck, hck⟩
end

set_option maxHeartbeats 4000000 in
theorem walkCountNotes (A : Option Addr) (n c : Nat) (x : Nat → Int) (ev kd : Int) (w : World) (hn : n ≤ 9223372036854775807) (h : Sl w 0 w.heap.size A (n * 3) (fun k => .int .i64 (x k))) :
    Calls Try.prog 3 #[.slice A n c, .int .i64 ev, .int .i64 kd] w fun e w' => e = .returned (.bool true) ∧ Below w.heap.size w w' := by
  have SZ := Lib.hid (szNoteS_any A n c w hn)
  have H := Lib.hid h
  clear h
  by_cases hs : n ≤ 1048576
  case neg =>
    rw [if_neg hs] at SZ
    clear hs
    go_enter Try.func3, Try.ntmps3
    go_wp2_with fail
    refine SZ.out.mono ?_
    rintro e w1 ⟨rfl, rfl⟩
    go_wp2
    go_ret
    exact ⟨rfl, Below.refl _ _⟩
  rw [if_pos hs] at SZ
  obtain ⟨sv, hsv⟩ : ∃ sv : Int, sv = 1048576 - (n : Int) := ⟨_, rfl⟩
  rw [← hsv] at SZ
  have g1 : ¬ sv < 0 := by omega
  have HS := Lib.hid hs
  have TE : Hid (∀ W, Below w.heap.size w W → Calls Try.prog 7 #[.slice A n c] W fun e w' => e = .returned (.slice (some ⟨W.heap.size, 0, none⟩) n n) ∧ Row w' W.heap.size 0 41 (n * 3) (fun k => .int .i64 (x k)) ∧ Below W.heap.size W w') := fun W hW =>
    toNoteS_any 0 w.heap.size A n c x W (by omega) (H.out.below hW (Nat.le_refl _)) hW.size
  clear hs hsv hn
  go_enter Try.func3, Try.ntmps3
  go_wp2_with fail
  refine SZ.out.mono ?_
  rintro e w1 ⟨rfl, rfl⟩
  clear SZ
  go_wp2_with fail
  refine (TE.out w (Below.refl _ _)).mono ?_
  rintro e w2 ⟨rfl, hr, hb⟩
  have S2 := Lib.hid (hr.sl (Nat.zero_le _) hr.lt)
  have R2 := Lib.hid hb
  clear hr hb
  go_wp2_with fail
  refine (specCountNotes_any _ _ _ n n x ev kd w2 HS.out S2.out).mono ?_
  rintro e w3 ⟨rfl, hb⟩
  have R3 := Lib.hid (R2.out.trans (hb.mono R2.out.size))
  clear hb S2 R2
  go_wp2_with fail
  refine (TE.out w3 R3.out).mono ?_
  rintro e w4 ⟨rfl, hr, hb⟩
  have S4 := Lib.hid (hr.sl (Nat.zero_le _) hr.lt)
  have R4 := Lib.hid (R3.out.trans (hb.mono R3.out.size))
  clear hr hb R3
  go_wp2_with fail
  refine (implCountNotes_any _ _ _ n n x ev kd w4 HS.out S4.out).mono ?_
  rintro e w5 ⟨rfl, hb⟩
  have S5 := Lib.hid (S4.out.below hb (Nat.le_refl _))
  have Z5 := Lib.hid hb.size
  have R5 := Lib.hid (R4.out.trans (hb.mono R4.out.size))
  clear hb S4 R4
  go_wp2_with fail
  refine (TE.out w5 R5.out).mono ?_
  rintro e w6 ⟨rfl, hr, hb⟩
  have S6 := Lib.hid (hr.sl (Nat.zero_le _) hr.lt)
  have S5 := Lib.hid (S5.out.below hb Z5.out)
  have R6 := Lib.hid (R5.out.trans (hb.mono R5.out.size))
  clear hr hb R5
  go_wp2_with fail
  refine (eqNoteS_same _ _ _ _ _ _ n n n x w6 (by have := HS.out; omega) S5.out S6.out).mono ?_
  rintro e w7 ⟨rfl, hb⟩
  have R7 := Lib.hid (R6.out.trans (hb.mono R6.out.size))
  clear hb S5 S6 R6
  go_wp2
  go_ret
  exact ⟨rfl, R7.out⟩

theorem liftedCountNotes (os : Os) (started : os.Started) (H : Type) (enc : TypeId × Value → H) :
    ReturnsInHanded {} Try.checked os 3 .any (Rows.fnExactCountNotesSpec.pre6 enc Try.prog Try.f3 Rows.fnExactCountNotesRow.domain false) (Rows.fnExactCountNotesSpec.post enc Try.prog Try.f3 false true false false) := by
  refine returnsInHanded_of_change (C := Try.checked) own started (by kernel_rfl) Try.func3
    (ChangeSpec.witness6 (enc := enc) (C := Try.checked) false ⟨#[], #[.slice none 0 0, .int .i64 0, .int .i64 0], []⟩ 8 (by kernel_rfl) (by kernel_rfl) (by kernel_rfl) (by kernel_rfl)) ?_
  intro W base args ds gs before hval0 hW _ _
  have hval : ∀ (j : Nat) t v, Try.f3.params[j]? = some t → args[j]? = some v → Value.okWide Try.prog W .any base t v := hval0
  have hW' := hW
  obtain ⟨p, q, hA0, hV, rfl, _, _⟩ := hW
  have hA : DataW.TrodAll enc Try.prog W 0 (fun _ => true) true Try.f3.params.toList args.toList ds p := hA0
  rw [Try.params3] at hA hval
  obtain ⟨v0, vs0, d0, ds0, p0, q0, hargs, rfl, rfl, h0, r0⟩ := trodAll_cons hA
  obtain ⟨v1, vs1, d1, ds1, p1, q1, rfl, rfl, rfl, h1, r1⟩ := trodAll_cons r0
  obtain ⟨v2, vs2, d2, ds2, p2, q2, rfl, rfl, rfl, h2, r2⟩ := trodAll_cons r1
  obtain ⟨rfl, rfl, rfl⟩ := trodAll_nil r2
  obtain rfl : args = #[v0, v1, v2] := by cases args; simp_all
  obtain ⟨rfl, rfl⟩ := trodVars_none hV
  obtain ⟨A, n, c, x, rfl, hs1, hr1⟩ := open_notes (hval 0 _ v0 rfl rfl) h0
  obtain ⟨x1, rfl, _, _⟩ := open_i64 (hval 1 _ v1 rfl rfl) h1
  obtain ⟨x2, rfl, _, _⟩ := open_i64 (hval 2 _ v2 rfl rfl) h2
  exact law_post hW' rfl rfl (by kernel_rfl) (by kernel_rfl) (walkCountNotes A n c x x1 x2 W hs1 hr1)

theorem fnExactCountNotes_holds : Rows.FnExactCountNotesSaid :=
  OpenClaim.holds_of_wide 3 Try.f3 rfl rfl rfl rfl rfl rfl rfl ⟨rfl, rfl, rfl, rfl, rfl⟩ rfl rfl rfl rfl rfl (by kernel_rfl) Try.func3 (by kernel_rfl)
    (of_decide_eq_true (by kernel_rfl)) (by unfold Func.isWrapper; first | (rw [if_pos (by decide +kernel)]; kernel_rfl) | (rw [if_neg (by decide +kernel)]; exact ⟨rfl, rfl⟩))
    (fun os started H enc _ => liftedCountNotes os started H enc)
#print axioms fnExactCountNotes_holds

end Go.Proofs.Ytkhphkfbjbhgaaa
