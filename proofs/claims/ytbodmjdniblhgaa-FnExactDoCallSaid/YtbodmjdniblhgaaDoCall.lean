/-
  FnExactDoCall holds: whatever the kernel and the call that came in, the program's DoCall answers as the model's. No conditions.
-/
import Derived.Test.YtbodmjdniblhgaaOpen3
import Derived.Test.YtbodmjdniblhgaaDoCallW
namespace Go.Proofs.Ytbodmjdniblhgaa
open Go.ChangeShapes Go.WideShapes Go.ChangeAt Go.RowKit Go.Deep
set_option maxRecDepth 100000

theorem array7 {α : Type} {cs : Array α} (h : cs.size = 7) : ∃ c0 c1 c2 c3 c4 c5 c6, cs = #[c0, c1, c2, c3, c4, c5, c6] := by
  obtain ⟨l⟩ := cs
  match l, h with
  | [c0, c1, c2, c3, c4, c5, c6], _ => exact ⟨c0, c1, c2, c3, c4, c5, c6, rfl⟩

section
variable {H : Type} {enc : TypeId × Value → H} {W : World}

theorem trod_two {P : Program} {t ty : TypeId} {f0 f1 : Field} {fuel : Nat} {c0 c1 : Value} {y : DataW H × List MemPlace} (ht : P.underlying t = some (.struct #[f0, f1])) (e0 : f0.type = ty) (e1 : f1.type = ty) (o0 : f0.offset = 0) (o1 : f1.offset = 1) (hi : P.underlying ty = some (.int .i64)) (hc : P.cellsOf ty = 1)
    (h : DataW.trod enc P W 0 (fun _ => true) true fuel t [c0, c1] = some y) : ∃ a b : Int, c0 = .int .i64 a ∧ c1 = .int .i64 b := by
  obtain ⟨xs, n, _, _, _, hxl, hx⟩ := DataW.trod_struct ht h
  match xs, hxl with
  | [y0, y1], _ =>
    have g0 := hx 0 _ rfl
    have g1 := hx 1 _ rfl
    simp [e0, e1, o0, o1, hc] at g0 g1
    obtain ⟨a, ea, _⟩ := DataW.trod_int hi g0
    obtain ⟨b, eb, _⟩ := DataW.trod_int hi g1
    simp at ea eb
    exact ⟨a, b, ea, eb⟩
theorem trod_four {P : Program} {t ty : TypeId} {f0 f1 f2 f3 : Field} {fuel : Nat} {c0 c1 c2 c3 : Value} {y : DataW H × List MemPlace} (ht : P.underlying t = some (.struct #[f0, f1, f2, f3])) (e0 : f0.type = ty) (e1 : f1.type = ty) (e2 : f2.type = ty) (e3 : f3.type = ty) (o0 : f0.offset = 0) (o1 : f1.offset = 1) (o2 : f2.offset = 2) (o3 : f3.offset = 3) (hi : P.underlying ty = some (.int .i64)) (hc : P.cellsOf ty = 1)
    (h : DataW.trod enc P W 0 (fun _ => true) true fuel t [c0, c1, c2, c3] = some y) : ∃ a b c d : Int, c0 = .int .i64 a ∧ c1 = .int .i64 b ∧ c2 = .int .i64 c ∧ c3 = .int .i64 d := by
  obtain ⟨xs, n, _, _, _, hxl, hx⟩ := DataW.trod_struct ht h
  match xs, hxl with
  | [y0, y1, y2, y3], _ =>
    have g0 := hx 0 _ rfl
    have g1 := hx 1 _ rfl
    have g2 := hx 2 _ rfl
    have g3 := hx 3 _ rfl
    simp [e0, e1, e2, e3, o0, o1, o2, o3, hc] at g0 g1 g2 g3
    obtain ⟨a, ea, _⟩ := DataW.trod_int hi g0
    obtain ⟨b, eb, _⟩ := DataW.trod_int hi g1
    obtain ⟨c, ec, _⟩ := DataW.trod_int hi g2
    obtain ⟨d, ed, _⟩ := DataW.trod_int hi g3
    simp at ea eb ec ed
    exact ⟨a, b, c, d, ea, eb, ec, ed⟩

/-- a call that came in -/
theorem open_call {r : Reach} {b0 : Nat} {v : Value} {d : DataW H} {ps : List MemPlace}
    (hval : Value.okWide Try.prog W r b0 28 v) (h : DataW.Trod enc Try.prog W 0 (fun _ => true) true 28 v d ps) :
    ∃ k e s t : Int, v = .agg #[.int .i64 k, .int .i64 e, .int .i64 s, .int .i64 t] := by
  obtain ⟨v0, v1, v2, v3, y0, y1, y2, y3, n, rfl, _, _, h0, h1, h2, h3⟩ := Go.Joins.open_agg4 Try.underlying28 (by kernel_rfl) (by kernel_rfl) hval h
  obtain ⟨u, e0, _, _⟩ := DataW.trod_int Try.underlying2 h0
  obtain ⟨x, e1, _, _⟩ := DataW.trod_int Try.underlying2 h1
  obtain ⟨g, e2, _, _⟩ := DataW.trod_int Try.underlying2 h2
  obtain ⟨k, e3, _, _⟩ := DataW.trod_int Try.underlying2 h3
  simp at e0 e1 e2 e3
  subst e0 e1 e2 e3
  exact ⟨u, x, g, k, rfl⟩

end

open Go.ChangeShapes Go.WideShapes Go.ChangeAt Go.RowKit

set_option maxRecDepth 100000 in
theorem liftedDoCall (os : Os) (started : os.Started) (H : Type) (enc : TypeId × Value → H) :
    ReturnsInHanded {} Try.checked os 3 .any (Rows.fnExactDoCallSpec.pre6 enc Try.prog Try.f3 Rows.fnExactDoCallRow.domain false) (Rows.fnExactDoCallSpec.post enc Try.prog Try.f3 false true false false) := by
  refine returnsInHanded_of_change (C := Try.checked) own started (by kernel_rfl) Try.func3
    (ChangeSpec.witness6 (enc := enc) (C := Try.checked) false ⟨#[], #[.agg #[.slice none 0 0, .slice none 0 0, .slice none 0 0, .int .i64 0, .int .i64 0], .agg #[.int .i64 0, .int .i64 0, .int .i64 0, .int .i64 0]], []⟩ 8 (by kernel_rfl) (by kernel_rfl) (by kernel_rfl) (by kernel_rfl)) ?_
  intro W base args ds gs before hval0 hW _ _
  have hval : ∀ (j : Nat) t v, Try.f3.params[j]? = some t → args[j]? = some v → Value.okWide Try.prog W .any base t v := hval0
  have hW' := hW
  obtain ⟨p, q, hA0, hV, rfl, _, _⟩ := hW
  have hA : DataW.TrodAll enc Try.prog W 0 (fun _ => true) true Try.f3.params.toList args.toList ds p := hA0
  rw [Try.params3] at hA hval
  obtain ⟨v0, vs0, d0, ds0, p0, q0, hargs, rfl, rfl, h0, r0⟩ := trodAll_cons hA
  obtain ⟨v1, vs1, d1, ds1, p1, q1, rfl, rfl, rfl, h1, r1⟩ := trodAll_cons r0
  obtain ⟨rfl, rfl, rfl⟩ := trodAll_nil r1
  obtain rfl : args = #[v0, v1] := by cases args; simp_all
  obtain ⟨rfl, rfl⟩ := trodVars_none hV
  obtain ⟨A1, n1, c1, A2, n2, c2, A3, n3, c3, K, rfl, hk, ha, m1, m2, m3⟩ := open_kernel (hval 0 _ v0 rfl rfl) h0
  obtain ⟨k, e, s, t, rfl⟩ := open_call (hval 1 _ v1 rfl rfl) h1
  exact law_post hW' rfl rfl (by kernel_rfl) (by kernel_rfl) (walkDoCall A1 n1 c1 A2 n2 c2 A3 n3 c3 K k e s t W hk m1 m2 m3)

theorem fnExactDoCall_holds : Rows.FnExactDoCallSaid :=
  OpenClaim.holds_of_wide 3 Try.f3 rfl rfl rfl rfl rfl rfl rfl ⟨rfl, rfl, rfl, rfl, rfl⟩ rfl rfl rfl rfl rfl (by kernel_rfl) Try.func3 (by kernel_rfl)
    (of_decide_eq_true (by kernel_rfl)) (by unfold Func.isWrapper; first | (rw [if_pos (by decide +kernel)]; kernel_rfl) | (rw [if_neg (by decide +kernel)]; exact ⟨rfl, rfl⟩))
    (fun os started H enc _ => liftedDoCall os started H enc)
#print axioms fnExactDoCall_holds

end Go.Proofs.Ytbodmjdniblhgaa
