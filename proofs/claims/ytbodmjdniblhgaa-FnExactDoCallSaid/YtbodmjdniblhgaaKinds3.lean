/-
  The tables of the program's kinds of calls, acts and events: what they hold, and what is found in them. No conditions.
-/
import Derived.Test.YtbodmjdniblhgaaMaps3
import Derived.Test.YtbodmjdniblhgaaMath3
import Derived.Test.YtbodmjdniblhgaaChecked
namespace Go.Proofs.Ytbodmjdniblhgaa
open Go.RowKit
set_option maxRecDepth 100000

/-- an operation whose run is known goes on -/
theorem wpList_lookup_eq {P : Program} (w : World) {ops : Array Oper} {rest : List Oper} {o : Oper} {a : Act} {Q : Exit → Act → World → Prop}
    (hg : o.guard = none) (m x : Operand) (t : TypeId) (c : Bool) (hop : o.op = Op.lookup t m x c) (mv xv v : Value) (hm : a.eval m = mv) (hx : a.eval x = xv)
    (hrun : (Instr.lookup t mv xv c).run P w = .ok v w) (hK : wpList P ops Q rest (a.put o.dst v) w) :
    wpList P ops Q (o :: rest) a w := by
  refine wpList_plain hg fun K' hK' => ?_
  unfold Oper.wp
  simp [execOp, hop, hm, hx, hrun, Result.andThen]
  exact hK' _ _ hK

/-- who meets a call: whether it needs a slot, a To; by whom -/
def cke (s t : Bool) (f : Nat) : Value := .agg #[.bool s, .bool t, .func (.func f) #[] #[]]
def ckm : Array MapEntry := #[{ key := .int .i64 1, val := cke false false 56, born := 0 }, { key := .int .i64 2, val := cke false false 57, born := 1 }, { key := .int .i64 3, val := cke true false 58, born := 2 }, { key := .int .i64 4, val := cke true false 59, born := 3 }, { key := .int .i64 5, val := cke true true 60, born := 4 }]
/-- who meets an act: whether it needs a To; by whom -/
def ake (t : Bool) (f : Nat) : Value := .agg #[.bool t, .func (.func f) #[] #[]]
/-- who asks an event for its fault, and who meets it -/
def eke (f g : Nat) : Value := .agg #[.func (.func f) #[] #[], .func (.func g) #[] #[]]
/-- what is found of calls: does it need a slot, a To; by whom it is met; is it known -/
def cks (k : Int) : Bool := k == 3 || k == 4 || k == 5
def ckt (k : Int) : Bool := k == 5
def ckk (k : Int) : Bool := k == 1 || k == 2 || k == 3 || k == 4 || k == 5
def ckf (k : Int) : Value := if k = 1 then .func (.func 56) #[] #[] else if k = 2 then .func (.func 57) #[] #[] else if k = 3 then .func (.func 58) #[] #[] else if k = 4 then .func (.func 59) #[] #[] else if k = 5 then .func (.func 60) #[] #[] else .nilFunc
/-- what is found of acts -/
def akt (k : Int) : Bool := k == 3
def akk (k : Int) : Bool := k == 1 || k == 2 || k == 3
/-- what is found of events -/
def ekk (k : Int) : Bool := k == 1 || k == 2
theorem callKinds_any (w : World) :
    Calls Try.prog 28 #[] w fun e w' => e = .returned (.map (some w.heap.size)) ∧ w' = w.alloc (.map ckm 5) := by
  have hmm := @run_makeMap Try.prog
  have put := @run_putI Try.prog 63 2 62 Try.underlying63 Try.underlying2 w
  have h1 := put #[] 0 1 (cke false false 56) rfl
  have h2 := put _ 1 2 (cke false false 57) (by rfl : Instr.findNow _ _ (#[{ key := .int .i64 1, val := cke false false 56, born := 0 }] : Array MapEntry).toList 0 = _)
  have h3 := put _ 2 3 (cke true false 58) (by rfl : Instr.findNow _ _ (#[{ key := .int .i64 1, val := cke false false 56, born := 0 }, { key := .int .i64 2, val := cke false false 57, born := 1 }] : Array MapEntry).toList 0 = _)
  have h4 := put _ 3 4 (cke true false 59) (by rfl : Instr.findNow _ _ (#[{ key := .int .i64 1, val := cke false false 56, born := 0 }, { key := .int .i64 2, val := cke false false 57, born := 1 }, { key := .int .i64 3, val := cke true false 58, born := 2 }] : Array MapEntry).toList 0 = _)
  have h5 := put _ 4 5 (cke true true 60) (by rfl : Instr.findNow _ _ (#[{ key := .int .i64 1, val := cke false false 56, born := 0 }, { key := .int .i64 2, val := cke false false 57, born := 1 }, { key := .int .i64 3, val := cke true false 58, born := 2 }, { key := .int .i64 4, val := cke true false 59, born := 3 }] : Array MapEntry).toList 0 = _)
  clear put
  simp only [cke, List.push_toArray, List.nil_append, List.cons_append] at h1 h2 h3 h4 h5
  unfold ckm cke
  go_enter Try.func28, Try.ntmps28
  go_wp2
  go_ret
  exact ⟨rfl, rfl⟩
/-- what is found at k -/
theorem callKinds_look (k : Int) (c : Bool) (w : World) (r : Nat) (h : w.heap[r]? = some (.map ckm 5)) :
    (Instr.lookup 63 (.map (some r)) (.int .i64 k) c).run Try.prog w = .ok (if c then .tuple #[.agg #[.bool (cks k), .bool (ckt k), ckf k], .bool (ckk k)] else .agg #[.bool (cks k), .bool (ckt k), ckf k]) w := by
  have hit := @run_lookI_hit Try.prog 63 2 62 Try.underlying63 Try.underlying2 w r _ _ h
  have hz : (zeroValue 62).run Try.prog w = .ok (.agg #[.bool false, .bool false, .nilFunc]) w := by kernel_rfl
  by_cases e1 : k = 1
  · subst e1; exact hit (i := 0) (v := cke false false 56) rfl c
  by_cases e2 : k = 2
  · subst e2; exact hit (i := 1) (v := cke false false 57) rfl c
  by_cases e3 : k = 3
  · subst e3; exact hit (i := 2) (v := cke true false 58) rfl c
  by_cases e4 : k = 4
  · subst e4; exact hit (i := 3) (v := cke true false 59) rfl c
  by_cases e5 : k = 5
  · subst e5; exact hit (i := 4) (v := cke true true 60) rfl c
  have b1 : (k == 1) = false := by simpa using e1
  have b2 : (k == 2) = false := by simpa using e2
  have b3 : (k == 3) = false := by simpa using e3
  have b4 : (k == 4) = false := by simpa using e4
  have b5 : (k == 5) = false := by simpa using e5
  have miss := @run_lookI_miss Try.prog 63 2 62 Try.underlying63 Try.underlying2 w r _ _ h k _ hz (by simp [ckm, Instr.findNow, Instr.sameNow, b1, b2, b3, b4, b5]) c
  rw [miss]
  simp [cks, ckt, ckk, ckf, e1, e2, e3, e4, e5, b1, b2, b3, b4, b5]

/-- a value that one cell holds, and that is no string -/
def Stows (v : Value) : Prop := ∀ (P : Program) (a : Addr) (W : World), (W.cell? a).isSome = true → W.frozen? a = false → (store a v).run P W = .ok () (W.setCell a v)
theorem stows_func (n : Nat) : Stows (.func (.func n) #[] #[]) := fun P a W h hz => by
  obtain ⟨x, hx⟩ := Option.isSome_iff_exists.1 h
  simp [store, Sem.run, hx, hz]
theorem stows_nil : Stows .nilFunc := fun P a W h hz => by
  obtain ⟨x, hx⟩ := Option.isSome_iff_exists.1 h
  simp [store, Sem.run, hx, hz]
theorem one_ckf (k : Int) : Stows (ckf k) := by unfold ckf; (repeat' split); all_goals first | exact stows_func _ | exact stows_nil
end Go.Proofs.Ytbodmjdniblhgaa
