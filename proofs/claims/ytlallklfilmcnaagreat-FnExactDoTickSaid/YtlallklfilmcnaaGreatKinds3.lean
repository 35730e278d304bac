/-
  The tables of the program's kinds of calls, acts and events: what they hold, and what is found in them. No conditions.
-/
import Derived.Test.YtlallklfilmcnaaGreatMaps3
import Derived.Test.YtlallklfilmcnaaGreatMath3
import Derived.Test.YtlallklfilmcnaaGreatChecked
namespace Go.Proofs.YtlallklfilmcnaaGreat
open Go.RowKit
set_option maxRecDepth 100000

/-- an operation whose run is known goes on -/
theorem wpList_lookup_eq {P : Program} (w : World) {ops : Array Oper} {rest : List Oper} {o : Oper} {a : Act} {Q : Exit → Act → World → Prop}
    (hg : o.guard = none) (m x : Operand) (t : TypeId) (c : Bool) (hop : o.op = Op.lookup t m x c) (mv xv v : Value) (hm : a.eval m = mv) (hx : a.eval x = xv)
    (hrun : (Instr.lookup t mv xv c).run P w = .ok v w) (hK : wpList P ops Q rest (a.put o.dst v) w) :
    wpList P ops Q (o :: rest) a w := by
  refine wpList_plain hg fun K' hK' => ?_
  unfold Oper.wp
  simp [execOp, hop, hm, hx, hrun, Result.andThen]
  exact hK' _ _ hK

/-- who meets a call: whether it needs a slot, a To; by whom -/
def cke (s t : Bool) (f : Nat) : Value := .agg #[.bool s, .bool t, .func (.func f) #[] #[]]
def ckm : Array MapEntry := #[{ key := .int .i64 1, val := cke false false 117, born := 0 }, { key := .int .i64 2, val := cke false false 118, born := 1 }, { key := .int .i64 3, val := cke true false 119, born := 2 }, { key := .int .i64 4, val := cke true false 120, born := 3 }, { key := .int .i64 5, val := cke true true 121, born := 4 }]
/-- who meets an act: whether it needs a To; by whom -/
def ake (t : Bool) (f : Nat) : Value := .agg #[.bool t, .func (.func f) #[] #[]]
def akm : Array MapEntry := #[{ key := .int .i64 1, val := ake false 172, born := 0 }, { key := .int .i64 2, val := ake false 173, born := 1 }, { key := .int .i64 3, val := ake true 174, born := 2 }]
/-- who asks an event for its fault, and who meets it -/
def eke (f g : Nat) : Value := .agg #[.func (.func f) #[] #[], .func (.func g) #[] #[]]
def ekm : Array MapEntry := #[{ key := .int .i64 1, val := eke 129 130, born := 0 }, { key := .int .i64 2, val := eke 131 132, born := 1 }]

/-- what is found of calls: does it need a slot, a To; by whom it is met; is it known -/
def cks (k : Int) : Bool := k == 3 || k == 4 || k == 5
def ckt (k : Int) : Bool := k == 5
def ckk (k : Int) : Bool := k == 1 || k == 2 || k == 3 || k == 4 || k == 5
def ckf (k : Int) : Value := if k = 1 then .func (.func 117) #[] #[] else if k = 2 then .func (.func 118) #[] #[] else if k = 3 then .func (.func 119) #[] #[] else if k = 4 then .func (.func 120) #[] #[] else if k = 5 then .func (.func 121) #[] #[] else .nilFunc
/-- what is found of acts -/
def akt (k : Int) : Bool := k == 3
def akk (k : Int) : Bool := k == 1 || k == 2 || k == 3
def akf (k : Int) : Value := if k = 1 then .func (.func 172) #[] #[] else if k = 2 then .func (.func 173) #[] #[] else if k = 3 then .func (.func 174) #[] #[] else .nilFunc
/-- what is found of events -/
def ekk (k : Int) : Bool := k == 1 || k == 2
def ekf (k : Int) : Value := if k = 1 then .func (.func 129) #[] #[] else if k = 2 then .func (.func 131) #[] #[] else .nilFunc
def ekg (k : Int) : Value := if k = 1 then .func (.func 130) #[] #[] else if k = 2 then .func (.func 132) #[] #[] else .nilFunc

theorem callKinds_any (w : World) :
    Calls Tryz.prog 59 #[] w fun e w' => e = .returned (.map (some w.heap.size)) ∧ w' = w.alloc (.map ckm 5) := by
  have hmm := @run_makeMap Tryz.prog
  have put := @run_putI Tryz.prog 101 2 100 Tryz.underlying101 Tryz.underlying2 w
  have h1 := put #[] 0 1 (cke false false 117) rfl
  have h2 := put _ 1 2 (cke false false 118) (by rfl : Instr.findNow _ _ (#[{ key := .int .i64 1, val := cke false false 117, born := 0 }] : Array MapEntry).toList 0 = _)
  have h3 := put _ 2 3 (cke true false 119) (by rfl : Instr.findNow _ _ (#[{ key := .int .i64 1, val := cke false false 117, born := 0 }, { key := .int .i64 2, val := cke false false 118, born := 1 }] : Array MapEntry).toList 0 = _)
  have h4 := put _ 3 4 (cke true false 120) (by rfl : Instr.findNow _ _ (#[{ key := .int .i64 1, val := cke false false 117, born := 0 }, { key := .int .i64 2, val := cke false false 118, born := 1 }, { key := .int .i64 3, val := cke true false 119, born := 2 }] : Array MapEntry).toList 0 = _)
  have h5 := put _ 4 5 (cke true true 121) (by rfl : Instr.findNow _ _ (#[{ key := .int .i64 1, val := cke false false 117, born := 0 }, { key := .int .i64 2, val := cke false false 118, born := 1 }, { key := .int .i64 3, val := cke true false 119, born := 2 }, { key := .int .i64 4, val := cke true false 120, born := 3 }] : Array MapEntry).toList 0 = _)
  clear put
  simp only [cke, List.push_toArray, List.nil_append, List.cons_append] at h1 h2 h3 h4 h5
  unfold ckm cke
  go_enter Tryz.func59, Tryz.ntmps59
  go_wp2
  go_ret
  exact ⟨rfl, rfl⟩
/-- what is found at k -/
theorem callKinds_look (k : Int) (c : Bool) (w : World) (r : Nat) (h : w.heap[r]? = some (.map ckm 5)) :
    (Instr.lookup 101 (.map (some r)) (.int .i64 k) c).run Tryz.prog w = .ok (if c then .tuple #[.agg #[.bool (cks k), .bool (ckt k), ckf k], .bool (ckk k)] else .agg #[.bool (cks k), .bool (ckt k), ckf k]) w := by
  have hit := @run_lookI_hit Tryz.prog 101 2 100 Tryz.underlying101 Tryz.underlying2 w r _ _ h
  have hz : (zeroValue 100).run Tryz.prog w = .ok (.agg #[.bool false, .bool false, .nilFunc]) w := by kernel_rfl
  by_cases e1 : k = 1
  · subst e1; exact hit (i := 0) (v := cke false false 117) rfl c
  by_cases e2 : k = 2
  · subst e2; exact hit (i := 1) (v := cke false false 118) rfl c
  by_cases e3 : k = 3
  · subst e3; exact hit (i := 2) (v := cke true false 119) rfl c
  by_cases e4 : k = 4
  · subst e4; exact hit (i := 3) (v := cke true false 120) rfl c
  by_cases e5 : k = 5
  · subst e5; exact hit (i := 4) (v := cke true true 121) rfl c
  have b1 : (k == 1) = false := by simpa using e1
  have b2 : (k == 2) = false := by simpa using e2
  have b3 : (k == 3) = false := by simpa using e3
  have b4 : (k == 4) = false := by simpa using e4
  have b5 : (k == 5) = false := by simpa using e5
  have miss := @run_lookI_miss Tryz.prog 101 2 100 Tryz.underlying101 Tryz.underlying2 w r _ _ h k _ hz (by simp [ckm, Instr.findNow, Instr.sameNow, b1, b2, b3, b4, b5]) c
  rw [miss]
  simp [cks, ckt, ckk, ckf, e1, e2, e3, e4, e5, b1, b2, b3, b4, b5]

theorem actKinds_any (w : World) :
    Calls Tryz.prog 142 #[] w fun e w' => e = .returned (.map (some w.heap.size)) ∧ w' = w.alloc (.map akm 3) := by
  have hmm := @run_makeMap Tryz.prog
  have put := @run_putI Tryz.prog 185 2 184 Tryz.underlying185 Tryz.underlying2 w
  have h1 := put #[] 0 1 (ake false 172) rfl
  have h2 := put _ 1 2 (ake false 173) (by rfl : Instr.findNow _ _ (#[{ key := .int .i64 1, val := ake false 172, born := 0 }] : Array MapEntry).toList 0 = _)
  have h3 := put _ 2 3 (ake true 174) (by rfl : Instr.findNow _ _ (#[{ key := .int .i64 1, val := ake false 172, born := 0 }, { key := .int .i64 2, val := ake false 173, born := 1 }] : Array MapEntry).toList 0 = _)
  clear put
  simp only [ake, List.push_toArray, List.nil_append, List.cons_append] at h1 h2 h3
  unfold akm ake
  go_enter Tryz.func142, Tryz.ntmps142
  go_wp2
  go_ret
  exact ⟨rfl, rfl⟩
/-- what is found at k -/
theorem actKinds_look (k : Int) (c : Bool) (w : World) (r : Nat) (h : w.heap[r]? = some (.map akm 3)) :
    (Instr.lookup 185 (.map (some r)) (.int .i64 k) c).run Tryz.prog w = .ok (if c then .tuple #[.agg #[.bool (akt k), akf k], .bool (akk k)] else .agg #[.bool (akt k), akf k]) w := by
  have hit := @run_lookI_hit Tryz.prog 185 2 184 Tryz.underlying185 Tryz.underlying2 w r _ _ h
  have hz : (zeroValue 184).run Tryz.prog w = .ok (.agg #[.bool false, .nilFunc]) w := by kernel_rfl
  by_cases e1 : k = 1
  · subst e1; exact hit (i := 0) (v := ake false 172) rfl c
  by_cases e2 : k = 2
  · subst e2; exact hit (i := 1) (v := ake false 173) rfl c
  by_cases e3 : k = 3
  · subst e3; exact hit (i := 2) (v := ake true 174) rfl c
  have b1 : (k == 1) = false := by simpa using e1
  have b2 : (k == 2) = false := by simpa using e2
  have b3 : (k == 3) = false := by simpa using e3
  have miss := @run_lookI_miss Tryz.prog 185 2 184 Tryz.underlying185 Tryz.underlying2 w r _ _ h k _ hz (by simp [akm, Instr.findNow, Instr.sameNow, b1, b2, b3]) c
  rw [miss]
  simp [akt, akk, akf, e1, e2, e3, b1, b2, b3]

theorem eventKinds_any (w : World) :
    Calls Tryz.prog 74 #[] w fun e w' => e = .returned (.map (some w.heap.size)) ∧ w' = w.alloc (.map ekm 2) := by
  have hmm := @run_makeMap Tryz.prog
  have put := @run_putI Tryz.prog 123 2 121 Tryz.underlying123 Tryz.underlying2 w
  have h1 := put #[] 0 1 (eke 129 130) rfl
  have h2 := put _ 1 2 (eke 131 132) (by rfl : Instr.findNow _ _ (#[{ key := .int .i64 1, val := eke 129 130, born := 0 }] : Array MapEntry).toList 0 = _)
  clear put
  simp only [eke, List.push_toArray, List.nil_append, List.cons_append] at h1 h2
  unfold ekm eke
  go_enter Tryz.func74, Tryz.ntmps74
  go_wp2
  go_ret
  exact ⟨rfl, rfl⟩
/-- what is found at k -/
theorem eventKinds_look (k : Int) (c : Bool) (w : World) (r : Nat) (h : w.heap[r]? = some (.map ekm 2)) :
    (Instr.lookup 123 (.map (some r)) (.int .i64 k) c).run Tryz.prog w = .ok (if c then .tuple #[.agg #[ekf k, ekg k], .bool (ekk k)] else .agg #[ekf k, ekg k]) w := by
  have hit := @run_lookI_hit Tryz.prog 123 2 121 Tryz.underlying123 Tryz.underlying2 w r _ _ h
  have hz : (zeroValue 121).run Tryz.prog w = .ok (.agg #[.nilFunc, .nilFunc]) w := by kernel_rfl
  by_cases e1 : k = 1
  · subst e1; exact hit (i := 0) (v := eke 129 130) rfl c
  by_cases e2 : k = 2
  · subst e2; exact hit (i := 1) (v := eke 131 132) rfl c
  have b1 : (k == 1) = false := by simpa using e1
  have b2 : (k == 2) = false := by simpa using e2
  have miss := @run_lookI_miss Tryz.prog 123 2 121 Tryz.underlying123 Tryz.underlying2 w r _ _ h k _ hz (by simp [ekm, Instr.findNow, Instr.sameNow, b1, b2]) c
  rw [miss]
  simp [ekk, ekf, ekg, e1, e2, b1, b2]

/-- a value that one cell holds, and that is no string -/
def Stows (v : Value) : Prop := ∀ (P : Program) (a : Addr) (W : World), (W.cell? a).isSome = true → W.frozen? a = false → (store a v).run P W = .ok () (W.setCell a v)
theorem stows_func (n : Nat) : Stows (.func (.func n) #[] #[]) := fun P a W h hz => by
  obtain ⟨x, hx⟩ := Option.isSome_iff_exists.1 h
  simp [store, Sem.run, hx, hz]
theorem stows_nil : Stows .nilFunc := fun P a W h hz => by
  obtain ⟨x, hx⟩ := Option.isSome_iff_exists.1 h
  simp [store, Sem.run, hx, hz]
theorem one_ckf (k : Int) : Stows (ckf k) := by unfold ckf; (repeat' split); all_goals first | exact stows_func _ | exact stows_nil
theorem one_akf (k : Int) : Stows (akf k) := by unfold akf; (repeat' split); all_goals first | exact stows_func _ | exact stows_nil
theorem one_ekf (k : Int) : Stows (ekf k) := by unfold ekf; (repeat' split); all_goals first | exact stows_func _ | exact stows_nil
theorem one_ekg (k : Int) : Stows (ekg k) := by unfold ekg; (repeat' split); all_goals first | exact stows_func _ | exact stows_nil

end Go.Proofs.YtlallklfilmcnaaGreat
