/-
  The tables of the program's kinds of calls, acts and events: what they hold, and what is found in them. No conditions.
-/
import Derived.WideMake
import Derived.Test.YtkhphkfbjbhgaaaGreatChecked
import Derived.Test.YtkhphkfbjbhgaaaGreatMath3
import Derived.Test.YtkhphkfbjbhgaaaGreatInts
-- Maps3
namespace Go.Proofs.YtkhphkfbjbhgaaaGreat
open Go.RowKit

set_option maxHeartbeats 1000000 in
theorem isKey_int (k : Int) : MapKept.IsKey (.int .i64) (.int .i64 k) := by simp [MapKept.IsKey]
set_option maxHeartbeats 1000000 in
/-- one more entry -/
theorem run_putI {P : Program} {mty kt et : TypeId} (hm : P.underlying mty = some (.map kt et)) (hk : P.underlying kt = some (.int .i64)) (w : World) (es : Array MapEntry) (clock : Nat) (k : Int) (val : Value)
    (hf : Instr.findNow (.int .i64) (.int .i64 k) es.toList 0 = some none) :
    (Instr.mapUpdate mty (.map (some w.heap.size)) (.int .i64 k) val).run P (w.alloc (.map es clock)) = .ok () (w.alloc (.map (es.push { key := .int .i64 k, val := val, born := clock }) (clock + 1))) := by
  have hb : (w.alloc (.map es clock)).heap[w.heap.size]? = some (.map es clock) := heap_alloc_new _ _
  have hc : (Instr.checkKey false 10000 kt (.int .i64 k)).run P (w.alloc (.map es clock)) = .ok () (w.alloc (.map es clock)) := MapKept.run_checkKey (k := .int .i64 k) hk (isKey_int k) false 9999
  simp [Instr.mapUpdate, run_underlying hm, MapKept.run_getObj_map hb, hc, MapKept.run_findKey hk hf, MapKept.run_setObj_map _ hb, Result.andThen]
  show ({ (w.alloc (.map es clock)) with heap := ((w.alloc (.map es clock)).heap.setIfInBounds w.heap.size _) } : World) = _
  simp only [World.alloc]
  congr 1
  apply Array.ext_getElem?
  intro i
  simp only [Array.getElem?_setIfInBounds, Array.getElem?_push, Array.size_push]
  by_cases e : w.heap.size = i
  · rw [if_pos e, if_pos (by omega), if_pos e.symm]
  · rw [if_neg e, if_neg (fun h => e h.symm), if_neg (fun h => e h.symm)]
set_option maxHeartbeats 1000000 in
theorem run_lookI_hit {P : Program} {mty kt et : TypeId} (hm : P.underlying mty = some (.map kt et)) (hk : P.underlying kt = some (.int .i64)) {w : World} {r : Nat} {es : Array MapEntry} {clock : Nat} (hb : w.heap[r]? = some (.map es clock)) {k : Int} {i : Nat} {v : Value}
    (hf : Instr.findNow (.int .i64) (.int .i64 k) es.toList 0 = some (some (i, v))) (c : Bool) :
    (Instr.lookup mty (.map (some r)) (.int .i64 k) c).run P w = .ok (if c then .tuple #[v, .bool true] else v) w := by
  have hc : (Instr.checkKey es.isEmpty 10000 kt (.int .i64 k)).run P w = .ok () w := MapKept.run_checkKey (k := .int .i64 k) hk (isKey_int k) _ 9999
  simp [Instr.lookup, run_underlying hm, MapKept.run_getObj_map hb, hc, MapKept.run_findKey hk hf, Result.andThen]
set_option maxHeartbeats 1000000 in
theorem run_lookI_miss {P : Program} {mty kt et : TypeId} (hm : P.underlying mty = some (.map kt et)) (hk : P.underlying kt = some (.int .i64)) {w : World} {r : Nat} {es : Array MapEntry} {clock : Nat} (hb : w.heap[r]? = some (.map es clock)) {k : Int} {z : Value} (hz : (zeroValue et).run P w = .ok z w)
    (hf : Instr.findNow (.int .i64) (.int .i64 k) es.toList 0 = some none) (c : Bool) :
    (Instr.lookup mty (.map (some r)) (.int .i64 k) c).run P w = .ok (if c then .tuple #[z, .bool false] else z) w := by
  have hc : (Instr.checkKey es.isEmpty 10000 kt (.int .i64 k)).run P w = .ok () w := MapKept.run_checkKey (k := .int .i64 k) hk (isKey_int k) _ 9999
  simp [Instr.lookup, run_underlying hm, MapKept.run_getObj_map hb, hc, MapKept.run_findKey hk hf, hz, Result.andThen]

end Go.Proofs.YtkhphkfbjbhgaaaGreat

-- Kinds3
namespace Go.Proofs.YtkhphkfbjbhgaaaGreat
open Go.RowKit
set_option maxRecDepth 100000

/-- who meets a call: whether it needs a slot, a To; by whom -/
def cke (s t : Bool) (f : Nat) : Value := .agg #[.bool s, .bool t, .func (.func f) #[] #[]]
def ckm : Array MapEntry := #[{ key := .int .i64 1, val := cke false false 150, born := 0 }, { key := .int .i64 2, val := cke false false 151, born := 1 }, { key := .int .i64 3, val := cke true false 152, born := 2 }, { key := .int .i64 4, val := cke true false 153, born := 3 }, { key := .int .i64 5, val := cke true true 154, born := 4 }]
/-- who meets an act: whether it needs a To; by whom -/
def ake (t : Bool) (f : Nat) : Value := .agg #[.bool t, .func (.func f) #[] #[]]
def akm : Array MapEntry := #[{ key := .int .i64 1, val := ake false 194, born := 0 }, { key := .int .i64 2, val := ake false 195, born := 1 }, { key := .int .i64 3, val := ake true 196, born := 2 }]
/-- who asks an event for its fault, and who meets it -/
def eke (f g : Nat) : Value := .agg #[.func (.func f) #[] #[], .func (.func g) #[] #[]]
def ekm : Array MapEntry := #[{ key := .int .i64 1, val := eke 162 163, born := 0 }, { key := .int .i64 2, val := eke 164 165, born := 1 }]

/-- what is found of calls: does it need a slot, a To; by whom it is met; is it known -/
def cks (k : Int) : Bool := k == 3 || k == 4 || k == 5
def ckt (k : Int) : Bool := k == 5
def ckk (k : Int) : Bool := k == 1 || k == 2 || k == 3 || k == 4 || k == 5
def ckf (k : Int) : Value := if k = 1 then .func (.func 150) #[] #[] else if k = 2 then .func (.func 151) #[] #[] else if k = 3 then .func (.func 152) #[] #[] else if k = 4 then .func (.func 153) #[] #[] else if k = 5 then .func (.func 154) #[] #[] else .nilFunc
/-- what is found of acts -/
def akt (k : Int) : Bool := k == 3
def akk (k : Int) : Bool := k == 1 || k == 2 || k == 3
def akf (k : Int) : Value := if k = 1 then .func (.func 194) #[] #[] else if k = 2 then .func (.func 195) #[] #[] else if k = 3 then .func (.func 196) #[] #[] else .nilFunc
/-- what is found of events -/
def ekk (k : Int) : Bool := k == 1 || k == 2
def ekf (k : Int) : Value := if k = 1 then .func (.func 162) #[] #[] else if k = 2 then .func (.func 164) #[] #[] else .nilFunc
def ekg (k : Int) : Value := if k = 1 then .func (.func 163) #[] #[] else if k = 2 then .func (.func 165) #[] #[] else .nilFunc

set_option maxHeartbeats 1000000 in
theorem callKinds_any (w : World) :
    Calls Tryz.prog 104 #[] w fun e w' => e = .returned (.map (some w.heap.size)) ∧ w' = w.alloc (.map ckm 5) := by
  have hmm := @run_makeMap Tryz.prog
  have put := @run_putI Tryz.prog 140 2 139 Tryz.underlying140 Tryz.underlying2 w
  have h1 := put #[] 0 1 (cke false false 150) rfl
  have h2 := put _ 1 2 (cke false false 151) (by rfl : Instr.findNow _ _ (#[{ key := .int .i64 1, val := cke false false 150, born := 0 }] : Array MapEntry).toList 0 = _)
  have h3 := put _ 2 3 (cke true false 152) (by rfl : Instr.findNow _ _ (#[{ key := .int .i64 1, val := cke false false 150, born := 0 }, { key := .int .i64 2, val := cke false false 151, born := 1 }] : Array MapEntry).toList 0 = _)
  have h4 := put _ 3 4 (cke true false 153) (by rfl : Instr.findNow _ _ (#[{ key := .int .i64 1, val := cke false false 150, born := 0 }, { key := .int .i64 2, val := cke false false 151, born := 1 }, { key := .int .i64 3, val := cke true false 152, born := 2 }] : Array MapEntry).toList 0 = _)
  have h5 := put _ 4 5 (cke true true 154) (by rfl : Instr.findNow _ _ (#[{ key := .int .i64 1, val := cke false false 150, born := 0 }, { key := .int .i64 2, val := cke false false 151, born := 1 }, { key := .int .i64 3, val := cke true false 152, born := 2 }, { key := .int .i64 4, val := cke true false 153, born := 3 }] : Array MapEntry).toList 0 = _)
  clear put
  simp only [cke, List.push_toArray, List.nil_append, List.cons_append] at h1 h2 h3 h4 h5
  unfold ckm cke
  go_enter Tryz.func104, Tryz.ntmps104
  go_wp2
  go_ret
  exact ⟨rfl, rfl⟩
set_option maxHeartbeats 1000000 in
/-- what is found at k -/
theorem callKinds_look (k : Int) (c : Bool) (w : World) (r : Nat) (h : w.heap[r]? = some (.map ckm 5)) :
    (Instr.lookup 140 (.map (some r)) (.int .i64 k) c).run Tryz.prog w = .ok (if c then .tuple #[.agg #[.bool (cks k), .bool (ckt k), ckf k], .bool (ckk k)] else .agg #[.bool (cks k), .bool (ckt k), ckf k]) w := by
  have hit := @run_lookI_hit Tryz.prog 140 2 139 Tryz.underlying140 Tryz.underlying2 w r _ _ h
  have hz : (zeroValue 139).run Tryz.prog w = .ok (.agg #[.bool false, .bool false, .nilFunc]) w := by kernel_rfl
  by_cases e1 : k = 1
  · subst e1; exact hit (i := 0) (v := cke false false 150) rfl c
  by_cases e2 : k = 2
  · subst e2; exact hit (i := 1) (v := cke false false 151) rfl c
  by_cases e3 : k = 3
  · subst e3; exact hit (i := 2) (v := cke true false 152) rfl c
  by_cases e4 : k = 4
  · subst e4; exact hit (i := 3) (v := cke true false 153) rfl c
  by_cases e5 : k = 5
  · subst e5; exact hit (i := 4) (v := cke true true 154) rfl c
  have b1 : (k == 1) = false := by simpa using e1
  have b2 : (k == 2) = false := by simpa using e2
  have b3 : (k == 3) = false := by simpa using e3
  have b4 : (k == 4) = false := by simpa using e4
  have b5 : (k == 5) = false := by simpa using e5
  have miss := @run_lookI_miss Tryz.prog 140 2 139 Tryz.underlying140 Tryz.underlying2 w r _ _ h k _ hz (by simp [ckm, Instr.findNow, Instr.sameNow, b1, b2, b3, b4, b5]) c
  rw [miss]
  simp [cks, ckt, ckk, ckf, e1, e2, e3, e4, e5, b1, b2, b3, b4, b5]

set_option maxHeartbeats 1000000 in
theorem actKinds_any (w : World) :
    Calls Tryz.prog 173 #[] w fun e w' => e = .returned (.map (some w.heap.size)) ∧ w' = w.alloc (.map akm 3) := by
  have hmm := @run_makeMap Tryz.prog
  have put := @run_putI Tryz.prog 205 2 204 Tryz.underlying205 Tryz.underlying2 w
  have h1 := put #[] 0 1 (ake false 194) rfl
  have h2 := put _ 1 2 (ake false 195) (by rfl : Instr.findNow _ _ (#[{ key := .int .i64 1, val := ake false 194, born := 0 }] : Array MapEntry).toList 0 = _)
  have h3 := put _ 2 3 (ake true 196) (by rfl : Instr.findNow _ _ (#[{ key := .int .i64 1, val := ake false 194, born := 0 }, { key := .int .i64 2, val := ake false 195, born := 1 }] : Array MapEntry).toList 0 = _)
  clear put
  simp only [ake, List.push_toArray, List.nil_append, List.cons_append] at h1 h2 h3
  unfold akm ake
  go_enter Tryz.func173, Tryz.ntmps173
  go_wp2
  go_ret
  exact ⟨rfl, rfl⟩
set_option maxHeartbeats 1000000 in
/-- what is found at k -/
theorem actKinds_look (k : Int) (c : Bool) (w : World) (r : Nat) (h : w.heap[r]? = some (.map akm 3)) :
    (Instr.lookup 205 (.map (some r)) (.int .i64 k) c).run Tryz.prog w = .ok (if c then .tuple #[.agg #[.bool (akt k), akf k], .bool (akk k)] else .agg #[.bool (akt k), akf k]) w := by
  have hit := @run_lookI_hit Tryz.prog 205 2 204 Tryz.underlying205 Tryz.underlying2 w r _ _ h
  have hz : (zeroValue 204).run Tryz.prog w = .ok (.agg #[.bool false, .nilFunc]) w := by kernel_rfl
  by_cases e1 : k = 1
  · subst e1; exact hit (i := 0) (v := ake false 194) rfl c
  by_cases e2 : k = 2
  · subst e2; exact hit (i := 1) (v := ake false 195) rfl c
  by_cases e3 : k = 3
  · subst e3; exact hit (i := 2) (v := ake true 196) rfl c
  have b1 : (k == 1) = false := by simpa using e1
  have b2 : (k == 2) = false := by simpa using e2
  have b3 : (k == 3) = false := by simpa using e3
  have miss := @run_lookI_miss Tryz.prog 205 2 204 Tryz.underlying205 Tryz.underlying2 w r _ _ h k _ hz (by simp [akm, Instr.findNow, Instr.sameNow, b1, b2, b3]) c
  rw [miss]
  simp [akt, akk, akf, e1, e2, e3, b1, b2, b3]

set_option maxHeartbeats 1000000 in
theorem eventKinds_any (w : World) :
    Calls Tryz.prog 115 #[] w fun e w' => e = .returned (.map (some w.heap.size)) ∧ w' = w.alloc (.map ekm 2) := by
  have hmm := @run_makeMap Tryz.prog
  have put := @run_putI Tryz.prog 156 2 154 Tryz.underlying156 Tryz.underlying2 w
  have h1 := put #[] 0 1 (eke 162 163) rfl
  have h2 := put _ 1 2 (eke 164 165) (by rfl : Instr.findNow _ _ (#[{ key := .int .i64 1, val := eke 162 163, born := 0 }] : Array MapEntry).toList 0 = _)
  clear put
  simp only [eke, List.push_toArray, List.nil_append, List.cons_append] at h1 h2
  unfold ekm eke
  go_enter Tryz.func115, Tryz.ntmps115
  go_wp2
  go_ret
  exact ⟨rfl, rfl⟩
set_option maxHeartbeats 1000000 in
/-- what is found at k -/
theorem eventKinds_look (k : Int) (c : Bool) (w : World) (r : Nat) (h : w.heap[r]? = some (.map ekm 2)) :
    (Instr.lookup 156 (.map (some r)) (.int .i64 k) c).run Tryz.prog w = .ok (if c then .tuple #[.agg #[ekf k, ekg k], .bool (ekk k)] else .agg #[ekf k, ekg k]) w := by
  have hit := @run_lookI_hit Tryz.prog 156 2 154 Tryz.underlying156 Tryz.underlying2 w r _ _ h
  have hz : (zeroValue 154).run Tryz.prog w = .ok (.agg #[.nilFunc, .nilFunc]) w := by kernel_rfl
  by_cases e1 : k = 1
  · subst e1; exact hit (i := 0) (v := eke 162 163) rfl c
  by_cases e2 : k = 2
  · subst e2; exact hit (i := 1) (v := eke 164 165) rfl c
  have b1 : (k == 1) = false := by simpa using e1
  have b2 : (k == 2) = false := by simpa using e2
  have miss := @run_lookI_miss Tryz.prog 156 2 154 Tryz.underlying156 Tryz.underlying2 w r _ _ h k _ hz (by simp [ekm, Instr.findNow, Instr.sameNow, b1, b2]) c
  rw [miss]
  simp [ekk, ekf, ekg, e1, e2, b1, b2]

/-- a value that one cell holds, and that is no string -/
def Stows (v : Value) : Prop := ∀ (P : Program) (a : Addr) (W : World), (W.cell? a).isSome = true → W.frozen? a = false → (store a v).run P W = .ok () (W.setCell a v)
set_option maxHeartbeats 1000000 in
theorem stows_func (n : Nat) : Stows (.func (.func n) #[] #[]) := fun P a W h hz => by
  obtain ⟨x, hx⟩ := Option.isSome_iff_exists.1 h
  simp [store, Sem.run, hx, hz]
set_option maxHeartbeats 1000000 in
theorem stows_nil : Stows .nilFunc := fun P a W h hz => by
  obtain ⟨x, hx⟩ := Option.isSome_iff_exists.1 h
  simp [store, Sem.run, hx, hz]
set_option maxHeartbeats 1000000 in
theorem one_ckf (k : Int) : Stows (ckf k) := by unfold ckf; (repeat' split); all_goals first | exact stows_func _ | exact stows_nil
set_option maxHeartbeats 1000000 in
theorem one_akf (k : Int) : Stows (akf k) := by unfold akf; (repeat' split); all_goals first | exact stows_func _ | exact stows_nil
set_option maxHeartbeats 1000000 in
theorem one_ekf (k : Int) : Stows (ekf k) := by unfold ekf; (repeat' split); all_goals first | exact stows_func _ | exact stows_nil
set_option maxHeartbeats 1000000 in
theorem one_ekg (k : Int) : Stows (ekg k) := by unfold ekg; (repeat' split); all_goals first | exact stows_func _ | exact stows_nil

end Go.Proofs.YtkhphkfbjbhgaaaGreat
