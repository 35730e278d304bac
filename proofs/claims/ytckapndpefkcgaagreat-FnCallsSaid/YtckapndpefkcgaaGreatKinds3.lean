/-
  The tables of the program's kinds of calls, acts and events: what they hold, and what is found in them. No conditions.
-/
import Derived.WideMake
import Derived.Test.YtckapndpefkcgaaGreatChecked
import Derived.Test.YtckapndpefkcgaaGreatMath3
import Derived.Test.YtckapndpefkcgaaGreatU8s
set_option maxHeartbeats 1000000

namespace Go.Proofs.YtckapndpefkcgaaGreat
open Go.RowKit

theorem isKey_int (k : Int) : MapKept.IsKey (.int .i64) (.int .i64 k) := by simp [MapKept.IsKey]
theorem run_putI {P : Program} {mty kt et : TypeId} (hm : P.underlying mty = some (.map kt et)) (hk : P.underlying kt = some (.int .i64)) (w : World) (es : Array MapEntry) (clock : Nat) (k : Int) (val : Value)
    (hf : Instr.findNow (.int .i64) (.int .i64 k) es.toList 0 = some none) :
    (Instr.mapUpdate mty (.map (some w.heap.size)) (.int .i64 k) val).run P (w.alloc (.map es clock)) = .ok () (w.alloc (.map (es.push { key := .int .i64 k, val := val, born := clock }) (clock + 1))) := by
  have hb : (w.alloc (.map es clock)).heap[w.heap.size]? = some (.map es clock) := heap_alloc_new _ _
  have hc : (Instr.checkKey false 10000 kt (.int .i64 k)).run P (w.alloc (.map es clock)) = .ok () (w.alloc (.map es clock)) := MapKept.run_checkKey (k := .int .i64 k) hk (isKey_int k) false 9999
  simp [Instr.mapUpdate, run_underlying hm, MapKept.run_getObj_map hb, hc, MapKept.run_findKey hk hf, MapKept.run_setObj_map _ hb, Result.andThen]
  show ({ (w.alloc (.map es clock)) with heap := ((w.alloc (.map es clock)).heap.setIfInBounds w.heap.size _) } : World) = _
  simp only [World.alloc]
  congr 1
  apply Array.ext_getElem?
  intro i
  simp only [Array.getElem?_setIfInBounds, Array.getElem?_push, Array.size_push]
  by_cases e : w.heap.size = i
  · rw [if_pos e, if_pos (by omega), if_pos e.symm]
  · rw [if_neg e, if_neg (fun h => e h.symm), if_neg (fun h => e h.symm)]
theorem run_lookI_hit {P : Program} {mty kt et : TypeId} (hm : P.underlying mty = some (.map kt et)) (hk : P.underlying kt = some (.int .i64)) {w : World} {r : Nat} {es : Array MapEntry} {clock : Nat} (hb : w.heap[r]? = some (.map es clock)) {k : Int} {i : Nat} {v : Value}
    (hf : Instr.findNow (.int .i64) (.int .i64 k) es.toList 0 = some (some (i, v))) (c : Bool) :
    (Instr.lookup mty (.map (some r)) (.int .i64 k) c).run P w = .ok (if c then .tuple #[v, .bool true] else v) w := by
  have hc : (Instr.checkKey es.isEmpty 10000 kt (.int .i64 k)).run P w = .ok () w := MapKept.run_checkKey (k := .int .i64 k) hk (isKey_int k) _ 9999
  simp [Instr.lookup, run_underlying hm, MapKept.run_getObj_map hb, hc, MapKept.run_findKey hk hf, Result.andThen]
theorem run_lookI_miss {P : Program} {mty kt et : TypeId} (hm : P.underlying mty = some (.map kt et)) (hk : P.underlying kt = some (.int .i64)) {w : World} {r : Nat} {es : Array MapEntry} {clock : Nat} (hb : w.heap[r]? = some (.map es clock)) {k : Int} {z : Value} (hz : (zeroValue et).run P w = .ok z w)
    (hf : Instr.findNow (.int .i64) (.int .i64 k) es.toList 0 = some none) (c : Bool) :
    (Instr.lookup mty (.map (some r)) (.int .i64 k) c).run P w = .ok (if c then .tuple #[z, .bool false] else z) w := by
  have hc : (Instr.checkKey es.isEmpty 10000 kt (.int .i64 k)).run P w = .ok () w := MapKept.run_checkKey (k := .int .i64 k) hk (isKey_int k) _ 9999
  simp [Instr.lookup, run_underlying hm, MapKept.run_getObj_map hb, hc, MapKept.run_findKey hk hf, hz, Result.andThen]


set_option maxRecDepth 100000

def cke (s t : Bool) (f : Nat) : Value := .agg #[.bool s, .bool t, .func (.func f) #[] #[]]
def ckm : Array MapEntry := #[{ key := .int .i64 1, val := cke false false 125, born := 0 }, { key := .int .i64 2, val := cke false false 126, born := 1 }, { key := .int .i64 3, val := cke true false 127, born := 2 }, { key := .int .i64 4, val := cke true false 128, born := 3 }, { key := .int .i64 5, val := cke true true 129, born := 4 }]
def ake (t : Bool) (f : Nat) : Value := .agg #[.bool t, .func (.func f) #[] #[]]
def akm : Array MapEntry := #[{ key := .int .i64 1, val := ake false 147, born := 0 }, { key := .int .i64 2, val := ake false 148, born := 1 }, { key := .int .i64 3, val := ake true 149, born := 2 }]
def eke (f g : Nat) : Value := .agg #[.func (.func f) #[] #[], .func (.func g) #[] #[]]
def ekm : Array MapEntry := #[{ key := .int .i64 1, val := eke 136 137, born := 0 }, { key := .int .i64 2, val := eke 138 139, born := 1 }]

def cks (k : Int) : Bool := k == 3 || k == 4 || k == 5
def ckt (k : Int) : Bool := k == 5
def ckk (k : Int) : Bool := k == 1 || k == 2 || k == 3 || k == 4 || k == 5
def ckf (k : Int) : Value := if k = 1 then .func (.func 125) #[] #[] else if k = 2 then .func (.func 126) #[] #[] else if k = 3 then .func (.func 127) #[] #[] else if k = 4 then .func (.func 128) #[] #[] else if k = 5 then .func (.func 129) #[] #[] else .nilFunc
def akt (k : Int) : Bool := k == 3
def akk (k : Int) : Bool := k == 1 || k == 2 || k == 3
def akf (k : Int) : Value := if k = 1 then .func (.func 147) #[] #[] else if k = 2 then .func (.func 148) #[] #[] else if k = 3 then .func (.func 149) #[] #[] else .nilFunc
def ekk (k : Int) : Bool := k == 1 || k == 2
def ekf (k : Int) : Value := if k = 1 then .func (.func 136) #[] #[] else if k = 2 then .func (.func 138) #[] #[] else .nilFunc
def ekg (k : Int) : Value := if k = 1 then .func (.func 137) #[] #[] else if k = 2 then .func (.func 139) #[] #[] else .nilFunc

theorem callKinds_any (w : World) :
    Calls Tryz.prog 86 #[] w fun e w' => e = .returned (.map (some w.heap.size)) ∧ w' = w.alloc (.map ckm 5) := by
  have hmm := @run_makeMap Tryz.prog
  have put := @run_putI Tryz.prog 133 2 132 Tryz.underlying133 Tryz.underlying2 w
  have h1 := put #[] 0 1 (cke false false 125) rfl
  have h2 := put _ 1 2 (cke false false 126) (by rfl : Instr.findNow _ _ (#[{ key := .int .i64 1, val := cke false false 125, born := 0 }] : Array MapEntry).toList 0 = _)
  have h3 := put _ 2 3 (cke true false 127) (by rfl : Instr.findNow _ _ (#[{ key := .int .i64 1, val := cke false false 125, born := 0 }, { key := .int .i64 2, val := cke false false 126, born := 1 }] : Array MapEntry).toList 0 = _)
  have h4 := put _ 3 4 (cke true false 128) (by rfl : Instr.findNow _ _ (#[{ key := .int .i64 1, val := cke false false 125, born := 0 }, { key := .int .i64 2, val := cke false false 126, born := 1 }, { key := .int .i64 3, val := cke true false 127, born := 2 }] : Array MapEntry).toList 0 = _)
  have h5 := put _ 4 5 (cke true true 129) (by rfl : Instr.findNow _ _ (#[{ key := .int .i64 1, val := cke false false 125, born := 0 }, { key := .int .i64 2, val := cke false false 126, born := 1 }, { key := .int .i64 3, val := cke true false 127, born := 2 }, { key := .int .i64 4, val := cke true false 128, born := 3 }] : Array MapEntry).toList 0 = _)
  clear put
  simp only [cke, List.push_toArray, List.nil_append, List.cons_append] at h1 h2 h3 h4 h5
  unfold ckm cke
  go_enter Tryz.func86, Tryz.ntmps86
  go_wp2
  go_ret
  exact ⟨rfl, rfl⟩
theorem callKinds_look (k : Int) (c : Bool) (w : World) (r : Nat) (h : w.heap[r]? = some (.map ckm 5)) :
    (Instr.lookup 133 (.map (some r)) (.int .i64 k) c).run Tryz.prog w = .ok (if c then .tuple #[.agg #[.bool (cks k), .bool (ckt k), ckf k], .bool (ckk k)] else .agg #[.bool (cks k), .bool (ckt k), ckf k]) w := by
  have hit := @run_lookI_hit Tryz.prog 133 2 132 Tryz.underlying133 Tryz.underlying2 w r _ _ h
  have hz : (zeroValue 132).run Tryz.prog w = .ok (.agg #[.bool false, .bool false, .nilFunc]) w := by kernel_rfl
  by_cases e1 : k = 1
  · subst e1; exact hit (i := 0) (v := cke false false 125) rfl c
  by_cases e2 : k = 2
  · subst e2; exact hit (i := 1) (v := cke false false 126) rfl c
  by_cases e3 : k = 3
  · subst e3; exact hit (i := 2) (v := cke true false 127) rfl c
  by_cases e4 : k = 4
  · subst e4; exact hit (i := 3) (v := cke true false 128) rfl c
  by_cases e5 : k = 5
  · subst e5; exact hit (i := 4) (v := cke true true 129) rfl c
  have b1 : (k == 1) = false := by simpa using e1
  have b2 : (k == 2) = false := by simpa using e2
  have b3 : (k == 3) = false := by simpa using e3
  have b4 : (k == 4) = false := by simpa using e4
  have b5 : (k == 5) = false := by simpa using e5
  have miss := @run_lookI_miss Tryz.prog 133 2 132 Tryz.underlying133 Tryz.underlying2 w r _ _ h k _ hz (by simp [ckm, Instr.findNow, Instr.sameNow, b1, b2, b3, b4, b5]) c
  rw [miss]
  simp [cks, ckt, ckk, ckf, e1, e2, e3, e4, e5, b1, b2, b3, b4, b5]

theorem actKinds_any (w : World) :
    Calls Tryz.prog 114 #[] w fun e w' => e = .returned (.map (some w.heap.size)) ∧ w' = w.alloc (.map akm 3) := by
  have hmm := @run_makeMap Tryz.prog
  have put := @run_putI Tryz.prog 158 2 157 Tryz.underlying158 Tryz.underlying2 w
  have h1 := put #[] 0 1 (ake false 147) rfl
  have h2 := put _ 1 2 (ake false 148) (by rfl : Instr.findNow _ _ (#[{ key := .int .i64 1, val := ake false 147, born := 0 }] : Array MapEntry).toList 0 = _)
  have h3 := put _ 2 3 (ake true 149) (by rfl : Instr.findNow _ _ (#[{ key := .int .i64 1, val := ake false 147, born := 0 }, { key := .int .i64 2, val := ake false 148, born := 1 }] : Array MapEntry).toList 0 = _)
  clear put
  simp only [ake, List.push_toArray, List.nil_append, List.cons_append] at h1 h2 h3
  unfold akm ake
  go_enter Tryz.func114, Tryz.ntmps114
  go_wp2
  go_ret
  exact ⟨rfl, rfl⟩
theorem actKinds_look (k : Int) (c : Bool) (w : World) (r : Nat) (h : w.heap[r]? = some (.map akm 3)) :
    (Instr.lookup 158 (.map (some r)) (.int .i64 k) c).run Tryz.prog w = .ok (if c then .tuple #[.agg #[.bool (akt k), akf k], .bool (akk k)] else .agg #[.bool (akt k), akf k]) w := by
  have hit := @run_lookI_hit Tryz.prog 158 2 157 Tryz.underlying158 Tryz.underlying2 w r _ _ h
  have hz : (zeroValue 157).run Tryz.prog w = .ok (.agg #[.bool false, .nilFunc]) w := by kernel_rfl
  by_cases e1 : k = 1
  · subst e1; exact hit (i := 0) (v := ake false 147) rfl c
  by_cases e2 : k = 2
  · subst e2; exact hit (i := 1) (v := ake false 148) rfl c
  by_cases e3 : k = 3
  · subst e3; exact hit (i := 2) (v := ake true 149) rfl c
  have b1 : (k == 1) = false := by simpa using e1
  have b2 : (k == 2) = false := by simpa using e2
  have b3 : (k == 3) = false := by simpa using e3
  have miss := @run_lookI_miss Tryz.prog 158 2 157 Tryz.underlying158 Tryz.underlying2 w r _ _ h k _ hz (by simp [akm, Instr.findNow, Instr.sameNow, b1, b2, b3]) c
  rw [miss]
  simp [akt, akk, akf, e1, e2, e3, b1, b2, b3]

theorem eventKinds_any (w : World) :
    Calls Tryz.prog 95 #[] w fun e w' => e = .returned (.map (some w.heap.size)) ∧ w' = w.alloc (.map ekm 2) := by
  have hmm := @run_makeMap Tryz.prog
  have put := @run_putI Tryz.prog 145 2 143 Tryz.underlying145 Tryz.underlying2 w
  have h1 := put #[] 0 1 (eke 136 137) rfl
  have h2 := put _ 1 2 (eke 138 139) (by rfl : Instr.findNow _ _ (#[{ key := .int .i64 1, val := eke 136 137, born := 0 }] : Array MapEntry).toList 0 = _)
  clear put
  simp only [eke, List.push_toArray, List.nil_append, List.cons_append] at h1 h2
  unfold ekm eke
  go_enter Tryz.func95, Tryz.ntmps95
  go_wp2
  go_ret
  exact ⟨rfl, rfl⟩
theorem eventKinds_look (k : Int) (c : Bool) (w : World) (r : Nat) (h : w.heap[r]? = some (.map ekm 2)) :
    (Instr.lookup 145 (.map (some r)) (.int .i64 k) c).run Tryz.prog w = .ok (if c then .tuple #[.agg #[ekf k, ekg k], .bool (ekk k)] else .agg #[ekf k, ekg k]) w := by
  have hit := @run_lookI_hit Tryz.prog 145 2 143 Tryz.underlying145 Tryz.underlying2 w r _ _ h
  have hz : (zeroValue 143).run Tryz.prog w = .ok (.agg #[.nilFunc, .nilFunc]) w := by kernel_rfl
  by_cases e1 : k = 1
  · subst e1; exact hit (i := 0) (v := eke 136 137) rfl c
  by_cases e2 : k = 2
  · subst e2; exact hit (i := 1) (v := eke 138 139) rfl c
  have b1 : (k == 1) = false := by simpa using e1
  have b2 : (k == 2) = false := by simpa using e2
  have miss := @run_lookI_miss Tryz.prog 145 2 143 Tryz.underlying145 Tryz.underlying2 w r _ _ h k _ hz (by simp [ekm, Instr.findNow, Instr.sameNow, b1, b2]) c
  rw [miss]
  simp [ekk, ekf, ekg, e1, e2, b1, b2]

def Stows (v : Value) : Prop := ∀ (P : Program) (a : Addr) (W : World), (W.cell? a).isSome = true → W.frozen? a = false → (store a v).run P W = .ok () (W.setCell a v)
theorem stows_func (n : Nat) : Stows (.func (.func n) #[] #[]) := fun P a W h hz => by
  obtain ⟨x, hx⟩ := Option.isSome_iff_exists.1 h
  simp [store, Sem.run, hx, hz]
theorem stows_nil : Stows .nilFunc := fun P a W h hz => by
  obtain ⟨x, hx⟩ := Option.isSome_iff_exists.1 h
  simp [store, Sem.run, hx, hz]
theorem one_ckf (k : Int) : Stows (ckf k) := by unfold ckf; (repeat' split); all_goals first | exact stows_func _ | exact stows_nil
theorem one_akf (k : Int) : Stows (akf k) := by unfold akf; (repeat' split); all_goals first | exact stows_func _ | exact stows_nil
theorem one_ekf (k : Int) : Stows (ekf k) := by unfold ekf; (repeat' split); all_goals first | exact stows_func _ | exact stows_nil
theorem one_ekg (k : Int) : Stows (ekg k) := by unfold ekg; (repeat' split); all_goals first | exact stows_func _ | exact stows_nil

end Go.Proofs.YtckapndpefkcgaaGreat
