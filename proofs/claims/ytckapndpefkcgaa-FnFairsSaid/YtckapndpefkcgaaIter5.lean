/-
  The iterator of those that are ready: what comes, in which order. No conditions beyond that the map can be read.
-/
import Derived.WideMake
import Derived.RangeFuncNested
import Derived.RangeFuncBound
import Derived.RangeFuncCalls
import Derived.RangeFuncLeaves
import Derived.RangeFuncBox
import Derived.Shelf.Abstract
import Derived.Shelf.RegionOpen
import Derived.WalkKit
import Derived.OwnWalkIn
import Derived.TacticsInMore
import Derived.LoopNIn
import Derived.LoopIn
import Derived.Maps.AppendAt
import Derived.Test.YtckapndpefkcgaaChecked
import Derived.Test.YtckapndpefkcgaaBase3
set_option maxHeartbeats 1000000

namespace Go.Proofs.Ytckapndpefkcgaa
open Go.RowKit

def IM (w : World) (r : Nat) (F : Int → Option Value) : Prop :=
  ∃ (es : Array MapEntry) (clock : Nat), w.heap[r]? = some (.map es clock) ∧ (∀ x ∈ es.toList, MapKept.IsKey (.int .i64) x.key) ∧ (∀ (i j : Nat) (e e' : MapEntry), es[i]? = some e → es[j]? = some e' → e.key = e'.key → i = j) ∧
    ∀ (k : Int) (v : Value), F k = some v ↔ ∃ (i : Nat) (e : MapEntry), es[i]? = some e ∧ e.key = .int .i64 k ∧ e.val = v

theorem isKey_i64 (k : Int) : MapKept.IsKey (.int .i64) (.int .i64 k) := by simp [MapKept.IsKey]
theorem IM.keepAll {w w' : World} {r : Nat} {F : Int → Option Value} (h : IM w r F) (hw : w'.heap[r]? = w.heap[r]?) : IM w' r F := by
  obtain ⟨es, cl, h1, h2⟩ := h
  exact ⟨es, cl, hw.trans h1, h2⟩
theorem IM.lt {w : World} {r : Nat} {F : Int → Option Value} (h : IM w r F) : r < w.heap.size := by
  obtain ⟨es, cl, h1, _⟩ := h
  exact (Array.getElem?_eq_some_iff.1 h1).1
theorem IM.below {w w' : World} {r B : Nat} {F : Int → Option Value} (h : IM w r F) (hb : Below B w w') (hr : r < B) : IM w' r F := h.keepAll (hb.block r hr)
theorem IM.kept {w w' : World} {r : Nat} {gs : List Nat} {F : Int → Option Value} (h : IM w r F) (hk : Kept gs w w') (hr : r ∉ gs) : IM w' r F := h.keepAll (hk.2 r h.lt hr)
theorem IM.new (w : World) : IM (w.alloc (.map #[] 0)) w.heap.size (fun _ => none) :=
  ⟨#[], 0, heap_alloc_new _ _, by simp, by simp, by simp⟩
theorem IM.ext {w : World} {r : Nat} {F G : Int → Option Value} (h : IM w r F) (e : ∀ k, F k = G k) : IM w r G := by
  have : F = G := funext e
  exact this ▸ h

theorem findNow_im {es : Array MapEntry} {F : Int → Option Value} (h2 : ∀ x ∈ es.toList, MapKept.IsKey (.int .i64) x.key) (hF : ∀ (k : Int) (v : Value), F k = some v ↔ ∃ (i : Nat) (e : MapEntry), es[i]? = some e ∧ e.key = .int .i64 k ∧ e.val = v) (k : Int) :
    (F k = none ∧ Instr.findNow (.int .i64) (.int .i64 k) es.toList 0 = some none ∧ ∀ (i : Nat) (x : MapEntry), es[i]? = some x → x.key ≠ .int .i64 k) ∨
    ∃ (j : Nat) (e : MapEntry), F k = some e.val ∧ Instr.findNow (.int .i64) (.int .i64 k) es.toList 0 = some (some (j, e.val)) ∧ es[j]? = some e ∧ e.key = .int .i64 k := by
  rcases MapKept.findNow_spec (isKey_i64 k) es.toList 0 h2 with ⟨h, hno⟩ | ⟨j, e, h, hj, he⟩
  · have hno' : ∀ (i : Nat) (x : MapEntry), es[i]? = some x → x.key ≠ .int .i64 k := fun i x hx => hno x (List.mem_of_getElem? (by simpa using hx : es.toList[i]? = some x))
    refine .inl ⟨?_, h, hno'⟩
    cases hf : F k with
    | none => rfl
    | some v =>
      obtain ⟨i, e, h1, h2, _⟩ := (hF k v).1 hf
      exact absurd h2 (hno' i e h1)
  · have hj' : es[j]? = some e := by simpa using hj
    exact .inr ⟨j, e, (hF k e.val).2 ⟨j, e, hj', he, rfl⟩, by simpa using h, hj', he⟩
section
variable {P : Program} {mty kt et : TypeId} {w : World} {r : Nat} {F : Int → Option Value}
theorem IM.look (h : IM w r F) (hm : P.underlying mty = some (.map kt et)) (hk : P.underlying kt = some (.int .i64)) (k : Int) (v : Value) (hv : F k = some v) (c : Bool) :
    (Instr.lookup mty (.map (some r)) (.int .i64 k) c).run P w = .ok (if c then .tuple #[v, .bool true] else v) w := by
  obtain ⟨es, cl, hb, h2, _, hF⟩ := h
  have hc : (Instr.checkKey es.isEmpty 10000 kt (.int .i64 k)).run P w = .ok () w := MapKept.run_checkKey (k := .int .i64 k) hk (isKey_i64 k) _ 9999
  rcases findNow_im h2 hF k with ⟨h0, _⟩ | ⟨j, e, h0, hf, _⟩
  · rw [h0] at hv; cases hv
  · rw [h0] at hv; cases hv
    simp [Instr.lookup, run_underlying hm, MapKept.run_getObj_map hb, hc, MapKept.run_findKey hk hf, Result.andThen]
theorem IM.miss (h : IM w r F) (hm : P.underlying mty = some (.map kt et)) (hk : P.underlying kt = some (.int .i64)) (k : Int) (hv : F k = none) {z : Value} (hz : (zeroValue et).run P w = .ok z w) (c : Bool) :
    (Instr.lookup mty (.map (some r)) (.int .i64 k) c).run P w = .ok (if c then .tuple #[z, .bool false] else z) w := by
  obtain ⟨es, cl, hb, h2, _, hF⟩ := h
  have hc : (Instr.checkKey es.isEmpty 10000 kt (.int .i64 k)).run P w = .ok () w := MapKept.run_checkKey (k := .int .i64 k) hk (isKey_i64 k) _ 9999
  rcases findNow_im h2 hF k with ⟨_, hf, _⟩ | ⟨j, e, h0, hf, _⟩
  · simp [Instr.lookup, run_underlying hm, MapKept.run_getObj_map hb, hc, MapKept.run_findKey hk hf, hz, Result.andThen]
  · rw [h0] at hv; cases hv
theorem kept_setObj {o o' : Obj} (hb : w.heap[r]? = some o) : Kept [r] w { w with heap := w.heap.setIfInBounds r o' } :=
  ⟨⟨rfl, rfl, rfl, by simp, fun k hk => by omega⟩, fun b _ hn => (MapKept.heap_set hb).2 b (by simpa using hn)⟩
theorem size_setObj {o' : Obj} : ({ w with heap := w.heap.setIfInBounds r o' } : World).heap.size = w.heap.size := by simp
theorem IM.put (h : IM w r F) (hm : P.underlying mty = some (.map kt et)) (hk : P.underlying kt = some (.int .i64)) (k : Int) (v : Value) :
    ∃ w', (Instr.mapUpdate mty (.map (some r)) (.int .i64 k) v).run P w = .ok () w' ∧ IM w' r (fun j => if j = k then some v else F j) ∧ Kept [r] w w' ∧ w'.heap.size = w.heap.size := by
  obtain ⟨es, cl, hb, h2, hu, hF⟩ := h
  have hc : (Instr.checkKey false 10000 kt (.int .i64 k)).run P w = .ok () w := MapKept.run_checkKey (k := .int .i64 k) hk (isKey_i64 k) _ 9999
  rcases findNow_im h2 hF k with ⟨h0, hf, hno⟩ | ⟨j, e, h0, hf, hj, he⟩
  · refine ⟨{ w with heap := w.heap.setIfInBounds r (.map (es.push { key := .int .i64 k, val := v, born := cl }) (cl + 1)) }, by simp [Instr.mapUpdate, run_underlying hm, MapKept.run_getObj_map hb, hc, MapKept.run_findKey hk hf, MapKept.run_setObj_map _ hb, Result.andThen], ⟨es.push { key := .int .i64 k, val := v, born := cl }, cl + 1, (MapKept.heap_set hb).1, ?_, ?_, ?_⟩, kept_setObj hb, size_setObj⟩
    · intro x hx
      simp only [Array.toList_push, List.mem_append, List.mem_singleton] at hx
      rcases hx with hx | rfl
      · exact h2 x hx
      · exact isKey_i64 k
    · intro a b x y hx hy hxy
      rw [Array.getElem?_push] at hx hy
      split at hx <;> split at hy
      · omega
      · cases hx
        exact absurd hxy.symm (hno _ _ hy)
      · cases hy
        exact absurd hxy (hno _ _ hx)
      · exact hu a b x y hx hy hxy
    · intro k' v'
      by_cases hkk : k' = k
      · subst hkk
        simp only [if_pos]
        constructor
        · intro hv; cases hv; exact ⟨es.size, { key := .int .i64 k', val := v, born := cl }, by simp, rfl, rfl⟩
        · rintro ⟨i, x, hx, h5, h6⟩
          rw [Array.getElem?_push] at hx
          split at hx
          · cases hx; rw [← h6]
          · exact absurd h5 (hno _ _ hx)
      · simp only [if_neg hkk]; rw [hF]
        constructor
        · rintro ⟨i, x, hx, h5, h6⟩
          have := (Array.getElem?_eq_some_iff.1 hx).1
          exact ⟨i, x, by rw [Array.getElem?_push, if_neg (by omega)]; exact hx, h5, h6⟩
        · rintro ⟨i, x, hx, h5, h6⟩
          rw [Array.getElem?_push] at hx
          split at hx
          · cases hx; simp at h5; exact absurd h5.symm hkk
          · exact ⟨i, x, hx, h5, h6⟩
  · have hkey : ∀ e', es[j]? = some e' → ({ e' with key := .int .i64 k, val := v } : MapEntry).key = e'.key := fun e' he' => by rw [hj] at he'; cases he'; exact he.symm
    have hg : ∀ (i : Nat) (x : MapEntry), (es.modify j fun e => { e with key := .int .i64 k, val := v })[i]? = some x → (i = j ∧ x.key = .int .i64 k ∧ x.val = v) ∨ (i ≠ j ∧ es[i]? = some x) := by
      intro i x hx
      rw [Array.getElem?_modify] at hx
      by_cases hij : j = i
      · subst hij
        rw [if_pos rfl, hj] at hx
        cases hx
        exact .inl ⟨rfl, rfl, rfl⟩
      · rw [if_neg hij] at hx
        exact .inr ⟨fun e => hij e.symm, hx⟩
    have hg2 : ∀ (i : Nat) (x : MapEntry), i ≠ j → es[i]? = some x → (es.modify j fun e => { e with key := .int .i64 k, val := v })[i]? = some x := fun i x hij hx => by
      rw [Array.getElem?_modify, if_neg (fun e => hij e.symm)]; exact hx
    refine ⟨{ w with heap := w.heap.setIfInBounds r (.map (es.modify j fun e => { e with key := .int .i64 k, val := v }) cl) }, by simp [Instr.mapUpdate, run_underlying hm, MapKept.run_getObj_map hb, hc, MapKept.run_findKey hk hf, hj, he, MapKept.run_keyThatStays (isKey_i64 k), MapKept.run_setObj_map _ hb, Result.andThen], ⟨es.modify j fun e => { e with key := .int .i64 k, val := v }, cl, (MapKept.heap_set hb).1, MapKept.isKey_modify h2 _ _ hkey, ?_, ?_⟩, kept_setObj hb, size_setObj⟩
    · intro a b x y hx hy hxy
      rcases hg a x hx with ⟨e1, h5, _⟩ | ⟨h6, h7⟩ <;> rcases hg b y hy with ⟨e2, h8, _⟩ | ⟨h9, h10⟩
      · omega
      · exact absurd (hu b j y e h10 hj (by rw [← hxy, h5, he])) h9
      · exact absurd (hu a j x e h7 hj (by rw [hxy, h8, he])) h6
      · exact hu a b x y h7 h10 hxy
    · intro k' v'
      by_cases hkk : k' = k
      · subst hkk
        simp only [if_pos]
        constructor
        · intro hv; cases hv
          exact ⟨j, { e with key := .int .i64 k', val := v }, by rw [Array.getElem?_modify, if_pos rfl, hj]; rfl, rfl, rfl⟩
        · rintro ⟨i, x, hx, h5, h6⟩
          rcases hg i x hx with ⟨_, _, h7⟩ | ⟨h7, h8⟩
          · rw [← h6, h7]
          · exact absurd (hu i j x e h8 hj (by rw [h5, he])) h7
      · simp only [if_neg hkk]; rw [hF]
        constructor
        · rintro ⟨i, x, hx, h5, h6⟩
          refine ⟨i, x, hg2 i x (fun hij => ?_) hx, h5, h6⟩
          subst hij
          rw [hj] at hx; cases hx
          rw [he] at h5; simp at h5; exact hkk h5.symm
        · rintro ⟨i, x, hx, h5, h6⟩
          rcases hg i x hx with ⟨_, h7, _⟩ | ⟨_, h8⟩
          · rw [h7] at h5; simp at h5; exact absurd h5.symm hkk
          · exact ⟨i, x, h8, h5, h6⟩
end


open Go.RowKit Go.Shelf
set_option maxRecDepth 100000
attribute [local go_sem] Oper.semAt_some

abbrev R3 := Int × Int × Int
def rv (x : R3) : Value := .agg #[.int .i64 x.1, .int .i64 x.2.1, .int .i64 x.2.2]
def upTo (M : Int → Option R3) (k : Nat) : List R3 := (List.range k).filterMap fun (j : Nat) => M (j : Int)
theorem upTo_some {M : Int → Option R3} {k : Nat} {x : R3} (h : M (k : Int) = some x) : upTo M (k + 1) = upTo M k ++ [x] := by
  unfold upTo; rw [List.range_succ, List.filterMap_append]; simp [h]
theorem upTo_none {M : Int → Option R3} {k : Nat} (h : M (k : Int) = none) : upTo M (k + 1) = upTo M k := by
  unfold upTo; rw [List.range_succ, List.filterMap_append]; simp [h]
theorem upTo_pre (M : Int → Option R3) (k : Nat) : ∀ d, upTo M k <+: upTo M (k + d) := by
  intro d
  induction d with
  | zero => exact List.prefix_refl _
  | succ d ih =>
    refine ih.trans ?_
    cases h : M ((k + d : Nat) : Int) with
    | none => rw [show k + (d + 1) = k + d + 1 by omega, upTo_none h]; exact List.prefix_refl _
    | some x => rw [show k + (d + 1) = k + d + 1 by omega, upTo_some h]; exact List.prefix_append _ _
theorem upTo_lt {M : Int → Option R3} {k n : Nat} {x : R3} (h : M (k : Int) = some x) (hk : k < n) : (upTo M k).length < (upTo M n).length := by
  have h1 := (upTo_pre M (k + 1) (n - (k + 1))).length_le
  rw [show k + 1 + (n - (k + 1)) = n by omega, upTo_some h, List.length_append, List.length_singleton] at h1
  omega
def RM (w : World) (r : Nat) (M : Int → Option R3) : Prop := IM w r (fun k => (M k).map rv)
def KpI (n₀ bx : Nat) (W W' : World) : Prop := Below n₀ W W' ∧ W'.heap[bx]? = W.heap[bx]?
theorem KpI.trans {n₀ bx : Nat} {A B C : World} (h : KpI n₀ bx A B) (k : KpI n₀ bx B C) : KpI n₀ bx A C := ⟨h.1.trans k.1, k.2.trans h.2⟩

set_option maxHeartbeats 1000000 in
theorem rising1_in (n : Nat) (hn : 1 ≤ n) (l bx r n₀ B : Nat) (M : Int → Option R3) (hr : r < n₀) (J Jx : List R3 → World → Prop) (hJ : AbidesFrom B J)
    (hY : ∀ pre x W, J pre W → pre.length < (upTo M 5).length → YieldAt Fence.wide (n - 1) Try.prog l #[rv x] W fun e W' =>
      (e = .returned (.bool true) ∧ J (pre ++ [x]) W' ∧ KpI n₀ bx W W') ∨ (e = .returned (.bool false) ∧ Jx (pre ++ [x]) W'))
    (W : World) (hbx : W.heap[bx]? = some (.cells #[.map (some r)] 108 (0, 0))) (hM : RM W r M) (h0 : J [] W) :
    CallsIn Fence.wide n Try.prog 110 #[.func (.yield l) #[] #[], .pointer (some ⟨bx, 0, none⟩)] W fun e W' => (∃ v, e = .returned v) ∧
      ((∃ ys, ys = upTo M 5 ∧ J ys W') ∨ (∃ pre, pre <+: upTo M 5 ∧ Jx pre W')) := by
  refine callsIn_of_wp Try.func110 rfl trivial ?_ rfl
  simp only [Try.ntmps110, List.size_toArray, List.length_cons, List.length_nil, Nat.reduceAdd, Nat.reduceSub, Array.replicate_succ, Array.replicate_zero, List.push_toArray, List.append_toArray, List.nil_append, List.cons_append]
  gi_wp2
  gi_loopw [3] (fun p wr => ∃ k : Nat, k ≤ 5 ∧ p = .int .i64 (k : Int) ∧ wr.heap[bx]? = some (.cells #[.map (some r)] 108 (0, 0)) ∧ RM wr r M ∧ J (upTo M k) wr)
    (fun p _ => 5 - (intOf p).toNat)
  case atStart =>
    exact ⟨0, by omega, rfl, hbx, hM, h0⟩
  case round =>
    obtain ⟨k, hk, rfl, hb, hm, hj⟩ := hrel
    have cb := cell_of_row wr _ 0 _ _ _ hb
    simp at cb
    by_cases hlt : k < 5
    · cases hx : M (k : Int) with
      | none =>
        obtain ⟨z, hz, -⟩ : ∃ z : Int, (zeroValue 52).run Try.prog wr = .ok (rv (z, z, z)) wr ∧ True := ⟨0, by kernel_rfl, trivial⟩
        have L := IM.miss hm Try.underlying108 Try.underlying2 (k : Int) (by rw [hx]; rfl) hz true
        simp only [rv, if_pos] at L
        have G := Lib.hid (World.grownBy_alloc wr (.cells #[.int .i64 z, .int .i64 z, .int .i64 z] 52) none)
        have hj' := hJ _ _ _ _ hj G.out (fun r e => by cases e)
        clear hz
        gi_wp2
        refine ⟨fun _ h => (by cases h), ?_⟩
        gi_wp2
        go_roundw
        case rel => exact ⟨k + 1, by omega, by go_num, (G.out.block bx (Array.getElem?_eq_some_iff.1 hb).1 (by simp)).trans hb, hm.keepAll (G.out.block r hm.lt (by simp)), by rw [upTo_none hx]; exact hj'⟩
        case measure => simp [intOf]; omega
      | some x =>
        have L := IM.look hm Try.underlying108 Try.underlying2 (k : Int) (rv x) (by rw [hx]; rfl) true
        simp only [rv, if_pos] at L
        have G := Lib.hid (World.grownBy_alloc wr (.cells #[.int .i64 x.1, .int .i64 x.2.1, .int .i64 x.2.2] 52) none)
        have hj' := hJ _ _ _ _ hj G.out (fun r e => by cases e)
        obtain ⟨fn, tmps, assign, body, hy, hR⟩ := hY (upTo M k) x _ hj' (upTo_lt hx hlt)
        simp only [rv] at hy
        have HX := Lib.hid hx
        clear hx
        gi_wp2
        refine hR.mono ?_
        rintro e W3 (⟨rfl, hJ3, hk3⟩ | ⟨rfl, hJx3⟩)
        · gi_wp2
          go_roundw
          case rel => exact ⟨k + 1, by omega, by go_num, (hk3.2.trans (G.out.block bx (Array.getElem?_eq_some_iff.1 hb).1 (by simp))).trans hb, hm.keepAll ((hk3.1.block r hr).trans (G.out.block r hm.lt (by simp))), by rw [upTo_some HX.out]; exact hJ3⟩
          case measure => simp [intOf]; omega
        · gi_wp2
          refine bodyPost_ret (results_none rfl _ _ _) rfl ?_
          refine ⟨⟨_, rfl⟩, .inr ⟨_, ?_, hJx3⟩⟩
          rw [← upTo_some HX.out]
          have := upTo_pre M (k + 1) (5 - (k + 1))
          rw [show k + 1 + (5 - (k + 1)) = 5 by omega] at this
          exact this
    · obtain rfl : k = 5 := by omega
      gi_wp2
      go_end0
      exact ⟨⟨_, rfl⟩, .inl ⟨_, rfl, hj⟩⟩

end Go.Proofs.Ytckapndpefkcgaa
