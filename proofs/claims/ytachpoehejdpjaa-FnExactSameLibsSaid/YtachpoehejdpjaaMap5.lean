/-
  Maps of a call's own with keys that are numbers: what is found at each key; one put, one changed, one deleted. No program is named here.
-/
import Derived.WideMake
import Derived.Test.YtachpoehejdpjaaBase3
namespace Go.Proofs.Ytachpoehejdpjaa
open Go.RowKit

/-- block r is a map in which F says what is found at each number -/
def IM (w : World) (r : Nat) (F : Int → Option Value) : Prop :=
  ∃ (es : Array MapEntry) (clock : Nat), w.heap[r]? = some (.map es clock) ∧ (∀ x ∈ es.toList, MapKept.IsKey (.int .i64) x.key) ∧ (∀ (i j : Nat) (e e' : MapEntry), es[i]? = some e → es[j]? = some e' → e.key = e'.key → i = j) ∧
    ∀ (k : Int) (v : Value), F k = some v ↔ ∃ (i : Nat) (e : MapEntry), es[i]? = some e ∧ e.key = .int .i64 k ∧ e.val = v

theorem isKey_i64 (k : Int) : MapKept.IsKey (.int .i64) (.int .i64 k) := by simp [MapKept.IsKey]
theorem IM.keepAll {w w' : World} {r : Nat} {F : Int → Option Value} (h : IM w r F) (hw : w'.heap[r]? = w.heap[r]?) : IM w' r F := by
  obtain ⟨es, cl, h1, h2⟩ := h
  exact ⟨es, cl, hw.trans h1, h2⟩
theorem IM.lt {w : World} {r : Nat} {F : Int → Option Value} (h : IM w r F) : r < w.heap.size := by
  obtain ⟨es, cl, h1, _⟩ := h
  exact (Array.getElem?_eq_some_iff.1 h1).1
theorem IM.below {w w' : World} {r B : Nat} {F : Int → Option Value} (h : IM w r F) (hb : Below B w w') (hr : r < B) : IM w' r F := h.keepAll (hb.block r hr)
theorem IM.kept {w w' : World} {r : Nat} {gs : List Nat} {F : Int → Option Value} (h : IM w r F) (hk : Kept gs w w') (hr : r ∉ gs) : IM w' r F := h.keepAll (hk.2 r h.lt hr)
theorem IM.new (w : World) : IM (w.alloc (.map #[] 0)) w.heap.size (fun _ => none) :=
  ⟨#[], 0, heap_alloc_new _ _, by simp, by simp, by simp⟩
theorem IM.ext {w : World} {r : Nat} {F G : Int → Option Value} (h : IM w r F) (e : ∀ k, F k = G k) : IM w r G := by
  have : F = G := funext e
  exact this ▸ h

/-- what findNow answers -/
theorem findNow_im {es : Array MapEntry} {F : Int → Option Value} (h2 : ∀ x ∈ es.toList, MapKept.IsKey (.int .i64) x.key) (hF : ∀ (k : Int) (v : Value), F k = some v ↔ ∃ (i : Nat) (e : MapEntry), es[i]? = some e ∧ e.key = .int .i64 k ∧ e.val = v) (k : Int) :
    (F k = none ∧ Instr.findNow (.int .i64) (.int .i64 k) es.toList 0 = some none ∧ ∀ (i : Nat) (x : MapEntry), es[i]? = some x → x.key ≠ .int .i64 k) ∨
    ∃ (j : Nat) (e : MapEntry), F k = some e.val ∧ Instr.findNow (.int .i64) (.int .i64 k) es.toList 0 = some (some (j, e.val)) ∧ es[j]? = some e ∧ e.key = .int .i64 k := by
  rcases MapKept.findNow_spec (isKey_i64 k) es.toList 0 h2 with ⟨h, hno⟩ | ⟨j, e, h, hj, he⟩
  · have hno' : ∀ (i : Nat) (x : MapEntry), es[i]? = some x → x.key ≠ .int .i64 k := fun i x hx => hno x (List.mem_of_getElem? (by simpa using hx : es.toList[i]? = some x))
    refine .inl ⟨?_, h, hno'⟩
    cases hf : F k with
    | none => rfl
    | some v =>
      obtain ⟨i, e, h1, h2, _⟩ := (hF k v).1 hf
      exact absurd h2 (hno' i e h1)
  · have hj' : es[j]? = some e := by simpa using hj
    exact .inr ⟨j, e, (hF k e.val).2 ⟨j, e, hj', he, rfl⟩, by simpa using h, hj', he⟩
section
variable {P : Program} {mty kt et : TypeId} {w : World} {r : Nat} {F : Int → Option Value}
/-- what is found -/
theorem IM.look (h : IM w r F) (hm : P.underlying mty = some (.map kt et)) (hk : P.underlying kt = some (.int .i64)) (k : Int) (v : Value) (hv : F k = some v) (c : Bool) :
    (Instr.lookup mty (.map (some r)) (.int .i64 k) c).run P w = .ok (if c then .tuple #[v, .bool true] else v) w := by
  obtain ⟨es, cl, hb, h2, _, hF⟩ := h
  have hc : (Instr.checkKey es.isEmpty 10000 kt (.int .i64 k)).run P w = .ok () w := MapKept.run_checkKey (k := .int .i64 k) hk (isKey_i64 k) _ 9999
  rcases findNow_im h2 hF k with ⟨h0, _⟩ | ⟨j, e, h0, hf, _⟩
  · rw [h0] at hv; cases hv
  · rw [h0] at hv; cases hv
    simp [Instr.lookup, run_underlying hm, MapKept.run_getObj_map hb, hc, MapKept.run_findKey hk hf, Result.andThen]
/-- what is not there -/
theorem IM.miss (h : IM w r F) (hm : P.underlying mty = some (.map kt et)) (hk : P.underlying kt = some (.int .i64)) (k : Int) (hv : F k = none) {z : Value} (hz : (zeroValue et).run P w = .ok z w) (c : Bool) :
    (Instr.lookup mty (.map (some r)) (.int .i64 k) c).run P w = .ok (if c then .tuple #[z, .bool false] else z) w := by
  obtain ⟨es, cl, hb, h2, _, hF⟩ := h
  have hc : (Instr.checkKey es.isEmpty 10000 kt (.int .i64 k)).run P w = .ok () w := MapKept.run_checkKey (k := .int .i64 k) hk (isKey_i64 k) _ 9999
  rcases findNow_im h2 hF k with ⟨_, hf, _⟩ | ⟨j, e, h0, hf, _⟩
  · simp [Instr.lookup, run_underlying hm, MapKept.run_getObj_map hb, hc, MapKept.run_findKey hk hf, hz, Result.andThen]
  · rw [h0] at hv; cases hv
theorem kept_setObj {o o' : Obj} (hb : w.heap[r]? = some o) : Kept [r] w { w with heap := w.heap.setIfInBounds r o' } :=
  ⟨⟨rfl, rfl, rfl, by simp, fun k hk => by omega⟩, fun b _ hn => (MapKept.heap_set hb).2 b (by simpa using hn)⟩
theorem size_setObj {o' : Obj} : ({ w with heap := w.heap.setIfInBounds r o' } : World).heap.size = w.heap.size := by simp
/-- one is put, or changed -/
theorem IM.put (h : IM w r F) (hm : P.underlying mty = some (.map kt et)) (hk : P.underlying kt = some (.int .i64)) (k : Int) (v : Value) :
    ∃ w', (Instr.mapUpdate mty (.map (some r)) (.int .i64 k) v).run P w = .ok () w' ∧ IM w' r (fun j => if j = k then some v else F j) ∧ Kept [r] w w' ∧ w'.heap.size = w.heap.size := by
  obtain ⟨es, cl, hb, h2, hu, hF⟩ := h
  have hc : (Instr.checkKey false 10000 kt (.int .i64 k)).run P w = .ok () w := MapKept.run_checkKey (k := .int .i64 k) hk (isKey_i64 k) _ 9999
  rcases findNow_im h2 hF k with ⟨h0, hf, hno⟩ | ⟨j, e, h0, hf, hj, he⟩
  · refine ⟨{ w with heap := w.heap.setIfInBounds r (.map (es.push { key := .int .i64 k, val := v, born := cl }) (cl + 1)) }, by simp [Instr.mapUpdate, run_underlying hm, MapKept.run_getObj_map hb, hc, MapKept.run_findKey hk hf, MapKept.run_setObj_map _ hb, Result.andThen], ⟨es.push { key := .int .i64 k, val := v, born := cl }, cl + 1, (MapKept.heap_set hb).1, ?_, ?_, ?_⟩, kept_setObj hb, size_setObj⟩
    · intro x hx
      simp only [Array.toList_push, List.mem_append, List.mem_singleton] at hx
      rcases hx with hx | rfl
      · exact h2 x hx
      · exact isKey_i64 k
    · intro a b x y hx hy hxy
      rw [Array.getElem?_push] at hx hy
      split at hx <;> split at hy
      · omega
      · cases hx
        exact absurd hxy.symm (hno _ _ hy)
      · cases hy
        exact absurd hxy (hno _ _ hx)
      · exact hu a b x y hx hy hxy
    · intro k' v'
      by_cases hkk : k' = k
      · subst hkk
        simp only [if_pos]
        constructor
        · intro hv; cases hv; exact ⟨es.size, { key := .int .i64 k', val := v, born := cl }, by simp, rfl, rfl⟩
        · rintro ⟨i, x, hx, h5, h6⟩
          rw [Array.getElem?_push] at hx
          split at hx
          · cases hx; rw [← h6]
          · exact absurd h5 (hno _ _ hx)
      · simp only [if_neg hkk]; rw [hF]
        constructor
        · rintro ⟨i, x, hx, h5, h6⟩
          have := (Array.getElem?_eq_some_iff.1 hx).1
          exact ⟨i, x, by rw [Array.getElem?_push, if_neg (by omega)]; exact hx, h5, h6⟩
        · rintro ⟨i, x, hx, h5, h6⟩
          rw [Array.getElem?_push] at hx
          split at hx
          · cases hx; simp at h5; exact absurd h5.symm hkk
          · exact ⟨i, x, hx, h5, h6⟩
  · have hkey : ∀ e', es[j]? = some e' → ({ e' with key := .int .i64 k, val := v } : MapEntry).key = e'.key := fun e' he' => by rw [hj] at he'; cases he'; exact he.symm
    have hg : ∀ (i : Nat) (x : MapEntry), (es.modify j fun e => { e with key := .int .i64 k, val := v })[i]? = some x → (i = j ∧ x.key = .int .i64 k ∧ x.val = v) ∨ (i ≠ j ∧ es[i]? = some x) := by
      intro i x hx
      rw [Array.getElem?_modify] at hx
      by_cases hij : j = i
      · subst hij
        rw [if_pos rfl, hj] at hx
        cases hx
        exact .inl ⟨rfl, rfl, rfl⟩
      · rw [if_neg hij] at hx
        exact .inr ⟨fun e => hij e.symm, hx⟩
    have hg2 : ∀ (i : Nat) (x : MapEntry), i ≠ j → es[i]? = some x → (es.modify j fun e => { e with key := .int .i64 k, val := v })[i]? = some x := fun i x hij hx => by
      rw [Array.getElem?_modify, if_neg (fun e => hij e.symm)]; exact hx
    refine ⟨{ w with heap := w.heap.setIfInBounds r (.map (es.modify j fun e => { e with key := .int .i64 k, val := v }) cl) }, by simp [Instr.mapUpdate, run_underlying hm, MapKept.run_getObj_map hb, hc, MapKept.run_findKey hk hf, hj, he, MapKept.run_keyThatStays (isKey_i64 k), MapKept.run_setObj_map _ hb, Result.andThen], ⟨es.modify j fun e => { e with key := .int .i64 k, val := v }, cl, (MapKept.heap_set hb).1, MapKept.isKey_modify h2 _ _ hkey, ?_, ?_⟩, kept_setObj hb, size_setObj⟩
    · intro a b x y hx hy hxy
      rcases hg a x hx with ⟨e1, h5, _⟩ | ⟨h6, h7⟩ <;> rcases hg b y hy with ⟨e2, h8, _⟩ | ⟨h9, h10⟩
      · omega
      · exact absurd (hu b j y e h10 hj (by rw [← hxy, h5, he])) h9
      · exact absurd (hu a j x e h7 hj (by rw [hxy, h8, he])) h6
      · exact hu a b x y h7 h10 hxy
    · intro k' v'
      by_cases hkk : k' = k
      · subst hkk
        simp only [if_pos]
        constructor
        · intro hv; cases hv
          exact ⟨j, { e with key := .int .i64 k', val := v }, by rw [Array.getElem?_modify, if_pos rfl, hj]; rfl, rfl, rfl⟩
        · rintro ⟨i, x, hx, h5, h6⟩
          rcases hg i x hx with ⟨_, _, h7⟩ | ⟨h7, h8⟩
          · rw [← h6, h7]
          · exact absurd (hu i j x e h8 hj (by rw [h5, he])) h7
      · simp only [if_neg hkk]; rw [hF]
        constructor
        · rintro ⟨i, x, hx, h5, h6⟩
          refine ⟨i, x, hg2 i x (fun hij => ?_) hx, h5, h6⟩
          subst hij
          rw [hj] at hx; cases hx
          rw [he] at h5; simp at h5; exact hkk h5.symm
        · rintro ⟨i, x, hx, h5, h6⟩
          rcases hg i x hx with ⟨_, h7, _⟩ | ⟨_, h8⟩
          · rw [h7] at h5; simp at h5; exact absurd h5.symm hkk
          · exact ⟨i, x, h8, h5, h6⟩
/-- one is deleted -/
theorem IM.del (h : IM w r F) (hm : P.underlying mty = some (.map kt et)) (hk : P.underlying kt = some (.int .i64)) (k : Int) (ty : TypeId) :
    ∃ w', (Builtin.delete_ #[mty, kt] ty #[.map (some r), .int .i64 k]).run P w = .ok (.tuple #[]) w' ∧ IM w' r (fun j => if j = k then none else F j) ∧ Kept [r] w w' ∧ w'.heap.size = w.heap.size := by
  obtain ⟨es, cl, hb, h2, hu, hF⟩ := h
  have hc : (Instr.checkKey es.isEmpty 10000 kt (.int .i64 k)).run P w = .ok () w := MapKept.run_checkKey (k := .int .i64 k) hk (isKey_i64 k) _ 9999
  rcases findNow_im h2 hF k with ⟨h0, hf, hno⟩ | ⟨j, e, h0, hf, hj, he⟩
  · refine ⟨{ w with heap := w.heap.setIfInBounds r (.map es cl) }, by simp [Builtin.delete_, run_underlying hm, MapKept.run_getObj_map hb, hc, MapKept.run_findKey hk hf, MapKept.run_setObj_map _ hb, Result.andThen], ⟨es, cl, (MapKept.heap_set hb).1, h2, hu, ?_⟩, kept_setObj hb, size_setObj⟩
    intro k' v'
    by_cases hkk : k' = k
    · subst hkk
      simp only [if_pos]
      constructor
      · intro hv; cases hv
      · rintro ⟨i, x, hx, h5, _⟩; exact absurd h5 (hno i x hx)
    · simp only [if_neg hkk]; rw [hF]
  · have hjl : j < es.size := (Array.getElem?_eq_some_iff.1 hj).1
    have hl : (es.eraseIdxIfInBounds j).toList = es.toList.eraseIdx j := by
      unfold Array.eraseIdxIfInBounds
      rw [dif_pos hjl, Array.toList_eraseIdx]
    have hg : ∀ (i : Nat) (x : MapEntry), (es.eraseIdxIfInBounds j)[i]? = some x ↔ if i < j then es[i]? = some x else es[i + 1]? = some x := by
      intro i x
      rw [← Array.getElem?_toList, hl, List.getElem?_eraseIdx]
      split <;> simp
    refine ⟨{ w with heap := w.heap.setIfInBounds r (.map (es.eraseIdxIfInBounds j) cl) }, by simp [Builtin.delete_, run_underlying hm, MapKept.run_getObj_map hb, hc, MapKept.run_findKey hk hf, MapKept.run_setObj_map _ hb, Result.andThen], ⟨es.eraseIdxIfInBounds j, cl, (MapKept.heap_set hb).1, ?_, ?_, ?_⟩, kept_setObj hb, size_setObj⟩
    · intro x hx
      rw [hl] at hx
      exact h2 x ((List.eraseIdx_sublist _ _).subset hx)
    · intro a b x y hx hy hxy
      rw [hg] at hx hy
      split at hx <;> split at hy
      · exact hu a b x y hx hy hxy
      · have := hu a (b + 1) x y hx hy hxy; omega
      · have := hu (a + 1) b x y hx hy hxy; omega
      · have := hu (a + 1) (b + 1) x y hx hy hxy; omega
    · intro k' v'
      by_cases hkk : k' = k
      · subst hkk
        simp only [if_pos]
        constructor
        · intro hv; cases hv
        · rintro ⟨i, x, hx, h5, _⟩
          rw [hg] at hx
          split at hx
          · have := hu i j x e hx hj (by rw [h5, he]); omega
          · have := hu (i + 1) j x e hx hj (by rw [h5, he]); omega
      · simp only [if_neg hkk]; rw [hF]
        constructor
        · rintro ⟨i, x, hx, h5, h6⟩
          have hij : i ≠ j := fun hij => by
            subst hij
            rw [hj] at hx; cases hx
            rw [he] at h5; simp at h5; exact hkk h5.symm
          by_cases hlt : i < j
          · exact ⟨i, x, by rw [hg, if_pos hlt]; exact hx, h5, h6⟩
          · exact ⟨i - 1, x, by rw [hg, if_neg (by omega), show i - 1 + 1 = i by omega]; exact hx, h5, h6⟩
        · rintro ⟨i, x, hx, h5, h6⟩
          rw [hg] at hx
          split at hx
          · exact ⟨i, x, hx, h5, h6⟩
          · exact ⟨i + 1, x, hx, h5, h6⟩
end

end Go.Proofs.Ytachpoehejdpjaa
