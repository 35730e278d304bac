/-
  The library's TrimLeft, Cut and Clone, as the program calls them: a line's rest, a blank. No conditions beyond that a string is not longer than it can be.
-/
import Derived.Lib.Bytealg
import Derived.Lib.IndexLaws
import Derived.Lib.BufferWrite
import Derived.Laws.Externs
import Derived.Laws.MakeOwn
import Derived.Laws.CopyOwn
import Derived.Deep.RegionHeld3
import Derived.BigQuiet
import Derived.Test.YtckapndpefkcgaaDoorNum10
set_option maxHeartbeats 1000000
namespace Go.Proofs.YtckapndpefkcgaaDoor
open Go.RowKit
set_option maxRecDepth 100000

def sx (s : ByteArray) (p : Nat) : ByteArray := s.extract p s.size
theorem sx_size (s : ByteArray) (p : Nat) : (sx s p).size = s.size - p := by unfold sx; simp
theorem sx_ext (s : ByteArray) (p a b : Nat) (hb : p + b ≤ s.size) : (sx s p).extract a b = s.extract (p + a) (p + b) := by
  unfold sx
  apply ByteArray.ext
  simp only [ByteArray.data_extract, Array.extract_extract]
  rw [Nat.min_eq_left (by omega)]
theorem sx_step (s : ByteArray) (p k : Nat) (h : p + k ≤ s.size) : (sx s p).extract k (sx s p).size = sx s (p + k) := by
  rw [sx_ext _ _ _ _ (by rw [sx_size]; omega), sx_size]
  unfold sx
  congr 1
  omega
theorem sx_get (s : ByteArray) (p k : Nat) (h : k < (sx s p).size) : (((sx s p)[k]'h).toNat : Int) = bt s (p + k) := by
  have hs := sx_size s p
  have h2 : p + k < s.size := by omega
  rw [← bt_eq s (p + k) h2]
  exact congrArg (fun b : UInt8 => (b.toNat : Int)) (ByteArray.getElem_extract (h := h))
theorem sx_all (s : ByteArray) : sx s s.size = ⟨#[]⟩ := by
  apply ByteArray.ext
  unfold sx
  simp
theorem sx_zero (s : ByteArray) : sx s 0 = s := by
  apply ByteArray.ext
  unfold sx
  simp
def strOf : Value → ByteArray | .string u => u | _ => ⟨#[]⟩

theorem trimB10 (s : ByteArray) (p0 : Nat) (h0 : p0 ≤ s.size) (hs : s.size ≤ 9223372036854775807) (w : World) :
    Calls Tryd.prog 45 #[.string (sx s p0), .int .u8 32] w fun e w' => (∃ p, p0 ≤ p ∧ p ≤ s.size ∧ (∀ i, p0 ≤ i → i < p → bt s i = 32) ∧ (p < s.size → bt s p ≠ 32) ∧ e = .returned (.string (sx s p))) ∧ w = w' := by
  go_enter Tryd.func45, Tryd.ntmps45
  go_wp2_with fail
  go_loop [0] (fun v => ∃ p, p0 ≤ p ∧ p ≤ s.size ∧ (∀ i, p0 ≤ i → i < p → bt s i = 32) ∧ v = .string (sx s p)) (fun v => (strOf v).size)
  case atStart => exact ⟨p0, Nat.le_refl _, h0, (fun i h1 h2 => by omega), rfl⟩
  case round =>
    obtain ⟨p, hp0, hp, hsp, rfl⟩ := hrel
    have HS := Lib.hid hsp
    have NX := Lib.hid (fun h => sx_step s p 1 h)
    have us := sx_size s p
    have GT := Lib.hid (sx_get s p)
    have ND := Lib.hid (show p ≤ s.size ∧ p0 ≤ p from ⟨hp, hp0⟩)
    generalize hu : sx s p = u at *
    have HU := Lib.hid hu
    clear hu hsp
    by_cases hlt : p < s.size
    · have hpn : 0 < u.size := by omega
      have g0 := GT.out 0 hpn
      rw [Nat.add_zero] at g0
      have hpos : (0 : Int) < (u.size : Int) := by omega
      have ST := NX.out (by omega)
      by_cases hc : bt s p = 32
      · rw [hc] at g0
        have US := Lib.hid us
        clear us
        go_wp2
        try rw [ST]
        go_round
        case rel => exact ⟨p + 1, by omega, by have := ND.out; omega, (fun i h1 h2 => by
            by_cases e : i = p
            · subst e; exact hc
            · exact HS.out i h1 (by omega)), rfl⟩
        case measure => have := US.out; simp only [strOf]; rw [sx_size]; omega
      · have hc2 : (bt s p == 32) = false := by simp [hc]
        have US := Lib.hid us
        clear us
        go_wp2
        go_ret
        exact ⟨⟨p, ND.out.2, ND.out.1, HS.out, fun _ => hc, (by rw [HU.out]; first | done | rfl)⟩, rfl⟩
    · have hz : u.size = 0 := by omega
      have hpos : ¬ (0 : Int) < (u.size : Int) := by omega
      clear us
      go_wp2
      go_ret
      exact ⟨⟨p, ND.out.2, ND.out.1, HS.out, fun h => absurd h hlt, (by rw [HU.out]; first | done | rfl)⟩, rfl⟩

theorem ne_nil (u : ByteArray) (h : 0 < u.size) : u.toList.isEmpty = false ∧ (u.toList == (⟨#[]⟩ : ByteArray).toList) = false := by
  have h1 : ¬ u.toList = [] := fun e => by
    have : u.toList.length = u.size := by rw [Lib.toList_data, Lib.size_eq]
    rw [e] at this
    simp at this
    omega
  have h2 : (⟨#[]⟩ : ByteArray).toList = [] := by rw [Lib.toList_data]
  exact ⟨by simpa using h1, by rw [h2, beq_eq_false_iff_ne]; exact h1⟩
theorem trim10 (s : ByteArray) (p0 : Nat) (h0 : p0 ≤ s.size) (hs : s.size ≤ 9223372036854775807) (w : World) :
    Calls Tryd.prog 36 #[.string (sx s p0), .string ⟨#[32]⟩] w fun e w' => (∃ p, p0 ≤ p ∧ p ≤ s.size ∧ (∀ i, p0 ≤ i → i < p → bt s i = 32) ∧ (p < s.size → bt s p ≠ 32) ∧ e = .returned (.string (sx s p))) ∧ w = w' := by
  by_cases hlt : p0 < s.size
  · have TB := Lib.hid (trimB10 s p0 h0 hs)
    have us := sx_size s p0
    obtain ⟨hne, hne2⟩ := ne_nil (sx s p0) (by omega)
    have g32 : (((⟨#[32]⟩ : ByteArray)[0]'(by decide)).toNat : Int) = 32 := rfl
    clear us
    generalize sx s p0 = u at *
    go_enter Tryd.func36, Tryd.ntmps36
    go_wp2_with fail
    refine (TB.out _).mono ?_
    rintro e w' ⟨⟨p, h1, h2, h3, h4, rfl⟩, rfl⟩
    go_wp2
    go_ret
    exact ⟨⟨p, h1, h2, h3, h4, rfl⟩, rfl⟩
  · obtain rfl : p0 = s.size := by omega
    have E := Lib.hid (sx_all s)
    rw [E.out]
    go_enter Tryd.func36, Tryd.ntmps36
    go_wp2
    go_ret
    exact ⟨⟨s.size, Nat.le_refl _, Nat.le_refl _, (fun i h1 h2 => by omega), (fun h => by omega), (by rw [E.out]; first | done | rfl)⟩, rfl⟩

def isCut (s : ByteArray) (p q : Nat) : Prop := p ≤ q ∧ q ≤ s.size ∧ (∀ i, p ≤ i → i < q → bt s i ≠ 32) ∧ (q < s.size → bt s q = 32)

theorem bt_list (s : ByteArray) (p k : Nat) (h : p ≤ s.size) (b : UInt8) (hb : (sx s p).data.toList[k]? = some b) : p + k < s.size ∧ bt s (p + k) = (b.toNat : Int) := by
  obtain ⟨h1, h2⟩ := List.getElem?_eq_some_iff.1 hb
  have hk : k < (sx s p).size := by simpa using h1
  have hs := sx_size s p
  refine ⟨by omega, ?_⟩
  rw [← sx_get s p k hk, ← h2]
  rfl
theorem bt_list' (s : ByteArray) (p k : Nat) (hk : p + k < s.size) : ∃ b : UInt8, (sx s p).data.toList[k]? = some b ∧ bt s (p + k) = (b.toNat : Int) := by
  have hs := sx_size s p
  have h1 : k < (sx s p).data.toList.length := by
    rw [← Lib.size_eq]
    omega
  exact ⟨_, List.getElem?_eq_getElem h1, (bt_list s p k (by omega) _ (List.getElem?_eq_getElem h1)).2⟩
theorem idx_cases (s : ByteArray) (p : Nat) (hp : p ≤ s.size) : (Lib.indexByte (sx s p).data.toList 32 = -1 ∧ isCut s p s.size) ∨ ∃ k : Nat, Lib.indexByte (sx s p).data.toList 32 = (k : Int) ∧ p + k < s.size ∧ isCut s p (p + k) := by
  by_cases h : Lib.indexByte (sx s p).data.toList 32 = -1
  · refine .inl ⟨h, hp, Nat.le_refl _, fun i h1 h2 hc => ?_, fun h => by omega⟩
    obtain ⟨b, hb, he⟩ := bt_list' s p (i - p) (by omega)
    rw [show p + (i - p) = i by omega, hc] at he
    have : b = 32 := by
      apply UInt8.toNat_inj.1
      have : (32 : UInt8).toNat = 32 := rfl
      omega
    exact Lib.indexByte_none h _ (this ▸ hb)
  · have hge := Lib.indexByte_ge (sx s p).data.toList 32
    obtain ⟨k, hk⟩ : ∃ k : Nat, Lib.indexByte (sx s p).data.toList 32 = (k : Int) := ⟨(Lib.indexByte (sx s p).data.toList 32).toNat, by omega⟩
    obtain ⟨e1, e2⟩ := Lib.indexByte_some hk
    obtain ⟨h1, h2⟩ := bt_list s p k hp _ e1
    refine .inr ⟨k, hk, h1, by omega, by omega, fun i hi1 hi2 hc => ?_, fun _ => by rw [h2]; rfl⟩
    obtain ⟨b, hb, he⟩ := bt_list' s p (i - p) (by omega)
    rw [show p + (i - p) = i by omega, hc] at he
    have : b = 32 := by
      apply UInt8.toNat_inj.1
      have : (32 : UInt8).toNat = 32 := rfl
      omega
    exact e2 (i - p) (by omega) (this ▸ hb)

theorem index10 (u : ByteArray) (w : World) :
    Calls Tryd.prog 58 #[.string u, .string ⟨#[32]⟩] w fun e w' => e = .returned (.int .i64 (Lib.indexByte u.data.toList 32)) ∧ w = w' := by
  have hIB := @run_callFunc_extern Tryd.prog 76 _ (Extern.BytealgIndexByte.indexByte) Tryd.func76 (by kernel_rfl) (by kernel_rfl) (by kernel_rfl) (by kernel_rfl)
  have hR := fun w => Lib.run_indexByteString (P := Tryd.prog) u 32 w
  have g32 : (((⟨#[32]⟩ : ByteArray)[0]'(by decide)).toNat : Int) = 32 := rfl
  have e32 : (Int.toNat 32).toUInt8 = (32 : UInt8) := rfl
  simp only [e32] at hR
  by_cases he : u.toList = [32]
  · have hu : u = ⟨#[32]⟩ := by
      rw [Lib.toList_data] at he
      obtain ⟨⟨l⟩⟩ := u
      simp at he
      rw [he]
    subst hu
    have e0 : Lib.indexByte (⟨#[32]⟩ : ByteArray).data.toList 32 = 0 := by rfl
    rw [e0]
    clear hR
    go_enter Tryd.func58, Tryd.ntmps58
    go_wp2
    go_ret
    exact ⟨rfl, rfl⟩
  have hne : ([32] == u.toList) = false := by rw [beq_eq_false_iff_ne]; exact fun e => he e.symm
  clear he
  generalize Lib.indexByte u.data.toList 32 = k at *
  go_enter Tryd.func58, Tryd.ntmps58
  go_wp2_with go_in
  go_ret
  exact ⟨rfl, rfl⟩

theorem clone10 (s : ByteArray) (hlim : s.size ≤ 281474976710656) (w : World) :
    Calls Tryd.prog 50 #[.string s] w fun e w' => e = .returned (.string s) ∧ Below w.heap.size w w' := by
  by_cases h0 : s.size = 0
  · have hs : s = ⟨#[]⟩ := by
      apply ByteArray.ext
      exact Array.eq_empty_of_size_eq_zero h0
    subst hs
    go_enter Tryd.func50, Tryd.ntmps50
    go_wp2
    go_ret
    exact ⟨rfl, Below.refl _ _⟩
  · obtain ⟨i0, hi, hz0, hz1, hz2⟩ := info_parts (show (Tryd.prog.info? 5).map (fun i => (i.zero, i.size, i.bytes)) = some (some (.int .u8 0), 1, 1) by kernel_rfl)
    have hinf : (Tryd.prog.info? 5).map (·.size) = some 1 := by kernel_rfl
    have hco : Tryd.prog.cellsOf 5 = 1 := by kernel_rfl
    obtain ⟨M, hM⟩ : ∃ M, M = madeCells (Value.int .u8 0).cells (((s.size : Nat) : Int).toNat * i0.size) := ⟨_, rfl⟩
    have hMs : M.size = s.size := by rw [hM, size_madeCells, hz1]; simp
    have hmk : (Instr.makeSlice 84 (.int .i64 (s.size : Int)) (.int .i64 (s.size : Int))).run Tryd.prog w = .ok (.slice (some ⟨w.heap.size, 0, none⟩) s.size s.size) (w.alloc (.cells M 5)) := by
      have h := run_make (P := Tryd.prog) (w := w) 84 5 i0 (.int .u8 0) Tryd.underlying84 hi hz0 .i64 .i64 (s.size : Int) (s.size : Int) (by omega) (by omega) (by rw [hz2]; omega) (by omega)
      rw [← hM] at h
      simpa using h
    clear hM
    obtain ⟨V, hV⟩ : ∃ V, V = w.alloc (.cells M 5) := ⟨_, rfl⟩
    have hVg : V.heap[w.heap.size]? = some (.cells M 5 (0, 0)) := by rw [hV]; exact heap_alloc_new w _
    have hVb : Below w.heap.size w V := by rw [hV]; exact below_new w _
    rw [← hV] at hmk
    have hcp := Lib.run_copy_row_string (P := Tryd.prog) V 84 9 3 5 w.heap.size 0 s.size s.size s M 5 Tryd.underlying84 hinf hVg (Nat.le_refl _) (by omega)
    obtain ⟨Y, hY⟩ : ∃ Y, Y = (M.toList.take 0 ++ Lib.byteCells s.data.toList ++ M.toList.drop (0 + s.size)).toArray := ⟨_, rfl⟩
    rw [← hY] at hcp
    have hYl : Y.toList = Lib.byteCells s.data.toList := by
      rw [hY, List.toList_toArray, List.take_zero, List.nil_append, List.drop_of_length_le (by rw [Array.length_toList]; omega), List.append_nil]
    obtain ⟨U, hU⟩ : ∃ U, U = V.setRow w.heap.size Y := ⟨_, rfl⟩
    have hUg : U.heap[w.heap.size]? = some (.cells Y 5 (0, 0)) := by rw [hU]; exact setRow_heap _ _ M _ 5 (0, 0) hVg
    have hUb : Below w.heap.size w U := by rw [hU]; exact below_setRow hVb (Nat.le_refl _) _
    rw [← hU] at hcp
    have hYs : Y.size = s.size := by rw [← Array.length_toList, hYl, Lib.byteCells_length, ← Lib.size_eq]
    have hne : s.data.toList ≠ [] := fun e => h0 (by rw [Lib.size_eq, e]; rfl)
    have hUS := Lib.run_unsafeString_row (P := Tryd.prog) U 112 3 9 5 Tryd.underlying112 hco w.heap.size Y.size (by unfold World.shape?; rw [hUg]) s.data.toList hne (by rw [← Lib.size_eq]; omega) (by rw [← Lib.size_eq]; omega)
      (fun j x hx => Lib.cells_of_row hUg Y.size j _ (by rw [List.take_of_length_le (by rw [Array.length_toList]; exact Nat.le_refl _), hYl]; simp [Lib.byteCells, hx]))
    rw [← Lib.size_eq] at hUS
    have hn0 : ((s.size : Int) == 0) = false := by rw [beq_eq_false_iff_ne]; omega
    have hp0 : (0 : Int) < (s.size : Int) := by omega
    have HB := Lib.hid (Lib.below_freeze hUb (p := ⟨w.heap.size, 0, none⟩) (Nat.le_refl _) s.size)
    clear hY hYl hU hUg hUb hV hVg hVb hMs hYs hne
    go_enter Tryd.func50, Tryd.ntmps50
    go_wp2
    go_ret
    exact ⟨rfl, HB.out⟩
theorem sclone10 (s : ByteArray) (hlim : s.size ≤ 281474976710656) (w : World) :
    Calls Tryd.prog 38 #[.string s] w fun e w' => e = .returned (.string s) ∧ Below w.heap.size w w' := by
  have C := Lib.hid (clone10 s hlim)
  go_enter Tryd.func38, Tryd.ntmps38
  go_wp2_with fail
  refine (C.out _).mono ?_
  rintro e w' ⟨rfl, hb⟩
  go_wp2
  go_ret
  exact ⟨rfl, hb⟩

theorem cut10 (s : ByteArray) (p : Nat) (hp : p ≤ s.size) (hs : s.size ≤ 9223372036854775806) (w : World) :
    Calls Tryd.prog 49 #[.string (sx s p), .string ⟨#[32]⟩] w fun e w' => (∃ q r, isCut s p q ∧ (q < s.size ∧ r = sx s (q + 1) ∨ q = s.size ∧ r = ⟨#[]⟩) ∧ ∃ f, e = .returned (.tuple #[.string (s.extract p q), .string r, .bool f])) ∧ Below w.heap.size w w' := by
  have IX := Lib.hid (index10 (sx s p))
  have us := sx_size s p
  rcases idx_cases s p hp with ⟨hk, hc⟩ | ⟨k, hk, hlt, hc⟩
  · rw [hk] at IX
    have HC := Lib.hid hc
    have E : Hid (s.extract p s.size = sx s p) := Lib.hid rfl
    generalize sx s p = u at *
    clear hk hc us
    go_enter Tryd.func49, Tryd.ntmps49
    go_wp2_with fail
    refine (IX.out _).mono ?_
    rintro e w' ⟨rfl, rfl⟩
    go_wp2
    go_returns
    exact ⟨⟨s.size, _, HC.out, .inr ⟨rfl, rfl⟩, _, (by rw [E.out]; first | done | rfl)⟩, Below.refl _ _⟩
  · rw [hk] at IX
    have HC := Lib.hid hc
    have E1 := Lib.hid (show (sx s p).extract 0 k = s.extract p (p + k) from sx_ext s p 0 k (by omega))
    have E2 := Lib.hid (show (sx s p).extract (k + 1) (sx s p).size = sx s (p + k + 1) from sx_step s p (k + 1) (by omega))
    have hk1 : (k : Int) + 1 ≤ ((sx s p).size : Int) := by omega
    have hk2 : (k : Int) ≤ ((sx s p).size : Int) := by omega
    have hk3 : k ≤ (sx s p).size := by omega
    have hk4 : k + 1 ≤ (sx s p).size := by omega
    have wk : IntKind.i64.wrap ((k : Int) + 1) = ((k + 1 : Nat) : Int) := by rw [IntWalk.i64_in _ (by omega)]; omega
    generalize sx s p = u at *
    have HL := Lib.hid hlt
    clear hk hc us hlt
    go_enter Tryd.func49, Tryd.ntmps49
    go_wp2_with fail
    refine (IX.out _).mono ?_
    rintro e w' ⟨rfl, rfl⟩
    go_wp2_with fail
    go_quiet (fail)
    go_wp2
    go_returns
    exact ⟨⟨p + k, _, HC.out, .inl ⟨HL.out, rfl⟩, _, (by rw [E1.out, E2.out]; first | done | rfl)⟩, below_drewN (Below.refl _ _) _⟩

end Go.Proofs.YtckapndpefkcgaaDoor
