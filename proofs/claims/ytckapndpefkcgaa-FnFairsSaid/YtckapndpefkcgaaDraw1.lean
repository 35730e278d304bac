/-
  How the model's draws read a code's bytes: l1Source, l1Later, l1Next, l1Pick, l1Chance, l1Draw: each returns, writes nothing but its own source, and hands back numbers in their bounds. For codes of at most 2^20 bytes.
-/
import Derived.Test.YtckapndpefkcgaaSpec1
set_option maxHeartbeats 1000000
namespace Go.Proofs.Ytckapndpefkcgaa
open Go.RowKit

def Src (w : World) (g : Nat) (A : Option Addr) (k c a : Nat) : Prop := w.heap[g]? = some (.cells #[.slice A k c, .int .i64 (a : Int)] 125 (0, 0))

theorem l1Source_any (A : Option Addr) (k c : Nat) (w : World) :
    Calls Try.prog 52 #[.slice A k c] w fun e w' => e = .returned (.pointer (some ⟨w.heap.size, 0, none⟩)) ∧ Src w' w.heap.size A k c 0 ∧ Below w.heap.size w w' := by
  go_enter Try.func52, Try.ntmps52
  go_wp2
  go_ret
  exact ⟨rfl, heap_alloc_new w _, below_new w _⟩

def Nexted (g : Nat) (A : Option Addr) (k c a : Nat) (n : Int) (w : World) (e : Ending) (w' : World) : Prop :=
  ∃ r : Nat, e = .returned (.int .i64 (r : Int)) ∧ (1 ≤ n → (r : Int) < n) ∧ (n < 1 → r = 0) ∧ Src w' g A k c (a + 1) ∧ Only g (g + 1) w w'

theorem l1Next_any (lo hi g : Nat) (A : Option Addr) (k c a : Nat) (n : Int) (b : Nat → Int) (w : World) (hn : -9223372036854775808 ≤ n ∧ n ≤ 9223372036854775807) (hk : k ≤ 1048576) (ha : a ≤ 1099511627776)
    (hb : ∀ j, 0 ≤ b j ∧ b j ≤ 255) (h : Sl w lo hi A k (fun j => .int .u8 (b j))) (hg : hi ≤ g) (hs : Src w g A k c a) :
    Calls Try.prog 55 #[.pointer (some ⟨g, 0, none⟩), .int .i64 n] w (Nexted g A k c a n w) := by
  have H := Lib.hid h
  have HB := Lib.hid hb
  clear h hb
  have q0 := cell_of_row w g 0 _ _ _ hs
  have q1 := cell_of_row w g 1 _ _ _ hs
  have f1 := frozen_of_row w g 1 _ _ hs
  have hgs : g < w.heap.size := (Array.getElem?_eq_some_iff.1 hs).1
  have HN : Hid (Src (w.setCell ⟨g, 1, none⟩ (.int .i64 ((a : Int) + 1))) g A k c (a + 1)) := by
    have := heap_setCell_same w g 1 _ _ (.int .i64 ((a : Int) + 1)) hs
    have e1 : ((a + 1 : Nat) : Int) = (a : Int) + 1 := by omega
    show _ = _
    rw [e1]
    exact this
  have HO : Hid (Only g (g + 1) w (w.setCell ⟨g, 1, none⟩ (.int .i64 ((a : Int) + 1)))) := Only.setCell (p := ⟨g, 1, none⟩) (Only.refl g (g + 1) w) (Nat.le_refl _) (Nat.lt_succ_self _) _
  clear hs
  simp at q0 q1
  by_cases h1 : n < 1
  · go_enter Try.func55, Try.ntmps55
    go_wp2
    go_ret
    exact ⟨0, rfl, fun h => by omega, fun _ => rfl, HN.out, HO.out⟩
  obtain ⟨m, rfl⟩ : ∃ m : Nat, n = (m : Int) := ⟨n.toNat, by omega⟩
  have hm1 : 1 ≤ m := by omega
  have FIN : ∀ (y : Int) (wq : World) (nq : Nat), 0 ≤ y → wq = (w.setCell ⟨g, 1, none⟩ (.int .i64 ((a : Int) + 1))).drewN nq →
      Nexted g A k c a (m : Int) w (.returned (.int .i64 (y % (m : Int)))) wq := by
    intro y wq nq hy hwq
    subst hwq
    have h1 : 0 ≤ y % (m : Int) := Int.emod_nonneg _ (by omega)
    have h2 : y % (m : Int) < m := Int.emod_lt_of_pos _ (by omega)
    exact ⟨(y % (m : Int)).toNat, by rw [Int.toNat_of_nonneg h1], fun _ => by omega, fun h => by omega, HN.out, below_drewN HO.out.1 nq, HO.out.2⟩
  have HFIN := Lib.hid FIN
  clear FIN
  by_cases hk0 : k = 0
  · subst hk0
    go_enter Try.func55, Try.ntmps55
    go_wp2
    go_ret
    exact HFIN.out ((a : Int) * 7) _ 0 (by omega) rfl
  · obtain ⟨x, off, rfl, hx1, hx2, hc⟩ := H.out.at_ (show 0 < k by omega)
    have hc' : Hid (∀ j, j < k → (w.setCell ⟨g, 1, none⟩ (.int .i64 ((a : Int) + 1))).cell? ⟨x, off + j, none⟩ = some (.int .u8 (b j))) := fun j hj =>
      (HO.out.1.cell (p := ⟨x, off + j, none⟩) (by simp; omega)).trans (hc j hj)
    clear hc
    have hkp : 0 < k := by omega
    obtain ⟨r1, hr1, hr1k⟩ : ∃ r1, a % k = r1 ∧ r1 < k := ⟨_, rfl, Nat.mod_lt _ hkp⟩
    obtain ⟨u1, hu1, hu1a⟩ : ∃ u1, a / k = u1 ∧ u1 ≤ a := ⟨_, rfl, Nat.div_le_self _ _⟩
    have t1 : (a : Int).tmod (k : Int) = (r1 : Int) := by rw [← hr1]; rfl
    have t2 : (a : Int).tdiv (k : Int) = (u1 : Int) := by rw [← hu1]; rfl
    have t1' : (a : Int) % (k : Int) = (r1 : Int) := by rw [← hr1]; rfl
    have t2' : (a : Int) / (k : Int) = (u1 : Int) := by rw [← hu1]; rfl
    have hck := hc'.out r1 hr1k
    obtain ⟨hb1, hb2⟩ := HB.out r1
    generalize hbv : b r1 = bv at *
    have t3 : IntKind.i64.wrap (u1 : Int) = u1 := IntWalk.i64_in _ (by omega)
    have t4 : IntKind.i64.wrap ((u1 : Int) * 37) = (u1 : Int) * 37 := IntWalk.i64_in _ (by omega)
    have t5 : IntKind.i64.wrap (bv + (u1 : Int) * 37) = bv + (u1 : Int) * 37 := IntWalk.i64_in _ (by omega)
    have t6 : IntKind.i64.wrap bv = bv := IntWalk.i64_in _ (by omega)
    have hri : (r1 : Int) < (k : Int) := by omega
    have HR := Lib.hid hr1
    have HU := Lib.hid hu1
    have HV := Lib.hid hbv
    clear hr1 hu1 hbv
    by_cases h200 : m ≤ 200
    · go_enter Try.func55, Try.ntmps55
      go_wp2_with fail
      go_quiet (fail)
      clear t1 t2 t1' t2' t3 t4 t5 t6
      go_wp2
      go_ret
      exact HFIN.out _ _ _ (by omega) rfl
    by_cases h60 : m ≤ 60000
    · have HT := Lib.hid t1
      obtain ⟨r3, hr3, hr3k⟩ : ∃ r3, (a + 1) % k = r3 ∧ r3 < k := ⟨_, rfl, Nat.mod_lt _ hkp⟩
      have e3 : ((a + 1 : Nat) : Int) = (a : Int) + 1 := by omega
      have m3 : ((a : Int) + 1).tmod (k : Int) = (r3 : Int) := by rw [← hr3, ← e3]; rfl
      have m3' : ((a : Int) + 1) % (k : Int) = (r3 : Int) := by rw [← hr3, ← e3]; rfl
      have hck3 := hc'.out r3 hr3k
      obtain ⟨hb31, hb32⟩ := HB.out r3
      generalize hbv3 : b r3 = bv3 at *
      have w3 : IntKind.i64.wrap ((a : Int) + 1) = (a : Int) + 1 := IntWalk.i64_in _ (by omega)
      have hri3 : (r3 : Int) < (k : Int) := by omega
      have HR3 := Lib.hid hr3
      have HV3 := Lib.hid hbv3
      clear hr3 hbv3 e3
      have y1 : IntKind.i64.wrap ((bv + (u1 : Int) * 37) * 251) = (bv + (u1 : Int) * 37) * 251 := IntWalk.i64_in _ (by omega)
      have y2 : IntKind.i64.wrap (bv3 * 13) = bv3 * 13 := IntWalk.i64_in _ (by omega)
      have y2b : IntKind.i64.wrap (bv3) = bv3 := IntWalk.i64_in _ (by omega)
      have y3 : IntKind.i64.wrap ((bv + (u1 : Int) * 37) * 251 + bv3 * 13) = (bv + (u1 : Int) * 37) * 251 + bv3 * 13 := IntWalk.i64_in _ (by omega)
      have y4 : IntKind.i64.wrap ((bv + (u1 : Int) * 37) * 251 + bv3 * 13 + (a : Int)) = (bv + (u1 : Int) * 37) * 251 + bv3 * 13 + (a : Int) := IntWalk.i64_in _ (by omega)
      go_enter Try.func55, Try.ntmps55
      go_wp2_with fail
      go_quiet (fail)
      go_wp2_with fail
      go_quiet (fail)
      clear t1 t2 t1' t2' t3 t4 t5 t6 m3 m3' w3 y1 y2 y2b y3 y4
      go_wp2
      go_ret
      exact HFIN.out _ _ _ (by omega) rfl
    · have HT := Lib.hid t1
      obtain ⟨r3, hr3, hr3k⟩ : ∃ r3, (a + 1) % k = r3 ∧ r3 < k := ⟨_, rfl, Nat.mod_lt _ hkp⟩
      have e3 : ((a + 1 : Nat) : Int) = (a : Int) + 1 := by omega
      have m3 : ((a : Int) + 1).tmod (k : Int) = (r3 : Int) := by rw [← hr3, ← e3]; rfl
      have m3' : ((a : Int) + 1) % (k : Int) = (r3 : Int) := by rw [← hr3, ← e3]; rfl
      have hck3 := hc'.out r3 hr3k
      obtain ⟨hb31, hb32⟩ := HB.out r3
      generalize hbv3 : b r3 = bv3 at *
      have w3 : IntKind.i64.wrap ((a : Int) + 1) = (a : Int) + 1 := IntWalk.i64_in _ (by omega)
      have hri3 : (r3 : Int) < (k : Int) := by omega
      have HR3 := Lib.hid hr3
      have HV3 := Lib.hid hbv3
      clear hr3 hbv3 e3
      obtain ⟨r2, hr2, hr2k⟩ : ∃ r2, (a + 2) % k = r2 ∧ r2 < k := ⟨_, rfl, Nat.mod_lt _ hkp⟩
      have e2 : ((a + 2 : Nat) : Int) = (a : Int) + 2 := by omega
      have m2 : ((a : Int) + 2).tmod (k : Int) = (r2 : Int) := by rw [← hr2, ← e2]; rfl
      have m2' : ((a : Int) + 2) % (k : Int) = (r2 : Int) := by rw [← hr2, ← e2]; rfl
      have hck2 := hc'.out r2 hr2k
      obtain ⟨hb21, hb22⟩ := HB.out r2
      generalize hbv2 : b r2 = bv2 at *
      have w2 : IntKind.i64.wrap ((a : Int) + 2) = (a : Int) + 2 := IntWalk.i64_in _ (by omega)
      have hri2 : (r2 : Int) < (k : Int) := by omega
      have HR2 := Lib.hid hr2
      have HV2 := Lib.hid hbv2
      clear hr2 hbv2 e2
      have y1 : IntKind.i64.wrap ((bv + (u1 : Int) * 37) * 251) = (bv + (u1 : Int) * 37) * 251 := IntWalk.i64_in _ (by omega)
      have y2 : IntKind.i64.wrap (bv3 * 13) = bv3 * 13 := IntWalk.i64_in _ (by omega)
      have y2b : IntKind.i64.wrap (bv3) = bv3 := IntWalk.i64_in _ (by omega)
      have y3 : IntKind.i64.wrap ((bv + (u1 : Int) * 37) * 251 + bv3 * 13) = (bv + (u1 : Int) * 37) * 251 + bv3 * 13 := IntWalk.i64_in _ (by omega)
      have y4 : IntKind.i64.wrap ((bv + (u1 : Int) * 37) * 251 + bv3 * 13 + (a : Int)) = (bv + (u1 : Int) * 37) * 251 + bv3 * 13 + (a : Int) := IntWalk.i64_in _ (by omega)
      have y5 : IntKind.i64.wrap (((bv + (u1 : Int) * 37) * 251 + bv3 * 13 + (a : Int)) * 257) = ((bv + (u1 : Int) * 37) * 251 + bv3 * 13 + (a : Int)) * 257 := IntWalk.i64_in _ (by omega)
      have y6 : IntKind.i64.wrap (bv2) = bv2 := IntWalk.i64_in _ (by omega)
      have y7 : IntKind.i64.wrap (((bv + (u1 : Int) * 37) * 251 + bv3 * 13 + (a : Int)) * 257 + bv2) = ((bv + (u1 : Int) * 37) * 251 + bv3 * 13 + (a : Int)) * 257 + bv2 := IntWalk.i64_in _ (by omega)
      go_enter Try.func55, Try.ntmps55
      go_wp2_with fail
      go_quiet (fail)
      go_wp2_with fail
      go_quiet (fail)
      go_wp2_with fail
      go_quiet (fail)
      clear t1 t2 t1' t2' t3 t4 t5 t6 m3 m3' w3 y1 y2 y2b y3 y4 m2 m2' w2 y5 y6 y7
      go_wp2
      go_ret
      exact HFIN.out _ _ _ (by omega) rfl

theorem Only.grownBy {g : Nat} {w w' : World} (h : Only g (g + 1) w w') : w.grownBy w' (some g) :=
  ⟨h.1.os, h.1.tape, h.1.output, h.1.size, fun b hb hne => by
    have hbg : b ≠ g := fun e => hne (by rw [e])
    rcases Nat.lt_or_ge b g with h' | h'
    · exact h.1.block b h'
    · exact h.2 b (by omega) hb⟩
theorem Only.grown {lo hi : Nat} {w a b : World} {row : Option Nat} (h : Only lo hi w a) (hg : a.grownBy b row) (hlo : lo ≤ w.heap.size) (hr : ∀ k, row = some k → w.heap.size ≤ k) : Only lo hi w b := by
  have hs := h.1.size
  refine ⟨h.1.grown hg (by omega) (fun k hk => by have := hr k hk; omega), fun i hi' hs' => (hg.block i (by omega) (fun e => by have := hr i e.symm; omega)).trans (h.2 i hi' hs')⟩
theorem Only.alloc {lo hi : Nat} {w a : World} (h : Only lo hi w a) (hlo : lo ≤ w.heap.size) (o : Obj) : Only lo hi w (a.alloc o) :=
  ⟨h.1.alloc (by have := h.1.size; omega) o, fun i hi' hs' => (Below.heap_alloc a o i (by have := h.1.size; omega)).trans (h.2 i hi' hs')⟩
theorem Src.alloc {w : World} {g : Nat} {A : Option Addr} {k c a : Nat} (h : Src w g A k c a) (o : Obj) : Src (w.alloc o) g A k c a :=
  (Below.heap_alloc w o g (Array.getElem?_eq_some_iff.1 h).1).trans h
theorem Src.lt {w : World} {g : Nat} {A : Option Addr} {k c a : Nat} (h : Src w g A k c a) : g < w.heap.size := (Array.getElem?_eq_some_iff.1 h).1
theorem Src.below {w w' : World} {g : Nat} {A : Option Addr} {k c a : Nat} (h : Src w g A k c a) (hb : Below w.heap.size w w') : Src w' g A k c a := (hb.block g h.lt).trans h
theorem Src.grown {w w' : World} {g : Nat} {A : Option Addr} {k c a : Nat} {row : Option Nat} (h : Src w g A k c a) (hb : w.grownBy w' row) (hr : ∀ k, row = some k → k ≠ g) : Src w' g A k c a :=
  (hb.block g h.lt (fun e => hr g e.symm rfl)).trans h
def Picked (g : Nat) (A : Option Addr) (k c a : Nat) (xs : List Int) (w : World) (e : Ending) (w' : World) : Prop :=
  ∃ r, r < xs.length ∧ e = .returned (.int .i64 (gi xs r)) ∧ Src w' g A k c (a + 1) ∧ Only g (g + 1) w w'

theorem l1Pick_any (lo hi g lo2 hi2 : Nat) (A A2 : Option Addr) (k c a n c2 : Nat) (b : Nat → Int) (xs : List Int) (w : World) (hk : k ≤ 1048576) (ha : a ≤ 1099511627776)
    (hb : ∀ j, 0 ≤ b j ∧ b j ≤ 255) (h : Sl w lo hi A k (fun j => .int .u8 (b j))) (hg : hi ≤ g) (hs : Src w g A k c a)
    (ex : xs.length = n) (hn1 : 1 ≤ n) (hn2 : n ≤ 1048576) (h2 : Sl w lo2 hi2 A2 n (fun j => .int .i64 (gi xs j))) (hg2 : g < lo2) (hh2 : hi2 ≤ w.heap.size) :
    Calls Try.prog 56 #[.pointer (some ⟨g, 0, none⟩), .slice A2 n c2] w (Picked g A k c a xs w) := by
  have C := Lib.hid (l1Next_any lo hi g A k c a (n : Int) b w (by omega) hk ha hb h hg hs)
  have EX := Lib.hid ex
  have H2 := Lib.hid h2
  clear h hb ex h2 hs
  go_enter Try.func56, Try.ntmps56
  go_wp2_with fail
  refine C.out.mono ?_
  rintro e w1 ⟨r, rfl, hr, _, hs1, ho1⟩
  have hrn : r < n := by have := hr (by omega); omega
  have HS1 := Lib.hid hs1
  have HO1 := Lib.hid ho1
  obtain ⟨x, off, rfl, hx1, hx2, hc⟩ := H2.out.at_ hrn
  have hck := (ho1.2 x (by omega) (by omega)) 
  have hcell : w1.cell? ⟨x, off + r, none⟩ = some (.int .i64 (gi xs r)) := (World.cell?_of_block hck).trans (hc r hrn)
  clear hr hs1 ho1 C hc hck
  go_wp2
  go_ret
  exact ⟨r, by rw [EX.out]; exact hrn, rfl, HS1.out, HO1.out⟩

def Chanced (g : Nat) (A : Option Addr) (k c a : Nat) (w : World) (e : Ending) (w' : World) : Prop :=
  ∃ y : Bool, e = .returned (.bool y) ∧ Src w' g A k c (a + 1) ∧ Only g (g + 1) w w'

theorem l1Chance_any (lo hi g : Nat) (A : Option Addr) (k c a : Nat) (n : Int) (b : Nat → Int) (w : World) (hn : -9223372036854775808 ≤ n ∧ n ≤ 9223372036854775807) (hk : k ≤ 1048576) (ha : a ≤ 1099511627776)
    (hb : ∀ j, 0 ≤ b j ∧ b j ≤ 255) (h : Sl w lo hi A k (fun j => .int .u8 (b j))) (hg : hi ≤ g) (hs : Src w g A k c a) :
    Calls Try.prog 62 #[.pointer (some ⟨g, 0, none⟩), .int .i64 n] w (Chanced g A k c a w) := by
  have C := Lib.hid (l1Next_any lo hi g A k c a n b w hn hk ha hb h hg hs)
  clear h hb hs
  go_enter Try.func62, Try.ntmps62
  go_wp2_with fail
  refine C.out.mono ?_
  rintro e w1 ⟨r, rfl, _, _, hs1, ho1⟩
  have HS1 := Lib.hid hs1
  have HO1 := Lib.hid ho1
  clear hs1 ho1 C
  go_wp2
  go_ret
  exact ⟨_, rfl, HS1.out, HO1.out⟩

end Go.Proofs.Ytckapndpefkcgaa
