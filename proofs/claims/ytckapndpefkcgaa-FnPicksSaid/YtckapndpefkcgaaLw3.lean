/-
  The laws' own small functions: lwNotes of two lists that read alike; lwAt: a place below a number. For codes of at most 2^20 bytes.
-/
import Derived.Test.YtckapndpefkcgaaDraw1d
set_option maxHeartbeats 1000000
namespace Go.Proofs.Ytckapndpefkcgaa
open Go.RowKit
set_option maxRecDepth 100000

def AtD (m : Nat) (w : World) (e : Ending) (w' : World) : Prop := ∃ r : Nat, e = .returned (.int .i64 (r : Int)) ∧ r < m ∧ Below w.heap.size w w'
theorem lwAt_any (lo hi : Nat) (A : Option Addr) (k c : Nat) (b : Nat → Int) (a m : Nat) (w : World) (hk : k ≤ 1048576) (ha : a ≤ 1000) (hm0 : 1 ≤ m) (hm : m ≤ 1048576)
    (hb : ∀ j, 0 ≤ b j ∧ b j ≤ 255) (h : Sl w lo hi A k (fun j => .int .u8 (b j))) :
    Calls Try.prog 51 #[.slice A k c, .int .i64 (a : Int), .int .i64 (m : Int)] w (AtD m w) := by
  have H := Lib.hid h
  have HB := Lib.hid hb
  clear h hb
  have FIN : ∀ (y : Int) (wq : World) (nq : Nat), 0 ≤ y → wq = w.drewN nq → AtD m w (.returned (.int .i64 (y % (m : Int)))) wq := by
    intro y wq nq hy hwq
    subst hwq
    have h1 : 0 ≤ y % (m : Int) := Int.emod_nonneg _ (by omega)
    have h2 : y % (m : Int) < m := Int.emod_lt_of_pos _ (by omega)
    exact ⟨(y % (m : Int)).toNat, by rw [Int.toNat_of_nonneg h1], by omega, below_drewN (Below.refl _ _) nq⟩
  have HFIN := Lib.hid FIN
  clear FIN
  by_cases hm1 : m ≤ 1
  · have hm1 : (m : Int) ≤ 1 := by omega
    go_enter Try.func51, Try.ntmps51
    go_wp2
    go_ret
    exact ⟨0, rfl, by omega, Below.refl _ _⟩
  by_cases hk0 : k = 0
  · subst hk0
    go_enter Try.func51, Try.ntmps51
    go_wp2
    go_ret
    exact HFIN.out ((a : Int) * 7) _ 0 (by omega) rfl
  · obtain ⟨x, off, rfl, hx1, hx2, hc⟩ := H.out.at_ (show 0 < k by omega)
    have hc' : Hid (∀ j, j < k → w.cell? ⟨x, off + j, none⟩ = some (.int .u8 (b j))) := fun j hj => hc j hj
    clear hc
    have hkp : 0 < k := by omega
    obtain ⟨r1, hr1, hr1k⟩ : ∃ r1, a % k = r1 ∧ r1 < k := ⟨_, rfl, Nat.mod_lt _ hkp⟩
    obtain ⟨u1, hu1, hu1a⟩ : ∃ u1, a / k = u1 ∧ u1 ≤ a := ⟨_, rfl, Nat.div_le_self _ _⟩
    have t1 : (a : Int).tmod (k : Int) = (r1 : Int) := by rw [← hr1]; rfl
    have t2 : (a : Int).tdiv (k : Int) = (u1 : Int) := by rw [← hu1]; rfl
    have t1' : (a : Int) % (k : Int) = (r1 : Int) := by rw [← hr1]; rfl
    have t2' : (a : Int) / (k : Int) = (u1 : Int) := by rw [← hu1]; rfl
    have hck := hc'.out r1 hr1k
    obtain ⟨hb1, hb2⟩ := HB.out r1
    generalize hbv : b r1 = bv at *
    have t3 : IntKind.i64.wrap (u1 : Int) = u1 := IntWalk.i64_in _ (by omega)
    have t4 : IntKind.i64.wrap ((u1 : Int) * 3) = (u1 : Int) * 3 := IntWalk.i64_in _ (by omega)
    have t5 : IntKind.i64.wrap (bv + (u1 : Int) * 3) = bv + (u1 : Int) * 3 := IntWalk.i64_in _ (by omega)
    have t6 : IntKind.i64.wrap bv = bv := IntWalk.i64_in _ (by omega)
    have hri : (r1 : Int) < (k : Int) := by omega
    have HR := Lib.hid hr1
    have HU := Lib.hid hu1
    have HV := Lib.hid hbv
    clear hr1 hu1 hbv
    by_cases h200 : m ≤ 200
    · go_enter Try.func51, Try.ntmps51
      go_wp2_with fail
      go_quiet (fail)
      clear t1 t2 t1' t2' t3 t4 t5 t6
      go_wp2
      go_ret
      exact HFIN.out _ _ _ (by omega) rfl
    · have HT := Lib.hid t1
      obtain ⟨r3, hr3, hr3k⟩ : ∃ r3, (a + 1) % k = r3 ∧ r3 < k := ⟨_, rfl, Nat.mod_lt _ hkp⟩
      have e3 : ((a + 1 : Nat) : Int) = (a : Int) + 1 := by omega
      have m3 : ((a : Int) + 1).tmod (k : Int) = (r3 : Int) := by rw [← hr3, ← e3]; rfl
      have m3' : ((a : Int) + 1) % (k : Int) = (r3 : Int) := by rw [← hr3, ← e3]; rfl
      have hck3 := hc'.out r3 hr3k
      obtain ⟨hb31, hb32⟩ := HB.out r3
      generalize hbv3 : b r3 = bv3 at *
      have w3 : IntKind.i64.wrap ((a : Int) + 1) = (a : Int) + 1 := IntWalk.i64_in _ (by omega)
      have hri3 : (r3 : Int) < (k : Int) := by omega
      have HR3 := Lib.hid hr3
      have HV3 := Lib.hid hbv3
      clear hr3 hbv3 e3
      have y1 : IntKind.i64.wrap ((bv + (u1 : Int) * 3) * 251) = (bv + (u1 : Int) * 3) * 251 := IntWalk.i64_in _ (by omega)
      have y2b : IntKind.i64.wrap (bv3) = bv3 := IntWalk.i64_in _ (by omega)
      have y3 : IntKind.i64.wrap ((bv + (u1 : Int) * 3) * 251 + bv3) = (bv + (u1 : Int) * 3) * 251 + bv3 := IntWalk.i64_in _ (by omega)
      go_enter Try.func51, Try.ntmps51
      go_wp2_with fail
      go_quiet (fail)
      go_wp2
      go_ret
      exact HFIN.out _ _ _ (by omega) rfl
end Go.Proofs.Ytckapndpefkcgaa
