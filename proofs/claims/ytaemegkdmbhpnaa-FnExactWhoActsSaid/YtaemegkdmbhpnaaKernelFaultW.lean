/-
  The walk of FnExactKernelFault: whatever the kernel that came in, it returns true, where the program's KernelFault answers as the model's.
-/
import Derived.Test.YtaemegkdmbhpnaaKit3c
import Derived.Test.YtaemegkdmbhpnaaSpec3c
namespace Go.Proofs.Ytaemegkdmbhpnaa
open Go.RowKit
set_option maxRecDepth 100000

/-- a kernel copied into rows reads as it did -/
theorem kread_rows {w : World} {u1 u2 u3 n1 n2 n3 : Nat} {K : Ker} (hl : K.os.length = n1 ∧ K.al.length = n2 ∧ K.ac.length = n3 * 4) (r1 : Row w u1 0 2 n1 (fun k => .int .i64 (gi K.os k))) (r2 : Row w u2 0 4 n2 (fun k => .bool (gb K.al k)))
    (r3 : Row w u3 0 190 (n3 * 4) (fun k => .int .i64 (gi K.ac k))) {lo hi : Nat} (a1 : lo ≤ u1 ∧ u1 < hi) (a2 : lo ≤ u2 ∧ u2 < hi) (a3 : lo ≤ u3 ∧ u3 < hi) :
    KRead w lo hi (some ⟨u1, 0, none⟩) n1 (some ⟨u2, 0, none⟩) n2 (some ⟨u3, 0, none⟩) n3 K := ⟨hl, r1.sl a1.1 a1.2, r2.sl a2.1 a2.2, r3.sl a3.1 a3.2⟩

end Go.Proofs.Ytaemegkdmbhpnaa
