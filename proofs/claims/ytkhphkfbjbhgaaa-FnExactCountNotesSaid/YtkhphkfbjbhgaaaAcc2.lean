/-
  The laws' helpers on accounts, and the model's functions of chapter 2: what each answers, for every account. No conditions.
-/
import Derived.Test.YtkhphkfbjbhgaaaMath2
import Derived.Test.YtkhphkfbjbhgaaaSpec1
namespace Go.Proofs.Ytkhphkfbjbhgaaa
open Go.RowKit

end Go.Proofs.Ytkhphkfbjbhgaaa
