import Derived.Test.YtmbmecfodigciaaGreatDoorTu17
namespace Go.Proofs.YtmbmecfodigciaaGreatDoor
open Go.RowKit
set_option linter.unusedSimpArgs false
set_option linter.unusedVariables false
theorem within_le {f s n:Nat} (hn:n<=16):within f s n<=16:=by
 unfold within
 split
 ·omega
 ·have:(n - f - 1) / s<=n - f - 1:=Nat.div_le_self _ _
  omega
