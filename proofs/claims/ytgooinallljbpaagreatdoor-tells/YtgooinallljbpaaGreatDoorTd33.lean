import Derived.Test.YtgooinallljbpaaGreatDoorTd32
set_option maxRecDepth 100000
set_option maxHeartbeats 6400000
namespace Go.Proofs.YtgooinallljbpaaGreatDoor
open Go.RowKit Px
set_option linter.unusedSimpArgs false
set_option linter.unusedVariables false
theorem xb (b o n:Nat) (c:Nat->Value) (s:Rd) (w:World) (hB:Blk w b n c) (hV:RdV c o s) (hn:o+5954<=n) :
  Calls Tryz.prog 25 #[.pointer (some ⟨b,o,none⟩)] w fun e w'=>e = .returned (.bool (decide (s.part=5)))/\w'=w:=by
 have k0:=hB.at (i:=o) (by omega) hV.part;clear hB hV;go_enter Tryz.func25,Tryz.ntmps25;go_wp2;go_ret;exact ⟨bj (by rw[Bool.eq_iff_iff,beq_iff_eq,decide_eq_true_iff];omega),rfl⟩
