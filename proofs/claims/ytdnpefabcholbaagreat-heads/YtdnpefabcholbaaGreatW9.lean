import Derived.Test.YtdnpefabcholbaaGreatW7
import Derived.Handy
set_option linter.unusedSimpArgs false
set_option linter.unusedVariables false
namespace Go.Proofs.YtdnpefabcholbaaGreat
open Go.RowKit

theorem or8 (a c : Nat) (ha : a < 256) (hc : c < 256) : bits BinOp.or IntKind.u32 ((a : Int) * 256) (c : Int) = ((a * 256 + c : Nat) : Int) := by
  rw [show (a : Int) * 256 = ((a * 256 : Nat) : Int) from by omega, u32_or_nat _ _ (by omega) (by omega), nat_join 8 (a * 256) c (by omega) (by omega)]

set_option maxHeartbeats 800000 in
theorem clearSample_any (b : Nat) (s : Px.Rd) (i : Nat) (w : World) (h : RdAt w b s) (ho : RdOk s) (hi : i < 4) :
    Calls Tryz.prog 102 #[.pointer (some ⟨b, 0, none⟩), .int .i64 (i : Int)] w fun e w' => e = .returned (.int .u32 ((s.clear (2 * i) * 256 + s.clear (2 * i + 1) : Nat) : Int)) ∧ ∃ n, w' = w.drewN n := by
  have r0 := h.clr (2 * i) (by omega)
  have r1 := h.clr (2 * i + 1) (by omega)
  have k0 := ho.clear (2 * i)
  have k1 := ho.clear (2 * i + 1)
  have hi' : (i : Int) < 4 := by omega
  have e5 : Hid (_ = _) := or8 _ _ k0 k1
  clear h ho
  go_enter Tryz.func102, Tryz.ntmps102
  go_wp2
  go_quiet (fail)
  go_wp2
  go_ret
  exact ⟨ret_int e5.out, _, rfl⟩
end Go.Proofs.YtdnpefabcholbaaGreat
