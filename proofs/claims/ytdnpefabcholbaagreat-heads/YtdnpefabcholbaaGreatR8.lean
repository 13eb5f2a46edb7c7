import Derived.Test.YtdnpefabcholbaaGreatR3
namespace Go.Proofs.YtdnpefabcholbaaGreat
open Go.RowKit
set_option linter.unusedSimpArgs false
set_option linter.unusedVariables false

theorem info3R : (Tryz.prog.info? 3).map (fun i => (i.zero, i.size, i.bytes)) = some (some (.int .i64 0), 1, 8) := by kernel_rfl

set_option maxHeartbeats 800000 in
theorem bytes_any (t : ByteArray) (w : World) (hs : t.size ≤ 1048576) :
    Calls Tryz.prog 94 #[.string t] w fun e w' => (∃ a c, e = .returned (.slice a t.size c)) ∧ Kept w w' := by
  obtain ⟨i0, hi, hz0, hz1, hz2⟩ := info_parts info3R
  go_enter Tryz.func94, Tryz.ntmps94
  go_wp2
  go_loopw [3, 4] (fun v j W => ∃ k : Nat, k ≤ t.size ∧ j = .int .i64 (k : Int) ∧ (∃ xs, W.ownsRow w.heap.size 3 1 v k xs) ∧ Kept w W) (fun _ j _ => t.size - (intOf j).toNat)
  case atStart => exact ⟨0, by omega, rfl, ⟨[], World.ownsRow_nil _ _ _ _⟩, Kept.refl _⟩
  case round =>
    obtain ⟨k, hk, rfl, ⟨xs, hown⟩, hkw⟩ := hrel
    by_cases hlt : k < t.size
    · have hsz := hkw.size
      have hx : t[k].toNat < 256 := t[k].toNat_lt
      go_wp2_with (at_builtin; refine wpList_append_own _ rfl _ _ 30 rfl w.heap.size 3 i0 (.int .i64 0) 1 8 Tryz.underlying30 hi hz0 hz1 hz2 rfl (by decide) _ _ _ rfl (hown.alloc _) ⟨wr.heap.size, 0, none⟩ 1 1 [.int .i64 (t[k].toNat : Int)] rfl rfl ?c1 ?c2 ?c3 ?c4 ?c5 ?_)
      case c1 =>
        intro j u hj
        match j, hj with
        | 0, hj => simp at hj; subst hj; simp [Addr.add]
      case c2 => intro u hu; simp at hu; subst hu; rfl
      case c3 => unfold maxLen; omega
      case c4 => omega
      case c5 => simp; omega
      intro v' w1 hown' hgrow hnil
      have R : Kept w w1 := (Below.alloc hkw (by omega) _).grown hgrow (by simp; omega) (fun j hj => (hown.lt j hj).1)
      clear hnil hgrow
      go_wp2
      exact ⟨⟨k + 1, by omega, by go_num, ⟨_, hown'⟩, R⟩, by simp [intOf]; omega⟩
    · go_wp2
      go_ret
      refine ⟨?_, hkw⟩
      rcases hown.2 with ⟨rfl, h0⟩ | ⟨g, cap, cur, rfl, _⟩
      · exact ⟨none, 0, by rw [show t.size = 0 from by omega]; rfl⟩
      · exact ⟨some ⟨g, 0, none⟩, cap, by rw [show t.size = k from by omega]; rfl⟩
end Go.Proofs.YtdnpefabcholbaaGreat
