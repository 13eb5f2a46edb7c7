import Derived.Test.YtdnpefabcholbaaGreatR26
import Derived.Test.YtdnpefabcholbaaGreatM1
import Derived.WalkSpells
namespace Go.Proofs.YtdnpefabcholbaaGreat
open Go.RowKit
set_option linter.unusedSimpArgs false
set_option linter.unusedVariables false

/-- n noughts behind v. -/
def Zs (w : World) (n : Nat) (v : Value) : Prop :=
  (n = 0 ∧ ∃ p c, v = .slice p 0 c) ∨ ∃ g c, v = .slice (some ⟨g, 0, none⟩) n c ∧ 0 < n ∧ g < w.heap.size ∧ ∀ i, i < n → w.cell? ⟨g, i, none⟩ = some (.int .i64 0)
theorem ZT.zs {w : World} {base n : Nat} {v : Value} (h : ZT w base n v) : Zs w n v := by
  rcases h with ⟨h1, h2⟩ | ⟨g, h1, h2, h3, h4, h5⟩
  · exact Or.inl ⟨h1, _, _, h2⟩
  · exact Or.inr ⟨g, n, h1, h2, h4, h5⟩
theorem ZL.zs {w : World} {base n : Nat} {v : Value} (h : ZL w base n v) : Zs w n v := by
  by_cases hn : n = 0
  · rcases h.2 with ⟨h2, _⟩ | ⟨g, cap, cur, hv, _⟩
    · exact Or.inl ⟨hn, _, _, h2⟩
    · rw [hn] at hv; exact Or.inl ⟨hn, _, _, hv⟩
  · rcases h.2 with ⟨h2, h3⟩ | ⟨g, cap, cur, hv, hg, hr⟩
    · exact absurd h3 hn
    · subst hv
      have hcells : ∀ i, i < n → w.cell? ⟨g, i, none⟩ = some (.int .i64 0) := fun i hi => by
        have := World.ownsRow.cells h rfl i _ (by rw [List.getElem?_replicate, if_pos hi])
        have e : (⟨g, 0, none⟩ : Addr).add i = ⟨g, i, none⟩ := by unfold Addr.add; by_cases h : i = 0 <;> simp [h]
        rw [e] at this; exact this
      exact Or.inr ⟨g, cap, rfl, by omega, World.block_lt_of_cell? _ _ (hcells 0 (by omega)), hcells⟩
theorem Zs.kept {w w' : World} {n : Nat} {v : Value} (h : Zs w n v) (k : Kept w w') : Zs w' n v := by
  rcases h with h | ⟨g, c, h1, h2, h4, h5⟩
  · exact Or.inl h
  · exact Or.inr ⟨g, c, h1, h2, Nat.lt_of_lt_of_le h4 k.size, fun i hi => by rw [k.cell (p := ⟨g, i, none⟩) h4]; exact h5 i hi⟩

theorem tidy_any {w : World} {base n : Nat} {v : Value} (h : ZT w base n v) (hn : n ≤ 1048576) : Calls Tryz.prog 16 #[v] w fun r w' => r = .returned (.bool true) ∧ Kept w w' := by
  rcases h with ⟨h1, rfl⟩ | ⟨g, rfl, h2, h3, h4, h5⟩
  · clear hn h1
    have q30 : ∀ (w : World), (binOp .eql 30 (.slice none 0 0) (.slice none 0 0)).run Tryz.prog w = .ok (.bool true) w := fun w => Lib.run_eql_slice_nil w _ _ none 0 0 0 0 Tryz.underlying30
    go_enter Tryz.func16, Tryz.ntmps16
    go_wp2
    go_ret
    exact ⟨rfl, Kept.refl _⟩
  · have h2' : (0 : Int) < (n : Int) := by omega
    clear h5
    go_enter Tryz.func16, Tryz.ntmps16
    go_wp2
    go_ret
    exact ⟨rfl, Kept.refl _⟩

theorem pick_any (c : Int) (n : Nat) (w : World) (h1 : -9223372036854775808 ≤ c) (h2 : c < 9223372036854775808) (hn : 1 ≤ n) (hn2 : n ≤ 1048577) :
    Calls Tryz.prog 5 #[.int .i64 c, .int .i64 (n : Int)] w fun r w' => (∃ k : Nat, k < n ∧ r = .returned (.int .i64 (k : Int))) ∧ w' = w := by
  by_cases hc : c < 0
  · go_enter Tryz.func5, Tryz.ntmps5
    go_wp2
    go_ret
    have e : -(c + 1).tmod (n : Int) = (-(c + 1)) % (n : Int) := by rw [← Int.neg_tmod, Int.tmod_eq_emod_of_nonneg (by omega)]
    have p0 := Int.emod_nonneg (-(c + 1)) (show (n : Int) ≠ 0 by omega)
    have p1 := Int.emod_lt_of_pos (-(c + 1)) (show (0 : Int) < (n : Int) by omega)
    exact ⟨⟨((-(c + 1)) % (n : Int)).toNat, by omega, ret_int (by rw [e]; omega)⟩, rfl⟩
  · go_enter Tryz.func5, Tryz.ntmps5
    go_wp2
    go_ret
    have p0 := Int.emod_nonneg c (show (n : Int) ≠ 0 by omega)
    have p1 := Int.emod_lt_of_pos c (show (0 : Int) < (n : Int) by omega)
    exact ⟨⟨(c % (n : Int)).toNat, by omega, ret_int (by omega)⟩, rfl⟩

theorem sameInts_any {n : Nat} {va vb : Value} {w : World} (ha : Zs w n va) (hb : Zs w n vb) (hn : n ≤ 1024) :
    Calls Tryz.prog 28 #[va, vb] w fun r w' => r = .returned (.bool true) ∧ Kept w w' := by
  rcases ha with ⟨h0, p, c, rfl⟩ | ⟨g, c, rfl, hp, hg, hca⟩
  · subst h0
    rcases hb with ⟨_, p2, c2, rfl⟩ | ⟨g2, c2, rfl, hp2, _⟩
    · clear hn
      go_enter Tryz.func28, Tryz.ntmps28
      go_wp2
      refine wp_loop_rounds 1 ?_
      rw [rounds_succ]
      go_wp2
      go_ret
      exact ⟨rfl, Kept.refl _⟩
    · omega
  · rcases hb with ⟨h0, _⟩ | ⟨g2, c2, rfl, hp2, hg2, hcb⟩
    · omega
    · have HA : Hid (∀ i, i < n → w.cell? ⟨g, i, none⟩ = some (.int .i64 0)) := hca
      have HB : Hid (∀ i, i < n → w.cell? ⟨g2, i, none⟩ = some (.int .i64 0)) := hcb
      clear hca hcb
      go_enter Tryz.func28, Tryz.ntmps28
      go_wp2
      go_loopw [5] (fun j W => ∃ i : Nat, i ≤ n ∧ j = .int .i64 (i : Int) ∧ Kept w W) (fun j _ => n - (intOf j).toNat)
      case atStart => exact ⟨0, by omega, rfl, Kept.refl _⟩
      case round =>
        obtain ⟨i, hi, rfl, hk⟩ := hrel
        by_cases hlt : i < n
        · have x1 : wr.cell? ⟨g, i, none⟩ = some (.int .i64 0) := (hk.cell (p := ⟨g, i, none⟩) hg).trans (HA.out i hlt)
          have x2 : wr.cell? ⟨g2, i, none⟩ = some (.int .i64 0) := (hk.cell (p := ⟨g2, i, none⟩) hg2).trans (HB.out i hlt)
          have hlt' : (i : Int) < (n : Int) := by omega
          go_wp2
          go_quiet (fail)
          go_wp2
          exact ⟨⟨i + 1, by omega, by go_num, hk.drewN _⟩, by simp [intOf]; omega⟩
        · have hlt' : ¬ (i : Int) < (n : Int) := by omega
          go_wp2
          go_ret
          exact ⟨rfl, hk⟩
end Go.Proofs.YtdnpefabcholbaaGreat
namespace Go.Proofs.YtdnpefabcholbaaGreat
open Go.RowKit
set_option linter.unusedSimpArgs false
set_option linter.unusedVariables false

set_option maxRecDepth 100000 in
set_option maxHeartbeats 1600000 in
theorem sameSnap_any (E A : Nat) (G : Px.Hd) (ka pa sa kb pb sb : Value) (w : World) (n m : Nat) (hn : n ≤ 1024) (hm : m ≤ 1024) (h1 : Zs w n ka) (h2 : Zs w n kb) (h3 : Zs w m pa) (h4 : Zs w m pb) (h5 : Zs w m sa) (h6 : Zs w m sb) :
    Calls Tryz.prog 17 #[snapV E A false G ka pa sa, snapV E A false G kb pb sb] w fun r w' => r = .returned (.bool true) ∧ Kept w w' := by
  have F : Hid (∀ (W : World) (k : Nat) (va vb : Value), Zs W k va → Zs W k vb → k ≤ 1024 → Calls Tryz.prog 28 #[va, vb] W fun r w' => r = .returned (.bool true) ∧ Kept W w') := fun W k va vb a b c => sameInts_any a b c
  have H1 : Hid (Zs w n ka) := h1
  have H2 : Hid (Zs w n kb) := h2
  have H3 : Hid (Zs w m pa) := h3
  have H4 : Hid (Zs w m pb) := h4
  have H5 : Hid (Zs w m sa) := h5
  have H6 : Hid (Zs w m sb) := h6
  have HN : Hid (n ≤ 1024) := hn
  have HM : Hid (m ≤ 1024) := hm
  obtain ⟨a1, a2, a3, e1⟩ : ∃ p q r, ka = .slice p q r := by rcases h1 with ⟨_, p, c, e⟩ | ⟨g, c, e, _⟩ <;> exact ⟨_, _, _, e⟩
  obtain ⟨b1, b2, b3, e2⟩ : ∃ p q r, kb = .slice p q r := by rcases h2 with ⟨_, p, c, e⟩ | ⟨g, c, e, _⟩ <;> exact ⟨_, _, _, e⟩
  obtain ⟨c1, c2, c3, e3⟩ : ∃ p q r, pa = .slice p q r := by rcases h3 with ⟨_, p, c, e⟩ | ⟨g, c, e, _⟩ <;> exact ⟨_, _, _, e⟩
  obtain ⟨d1, d2, d3, e4⟩ : ∃ p q r, pb = .slice p q r := by rcases h4 with ⟨_, p, c, e⟩ | ⟨g, c, e, _⟩ <;> exact ⟨_, _, _, e⟩
  obtain ⟨f1, f2, f3, e5⟩ : ∃ p q r, sa = .slice p q r := by rcases h5 with ⟨_, p, c, e⟩ | ⟨g, c, e, _⟩ <;> exact ⟨_, _, _, e⟩
  obtain ⟨g1, g2, g3, e6⟩ : ∃ p q r, sb = .slice p q r := by rcases h6 with ⟨_, p, c, e⟩ | ⟨g, c, e, _⟩ <;> exact ⟨_, _, _, e⟩
  subst e1 e2 e3 e4 e5 e6
  clear h1 h2 h3 h4 h5 h6 hn hm
  unfold snapV
  go_enter Tryz.func17, Tryz.ntmps17
  go_wp2_with fail
  generalize hW1 : World.alloc (World.alloc w _) _ = W1
  have K1 : Kept w W1 := by rw [← hW1]; exact ((Below.refl _ _).alloc (Nat.le_refl _) _).alloc (by simp) _
  have x9 : W1.cell? ⟨w.heap.size, 9, none⟩ = some (.slice c1 c2 c3) := by rw [← hW1]; simp
  have x10 : W1.cell? ⟨w.heap.size, 10, none⟩ = some (.slice f1 f2 f3) := by rw [← hW1]; simp
  have y9 : W1.cell? ⟨w.heap.size + 1, 9, none⟩ = some (.slice d1 d2 d3) := by rw [← hW1]; simp
  have y10 : W1.cell? ⟨w.heap.size + 1, 10, none⟩ = some (.slice g1 g2 g3) := by rw [← hW1]; simp
  clear hW1
  refine (F.out _ n _ _ (H1.out.kept K1) (H2.out.kept K1) HN.out).mono ?_
  rintro r w2 ⟨rfl, k2⟩
  have lx : w.heap.size < W1.heap.size := World.block_lt_of_cell? _ _ x9
  have ly : w.heap.size + 1 < W1.heap.size := World.block_lt_of_cell? _ _ y9
  have x9' : w2.cell? ⟨w.heap.size, 9, none⟩ = some (.slice c1 c2 c3) := (k2.cell (p := ⟨w.heap.size, 9, none⟩) lx).trans x9
  have x10' : w2.cell? ⟨w.heap.size, 10, none⟩ = some (.slice f1 f2 f3) := (k2.cell (p := ⟨w.heap.size, 10, none⟩) lx).trans x10
  have y9' : w2.cell? ⟨w.heap.size + 1, 9, none⟩ = some (.slice d1 d2 d3) := (k2.cell (p := ⟨w.heap.size + 1, 9, none⟩) ly).trans y9
  have y10' : w2.cell? ⟨w.heap.size + 1, 10, none⟩ = some (.slice g1 g2 g3) := (k2.cell (p := ⟨w.heap.size + 1, 10, none⟩) ly).trans y10
  have K2 : Hid (Kept w w2) := K1.trans k2
  have lx2 : w.heap.size < w2.heap.size := World.block_lt_of_cell? _ _ x9'
  have ly2 : w.heap.size + 1 < w2.heap.size := World.block_lt_of_cell? _ _ y9'
  clear x9 x10 y9 y10 k2 K1 lx ly
  go_wp2_with fail
  refine (F.out _ m _ _ (H3.out.kept K2.out) (H4.out.kept K2.out) HM.out).mono ?_
  rintro r w3 ⟨rfl, k3⟩
  have x10'' : w3.cell? ⟨w.heap.size, 10, none⟩ = some (.slice f1 f2 f3) := (k3.cell (p := ⟨w.heap.size, 10, none⟩) lx2).trans x10'
  have y10'' : w3.cell? ⟨w.heap.size + 1, 10, none⟩ = some (.slice g1 g2 g3) := (k3.cell (p := ⟨w.heap.size + 1, 10, none⟩) ly2).trans y10'
  have K3 : Hid (Kept w w3) := K2.out.trans k3
  clear x9' y9' x10' y10' k3 K2
  go_wp2_with fail
  refine (F.out _ m _ _ (H5.out.kept K3.out) (H6.out.kept K3.out) HM.out).mono ?_
  rintro r w4 ⟨rfl, k4⟩
  have K4 : Hid (Kept w w4) := K3.out.trans k4
  clear k4 x10'' y10''
  go_wp2
  go_ret
  exact ⟨rfl, K4.out⟩
end Go.Proofs.YtdnpefabcholbaaGreat
