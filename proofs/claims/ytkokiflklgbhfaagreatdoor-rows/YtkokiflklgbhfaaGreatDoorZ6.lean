import Derived.Test.YtkokiflklgbhfaaGreatDoorZ5
import Derived.Test.YtkokiflklgbhfaaGreatDoorL7
set_option maxRecDepth 100000
set_option maxHeartbeats 3200000
namespace Go.Proofs.YtkokiflklgbhfaaGreatDoor
open Go.RowKit Px
set_option linter.unusedSimpArgs false
set_option linter.unusedVariables false
theorem within01 (n : Nat) (h : 1 ≤ n) : within 0 1 n = n := by
  unfold within
  rw [if_neg (by omega), Nat.div_one]; omega
theorem in_pix (W H C i c k : Nat) (h1 : i < H) (h2 : c < W) (h3 : k < C) : ((0 + i * 1) * W + (0 + c * 1)) * C + k < W * H * C := by
  have e1 : (i + 1) * W ≤ H * W := Nat.mul_le_mul_right _ h1
  rw [Nat.add_mul, Nat.one_mul] at e1
  have e2 : (i * W + c + 1) * C ≤ H * W * C := Nat.mul_le_mul_right _ (by omega)
  rw [Nat.add_mul _ 1, Nat.one_mul] at e2
  rw [Nat.mul_comm W H, Nat.zero_add, Nat.mul_one, Nat.zero_add, Nat.mul_one]
  omega
/-- All rows' bytes, where there is one pass. -/
theorem bytes_b (W H D K L : Nat) (pv cv : Value) (pl cl : List Int) (w : World) (hk : legal K D) (hW1 : 1 ≤ W) (hH1 : 1 ≤ H) (hW : W ≤ 16) (hH : H ≤ 16) (hL : L = 0) (hG : GridAt w) (hp : LAt w .i64 pv pl) (hpb : ∀ g, sliceBlock pv = some g → g < w.heap.size) (hpL : pl.length = W * H * chan K) (hpv : ∀ y ∈ pl, 0 ≤ y ∧ y < 65536) (hc : LAt w .i64 cv cl) (hcb : ∀ g, sliceBlock cv = some g → g < w.heap.size) (hcl0 : 0 < cl.length) (hcl : cl.length ≤ 64) (hcv : ∀ y ∈ cl, 0 ≤ y ∧ y ≤ 4) :
    Calls Tryz.prog 43 #[.agg #[.int .i64 (W : Int), .int .i64 (H : Int), .int .i64 (D : Int), .int .i64 (K : Int), .int .i64 (L : Int)], pv, cv] w fun r w' => ∃ ov, r = .returned ov ∧ OwnB w' w.heap.size ov (passB W K D 0 1 0 1 pl cl 0 H) ∧ Kept w w' := by
  have hpl : pl.length ≤ 65536 := by rw [hpL]; exact Nat.le_trans (Nat.mul_le_mul (Nat.mul_le_mul hW hH) (@chan_le K).2) (by decide)
  obtain ⟨pp, pc, rfl⟩ := hp.form
  obtain ⟨cp, cc, rfl⟩ := hc.form
  obtain ⟨A, hAe, hAl, a0, a1, a2, a3, a4, a5, a6, a7, aone⟩ := lay_lines W H D K L
  have hT : Hid (((w.alloc (Obj.cells #[.int .i64 (W : Int), .int .i64 (H : Int), .int .i64 (D : Int), .int .i64 (K : Int), .int .i64 (L : Int)] 66)).alloc (Obj.cells Tryz.zeroCells125 125)).there (w.heap.size + 1) 0 A.length) := by
    intro j hj
    refine ⟨?_, World.frozen?_alloc_at _ _ _ _ (by simp)⟩
    rw [World.cell?_alloc_at _ _ _ _ (by simp)]
    have : j < (Tryz.zeroCells125).size := by have := size263; rw [Array.length_toList] at this; omega
    show ((Tryz.zeroCells125)[0 + j]?).isSome = true
    rw [Nat.zero_add, Array.getElem?_eq_getElem this]; rfl
  have hsc : (storeCells ⟨w.heap.size + 1, 0, none⟩ A).run Tryz.prog ((w.alloc (Obj.cells #[.int .i64 (W : Int), .int .i64 (H : Int), .int .i64 (D : Int), .int .i64 (K : Int), .int .i64 (L : Int)] 66)).alloc (Obj.cells Tryz.zeroCells125 125)) = .ok () (((w.alloc (Obj.cells #[.int .i64 (W : Int), .int .i64 (H : Int), .int .i64 (D : Int), .int .i64 (K : Int), .int .i64 (L : Int)] 66)).alloc (Obj.cells Tryz.zeroCells125 125)).setCells (w.heap.size + 1) 0 A) := store_there hT.out aone
  have hR : Hid ((((w.alloc (Obj.cells #[.int .i64 (W : Int), .int .i64 (H : Int), .int .i64 (D : Int), .int .i64 (K : Int), .int .i64 (L : Int)] 66)).alloc (Obj.cells Tryz.zeroCells125 125)).setCells (w.heap.size + 1) 0 A).rangeAt (w.heap.size + 1) 0 A) := World.rangeAt_setCells_same _ _ _ _ hT.out
  have hF : Hid (∀ k, (((w.alloc (Obj.cells #[.int .i64 (W : Int), .int .i64 (H : Int), .int .i64 (D : Int), .int .i64 (K : Int), .int .i64 (L : Int)] 66)).alloc (Obj.cells Tryz.zeroCells125 125)).setCells (w.heap.size + 1) 0 A).frozen? ⟨w.heap.size + 1, k, none⟩ = false) := fun k => by rw [World.frozen?_setCells]; exact World.frozen?_alloc_at _ _ _ _ (by simp)
  have hK : Hid (Kept w (((w.alloc (Obj.cells #[.int .i64 (W : Int), .int .i64 (H : Int), .int .i64 (D : Int), .int .i64 (K : Int), .int .i64 (L : Int)] 66)).alloc (Obj.cells Tryz.zeroCells125 125)).setCells (w.heap.size + 1) 0 A)) := Kept.setCells (by omega) _ _ (Below.alloc (Below.alloc (Below.refl _ _) (Nat.le_refl _) _) (by simp) _)
  have hsz : Hid ((((w.alloc (Obj.cells #[.int .i64 (W : Int), .int .i64 (H : Int), .int .i64 (D : Int), .int .i64 (K : Int), .int .i64 (L : Int)] 66)).alloc (Obj.cells Tryz.zeroCells125 125)).setCells (w.heap.size + 1) 0 A).heap.size = w.heap.size + 2) := by show _ = _; rw [setCells_size]; simp
  have hh4 : (((w.alloc (Obj.cells #[.int .i64 (W : Int), .int .i64 (H : Int), .int .i64 (D : Int), .int .i64 (K : Int), .int .i64 (L : Int)] 66)).alloc (Obj.cells Tryz.zeroCells125 125)).setCells (w.heap.size + 1) 0 A).cell? ⟨w.heap.size, 4, none⟩ = some (.int .i64 (L : Int)) := by
    rw [World.cell?_setCells_out _ _ _ _ ⟨w.heap.size, 4, none⟩ (fun e _ => by simp at e), World.cell?_alloc_lt _ _ _ (by simp), World.cell?_alloc_at _ _ _ _ rfl]; rfl
  have FC : Hid (∀ W' : World, Calls Tryz.prog 65 #[.int .i64 (L : Int)] W' fun r w' => r = .returned (.int .i64 1) ∧ w' = W') := fun W' => by
    have := count_any L W' (by omega)
    rw [if_neg (by omega)] at this
    exact this
  have HIn : Hid (∀ i c k, i < H → c < W → k < chan K → ((0 + i * 1) * W + (0 + c * 1)) * chan K + k < pl.length) := fun i c k h1 h2 h3 => by rw [hpL]; exact in_pix W H (chan K) i c k h1 h2 h3
  clear hpL
  obtain ⟨PB, hPBe⟩ : ∃ PB, PB = passB W K D 0 1 0 1 pl cl 0 H := ⟨_, rfl⟩
  rw [← hPBe]
  replace hPBe : Hid _ := hPBe
  have HL0 : Hid (L = 0) := hL
  have hL1 : L ≤ 1 := by omega
  have hL7 : Hid (0 < (if L = 1 then 7 else 1 : Nat)) := by show 0 < (if L = 1 then 7 else 1 : Nat); split <;> omega
  clear hL
  replace a0 : Hid _ := a0
  replace a1 : Hid _ := a1
  replace a2 : Hid _ := a2
  replace a3 : Hid _ := a3
  replace a4 : Hid _ := a4
  replace a5 : Hid _ := a5
  replace a6 : Hid _ := a6
  replace a7 : Hid _ := a7
  clear aone
  go_enter Tryz.func43, Tryz.ntmps43
  go_wp2
  generalize ((w.alloc (Obj.cells #[.int .i64 (W : Int), .int .i64 (H : Int), .int .i64 (D : Int), .int .i64 (K : Int), .int .i64 (L : Int)] 66)).alloc (Obj.cells Tryz.zeroCells125 125)).setCells (w.heap.size + 1) 0 A = w2 at *
  clear hsc hT hAe
  have H2 : Hid (LwB w2 (w.heap.size + 1) (w.heap.size + 2) 0 W H D K L [] (fun _ => 0) (fun _ => 0)) := by
    have r := hR.out
    refine ⟨by omega, by rw [hsz.out]; omega, hF.out, r 0 _ a0.out, r 1 _ a1.out, r 2 _ a2.out, r 3 _ a3.out, r 4 _ a4.out, ⟨_, r 5 _ a5.out, OwnB.nil _ _⟩, r 6 _ a6.out, ?_, ?_, fun _ => by omega, fun _ => by omega⟩
    · intro j hj
      have := r (7 + j) _ (a7.out j (by omega))
      rw [Nat.zero_add] at this; exact this
    · intro j hj
      have := r (7 + (128 + j)) _ (a7.out (128 + j) (by omega))
      rw [Nat.zero_add, show 7 + (128 + j) = 135 + j by omega] at this; exact this
  clear a0 a1 a2 a3 a4 a5 a6 a7 hR hF hAl
  have hs2 : w.heap.size < w2.heap.size := by rw [hsz.out]; omega
  have FO : Hid (Calls Tryz.prog 66 #[.int .i64 (L : Int), .int .i64 0] w2 fun r w' => ∃ v f1 s1 f2 s2, r = .returned v ∧ PassV v f1 s1 f2 s2 ∧ f1 ≤ 8 ∧ 1 ≤ s1 ∧ s1 ≤ 8 ∧ f2 ≤ 8 ∧ 1 ≤ s2 ∧ s2 ≤ 8 ∧ (L = 0 → f1 = 0 ∧ s1 = 1 ∧ f2 = 0 ∧ s2 = 1) ∧ ((0 : Nat) = 0 → f1 = 0 ∧ f2 = 0) ∧ Kept w2 w') := of_any L 0 w2 hL1 hL7.out (hG.kept hK.out)
  have FP : Hid (∀ (W' : World) (f1 s1 f2 s2 : Nat) (b1 b2 : Int), Kept w2 W' → f1 = 0 → s1 = 1 → f2 = 0 → s2 = 1 → Calls Tryz.prog 67 #[.pointer (some ⟨w.heap.size + 1, 0, none⟩), .agg #[.int .i64 (f1 : Int), .int .i64 (s1 : Int), .int .i64 b1, .int .i64 (f2 : Int), .int .i64 (s2 : Int), .int .i64 b2], .slice pp pl.length pc, .slice cp cl.length cc] W' fun r w' => r = .returned (.tuple #[]) ∧ (∃ c' row' abv', LwB w' (w.heap.size + 1) (w.heap.size + 2) c' W H D K L PB row' abv') ∧ FrN (w.heap.size + 1) (w.heap.size + 2) W' w') := by
    intro W' f1 s1 f2 s2 b1 b2 hW' e1 e2 e3 e4
    subst e1 e2 e3 e4
    have h5 := writePass_b _ _ 0 W H D K L 0 1 0 1 b1 b2 (.slice pp pl.length pc) (.slice cp cl.length cc) pl cl [] (fun _ => 0) (fun _ => 0) W' (H2.out.kept hW') hk hW hH (by omega) (by omega) (by omega) (by omega) (by omega) (by omega) ((hp.kept hK.out).kept hW') (fun g hg => by have := hpb g hg; omega) hpl hpv ((hc.kept hK.out).kept hW') (fun g hg => by have := hcb g hg; omega) hcl0 hcl hcv (by simp) (by omega) (by rw [within01 W hW1]; omega) (by rw [within01 W hW1, within01 H hH1]; exact HIn.out)
    refine h5.mono ?_
    rintro r w' ⟨h6, ⟨row', h7⟩, h8⟩
    rw [within01 H hH1, List.nil_append, ← hPBe.out] at h7
    exact ⟨h6, ⟨_, _, _, h7⟩, h8⟩
  clear hp hc hpb hcb hcv hpv hG HIn
  replace hPBe : Hid _ := hPBe
  go_loopw [8] (fun v W' => (v = .int .i64 0 ∧ W' = w2) ∨ (v = .int .i64 1 ∧ (∃ c' row' abv', LwB W' (w.heap.size + 1) (w.heap.size + 2) c' W H D K L PB row' abv') ∧ FrN (w.heap.size + 1) (w.heap.size + 2) w2 W')) (fun v _ => 1 - (intOf v).toNat)
  case atStart => exact Or.inl ⟨rfl, rfl⟩
  case round =>
    rcases hrel with ⟨rfl, rfl⟩ | ⟨rfl, ⟨c', row', abv', hB⟩, hf⟩
    · go_wp2_with fail
      refine (FC.out _).mono ?_
      rintro r wr ⟨rfl, rfl⟩
      go_wp2_with fail
      refine Calls.mono FO.out ?_
      rintro r w5 ⟨v, f1, s1, f2, s2, rfl, ⟨b1, b2, rfl⟩, g1, g2, g3, g4, g5, g6, g7, g8, hk5⟩
      have hk6 : Kept wr (w5.alloc (Obj.cells #[.int .i64 (f1 : Int), .int .i64 (s1 : Int), .int .i64 b1, .int .i64 (f2 : Int), .int .i64 (s2 : Int), .int .i64 b2] 129)) := Kept.trans hk5 (Below.alloc (Below.refl _ _) (Nat.le_refl _) _)
      obtain ⟨q1, q2, q3, q4⟩ := g7 HL0.out
      have F2 := FP.out _ f1 s1 f2 s2 b1 b2 hk6 q1 q2 q3 q4
      replace F2 : Hid _ := F2
      replace hk6 : Hid _ := hk6
      clear hk5 g7 g8 q1 q2 q3 q4
      go_wp2_with fail
      refine Calls.mono F2.out ?_
      rintro r w6 ⟨rfl, hB6, hf6⟩
      have H6 : Hid ((∃ c' row' abv', LwB w6 (w.heap.size + 1) (w.heap.size + 2) c' W H D K L PB row' abv') ∧ FrN (w.heap.size + 1) (w.heap.size + 2) wr w6) := ⟨hB6, (Fr.of_kept hk6.out).trans hf6⟩
      clear hB6 hf6
      go_wp2
      exact ⟨Or.inr ⟨rfl, H6.out⟩, by simp [intOf]⟩
    · obtain ⟨ov, h5, ho⟩ := hB.out
      have h4 := (hf.cell hs2 (by omega)).trans hh4
      replace ho : Hid _ := ho
      replace hf : Hid (FrN (w.heap.size + 1) (w.heap.size + 2) w2 wr) := hf
      replace hB : Hid _ := hB
      go_wp2_with fail
      refine (FC.out _).mono ?_
      rintro r wr ⟨rfl, rfl⟩
      go_wp2
      go_ret
      exact ⟨ov, rfl, OwnB.base ho.out (by omega), Fr.to_kept hK.out hf.out (fun i hi => by omega)⟩
end Go.Proofs.YtkokiflklgbhfaaGreatDoor
