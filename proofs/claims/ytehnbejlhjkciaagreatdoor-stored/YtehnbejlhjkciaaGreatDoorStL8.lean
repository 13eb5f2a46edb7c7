import Derived.Test.YtehnbejlhjkciaaGreatDoorStL6
import Derived.Test.YtehnbejlhjkciaaGreatDoorStL7
namespace Go.Proofs.YtehnbejlhjkciaaGreatDoor
open Go.RowKit
set_option linter.unusedSimpArgs false
set_option linter.unusedVariables false

theorem zero263 : Tryz.zeroCells77 = #[.int .i64 0, .int .i64 0, .int .i64 0, .int .i64 0, .int .i64 0, .slice none 0 0, .int .i64 0] ++ Array.replicate 256 (.int .u8 0) := by kernel_rfl
theorem size263 : (Tryz.zeroCells77).toList.length = 263 := by rw [zero263, Array.toList_append, Array.toList_replicate, List.length_append, List.length_replicate]; rfl
/-- The writer of rows as it is laid. -/
theorem lay_lines (W H D K L : Nat) : ∃ A : List Value, (((((Tryz.zeroCells77.toList.set 0 (.int .i64 (W : Int))).set 1 (.int .i64 (H : Int))).set 2 (.int .i64 (D : Int))).set 3 (.int .i64 (K : Int))).set 4 (.int .i64 (L : Int))) = A ∧ A.length = 263 ∧ A[0]? = some (.int .i64 (W : Int)) ∧ A[1]? = some (.int .i64 (H : Int)) ∧ A[2]? = some (.int .i64 (D : Int)) ∧ A[3]? = some (.int .i64 (K : Int)) ∧ A[4]? = some (.int .i64 (L : Int)) ∧ A[5]? = some (.slice none 0 0) ∧ A[6]? = some (.int .i64 0) ∧ (∀ j, j < 256 → A[7 + j]? = some (.int .u8 0)) ∧ (∀ v ∈ A, v.oneCell' = true) := by
  have e : (((((Tryz.zeroCells77.toList.set 0 (.int .i64 (W : Int))).set 1 (.int .i64 (H : Int))).set 2 (.int .i64 (D : Int))).set 3 (.int .i64 (K : Int))).set 4 (.int .i64 (L : Int))) = [.int .i64 (W : Int), .int .i64 (H : Int), .int .i64 (D : Int), .int .i64 (K : Int), .int .i64 (L : Int), .slice none 0 0, .int .i64 0] ++ List.replicate 256 (.int .u8 0) := by
    rw [zero263, Array.toList_append, Array.toList_replicate]
    rfl
  refine ⟨_, e, by rw [List.length_append, List.length_replicate]; rfl, rfl, rfl, rfl, rfl, rfl, rfl, rfl, ?_, ?_⟩
  · intro j hj
    rw [List.getElem?_append_right (by simp)]
    rw [show 7 + j - [Value.int .i64 (W : Int), .int .i64 (H : Int), .int .i64 (D : Int), .int .i64 (K : Int), .int .i64 (L : Int), .slice none 0 0, .int .i64 0].length = j by simp, List.getElem?_replicate, if_pos hj]
  · intro v hv
    rcases List.mem_append.1 hv with h | h
    · simp at h
      rcases h with rfl | rfl | rfl | rfl | rfl | rfl | rfl <;> rfl
    · rw [(List.mem_replicate.1 h).2]; rfl
theorem passLen_pos (W H C D s1 s2 : Nat) (hW : 1 ≤ W) (hH : 1 ≤ H) : 0 < passLen W H C D 0 s1 0 s2 := by
  unfold passLen
  have h1 : within 0 s1 W ≠ 0 := by unfold within; rw [if_neg (by omega)]; exact Nat.succ_ne_zero _
  have h2 : 0 < within 0 s2 H := by unfold within; rw [if_neg (by omega)]; exact Nat.succ_pos _
  rw [if_neg h1]
  exact Nat.mul_pos h2 (by omega)
theorem passLen_le (W H C D f1 s1 f2 s2 : Nat) (hW : W ≤ 16) (hH : H ≤ 16) (hC : C * D ≤ 64) : passLen W H C D f1 s1 f2 s2 ≤ 2064 := by
  unfold passLen
  split
  · omega
  · have h1 : within f1 s1 W * (C * D) ≤ 1024 := Nat.le_trans (Nat.mul_le_mul (within_le hW) hC) (by decide)
    exact Nat.le_trans (Nat.mul_le_mul (within_le hH) (show 1 + (within f1 s1 W * (C * D) + 7) / 8 ≤ 129 by omega)) (by decide)
set_option maxRecDepth 100000 in
set_option maxHeartbeats 3200000 in
theorem bytes_any (W H D K L : Nat) (pv cv : Value) (pl cl : List Int) (w : World) (hk : legal K D) (hW1 : 1 ≤ W) (hH1 : 1 ≤ H) (hW : W ≤ 16) (hH : H ≤ 16) (hL : L ≤ 1) (hG : GridAt w) (hp : LAt w .i64 pv pl) (hpb : ∀ g, sliceBlock pv = some g → g < w.heap.size) (hpl : pl.length ≤ 65536) (hpv : ∀ y ∈ pl, 0 ≤ y ∧ y < 65536) (hc : LAt w .i64 cv cl) (hcb : ∀ g, sliceBlock cv = some g → g < w.heap.size) (hcl0 : 0 < cl.length) (hcl : cl.length ≤ 64) (hcv : ∀ y ∈ cl, 0 ≤ y ∧ y ≤ 4) :
    Calls Tryz.prog 29 #[.agg #[.int .i64 (W : Int), .int .i64 (H : Int), .int .i64 (D : Int), .int .i64 (K : Int), .int .i64 (L : Int)], pv, cv] w fun r w' => ∃ ov n, r = .returned ov ∧ Own8 w' w.heap.size ov n ∧ 0 < n ∧ n ≤ 16384 ∧ (L = 0 → n = passLen W H (chan K) D 0 1 0 1) ∧ Kept w w' := by
  obtain ⟨pp, pc, rfl⟩ := hp.form
  obtain ⟨cp, cc, rfl⟩ := hc.form
  obtain ⟨A, hAe, hAl, a0, a1, a2, a3, a4, a5, a6, a7, aone⟩ := lay_lines W H D K L
  have hT : Hid (((w.alloc (Obj.cells #[.int .i64 (W : Int), .int .i64 (H : Int), .int .i64 (D : Int), .int .i64 (K : Int), .int .i64 (L : Int)] 60)).alloc (Obj.cells Tryz.zeroCells77 77)).there (w.heap.size + 1) 0 A.length) := by
    intro j hj
    refine ⟨?_, World.frozen?_alloc_at _ _ _ _ (by simp)⟩
    rw [World.cell?_alloc_at _ _ _ _ (by simp)]
    have : j < (Tryz.zeroCells77).size := by have := size263; rw [Array.length_toList] at this; omega
    show ((Tryz.zeroCells77)[0 + j]?).isSome = true
    rw [Nat.zero_add, Array.getElem?_eq_getElem this]; rfl
  have hsc : (storeCells ⟨w.heap.size + 1, 0, none⟩ A).run Tryz.prog ((w.alloc (Obj.cells #[.int .i64 (W : Int), .int .i64 (H : Int), .int .i64 (D : Int), .int .i64 (K : Int), .int .i64 (L : Int)] 60)).alloc (Obj.cells Tryz.zeroCells77 77)) = .ok () (((w.alloc (Obj.cells #[.int .i64 (W : Int), .int .i64 (H : Int), .int .i64 (D : Int), .int .i64 (K : Int), .int .i64 (L : Int)] 60)).alloc (Obj.cells Tryz.zeroCells77 77)).setCells (w.heap.size + 1) 0 A) := store_there hT.out aone
  have hR : Hid ((((w.alloc (Obj.cells #[.int .i64 (W : Int), .int .i64 (H : Int), .int .i64 (D : Int), .int .i64 (K : Int), .int .i64 (L : Int)] 60)).alloc (Obj.cells Tryz.zeroCells77 77)).setCells (w.heap.size + 1) 0 A).rangeAt (w.heap.size + 1) 0 A) := World.rangeAt_setCells_same _ _ _ _ hT.out
  have hF : Hid (∀ k, (((w.alloc (Obj.cells #[.int .i64 (W : Int), .int .i64 (H : Int), .int .i64 (D : Int), .int .i64 (K : Int), .int .i64 (L : Int)] 60)).alloc (Obj.cells Tryz.zeroCells77 77)).setCells (w.heap.size + 1) 0 A).frozen? ⟨w.heap.size + 1, k, none⟩ = false) := fun k => by rw [World.frozen?_setCells]; exact World.frozen?_alloc_at _ _ _ _ (by simp)
  have hK : Hid (Kept w (((w.alloc (Obj.cells #[.int .i64 (W : Int), .int .i64 (H : Int), .int .i64 (D : Int), .int .i64 (K : Int), .int .i64 (L : Int)] 60)).alloc (Obj.cells Tryz.zeroCells77 77)).setCells (w.heap.size + 1) 0 A)) := Kept.setCells (by omega) _ _ (Below.alloc (Below.alloc (Below.refl _ _) (Nat.le_refl _) _) (by simp) _)
  have hsz : Hid ((((w.alloc (Obj.cells #[.int .i64 (W : Int), .int .i64 (H : Int), .int .i64 (D : Int), .int .i64 (K : Int), .int .i64 (L : Int)] 60)).alloc (Obj.cells Tryz.zeroCells77 77)).setCells (w.heap.size + 1) 0 A).heap.size = w.heap.size + 2) := by show _ = _; rw [setCells_size]; simp
  have hh4 : (((w.alloc (Obj.cells #[.int .i64 (W : Int), .int .i64 (H : Int), .int .i64 (D : Int), .int .i64 (K : Int), .int .i64 (L : Int)] 60)).alloc (Obj.cells Tryz.zeroCells77 77)).setCells (w.heap.size + 1) 0 A).cell? ⟨w.heap.size, 4, none⟩ = some (.int .i64 (L : Int)) := by
    rw [World.cell?_setCells_out _ _ _ _ ⟨w.heap.size, 4, none⟩ (fun e _ => by simp at e), World.cell?_alloc_lt _ _ _ (by simp), World.cell?_alloc_at _ _ _ _ rfl]; rfl
  have FC : Hid (∀ W' : World, Calls Tryz.prog 42 #[.int .i64 (L : Int)] W' fun r w' => r = .returned (.int .i64 ((if L = 1 then 7 else 1 : Nat) : Int)) ∧ w' = W') := fun W' => count_any L W' hL
  obtain ⟨Cn, hCn⟩ : ∃ Cn, Cn = (if L = 1 then 7 else 1 : Nat) := ⟨_, rfl⟩
  rw [← hCn] at FC
  have hCb : Cn ≤ 7 := by rw [hCn]; split <;> omega
  replace hCn : Hid _ := hCn
  replace a0 : Hid _ := a0
  replace a1 : Hid _ := a1
  replace a2 : Hid _ := a2
  replace a3 : Hid _ := a3
  replace a4 : Hid _ := a4
  replace a5 : Hid _ := a5
  replace a6 : Hid _ := a6
  replace a7 : Hid _ := a7
  clear aone
  go_enter Tryz.func29, Tryz.ntmps29
  go_wp2
  generalize ((w.alloc (Obj.cells #[.int .i64 (W : Int), .int .i64 (H : Int), .int .i64 (D : Int), .int .i64 (K : Int), .int .i64 (L : Int)] 60)).alloc (Obj.cells Tryz.zeroCells77 77)).setCells (w.heap.size + 1) 0 A = w2 at *
  clear hsc hT hAe
  have H2 : Hid (LwAt w2 (w.heap.size + 1) (w.heap.size + 2) 0 0 W H D K L) := by
    have r := hR.out
    refine ⟨by omega, by rw [hsz.out]; omega, hF.out, r 0 _ a0.out, r 1 _ a1.out, r 2 _ a2.out, r 3 _ a3.out, r 4 _ a4.out, ⟨_, r 5 _ a5.out, Own8.nil _ _⟩, r 6 _ a6.out, ?_, ?_⟩
    · intro j hj
      refine ⟨0, by omega, by omega, ?_⟩
      have := r (7 + j) _ (a7.out j (by omega))
      rw [Nat.zero_add] at this; exact this
    · intro j hj
      refine ⟨0, by omega, by omega, ?_⟩
      have := r (7 + (128 + j)) _ (a7.out (128 + j) (by omega))
      rw [Nat.zero_add, show 7 + (128 + j) = 135 + j by omega] at this; exact this
  clear a0 a1 a2 a3 a4 a5 a6 a7 hR hF hAl
  have hs2 : w.heap.size < w2.heap.size := by rw [hsz.out]; omega
  have hPB : chan K * D ≤ 64 := Nat.le_trans (Nat.mul_le_mul (@chan_le K).2 (show D ≤ 16 by have := hk.d; omega)) (by decide)
  have FO : Hid (∀ (W' : World) (k : Nat), k < Cn → Lw (w.heap.size + 1) (w.heap.size + 2) 0 0 W H D K L w2 W' ∨ (∃ n c, Lw (w.heap.size + 1) (w.heap.size + 2) n c W H D K L w2 W') → Calls Tryz.prog 43 #[.int .i64 (L : Int), .int .i64 (k : Int)] W' fun r w' => ∃ v f1 s1 f2 s2, r = .returned v ∧ PassV v f1 s1 f2 s2 ∧ f1 ≤ 8 ∧ 1 ≤ s1 ∧ s1 ≤ 8 ∧ f2 ≤ 8 ∧ 1 ≤ s2 ∧ s2 ≤ 8 ∧ (L = 0 → f1 = 0 ∧ s1 = 1 ∧ f2 = 0 ∧ s2 = 1) ∧ (k = 0 → f1 = 0 ∧ f2 = 0) ∧ Kept W' w') := by
    intro W' k hk' hW'
    have hf : FrN (w.heap.size + 1) (w.heap.size + 2) w2 W' := by rcases hW' with h | ⟨n, c, h⟩ <;> exact h.fr
    have hg0 : 4 < w.heap.size := hG.lt
    exact of_any L k W' hL (by rw [← hCn.out]; exact hk') ((hG.kept hK.out).fr hf (fun i hi => by omega))
  have FP : Hid (∀ (W' : World) (n c f1 s1 f2 s2 : Nat) (b1 b2 : Int), Lw (w.heap.size + 1) (w.heap.size + 2) n c W H D K L w2 W' → n ≤ 65536 → c ≤ 65536 → f1 ≤ 8 → 1 ≤ s1 → s1 ≤ 8 → f2 ≤ 8 → 1 ≤ s2 → s2 ≤ 8 → Calls Tryz.prog 44 #[.pointer (some ⟨w.heap.size + 1, 0, none⟩), .agg #[.int .i64 (f1 : Int), .int .i64 (s1 : Int), .int .i64 b1, .int .i64 (f2 : Int), .int .i64 (s2 : Int), .int .i64 b2], .slice pp pl.length pc, .slice cp cl.length cc] W' fun r w' => r = .returned (.tuple #[]) ∧ ∃ cnt', cnt' ≤ c + 16 ∧ Lw (w.heap.size + 1) (w.heap.size + 2) (n + passLen W H (chan K) D f1 s1 f2 s2) cnt' W H D K L W' w') := by
    intro W' n c f1 s1 f2 s2 b1 b2 hW' h1 h2 h3 h4 h5 h6 h7 h8
    exact writePass_any _ _ n c W H D K L f1 s1 f2 s2 b1 b2 _ _ pl cl W' hW'.at' hk hW hH h3 h4 h5 h6 h7 h8 ((hp.kept hK.out).fr hW'.fr (fun g hg => by have := hpb g hg; omega)) (fun g hg => by have := hpb g hg; omega) hpl hpv ((hc.kept hK.out).fr hW'.fr (fun g hg => by have := hcb g hg; omega)) (fun g hg => by have := hcb g hg; omega) hcl0 hcl hcv h1 h2
  have HPL := fun f1 s1 f2 s2 => passLen_le W H (chan K) D f1 s1 f2 s2 hW hH hPB
  replace HPL : Hid _ := HPL
  clear hp hc hpb hcb hcv hpv hG
  go_loopw [8] (fun v W' => ∃ k n c : Nat, k ≤ Cn ∧ v = .int .i64 (k : Int) ∧ n ≤ 2064 * k ∧ c ≤ 16 * k ∧ (0 < k → 0 < n) ∧ (L = 0 → n = k * passLen W H (chan K) D 0 1 0 1) ∧ Lw (w.heap.size + 1) (w.heap.size + 2) n c W H D K L w2 W') (fun v _ => Cn - (intOf v).toNat)
  case atStart => exact ⟨0, 0, 0, by omega, rfl, by omega, by omega, fun h => by omega, fun _ => by omega, Lw.refl H2.out⟩
  case round =>
    obtain ⟨k, n, c, hkC, rfl, hn, hcn, hpos, hL0, hW'⟩ := hrel
    have h4 := (hW'.fr.cell hs2 (by omega)).trans hh4
    replace hL0 : Hid _ := hL0
    clear H2
    by_cases hlt : k < Cn
    · have hlt' : (k : Int) < (Cn : Int) := by omega
      have F1 := FO.out wr k hlt (Or.inr ⟨n, c, hW'⟩)
      replace F1 : Hid _ := F1
      replace hW' : Hid (Lw (w.heap.size + 1) (w.heap.size + 2) n c W H D K L w2 wr) := hW'
      go_wp2_with fail
      refine (FC.out _).mono ?_
      rintro r wr ⟨rfl, rfl⟩
      go_wp2_with fail
      refine Calls.mono F1.out ?_
      rintro r w5 ⟨v, f1, s1, f2, s2, rfl, ⟨b1, b2, rfl⟩, g1, g2, g3, g4, g5, g6, g7, g8, hk5⟩
      have H5 : Hid (Lw (w.heap.size + 1) (w.heap.size + 2) n c W H D K L w2 (w5.alloc (Obj.cells #[.int .i64 (f1 : Int), .int .i64 (s1 : Int), .int .i64 b1, .int .i64 (f2 : Int), .int .i64 (s2 : Int), .int .i64 b2] 81))) := (hW'.out.kept hk5).kept (Below.alloc (Below.refl _ _) (Nat.le_refl _) _)
      have F2 := FP.out _ n c f1 s1 f2 s2 b1 b2 H5.out (by omega) (by omega) g1 g2 g3 g4 g5 g6
      replace F2 : Hid _ := F2
      replace g7 : Hid _ := g7
      clear hk5
      go_wp2_with fail
      refine Calls.mono F2.out ?_
      rintro r w6 ⟨rfl, c', hc', hw6⟩
      have H6 : Hid (Lw (w.heap.size + 1) (w.heap.size + 2) (n + passLen W H (chan K) D f1 s1 f2 s2) c' W H D K L w2 w6) := H5.out.trans hw6
      have hb6 := HPL.out f1 s1 f2 s2
      have HL0 : Hid (L = 0 → n + passLen W H (chan K) D f1 s1 f2 s2 = (k + 1) * passLen W H (chan K) D 0 1 0 1) := by
        intro e
        obtain ⟨q1, q2, q3, q4⟩ := g7.out e
        rw [q1, q2, q3, q4, hL0.out e, Nat.succ_mul]
      have HPos : Hid (0 < n + passLen W H (chan K) D f1 s1 f2 s2) := by
        rcases Nat.eq_zero_or_pos k with e | e
        · obtain ⟨q1, q2⟩ := g8 e
          have := passLen_pos W H (chan K) D s1 s2 hW1 hH1
          rw [q1, q2]; show 0 < _; omega
        · have := hpos e; show 0 < _; omega
      clear g8
      generalize passLen W H (chan K) D f1 s1 f2 s2 = PL at *
      clear hw6
      go_wp2
      exact ⟨⟨k + 1, n + PL, c', by omega, by go_num, by omega, by omega, fun _ => HPos.out, HL0.out, H6.out⟩, by simp [intOf]; omega⟩
    · have hlt' : ¬ (k : Int) < (Cn : Int) := by omega
      have hke : k = Cn := by omega
      obtain ⟨ov, h5, ho⟩ := hW'.at'.out
      replace ho : Hid _ := ho
      replace hW' : Hid (Lw (w.heap.size + 1) (w.heap.size + 2) n c W H D K L w2 wr) := hW'
      go_wp2_with fail
      refine (FC.out _).mono ?_
      rintro r wr ⟨rfl, rfl⟩
      go_wp2
      go_ret
      have hCpos : 0 < Cn := by have := hCn.out; split at this <;> omega
      refine ⟨ov, n, rfl, ?_, hpos (by omega), by omega, fun e => ?_, Fr.to_kept hK.out hW'.out.fr (fun i hi => by omega)⟩
      · obtain ⟨l, q1, q2, q3⟩ := ho.out
        exact ⟨l, q1, q2, own_base q3 (by omega)⟩
      · have := hL0.out e
        rw [this, hke, hCn.out, e]; simp
end Go.Proofs.YtehnbejlhjkciaaGreatDoor
