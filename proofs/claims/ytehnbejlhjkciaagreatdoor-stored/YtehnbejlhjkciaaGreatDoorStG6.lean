import Derived.Test.YtehnbejlhjkciaaGreatDoorStG5
namespace Go.Proofs.YtehnbejlhjkciaaGreatDoor
open Go.RowKit
set_option linter.unusedSimpArgs false
set_option linter.unusedVariables false

theorem zero576 : Tryz.zeroCells88 = Array.replicate 288 (.int .u32 0) ++ Array.replicate 288 (.int .u8 0) := by kernel_rfl
theorem size576 : (Tryz.prog.info? 88).map (·.size) = some 576 := by kernel_rfl
theorem get576 (j : Nat) (h : j < 288) : (Array.replicate 288 (Value.int .u32 0) ++ Array.replicate 288 (Value.int .u8 0))[j]? = some (.int .u32 0) := by
  rw [Array.getElem?_append_left (by simpa using h)]; simp [h]
theorem get576' (j : Nat) (h : j < 288) : (Array.replicate 288 (Value.int .u32 0) ++ Array.replicate 288 (Value.int .u8 0))[288 + j]? = some (.int .u8 0) := by
  rw [Array.getElem?_append_right (by simp)]; simp [h]
/-- A book in block b. -/
structure BkIn (W : World) (b : Nat) : Prop where
  cd : Rng .u32 4294967296 W b 0 288
  sz : Rng .u8 16 W b 288 288
  fz : ∀ k, W.frozen? ⟨b, k, none⟩ = false
theorem BkIn.setc {W : World} {b : Nat} (h : BkIn W b) (i : Nat) (hi : i < 288) (z : Int) (h0 : 0 ≤ z) (h1 : z < 4294967296) : BkIn (W.setCell ⟨b, i, none⟩ (.int .u32 z)) b :=
  ⟨h.cd.set i z h0 h1, h.sz.fr (fun j hj _ => cell_set_other _ _ _ _ _ (by omega)), fun k => by rw [World.frozen?_setCell]; exact h.fz k⟩
theorem BkIn.sets {W : World} {b : Nat} (h : BkIn W b) (i : Nat) (hi : i < 288) (z : Int) (h0 : 0 ≤ z) (h1 : z < 16) : BkIn (W.setCell ⟨b, 288 + i, none⟩ (.int .u8 z)) b :=
  ⟨h.cd.fr (fun j _ hj => cell_set_other _ _ _ _ _ (by omega)), h.sz.set (288 + i) z h0 h1, fun k => by rw [World.frozen?_setCell]; exact h.fz k⟩
theorem BkIn.kept {w W : World} {b : Nat} (h : BkIn w b) (k : Kept w W) : BkIn W b := by
  obtain ⟨z, _, _, d⟩ := h.cd 0 (by omega)
  have hb := World.block_lt_of_cell? _ _ d
  exact ⟨h.cd.kept k, h.sz.kept k, fun j => (k.frozen (p := ⟨b, j, none⟩) hb).trans (h.fz j)⟩
set_option maxRecDepth 100000 in
set_option maxHeartbeats 3200000 in
theorem bookof_any (v : Value) (l : List Int) (w : World) (hl : LAt w .u8 v l) (hn : l.length = 288) (hB : ∀ x ∈ l, 0 ≤ x ∧ x < 256) :
    Calls Tryz.prog 77 #[v] w fun r w' => ∃ cs : List Value, r = .returned (.agg cs.toArray) ∧ cs.length = 576 ∧ (∀ i, i < 288 → ∃ z : Int, 0 ≤ z ∧ z < 4294967296 ∧ cs[i]? = some (.int .u32 z)) ∧ (∀ i, i < 288 → ∃ z : Int, 0 ≤ z ∧ z < 16 ∧ cs[288 + i]? = some (.int .u8 z)) ∧ Kept w w' := by
  obtain ⟨g, o, c, rfl, hc⟩ := hl.addr (by omega)
  rw [hn] at hc ⊢
  have hg : g < w.heap.size := World.block_lt_of_cell? _ _ (hc 0 (by omega))
  have hR : Hid (BkIn ((w.alloc (Obj.cells Tryz.zeroCells88 88)).alloc (Obj.cells Tryz.zeroCells88 88)) (w.heap.size + 1)) := by
    refine ⟨?_, ?_, fun k => World.frozen?_alloc_at _ _ _ _ (by simp)⟩
    · intro j hj
      exact ⟨0, by omega, by omega, by rw [World.cell?_alloc_at _ _ _ _ (by simp), zero576]; simpa using get576 j hj⟩
    · intro j hj
      exact ⟨0, by omega, by omega, by rw [World.cell?_alloc_at _ _ _ _ (by simp), zero576]; simpa using get576' j hj⟩
  have hT : Hid (((w.alloc (Obj.cells Tryz.zeroCells88 88)).alloc (Obj.cells Tryz.zeroCells88 88)).there w.heap.size 0 576) := by
    refine World.there_alloc ?_ _
    intro j hj
    refine ⟨?_, World.frozen?_alloc_at _ _ _ _ rfl⟩
    rw [World.cell?_alloc_at _ _ _ _ rfl, zero576]
    by_cases h : j < 288
    · rw [show 0 + j = j by omega, get576 j h]; rfl
    · have := get576' (j - 288) (by omega)
      rw [show 0 + j = 288 + (j - 288) by omega, this]; rfl
  have hK : Hid (Kept w ((w.alloc (Obj.cells Tryz.zeroCells88 88)).alloc (Obj.cells Tryz.zeroCells88 88))) := ((Below.refl _ _).alloc (Nat.le_refl _) _).alloc (by simp) _
  have HC : Hid (∀ i, i < 288 → w.cell? ⟨g, o + i, none⟩ = some (.int .u8 (l.getD i 0))) := hc
  have HB : Hid (∀ i, i < 288 → 0 ≤ l.getD i 0 ∧ l.getD i 0 < 256) := fun i hi => hB _ (getD_mem (by omega))
  clear hc hB hl hn
  go_enter Tryz.func77, Tryz.ntmps77
  go_wp2
  generalize ((w.alloc (Obj.cells Tryz.zeroCells88 88)).alloc (Obj.cells Tryz.zeroCells88 88)) = w0 at *
  go_loopw [4, 5] (fun u v W => ∃ k : Nat, ∃ q : Int, 1 ≤ k ∧ k ≤ 16 ∧ v = .int .u8 (k : Int) ∧ u = .int .u32 q ∧ 0 ≤ q ∧ q < 4294967296 ∧ BkIn W (w.heap.size + 1) ∧ W.there w.heap.size 0 576 ∧ Kept w W) (fun _ v _ => 16 - (intOf v).toNat)
  case atStart => exact ⟨1, 0, by omega, by omega, rfl, rfl, by omega, by omega, hR.out, hT.out, hK.out⟩
  case round =>
    obtain ⟨k, q, hk1, hk2, rfl, rfl, hq0, hq1, hb, ht, hK2⟩ := hrel
    replace hb : Hid (BkIn wr (w.heap.size + 1)) := hb
    replace ht : Hid (wr.there w.heap.size 0 576) := ht
    replace hK2 : Hid (Kept w wr) := hK2
    clear hR hT hK
    by_cases hlt : k ≤ 15
    · have i1 : (k : Int) ≤ 15 := by omega
      go_wp2
      go_loopw [4, 6] (fun u v W => ∃ i : Nat, ∃ q : Int, i ≤ 288 ∧ v = .int .i64 (i : Int) ∧ u = .int .u32 q ∧ 0 ≤ q ∧ q < 4294967296 ∧ BkIn W (w.heap.size + 1) ∧ W.there w.heap.size 0 576 ∧ Kept w W) (fun _ v _ => 288 - (intOf v).toNat)
      case atStart => exact ⟨0, q, by omega, rfl, rfl, hq0, hq1, hb.out, ht.out, hK2.out⟩
      case round =>
        clear hb ht hK2
        obtain ⟨i, q2, hi, rfl, rfl, hq20, hq21, hb, ht, hK2⟩ := hrel
        by_cases hil : i < 288
        · have j0 : (0 : Int) ≤ (i : Int) := by omega
          have j1 : (i : Int) < 288 := by omega
          have hcw : wr.cell? ⟨g, o + i, none⟩ = some (.int .u8 (l.getD i 0)) := (hK2.cell (p := ⟨g, o + i, none⟩) hg).trans (HC.out i hil)
          obtain ⟨b0, b1⟩ := HB.out i hil
          generalize l.getD i 0 = B at *
          by_cases he : B = (k : Int)
          · subst he
            obtain ⟨y1, _, _, hy1⟩ := hb.cd i hil
            obtain ⟨y2, _, _, hy2⟩ := hb.sz i hil
            rw [Nat.zero_add] at hy1
            have f1 := hb.fz i
            have f2 := hb.fz (288 + i)
            replace hb : Hid (BkIn wr (w.heap.size + 1)) := hb
            replace ht : Hid (wr.there w.heap.size 0 576) := ht
            replace hK2 : Hid (Kept w wr) := hK2
            go_wp2
            refine ⟨⟨i + 1, _, by omega, by go_num, rfl, Int.emod_nonneg _ (by omega), Int.emod_lt_of_pos _ (by omega), ?_, ?_, ?_⟩, by simp [intOf]; omega⟩
            · exact (hb.out.setc i hil _ hq20 hq21).sets i hil _ (by omega) (by omega)
            · exact there_set (there_set ht.out _ (by omega)) _ (by omega)
            · exact (hK2.out.setCell (by simp) _).setCell (by simp) _
          · replace hb : Hid (BkIn wr (w.heap.size + 1)) := hb
            replace ht : Hid (wr.there w.heap.size 0 576) := ht
            replace hK2 : Hid (Kept w wr) := hK2
            go_wp2
            exact ⟨⟨i + 1, _, by omega, by go_num, rfl, hq20, hq21, hb.out, ht.out, hK2.out⟩, by simp [intOf]; omega⟩
        · have j1 : ¬ (i : Int) < 288 := by omega
          replace hb : Hid (BkIn wr (w.heap.size + 1)) := hb
          replace ht : Hid (wr.there w.heap.size 0 576) := ht
          replace hK2 : Hid (Kept w wr) := hK2
          go_wp2
          exact ⟨⟨k + 1, _, by omega, by omega, by go_num, rfl, Int.emod_nonneg _ (by omega), Int.emod_lt_of_pos _ (by omega), hb.out, ht.out, hK2.out⟩, by simp [intOf]; omega⟩
    · have i1 : ¬ (k : Int) ≤ 15 := by omega
      obtain ⟨c1, hc1l, hc1r, hc1z⟩ := hb.out.cd.list
      obtain ⟨c2, hc2l, hc2r, hc2z⟩ := hb.out.sz.list
      have hone : Hid (∀ v ∈ c1 ++ c2, v.oneCell' = true) := by
        intro v hv
        rcases List.mem_append.1 hv with h | h
        · exact ints_one hc1l hc1z v h
        · exact ints_one hc2l hc2z v h
      have hcl' : Hid ((c1 ++ c2).length = 576) := by show (c1 ++ c2).length = 576; rw [List.length_append, hc1l, hc2l]
      have hcr : Hid (wr.rangeAt (w.heap.size + 1) 0 (c1 ++ c2)) := by
        intro j v hv
        by_cases hj : j < 288
        · rw [List.getElem?_append_left (by omega)] at hv; exact hc1r j v hv
        · rw [List.getElem?_append_right (by omega), hc1l] at hv
          have := hc2r _ v hv
          rw [show 0 + j = 288 + (j - 288) by omega]; exact this
      have hZ1 : Hid (∀ i, i < 288 → ∃ z : Int, 0 ≤ z ∧ z < 4294967296 ∧ (c1 ++ c2)[i]? = some (.int .u32 z)) := fun i hi => by rw [List.getElem?_append_left (by omega)]; exact hc1z i hi
      have hZ2 : Hid (∀ i, i < 288 → ∃ z : Int, 0 ≤ z ∧ z < 16 ∧ (c1 ++ c2)[288 + i]? = some (.int .u8 z)) := fun i hi => by rw [List.getElem?_append_right (by omega), hc1l, show 288 + i - 288 = i by omega]; exact hc2z i hi
      clear hc1l hc1r hc1z hc2l hc2r hc2z
      generalize c1 ++ c2 = cs at *
      have hi : Hid ((Tryz.prog.info? 88).map (·.size) = some cs.length) := by show _ = _; rw [hcl'.out]; exact size576
      go_wp2
      refine wp_load_mid 88 _ rfl (w.heap.size + 1) 0 rfl cs _ hcr.out Tryz.underlying88 rfl hi.out ?_
      have hsc : (storeCells ⟨w.heap.size, 0, none⟩ cs).run Tryz.prog wr = .ok () (wr.setCells w.heap.size 0 cs) := by
        have := run_storeCells_cells (P := Tryz.prog) w.heap.size 0 cs 0 wr (fun j hj => by simpa using (ht.out j (by rw [← hcl'.out]; exact hj)).1) (fun j hj => by simpa using (ht.out j (by rw [← hcl'.out]; exact hj)).2) hone.out
        simpa using this
      go_wp2
      have hld : (loadVar 88 ⟨w.heap.size, 0, none⟩).run Tryz.prog (wr.setCells w.heap.size 0 cs) = .ok (.agg cs.toArray) (wr.setCells w.heap.size 0 cs) :=
        run_loadVar_mid _ _ _ _ cs _ (World.rangeAt_setCells_same _ _ _ _ (by rw [hcl'.out]; exact ht.out)) Tryz.underlying88 rfl hi.out
      refine bodyPost_ret (v := .agg cs.toArray) ?_ rfl ⟨cs, rfl, hcl'.out, hZ1.out, hZ2.out, Kept.setCells (Nat.le_refl _) _ _ hK2.out⟩
      exact results_cell1 rfl _ _ _ _ _ rfl hld
end Go.Proofs.YtehnbejlhjkciaaGreatDoor
