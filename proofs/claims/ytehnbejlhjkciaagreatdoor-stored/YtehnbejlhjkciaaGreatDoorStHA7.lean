import Derived.Test.YtehnbejlhjkciaaGreatDoorStHA6
namespace Go.Proofs.YtehnbejlhjkciaaGreatDoor
open Go.RowKit
set_option linter.unusedSimpArgs false
set_option linter.unusedVariables false
/-- Numbers, whatever they are. -/
def IR (W : World) (b o n : Nat) : Prop := ∀ j, j < n → ∃ z : Int, W.cell? ⟨b, o + j, none⟩ = some (.int .i64 z)
theorem IR.kept {w W : World} {b o n : Nat} (h : IR w b o n) (f : Kept w W) : IR W b o n := by
  intro j hj
  obtain ⟨z, d⟩ := h j hj
  exact ⟨z, (f.cell (p := ⟨b, o + j, none⟩) (World.block_lt_of_cell? _ _ d)).trans d⟩
theorem IR.set {W : World} {b o n : Nat} (h : IR W b o n) (i : Nat) (z : Int) : IR (W.setCell ⟨b, i, none⟩ (.int .i64 z)) b o n := by
  intro j hj
  obtain ⟨y, d⟩ := h j hj
  by_cases e : i = o + j
  · subst e; exact ⟨z, cell_set_same d _⟩
  · exact ⟨y, (cell_set_other _ _ _ _ _ e).trans d⟩
theorem IR.list {W : World} {b o : Nat} : ∀ {n : Nat}, IR W b o n → ∃ cs : List Value, cs.length = n ∧ W.rangeAt b o cs ∧ ∀ j, j < n → ∃ z : Int, cs[j]? = some (.int .i64 z)
  | 0, _ => ⟨[], rfl, fun j v h => by simp at h, fun j h => by omega⟩
  | n + 1, h => by
    obtain ⟨cs, h1, h2, h3⟩ := IR.list (n := n) (fun j hj => h j (by omega))
    obtain ⟨z, hz⟩ := h n (by omega)
    refine ⟨cs ++ [.int .i64 z], by simp [h1], fun j v hv => ?_, fun j hj => ?_⟩
    · by_cases c : j < cs.length
      · rw [List.getElem?_append_left c] at hv; exact h2 j v hv
      · rw [List.getElem?_append_right (by omega)] at hv
        have hj2 : j - cs.length < 1 := by
          have := (List.getElem?_eq_some_iff.1 hv).1
          simpa using this
        have e : j = n := by omega
        subst e
        rw [h1, Nat.sub_self] at hv
        simp at hv
        subst hv
        exact hz
    · by_cases c : j < n
      · obtain ⟨y, hy⟩ := h3 j c
        exact ⟨y, by rw [List.getElem?_append_left (by omega)]; exact hy⟩
      · have e : j = n := by omega
        subst e
        exact ⟨z, by rw [List.getElem?_append_right (by omega), h1, Nat.sub_self]; rfl⟩
theorem IR.one {cs : List Value} {n : Nat} (hl : cs.length = n) (h : ∀ j, j < n → ∃ z : Int, cs[j]? = some (.int .i64 z)) : ∀ v ∈ cs, v.oneCell' = true := by
  intro v hv
  obtain ⟨j, hj, e⟩ := List.getElem_of_mem hv
  obtain ⟨z, hz⟩ := h j (by omega)
  rw [List.getElem?_eq_getElem hj, e] at hz
  injection hz with hz
  subst hz; rfl
def vOf : Value → Int
  | .int _ z => z
  | _ => 0
theorem IR.lat {W : World} {b o n : Nat} (h : IR W b o n) (c : Nat) : ∃ l : List Int, l.length = n ∧ LAt W .i64 (.slice (some ⟨b, o, none⟩) n c) l := by
  obtain ⟨cs, h1, h2, h3⟩ := h.list
  refine ⟨cs.map vOf, by simp [h1], ⟨⟨some ⟨b, o, none⟩, c, by simp [h1]⟩, ?_⟩⟩
  intro p c' hv i hi
  rw [List.length_map] at hi
  injection hv with hv _ _
  obtain ⟨z, hz⟩ := h3 i (by omega)
  refine ⟨b, o, hv.symm, ?_⟩
  rw [h2 i _ hz]
  simp [List.getD_eq_getElem?_getD, List.getElem?_map, hz, vOf]
theorem zero316 : Tryz.zeroCells135 = Array.replicate 316 (.int .i64 0) := by kernel_rfl
theorem size316 : (Tryz.prog.info? 135).map (·.size) = some 316 := by kernel_rfl
/-- Counts come back. -/
def CntP (r : Ending) : Prop := ∃ cs : List Value, r = .returned (.agg cs.toArray) ∧ cs.length = 316 ∧ ∀ i, i < 316 → ∃ z : Int, cs[i]? = some (.int .i64 z)
set_option maxRecDepth 100000 in
set_option maxHeartbeats 3200000 in
theorem countsof_any (lv : Value) (n : Nat) (w : World) (hl : TkAt w lv n) (hT : TbsAt w) (hn : n ≤ 1048576) :
    Calls Tryz.prog 79 #[lv] w fun r w' => CntP r ∧ Kept w w' := by
  obtain ⟨p, c, rfl⟩ := hl.form
  have HL : Hid (∀ W, Kept w W → TkAt W (.slice p n c) n) := fun W k => hl.kept k
  have HT : Hid (∀ W, Kept w W → TbsAt W) := fun W k => hT.kept k
  clear hl hT
  have hR : Hid (IR ((w.alloc (Obj.cells Tryz.zeroCells135 135)).alloc (Obj.cells Tryz.zeroCells135 135)) (w.heap.size + 1) 0 316) := by
    intro j hj
    refine ⟨0, ?_⟩
    rw [World.cell?_alloc_at _ _ _ _ (by simp)]
    rw [zero316]; simp [hj]
  have hTh : Hid (((w.alloc (Obj.cells Tryz.zeroCells135 135)).alloc (Obj.cells Tryz.zeroCells135 135)).there w.heap.size 0 316) := by
    refine World.there_alloc ?_ _
    intro j hj
    refine ⟨?_, World.frozen?_alloc_at _ _ _ _ rfl⟩
    rw [World.cell?_alloc_at _ _ _ _ rfl, zero316]; simp; omega
  have hF : Hid (∀ k, ((w.alloc (Obj.cells Tryz.zeroCells135 135)).alloc (Obj.cells Tryz.zeroCells135 135)).frozen? ⟨w.heap.size + 1, k, none⟩ = false) := fun k => World.frozen?_alloc_at _ _ _ _ (by simp)
  have hK : Hid (Kept w ((w.alloc (Obj.cells Tryz.zeroCells135 135)).alloc (Obj.cells Tryz.zeroCells135 135))) := ((Below.refl _ _).alloc (Nat.le_refl _) _).alloc (by simp) _
  go_enter Tryz.func79, Tryz.ntmps79
  go_upto_region 2 with fail
  generalize ((w.alloc (Obj.cells Tryz.zeroCells135 135)).alloc (Obj.cells Tryz.zeroCells135 135)) = w0 at *
  obtain ⟨z0, hc0⟩ := hR.out 256 (by omega)
  rw [Nat.zero_add] at hc0
  have hf0 := hF.out 256
  go_wp2
  go_loopw [4, 5, 6] (fun v _ _ W => ∃ k : Nat, k ≤ n ∧ v = .int .i64 (k : Int) ∧ IR W (w.heap.size + 1) 0 316 ∧ W.there w.heap.size 0 316 ∧ (∀ k, W.frozen? ⟨w.heap.size + 1, k, none⟩ = false) ∧ Kept w W) (fun v _ _ _ => n - (intOf v).toNat)
  case atStart => exact ⟨0, by omega, rfl, hR.out.set _ _, there_set hTh.out _ (by omega), fun j => by rw [World.frozen?_setCell]; exact hF.out j, hK.out.setCell (by simp) _⟩
  case round =>
    obtain ⟨k, hk, rfl, hr, ht, hf, hK2⟩ := hrel
    have HR : Hid (IR wr (w.heap.size + 1) 0 316) := hr
    have HF : Hid (∀ k, wr.frozen? ⟨w.heap.size + 1, k, none⟩ = false) := hf
    have HTh : Hid (wr.there w.heap.size 0 316) := ht
    have HK : Hid (Kept w wr) := hK2
    clear hR hTh hF hK hr ht hf hc0 hf0
    by_cases c1 : k < n
    · have c1' : (k : Int) < (n : Int) := by omega
      have k0 : (0 : Int) ≤ (k : Int) := by omega
      obtain ⟨g, c', B, L, D, e, b0, b1, l0, l1, d0, d1, y0, y1, y2⟩ := (HL.out wr hK2).cells k c1
      injection e with e1 _ e3
      subst e1
      subst e3
      clear hK2
      by_cases c2 : L = 0
      · subst c2
        obtain ⟨b, rfl⟩ : ∃ b : Nat, B = (b : Int) := ⟨B.toNat, by omega⟩
        have b2 : (b : Int) < 286 := by omega
        obtain ⟨z, hz⟩ := HR.out b (by omega)
        rw [Nat.zero_add] at hz
        have f1 := HF.out b
        go_wp2
        exact ⟨⟨k + 1, by omega, by go_num, HR.out.set _ _, there_set HTh.out _ (by omega), fun j => by rw [World.frozen?_setCell]; exact HF.out j, HK.out.setCell (by simp) _⟩, by simp [intOf]; omega⟩
      · have c2' : (L == 0) = false := by rw [beq_eq_false_iff_ne]; exact c2
        go_wp2_with fail
        refine (lensym_any L wr (HT.out wr HK.out)).mono ?_
        rintro r w1 ⟨⟨s, hs, rfl⟩, hk1⟩
        have hlt : w.heap.size + 1 < wr.heap.size := by
          obtain ⟨z, hz⟩ := HR.out 0 (by omega)
          exact World.block_lt_of_cell? _ _ hz
        have HR1 : Hid (IR w1 (w.heap.size + 1) 0 316) := HR.out.kept hk1
        have HF1 : Hid (∀ k, w1.frozen? ⟨w.heap.size + 1, k, none⟩ = false) := fun j => (hk1.frozen (p := ⟨w.heap.size + 1, j, none⟩) hlt).trans (HF.out j)
        have HTh1 : Hid (w1.there w.heap.size 0 316) := there_kept HTh.out hk1
        have HK1 : Hid (Kept w w1) := HK.out.trans hk1
        have gl := World.block_lt_of_cell? _ _ y2
        have y3 : w1.cell? ⟨g, k * 3 + 2, none⟩ = some (.int .i64 D) := (hk1.cell (p := ⟨g, k * 3 + 2, none⟩) gl).trans y2
        have gw : g ≠ w.heap.size + 1 := by
          intro e
          obtain ⟨g', c'', B', L', D', e', _, _, _, _, _, _, x0, _, _⟩ := (HL.out w (Kept.refl _)).cells k c1
          injection e' with e1 _ _
          injection e1 with e1
          injection e1 with e1 _ _
          have := World.block_lt_of_cell? _ _ x0
          simp at this
          omega
        clear hk1 HR HF HTh HK y0 y1 y2 c2 c2' gl
        have s0 : (0 : Int) ≤ (s : Int) := by omega
        have s1 : (s : Int) < 286 := by omega
        obtain ⟨z, hz⟩ := HR1.out s (by omega)
        rw [Nat.zero_add] at hz
        have f1 := HF1.out s
        have y4 : ∀ u, (w1.setCell ⟨w.heap.size + 1, s, none⟩ u).cell? ⟨g, k * 3 + 2, none⟩ = some (.int .i64 D) := fun u => (World.cell?_setCell_other _ _ _ _ (by intro e; injection e with e _ _; exact gw e.symm)).trans y3
        go_upto_region 11 with fail
        have HR2 : Hid (IR (w1.setCell ⟨w.heap.size + 1, s, none⟩ (.int .i64 (wrap64 (z + 1)))) (w.heap.size + 1) 0 316) := HR1.out.set _ _
        have HF2 : Hid (∀ k, (w1.setCell ⟨w.heap.size + 1, s, none⟩ (.int .i64 (wrap64 (z + 1)))).frozen? ⟨w.heap.size + 1, k, none⟩ = false) := fun j => by show _ = _; rw [World.frozen?_setCell]; exact HF1.out j
        have HTh2 : Hid ((w1.setCell ⟨w.heap.size + 1, s, none⟩ (.int .i64 (wrap64 (z + 1)))).there w.heap.size 0 316) := there_set HTh1.out _ (by omega)
        have HK2 : Hid (Kept w (w1.setCell ⟨w.heap.size + 1, s, none⟩ (.int .i64 (wrap64 (z + 1))))) := HK1.out.setCell (by simp) _
        replace y4 := y4 (.int .i64 (wrap64 (z + 1)))
        generalize w1.setCell ⟨w.heap.size + 1, s, none⟩ (.int .i64 (wrap64 (z + 1))) = w2 at *
        clear HR1 HF1 HTh1 HK1 hz f1 y3
        go_wp2_with fail
        refine (dissym_any D w2 (HT.out w2 HK2.out)).mono ?_
        rintro r w3 ⟨⟨t, ht0, ht1, rfl⟩, hk3⟩
        have hlt2 : w.heap.size + 1 < w2.heap.size := by
          obtain ⟨z, hz⟩ := HR2.out 0 (by omega)
          exact World.block_lt_of_cell? _ _ hz
        have HR3 : Hid (IR w3 (w.heap.size + 1) 0 316) := HR2.out.kept hk3
        have HF3 : Hid (∀ k, w3.frozen? ⟨w.heap.size + 1, k, none⟩ = false) := fun j => (hk3.frozen (p := ⟨w.heap.size + 1, j, none⟩) hlt2).trans (HF2.out j)
        have HTh3 : Hid (w3.there w.heap.size 0 316) := there_kept HTh2.out hk3
        have HK3 : Hid (Kept w w3) := HK2.out.trans hk3
        clear hk3 HR2 HF2 HTh2 HK2 y4
        by_cases c3 : 0 ≤ t
        · obtain ⟨d, rfl⟩ : ∃ d : Nat, t = (d : Int) := ⟨t.toNat, by omega⟩
          obtain ⟨z, hz⟩ := HR3.out (286 + d) (by omega)
          rw [Nat.zero_add] at hz
          have f1 := HF3.out (286 + d)
          go_wp2
          exact ⟨⟨k + 1, by omega, by go_num, HR3.out.set _ _, there_set HTh3.out _ (by omega), fun j => by rw [World.frozen?_setCell]; exact HF3.out j, HK3.out.setCell (by simp) _⟩, by simp [intOf]; omega⟩
        · go_wp2
          exact ⟨⟨k + 1, by omega, by go_num, HR3.out, HTh3.out, HF3.out, HK3.out⟩, by simp [intOf]; omega⟩
    · have c1' : ¬ (k : Int) < (n : Int) := by omega
      obtain ⟨cs, hcl, hcr, hcz⟩ := HR.out.list
      have hone : Hid _ := IR.one hcl hcz
      have hcz' : Hid (∀ j, j < 316 → ∃ z : Int, cs[j]? = some (.int .i64 z)) := hcz
      have hcl' : Hid (cs.length = 316) := hcl
      have hcr' : Hid (wr.rangeAt (w.heap.size + 1) 0 cs) := hcr
      clear hcl hcz hcr hK2
      have hi : Hid ((Tryz.prog.info? 135).map (·.size) = some cs.length) := by show _ = _; rw [hcl'.out]; exact size316
      go_wp2
      refine wp_load_mid 135 _ rfl (w.heap.size + 1) 0 rfl cs _ hcr'.out Tryz.underlying135 rfl hi.out ?_
      have hsc : (storeCells ⟨w.heap.size, 0, none⟩ cs).run Tryz.prog wr = .ok () (wr.setCells w.heap.size 0 cs) := by
        have := run_storeCells_cells (P := Tryz.prog) w.heap.size 0 cs 0 wr (fun j hj => by simpa using (HTh.out j (by rw [← hcl'.out]; exact hj)).1) (fun j hj => by simpa using (HTh.out j (by rw [← hcl'.out]; exact hj)).2) hone.out
        simpa using this
      go_wp2
      have hld : (loadVar 135 ⟨w.heap.size, 0, none⟩).run Tryz.prog (wr.setCells w.heap.size 0 cs) = .ok (.agg cs.toArray) (wr.setCells w.heap.size 0 cs) :=
        run_loadVar_mid _ _ _ _ cs _ (World.rangeAt_setCells_same _ _ _ _ (by rw [hcl'.out]; exact HTh.out)) Tryz.underlying135 rfl hi.out
      refine bodyPost_ret (v := .agg cs.toArray) ?_ rfl ⟨⟨cs, rfl, hcl'.out, hcz'.out⟩, Kept.setCells (Nat.le_refl _) _ _ HK.out⟩
      exact results_cell1 rfl _ _ _ _ _ rfl hld
end Go.Proofs.YtehnbejlhjkciaaGreatDoor
