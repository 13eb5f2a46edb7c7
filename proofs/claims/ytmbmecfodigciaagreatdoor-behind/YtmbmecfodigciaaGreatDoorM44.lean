import Derived.Test.YtmbmecfodigciaaGreatDoorM43
import Derived.Test.YtmbmecfodigciaaGreatDoorM42
set_option maxRecDepth 100000
set_option maxHeartbeats 6400000
namespace Go.Proofs.YtmbmecfodigciaaGreatDoor
open Go.RowKit Px
set_option linter.unusedSimpArgs false
set_option linter.unusedVariables false
/-- A snapshot under way in block g: its error and place; and whether it is done. -/
def SnD (d : Dc) (w1 : World) (g : Nat) (W : World) : Prop := ∃ cc, Blk W g 11 cc ∧ (∀ i, i < 11 → (cc i).oneCell' = true) ∧ Kept w1 W ∧ cc 0 = .int .i64 (d.err : Int) ∧ cc 1 = .int .i64 (d.at1 : Int)
def SnE (d : Dc) (DN : Bool) (w1 : World) (g : Nat) (W : World) : Prop := ∃ cc, Blk W g 11 cc ∧ (∀ i, i < 11 → (cc i).oneCell' = true) ∧ Kept w1 W ∧ cc 0 = .int .i64 (d.err : Int) ∧ cc 1 = .int .i64 (d.at1 : Int) ∧ cc 2 = .bool DN
theorem SnE.kept {d : Dc} {DN : Bool} {w1 W : World} {g : Nat} (h : SnE d DN w1 g W) : Kept w1 W := by
  obtain ⟨_, _, _, k, _⟩ := h; exact k
theorem SnE.on {d : Dc} {DN : Bool} {w1 W W' : World} {g : Nat} (h : SnE d DN w1 g W) (k : Kept W W') : SnE d DN w1 g W' := by
  obtain ⟨cc, h1, h2, h3, h4⟩ := h; exact ⟨cc, h1.kept k, h2, h3.trans k, h4⟩
theorem SnE.set {d : Dc} {DN : Bool} {w1 W : World} {g k : Nat} (h : SnE d DN w1 g W) (hg : w1.heap.size ≤ g) (hk : k < 11) (hk2 : 2 < k) (v : Value) (hv : v.oneCell' = true) : SnE d DN w1 g (W.setCell ⟨g, k, none⟩ v) := by
  obtain ⟨cc, h1, h2, h3, h4, h5, h6⟩ := h
  refine ⟨_, h1.set hk v, fun i hi => ?_, h3.setCell hg v, by rw [upd_ne _ _ _ (by omega)]; exact h4, by rw [upd_ne _ _ _ (by omega)]; exact h5, by rw [upd_ne _ _ _ (by omega)]; exact h6⟩
  by_cases e : i = k
  · subst e; rw [upd_same]; exact hv
  · rw [upd_ne _ _ _ e]; exact h2 i hi
theorem SnD.done {d : Dc} {DN : Bool} {w1 W : World} {g : Nat} (h : SnD d w1 g W) (hg : w1.heap.size ≤ g) (v : Value) (hv : v = .bool DN) : SnE d DN w1 g (W.setCell ⟨g, 2, none⟩ v) := by
  obtain ⟨cc, h1, h2, h3, h4, h5⟩ := h
  refine ⟨_, h1.set (k := 2) (by omega) v, fun i hi => ?_, h3.setCell hg v, by rw [upd_ne _ _ _ (by omega)]; exact h4, by rw [upd_ne _ _ _ (by omega)]; exact h5, by rw [upd_same]; exact hv⟩
  by_cases e : i = 2
  · subst e; rw [upd_same, hv]; rfl
  · rw [upd_ne _ _ _ e]; exact h2 i hi
theorem snap_d (b n : Nat) (c : Nat → Value) (d : Dc) (w : World) (hB : Blk w b n c) (hV : DcV c 0 d) (hn : 5957 ≤ n) (hp : d.file.hd.W = 0 ∨ PicOk c 4401 24 n d.file.rw d.file.tl d.file.hd) (hG : GrdAt w) :
    Calls Tryz.prog 24 #[.pointer (some ⟨b, 0, none⟩)] w fun e w' => ∃ cs : List Value, e = .returned (.agg cs.toArray) ∧ cs.length = 11 ∧ (∀ v ∈ cs, v.oneCell' = true) ∧ cs[0]? = some (.int .i64 (d.err : Int)) ∧ cs[1]? = some (.int .i64 (d.at1 : Int)) ∧ cs[2]? = some (.bool (decide (d.err = 0) && decide (d.file.part = 5))) ∧ Kept w w' := by
  have hbw := hB.lt
  have ke := hB.at (i := 5955) (by omega) hV.err
  have ka := hB.at (i := 5956) (by omega) hV.at1
  have HB : Hid (Blk w b n c) := hB
  have HV : Hid (DcV c 0 d) := hV
  have HP0 : Hid (d.file.hd.W = 0 ∨ PicOk c 4401 24 n d.file.rw d.file.tl d.file.hd) := hp
  obtain ⟨DN, hDN⟩ : ∃ DN, DN = (decide (d.err = 0) && decide (d.file.part = 5)) := ⟨_, rfl⟩
  rw [← hDN]
  replace hDN : Hid _ := hDN
  have HG : Hid (GrdAt w) := hG
  have K0 : Hid (Kept w (w.alloc (Obj.cells snZ 50))) := Below.alloc (Below.refl _ _) (Nat.le_refl _) _
  have B0 : Hid (Blk (w.alloc (Obj.cells snZ 50)) w.heap.size 11 (fun i => snZ.getD i undef)) := Blk.new w snZ _ 11 rfl
  clear hB hV hp hG
  unfold snZ at K0 B0
  go_enter Tryz.func24, Tryz.ntmps24
  go_upto_region 3 with fail
  generalize w.alloc (Obj.cells #[.int .i64 0, .int .i64 0, .bool false, .int .i64 0, .int .i64 0, .int .i64 0, .int .i64 0, .int .i64 0, .slice none 0 0, .slice none 0 0, .slice none 0 0] 50) = w1 at *
  have ke1 := (K0.out.cell (p := ⟨b, 5955, none⟩) hbw).trans ke
  have ka1 := (K0.out.cell (p := ⟨b, 5956, none⟩) hbw).trans ka
  have hb1 : b < w1.heap.size := Nat.lt_of_lt_of_le hbw K0.out.size
  replace ke1 : w1.cell? ⟨b, 5955, none⟩ = some (.int .i64 (d.err : Int)) := ke1
  replace ka1 : w1.cell? ⟨b, 5956, none⟩ = some (.int .i64 (d.at1 : Int)) := ka1
  clear ke ka
  have HC1 : Hid (∀ W, Kept w1 W → (W.cell? ⟨b, 5955, none⟩ = some (.int .i64 (d.err : Int)) ∧ W.cell? ⟨b, 5956, none⟩ = some (.int .i64 (d.at1 : Int)))) := fun W k => ⟨(k.cell (p := ⟨b, 5955, none⟩) hb1).trans ke1, (k.cell (p := ⟨b, 5956, none⟩) hb1).trans ka1⟩
  go_region_held3 (fun W => W.cell? ⟨b, 5955, none⟩ = some (.int .i64 (d.err : Int)) ∧ W.cell? ⟨b, 5956, none⟩ = some (.int .i64 (d.at1 : Int))) (first | exact ⟨ke1, ka1⟩ | exact HC1.out _ (Below.alloc ((Kept.refl _).drewN 1) (by simp) _) | go_keep) (fail)
  have K2 : Hid (Kept w1 (w1.alloc (Obj.cells #[.int .i64 (d.err : Int), .int .i64 (d.at1 : Int), .bool false, .int .i64 0, .int .i64 0, .int .i64 0, .int .i64 0, .int .i64 0, .slice none 0 0, .slice none 0 0, .slice none 0 0] 50)).drew) := Kept.drewN (Below.alloc (Below.refl _ _) (Nat.le_refl _) _) 1
  have B2 : Hid (Blk (w1.alloc (Obj.cells #[.int .i64 (d.err : Int), .int .i64 (d.at1 : Int), .bool false, .int .i64 0, .int .i64 0, .int .i64 0, .int .i64 0, .int .i64 0, .slice none 0 0, .slice none 0 0, .slice none 0 0] 50)).drew w1.heap.size 11 (fun i => (#[.int .i64 (d.err : Int), .int .i64 (d.at1 : Int), .bool false, .int .i64 0, .int .i64 0, .int .i64 0, .int .i64 0, .int .i64 0, .slice none 0 0, .slice none 0 0, .slice none 0 0] : Array Value).getD i undef)) := (Blk.new w1 _ _ 11 rfl).kept ((Kept.refl _).drewN 1)
  have O2 : Hid (∀ i, i < 11 → ((#[.int .i64 (d.err : Int), .int .i64 (d.at1 : Int), .bool false, .int .i64 0, .int .i64 0, .int .i64 0, .int .i64 0, .int .i64 0, .slice none 0 0, .slice none 0 0, .slice none 0 0] : Array Value).getD i undef).oneCell' = true) := fun i hi => by
    match i, hi with
    | 0, _ => rfl
    | 1, _ => rfl
    | 2, _ => rfl
    | 3, _ => rfl
    | 4, _ => rfl
    | 5, _ => rfl
    | 6, _ => rfl
    | 7, _ => rfl
    | 8, _ => rfl
    | 9, _ => rfl
    | 10, _ => rfl
  have S2 : Hid (SnD d w1 w1.heap.size (w1.alloc (Obj.cells #[.int .i64 (d.err : Int), .int .i64 (d.at1 : Int), .bool false, .int .i64 0, .int .i64 0, .int .i64 0, .int .i64 0, .int .i64 0, .slice none 0 0, .slice none 0 0, .slice none 0 0] 50)).drew) := ⟨_, B2.out, O2.out, K2.out, rfl, rfl⟩
  clear K2 B2 O2 HC1 ke1 ka1
  generalize (w1.alloc (Obj.cells #[.int .i64 (d.err : Int), .int .i64 (d.at1 : Int), .bool false, .int .i64 0, .int .i64 0, .int .i64 0, .int .i64 0, .int .i64 0, .slice none 0 0, .slice none 0 0, .slice none 0 0] 50)).drew = w2 at *
  obtain ⟨g3, hg3⟩ : ∃ g, g = w1.heap.size := ⟨_, rfl⟩
  rw [← hg3] at S2 ⊢
  replace hg3 : Hid _ := hg3
  have BW : Hid (∀ W, Kept w1 W → Blk W b n c) := fun W k => (HB.out.kept K0.out).kept k
  have GW : Hid (∀ W, Kept w1 W → GrdAt W) := fun W k => (HG.out.kept K0.out).kept k
  go_upto_region 4 with fail
  go_cut [] from 17 (fun W => SnE d DN w1 g3 W)
  case first =>
    obtain ⟨cc, hB2, hO2, hK2, hc0, hc1⟩ := S2.out
    have HC0 : Hid (cc 0 = .int .i64 (d.err : Int)) := hc0
    have HC1 : Hid (cc 1 = .int .i64 (d.at1 : Int)) := hc1
    clear hc0 hc1
    have ke := (BW.out w2 hK2).at (i := 5955) (by omega) HV.out.err
    replace ke : w2.cell? ⟨b, 5955, none⟩ = some (.int .i64 (d.err : Int)) := ke
    obtain ⟨OV, k2⟩ : ∃ OV, w2.cell? ⟨g3, 2, none⟩ = some OV := ⟨_, hB2.cell 2 (by omega)⟩
    have z2 := hB2.fz 2
    have HB2 : Hid (Blk w2 g3 11 cc) := hB2
    have HO2 : Hid (∀ i, i < 11 → (cc i).oneCell' = true) := hO2
    have HK2 : Hid (Kept w1 w2) := hK2
    have FE : Hid (Calls Tryz.prog 41 #[.pointer (some ⟨b, 0, none⟩)] w2 fun e w' => e = .returned (.bool (decide (d.file.part = 5))) ∧ w' = w2) := rdEnded_x b 0 n c d.file w2 (BW.out w2 hK2) HV.out.file (by omega)
    clear hB2 hO2 hK2
    have HDZ : Hid (d.err = 0 → DN = decide (d.file.part = 5)) := fun q => by rw [hDN.out, decide_eq_true q]; rfl
    have HDN : Hid (d.err ≠ 0 → DN = false) := fun q => by rw [hDN.out, decide_eq_false q]; rfl
    clear hDN
    generalize decide (d.file.part = 5) = EE at *
    by_cases he : d.err = 0
    · have he' : ((d.err : Int) == 0) = true := by rw [beq_iff_eq]; omega
      have hEE : Hid (DN = EE) := HDZ.out he
      replace he : Hid _ := he
      go_wp2_with fail
      refine FE.out.mono ?_
      rintro e w3 ⟨rfl, hw3⟩
      subst w3
      go_wp2_with fail
      all_goals
        go_meet
        case rel => exact SnD.done ⟨cc, HB2.out, HO2.out, HK2.out, HC0.out, HC1.out⟩ (by rw [hg3.out]; exact Nat.le_refl _) _ (by first | (rw [hEE.out]; done) | (rw [hEE.out]; rfl) | (have := hEE.out; simp_all))
    · have he' : ((d.err : Int) == 0) = false := by rw [beq_eq_false_iff_ne]; omega
      have hEE : Hid (DN = false) := HDN.out he
      go_wp2_with fail
      go_meet
      case rel => exact SnD.done ⟨cc, HB2.out, HO2.out, HK2.out, HC0.out, HC1.out⟩ (by rw [hg3.out]; exact Nat.le_refl _) _ (by rw [hEE.out])
  case rest =>
    have S3 : Hid (SnE d DN w1 g3 wc) := hcut
    clear hcut S2
    have K3 : Hid (Kept w1 wc) := S3.out.kept
    go_wp2_with fail
    refine (rdHead_x b 0 n c d.file wc (BW.out wc K3.out) HV.out.file (by omega)).mono ?_
    rintro e w4 ⟨rfl, hk4⟩
    have S5 : Hid (SnE d DN w1 g3 (w4.alloc (Obj.cells #[.int .i64 (d.file.hd.W : Int), .int .i64 (d.file.hd.H : Int), .int .i64 (d.file.hd.D : Int), .int .i64 (d.file.hd.K : Int), .int .i64 (d.file.hd.L : Int)] 71))) := (S3.out.on hk4).on (Below.alloc (Below.refl _ _) (Nat.le_refl _) _)
    have C5 : Hid (∀ j v, (#[Value.int .i64 (d.file.hd.W : Int), .int .i64 (d.file.hd.H : Int), .int .i64 (d.file.hd.D : Int), .int .i64 (d.file.hd.K : Int), .int .i64 (d.file.hd.L : Int)] : Array Value)[j]? = some v → (w4.alloc (Obj.cells #[.int .i64 (d.file.hd.W : Int), .int .i64 (d.file.hd.H : Int), .int .i64 (d.file.hd.D : Int), .int .i64 (d.file.hd.K : Int), .int .i64 (d.file.hd.L : Int)] 71)).cell? ⟨w4.heap.size, j, none⟩ = some v) := fun j v hv => (World.cell?_alloc_at _ _ _ _ rfl).trans hv
    have hg34 : g3 < w4.heap.size := by
      obtain ⟨cc, h1, _⟩ := S3.out
      exact Nat.lt_of_lt_of_le h1.lt hk4.size
    by_cases hWz : d.file.hd.W = 0
    · have hW0 : ((d.file.hd.W : Int) == 0) = true := by rw [beq_iff_eq]; omega
      replace hWz : Hid _ := hWz
      clear hk4 S3 K3
      go_upto_region 6 with fail
      generalize w4.alloc (Obj.cells #[.int .i64 (d.file.hd.W : Int), .int .i64 (d.file.hd.H : Int), .int .i64 (d.file.hd.D : Int), .int .i64 (d.file.hd.K : Int), .int .i64 (d.file.hd.L : Int)] 71) = w5 at *
      obtain ⟨g4, hg4⟩ : ∃ g, g = w4.heap.size := ⟨_, rfl⟩
      rw [← hg4] at C5 hg34 ⊢
      clear hg4
      have x0 := C5.out 0 _ rfl
      obtain ⟨c12, B12, O12, K12, e0, e1, e2⟩ := S5.out
      obtain ⟨cs, hcs⟩ : ∃ cs, cs = (List.range 11).map c12 := ⟨_, rfl⟩
      have hcl : cs.length = 11 := by rw [hcs]; exact range_len c12 11
      have hone : ∀ v ∈ cs, v.oneCell' = true := by
        intro v hv
        rw [hcs, List.mem_map] at hv
        obtain ⟨j, hj, rfl⟩ := hv
        exact O12 j (List.mem_range.1 hj)
      have hcr : Hid (w5.rangeAt g3 0 cs) := by
        show w5.rangeAt g3 0 cs
        have := B12.range (k := 0) (m := 11) (by omega)
        rw [hcs]
        rw [show (fun j => c12 (0 + j)) = c12 from funext (fun j => by rw [Nat.zero_add])] at this
        exact this
      have h0 : Hid (cs[0]? = some (.int .i64 (d.err : Int))) := by show cs[0]? = _; rw [hcs, range_get c12 11 0 (by omega), e0]
      have h1 : Hid (cs[1]? = some (.int .i64 (d.at1 : Int))) := by show cs[1]? = _; rw [hcs, range_get c12 11 1 (by omega), e1]
      have h2 : Hid (cs[2]? = some (.bool DN)) := by show cs[2]? = _; rw [hcs, range_get c12 11 2 (by omega), e2]
      have hi : Hid ((Tryz.prog.info? 50).map (·.size) = some cs.length) := by show _ = _; rw [hcl]; exact info11
      have BR : Blk w5 w.heap.size 11 _ := B0.out.kept K12
      have ht : Hid (w5.there w.heap.size 0 cs.length) := by show w5.there _ 0 cs.length; rw [hcl]; exact BR.there (by omega)
      have hsc5 : (storeCells ⟨w.heap.size, 0, none⟩ cs).run Tryz.prog w5 = .ok () (w5.setCells w.heap.size 0 cs) := store_all ht.out hone
      have hld : Hid ((loadVar 50 ⟨w.heap.size, 0, none⟩).run Tryz.prog (w5.setCells w.heap.size 0 cs) = .ok (.agg cs.toArray) (w5.setCells w.heap.size 0 cs)) :=
        run_loadVar_mid _ _ _ _ cs _ (World.rangeAt_setCells_same _ _ _ _ ht.out) Tryz.underlying50 rfl hi.out
      have F13 : Hid (Fr1 w.heap.size w5 (w5.setCells w.heap.size 0 cs)) := Fr1.sets _ _ (Fr.refl _ _)
      have K13 : Hid (Kept w (w5.setCells w.heap.size 0 cs)) := Fr.to_kept (S := fun j => j = w.heap.size) (K0.out.trans K12) F13.out (fun i hi e => by omega)
      replace hcs : Hid _ := hcs
      replace hcl : Hid _ := hcl
      replace hone : Hid _ := hone
      clear B12 O12 BR e0 e1 e2
      clear K12
      go_upto_region 7 with fail
      go_step
      refine wpList_load_mid rfl 50 _ rfl g3 0 rfl cs _ hcr.out Tryz.underlying50 rfl hi.out ?_
      go_wp2
      exact bodyPost_ret (v := .agg cs.toArray) (results_cell1 rfl _ _ _ _ _ rfl hld.out) rfl ⟨cs, rfl, hcl.out, hone.out, h0.out, h1.out, h2.out, K13.out⟩
    have HP : Hid (PicOk c 4401 24 n d.file.rw d.file.tl d.file.hd) := by rcases HP0.out with q | q; exact absurd q hWz; exact q
    have hW0 : ((d.file.hd.W : Int) == 0) = false := by have := HP.out.W1; rw [beq_eq_false_iff_ne]; omega
    clear hk4 S3 K3
    go_upto_region 6 with fail
    generalize w4.alloc (Obj.cells #[.int .i64 (d.file.hd.W : Int), .int .i64 (d.file.hd.H : Int), .int .i64 (d.file.hd.D : Int), .int .i64 (d.file.hd.K : Int), .int .i64 (d.file.hd.L : Int)] 71) = w5 at *
    obtain ⟨g4, hg4⟩ : ∃ g, g = w4.heap.size := ⟨_, rfl⟩
    rw [← hg4] at C5 hg34 ⊢
    clear hg4
    have x0 := C5.out 0 _ rfl
    have x1 := C5.out 1 _ rfl
    have x2 := C5.out 2 _ rfl
    have x3 := C5.out 3 _ rfl
    have x4 := C5.out 4 _ rfl
    have hne : g4 ≠ g3 := by omega
    have hne' : g3 ≠ g4 := by omega
    have YY : Hid (∀ j, j < 11 → (∃ OV, w5.cell? ⟨g3, j, none⟩ = some OV)) := by
      obtain ⟨cc, h1, _⟩ := S5.out
      exact fun j hj => ⟨_, h1.cell j hj⟩
    have zz : ∀ j, w5.frozen? ⟨g3, j, none⟩ = false := by
      obtain ⟨cc, h1, _⟩ := S5.out
      exact h1.fz
    obtain ⟨V3, y3⟩ := YY.out 3 (by omega)
    obtain ⟨V4, y4⟩ := YY.out 4 (by omega)
    obtain ⟨V5, y5⟩ := YY.out 5 (by omega)
    obtain ⟨V6, y6⟩ := YY.out 6 (by omega)
    obtain ⟨V7, y7⟩ := YY.out 7 (by omega)
    have hgle : w1.heap.size ≤ g3 := by rw [hg3.out]; exact Nat.le_refl _
    have S6 : Hid (SnE d DN w1 g3 (((((w5.setCell ⟨g3, 3, none⟩ (.int .i64 (d.file.hd.W : Int))).setCell ⟨g3, 4, none⟩ (.int .i64 (d.file.hd.H : Int))).setCell ⟨g3, 5, none⟩ (.int .i64 (d.file.hd.K : Int))).setCell ⟨g3, 6, none⟩ (.int .i64 (d.file.hd.D : Int))).setCell ⟨g3, 7, none⟩ (.int .i64 (d.file.hd.L : Int)))) := ((((S5.out.set hgle (by omega) (by omega) _ rfl).set hgle (by omega) (by omega) _ rfl).set hgle (by omega) (by omega) _ rfl).set hgle (by omega) (by omega) _ rfl).set hgle (by omega) (by omega) _ rfl
    go_wp2_with fail
    generalize ((((w5.setCell ⟨g3, 3, none⟩ (.int .i64 (d.file.hd.W : Int))).setCell ⟨g3, 4, none⟩ (.int .i64 (d.file.hd.H : Int))).setCell ⟨g3, 5, none⟩ (.int .i64 (d.file.hd.K : Int))).setCell ⟨g3, 6, none⟩ (.int .i64 (d.file.hd.D : Int))).setCell ⟨g3, 7, none⟩ (.int .i64 (d.file.hd.L : Int)) = w6 at *
    clear x0 x1 x2 x3 x4 y3 y4 y5 y6 y7 YY zz S5 C5 hW0
    have K6 : Hid (Kept w1 w6) := S6.out.kept
    refine (rdKnown_x b 0 n c d.file w6 (BW.out w6 K6.out) HV.out.file (by omega) HP.out.W1 HP.out.W2 HP.out.H1 HP.out.H2).mono ?_
    rintro e w7 ⟨⟨gk, rfl, hgk1, hgk2, hgk3⟩, hk7⟩
    have S7 : Hid (SnE d DN w1 g3 w7) := S6.out.on hk7
    obtain ⟨V8, y8⟩ : ∃ OV, w7.cell? ⟨g3, 8, none⟩ = some OV := by
      obtain ⟨cc, h1, _⟩ := S7.out
      exact ⟨_, h1.cell 8 (by omega)⟩
    have z8 : ∀ j, w7.frozen? ⟨g3, j, none⟩ = false := by
      obtain ⟨cc, h1, _⟩ := S7.out
      exact h1.fz
    have S8 : Hid (SnE d DN w1 g3 (w7.setCell ⟨g3, 8, none⟩ (.slice (some ⟨gk, 0, none⟩) (d.file.hd.W * d.file.hd.H) (d.file.hd.W * d.file.hd.H)))) := S7.out.set hgle (by omega) (by omega) _ rfl
    obtain ⟨N, hN⟩ : ∃ N, N = d.file.hd.W * d.file.hd.H := ⟨_, rfl⟩
    rw [← hN] at S8 ⊢
    replace hN : Hid _ := hN
    clear hgk1 hgk2 hgk3 hk7 S6 K6
    go_wp2_with fail
    generalize w7.setCell ⟨g3, 8, none⟩ (.slice (some ⟨gk, 0, none⟩) N N) = w8 at *
    clear y8 z8 S7
    have K8 : Hid (Kept w1 w8) := S8.out.kept
    refine (rdPix_s b 0 n c d.file w8 (BW.out w8 K8.out) HV.out.file (by omega) HP.out).mono ?_
    rintro e w9 ⟨⟨gp, np, rfl⟩, hk9⟩
    have S9 : Hid (SnE d DN w1 g3 w9) := S8.out.on hk9
    obtain ⟨V9, y9⟩ : ∃ OV, w9.cell? ⟨g3, 9, none⟩ = some OV := by
      obtain ⟨cc, h1, _⟩ := S9.out
      exact ⟨_, h1.cell 9 (by omega)⟩
    have z9 : ∀ j, w9.frozen? ⟨g3, j, none⟩ = false := by
      obtain ⟨cc, h1, _⟩ := S9.out
      exact h1.fz
    have S10 : Hid (SnE d DN w1 g3 (w9.setCell ⟨g3, 9, none⟩ (.slice (some ⟨gp, 0, none⟩) np np))) := S9.out.set hgle (by omega) (by omega) _ rfl
    clear hk9 S8 K8
    go_wp2_with fail
    generalize w9.setCell ⟨g3, 9, none⟩ (.slice (some ⟨gp, 0, none⟩) np np) = w10 at *
    clear y9 z9 S9
    have K10 : Hid (Kept w1 w10) := S10.out.kept
    refine (rdShow_s b 0 n c d.file w10 (BW.out w10 K10.out) HV.out.file (by omega) HP.out (GW.out w10 K10.out)).mono ?_
    rintro e w11 ⟨⟨gs, ns, rfl⟩, hk11⟩
    have S11 : Hid (SnE d DN w1 g3 w11) := S10.out.on hk11
    obtain ⟨V10, y10⟩ : ∃ OV, w11.cell? ⟨g3, 10, none⟩ = some OV := by
      obtain ⟨cc, h1, _⟩ := S11.out
      exact ⟨_, h1.cell 10 (by omega)⟩
    have z10 : ∀ j, w11.frozen? ⟨g3, j, none⟩ = false := by
      obtain ⟨cc, h1, _⟩ := S11.out
      exact h1.fz
    have S12 : Hid (SnE d DN w1 g3 (w11.setCell ⟨g3, 10, none⟩ (.slice (some ⟨gs, 0, none⟩) ns ns))) := S11.out.set hgle (by omega) (by omega) _ rfl
    clear hk11 S10 K10
    go_upto_region 16 with fail
    generalize w11.setCell ⟨g3, 10, none⟩ (.slice (some ⟨gs, 0, none⟩) ns ns) = w12 at *
    clear y10 z10 S11
    obtain ⟨c12, B12, O12, K12, e0, e1, e2⟩ := S12.out
    obtain ⟨cs, hcs⟩ : ∃ cs, cs = (List.range 11).map c12 := ⟨_, rfl⟩
    have hcl : cs.length = 11 := by rw [hcs]; exact range_len c12 11
    have hone : ∀ v ∈ cs, v.oneCell' = true := by
      intro v hv
      rw [hcs, List.mem_map] at hv
      obtain ⟨j, hj, rfl⟩ := hv
      exact O12 j (List.mem_range.1 hj)
    have hcr : Hid (w12.rangeAt g3 0 cs) := by
      show w12.rangeAt g3 0 cs
      have := B12.range (k := 0) (m := 11) (by omega)
      rw [hcs]
      rw [show (fun j => c12 (0 + j)) = c12 from funext (fun j => by rw [Nat.zero_add])] at this
      exact this
    have h0 : Hid (cs[0]? = some (.int .i64 (d.err : Int))) := by show cs[0]? = _; rw [hcs, range_get c12 11 0 (by omega), e0]
    have h1 : Hid (cs[1]? = some (.int .i64 (d.at1 : Int))) := by show cs[1]? = _; rw [hcs, range_get c12 11 1 (by omega), e1]
    have h2 : Hid (cs[2]? = some (.bool DN)) := by show cs[2]? = _; rw [hcs, range_get c12 11 2 (by omega), e2]
    have hi : Hid ((Tryz.prog.info? 50).map (·.size) = some cs.length) := by show _ = _; rw [hcl]; exact info11
    have BR : Blk w12 w.heap.size 11 _ := B0.out.kept K12
    have ht : Hid (w12.there w.heap.size 0 cs.length) := by show w12.there _ 0 cs.length; rw [hcl]; exact BR.there (by omega)
    have hsc5 : (storeCells ⟨w.heap.size, 0, none⟩ cs).run Tryz.prog w12 = .ok () (w12.setCells w.heap.size 0 cs) := store_all ht.out hone
    have hld : Hid ((loadVar 50 ⟨w.heap.size, 0, none⟩).run Tryz.prog (w12.setCells w.heap.size 0 cs) = .ok (.agg cs.toArray) (w12.setCells w.heap.size 0 cs)) :=
      run_loadVar_mid _ _ _ _ cs _ (World.rangeAt_setCells_same _ _ _ _ ht.out) Tryz.underlying50 rfl hi.out
    have F13 : Hid (Fr1 w.heap.size w12 (w12.setCells w.heap.size 0 cs)) := Fr1.sets _ _ (Fr.refl _ _)
    have K13 : Hid (Kept w (w12.setCells w.heap.size 0 cs)) := Fr.to_kept (S := fun j => j = w.heap.size) (K0.out.trans K12) F13.out (fun i hi e => by omega)
    replace hcs : Hid _ := hcs
    replace hcl : Hid _ := hcl
    replace hone : Hid _ := hone
    clear B12 O12 BR e0 e1 e2
    clear K12
    go_step
    refine wpList_load_mid rfl 50 _ rfl g3 0 rfl cs _ hcr.out Tryz.underlying50 rfl hi.out ?_
    go_wp2
    exact bodyPost_ret (v := .agg cs.toArray) (results_cell1 rfl _ _ _ _ _ rfl hld.out) rfl ⟨cs, rfl, hcl.out, hone.out, h0.out, h1.out, h2.out, K13.out⟩
end Go.Proofs.YtmbmecfodigciaaGreatDoor
