import Derived.Test.YtmbmecfodigciaaGreatDoorRd49
import Derived.Test.YtmbmecfodigciaaGreatDoorRd50
import Derived.Test.YtmbmecfodigciaaGreatDoorRd48
set_option maxRecDepth 100000
set_option maxHeartbeats 6400000
namespace Go.Proofs.YtmbmecfodigciaaGreatDoor
open Go.RowKit Px
set_option linter.unusedSimpArgs false
set_option linter.unusedVariables false
def SnL (L : List Value) (w1 : World) (g : Nat) (W : World) : Prop := L.length = 11 ∧ (∀ v ∈ L, v.oneCell' = true) ∧ Kept w1 W ∧ Blk W g 11 (fun i => L.getD i undef)
theorem SnL.on {L : List Value} {w1 W W' : World} {g : Nat} (h : SnL L w1 g W) (k : Kept W W') : SnL L w1 g W' := ⟨h.1, h.2.1, h.2.2.1.trans k, h.2.2.2.kept k⟩
theorem SnL.set {L : List Value} {w1 W : World} {g k : Nat} (h : SnL L w1 g W) (hg : w1.heap.size ≤ g) (hk : k < 11) (v : Value) (hv : v.oneCell' = true) : SnL (L.set k v) w1 g (W.setCell ⟨g, k, none⟩ v) := by
 obtain ⟨h1, h2, h3, h4⟩ := h
 refine ⟨by rw [List.length_set]; exact h1, fun u hu => ?_, h3.setCell hg v, ?_⟩
 ·rcases List.mem_or_eq_of_mem_set hu with q | q
  ·exact h2 u q
  ·rw [q]; exact hv
 ·have e : (fun i => (L.set k v).getD i undef) = upd (fun i => L.getD i undef) k v := by
   funext i
   by_cases q : i = k
   ·subst q
    rw [upd_same, List.getD_eq_getElem?_getD, List.getElem?_set_self (by omega)]; rfl
   ·rw [upd_ne _ _ _ q, List.getD_eq_getElem?_getD, List.getElem?_set_ne (fun z => q z.symm), ← List.getD_eq_getElem?_getD]
  rw [e]; exact h4.set hk v
theorem SnL.put2 {L : List Value} {w1 W : World} {g : Nat} {DN : Bool} (h : SnL L w1 g W) (hg : w1.heap.size ≤ g) (v : Value) (hv : v = .bool DN) : SnL (L.set 2 (.bool DN)) w1 g (W.setCell ⟨g, 2, none⟩ v) := by
 subst hv
 exact h.set hg (by omega) _ rfl
theorem SnL.cell {L : List Value} {w1 W : World} {g : Nat} (h : SnL L w1 g W) (j : Nat) (hj : j < 11) : ∃ OV, W.cell? ⟨g, j, none⟩ = some OV := ⟨_, h.2.2.2.cell j hj⟩
def NumC (W : World) (lo g N : Nat) (f : Nat → Int) : Prop := lo ≤ g ∧ g < W.heap.size ∧ ∀ j, j < N → W.cell? ⟨g, j, none⟩ = some (.int .i64 (f j))
theorem NumC.kept {W W' : World} {lo g N : Nat} {f : Nat → Int} (h : NumC W lo g N f) (k : Kept W W') : NumC W' lo g N f := ⟨h.1, Nat.lt_of_lt_of_le h.2.1 k.size, fun j hj => (k.cell (p := ⟨g, j, none⟩) h.2.1).trans (h.2.2 j hj)⟩
theorem NumC.fr {W W' : World} {lo g N : Nat} {f : Nat → Int} {S : Nat → Prop} (h : NumC W lo g N f) (k : Fr S W W') (hS : ¬ S g) : NumC W' lo g N f := ⟨h.1, Nat.lt_of_lt_of_le h.2.1 k.size, fun j hj => (k.cell h.2.1 hS).trans (h.2.2 j hj)⟩
theorem NumC.low {W : World} {lo lo' g N : Nat} {f : Nat → Int} (h : NumC W lo g N f) (k : lo' ≤ lo) : NumC W lo' g N f := ⟨Nat.le_trans k h.1, h.2⟩
def knP (r : Rw) (h : Hd) (j : Nat) : Int := if r.known (j / h.W * 16 + j % h.W) then 1 else 0
def snNo (d : Dc) (DN : Bool) : List Value := [.int .i64 (d.err : Int), .int .i64 (d.at1 : Int), .bool DN, .int .i64 0, .int .i64 0, .int .i64 0, .int .i64 0, .int .i64 0, .slice none 0 0, .slice none 0 0, .slice none 0 0]
def snW (d : Dc) (DN : Bool) (gk gp gs : Nat) : List Value := [.int .i64 (d.err : Int), .int .i64 (d.at1 : Int), .bool DN, .int .i64 (d.file.hd.W : Int), .int .i64 (d.file.hd.H : Int), .int .i64 (d.file.hd.K : Int), .int .i64 (d.file.hd.D : Int), .int .i64 (d.file.hd.L : Int), .slice (some ⟨gk, 0, none⟩) (d.file.hd.W * d.file.hd.H) (d.file.hd.W * d.file.hd.H), .slice (some ⟨gp, 0, none⟩) (4 * (d.file.hd.W * d.file.hd.H)) (4 * (d.file.hd.W * d.file.hd.H)), .slice (some ⟨gs, 0, none⟩) (4 * (d.file.hd.W * d.file.hd.H)) (4 * (d.file.hd.W * d.file.hd.H))]
def SnX (w : World) (d : Dc) (e : Ending) (w' : World) : Prop := Kept w w' ∧ ((d.file.hd.W = 0 ∧ e = .returned (.agg (snNo d (decide (d.err = 0) && decide (d.file.part = 5))).toArray)) ∨ (d.file.hd.W ≠ 0 ∧ ∃ gk gp gs, e = .returned (.agg (snW d (decide (d.err = 0) && decide (d.file.part = 5)) gk gp gs).toArray) ∧ NumC w' w.heap.size gk (d.file.hd.W * d.file.hd.H) (knP d.file.rw d.file.hd) ∧ NumC w' w.heap.size gp (4 * (d.file.hd.W * d.file.hd.H)) (fun j => pxP d.file.rw d.file.tl d.file.hd (j / 4 % d.file.hd.W) (j / 4 / d.file.hd.W) (j % 4)) ∧ NumC w' w.heap.size gs (4 * (d.file.hd.W * d.file.hd.H)) (fun j => shP d.file.rw d.file.tl d.file.hd (j / 4 % d.file.hd.W) (j / 4 / d.file.hd.W) (j % 4))))
theorem snap_f (b n : Nat) (c : Nat → Value) (d : Dc) (w : World) (hB : Blk w b n c) (hV : DcV c 0 d) (hn : 5957 ≤ n) (hp : d.file.hd.W = 0 ∨ PicOk c 4401 24 n d.file.rw d.file.tl d.file.hd) (hpal : ∀ j, d.file.tl.pal j < 256) (hG : GrdAt w) :
  Calls Tryz.prog 24 #[.pointer (some ⟨b, 0, none⟩)] w fun e w' => SnX w d e w' := by
 have hbw := hB.lt
 have ke := hB.at (i := 5955) (by omega) hV.err
 have ka := hB.at (i := 5956) (by omega) hV.at1
 have HB : Hid (Blk w b n c) := hB
 have HV : Hid (DcV c 0 d) := hV
 have HP0 : Hid (d.file.hd.W = 0 ∨ PicOk c 4401 24 n d.file.rw d.file.tl d.file.hd) := hp
 obtain ⟨DN, hDN⟩ : ∃ DN, DN = (decide (d.err = 0) && decide (d.file.part = 5)) := ⟨_, rfl⟩
 unfold SnX
 rw [← hDN]
 have HPl : Hid (∀ j, d.file.tl.pal j < 256) := hpal
 clear hpal
 replace hDN : Hid _ := hDN
 have HG : Hid (GrdAt w) := hG
 have K0 : Hid (Kept w (w.alloc (Obj.cells snZ 50))) := Below.alloc (Below.refl _ _) (Nat.le_refl _) _
 have B0 : Hid (Blk (w.alloc (Obj.cells snZ 50)) w.heap.size 11 (fun i => snZ.getD i undef)) := Blk.new w snZ _ 11 rfl
 clear hB hV hp hG
 unfold snZ at K0 B0
 go_enter Tryz.func24, Tryz.ntmps24
 go_upto_region 3 with fail
 generalize w.alloc (Obj.cells #[.int .i64 0, .int .i64 0, .bool false, .int .i64 0, .int .i64 0, .int .i64 0, .int .i64 0, .int .i64 0, .slice none 0 0, .slice none 0 0, .slice none 0 0] 50) = w1 at *
 have ke1 := (K0.out.cell (p := ⟨b, 5955, none⟩) hbw).trans ke
 have ka1 := (K0.out.cell (p := ⟨b, 5956, none⟩) hbw).trans ka
 have hb1 : b < w1.heap.size := Nat.lt_of_lt_of_le hbw K0.out.size
 replace ke1 : w1.cell? ⟨b, 5955, none⟩ = some (.int .i64 (d.err : Int)) := ke1
 replace ka1 : w1.cell? ⟨b, 5956, none⟩ = some (.int .i64 (d.at1 : Int)) := ka1
 clear ke ka
 have HC1 : Hid (∀ W, Kept w1 W → (W.cell? ⟨b, 5955, none⟩ = some (.int .i64 (d.err : Int)) ∧ W.cell? ⟨b, 5956, none⟩ = some (.int .i64 (d.at1 : Int)))) := fun W k => ⟨(k.cell (p := ⟨b, 5955, none⟩) hb1).trans ke1, (k.cell (p := ⟨b, 5956, none⟩) hb1).trans ka1⟩
 go_region_held3 (fun W => W.cell? ⟨b, 5955, none⟩ = some (.int .i64 (d.err : Int)) ∧ W.cell? ⟨b, 5956, none⟩ = some (.int .i64 (d.at1 : Int))) (first | exact ⟨ke1, ka1⟩ | exact HC1.out _ (Below.alloc ((Kept.refl _).drewN 1) (by simp) _) | go_keep) (fail)
 have K2 : Hid (Kept w1 (w1.alloc (Obj.cells #[.int .i64 (d.err : Int), .int .i64 (d.at1 : Int), .bool false, .int .i64 0, .int .i64 0, .int .i64 0, .int .i64 0, .int .i64 0, .slice none 0 0, .slice none 0 0, .slice none 0 0] 50)).drew) := Kept.drewN (Below.alloc (Below.refl _ _) (Nat.le_refl _) _) 1
 have B2 : Hid (Blk (w1.alloc (Obj.cells #[.int .i64 (d.err : Int), .int .i64 (d.at1 : Int), .bool false, .int .i64 0, .int .i64 0, .int .i64 0, .int .i64 0, .int .i64 0, .slice none 0 0, .slice none 0 0, .slice none 0 0] 50)).drew w1.heap.size 11 (fun i => (#[.int .i64 (d.err : Int), .int .i64 (d.at1 : Int), .bool false, .int .i64 0, .int .i64 0, .int .i64 0, .int .i64 0, .int .i64 0, .slice none 0 0, .slice none 0 0, .slice none 0 0] : Array Value).getD i undef)) := (Blk.new w1 _ _ 11 rfl).kept ((Kept.refl _).drewN 1)
 have S2 : Hid (SnL (snNo d false) w1 w1.heap.size (w1.alloc (Obj.cells #[.int .i64 (d.err : Int), .int .i64 (d.at1 : Int), .bool false, .int .i64 0, .int .i64 0, .int .i64 0, .int .i64 0, .int .i64 0, .slice none 0 0, .slice none 0 0, .slice none 0 0] 50)).drew) := by
  refine ⟨rfl, fun v hv => ?_, K2.out, ?_⟩
  ·unfold snNo at hv
   simp only [List.mem_cons, List.not_mem_nil, or_false] at hv
   rcases hv with rfl | rfl | rfl | rfl | rfl | rfl | rfl | rfl | rfl | rfl | rfl <;> rfl
  ·have e : (fun i => (snNo d false).getD i undef) = (fun i => (#[.int .i64 (d.err : Int), .int .i64 (d.at1 : Int), .bool false, .int .i64 0, .int .i64 0, .int .i64 0, .int .i64 0, .int .i64 0, .slice none 0 0, .slice none 0 0, .slice none 0 0] : Array Value).getD i undef) := by
    funext i
    rw [Array.getD_eq_getD_getElem?, List.getElem?_toArray, List.getD_eq_getElem?_getD]; rfl
   rw [e]; exact B2.out
 clear K2 B2 HC1 ke1 ka1
 generalize (w1.alloc (Obj.cells #[.int .i64 (d.err : Int), .int .i64 (d.at1 : Int), .bool false, .int .i64 0, .int .i64 0, .int .i64 0, .int .i64 0, .int .i64 0, .slice none 0 0, .slice none 0 0, .slice none 0 0] 50)).drew = w2 at *
 obtain ⟨g3, hg3⟩ : ∃ g, g = w1.heap.size := ⟨_, rfl⟩
 rw [← hg3] at S2 ⊢
 have hgle : w1.heap.size ≤ g3 := by rw [hg3]; exact Nat.le_refl _
 replace hg3 : Hid _ := hg3
 obtain ⟨L3, hL3⟩ : ∃ L3, L3 = snNo d DN := ⟨_, rfl⟩
 have HP2 : Hid (∀ W v, SnL (snNo d false) w1 g3 W → v = .bool DN → SnL L3 w1 g3 (W.setCell ⟨g3, 2, none⟩ v)) := fun W v h e => by rw [hL3]; exact h.put2 hgle v e
 replace hL3 : Hid _ := hL3
 have BW : Hid (∀ W, Kept w1 W → Blk W b n c) := fun W k => (HB.out.kept K0.out).kept k
 have GW : Hid (∀ W, Kept w1 W → GrdAt W) := fun W k => (HG.out.kept K0.out).kept k
 go_upto_region 4 with fail
 go_cut [] from 17 (fun W => SnL L3 w1 g3 W)
 case first =>
  have hK2 := S2.out.2.2.1
  have hB2 := S2.out.2.2.2
  have ke := (BW.out w2 hK2).at (i := 5955) (by omega) HV.out.err
  replace ke : w2.cell? ⟨b, 5955, none⟩ = some (.int .i64 (d.err : Int)) := ke
  obtain ⟨OV, k2⟩ : ∃ OV, w2.cell? ⟨g3, 2, none⟩ = some OV := ⟨_, hB2.cell 2 (by omega)⟩
  have z2 := hB2.fz 2
  have FE : Hid (Calls Tryz.prog 41 #[.pointer (some ⟨b, 0, none⟩)] w2 fun e w' => e = .returned (.bool (decide (d.file.part = 5))) ∧ w' = w2) := rdEnded_x b 0 n c d.file w2 (BW.out w2 hK2) HV.out.file (by omega)
  clear hB2 hK2
  have HDZ : Hid (d.err = 0 → DN = decide (d.file.part = 5)) := fun q => by rw [hDN.out, decide_eq_true q]; rfl
  have HDN : Hid (d.err ≠ 0 → DN = false) := fun q => by rw [hDN.out, decide_eq_false q]; rfl
  clear hDN
  generalize decide (d.file.part = 5) = EE at *
  by_cases he : d.err = 0
  ·have he' : ((d.err : Int) == 0) = true := by rw [beq_iff_eq]; omega
   have hEE : Hid (DN = EE) := HDZ.out he
   replace he : Hid _ := he
   go_wp2_with fail
   refine FE.out.mono ?_
   rintro e w3 ⟨rfl, hw3⟩
   subst w3
   go_wp2_with fail
   all_goals
    go_meet
    case rel => exact HP2.out _ _ S2.out (by first | (rw [hEE.out]; done) | (rw [hEE.out]; rfl) | (have := hEE.out; simp_all))
  ·have he' : ((d.err : Int) == 0) = false := by rw [beq_eq_false_iff_ne]; omega
   have hEE : Hid (DN = false) := HDN.out he
   go_wp2_with fail
   go_meet
   case rel => exact HP2.out _ _ S2.out (by rw [hEE.out])
 case rest =>
  have S3 : Hid (SnL L3 w1 g3 wc) := hcut
  clear hcut S2
  have K3 : Hid (Kept w1 wc) := S3.out.2.2.1
  go_wp2_with fail
  refine (rdHead_x b 0 n c d.file wc (BW.out wc K3.out) HV.out.file (by omega)).mono ?_
  rintro e w4 ⟨rfl, hk4⟩
  have S5 : Hid (SnL L3 w1 g3 (w4.alloc (Obj.cells #[.int .i64 (d.file.hd.W : Int), .int .i64 (d.file.hd.H : Int), .int .i64 (d.file.hd.D : Int), .int .i64 (d.file.hd.K : Int), .int .i64 (d.file.hd.L : Int)] 71))) := (S3.out.on hk4).on (Below.alloc (Below.refl _ _) (Nat.le_refl _) _)
  have C5 : Hid (∀ j v, (#[Value.int .i64 (d.file.hd.W : Int), .int .i64 (d.file.hd.H : Int), .int .i64 (d.file.hd.D : Int), .int .i64 (d.file.hd.K : Int), .int .i64 (d.file.hd.L : Int)] : Array Value)[j]? = some v → (w4.alloc (Obj.cells #[.int .i64 (d.file.hd.W : Int), .int .i64 (d.file.hd.H : Int), .int .i64 (d.file.hd.D : Int), .int .i64 (d.file.hd.K : Int), .int .i64 (d.file.hd.L : Int)] 71)).cell? ⟨w4.heap.size, j, none⟩ = some v) := fun j v hv => (World.cell?_alloc_at _ _ _ _ rfl).trans hv
  have hg34 : g3 < w4.heap.size := by
   exact Nat.lt_of_lt_of_le S3.out.2.2.2.lt hk4.size
  by_cases hWz : d.file.hd.W = 0
  ·have hW0 : ((d.file.hd.W : Int) == 0) = true := by rw [beq_iff_eq]; omega
   replace hWz : Hid _ := hWz
   clear hk4 S3 K3
   go_upto_region 6 with fail
   generalize w4.alloc (Obj.cells #[.int .i64 (d.file.hd.W : Int), .int .i64 (d.file.hd.H : Int), .int .i64 (d.file.hd.D : Int), .int .i64 (d.file.hd.K : Int), .int .i64 (d.file.hd.L : Int)] 71) = w5 at *
   obtain ⟨g4, hg4⟩ : ∃ g, g = w4.heap.size := ⟨_, rfl⟩
   rw [← hg4] at C5 hg34 ⊢
   clear hg4
   have x0 := C5.out 0 _ rfl
   obtain ⟨hcl, hone, K12, B12⟩ := S5.out
   obtain ⟨cs, hcs⟩ : ∃ cs, cs = L3 := ⟨_, rfl⟩
   rw [← hcs] at hcl hone B12
   have hcr : Hid (w5.rangeAt g3 0 cs) := by
    show w5.rangeAt g3 0 cs
    have := B12.range (k := 0) (m := 11) (by omega)
    have e : (List.range 11).map (fun j => (fun i => cs.getD i undef) (0 + j)) = cs := by
     apply List.ext_getElem?
     intro j
     by_cases q : j < 11
     ·rw [range_get _ 11 j q, Nat.zero_add]
      show some (cs.getD j undef) = _
      rw [List.getD_eq_getElem?_getD, List.getElem?_eq_getElem (by omega)]; rfl
     ·rw [List.getElem?_eq_none (by rw [List.length_map, List.length_range]; omega), List.getElem?_eq_none (by omega)]
    rw [e] at this
    exact this
   have hi : Hid ((Tryz.prog.info? 50).map (·.size) = some cs.length) := by show _ = _; rw [hcl]; exact info11
   have BR : Blk w5 w.heap.size 11 _ := B0.out.kept K12
   have ht : Hid (w5.there w.heap.size 0 cs.length) := by show w5.there _ 0 cs.length; rw [hcl]; exact BR.there (by omega)
   have hsc5 : (storeCells ⟨w.heap.size, 0, none⟩ cs).run Tryz.prog w5 = .ok () (w5.setCells w.heap.size 0 cs) := store_all ht.out hone
   have hld : Hid ((loadVar 50 ⟨w.heap.size, 0, none⟩).run Tryz.prog (w5.setCells w.heap.size 0 cs) = .ok (.agg cs.toArray) (w5.setCells w.heap.size 0 cs)) :=
    run_loadVar_mid _ _ _ _ cs _ (World.rangeAt_setCells_same _ _ _ _ ht.out) Tryz.underlying50 rfl hi.out
   have F13 : Hid (Fr1 w.heap.size w5 (w5.setCells w.heap.size 0 cs)) := Fr1.sets _ _ (Fr.refl _ _)
   have K13 : Hid (Kept w (w5.setCells w.heap.size 0 cs)) := Fr.to_kept (S := fun j => j = w.heap.size) (K0.out.trans K12) F13.out (fun i hi e => by omega)
   replace hcs : Hid _ := hcs
   replace hcl : Hid _ := hcl
   replace hone : Hid _ := hone
   clear B12 BR
   clear K12
   go_upto_region 7 with fail
   go_step
   refine wpList_load_mid rfl 50 _ rfl g3 0 rfl cs _ hcr.out Tryz.underlying50 rfl hi.out ?_
   go_wp2
   exact bodyPost_ret (v := .agg cs.toArray) (results_cell1 rfl _ _ _ _ _ rfl hld.out) rfl ⟨K13.out, Or.inl ⟨hWz.out, by rw [hcs.out, hL3.out]⟩⟩
  have HP : Hid (PicOk c 4401 24 n d.file.rw d.file.tl d.file.hd) := by rcases HP0.out with q | q; exact absurd q hWz; exact q
  have hW0 : ((d.file.hd.W : Int) == 0) = false := by have := HP.out.W1; rw [beq_eq_false_iff_ne]; omega
  clear hk4 S3 K3
  go_upto_region 6 with fail
  generalize w4.alloc (Obj.cells #[.int .i64 (d.file.hd.W : Int), .int .i64 (d.file.hd.H : Int), .int .i64 (d.file.hd.D : Int), .int .i64 (d.file.hd.K : Int), .int .i64 (d.file.hd.L : Int)] 71) = w5 at *
  obtain ⟨g4, hg4⟩ : ∃ g, g = w4.heap.size := ⟨_, rfl⟩
  rw [← hg4] at C5 hg34 ⊢
  clear hg4
  have x0 := C5.out 0 _ rfl
  have x1 := C5.out 1 _ rfl
  have x2 := C5.out 2 _ rfl
  have x3 := C5.out 3 _ rfl
  have x4 := C5.out 4 _ rfl
  have hne : g4 ≠ g3 := by omega
  have hne' : g3 ≠ g4 := by omega
  have YY : Hid (∀ j, j < 11 → (∃ OV, w5.cell? ⟨g3, j, none⟩ = some OV)) := S5.out.cell
  have zz : ∀ j, w5.frozen? ⟨g3, j, none⟩ = false := S5.out.2.2.2.fz
  obtain ⟨V3, y3⟩ := YY.out 3 (by omega)
  obtain ⟨V4, y4⟩ := YY.out 4 (by omega)
  obtain ⟨V5, y5⟩ := YY.out 5 (by omega)
  obtain ⟨V6, y6⟩ := YY.out 6 (by omega)
  obtain ⟨V7, y7⟩ := YY.out 7 (by omega)
  have S6 : Hid (SnL (((((L3.set 3 (.int .i64 (d.file.hd.W : Int))).set 4 (.int .i64 (d.file.hd.H : Int))).set 5 (.int .i64 (d.file.hd.K : Int))).set 6 (.int .i64 (d.file.hd.D : Int))).set 7 (.int .i64 (d.file.hd.L : Int))) w1 g3 (((((w5.setCell ⟨g3, 3, none⟩ (.int .i64 (d.file.hd.W : Int))).setCell ⟨g3, 4, none⟩ (.int .i64 (d.file.hd.H : Int))).setCell ⟨g3, 5, none⟩ (.int .i64 (d.file.hd.K : Int))).setCell ⟨g3, 6, none⟩ (.int .i64 (d.file.hd.D : Int))).setCell ⟨g3, 7, none⟩ (.int .i64 (d.file.hd.L : Int)))) := ((((S5.out.set hgle (by omega) _ rfl).set hgle (by omega) _ rfl).set hgle (by omega) _ rfl).set hgle (by omega) _ rfl).set hgle (by omega) _ rfl
  obtain ⟨L6, hL6⟩ : ∃ L6, L6 = ((((L3.set 3 (.int .i64 (d.file.hd.W : Int))).set 4 (.int .i64 (d.file.hd.H : Int))).set 5 (.int .i64 (d.file.hd.K : Int))).set 6 (.int .i64 (d.file.hd.D : Int))).set 7 (.int .i64 (d.file.hd.L : Int)) := ⟨_, rfl⟩
  rw [← hL6] at S6
  replace hL6 : Hid _ := hL6
  go_wp2_with fail
  generalize ((((w5.setCell ⟨g3, 3, none⟩ (.int .i64 (d.file.hd.W : Int))).setCell ⟨g3, 4, none⟩ (.int .i64 (d.file.hd.H : Int))).setCell ⟨g3, 5, none⟩ (.int .i64 (d.file.hd.K : Int))).setCell ⟨g3, 6, none⟩ (.int .i64 (d.file.hd.D : Int))).setCell ⟨g3, 7, none⟩ (.int .i64 (d.file.hd.L : Int)) = w6 at *
  clear x0 x1 x2 x3 x4 y3 y4 y5 y6 y7 YY zz S5 C5 hW0
  have K6 : Hid (Kept w1 w6) := S6.out.2.2.1
  refine (rdKnown_x b 0 n c d.file w6 (BW.out w6 K6.out) HV.out.file (by omega) HP.out.W1 HP.out.W2 HP.out.H1 HP.out.H2).mono ?_
  rintro e w7 ⟨⟨gk, rfl, hgk1, hgk2, hgk3⟩, hk7⟩
  have S7 : Hid (SnL L6 w1 g3 w7) := S6.out.on hk7
  have hgkg : g3 < gk := Nat.lt_of_lt_of_le S6.out.2.2.2.lt hgk1
  have hww : w.heap.size ≤ w6.heap.size := Nat.le_trans K0.out.size K6.out.size
  have N7 : Hid (NumC w7 w.heap.size gk (d.file.hd.W * d.file.hd.H) (knP d.file.rw d.file.hd)) := ⟨Nat.le_trans hww hgk1, hgk2, hgk3⟩
  have N8 : Hid (∀ v, NumC (w7.setCell ⟨g3, 8, none⟩ v) w.heap.size gk (d.file.hd.W * d.file.hd.H) (knP d.file.rw d.file.hd)) := fun v => N7.out.fr (S := fun j => j = g3) (Fr1.set (Fr.refl _ _) _ _) (by omega)
  obtain ⟨V8, y8⟩ : ∃ OV, w7.cell? ⟨g3, 8, none⟩ = some OV := S7.out.cell 8 (by omega)
  have z8 : ∀ j, w7.frozen? ⟨g3, j, none⟩ = false := S7.out.2.2.2.fz
  have S8 : Hid (SnL (L6.set 8 (.slice (some ⟨gk, 0, none⟩) (d.file.hd.W * d.file.hd.H) (d.file.hd.W * d.file.hd.H))) w1 g3 (w7.setCell ⟨g3, 8, none⟩ (.slice (some ⟨gk, 0, none⟩) (d.file.hd.W * d.file.hd.H) (d.file.hd.W * d.file.hd.H)))) := S7.out.set hgle (by omega) _ rfl
  obtain ⟨N, hN⟩ : ∃ N, N = d.file.hd.W * d.file.hd.H := ⟨_, rfl⟩
  rw [← hN] at S8 N8 ⊢
  have N8b : Hid _ := N8.out (.slice (some ⟨gk, 0, none⟩) N N)
  clear N7 N8 hww
  obtain ⟨L8, hL8⟩ : ∃ L8, L8 = L6.set 8 (.slice (some ⟨gk, 0, none⟩) N N) := ⟨_, rfl⟩
  rw [← hL8] at S8
  replace hL8 : Hid _ := hL8
  replace hN : Hid _ := hN
  clear hgk1 hgk2 hgk3 hk7 S6 K6
  go_wp2_with fail
  generalize w7.setCell ⟨g3, 8, none⟩ (.slice (some ⟨gk, 0, none⟩) N N) = w8 at *
  clear y8 z8 S7
  have K8 : Hid (Kept w1 w8) := S8.out.2.2.1
  refine (rdPix_x b 0 n c d.file w8 (BW.out w8 K8.out) HV.out.file (by omega) HP.out HPl.out).mono ?_
  rintro e w9 ⟨gp, rfl, hp1, hp2, hp3, hk9⟩
  have S9 : Hid (SnL L8 w1 g3 w9) := S8.out.on hk9
  have hgpg : g3 < gp := Nat.lt_of_lt_of_le S8.out.2.2.2.lt hp1
  have hww : w.heap.size ≤ w8.heap.size := Nat.le_trans K0.out.size K8.out.size
  have N9 : Hid (NumC w9 w.heap.size gp (4 * (d.file.hd.W * d.file.hd.H)) (fun j => pxP d.file.rw d.file.tl d.file.hd (j / 4 % d.file.hd.W) (j / 4 / d.file.hd.W) (j % 4))) := ⟨Nat.le_trans hww hp1, hp2, hp3⟩
  rw [← hN.out] at N9 ⊢
  obtain ⟨M, hM⟩ : ∃ M, M = 4 * N := ⟨_, rfl⟩
  rw [← hM] at N9 ⊢
  replace hM : Hid _ := hM
  have N10a : Hid (∀ v, NumC (w9.setCell ⟨g3, 9, none⟩ v) w.heap.size gk N (knP d.file.rw d.file.hd)) := fun v => NumC.fr (NumC.kept N8b.out hk9) (S := fun j => j = g3) (Fr1.set (Fr.refl _ _) _ _) (by omega)
  have N10b : Hid (∀ v, NumC (w9.setCell ⟨g3, 9, none⟩ v) w.heap.size gp M (fun j => pxP d.file.rw d.file.tl d.file.hd (j / 4 % d.file.hd.W) (j / 4 / d.file.hd.W) (j % 4))) := fun v => N9.out.fr (S := fun j => j = g3) (Fr1.set (Fr.refl _ _) _ _) (by omega)
  replace N10a : Hid _ := N10a.out (.slice (some ⟨gp, 0, none⟩) M M)
  replace N10b : Hid _ := N10b.out (.slice (some ⟨gp, 0, none⟩) M M)
  clear hp1 hp2 hp3 N9 N8b hww
  obtain ⟨V9, y9⟩ : ∃ OV, w9.cell? ⟨g3, 9, none⟩ = some OV := S9.out.cell 9 (by omega)
  have z9 : ∀ j, w9.frozen? ⟨g3, j, none⟩ = false := S9.out.2.2.2.fz
  have S10 : Hid (SnL (L8.set 9 (.slice (some ⟨gp, 0, none⟩) M M)) w1 g3 (w9.setCell ⟨g3, 9, none⟩ (.slice (some ⟨gp, 0, none⟩) M M))) := S9.out.set hgle (by omega) _ rfl
  obtain ⟨L10, hL10⟩ : ∃ L10, L10 = L8.set 9 (.slice (some ⟨gp, 0, none⟩) M M) := ⟨_, rfl⟩
  rw [← hL10] at S10
  replace hL10 : Hid _ := hL10
  clear hk9 S8 K8
  go_wp2_with fail
  generalize w9.setCell ⟨g3, 9, none⟩ (.slice (some ⟨gp, 0, none⟩) M M) = w10 at *
  clear y9 z9 S9
  have K10 : Hid (Kept w1 w10) := S10.out.2.2.1
  refine (rdShow_x b 0 n c d.file w10 (BW.out w10 K10.out) HV.out.file (by omega) HP.out HPl.out (GW.out w10 K10.out)).mono ?_
  rintro e w11 ⟨gs, rfl, hp1, hp2, hp3, hk11⟩
  have S11 : Hid (SnL L10 w1 g3 w11) := S10.out.on hk11
  have hgsg : g3 < gs := Nat.lt_of_lt_of_le S10.out.2.2.2.lt hp1
  have hww : w.heap.size ≤ w10.heap.size := Nat.le_trans K0.out.size K10.out.size
  have N11 : Hid (NumC w11 w.heap.size gs (4 * (d.file.hd.W * d.file.hd.H)) (fun j => shP d.file.rw d.file.tl d.file.hd (j / 4 % d.file.hd.W) (j / 4 / d.file.hd.W) (j % 4))) := ⟨Nat.le_trans hww hp1, hp2, hp3⟩
  rw [← hN.out, ← hM.out] at N11 ⊢
  have N12a : Hid (∀ v, NumC (w11.setCell ⟨g3, 10, none⟩ v) w.heap.size gk N (knP d.file.rw d.file.hd)) := fun v => NumC.fr (NumC.kept N10a.out hk11) (S := fun j => j = g3) (Fr1.set (Fr.refl _ _) _ _) (by omega)
  have N12b : Hid (∀ v, NumC (w11.setCell ⟨g3, 10, none⟩ v) w.heap.size gp M (fun j => pxP d.file.rw d.file.tl d.file.hd (j / 4 % d.file.hd.W) (j / 4 / d.file.hd.W) (j % 4))) := fun v => NumC.fr (NumC.kept N10b.out hk11) (S := fun j => j = g3) (Fr1.set (Fr.refl _ _) _ _) (by omega)
  have N12c : Hid (∀ v, NumC (w11.setCell ⟨g3, 10, none⟩ v) w.heap.size gs M (fun j => shP d.file.rw d.file.tl d.file.hd (j / 4 % d.file.hd.W) (j / 4 / d.file.hd.W) (j % 4))) := fun v => N11.out.fr (S := fun j => j = g3) (Fr1.set (Fr.refl _ _) _ _) (by omega)
  replace N12a : Hid _ := N12a.out (.slice (some ⟨gs, 0, none⟩) M M)
  replace N12b : Hid _ := N12b.out (.slice (some ⟨gs, 0, none⟩) M M)
  replace N12c : Hid _ := N12c.out (.slice (some ⟨gs, 0, none⟩) M M)
  clear hp1 hp2 hp3 N11 N10a N10b hww
  obtain ⟨V10, y10⟩ : ∃ OV, w11.cell? ⟨g3, 10, none⟩ = some OV := S11.out.cell 10 (by omega)
  have z10 : ∀ j, w11.frozen? ⟨g3, j, none⟩ = false := S11.out.2.2.2.fz
  have S12 : Hid (SnL (L10.set 10 (.slice (some ⟨gs, 0, none⟩) M M)) w1 g3 (w11.setCell ⟨g3, 10, none⟩ (.slice (some ⟨gs, 0, none⟩) M M))) := S11.out.set hgle (by omega) _ rfl
  clear hk11 S10 K10
  go_upto_region 16 with fail
  generalize w11.setCell ⟨g3, 10, none⟩ (.slice (some ⟨gs, 0, none⟩) M M) = w12 at *
  clear y10 z10 S11
  obtain ⟨hcl, hone, K12, B12⟩ := S12.out
  obtain ⟨cs, hcs⟩ : ∃ cs, cs = L10.set 10 (.slice (some ⟨gs, 0, none⟩) M M) := ⟨_, rfl⟩
  rw [← hcs] at hcl hone B12
  have hcr : Hid (w12.rangeAt g3 0 cs) := by
   show w12.rangeAt g3 0 cs
   have := B12.range (k := 0) (m := 11) (by omega)
   have e : (List.range 11).map (fun j => (fun i => cs.getD i undef) (0 + j)) = cs := by
    apply List.ext_getElem?
    intro j
    by_cases q : j < 11
    ·rw [range_get _ 11 j q, Nat.zero_add]
     show some (cs.getD j undef) = _
     rw [List.getD_eq_getElem?_getD, List.getElem?_eq_getElem (by omega)]; rfl
    ·rw [List.getElem?_eq_none (by rw [List.length_map, List.length_range]; omega), List.getElem?_eq_none (by omega)]
   rw [e] at this
   exact this
  have hi : Hid ((Tryz.prog.info? 50).map (·.size) = some cs.length) := by show _ = _; rw [hcl]; exact info11
  have BR : Blk w12 w.heap.size 11 _ := B0.out.kept K12
  have ht : Hid (w12.there w.heap.size 0 cs.length) := by show w12.there _ 0 cs.length; rw [hcl]; exact BR.there (by omega)
  have hsc5 : (storeCells ⟨w.heap.size, 0, none⟩ cs).run Tryz.prog w12 = .ok () (w12.setCells w.heap.size 0 cs) := store_all ht.out hone
  have hld : Hid ((loadVar 50 ⟨w.heap.size, 0, none⟩).run Tryz.prog (w12.setCells w.heap.size 0 cs) = .ok (.agg cs.toArray) (w12.setCells w.heap.size 0 cs)) :=
   run_loadVar_mid _ _ _ _ cs _ (World.rangeAt_setCells_same _ _ _ _ ht.out) Tryz.underlying50 rfl hi.out
  have F13 : Hid (Fr1 w.heap.size w12 (w12.setCells w.heap.size 0 cs)) := Fr1.sets _ _ (Fr.refl _ _)
  have K13 : Hid (Kept w (w12.setCells w.heap.size 0 cs)) := Fr.to_kept (S := fun j => j = w.heap.size) (K0.out.trans K12) F13.out (fun i hi e => by omega)
  replace hcs : Hid _ := hcs
  replace hcl : Hid _ := hcl
  replace hone : Hid _ := hone
  clear B12 BR
  clear K12
  go_step
  refine wpList_load_mid rfl 50 _ rfl g3 0 rfl cs _ hcr.out Tryz.underlying50 rfl hi.out ?_
  go_wp2
  refine bodyPost_ret (v := .agg cs.toArray) (results_cell1 rfl _ _ _ _ _ rfl hld.out) rfl ⟨K13.out, Or.inr ⟨by have := HP.out.W1; omega, gk, gp, gs, ?_, ?_, ?_, ?_⟩⟩
  ·rw [hcs.out, hL10.out, hL8.out, hL6.out, hL3.out, hM.out, hN.out]; rfl
  ·rw [← hN.out]; exact NumC.fr N12a.out (S := fun j => j = w.heap.size) F13.out (by have := N12a.out.1; have := hgle; have := K0.out.size; omega)
  ·rw [← hN.out, ← hM.out]; exact NumC.fr N12b.out (S := fun j => j = w.heap.size) F13.out (by have := hgle; have := K0.out.size; omega)
  ·rw [← hN.out, ← hM.out]; exact NumC.fr N12c.out (S := fun j => j = w.heap.size) F13.out (by have := hgle; have := K0.out.size; omega)
structure DI (w W : World) (g : Nat) (d : Dc) : Prop where
 kept : Kept w W
 pos : 0 < w.heap.size
 lo : w.heap.size ≤ g
 ex : ∃ c, Blk W g 5957 c ∧ DcV c 0 d
theorem DI.on {w W W' : World} {g : Nat} {d : Dc} (h : DI w W g d) (k : Kept W W') : DI w W' g d := by
 obtain ⟨c, b, v⟩ := h.ex
 exact ⟨h.kept.trans k, h.pos, h.lo, c, b.kept k, v⟩
theorem DI.step {w W W' : World} {g : Nat} {d d' : Dc} (h : DI w W g d) (k : DcStep g 5957 d' W W') : DI w W' g d' := by
 obtain ⟨e, b, v, f⟩ := k
 have h1 := h.lo
 exact ⟨Fr.to_kept h.kept f (fun i hi q => by omega), h.pos, h.lo, e, b, v⟩
theorem newDI {w W : World} (h : Kept w W) (h0 : 0 < w.heap.size) : Calls Tryz.prog 21 #[] W fun e W' => ∃ g, e = .returned (.pointer (some ⟨g, 0, none⟩)) ∧ DI w W' g dc0 := by
 refine (new_x W).mono ?_
 rintro e W' ⟨rfl, c, b, v, k⟩
 exact ⟨_, rfl, h.trans k, h0, h.size, c, b, v⟩
theorem feedDI {w W : World} {g : Nat} {d : Dc} (t : ByteArray) (h : DI w W g d) (hk : FeedOk d (bsOf t)) (hs : t.size ≤ 2147483648) (hG : GrdAt w) :
  Calls Tryz.prog 22 #[.pointer (some ⟨g, 0, none⟩), .string t] W fun e W' => e = .returned (.tuple #[.int .i64 ((d.feed (bsOf t)).err : Int), .int .i64 ((d.feed (bsOf t)).at1 : Int)]) ∧ DI w W' g (d.feed (bsOf t)) := by
 obtain ⟨c, b, v⟩ := h.ex
 have h0 := h.pos
 have h1 := h.lo
 refine (feed_x g 5957 t c d W b v (Nat.le_refl _) hk hs (hG.kept h.kept) (by omega)).mono ?_
 rintro e W' ⟨rfl, k⟩
 exact ⟨rfl, h.step k⟩
structure ShowOk (s : Rd) : Prop where
 hd : RdHd s
 clear : ∀ j, s.tl.clear j < 256
 sm : SmI s
def snN : Array Value := #[.int .i64 0, .int .i64 0, .bool false, .int .i64 0, .int .i64 0, .int .i64 0, .int .i64 0, .int .i64 0, .slice none 0 0, .slice none 0 0, .slice none 0 0]
theorem snap_lay (W : World) (cs : List Value) (hl : cs.length = 11) (ho : ∀ v ∈ cs, v.oneCell' = true) :
  (storeCells ⟨W.heap.size, 0, none⟩ cs).run Tryz.prog (W.alloc (Obj.cells snN 50)) = .ok () ((W.alloc (Obj.cells snN 50)).setCells W.heap.size 0 cs) ∧ ((W.alloc (Obj.cells snN 50)).setCells W.heap.size 0 cs).rangeAt W.heap.size 0 cs ∧ Kept W ((W.alloc (Obj.cells snN 50)).setCells W.heap.size 0 cs) := by
 have B : Blk (W.alloc (Obj.cells snN 50)) W.heap.size 11 (fun i => snN.getD i undef) := Blk.new W snN _ 11 rfl
 have T : (W.alloc (Obj.cells snN 50)).there W.heap.size 0 cs.length := by rw [hl]; exact B.there (by omega)
 exact ⟨store_all T ho, World.rangeAt_setCells_same _ _ _ _ T, Kept.setCells (Nat.le_refl _) _ _ ((Below.refl _ _).alloc (Nat.le_refl _) _)⟩
theorem sh_grid : ∀ x, x < 16 → ∀ y, y < 16 → ∃ k, k < 7 ∧ orgP (psOf 1 k).cf (psOf 1 k).cs (psOf 1 k).cb x = (x, true) ∧ orgP (psOf 1 k).rf (psOf 1 k).rs (psOf 1 k).rb y = (y, true) ∧ ∀ j, j < 7 → k < j → ((orgP (psOf 1 j).cf (psOf 1 j).cs (psOf 1 j).cb x).2 && (orgP (psOf 1 j).rf (psOf 1 j).rs (psOf 1 j).rb y).2) = false := by decide +kernel
theorem shGo_down {r : Rw} {t : Tl} {h : Hd} {x y k : Nat} : ∀ n, k < n → (∀ j, j < n → k < j → ((orgP (psOf h.L j).cf (psOf h.L j).cs (psOf h.L j).cb x).2 && (orgP (psOf h.L j).rf (psOf h.L j).rs (psOf h.L j).rb y).2) = false) → shGo r t h x y n = shGo r t h x y (k + 1)
 | 0, h0, _ => by omega
 | n + 1, h0, hf => by
  by_cases e : n = k
  ·rw [e]
  ·rw [shGo_no (a := (orgP (psOf h.L n).cf (psOf h.L n).cs (psOf h.L n).cb x).1) (b := (orgP (psOf h.L n).rf (psOf h.L n).rs (psOf h.L n).rb y).1) (A := (orgP (psOf h.L n).cf (psOf h.L n).cs (psOf h.L n).cb x).2) (B := (orgP (psOf h.L n).rf (psOf h.L n).rs (psOf h.L n).rb y).2) rfl rfl (by rw [hf n (by omega) (by omega)]; rfl)]
   exact shGo_down n (by omega) (fun j h1 h2 => hf j (by omega) h2)
theorem sh_px {r : Rw} {t : Tl} {h : Hd} {x y : Nat} (hL : h.L ≤ 1) (hx : x < 16) (hy : y < 16) (kn : r.known (y * 16 + x) = true) : shP r t h x y = pxP r t h x y := by
 unfold shP
 by_cases e : h.L = 1
 ·obtain ⟨k, h1, h2, h3, h4⟩ := sh_grid x hx y hy
  rw [← e] at h2 h3 h4
  have ec : cntP h.L = 7 := by unfold cntP; rw [if_pos e]
  rw [ec, shGo_down 7 h1 h4, shGo_yes h2 h3 kn]
 ·have ec : cntP h.L = 1 := by unfold cntP; rw [if_neg e]
  have ep : psOf h.L 0 = ⟨0, 1, 1, 0, 1, 1⟩ := by unfold psOf; rw [if_neg (fun q => e q.1)]
  have eo : ∀ p, orgP 0 1 1 p = (p, true) := fun p => by unfold orgP; rw [if_neg (by omega), Nat.mod_one]; rfl
  rw [ec]
  exact shGo_yes (by rw [ep]; exact eo x) (by rw [ep]; exact eo y) kn
def PalI (s : Rd) : Prop := ∀ j, s.tl.pal j < 256
theorem PalI.note {s : Rd} (h : PalI s) : PalI s.note := by
 have h1 : PalI s.note1 := by
  unfold Rd.note1
  split
  ·exact h
  ·split
   ·exact h
   ·split
    ·unfold Rd.begin
     split
     ·exact h
     ·exact h
    ·exact h
 show PalI s.note1.note2
 unfold Rd.note2
 split
 ·exact h1
 ·exact h1
theorem PalI.accept {s : Rd} (h : PalI s) : PalI s.accept.1 := by
 unfold PalI
 rw [(accept_tl s).1]; exact h
theorem PalI.keep {s : Rd} {x : Nat} (h : PalI s) (hx : x < 256) : PalI (s.keep x).1 := by
 unfold Rd.keep
 split
 ·exact h
 ·split
  ·intro j
   show upd s.tl.pal s.taken x j < 256
   by_cases e : j = s.taken
   ·rw [e, upd_same]; exact hx
   ·rw [upd_ne _ _ _ e]; exact h j
  ·split
   ·exact h
   ·split
    ·unfold Rd.takeStream
     split
     ·exact h
     ·split
      ·exact h
      ·exact h
    ·exact h
theorem PalI.take {s : Rd} {x : Nat} (h : PalI s) (hx : x < 256) : PalI (s.take x).1 := by
 unfold Rd.take
 split
 ·unfold Rd.takeSign
  split
  ·exact h
  ·split
   ·exact h
   ·exact h
 ·split
  ·unfold Rd.takeLength
   split
   ·exact h
   ·split
    ·exact h
    ·exact h
  ·split
   ·unfold Rd.takeType
    have ht : PalI (s.typed x) := h
    split
    ·exact h
    ·split
     ·exact ht
     ·split
      ·exact ht.note
      ·exact ht.note
   ·split
    ·have hk := PalI.keep (s := s.summed x) (x := x) h hx
     unfold Rd.takeData
     split
     ·exact hk
     ·show PalI ((s.summed x).keep x).1.dataEnd
      unfold Rd.dataEnd
      split
      ·exact hk
      ·exact hk
    ·split
     ·unfold Rd.takeSum
      have ha : PalI (s.num x).accept.1 := PalI.accept (s := s.num x) h
      split
      ·exact h
      ·split
       ·exact h
       ·split
        ·exact ha
        ·split
         ·exact ha
         ·exact ha
     ·exact h
theorem Rn.palI : ∀ {l : List Nat} {s b : Rd}, Rn s l b → (∀ x ∈ l, x < 256) → PalI s → PalI b
 | [], s, b, h, _, k => by cases h; exact k
 | x :: l, s, b, h, hb, k => Rn.palI h.2.2 (fun y hy => hb y (by simp [hy])) (k.take (hb x (by simp)))
theorem palI0 : PalI rd0 := fun _ => by show 0 < 256; omega
theorem FeedOk.left {d : Dc} {l m : List Nat} (h : FeedOk d (l ++ m)) : FeedOk d l := fun k x e z => by
 have hk : k < l.length := (List.getElem?_eq_some_iff.1 e).1
 have := h k x (by rw [List.getElem?_append_left hk]; exact e)
 rw [List.take_append_of_le_length (by omega)] at this
 exact this z
theorem FeedOk.right {d : Dc} {l m : List Nat} (h : FeedOk d (l ++ m)) : FeedOk (d.feed l) m := fun k x e z => by
 have := h (l.length + k) x (by rw [List.getElem?_append_right (by omega), Nat.add_sub_cancel_left]; exact e)
 rw [List.take_length_add_append, feed_append] at this
 exact this z
structure SeenF (W H D K L : Nat) (pal clr pix : List Int) (b : Rd) : Prop where
 part : b.part = 5
 hd : b.hd = ⟨W, H, D, K, L⟩
 show' : ShowOk b
 palI : PalI b
 tab : TabO K pal clr b.tl
 seen : SeenP ⟨W, H, D, K, L⟩ pix b.rw
theorem fed_seen {W H D K L P V : Nat} {pal clr pix fl kl cl : List Int} {s : ByteArray} (h : FileT W H D K L P V pal clr pix fl kl s) (ok : OkIm W H K D pal clr pix) (hc : OkCh L P V fl kl cl) :
  ∃ b, FeedOk dc0 (bsOf s) ∧ dc0.feed (bsOf s) = ⟨b, s.size, 0, 0⟩ ∧ SeenF W H D K L pal clr pix b := by
 obtain ⟨b, h1, h2, h3, h4, h5, h6, h7⟩ := fileT_seen h ok hc
 have hsz := (fileT_size h).2
 have hl : (bsOf s).length = s.size := bsOf_length s
 refine ⟨b, Rn.ok (d := dc0) h1 rfl (by rw [hl]; show 0 + s.size ≤ _; omega), ?_, h2, h3, ⟨h5.hd, h5.clear, h1.smI smI0⟩, h1.palI (bsOf_lt s) palI0, h6, h7⟩
 rw [Rn.feed (d := dc0) h1 rfl, hl]
 show (⟨b, 0 + s.size, 0, 0⟩ : Dc) = _
 rw [Nat.zero_add]
theorem close_fin (b n : Nat) (c : Nat → Value) (d : Dc) (w : World) (hB : Blk w b n c) (hV : DcV c 0 d) (hn : 5957 ≤ n) (he : d.err = 0) (ha : d.at1 = 0) (hp : d.file.part = 5) :
  Calls Tryz.prog 23 #[.pointer (some ⟨b, 0, none⟩)] w fun e w' => e = .returned (.tuple #[.int .i64 0, .int .i64 0]) ∧ Kept w w' := by
 have k1 := hB.at (i := 5955) (by omega) hV.err
 have k2 := hB.at (i := 5956) (by omega) hV.at1
 rw [he] at k1
 rw [ha] at k2
 replace k1 : w.cell? ⟨b, 5955, none⟩ = some (.int .i64 0) := k1
 replace k2 : w.cell? ⟨b, 5956, none⟩ = some (.int .i64 0) := k2
 have FE : Hid (Calls Tryz.prog 41 #[.pointer (some ⟨b, 0, none⟩)] w fun e w' => e = .returned (.bool true) ∧ w' = w) := by
  have := rdEnded_x b 0 n c d.file w hB hV.file (by omega)
  rw [decide_eq_true hp] at this
  exact this
 clear hB hV
 go_enter Tryz.func23, Tryz.ntmps23
 go_wp2_with fail
 refine FE.out.mono ?_
 rintro e w1 ⟨rfl, hw⟩
 subst w1
 go_wp2_with fail
 go_quiet (fail)
 go_wp2
 go_ret2
 exact ⟨rfl, (Kept.refl _).drewN _⟩
theorem closeFinDI {w W : World} {g : Nat} {d : Dc} (h : DI w W g d) (he : d.err = 0) (ha : d.at1 = 0) (hp : d.file.part = 5) :
  Calls Tryz.prog 23 #[.pointer (some ⟨g, 0, none⟩)] W fun e W' => e = .returned (.tuple #[.int .i64 0, .int .i64 0]) ∧ DI w W' g d := by
 obtain ⟨c, b, v⟩ := h.ex
 refine (close_fin g 5957 c d W b v (Nat.le_refl _) he ha hp).mono ?_
 rintro e W' ⟨rfl, k⟩
 exact ⟨rfl, h.on k⟩
theorem snapFI {w W : World} {g : Nat} {d : Dc} (h : DI w W g d) (hs : ShowOk d.file) (hpal : PalI d.file) (hG : GrdAt w) :
  Calls Tryz.prog 24 #[.pointer (some ⟨g, 0, none⟩)] W fun e W' => SnX W d e W' := by
 obtain ⟨c, B, v⟩ := h.ex
 refine snap_f g 5957 c d W B v (Nat.le_refl _) ?_ hpal (hG.kept h.kept)
 by_cases q : d.file.hd.W = 0
 ·exact Or.inl q
 ·refine Or.inr ⟨v.file.rw, v.file.tl, by omega, by omega, hs.clear, hs.sm.1, hs.hd.K, by omega, hs.hd.W, ?_, hs.hd.H, hs.hd.L⟩
  rcases hs.sm.2 with e | e
  ·exact absurd e q
  ·exact e
theorem seen_whole (x wd H K D L P V Z A gk gp gs lo : Nat) (pp qp xp fp kp cp : Option Addr) (pc qc xc fc kc cc : Nat) (pal clr pix fl kl cl : List Int) (b : Rd) (w : World) (h : Dk w x wd H K D L P V Z pp qp xp fp kp cp pc qc xc fc kc cc pal clr pix fl kl cl) (hb : SeenF wd H D K L pal clr pix b) (nk : NumC w lo gk (wd * H) (knP b.rw ⟨wd, H, D, K, L⟩)) (np : NumC w lo gp (4 * (wd * H)) (fun j => pxP b.rw b.tl ⟨wd, H, D, K, L⟩ (j / 4 % wd) (j / 4 / wd) (j % 4))) (ns : NumC w lo gs (4 * (wd * H)) (fun j => shP b.rw b.tl ⟨wd, H, D, K, L⟩ (j / 4 % wd) (j / 4 / wd) (j % 4))) :
  Calls Tryz.prog 25 #[.pointer (some ⟨x, 0, none⟩), .agg #[.int .i64 0, .int .i64 (A : Int), .bool true, .int .i64 (wd : Int), .int .i64 (H : Int), .int .i64 (K : Int), .int .i64 (D : Int), .int .i64 (L : Int), .slice (some ⟨gk, 0, none⟩) (wd * H) (wd * H), .slice (some ⟨gp, 0, none⟩) (4 * (wd * H)) (4 * (wd * H)), .slice (some ⟨gs, 0, none⟩) (4 * (wd * H)) (4 * (wd * H))]] w fun r w' => r = .returned (.bool true) ∧ Kept w w' := by
 have ok := h.im
 have hL := h.ch.l
 have hin : ∀ k, k < wd * H → k % wd < wd ∧ k / wd < H ∧ k / wd * wd + k % wd = k := fun k hk => ⟨Nat.mod_lt _ ok.w1, Nat.div_lt_of_lt_mul hk, by rw [Nat.mul_comm]; exact Nat.div_add_mod k wd⟩
 have hw := ok.w2
 have hh := ok.h2
 refine dwhole_x x wd H K D L P V Z A (wd * H) (4 * (wd * H)) gk gp gs _ _ _ pp qp xp fp kp cp pc qc xc fc kc cc pal clr pix fl kl cl b.tl (fun k => pxP b.rw b.tl ⟨wd, H, D, K, L⟩ (k % wd) (k / wd)) w h hb.tab rfl rfl (fun k hk => ?_) (fun j hj => ?_) np.2.2 (fun j hj => ?_)
 ·obtain ⟨a1, a2, a3⟩ := hin k hk
  have kn := hb.seen.2 (k % wd) (k / wd) a1 a2
  obtain ⟨_, _, sm⟩ := hb.seen.1 (k % wd) (k / wd) (by omega) (by omega) kn
  refine ⟨_, _, _, _, fun c hc => ?_, by unfold pxP; rw [if_pos kn]⟩
  have hc4 := chan_le (K := K)
  have e := sm c hc
  replace e : b.rw.smp (4 * (k / wd * 16 + k % wd) + c) = (pix.getD ((k / wd * wd + k % wd) * chan K + c) 0).toNat := e
  rw [a3] at e
  have hlen : k * chan K + c < pix.length := by
   rw [ok.pixL]
   have : (k + 1) * chan K ≤ wd * H * chan K := Nat.mul_le_mul_right _ hk
   rw [Nat.add_mul, Nat.one_mul] at this
   omega
  have hp := pix_lt ok _ (getD_mem hlen)
  have e2 : (b.rw.smp (4 * (k / wd * 16 + k % wd) + c) : Int) = pix.getD (k * chan K + c) 0 := by rw [e]; omega
  rw [← e2]
  match c, (show c < 4 by omega) with
  | 0, _ => rfl
  | 1, _ => rfl
  | 2, _ => rfl
  | 3, _ => rfl
 ·obtain ⟨a1, a2, a3⟩ := hin j hj
  have kn := hb.seen.2 (j % wd) (j / wd) a1 a2
  rw [nk.2.2 j hj]
  show some (Value.int .i64 (if b.rw.known (j / wd * 16 + j % wd) = true then 1 else 0)) = _
  rw [if_pos kn]
 ·obtain ⟨a1, a2, a3⟩ := hin (j / 4) (by omega)
  have kn := hb.seen.2 (j / 4 % wd) (j / 4 / wd) a1 a2
  rw [ns.2.2 j hj]
  show some (Value.int .i64 (shP b.rw b.tl ⟨wd, H, D, K, L⟩ (j / 4 % wd) (j / 4 / wd) (j % 4))) = _
  rw [sh_px hL (by omega) (by omega) kn]
theorem bsOf_three (t : ByteArray) (i j : Nat) (h1 : i ≤ j) (h2 : j ≤ t.size) : bsOf t = bsOf (t.extract 0 i) ++ (bsOf (t.extract i j) ++ bsOf (t.extract j t.size)) := by
 rw [bsOf_extr, bsOf_extr, bsOf_extr, List.drop_zero, Nat.sub_zero]
 have e1 : ((bsOf t).drop j).take (t.size - j) = (bsOf t).drop j := List.take_of_length_le (by rw [List.length_drop, bsOf_length]; omega)
 have e2 : (bsOf t).drop j = ((bsOf t).drop i).drop (j - i) := by rw [List.drop_drop]; congr 1; omega
 rw [e1, e2, List.take_append_drop, List.take_append_drop]
theorem fed_pieces {f : ByteArray} {d : Dc} (h1 : FeedOk dc0 (bsOf f)) (h2 : dc0.feed (bsOf f) = d) (i j : Nat) (hi : i ≤ j) (hj : j ≤ f.size) : ∃ d1 d2, FeedOk dc0 (bsOf (f.extract 0 i)) ∧ dc0.feed (bsOf (f.extract 0 i)) = d1 ∧ FeedOk d1 (bsOf (f.extract i j)) ∧ d1.feed (bsOf (f.extract i j)) = d2 ∧ FeedOk d2 (bsOf (f.extract j f.size)) ∧ d2.feed (bsOf (f.extract j f.size)) = d := by
 rw [bsOf_three f i j hi hj] at h1 h2
 rw [feed_append, feed_append] at h2
 exact ⟨_, _, h1.left, rfl, h1.right.left, rfl, h1.right.right, h2⟩
def TwoI (e : Ending) : Prop := ∃ a b : Int, e = .returned (.tuple #[.int .i64 a, .int .i64 b])
theorem feedDI' {w W : World} {g : Nat} {d d' : Dc} (t : ByteArray) (h : DI w W g d) (hk : FeedOk d (bsOf t)) (he : d.feed (bsOf t) = d') (hs : t.size ≤ 2147483648) (hG : GrdAt w) :
  Calls Tryz.prog 22 #[.pointer (some ⟨g, 0, none⟩), .string t] W fun e W' => TwoI e ∧ DI w W' g d' := by
 have := feedDI t h hk hs hG
 rw [he] at this
 exact this.mono (fun e W' ⟨q1, q2⟩ => ⟨⟨_, _, q1⟩, q2⟩)
def SnPic (w : World) (wd H K D L N M : Nat) (b : Rd) (e : Ending) (W2 : World) : Prop := ∃ gk gp gs, e = .returned (.agg #[.int .i64 0, .int .i64 0, .bool true, .int .i64 (wd : Int), .int .i64 (H : Int), .int .i64 (K : Int), .int .i64 (D : Int), .int .i64 (L : Int), .slice (some ⟨gk, 0, none⟩) N N, .slice (some ⟨gp, 0, none⟩) M M, .slice (some ⟨gs, 0, none⟩) M M]) ∧ (NumC W2 0 gk N (knP b.rw ⟨wd, H, D, K, L⟩) ∧ NumC W2 0 gp M (fun j => pxP b.rw b.tl ⟨wd, H, D, K, L⟩ (j / 4 % wd) (j / 4 / wd) (j % 4)) ∧ NumC W2 0 gs M (fun j => shP b.rw b.tl ⟨wd, H, D, K, L⟩ (j / 4 % wd) (j / 4 / wd) (j % 4))) ∧ Kept w W2
theorem snapWI {w W : World} {g n wd H K D L : Nat} {pal clr pix : List Int} {b : Rd} (h : DI w W g ⟨b, n, 0, 0⟩) (hb : SeenF wd H D K L pal clr pix b) (h1 : 1 ≤ wd) (hG : GrdAt w) :
  Calls Tryz.prog 24 #[.pointer (some ⟨g, 0, none⟩)] W fun e W' => SnPic W wd H K D L (wd * H) (4 * (wd * H)) b e W' := by
 refine (snapFI h hb.show' hb.palI hG).mono ?_
 rintro e W' ⟨k, ⟨q, _⟩ | ⟨_, gk, gp, gs, e1, e2, e3, e4⟩⟩
 ·replace q : b.hd.W = 0 := q
  rw [hb.hd] at q
  exact absurd (show wd = 0 from q) (by omega)
 ·refine ⟨gk, gp, gs, ?_, ⟨?_, ?_, ?_⟩, k⟩
  ·rw [e1]
   unfold snW
   show Ending.returned (Value.agg #[.int .i64 0, .int .i64 0, .bool (decide ((0 : Nat) = 0) && decide (b.part = 5)), .int .i64 (b.hd.W : Int), .int .i64 (b.hd.H : Int), .int .i64 (b.hd.K : Int), .int .i64 (b.hd.D : Int), .int .i64 (b.hd.L : Int), .slice (some ⟨gk, 0, none⟩) (b.hd.W * b.hd.H) (b.hd.W * b.hd.H), .slice (some ⟨gp, 0, none⟩) (4 * (b.hd.W * b.hd.H)) (4 * (b.hd.W * b.hd.H)), .slice (some ⟨gs, 0, none⟩) (4 * (b.hd.W * b.hd.H)) (4 * (b.hd.W * b.hd.H))]) = _
   rw [hb.hd, decide_eq_true hb.part]; rfl
  ·replace e2 : NumC W' W.heap.size gk (b.hd.W * b.hd.H) (knP b.rw b.hd) := e2
   rw [hb.hd] at e2
   exact e2.low (Nat.zero_le _)
  ·replace e3 : NumC W' W.heap.size gp (4 * (b.hd.W * b.hd.H)) (fun j => pxP b.rw b.tl b.hd (j / 4 % b.hd.W) (j / 4 / b.hd.W) (j % 4)) := e3
   rw [hb.hd] at e3
   exact e3.low (Nat.zero_le _)
  ·replace e4 : NumC W' W.heap.size gs (4 * (b.hd.W * b.hd.H)) (fun j => shP b.rw b.tl b.hd (j / 4 % b.hd.W) (j / 4 / b.hd.W) (j % 4)) := e4
   rw [hb.hd] at e4
   exact e4.low (Nat.zero_le _)
theorem kround_x (x wd H K D L P V Z : Nat) (a b : Int) (pp qp xp fp kp cp : Option Addr) (pc qc xc fc kc cc : Nat) (pal clr pix fl kl cl : List Int) (ff : ByteArray) (w : World) (h : Dk w x wd H K D L P V Z pp qp xp fp kp cp pc qc xc fc kc cc pal clr pix fl kl cl) (hx0 : x ≠ 0) (hf : FileT wd H D K L P V pal clr pix fl kl ff) (h14 : w.cell? ⟨x, 14, none⟩ = some (.string ff)) (ha1 : -9223372036854775808 ≤ a) (ha2 : a < 9223372036854775808) (hb1 : -9223372036854775808 ≤ b) (hb2 : b < 9223372036854775808) :
  Calls Tryz.prog 11 #[.pointer (some ⟨x, 0, none⟩), .int .i64 a, .int .i64 b] w fun r w' => r = .returned (.bool true) ∧ Kept w w' := by
 have hGr : GrdAt w := grd_x h.grid
 have hw0 : 0 < w.heap.size := World.block_lt_of_cell? w ⟨0, 0, none⟩ (h.grid 0 (by omega))
 obtain ⟨hs1, hs2⟩ := fileT_size hf
 obtain ⟨A, q1, q2, q3⟩ := fed_seen hf h.im h.ch
 have H14 : Hid (∀ W', Kept w W' → W'.cell? ⟨x, 14, none⟩ = some (.string ff)) := fun W' k => (k.cell (p := ⟨x, 14, none⟩) (World.block_lt_of_cell? _ _ h14)).trans h14
 have HG : Hid (GrdAt w) := hGr
 have hw1 := h.im.w1
 have F0 : Hid (∀ W, Kept w W → Calls Tryz.prog 21 #[] W fun e W' => ∃ g, e = .returned (.pointer (some ⟨g, 0, none⟩)) ∧ DI w W' g dc0) := fun W k => newDI k hw0
 have F1 : Hid (∀ W' g, DI w W' g dc0 → Calls Tryz.prog 22 #[.pointer (some ⟨g, 0, none⟩), .string ff] W' fun e W2 => e = .returned (.tuple #[.int .i64 0, .int .i64 0]) ∧ DI w W2 g ⟨A, ff.size, 0, 0⟩) := fun W' g hD => by
  have := feedDI ff hD q1 (by omega) HG.out
  rw [q2] at this
  exact this
 have F2 : Hid (∀ W' g, DI w W' g ⟨A, ff.size, 0, 0⟩ → Calls Tryz.prog 23 #[.pointer (some ⟨g, 0, none⟩)] W' fun e W2 => e = .returned (.tuple #[.int .i64 0, .int .i64 0]) ∧ DI w W2 g ⟨A, ff.size, 0, 0⟩) := fun W' g hD => closeFinDI hD rfl rfl q3.part
 have F3 : Hid (∀ W' g, DI w W' g ⟨A, ff.size, 0, 0⟩ → Calls Tryz.prog 24 #[.pointer (some ⟨g, 0, none⟩)] W' fun e W2 => SnPic W' wd H K D L (wd * H) (4 * (wd * H)) A e W2) := fun W' g hD => snapWI hD q3 hw1 HG.out
 have F4 : Hid (∀ W gk gp gs, Kept w W → NumC W 0 gk (wd * H) (knP A.rw ⟨wd, H, D, K, L⟩) → NumC W 0 gp (4 * (wd * H)) (fun j => pxP A.rw A.tl ⟨wd, H, D, K, L⟩ (j / 4 % wd) (j / 4 / wd) (j % 4)) → NumC W 0 gs (4 * (wd * H)) (fun j => shP A.rw A.tl ⟨wd, H, D, K, L⟩ (j / 4 % wd) (j / 4 / wd) (j % 4)) → Calls Tryz.prog 25 #[.pointer (some ⟨x, 0, none⟩), .agg #[.int .i64 0, .int .i64 0, .bool true, .int .i64 (wd : Int), .int .i64 (H : Int), .int .i64 (K : Int), .int .i64 (D : Int), .int .i64 (L : Int), .slice (some ⟨gk, 0, none⟩) (wd * H) (wd * H), .slice (some ⟨gp, 0, none⟩) (4 * (wd * H)) (4 * (wd * H)), .slice (some ⟨gs, 0, none⟩) (4 * (wd * H)) (4 * (wd * H))]] W fun r w' => r = .returned (.bool true) ∧ Kept W w') := fun W gk gp gs kW n1 n2 n3 => seen_whole x wd H K D L P V Z 0 gk gp gs 0 pp qp xp fp kp cp pc qc xc fc kc cc pal clr pix fl kl cl A W (h.kept kW) q3 n1 n2 n3
 have F5 : Hid (∀ i j, i ≤ j → j ≤ ff.size → ∃ d1 d2, (∀ W' g, DI w W' g dc0 → Calls Tryz.prog 22 #[.pointer (some ⟨g, 0, none⟩), .string (ff.extract 0 i)] W' fun e W2 => TwoI e ∧ DI w W2 g d1) ∧ (∀ W' g, DI w W' g d1 → Calls Tryz.prog 22 #[.pointer (some ⟨g, 0, none⟩), .string ⟨#[]⟩] W' fun e W2 => TwoI e ∧ DI w W2 g d1) ∧ (∀ W' g, DI w W' g d1 → Calls Tryz.prog 22 #[.pointer (some ⟨g, 0, none⟩), .string (ff.extract i j)] W' fun e W2 => TwoI e ∧ DI w W2 g d2) ∧ (∀ W' g, DI w W' g d2 → Calls Tryz.prog 22 #[.pointer (some ⟨g, 0, none⟩), .string (ff.extract j ff.size)] W' fun e W2 => TwoI e ∧ DI w W2 g ⟨A, ff.size, 0, 0⟩)) := fun i j hi hj => by
  obtain ⟨d1, d2, p1, p2, p3, p4, p5, p6⟩ := fed_pieces q1 q2 i j hi hj
  refine ⟨d1, d2, fun W' g hD => feedDI' _ hD p1 p2 (by rw [ByteArray.size_extract]; omega) HG.out, fun W' g hD => feedDI' ⟨#[]⟩ hD (fun k x e => ?_) rfl (by show 0 ≤ 2147483648; omega) HG.out, fun W' g hD => feedDI' _ hD p3 p4 (by rw [ByteArray.size_extract]; omega) HG.out, fun W' g hD => feedDI' _ hD p5 p6 (by rw [ByteArray.size_extract]; omega) HG.out⟩
  exact absurd (show ([] : List Nat)[k]? = some x from e) (by simp)
 have FP : Hid (∀ (W : World) (c : Int) (n : Nat), -9223372036854775808 ≤ c → c < 9223372036854775808 → 0 < n → n < 1000000000 → Calls Tryz.prog 17 #[.int .i64 c, .int .i64 (n : Int)] W fun r w' => (∃ k : Nat, k < n ∧ r = .returned (.int .i64 (k : Int))) ∧ w' = W) := fun W c n h1 h2 h3 h4 => pick_any c n W h1 h2 (by omega) (by omega)
 obtain ⟨N, hN⟩ : ∃ N, N = wd * H := ⟨_, rfl⟩
 obtain ⟨M, hM⟩ : ∃ M, M = 4 * (wd * H) := ⟨_, rfl⟩
 rw [← hM, ← hN] at F3 F4
 obtain ⟨S1, hS1⟩ : ∃ S, S = ff.size + 1 := ⟨_, rfl⟩
 have eS1 : (ff.size : Int) + 1 = (S1 : Int) := by omega
 have hS1b : 0 < S1 ∧ S1 < 1000000000 := by omega
 replace hS1 : Hid _ := hS1
 clear q1 q2 q3 h hf hGr hN hM h14
 go_enter Tryz.func11, Tryz.ntmps11
 go_wp2_with fail
 refine (F0.out w (Kept.refl _)).mono ?_
 rintro r w2 ⟨g, rfl, hD2⟩
 have y2 := H14.out w2 hD2.kept
 have D2 : Hid (DI w w2 g dc0) := hD2
 clear hD2
 go_wp2_with fail
 refine (F1.out w2 g D2.out).mono ?_
 rintro r w3 ⟨rfl, hD3⟩
 have D3 : Hid (DI w w3 g ⟨A, ff.size, 0, 0⟩) := hD3
 clear hD3 D2 y2
 go_wp2_with fail
 refine (F2.out w3 g D3.out).mono ?_
 rintro r w4 ⟨rfl, hD4⟩
 have D4 : Hid (DI w w4 g ⟨A, ff.size, 0, 0⟩) := hD4
 clear hD4 D3
 go_wp2_with fail
 refine (F3.out w4 g D4.out).mono ?_
 rintro r w6 ⟨gk1, gp1, gs1, rfl, hnn, hk6⟩
 have NN1 : Hid _ := hnn
 have K6 : Hid (Kept w w6) := D4.out.kept.trans hk6
 clear hnn hk6 D4
 obtain ⟨cs, hcs⟩ : ∃ cs : List Value, cs = [.int .i64 0, .int .i64 0, .bool true, .int .i64 (wd : Int), .int .i64 (H : Int), .int .i64 (K : Int), .int .i64 (D : Int), .int .i64 (L : Int), .slice (some ⟨gk1, 0, none⟩) N N, .slice (some ⟨gp1, 0, none⟩) M M, .slice (some ⟨gs1, 0, none⟩) M M] := ⟨_, rfl⟩
 have hl : cs.length = 11 := by rw [hcs]; rfl
 have ho : ∀ v ∈ cs, v.oneCell' = true := by
  intro v hv
  rw [hcs] at hv
  simp only [List.mem_cons, List.not_mem_nil, or_false] at hv
  rcases hv with rfl | rfl | rfl | rfl | rfl | rfl | rfl | rfl | rfl | rfl | rfl <;> rfl
 obtain ⟨hsc, hrg, hkl6⟩ := snap_lay w6 cs hl ho
 unfold snN at hsc hrg hkl6
 have K7 : Hid (Kept w6 ((w6.alloc (Obj.cells #[.int .i64 0, .int .i64 0, .bool false, .int .i64 0, .int .i64 0, .int .i64 0, .int .i64 0, .int .i64 0, .slice none 0 0, .slice none 0 0, .slice none 0 0] 50)).setCells w6.heap.size 0 cs)) := hkl6
 have hag : (Value.agg #[.int .i64 0, .int .i64 0, .bool true, .int .i64 (wd : Int), .int .i64 (H : Int), .int .i64 (K : Int), .int .i64 (D : Int), .int .i64 (L : Int), .slice (some ⟨gk1, 0, none⟩) N N, .slice (some ⟨gp1, 0, none⟩) M M, .slice (some ⟨gs1, 0, none⟩) M M]) = .agg cs.toArray := by rw [hcs]
 rw [hag]
 replace hag : Hid _ := hag
 replace hcs : Hid _ := hcs
 replace hl : Hid _ := hl
 replace ho : Hid _ := ho
 replace hrg : Hid _ := hrg
 clear hkl6
 go_upto_region 5 with fail
 generalize ((w6.alloc (Obj.cells #[.int .i64 0, .int .i64 0, .bool false, .int .i64 0, .int .i64 0, .int .i64 0, .int .i64 0, .int .i64 0, .slice none 0 0, .slice none 0 0, .slice none 0 0] 50)).setCells w6.heap.size 0 cs) = w7 at *
 clear hsc
 replace hrg := hrg.out
 rw [hcs.out] at hrg
 have y0 : w7.cell? ⟨w6.heap.size, 0, none⟩ = _ := hrg 0 _ rfl
 have y1 : w7.cell? ⟨w6.heap.size, 1, none⟩ = _ := hrg 1 _ rfl
 have y2 : w7.cell? ⟨w6.heap.size, 2, none⟩ = _ := hrg 2 _ rfl
 have y3 : w7.cell? ⟨w6.heap.size, 3, none⟩ = _ := hrg 3 _ rfl
 have y4 : w7.cell? ⟨w6.heap.size, 4, none⟩ = _ := hrg 4 _ rfl
 have y5 : w7.cell? ⟨w6.heap.size, 5, none⟩ = _ := hrg 5 _ rfl
 have y6 : w7.cell? ⟨w6.heap.size, 6, none⟩ = _ := hrg 6 _ rfl
 have y7 : w7.cell? ⟨w6.heap.size, 7, none⟩ = _ := hrg 7 _ rfl
 have y8 : w7.cell? ⟨w6.heap.size, 8, none⟩ = _ := hrg 8 _ rfl
 have y9 : w7.cell? ⟨w6.heap.size, 9, none⟩ = _ := hrg 9 _ rfl
 have y10 : w7.cell? ⟨w6.heap.size, 10, none⟩ = _ := hrg 10 _ rfl
 clear hrg
 have FU : Hid _ := F4.out w7 gk1 gp1 gs1 (K6.out.trans K7.out) (NN1.out.1.kept K7.out) (NN1.out.2.1.kept K7.out) (NN1.out.2.2.kept K7.out)
 go_wp2_with fail
 refine Calls.mono FU.out ?_
 rintro r w8 ⟨rfl, hk8⟩
 have K8 : Hid (Kept w w8) := (K6.out.trans K7.out).trans hk8
 clear hk8 y0 y1 y2 y3 y4 y5 y6 y7 y8 y9 y10 FU K7 NN1 hag hcs hl ho
 have y14 := H14.out w8 K8.out
 go_wp2_with fail
 refine (FP.out w8 a S1 ha1 ha2 hS1b.1 hS1b.2).mono ?_
 rintro r w9 ⟨⟨i, hi, rfl⟩, hw9⟩
 subst w9
 have hiS : i ≤ ff.size := by have := hS1.out; omega
 obtain ⟨S2, hS2⟩ : ∃ S, S = ff.size - i := ⟨_, rfl⟩
 obtain ⟨S3, hS3⟩ : ∃ S, S = ff.size - i + 1 := ⟨_, rfl⟩
 have eS2 : (ff.size : Int) - (i : Int) = (S2 : Int) := by omega
 have eS3 : (S2 : Int) + 1 = (S3 : Int) := by omega
 have hS3b : 0 < S3 ∧ S3 < 1000000000 := by omega
 replace hS2 : Hid _ := hS2
 replace hS3 : Hid _ := hS3
 go_wp2_with fail
 refine (FP.out w8 b S3 hb1 hb2 hS3b.1 hS3b.2).mono ?_
 rintro r w9 ⟨⟨k, hk, rfl⟩, hw9⟩
 subst w9
 replace hS2 := hS2.out
 replace hS3 := hS3.out
 obtain ⟨J, hJ⟩ : ∃ J, J = i + k := ⟨_, rfl⟩
 have eJ : (i : Int) + (k : Int) = (J : Int) := by omega
 have hJS : J ≤ ff.size := by omega
 have hiJ : i ≤ J := by omega
 have i0 : (0 : Int) ≤ (i : Int) := by omega
 have i1 : (i : Int) ≤ (ff.size : Int) := by omega
 have i2 : (i : Int) ≤ (J : Int) := by omega
 have i3 : (J : Int) ≤ (ff.size : Int) := by omega
 have i4 : (0 : Int) ≤ (J : Int) := by omega
 obtain ⟨d1, d2, G1, G2, G3, G4⟩ := F5.out i J hiJ hJS
 replace G1 : Hid _ := G1
 replace G2 : Hid _ := G2
 replace G3 : Hid _ := G3
 replace G4 : Hid _ := G4
 clear hS2 hS3 hJ hk hi
 go_wp2_with fail
 refine (F0.out w8 K8.out).mono ?_
 rintro r v2 ⟨g', rfl, hE2⟩
 have y2 := H14.out v2 hE2.kept
 have E2 : Hid (DI w v2 g' dc0) := hE2
 clear hE2 y14
 go_wp2_with fail
 refine (G1.out v2 g' E2.out).mono ?_
 rintro r v3 ⟨⟨ra, rb, rfl⟩, hE3⟩
 have E3 : Hid (DI w v3 g' d1) := hE3
 clear hE3 E2 y2
 go_wp2_with fail
 refine (G2.out v3 g' E3.out).mono ?_
 rintro r v4 ⟨⟨rc, rd, rfl⟩, hE4⟩
 have y4 := H14.out v4 hE4.kept
 have E4 : Hid (DI w v4 g' d1) := hE4
 clear hE4 E3
 go_wp2_with fail
 refine (G3.out v4 g' E4.out).mono ?_
 rintro r v5 ⟨⟨re, rf, rfl⟩, hE5⟩
 have y5 := H14.out v5 hE5.kept
 have E5 : Hid (DI w v5 g' d2) := hE5
 clear hE5 E4 y4
 go_wp2_with fail
 refine (G4.out v5 g' E5.out).mono ?_
 rintro r v6 ⟨⟨rg, rh, rfl⟩, hE6⟩
 have E6 : Hid (DI w v6 g' ⟨A, ff.size, 0, 0⟩) := hE6
 clear hE6 E5 y5
 go_wp2_with fail
 refine (F3.out v6 g' E6.out).mono ?_
 rintro r v7 ⟨gk2, gp2, gs2, rfl, hnn, hk7⟩
 have NN2 : Hid _ := hnn
 have K6 : Hid (Kept w v7) := E6.out.kept.trans hk7
 clear hnn hk7 E6
 obtain ⟨cs, hcs⟩ : ∃ cs : List Value, cs = [.int .i64 0, .int .i64 0, .bool true, .int .i64 (wd : Int), .int .i64 (H : Int), .int .i64 (K : Int), .int .i64 (D : Int), .int .i64 (L : Int), .slice (some ⟨gk2, 0, none⟩) N N, .slice (some ⟨gp2, 0, none⟩) M M, .slice (some ⟨gs2, 0, none⟩) M M] := ⟨_, rfl⟩
 have hl : cs.length = 11 := by rw [hcs]; rfl
 have ho : ∀ v ∈ cs, v.oneCell' = true := by
  intro v hv
  rw [hcs] at hv
  simp only [List.mem_cons, List.not_mem_nil, or_false] at hv
  rcases hv with rfl | rfl | rfl | rfl | rfl | rfl | rfl | rfl | rfl | rfl | rfl <;> rfl
 obtain ⟨hsc, hrg, hkl6⟩ := snap_lay v7 cs hl ho
 unfold snN at hsc hrg hkl6
 have K7 : Hid (Kept v7 ((v7.alloc (Obj.cells #[.int .i64 0, .int .i64 0, .bool false, .int .i64 0, .int .i64 0, .int .i64 0, .int .i64 0, .int .i64 0, .slice none 0 0, .slice none 0 0, .slice none 0 0] 50)).setCells v7.heap.size 0 cs)) := hkl6
 have hag : (Value.agg #[.int .i64 0, .int .i64 0, .bool true, .int .i64 (wd : Int), .int .i64 (H : Int), .int .i64 (K : Int), .int .i64 (D : Int), .int .i64 (L : Int), .slice (some ⟨gk2, 0, none⟩) N N, .slice (some ⟨gp2, 0, none⟩) M M, .slice (some ⟨gs2, 0, none⟩) M M]) = .agg cs.toArray := by rw [hcs]
 rw [hag]
 replace hag : Hid _ := hag
 replace hcs : Hid _ := hcs
 replace hl : Hid _ := hl
 replace ho : Hid _ := ho
 replace hrg : Hid _ := hrg
 clear hkl6
 go_upto_region 16 with fail
 generalize ((v7.alloc (Obj.cells #[.int .i64 0, .int .i64 0, .bool false, .int .i64 0, .int .i64 0, .int .i64 0, .int .i64 0, .int .i64 0, .slice none 0 0, .slice none 0 0, .slice none 0 0] 50)).setCells v7.heap.size 0 cs) = v8 at *
 clear hsc
 replace hrg := hrg.out
 rw [hcs.out] at hrg
 have y0 : v8.cell? ⟨v7.heap.size, 0, none⟩ = _ := hrg 0 _ rfl
 have y1 : v8.cell? ⟨v7.heap.size, 1, none⟩ = _ := hrg 1 _ rfl
 have y2 : v8.cell? ⟨v7.heap.size, 2, none⟩ = _ := hrg 2 _ rfl
 have y3 : v8.cell? ⟨v7.heap.size, 3, none⟩ = _ := hrg 3 _ rfl
 have y4 : v8.cell? ⟨v7.heap.size, 4, none⟩ = _ := hrg 4 _ rfl
 have y5 : v8.cell? ⟨v7.heap.size, 5, none⟩ = _ := hrg 5 _ rfl
 have y6 : v8.cell? ⟨v7.heap.size, 6, none⟩ = _ := hrg 6 _ rfl
 have y7 : v8.cell? ⟨v7.heap.size, 7, none⟩ = _ := hrg 7 _ rfl
 have y8 : v8.cell? ⟨v7.heap.size, 8, none⟩ = _ := hrg 8 _ rfl
 have y9 : v8.cell? ⟨v7.heap.size, 9, none⟩ = _ := hrg 9 _ rfl
 have y10 : v8.cell? ⟨v7.heap.size, 10, none⟩ = _ := hrg 10 _ rfl
 clear hrg
 have FU : Hid _ := F4.out v8 gk2 gp2 gs2 (K6.out.trans K7.out) (NN2.out.1.kept K7.out) (NN2.out.2.1.kept K7.out) (NN2.out.2.2.kept K7.out)
 go_wp2_with fail
 refine Calls.mono FU.out ?_
 rintro r v9 ⟨rfl, hk9⟩
 have K9 : Hid (Kept w v9) := (K6.out.trans K7.out).trans hk9
 clear hk9 y0 y1 y2 y3 y4 y5 y6 y7 y8 y9 y10
 go_wp2
 go_ret
 exact ⟨rfl, K9.out⟩
theorem roundLaw_x (a b i j : Int) (s t u v : ByteArray) (w : World) (ha1 : -9223372036854775808 ≤ a) (ha2 : a < 9223372036854775808) (hb1 : -9223372036854775808 ≤ b) (hb2 : b < 9223372036854775808) (hs : s.size < 9223372036854775808) (ht : t.size < 9223372036854775808) (hu : u.size < 9223372036854775808) (hv : v.size < 9223372036854775808) (hi1 : -9223372036854775808 ≤ i) (hi2 : i < 9223372036854775808) (hj1 : -9223372036854775808 ≤ j) (hj2 : j < 9223372036854775808) (hG : GridAt w) :
  Calls Tryz.prog 3 #[.int .i64 a, .string s, .string t, .int .i64 b, .string u, .string v, .int .i64 i, .int .i64 j] w fun r w' => r = .returned (.bool true) ∧ Kept w w' := by
 have FF : Hid (∀ W' : World, Calls Tryz.prog 10 #[.string s, .string t, .string u, .string v] W' fun r w' => r = .returned (.bool (decide (65536 < s.size ∨ 65536 < t.size ∨ 65536 < u.size ∨ 65536 < v.size))) ∧ w' = W') := fun W' => far_any s t u v W' hs ht hu hv
 have FD : Hid (Calls Tryz.prog 9 #[.int .i64 a, .string s, .string t, .int .i64 b, .string u, .string v] w fun r w' => (decide (65536 < s.size ∨ 65536 < t.size ∨ 65536 < u.size ∨ 65536 < v.size) = true ∧ r = .returned (.pointer none) ∨ decide (65536 < s.size ∨ 65536 < t.size ∨ 65536 < u.size ∨ 65536 < v.size) = false ∧ DeskX w w' r) ∧ Kept w w') := desked_x a b s t u v w ha1 ha2 hb1 hb2 hs ht hu hv hG
 generalize decide (65536 < s.size ∨ 65536 < t.size ∨ 65536 < u.size ∨ 65536 < v.size) = far at *
 clear hG
 go_enter Tryz.func3, Tryz.ntmps3
 go_wp2_with fail
 refine FD.out.mono ?_
 rintro r w1 ⟨h | ⟨_, x, wd, H, K, D, L, P, V, Z, pp, qp, xp, fp, kp, cp, pc, qc, xc, fc, kc, cc, pal, clr, pix, fl, kl, cl, ff, rfl, hx0, hx1, hD, hfT, h14⟩, hk1⟩
 ·obtain ⟨rfl, rfl⟩ := h
  have HK : Hid (Kept w w1) := hk1
  clear hk1
  go_wp2_with fail
  refine (FF.out _).mono ?_
  rintro r w2 ⟨rfl, hw⟩
  subst w2
  go_wp2
  go_ret
  exact ⟨rfl, HK.out⟩
 ·have HK : Hid (Kept w w1) := hk1
  have HD : Hid (Dk w1 x wd H K D L P V Z pp qp xp fp kp cp pc qc xc fc kc cc pal clr pix fl kl cl) := hD
  have HFT : Hid (FileT wd H D K L P V pal clr pix fl kl ff) := hfT
  have H14 : Hid (w1.cell? ⟨x, 14, none⟩ = some (.string ff)) := h14
  clear hk1 hD hfT h14
  go_wp2_with fail
  refine (kround_x x wd H K D L P V Z i j pp qp xp fp kp cp pc qc xc fc kc cc pal clr pix fl kl cl ff w1 HD.out hx0 HFT.out H14.out hi1 hi2 hj1 hj2).mono ?_
  rintro r w2 ⟨rfl, hk2⟩
  have HK2 : Hid (Kept w w2) := HK.out.trans hk2
  clear hk2
  go_wp2
  go_ret
  exact ⟨rfl, HK2.out⟩
end Go.Proofs.YtmbmecfodigciaaGreatDoor
