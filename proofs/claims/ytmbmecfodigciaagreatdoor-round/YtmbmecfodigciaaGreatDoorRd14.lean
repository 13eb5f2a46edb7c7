import Derived.Test.YtmbmecfodigciaaGreatDoorRd13
set_option maxRecDepth 100000
set_option maxHeartbeats 6400000
namespace Go.Proofs.YtmbmecfodigciaaGreatDoor
open Go.RowKit Px
set_option linter.unusedSimpArgs false
set_option linter.unusedVariables false
def fixSym (p : Nat) : Nat := if p < 24 then 256 + p else if p < 168 then p - 24 else if p < 176 then 112 + p else p - 32
def fixCnt (b : Nat) : Nat := if b = 7 then 24 else if b = 8 then 152 else if b = 9 then 112 else 0
def fixL : CS := ⟨fixCnt, fixSym, 288, 9⟩
def fixD : CS := ⟨fun b => if b = 5 then 32 else 0, fun p => if p < 32 then p else 0, 32, 5⟩
def cntF (i b : Nat) : Nat := if b = 7 then min i 280 - min i 256 else if b = 8 then min i 144 + (i - 280) else if b = 9 then min i 256 - min i 144 else 0
def lgF (i : Nat) : Nat := if i = 0 then 0 else if i ≤ 144 then 8 else 9
def nx0F (b : Nat) : Nat := if b ≤ 7 then 0 else if b = 8 then 24 else if b = 9 then 176 else 288
def nxF (i b : Nat) : Nat := nx0F b + cntF i b
def syF (i p : Nat) : Nat := if p < 288 ∧ fixSym p < i then fixSym p else 0
theorem fixLen_cases (i : Nat) : (i < 144 ∧ fixLen i = 8) ∨ (144 ≤ i ∧ i < 256 ∧ fixLen i = 9) ∨ (256 ≤ i ∧ i < 280 ∧ fixLen i = 7) ∨ (280 ≤ i ∧ fixLen i = 8) := by
 unfold fixLen
 by_cases h1 : i < 144
 ·rw [if_pos h1]; omega
 ·rw [if_neg h1]
  by_cases h2 : i < 256
  ·rw [if_pos h2]; omega
  ·rw [if_neg h2]
   by_cases h3 : i < 280
   ·rw [if_pos h3]; omega
   ·rw [if_neg h3]; omega
theorem k7 (i : Nat) : cntF i 7 = min i 280 - min i 256 := rfl
theorem k8 (i : Nat) : cntF i 8 = min i 144 + (i - 280) := rfl
theorem k9 (i : Nat) : cntF i 9 = min i 256 - min i 144 := rfl
theorem kx (i b : Nat) (h1 : b ≠ 7) (h2 : b ≠ 8) (h3 : b ≠ 9) : cntF i b = 0 := by unfold cntF; rw [if_neg h1, if_neg h2, if_neg h3]
theorem cnt_step (i b : Nat) : cntF (i + 1) b = if b = fixLen i then cntF i b + 1 else cntF i b := by
 have hc := fixLen_cases i
 generalize fixLen i = T at hc
 by_cases q7 : b = 7
 ·rw [q7, k7 (i + 1), k7 i]
  by_cases t : 7 = T
  ·rw [if_pos t]; omega
  ·rw [if_neg t]; omega
 ·by_cases q8 : b = 8
  ·rw [q8, k8 (i + 1), k8 i]
   by_cases t : 8 = T
   ·rw [if_pos t]; omega
   ·rw [if_neg t]; omega
  ·by_cases q9 : b = 9
   ·rw [q9, k9 (i + 1), k9 i]
    by_cases t : 9 = T
    ·rw [if_pos t]; omega
    ·rw [if_neg t]; omega
   ·rw [kx _ _ q7 q8 q9, kx _ _ q7 q8 q9, if_neg (by omega)]
theorem fix_mk : MkOk 288 fixLen cntF lgF nx0F nxF syF := by
 have c1 : ∀ i, i < 288 → cntF (i + 1) = upd (cntF i) (fixLen i) (cntF i (fixLen i) + 1) := fun i hi => by
  funext b
  show cntF (i + 1) b = if b = fixLen i then cntF i (fixLen i) + 1 else cntF i b
  have e : cntF (i + 1) b = if b = fixLen i then cntF i b + 1 else cntF i b := cnt_step i b
  rw [e]
  split
  ·rename_i q; rw [q]
  ·rfl
 refine ⟨by omega, by omega, fun i _ => by rcases fixLen_cases i with ⟨_, h⟩ | ⟨_, _, h⟩ | ⟨_, _, h⟩ | ⟨_, h⟩ <;> omega, ?_, c1, fun i j hi => ?_, rfl, fun i hi => ?_, fun i => by unfold lgF; split; omega; split <;> omega, rfl, rfl, fun k h1 h2 => ?_, fun k => by unfold nx0F; split; omega; split; omega; split <;> omega, fun j _ => ?_, fun i hi => ?_, fun i hi => ?_, ?_, fun i hi => ?_⟩
 ·funext b; unfold cntF; split; rfl; split; rfl; split <;> rfl
 ·unfold cntF; split; omega; split; omega; split <;> omega
 ·unfold lgF
  rcases fixLen_cases i with ⟨h1, h2⟩ | ⟨h1, h1', h2⟩ | ⟨h1, h1', h2⟩ | ⟨h1, h2⟩
  all_goals
   rw [h2, if_neg (by omega)]
   by_cases i0 : i = 0
   ·subst i0; first | (exfalso; omega) | decide
   ·rw [if_neg i0]; split <;> split <;> omega
 ·unfold nx0F cntF
  rcases (by omega : k < 7 ∨ k = 7 ∨ k = 8 ∨ k = 9 ∨ 9 < k) with q | q | q | q | q
  ·simp only [show ¬ k = 7 by omega, show ¬ k = 8 by omega, show ¬ k = 9 by omega, show k + 1 ≤ 7 by omega, show k ≤ 7 by omega, if_true, if_false]
  ·subst q; decide
  ·subst q; decide
  ·subst q; decide
  ·simp only [show ¬ k = 7 by omega, show ¬ k = 8 by omega, show ¬ k = 9 by omega, show ¬ k + 1 ≤ 7 by omega, show ¬ k ≤ 7 by omega, show ¬ k + 1 = 8 by omega, show ¬ k + 1 = 9 by omega, if_false]
 ·unfold nxF cntF; split; omega; split; omega; split <;> omega
 ·funext b
  unfold nxF
  rw [c1 i hi]
  unfold upd
  split
  ·rename_i q; subst q; omega
  ·rfl
 ·rcases fixLen_cases i with ⟨h1, h2⟩ | ⟨h1, h1', h2⟩ | ⟨h1, h1', h2⟩ | ⟨h1, h2⟩
  ·rw [h2]; show 24 + (min i 144 + (i - 280)) < 288; omega
  ·rw [h2]; show 176 + (min i 256 - min i 144) < 288; omega
  ·rw [h2]; show 0 + (min i 280 - min i 256) < 288; omega
  ·rw [h2]; show 24 + (min i 144 + (i - 280)) < 288; omega
 ·funext p; unfold syF; rw [if_neg (by omega)]
 ·funext p
  show (if p < 288 ∧ fixSym p < i + 1 then fixSym p else 0) = if p = nxF i (fixLen i) then i else (if p < 288 ∧ fixSym p < i then fixSym p else 0)
  have key : p = nxF i (fixLen i) ↔ p < 288 ∧ fixSym p = i := by
   have fs : (p < 24 ∧ fixSym p = 256 + p) ∨ (24 ≤ p ∧ p < 168 ∧ fixSym p = p - 24) ∨ (168 ≤ p ∧ p < 176 ∧ fixSym p = 112 + p) ∨ (176 ≤ p ∧ fixSym p = p - 32) := by
    unfold fixSym
    by_cases a1 : p < 24
    ·rw [if_pos a1]; omega
    ·rw [if_neg a1]
     by_cases a2 : p < 168
     ·rw [if_pos a2]; omega
     ·rw [if_neg a2]
      by_cases a3 : p < 176
      ·rw [if_pos a3]; omega
      ·rw [if_neg a3]; omega
   rcases fixLen_cases i with ⟨h1, h2⟩ | ⟨h1, h1', h2⟩ | ⟨h1, h1', h2⟩ | ⟨h1, h2⟩
   ·rw [h2, show nxF i 8 = 24 + (min i 144 + (i - 280)) from rfl]; omega
   ·rw [h2, show nxF i 9 = 176 + (min i 256 - min i 144) from rfl]; omega
   ·rw [h2, show nxF i 7 = 0 + (min i 280 - min i 256) from rfl]; omega
   ·rw [h2, show nxF i 8 = 24 + (min i 144 + (i - 280)) from rfl]; omega
  by_cases q : p = nxF i (fixLen i)
  ·rw [if_pos q]
   obtain ⟨a1, a2⟩ := key.1 q
   rw [if_pos ⟨a1, by omega⟩, a2]
  ·rw [if_neg q]
   by_cases q2 : p < 288 ∧ fixSym p < i
   ·rw [if_pos q2, if_pos ⟨q2.1, by omega⟩]
   ·rw [if_neg q2, if_neg (fun k => q2 ⟨k.1, by
     have : fixSym p ≠ i := fun t => q (key.2 ⟨k.1, t⟩)
     omega⟩)]
theorem csC_fixL (j : Nat) (hj : j < 306) : csC ⟨cntF 288, syF 288, 288, lgF 288⟩ j = csC fixL j := by
 unfold csC
 show (if j < 16 then Value.int .i64 (cntF 288 j : Int) else if j < 304 then Value.int .i64 (syF 288 (j - 16) : Int) else if j = 304 then Value.int .i64 ((288 : Nat) : Int) else Value.int .i64 (lgF 288 : Int)) = (if j < 16 then Value.int .i64 (fixCnt j : Int) else if j < 304 then Value.int .i64 (fixSym (j - 16) : Int) else if j = 304 then Value.int .i64 ((288 : Nat) : Int) else Value.int .i64 ((9 : Nat) : Int))
 split
 ·have : cntF 288 j = fixCnt j := by unfold cntF fixCnt; split; rfl; split; rfl; split <;> rfl
  rw [this]
 ·split
  ·have : syF 288 (j - 16) = fixSym (j - 16) := by
    unfold syF
    rw [if_pos ⟨by omega, by unfold fixSym; split; omega; split; omega; split <;> omega⟩]
   rw [this]
  ·rfl
def cntD (i b : Nat) : Nat := if b = 5 then i else 0
def lgD (i : Nat) : Nat := if i = 0 then 0 else 5
def nx0D (b : Nat) : Nat := if b ≤ 5 then 0 else 32
def nxD (i b : Nat) : Nat := nx0D b + cntD i b
def syD (i p : Nat) : Nat := if p < i then p else 0
def f5 : Nat → Nat := fun _ => 5
theorem dist_mk : MkOk 32 f5 cntD lgD nx0D nxD syD := by
 refine ⟨by omega, by omega, fun i _ => by show 1 ≤ 5 ∧ 5 ≤ 15; omega, ?_, fun i hi => ?_, fun i j hi => ?_, rfl, fun i hi => ?_, fun i => by unfold lgD; split <;> omega, rfl, rfl, fun k h1 h2 => ?_, fun k => by unfold nx0D; split <;> omega, fun j _ => ?_, fun i hi => ?_, fun i hi => ?_, ?_, fun i hi => ?_⟩
 ·funext b; unfold cntD; split <;> rfl
 ·funext b
  show (if b = 5 then i + 1 else 0) = if b = 5 then cntD i 5 + 1 else cntD i b
  by_cases q : b = 5
  ·rw [if_pos q, if_pos q]; rfl
  ·rw [if_neg q, if_neg q]; unfold cntD; rw [if_neg q]
 ·unfold cntD; split <;> omega
 ·show (if i + 1 = 0 then 0 else 5) = max (lgD i) 5
  unfold lgD; rw [if_neg (by omega)]; split <;> omega
 ·unfold nx0D cntD
  split <;> split <;> (try split) <;> omega
 ·unfold nxD cntD; split <;> omega
 ·funext b
  show nx0D b + (if b = 5 then i + 1 else 0) = if b = 5 then nxD i 5 + 1 else nxD i b
  by_cases q : b = 5
  ·rw [if_pos q, if_pos q, q]; show 0 + (i + 1) = 0 + i + 1; omega
  ·rw [if_neg q, if_neg q]; unfold nxD cntD; rw [if_neg q]
 ·show 0 + i < 288; omega
 ·funext p; unfold syD; rw [if_neg (by omega)]
 ·funext p
  show (if p < i + 1 then p else 0) = if p = 0 + i then i else (if p < i then p else 0)
  by_cases q : p = i
  ·rw [if_pos (by omega), if_pos (by omega), q]
  ·rw [if_neg (show ¬ p = 0 + i by omega)]
   by_cases q2 : p < i
   ·rw [if_pos q2, if_pos (by omega)]
   ·rw [if_neg q2, if_neg (by omega)]
theorem csC_fixD (j : Nat) (hj : j < 306) : csC ⟨cntD 32, syD 32, 32, lgD 32⟩ j = csC fixD j := by
 unfold csC
 rfl
theorem fixedLits_x (w : World) :
  Calls Tryz.prog 191 #[] w fun e w' => e = .returned (.agg ((List.range 306).map (csC ⟨cntF 288, syF 288, 288, lgF 288⟩)).toArray) ∧ Kept w w' := by
 obtain ⟨ds, hds0⟩ : ∃ ds, ds = (List.range 306).map (csC ⟨cntF 288, syF 288, 288, lgF 288⟩) := ⟨_, rfl⟩
 rw [← hds0]
 have HDS : Hid (ds = (List.range 306).map (csC ⟨cntF 288, syF 288, 288, lgF 288⟩)) := hds0
 clear hds0
 have K0 : Hid (Kept w (w.alloc (Obj.cells Tryz.zeroCells82 82))) := Below.alloc (Below.refl _ _) (Nat.le_refl _) _
 have T0 : Hid ((w.alloc (Obj.cells Tryz.zeroCells82 82)).there w.heap.size 0 306) := by
  have := (blk306 w 82).there (k := 0) (m := 306) (by omega)
  rw [← zero306] at this
  exact this
 have L0 : Hid (w.heap.size < (w.alloc (Obj.cells Tryz.zeroCells82 82)).heap.size) := by show _ < _; simp
 go_enter Tryz.func191, Tryz.ntmps191
 go_wp2_with fail
 generalize w.alloc (Obj.cells Tryz.zeroCells82 82) = w1 at *
 refine (fixlit_x w1).mono ?_
 rintro e w2 ⟨rfl, hk2⟩
 obtain ⟨cs, hcs⟩ : ∃ cs, cs = (List.range 288).map (u8C fixLen 288) := ⟨_, rfl⟩
 have hcl : cs.length = 288 := by rw [hcs]; exact range_len _ 288
 have hone : ∀ v ∈ cs, v.oneCell' = true := by rw [hcs]; exact u8C_one _ _
 have thA : (w2.alloc (Obj.cells Tryz.zeroCells149 149)).there w2.heap.size 0 288 := by
  have := (blk_rep w2 288 (.int .u8 0) 149 fixLen rfl).there (k := 0) (m := 288) (by omega)
  first | exact this | (rw [← jzero288] at this; exact this)
 have htl : (w2.alloc (Obj.cells Tryz.zeroCells149 149)).there w2.heap.size 0 cs.length := by rw [hcl]; exact thA
 have hsc : (storeCells ⟨w2.heap.size, 0, none⟩ cs).run Tryz.prog (w2.alloc (Obj.cells Tryz.zeroCells149 149)) = .ok () ((w2.alloc (Obj.cells Tryz.zeroCells149 149)).setCells w2.heap.size 0 cs) := store_all htl hone
 have rg := World.rangeAt_setCells_same (w2.alloc (Obj.cells Tryz.zeroCells149 149)) w2.heap.size 0 cs htl
 have kA : Kept w2 (w2.alloc (Obj.cells Tryz.zeroCells149 149)) := Below.alloc (Below.refl _ _) (Nat.le_refl _) _
 have K3 : Hid (Kept w1 ((w2.alloc (Obj.cells Tryz.zeroCells149 149)).setCells w2.heap.size 0 cs)) := Kept.setCells hk2.size _ _ (hk2.trans kA)
 have HG : Hid (∀ i, i < 288 → ((w2.alloc (Obj.cells Tryz.zeroCells149 149)).setCells w2.heap.size 0 cs).cell? ⟨w2.heap.size, i, none⟩ = some (.int .u8 (fixLen i : Int))) := fun i hi => by
  have := rg i (.int .u8 (fixLen i : Int)) (by rw [hcs, range_get _ 288 i hi]; unfold u8C; rw [if_pos hi])
  rw [Nat.zero_add] at this
  exact this
 first | rw [← hcs] | rw [show (List.map (u8C (fun _ => 5) 32) (List.range 32)) = cs from hcs.symm]
 replace hcs : Hid _ := hcs
 replace hcl : Hid _ := hcl
 replace hone : Hid _ := hone
 clear thA htl rg kA hk2
 go_upto_region 2 with fail
 generalize (w2.alloc (Obj.cells Tryz.zeroCells149 149)).setCells w2.heap.size 0 cs = w3 at *
 clear hsc
 have FM : Hid (Calls Tryz.prog 193 #[.slice (some ⟨w2.heap.size, 0, none⟩) 288 288] w3 fun e w' => e = .returned (.agg ((List.range 306).map (csC ⟨cntF 288, syF 288, 288, lgF 288⟩)).toArray) ∧ Kept w3 w') := make_x w2.heap.size 288 288 fixLen cntF lgF nx0F nxF syF w3 HG.out (Nat.le_refl _) fix_mk
 have hds := HDS.out
 have hdl : ds.length = 306 := by rw [hds]; exact range_len _ 306
 have hdo : ∀ v ∈ ds, v.oneCell' = true := by rw [hds]; exact csC_one _
 rw [← hds] at FM
 replace hds : Hid _ := hds
 replace hdl : Hid _ := hdl
 replace hdo : Hid _ := hdo
 go_wp2_with fail
 refine FM.out.mono ?_
 rintro e w4 ⟨rfl, hk4⟩
 have K4 : Kept w1 w4 := K3.out.trans hk4
 have th4 : w4.there w.heap.size 0 ds.length := by rw [hdl.out]; exact fun j hj => ⟨by rw [K4.cell (p := ⟨w.heap.size, 0 + j, none⟩) L0.out]; exact (T0.out j hj).1, by rw [K4.frozen (p := ⟨w.heap.size, 0 + j, none⟩) L0.out]; exact (T0.out j hj).2⟩
 have hsc : (storeCells ⟨w.heap.size, 0, none⟩ ds).run Tryz.prog w4 = .ok () (w4.setCells w.heap.size 0 ds) := store_all th4 hdo.out
 have hi : Hid ((Tryz.prog.info? 82).map (·.size) = some ds.length) := by show _ = _; rw [hdl.out]; exact info306
 have hld : Hid ((loadVar 82 ⟨w.heap.size, 0, none⟩).run Tryz.prog (w4.setCells w.heap.size 0 ds) = .ok (.agg ds.toArray) (w4.setCells w.heap.size 0 ds)) :=
  run_loadVar_mid _ _ _ _ ds _ (World.rangeAt_setCells_same _ _ _ _ th4) Tryz.underlying82 rfl hi.out
 have KE : Hid (Kept w (w4.setCells w.heap.size 0 ds)) := Kept.setCells (Nat.le_refl _) _ _ (K0.out.trans K4)
 clear th4 hk4 K4
 go_wp2
 exact bodyPost_ret (v := .agg ds.toArray) (results_cell1 rfl _ _ _ _ _ rfl hld.out) rfl ⟨rfl, KE.out⟩
theorem fixedDists_x (w : World) :
  Calls Tryz.prog 192 #[] w fun e w' => e = .returned (.agg ((List.range 306).map (csC ⟨cntD 32, syD 32, 32, lgD 32⟩)).toArray) ∧ Kept w w' := by
 obtain ⟨ds, hds0⟩ : ∃ ds, ds = (List.range 306).map (csC ⟨cntD 32, syD 32, 32, lgD 32⟩) := ⟨_, rfl⟩
 rw [← hds0]
 have HDS : Hid (ds = (List.range 306).map (csC ⟨cntD 32, syD 32, 32, lgD 32⟩)) := hds0
 clear hds0
 have K0 : Hid (Kept w (w.alloc (Obj.cells Tryz.zeroCells82 82))) := Below.alloc (Below.refl _ _) (Nat.le_refl _) _
 have T0 : Hid ((w.alloc (Obj.cells Tryz.zeroCells82 82)).there w.heap.size 0 306) := by
  have := (blk306 w 82).there (k := 0) (m := 306) (by omega)
  rw [← zero306] at this
  exact this
 have L0 : Hid (w.heap.size < (w.alloc (Obj.cells Tryz.zeroCells82 82)).heap.size) := by show _ < _; simp
 go_enter Tryz.func192, Tryz.ntmps192
 go_wp2_with fail
 generalize w.alloc (Obj.cells Tryz.zeroCells82 82) = w1 at *
 refine (fixdist_x w1).mono ?_
 rintro e w2 ⟨rfl, hk2⟩
 obtain ⟨cs, hcs⟩ : ∃ cs, cs = (List.range 32).map (u8C f5 32) := ⟨_, rfl⟩
 have hcl : cs.length = 32 := by rw [hcs]; exact range_len _ 32
 have hone : ∀ v ∈ cs, v.oneCell' = true := by rw [hcs]; exact u8C_one _ _
 have thA : (w2.alloc (Obj.cells #[.int .u8 0, .int .u8 0, .int .u8 0, .int .u8 0, .int .u8 0, .int .u8 0, .int .u8 0, .int .u8 0, .int .u8 0, .int .u8 0, .int .u8 0, .int .u8 0, .int .u8 0, .int .u8 0, .int .u8 0, .int .u8 0, .int .u8 0, .int .u8 0, .int .u8 0, .int .u8 0, .int .u8 0, .int .u8 0, .int .u8 0, .int .u8 0, .int .u8 0, .int .u8 0, .int .u8 0, .int .u8 0, .int .u8 0, .int .u8 0, .int .u8 0, .int .u8 0] 213)).there w2.heap.size 0 32 := by
  have := (blk_rep w2 32 (.int .u8 0) 213 f5 rfl).there (k := 0) (m := 32) (by omega)
  first | exact this | (rw [← jzero32] at this; exact this)
 have htl : (w2.alloc (Obj.cells #[.int .u8 0, .int .u8 0, .int .u8 0, .int .u8 0, .int .u8 0, .int .u8 0, .int .u8 0, .int .u8 0, .int .u8 0, .int .u8 0, .int .u8 0, .int .u8 0, .int .u8 0, .int .u8 0, .int .u8 0, .int .u8 0, .int .u8 0, .int .u8 0, .int .u8 0, .int .u8 0, .int .u8 0, .int .u8 0, .int .u8 0, .int .u8 0, .int .u8 0, .int .u8 0, .int .u8 0, .int .u8 0, .int .u8 0, .int .u8 0, .int .u8 0, .int .u8 0] 213)).there w2.heap.size 0 cs.length := by rw [hcl]; exact thA
 have hsc : (storeCells ⟨w2.heap.size, 0, none⟩ cs).run Tryz.prog (w2.alloc (Obj.cells #[.int .u8 0, .int .u8 0, .int .u8 0, .int .u8 0, .int .u8 0, .int .u8 0, .int .u8 0, .int .u8 0, .int .u8 0, .int .u8 0, .int .u8 0, .int .u8 0, .int .u8 0, .int .u8 0, .int .u8 0, .int .u8 0, .int .u8 0, .int .u8 0, .int .u8 0, .int .u8 0, .int .u8 0, .int .u8 0, .int .u8 0, .int .u8 0, .int .u8 0, .int .u8 0, .int .u8 0, .int .u8 0, .int .u8 0, .int .u8 0, .int .u8 0, .int .u8 0] 213)) = .ok () ((w2.alloc (Obj.cells #[.int .u8 0, .int .u8 0, .int .u8 0, .int .u8 0, .int .u8 0, .int .u8 0, .int .u8 0, .int .u8 0, .int .u8 0, .int .u8 0, .int .u8 0, .int .u8 0, .int .u8 0, .int .u8 0, .int .u8 0, .int .u8 0, .int .u8 0, .int .u8 0, .int .u8 0, .int .u8 0, .int .u8 0, .int .u8 0, .int .u8 0, .int .u8 0, .int .u8 0, .int .u8 0, .int .u8 0, .int .u8 0, .int .u8 0, .int .u8 0, .int .u8 0, .int .u8 0] 213)).setCells w2.heap.size 0 cs) := store_all htl hone
 have rg := World.rangeAt_setCells_same (w2.alloc (Obj.cells #[.int .u8 0, .int .u8 0, .int .u8 0, .int .u8 0, .int .u8 0, .int .u8 0, .int .u8 0, .int .u8 0, .int .u8 0, .int .u8 0, .int .u8 0, .int .u8 0, .int .u8 0, .int .u8 0, .int .u8 0, .int .u8 0, .int .u8 0, .int .u8 0, .int .u8 0, .int .u8 0, .int .u8 0, .int .u8 0, .int .u8 0, .int .u8 0, .int .u8 0, .int .u8 0, .int .u8 0, .int .u8 0, .int .u8 0, .int .u8 0, .int .u8 0, .int .u8 0] 213)) w2.heap.size 0 cs htl
 have kA : Kept w2 (w2.alloc (Obj.cells #[.int .u8 0, .int .u8 0, .int .u8 0, .int .u8 0, .int .u8 0, .int .u8 0, .int .u8 0, .int .u8 0, .int .u8 0, .int .u8 0, .int .u8 0, .int .u8 0, .int .u8 0, .int .u8 0, .int .u8 0, .int .u8 0, .int .u8 0, .int .u8 0, .int .u8 0, .int .u8 0, .int .u8 0, .int .u8 0, .int .u8 0, .int .u8 0, .int .u8 0, .int .u8 0, .int .u8 0, .int .u8 0, .int .u8 0, .int .u8 0, .int .u8 0, .int .u8 0] 213)) := Below.alloc (Below.refl _ _) (Nat.le_refl _) _
 have K3 : Hid (Kept w1 ((w2.alloc (Obj.cells #[.int .u8 0, .int .u8 0, .int .u8 0, .int .u8 0, .int .u8 0, .int .u8 0, .int .u8 0, .int .u8 0, .int .u8 0, .int .u8 0, .int .u8 0, .int .u8 0, .int .u8 0, .int .u8 0, .int .u8 0, .int .u8 0, .int .u8 0, .int .u8 0, .int .u8 0, .int .u8 0, .int .u8 0, .int .u8 0, .int .u8 0, .int .u8 0, .int .u8 0, .int .u8 0, .int .u8 0, .int .u8 0, .int .u8 0, .int .u8 0, .int .u8 0, .int .u8 0] 213)).setCells w2.heap.size 0 cs)) := Kept.setCells hk2.size _ _ (hk2.trans kA)
 have HG : Hid (∀ i, i < 32 → ((w2.alloc (Obj.cells #[.int .u8 0, .int .u8 0, .int .u8 0, .int .u8 0, .int .u8 0, .int .u8 0, .int .u8 0, .int .u8 0, .int .u8 0, .int .u8 0, .int .u8 0, .int .u8 0, .int .u8 0, .int .u8 0, .int .u8 0, .int .u8 0, .int .u8 0, .int .u8 0, .int .u8 0, .int .u8 0, .int .u8 0, .int .u8 0, .int .u8 0, .int .u8 0, .int .u8 0, .int .u8 0, .int .u8 0, .int .u8 0, .int .u8 0, .int .u8 0, .int .u8 0, .int .u8 0] 213)).setCells w2.heap.size 0 cs).cell? ⟨w2.heap.size, i, none⟩ = some (.int .u8 (f5 i : Int))) := fun i hi => by
  have := rg i (.int .u8 (f5 i : Int)) (by rw [hcs, range_get _ 32 i hi]; unfold u8C; rw [if_pos hi])
  rw [Nat.zero_add] at this
  exact this
 first | rw [← hcs] | rw [show (List.map (u8C (fun _ => 5) 32) (List.range 32)) = cs from hcs.symm]
 replace hcs : Hid _ := hcs
 replace hcl : Hid _ := hcl
 replace hone : Hid _ := hone
 clear thA htl rg kA hk2
 go_upto_region 2 with fail
 generalize (w2.alloc (Obj.cells #[.int .u8 0, .int .u8 0, .int .u8 0, .int .u8 0, .int .u8 0, .int .u8 0, .int .u8 0, .int .u8 0, .int .u8 0, .int .u8 0, .int .u8 0, .int .u8 0, .int .u8 0, .int .u8 0, .int .u8 0, .int .u8 0, .int .u8 0, .int .u8 0, .int .u8 0, .int .u8 0, .int .u8 0, .int .u8 0, .int .u8 0, .int .u8 0, .int .u8 0, .int .u8 0, .int .u8 0, .int .u8 0, .int .u8 0, .int .u8 0, .int .u8 0, .int .u8 0] 213)).setCells w2.heap.size 0 cs = w3 at *
 clear hsc
 have FM : Hid (Calls Tryz.prog 193 #[.slice (some ⟨w2.heap.size, 0, none⟩) 32 32] w3 fun e w' => e = .returned (.agg ((List.range 306).map (csC ⟨cntD 32, syD 32, 32, lgD 32⟩)).toArray) ∧ Kept w3 w') := make_x w2.heap.size 32 32 f5 cntD lgD nx0D nxD syD w3 HG.out (Nat.le_refl _) dist_mk
 have hds := HDS.out
 have hdl : ds.length = 306 := by rw [hds]; exact range_len _ 306
 have hdo : ∀ v ∈ ds, v.oneCell' = true := by rw [hds]; exact csC_one _
 rw [← hds] at FM
 replace hds : Hid _ := hds
 replace hdl : Hid _ := hdl
 replace hdo : Hid _ := hdo
 go_wp2_with fail
 refine FM.out.mono ?_
 rintro e w4 ⟨rfl, hk4⟩
 have K4 : Kept w1 w4 := K3.out.trans hk4
 have th4 : w4.there w.heap.size 0 ds.length := by rw [hdl.out]; exact fun j hj => ⟨by rw [K4.cell (p := ⟨w.heap.size, 0 + j, none⟩) L0.out]; exact (T0.out j hj).1, by rw [K4.frozen (p := ⟨w.heap.size, 0 + j, none⟩) L0.out]; exact (T0.out j hj).2⟩
 have hsc : (storeCells ⟨w.heap.size, 0, none⟩ ds).run Tryz.prog w4 = .ok () (w4.setCells w.heap.size 0 ds) := store_all th4 hdo.out
 have hi : Hid ((Tryz.prog.info? 82).map (·.size) = some ds.length) := by show _ = _; rw [hdl.out]; exact info306
 have hld : Hid ((loadVar 82 ⟨w.heap.size, 0, none⟩).run Tryz.prog (w4.setCells w.heap.size 0 ds) = .ok (.agg ds.toArray) (w4.setCells w.heap.size 0 ds)) :=
  run_loadVar_mid _ _ _ _ ds _ (World.rangeAt_setCells_same _ _ _ _ th4) Tryz.underlying82 rfl hi.out
 have KE : Hid (Kept w (w4.setCells w.heap.size 0 ds)) := Kept.setCells (Nat.le_refl _) _ _ (K0.out.trans K4)
 clear th4 hk4 K4
 go_wp2
 exact bodyPost_ret (v := .agg ds.toArray) (results_cell1 rfl _ _ _ _ _ rfl hld.out) rfl ⟨rfl, KE.out⟩
theorem CSV.of_cells {d : Nat → Value} {o : Nat} {s : CS} (h : ∀ j, j < 306 → d (o + j) = csC s j) : CSV d o s := by
 have k := csC_V s
 refine ⟨fun i hi => ?_, fun i hi => ?_, ?_, ?_⟩
 ·rw [h i (by omega)]; have := k.count i hi; rwa [Nat.zero_add] at this
 ·rw [show o + 16 + i = o + (16 + i) from by omega, h (16 + i) (by omega)]; have := k.sym i hi; rwa [show 0 + 16 + i = 16 + i from by omega] at this
 ·rw [h 304 (by omega)]; have := k.total; rwa [Nat.zero_add] at this
 ·rw [h 305 (by omega)]; have := k.longest; rwa [Nat.zero_add] at this
def St.block1 (s : St) (v : Nat) : St := ({ s with last := decide (v % 2 = 1), lit := fixL, dist := fixD } : St).enter 12 0
theorem takeBlock1_x (b o n v : Nat) (c : Nat → Value) (s : St) (w : World) (hB : Blk w b n c) (hV : StV c o s) (hn : o + 3351 ≤ n) (hv : v = 2 ∨ v = 3) :
  Calls Tryz.prog 178 #[.pointer (some ⟨b, o, none⟩), .int .u32 (v : Int)] w fun e w' => e = .returned (.int .i64 0) ∧ StStep b o n c (s.block1 v) w w' := by
 have k9 := hB.at (i := o + 9) (by omega) hV.last
 have z := hB.fz
 have HB : Hid (Blk w b n c) := hB
 have HV : Hid (StV c o s) := hV
 have ea := u32_and_1 v (by omega)
 have e2 : (v : Int) / 2 = 1 := by omega
 obtain ⟨B1, hB1⟩ : ∃ B1, B1 = v % 2 := ⟨_, rfl⟩
 rw [← hB1] at ea
 have HL : Hid (((B1 : Int) == 1) = decide (v % 2 = 1)) := by show ((B1 : Int) == 1) = decide (v % 2 = 1); rw [Bool.eq_iff_iff, beq_iff_eq, decide_eq_true_iff]; omega
 have HE : Hid (s.block1 v = ({ s with last := decide (v % 2 = 1), lit := fixL, dist := fixD } : St).enter 12 0) := rfl
 generalize decide (v % 2 = 1) = LL at *
 replace hB1 : Hid _ := hB1
 clear hB hV hv
 go_enter Tryz.func178, Tryz.ntmps178
 go_wp2_with fail
 rw [HL.out]
 have BB1 : Hid (Blk (w.setCell ⟨b, o + 9, none⟩ (.bool LL)) b n (upd c (o + 9) (.bool LL))) := HB.out.set (by omega) _
 have VV1 : Hid (StV (upd c (o + 9) (.bool LL)) o { s with last := LL }) := HV.out.set_last LL
 have FF1 : Hid (Fr1 b w (w.setCell ⟨b, o + 9, none⟩ (.bool LL))) := Fr1.set (Fr.refl _ _) _ _
 have CC1 : Hid (FrC b o (o + 3351) c (upd c (o + 9) (.bool LL))) := FrC.upd _ (by omega) (by omega)
 generalize w.setCell ⟨b, o + 9, none⟩ (.bool LL) = w1 at *
 generalize upd c (o + 9) (.bool LL) = c1 at *
 clear k9 z HB HV
 refine (fixedLits_x w1).mono ?_
 rintro e w2 ⟨rfl, hk2⟩
 obtain ⟨ds, hds⟩ : ∃ ds, ds = (List.range 306).map (csC ⟨cntF 288, syF 288, 288, lgF 288⟩) := ⟨_, rfl⟩
 have hdl : ds.length = 306 := by rw [hds]; exact range_len _ 306
 have hdo : ∀ v ∈ ds, v.oneCell' = true := by rw [hds]; exact csC_one _
 have hdg : ∀ j, j < 306 → ds[j]? = some (csC fixL j) := fun j hj => by rw [hds, range_get _ 306 j hj, csC_fixL j hj]
 rw [← hds]
 have B2 : Blk w2 b n c1 := BB1.out.kept hk2
 have hsc : (storeCells ⟨b, o + 11, none⟩ ds).run Tryz.prog w2 = .ok () (w2.setCells b (o + 11) ds) := store_all (by rw [hdl]; exact B2.there (by omega)) hdo
 have BB3 : Hid (Blk (w2.setCells b (o + 11) ds) b n (updL c1 (o + 11) 306 (csC fixL))) := B2.sets (by omega) _ hdl hdg
 have VV3 : Hid (StV (updL c1 (o + 11) 306 (csC fixL)) o { s with last := LL, lit := fixL }) := VV1.out.set_lit fixL (CSV.of_cells (fun j hj => updL_in hj)) (fun i hi => updL_out (fun q => hi ⟨q.1, by omega⟩))
 have FF3 : Hid (Fr1 b w (w2.setCells b (o + 11) ds)) := Fr1.sets _ _ (FF1.out.kept hk2)
 have CC3 : Hid (FrC b o (o + 3351) c (updL c1 (o + 11) 306 (csC fixL))) := CC1.out.trans (FrC.updL (by omega) (by omega))
 replace hds : Hid _ := hds
 replace hdl : Hid _ := hdl
 replace hdo : Hid _ := hdo
 replace hdg : Hid _ := hdg
 clear B2 hk2 BB1 VV1 FF1 CC1
 go_upto_region 9 with fail
 generalize w2.setCells b (o + 11) ds = w3 at *
 generalize updL c1 (o + 11) 306 (csC fixL) = c3 at *
 clear hsc
 go_wp2_with fail
 refine (fixedDists_x w3).mono ?_
 rintro e w4 ⟨rfl, hk4⟩
 obtain ⟨es, hes⟩ : ∃ ds, ds = (List.range 306).map (csC ⟨cntD 32, syD 32, 32, lgD 32⟩) := ⟨_, rfl⟩
 have hel : es.length = 306 := by rw [hes]; exact range_len _ 306
 have heo : ∀ v ∈ es, v.oneCell' = true := by rw [hes]; exact csC_one _
 have heg : ∀ j, j < 306 → es[j]? = some (csC fixD j) := fun j hj => by rw [hes, range_get _ 306 j hj, csC_fixD j hj]
 rw [← hes]
 have B4 : Blk w4 b n c3 := BB3.out.kept hk4
 have hsc : (storeCells ⟨b, o + 317, none⟩ es).run Tryz.prog w4 = .ok () (w4.setCells b (o + 317) es) := store_all (by rw [hel]; exact B4.there (by omega)) heo
 have BB5 : Hid (Blk (w4.setCells b (o + 317) es) b n (updL c3 (o + 317) 306 (csC fixD))) := B4.sets (by omega) _ hel heg
 have VV5 : Hid (StV (updL c3 (o + 317) 306 (csC fixD)) o { s with last := LL, lit := fixL, dist := fixD }) := VV3.out.set_dist fixD (CSV.of_cells (fun j hj => updL_in hj)) (fun i hi => updL_out (fun q => hi ⟨q.1, by omega⟩))
 have FF5 : Hid (Fr1 b w (w4.setCells b (o + 317) es)) := Fr1.sets _ _ (FF3.out.kept hk4)
 have CC5 : Hid (FrC b o (o + 3351) c (updL c3 (o + 317) 306 (csC fixD))) := CC3.out.trans (FrC.updL (by omega) (by omega))
 replace hes : Hid _ := hes
 replace hel : Hid _ := hel
 replace heo : Hid _ := heo
 replace heg : Hid _ := heg
 clear B4 hk4 BB3 VV3 FF3 CC3
 go_upto_region 10 with fail
 generalize w4.setCells b (o + 317) es = w5 at *
 generalize updL c3 (o + 317) 306 (csC fixD) = c5 at *
 clear hsc
 go_wp2_with fail
 refine (senter_x b o n 12 0 c5 { s with last := LL, lit := fixL, dist := fixD } w5 BB5.out VV5.out hn).mono ?_
 rintro e w6 ⟨rfl, d, h1, h2, h3, h4⟩
 go_wp2_with fail
 go_ret
 rw [HE.out]
 exact ⟨rfl, d, h1, h2, CC5.out.trans h3, FF5.out.trans h4⟩
def symT (s : St) (r : Rw) (σ : Int) : St × Rw × Nat := if σ = -1 then (s, r, 0) else if σ = 256 then (s.endBlock, r, 0) else giveP (s.enter 12 0) r σ.toNat
theorem takeSymbol_x (b o n : Nat) (σ : Int) (c : Nat → Value) (s : St) (r : Rw) (w : World) (hB : Blk w b n c) (hS : StV c o s) (hR : RwV c (o + 3351) r) (hn : o + 4900 ≤ n) (hk : RwGood r) (hG : GrdAt w) (hb : b ≠ 0) (hs : s.sum < 4294967296) (hσ : σ = -1 ∨ (0 ≤ σ ∧ σ ≤ 256)) :
  Calls Tryz.prog 166 #[.pointer (some ⟨b, o, none⟩), .int .i64 σ, .pointer (some ⟨b, o + 3351, none⟩)] w fun e w' => e = .returned (.int .i64 ((symT s r σ).2.2 : Int)) ∧ SRStep b o n c (symT s r σ).1 (symT s r σ).2.1 w w' := by
 by_cases h1 : σ = -1
 ·subst h1
  have H0 : Hid (SRStep b o n c s r w w) := SRStep.refl hB hS hR
  have HE : Hid (symT s r (-1) = (s, r, 0)) := by show symT s r (-1) = _; unfold symT; rw [if_pos rfl]
  clear hB hS hR hk hG hσ
  go_enter Tryz.func166, Tryz.ntmps166
  go_wp2
  go_ret
  rw [HE.out]
  exact ⟨rfl, H0.out⟩
 ·have h1' : (σ == -1) = false := by rw [beq_eq_false_iff_ne]; exact h1
  have g0 : ¬ σ < 0 := by omega
  have g1 : ¬ (286 : Int) ≤ σ := by omega
  by_cases h6 : σ = 256
  ·subst h6
   have FE : Hid (Calls Tryz.prog 172 #[.pointer (some ⟨b, o, none⟩)] w fun e w' => e = .returned (.int .i64 0) ∧ StStep b o n c s.endBlock w w') := endBlock_x b o n c s w hB hS (by omega)
   have HR : Hid (RwV c (o + 3351) r) := hR
   have HE : Hid (symT s r 256 = (s.endBlock, r, 0)) := by show symT s r 256 = _; unfold symT; rw [if_neg (by decide), if_pos rfl]
   clear hB hS hR hk hG hσ
   go_enter Tryz.func166, Tryz.ntmps166
   go_wp2_with fail
   refine FE.out.mono ?_
   rintro e w1 ⟨rfl, k1⟩
   go_wp2_with fail
   go_ret
   rw [HE.out]
   exact ⟨rfl, SRStep.of_st HR.out k1⟩
  ·have h6' : (σ == 256) = false := by rw [beq_eq_false_iff_ne]; exact h6
   have g2 : ¬ (257 : Int) ≤ σ := by omega
   obtain ⟨x, hx⟩ : ∃ x : Nat, σ = (x : Int) := ⟨σ.toNat, by omega⟩
   subst hx
   have hx2 : x < 256 := by omega
   have F1 : Hid (Calls Tryz.prog 154 #[.pointer (some ⟨b, o, none⟩), .int .i64 ((12 : Nat) : Int), .int .u64 ((0 : Nat) : Int)] w fun e w' => e = .returned (.tuple #[]) ∧ StStep b o n c (s.enter 12 0) w w') := senter_x b o n 12 0 c s w hB hS (by omega)
   have HR : Hid (RwV c (o + 3351) r) := hR
   have F2 : Hid (∀ (W : World) (d : Nat → Value), Blk W b n d → StV d o (s.enter 12 0) → RwV d (o + 3351) r → Fr1 b w W → Calls Tryz.prog 174 #[.pointer (some ⟨b, o, none⟩), .int .u8 (x : Int), .pointer (some ⟨b, o + 3351, none⟩)] W fun e w' => e = .returned (.int .i64 ((giveP (s.enter 12 0) r x).2.2 : Int)) ∧ SRStep b o n d (giveP (s.enter 12 0) r x).1 (giveP (s.enter 12 0) r x).2.1 W w') := fun W d a1 a2 a3 a4 => give_x b o n x d (s.enter 12 0) r W a1 a2 a3 hn hk (hG.fr a4 (fun q => hb q.symm)) hb hx2 hs
   obtain ⟨GP, hGP⟩ : ∃ G, G = giveP (s.enter 12 0) r x := ⟨_, rfl⟩
   rw [← hGP] at F2
   have HGP : Hid (symT s r (x : Int) = GP) := by
    show symT s r (x : Int) = GP
    unfold symT
    rw [if_neg h1, if_neg h6, Int.toNat_natCast, hGP]
   clear hB hS hR hk hG hσ hGP
   go_enter Tryz.func166, Tryz.ntmps166
   go_wp2_with fail
   refine F1.out.mono ?_
   rintro e w1 ⟨rfl, d, k1, k2, k3, k4⟩
   have R1 : RwV d (o + 3351) r := HR.out.congr (fun i h1 h2 => k3.out i (by omega))
   have C1 : Hid (FrC b o (o + 4900) c d) := k3.mono (by omega) (by omega)
   have F3 := F2.out w1 d k1 k2 R1 k4
   replace F3 : Hid _ := F3
   have F4 : Hid (Fr1 b w w1) := k4
   clear k1 k2 k3 k4 R1 F2
   go_wp2_with fail
   refine Calls.mono F3.out ?_
   rintro e w2 ⟨rfl, k5⟩
   go_wp2_with fail
   go_ret
   rw [HGP.out]
   exact ⟨rfl, SRStep.next C1.out F4.out k5⟩
theorem and_mask (a m k : Nat) : a &&& ((2 ^ m - 1) * 2 ^ k) = a / 2 ^ k % 2 ^ m * 2 ^ k := by
 apply Nat.eq_of_testBit_eq
 intro i
 rw [Nat.testBit_and, Nat.testBit_mul_two_pow, Nat.testBit_mul_two_pow, Nat.testBit_two_pow_sub_one, Nat.testBit_mod_two_pow, Nat.testBit_div_two_pow]
 by_cases h : k ≤ i
 ·simp only [h, decide_true, Bool.true_and]
  rw [show i - k + k = i from by omega, Bool.and_comm]
 ·simp only [h, decide_false, Bool.false_and, Bool.and_false]
theorem u32_and_n (a c : Nat) (ha : a < 4294967296) (hc : c < 4294967296) : bits .and .u32 (a : Int) (c : Int) = ((a &&& c : Nat) : Int) := by
 show IntKind.u32.wrap ((BitVec.ofInt 32 (a : Int) &&& BitVec.ofInt 32 (c : Int)).toNat : Int) = _
 have e1 : (BitVec.ofInt 32 (a : Int)).toNat = a := by rw [BitVec.ofInt_natCast, BitVec.toNat_ofNat]; exact Nat.mod_eq_of_lt (by omega)
 have e2 : (BitVec.ofInt 32 (c : Int)).toNat = c := by rw [BitVec.ofInt_natCast, BitVec.toNat_ofNat]; exact Nat.mod_eq_of_lt (by omega)
 have : a &&& c ≤ a := Nat.and_le_left
 rw [BitVec.toNat_and, e1, e2, IntKind.wrap_u32]
 omega
theorem u32_or_n (a c k : Nat) (h1 : a % 2 ^ k = 0) (h2 : c < 2 ^ k) (h3 : a + c < 4294967296) : bits .or .u32 (a : Int) (c : Int) = ((a + c : Nat) : Int) := by
 show IntKind.u32.wrap ((BitVec.ofInt 32 (a : Int) ||| BitVec.ofInt 32 (c : Int)).toNat : Int) = _
 have e1 : (BitVec.ofInt 32 (a : Int)).toNat = a := by rw [BitVec.ofInt_natCast, BitVec.toNat_ofNat]; exact Nat.mod_eq_of_lt (by omega)
 have e2 : (BitVec.ofInt 32 (c : Int)).toNat = c := by rw [BitVec.ofInt_natCast, BitVec.toNat_ofNat]; exact Nat.mod_eq_of_lt (by omega)
 have e3 : a ||| c = a + c := by
  have hd : a = 2 ^ k * (a / 2 ^ k) := by have := Nat.div_add_mod a (2 ^ k); omega
  have := Nat.shiftLeft_add_eq_or_of_lt (b := c) (i := k) h2 (a / 2 ^ k)
  rw [Nat.shiftLeft_eq, Nat.mul_comm, ← hd] at this
  exact this.symm
 rw [BitVec.toNat_or, e1, e2, e3, IntKind.wrap_u32]
 omega
def bswap (v : Nat) : Nat := v % 256 * 16777216 + v / 256 % 256 * 65536 + v / 65536 % 256 * 256 + v / 16777216
def St.takeSum (s : St) (v : Nat) : St × Nat := if bswap v = s.sum then (s.enter 10 0, 0) else (s, 19)
theorem swap_x (v : Nat) (hv : v < 4294967296) : bits .or .u32 (bits .or .u32 (bits .or .u32 ((v : Int) * 16777216 % 4294967296) (bits .and .u32 ((v : Int) * 256 % 4294967296) 16711680)) (bits .and .u32 ((v : Int) / 256) 65280)) ((v : Int) / 16777216) = (bswap v : Int) := by
 obtain ⟨a, ha⟩ : ∃ a, a = v % 256 := ⟨_, rfl⟩
 obtain ⟨b, hb⟩ : ∃ b, b = v / 256 % 256 := ⟨_, rfl⟩
 obtain ⟨c, hc⟩ : ∃ c, c = v / 65536 % 256 := ⟨_, rfl⟩
 obtain ⟨d, hd⟩ : ∃ d, d = v / 16777216 := ⟨_, rfl⟩
 have a1 : a < 256 := by omega
 have b1 : b < 256 := by omega
 have c1 : c < 256 := by omega
 have d1 : d < 256 := by omega
 have e : bswap v = a * 16777216 + b * 65536 + c * 256 + d := by unfold bswap; rw [ha, hb, hc, hd]
 have p1 : (v : Int) * 16777216 % 4294967296 = ((a * 16777216 : Nat) : Int) := by omega
 have p2 : (v : Int) * 256 % 4294967296 = ((v % 16777216 * 256 : Nat) : Int) := by omega
 have p3 : (v : Int) / 256 = ((v / 256 : Nat) : Int) := by omega
 have p4 : (v : Int) / 16777216 = (d : Int) := by omega
 have m1 : v % 16777216 * 256 &&& 16711680 = b * 65536 := by
  have := and_mask (v % 16777216 * 256) 8 16
  rw [show (2 ^ 8 - 1) * 2 ^ 16 = 16711680 from by decide] at this
  rw [this, hb, show (2 : Nat) ^ 16 = 65536 from by decide, show (2 : Nat) ^ 8 = 256 from by decide]
  have : v % 16777216 * 256 / 65536 % 256 = v / 256 % 256 := by omega
  rw [this]
 have m2 : v / 256 &&& 65280 = c * 256 := by
  have := and_mask (v / 256) 8 8
  rw [show (2 ^ 8 - 1) * 2 ^ 8 = 65280 from by decide] at this
  rw [this, hc, show (2 : Nat) ^ 8 = 256 from by decide, Nat.div_div_eq_div_mul]
 have q1 : bits .and .u32 ((v % 16777216 * 256 : Nat) : Int) 16711680 = ((b * 65536 : Nat) : Int) := by
  have := u32_and_n (v % 16777216 * 256) 16711680 (by omega) (by omega)
  rw [m1] at this; exact this
 have q2 : bits .and .u32 ((v / 256 : Nat) : Int) 65280 = ((c * 256 : Nat) : Int) := by
  have := u32_and_n (v / 256) 65280 (by omega) (by omega)
  rw [m2] at this; exact this
 rw [p1, p2, p3, p4, q1, q2, e]
 clear p1 p2 p3 p4 m1 m2 q1 q2 e ha hb hc hd hv
 rw [u32_or_n (a * 16777216) (b * 65536) 24 (by rw [show (2 : Nat) ^ 24 = 16777216 from by decide]; omega) (by rw [show (2 : Nat) ^ 24 = 16777216 from by decide]; omega) (by omega)]
 rw [u32_or_n (a * 16777216 + b * 65536) (c * 256) 16 (by rw [show (2 : Nat) ^ 16 = 65536 from by decide]; omega) (by rw [show (2 : Nat) ^ 16 = 65536 from by decide]; omega) (by omega)]
 rw [u32_or_n (a * 16777216 + b * 65536 + c * 256) d 8 (by rw [show (2 : Nat) ^ 8 = 256 from by decide]; omega) (by rw [show (2 : Nat) ^ 8 = 256 from by decide]; omega) (by omega)]
theorem takeSum_x (b o n v : Nat) (c : Nat → Value) (s : St) (w : World) (hB : Blk w b n c) (hV : StV c o s) (hn : o + 3351 ≤ n) (hv : v < 4294967296) :
  Calls Tryz.prog 186 #[.pointer (some ⟨b, o, none⟩), .int .u32 (v : Int)] w fun e w' => e = .returned (.int .i64 ((s.takeSum v).2 : Int)) ∧ StStep b o n c (s.takeSum v).1 w w' := by
 have k0 := hB.at (i := o + 3350) (by omega) hV.sum
 have HB : Hid (Blk w b n c) := hB
 have HV : Hid (StV c o s) := hV
 have eS := swap_x v hv
 unfold St.takeSum
 obtain ⟨Y, hY⟩ : ∃ Y, Y = bswap v := ⟨_, rfl⟩
 rw [← hY] at eS ⊢
 clear hB hV hY
 by_cases h1 : Y = s.sum
 ·have h1' : ((Y : Int) != (s.sum : Int)) = false := by rw [bne_eq_false_iff_eq]; omega
  rw [if_pos h1]
  replace h1 : Hid _ := h1
  go_enter Tryz.func186, Tryz.ntmps186
  go_wp2_with fail
  refine (senter_x b o n 10 0 c s w HB.out HV.out hn).mono ?_
  rintro e w6 ⟨rfl, h2⟩
  go_wp2_with fail
  go_ret
  exact ⟨rfl, h2⟩
 ·have h1' : ((Y : Int) != (s.sum : Int)) = true := by rw [bne_iff_ne]; omega
  rw [if_neg h1]
  go_enter Tryz.func186, Tryz.ntmps186
  go_wp2
  go_ret
  exact ⟨rfl, c, HB.out, HV.out, FrC.refl _ _ _ _, Fr.refl _ _⟩
def St.block (s : St) (v : Nat) : St := if v / 2 = 0 then s.block0 v else s.block1 v
def numP (s : St) (r : Rw) (v : Nat) : St × Rw × Nat :=
 if s.part = 0 then ((s.takeHead v).1, r, (s.takeHead v).2)
 else if s.part = 1 then (s.block v, r, 0)
 else if s.part = 2 then ((s.takeSize v).1, r, (s.takeSize v).2)
 else if s.part = 3 then storedP s r v
 else ((s.takeSum v).1, r, (s.takeSum v).2)
structure NumOk (s : St) (r : Rw) (v : Nat) : Prop where
 part : s.part ≤ 3 ∨ s.part = 9
 v0 : s.part = 0 → v < 65536
 v1 : s.part = 1 → v < 4
 v3 : s.part = 3 → v < 256
 v : v < 4294967296
 l1 : s.part = 3 → 1 ≤ s.left
 l2 : s.part = 3 → s.left ≤ 65535
 good : s.part = 3 → RwGood r
 sum : s.sum < 4294967296
theorem takeNum0_x (b o n v : Nat) (c : Nat → Value) (s : St) (r : Rw) (w : World) (hB : Blk w b n c) (hS : StV c o s) (hR : RwV c (o + 3351) r) (hn : o + 4900 ≤ n) (hk : NumOk s r v) (h : s.part = 0) (hG : GrdAt w) (hb : b ≠ 0) :
  Calls Tryz.prog 168 #[.pointer (some ⟨b, o, none⟩), .int .u32 (v : Int), .pointer (some ⟨b, o + 3351, none⟩)] w fun e w' => e = .returned (.int .i64 ((numP s r v).2.2 : Int)) ∧ SRStep b o n c (numP s r v).1 (numP s r v).2.1 w w' := by
 have k0 := hB.at (i := o) (by omega) hS.part
 have HB : Hid (Blk w b n c) := hB
 have HS : Hid (StV c o s) := hS
 have HR : Hid (RwV c (o + 3351) r) := hR
 have HK : Hid (NumOk s r v) := hk
 have HG : Hid (GrdAt w) := hG
 have hp := hk.part
 clear hB hS hR hG hk
 have HE : Hid (numP s r v = ((s.takeHead v).1, r, (s.takeHead v).2)) := by show numP s r v = _; unfold numP; rw [if_pos h]
 have FH : Hid (Calls Tryz.prog 177 #[.pointer (some ⟨b, o, none⟩), .int .u32 (v : Int)] w fun e w' => e = .returned (.int .i64 ((s.takeHead v).2 : Int)) ∧ StStep b o n c (s.takeHead v).1 w w') := takeHead_x b o n v c s w HB.out HS.out (by omega) (HK.out.v0 h)
 rw [h] at k0
 clear h hp
 go_enter Tryz.func168, Tryz.ntmps168
 go_wp2_with fail
 refine FH.out.mono ?_
 rintro e w1 ⟨rfl, h1⟩
 go_wp2_with fail
 go_ret
 rw [HE.out]
 exact ⟨rfl, SRStep.of_st HR.out h1⟩
theorem takeNum1_x (b o n v : Nat) (c : Nat → Value) (s : St) (r : Rw) (w : World) (hB : Blk w b n c) (hS : StV c o s) (hR : RwV c (o + 3351) r) (hn : o + 4900 ≤ n) (hk : NumOk s r v) (h : s.part = 1) (hG : GrdAt w) (hb : b ≠ 0) :
  Calls Tryz.prog 168 #[.pointer (some ⟨b, o, none⟩), .int .u32 (v : Int), .pointer (some ⟨b, o + 3351, none⟩)] w fun e w' => e = .returned (.int .i64 ((numP s r v).2.2 : Int)) ∧ SRStep b o n c (numP s r v).1 (numP s r v).2.1 w w' := by
 have k0 := hB.at (i := o) (by omega) hS.part
 have HB : Hid (Blk w b n c) := hB
 have HS : Hid (StV c o s) := hS
 have HR : Hid (RwV c (o + 3351) r) := hR
 have HK : Hid (NumOk s r v) := hk
 have HG : Hid (GrdAt w) := hG
 have hp := hk.part
 clear hB hS hR hG hk
 have HE : Hid (numP s r v = (s.block v, r, 0)) := by show numP s r v = _; unfold numP; rw [if_neg (by omega), if_pos h]
 have FH : Hid (Calls Tryz.prog 178 #[.pointer (some ⟨b, o, none⟩), .int .u32 (v : Int)] w fun e w' => e = .returned (.int .i64 0) ∧ StStep b o n c (s.block v) w w') := by
  have hv4 := HK.out.v1 h
  unfold St.block
  by_cases q : v / 2 = 0
  ·rw [if_pos q]; exact takeBlock0_x b o n v c s w HB.out HS.out (by omega) (by omega)
  ·rw [if_neg q]; exact takeBlock1_x b o n v c s w HB.out HS.out (by omega) (by omega)
 rw [h] at k0
 clear h hp
 go_enter Tryz.func168, Tryz.ntmps168
 go_wp2_with fail
 refine FH.out.mono ?_
 rintro e w1 ⟨rfl, h1⟩
 go_wp2_with fail
 go_ret
 rw [HE.out]
 exact ⟨rfl, SRStep.of_st HR.out h1⟩
theorem takeNum2_x (b o n v : Nat) (c : Nat → Value) (s : St) (r : Rw) (w : World) (hB : Blk w b n c) (hS : StV c o s) (hR : RwV c (o + 3351) r) (hn : o + 4900 ≤ n) (hk : NumOk s r v) (h : s.part = 2) (hG : GrdAt w) (hb : b ≠ 0) :
  Calls Tryz.prog 168 #[.pointer (some ⟨b, o, none⟩), .int .u32 (v : Int), .pointer (some ⟨b, o + 3351, none⟩)] w fun e w' => e = .returned (.int .i64 ((numP s r v).2.2 : Int)) ∧ SRStep b o n c (numP s r v).1 (numP s r v).2.1 w w' := by
 have k0 := hB.at (i := o) (by omega) hS.part
 have HB : Hid (Blk w b n c) := hB
 have HS : Hid (StV c o s) := hS
 have HR : Hid (RwV c (o + 3351) r) := hR
 have HK : Hid (NumOk s r v) := hk
 have HG : Hid (GrdAt w) := hG
 have hp := hk.part
 clear hB hS hR hG hk
 have HE : Hid (numP s r v = ((s.takeSize v).1, r, (s.takeSize v).2)) := by show numP s r v = _; unfold numP; rw [if_neg (by omega), if_neg (by omega), if_pos h]
 have FH : Hid (Calls Tryz.prog 179 #[.pointer (some ⟨b, o, none⟩), .int .u32 (v : Int)] w fun e w' => e = .returned (.int .i64 ((s.takeSize v).2 : Int)) ∧ StStep b o n c (s.takeSize v).1 w w') := takeSize_x b o n v c s w HB.out HS.out (by omega) HK.out.v
 rw [h] at k0
 clear h hp
 go_enter Tryz.func168, Tryz.ntmps168
 go_wp2_with fail
 refine FH.out.mono ?_
 rintro e w1 ⟨rfl, h1⟩
 go_wp2_with fail
 go_ret
 rw [HE.out]
 exact ⟨rfl, SRStep.of_st HR.out h1⟩
theorem takeNum3_x (b o n v : Nat) (c : Nat → Value) (s : St) (r : Rw) (w : World) (hB : Blk w b n c) (hS : StV c o s) (hR : RwV c (o + 3351) r) (hn : o + 4900 ≤ n) (hk : NumOk s r v) (h : s.part = 3) (hG : GrdAt w) (hb : b ≠ 0) :
  Calls Tryz.prog 168 #[.pointer (some ⟨b, o, none⟩), .int .u32 (v : Int), .pointer (some ⟨b, o + 3351, none⟩)] w fun e w' => e = .returned (.int .i64 ((numP s r v).2.2 : Int)) ∧ SRStep b o n c (numP s r v).1 (numP s r v).2.1 w w' := by
 have k0 := hB.at (i := o) (by omega) hS.part
 have HB : Hid (Blk w b n c) := hB
 have HS : Hid (StV c o s) := hS
 have HR : Hid (RwV c (o + 3351) r) := hR
 have HK : Hid (NumOk s r v) := hk
 have HG : Hid (GrdAt w) := hG
 have hp := hk.part
 clear hB hS hR hG hk
 have HE : Hid (numP s r v = storedP s r v) := by show numP s r v = _; unfold numP; rw [if_neg (by omega), if_neg (by omega), if_neg (by omega), if_pos h]
 have FH : Hid (Calls Tryz.prog 180 #[.pointer (some ⟨b, o, none⟩), .int .u8 (v : Int), .pointer (some ⟨b, o + 3351, none⟩)] w fun e w' => e = .returned (.int .i64 ((storedP s r v).2.2 : Int)) ∧ SRStep b o n c (storedP s r v).1 (storedP s r v).2.1 w w') := takeStored_x b o n v c s r w HB.out HS.out HR.out hn (HK.out.good h) HG.out hb (HK.out.v3 h) HK.out.sum (HK.out.l1 h) (HK.out.l2 h)
 have hv := HK.out.v3 h
 rw [h] at k0
 clear h hp
 go_enter Tryz.func168, Tryz.ntmps168
 go_wp2_with fail
 refine FH.out.mono ?_
 rintro e w1 ⟨rfl, h1⟩
 go_wp2_with fail
 go_ret
 rw [HE.out]
 exact ⟨rfl, h1⟩
theorem takeNum9_x (b o n v : Nat) (c : Nat → Value) (s : St) (r : Rw) (w : World) (hB : Blk w b n c) (hS : StV c o s) (hR : RwV c (o + 3351) r) (hn : o + 4900 ≤ n) (hk : NumOk s r v) (h : s.part = 9) (hG : GrdAt w) (hb : b ≠ 0) :
  Calls Tryz.prog 168 #[.pointer (some ⟨b, o, none⟩), .int .u32 (v : Int), .pointer (some ⟨b, o + 3351, none⟩)] w fun e w' => e = .returned (.int .i64 ((numP s r v).2.2 : Int)) ∧ SRStep b o n c (numP s r v).1 (numP s r v).2.1 w w' := by
 have k0 := hB.at (i := o) (by omega) hS.part
 have HB : Hid (Blk w b n c) := hB
 have HS : Hid (StV c o s) := hS
 have HR : Hid (RwV c (o + 3351) r) := hR
 have HK : Hid (NumOk s r v) := hk
 have HG : Hid (GrdAt w) := hG
 have hp := hk.part
 clear hB hS hR hG hk
 have HE : Hid (numP s r v = ((s.takeSum v).1, r, (s.takeSum v).2)) := by show numP s r v = _; unfold numP; rw [if_neg (by omega), if_neg (by omega), if_neg (by omega), if_neg (by omega)]
 have FH : Hid (Calls Tryz.prog 186 #[.pointer (some ⟨b, o, none⟩), .int .u32 (v : Int)] w fun e w' => e = .returned (.int .i64 ((s.takeSum v).2 : Int)) ∧ StStep b o n c (s.takeSum v).1 w w') := takeSum_x b o n v c s w HB.out HS.out (by omega) HK.out.v
 obtain ⟨TS, hTS⟩ : ∃ TS, TS = s.takeSum v := ⟨_, rfl⟩
 rw [← hTS] at HE FH
 clear hTS
 have n0 : ((s.part : Int) == 0) = false := by rw [beq_eq_false_iff_ne]; omega
 have n1 : ((s.part : Int) == 1) = false := by rw [beq_eq_false_iff_ne]; omega
 have n2 : ((s.part : Int) == 2) = false := by rw [beq_eq_false_iff_ne]; omega
 have n3 : ((s.part : Int) == 3) = false := by rw [beq_eq_false_iff_ne]; omega
 have n4 : ((s.part : Int) == 4) = false := by rw [beq_eq_false_iff_ne]; omega
 have n5 : ((s.part : Int) == 5) = false := by rw [beq_eq_false_iff_ne]; omega
 have n6 : ((s.part : Int) == 6) = false := by rw [beq_eq_false_iff_ne]; omega
 have n7 : ((s.part : Int) == 7) = false := by rw [beq_eq_false_iff_ne]; omega
 have n8 : ((s.part : Int) == 8) = false := by rw [beq_eq_false_iff_ne]; omega
 clear h hp
 go_enter Tryz.func168, Tryz.ntmps168
 go_upto_block 0 with fail
 go_cut [] from 7 (fun W => W = w)
 case first =>
  go_wp2_with fail
  go_meet
  case rel => rfl
 case rest =>
  subst hcut
  clear n0 n1 n2 n3 n4 n5 n6 n7 n8
  go_wp2_with fail
  refine FH.out.mono ?_
  rintro e w1 ⟨rfl, h1⟩
  go_wp2_with fail
  go_ret
  rw [HE.out]
  exact ⟨rfl, SRStep.of_st HR.out h1⟩
theorem takeNumber_x (b o n v : Nat) (c : Nat → Value) (s : St) (r : Rw) (w : World) (hB : Blk w b n c) (hS : StV c o s) (hR : RwV c (o + 3351) r) (hn : o + 4900 ≤ n) (hk : NumOk s r v) (hG : GrdAt w) (hb : b ≠ 0) :
  Calls Tryz.prog 168 #[.pointer (some ⟨b, o, none⟩), .int .u32 (v : Int), .pointer (some ⟨b, o + 3351, none⟩)] w fun e w' => e = .returned (.int .i64 ((numP s r v).2.2 : Int)) ∧ SRStep b o n c (numP s r v).1 (numP s r v).2.1 w w' := by
 have hp := hk.part
 have hc : s.part = 0 ∨ s.part = 1 ∨ s.part = 2 ∨ s.part = 3 ∨ s.part = 9 := by omega
 rcases hc with h | h | h | h | h
 ·exact takeNum0_x b o n v c s r w hB hS hR hn hk h hG hb
 ·exact takeNum1_x b o n v c s r w hB hS hR hn hk h hG hb
 ·exact takeNum2_x b o n v c s r w hB hS hR hn hk h hG hb
 ·exact takeNum3_x b o n v c s r w hB hS hR hn hk h hG hb
 ·exact takeNum9_x b o n v c s r w hB hS hR hn hk h hG hb
theorem u32_or_bit (m g t : Nat) (hm : m < 2 ^ g) (hg : g < 32) (ht : t ≤ 1) : bits .or .u32 (m : Int) (((t * 2 ^ g : Nat)) : Int) = ((m + t * 2 ^ g : Nat) : Int) := by
 have hp : 2 ^ g * 2 ≤ 2 ^ 32 := by rw [← Nat.pow_succ]; exact Nat.pow_le_pow_right (by omega) (by omega)
 have ht2 : t * 2 ^ g ≤ 1 * 2 ^ g := Nat.mul_le_mul_right _ ht
 show IntKind.u32.wrap ((BitVec.ofInt 32 (m : Int) ||| BitVec.ofInt 32 ((t * 2 ^ g : Nat) : Int)).toNat : Int) = _
 have e1 : (BitVec.ofInt 32 (m : Int)).toNat = m := by rw [BitVec.ofInt_natCast, BitVec.toNat_ofNat]; exact Nat.mod_eq_of_lt (by omega)
 have e2 : (BitVec.ofInt 32 ((t * 2 ^ g : Nat) : Int)).toNat = t * 2 ^ g := by rw [BitVec.ofInt_natCast, BitVec.toNat_ofNat]; exact Nat.mod_eq_of_lt (by omega)
 have e3 : m ||| t * 2 ^ g = m + t * 2 ^ g := by
  have := Nat.shiftLeft_add_eq_or_of_lt (b := m) (i := g) hm t
  rw [Nat.shiftLeft_eq] at this
  rw [Nat.or_comm]; omega
 rw [BitVec.toNat_or, e1, e2, e3, IntKind.wrap_u32]
 omega
def St.oneBit (s : St) (t : Nat) : St := { s with number := s.number + t * 2 ^ s.got, got := s.got + 1 }
def symP (s : St) (r : Rw) (t : Nat) : St × Rw × Nat :=
 if (s.lit.step s.path t).2 = -1 then ({ s with path := (s.lit.step s.path t).1 }, r, 0)
 else if (s.lit.step s.path t).2 = 256 then (({ s with path := (s.lit.step s.path t).1 } : St).endBlock, r, 0)
 else giveP (({ s with path := (s.lit.step s.path t).1 } : St).enter 12 0) r (s.lit.step s.path t).2.toNat
structure SymOk (s : St) (r : Rw) (t : Nat) : Prop where
 lit : CSOk s.lit
 path : PtOk s.path
 bit : t ≤ 1
 sym : (s.lit.step s.path t).2 = -1 ∨ (0 ≤ (s.lit.step s.path t).2 ∧ (s.lit.step s.path t).2 ≤ 256)
 good : RwGood r
 sum : s.sum < 4294967296
def bitP (s : St) (r : Rw) (t : Nat) : St × Rw × Nat := if s.part = 12 then symP s r t else if s.got + 1 < s.wanted then (s.oneBit t, r, 0) else numP (s.oneBit t) r (s.number + t * 2 ^ s.got)
structure BitOk (s : St) (r : Rw) (t : Nat) : Prop where
 part : s.part ≤ 3 ∨ s.part = 9 ∨ s.part = 12
 sym : s.part = 12 → SymOk s r t
 got : s.part ≠ 12 → s.got < 32
 wanted : s.part ≠ 12 → s.wanted ≤ 32
 number : s.part ≠ 12 → s.number < 2 ^ s.got
 bit : t ≤ 1
 num : s.part ≠ 12 → ¬ s.got + 1 < s.wanted → NumOk (s.oneBit t) r (s.number + t * 2 ^ s.got)
theorem symP_T (s : St) (r : Rw) (t : Nat) : symP s r t = symT { s with path := (s.lit.step s.path t).1 } r (s.lit.step s.path t).2 := rfl
theorem takeBitN_x (b o n t : Nat) (c : Nat → Value) (s : St) (r : Rw) (w : World) (hB : Blk w b n c) (hS : StV c o s) (hR : RwV c (o + 3351) r) (hn : o + 4900 ≤ n) (hk : BitOk s r t) (h12 : s.part ≠ 12) (hG : GrdAt w) (hb : b ≠ 0) :
  Calls Tryz.prog 156 #[.pointer (some ⟨b, o, none⟩), .int .u32 (t : Int), .pointer (some ⟨b, o + 3351, none⟩)] w fun e w' => e = .returned (.int .i64 ((bitP s r t).2.2 : Int)) ∧ SRStep b o n c (bitP s r t).1 (bitP s r t).2.1 w w' := by
 have k0 := hB.at (i := o) (by omega) hS.part
 have k1 := hB.at (i := o + 1) (by omega) hS.number
 have k2 := hB.at (i := o + 2) (by omega) hS.got
 have z := hB.fz
 have HB : Hid (Blk w b n c) := hB
 have HS : Hid (StV c o s) := hS
 have HR : Hid (RwV c (o + 3351) r) := hR
 have HK : Hid (BitOk s r t) := hk
 have HG : Hid (∀ W, Fr1 b w W → GrdAt W) := fun W f => hG.fr f (fun q => hb q.symm)
 have hp := hk.part
 have n11 : ((s.part : Int) == 11) = false := by rw [beq_eq_false_iff_ne]; omega
 have n12 : ((s.part : Int) == 12) = false := by rw [beq_eq_false_iff_ne]; omega
 have n13 : ((s.part : Int) == 13) = false := by rw [beq_eq_false_iff_ne]; omega
 have hgot := hk.got h12
 have hwan := hk.wanted h12
 have hbit := hk.bit
 have hnum := hk.number h12
 obtain ⟨G, hGe⟩ : ∃ G, G = s.got + 1 := ⟨_, rfl⟩
 have eG : (s.got : Int) + 1 = (G : Int) := by omega
 have HGe : Hid (G = s.got + 1) := hGe
 obtain ⟨N, hNe⟩ : ∃ N, N = s.number + t * 2 ^ s.got := ⟨_, rfl⟩
 have HNe : Hid (N = s.number + t * 2 ^ s.got) := hNe
 have eOr : bits .or .u32 (s.number : Int) ((t : Int) * 2 ^ s.got % 4294967296) = (N : Int) := by
  have hp2 : 2 ^ s.got ≤ 2 ^ 31 := Nat.pow_le_pow_right (by omega) (by omega)
  have ht2 : t * 2 ^ s.got ≤ 1 * 2 ^ 31 := Nat.mul_le_mul hbit hp2
  have e : (t : Int) * 2 ^ s.got = ((t * 2 ^ s.got : Nat) : Int) := by simp
  rw [hNe, ← u32_or_bit _ _ _ hnum hgot hbit, e, Int.emod_eq_of_lt (by omega) (by omega)]
 have HE : Hid (bitP s r t = if G < s.wanted then ({ s with number := N, got := G }, r, 0) else numP { s with number := N, got := G } r N) := by
  show bitP s r t = _
  unfold bitP St.oneBit; rw [if_neg h12, hGe, hNe]
 have HNum : Hid (¬ G < s.wanted → NumOk { s with number := N, got := G } r N) := by
  show ¬ G < s.wanted → NumOk { s with number := N, got := G } r N
  rw [hGe, hNe]; exact hk.num h12
 clear hB hS hR hG hk hGe hNe
 have hG32 : G ≤ 32 := by have := HGe.out; omega
 have S1 : Hid (StV (upd (upd c (o + 1) (.int .u32 (N : Int))) (o + 2) (.int .u64 (G : Int))) o { s with number := N, got := G }) := (HS.out.set_number N).set_got G
 have R1 : Hid (RwV (upd (upd c (o + 1) (.int .u32 (N : Int))) (o + 2) (.int .u64 (G : Int))) (o + 3351) r) := HR.out.congr (fun i h1 h2 => by rw [upd_ne _ _ _ (by omega), upd_ne _ _ _ (by omega)])
 have C1 : Hid (FrC b o (o + 4900) c (upd (upd c (o + 1) (.int .u32 (N : Int))) (o + 2) (.int .u64 (G : Int)))) := (FrC.upd _ (by omega) (by omega)).trans (FrC.upd _ (by omega) (by omega))
 replace hnum : Hid _ := hnum
 go_enter Tryz.func156, Tryz.ntmps156
 go_wp2_with fail
 go_quiet (fail)
 have B1 : Hid (Blk (((w.drewN nq).setCell ⟨b, o + 1, none⟩ (.int .u32 (N : Int))).setCell ⟨b, o + 2, none⟩ (.int .u64 (G : Int))) b n (upd (upd c (o + 1) (.int .u32 (N : Int))) (o + 2) (.int .u64 (G : Int)))) := ((HB.out.kept ((Kept.refl _).drewN nq)).set (by omega) _).set (by omega) _
 have F1 : Hid (Fr1 b w (((w.drewN nq).setCell ⟨b, o + 1, none⟩ (.int .u32 (N : Int))).setCell ⟨b, o + 2, none⟩ (.int .u64 (G : Int)))) := Fr1.set (Fr1.set (Fr1.drewN (Fr.refl _ _) nq) _ _) _ _
 go_upto_region 14 with fail
 generalize ((w.drewN nq).setCell ⟨b, o + 1, none⟩ (.int .u32 (N : Int))).setCell ⟨b, o + 2, none⟩ (.int .u64 (G : Int)) = w1 at *
 generalize upd (upd c (o + 1) (.int .u32 (N : Int))) (o + 2) (.int .u64 (G : Int)) = c1 at *
 clear k0 k1 k2 z HB HS HR
 have k2 := B1.out.at (i := o + 2) (by omega) S1.out.got
 have k3 := B1.out.at (i := o + 3) (by omega) S1.out.wanted
 replace k2 : w1.cell? ⟨b, o + 2, none⟩ = some (.int .u64 (G : Int)) := k2
 replace k3 : w1.cell? ⟨b, o + 3, none⟩ = some (.int .u64 (s.wanted : Int)) := k3
 by_cases hw : G < s.wanted
 ·have hw' : (G : Int) < (s.wanted : Int) := by omega
  go_quiet (fail)
  go_wp2_with fail
  go_ret
  rw [HE.out, if_pos hw]
  exact ⟨rfl, c1, B1.out.kept ((Kept.refl _).drewN _), S1.out, R1.out, C1.out, F1.out.kept ((Kept.refl _).drewN _)⟩
 ·have hw' : ¬ (G : Int) < (s.wanted : Int) := by omega
  go_quiet (fail)
  go_wp2_with fail
  refine (takeNumber_x b o n N c1 { s with number := N, got := G } r _ (B1.out.kept ((Kept.refl _).drewN _)) S1.out R1.out hn (HNum.out hw) (HG.out _ (F1.out.kept ((Kept.refl _).drewN _))) hb).mono ?_
  rintro e w2 ⟨rfl, h2⟩
  go_wp2_with fail
  go_ret
  rw [HE.out, if_neg hw]
  exact ⟨rfl, SRStep.next C1.out (F1.out.kept ((Kept.refl _).drewN _)) h2⟩
theorem takeBitS_x (b o n t : Nat) (c : Nat → Value) (s : St) (r : Rw) (w : World) (hB : Blk w b n c) (hS : StV c o s) (hR : RwV c (o + 3351) r) (hn : o + 4900 ≤ n) (h12 : s.part = 12) (hk : SymOk s r t) (hG : GrdAt w) (hb : b ≠ 0) :
  Calls Tryz.prog 156 #[.pointer (some ⟨b, o, none⟩), .int .u32 (t : Int), .pointer (some ⟨b, o + 3351, none⟩)] w fun e w' => e = .returned (.int .i64 ((symP s r t).2.2 : Int)) ∧ SRStep b o n c (symP s r t).1 (symP s r t).2.1 w w' := by
 have k0 := hB.at (i := o) (by omega) hS.part
 rw [h12] at k0
 have hbit := hk.bit
 have F1 : Hid (∀ W, Kept w W → Calls Tryz.prog 164 #[.pointer (some ⟨b, o + 11, none⟩), .pointer (some ⟨b, o + 4, none⟩), .int .i64 (t : Int)] W fun e w' => e = .returned (.int .i64 (s.lit.step s.path t).2) ∧ ∃ d, Blk w' b n d ∧ PtV d (o + 4) (s.lit.step s.path t).1 ∧ FrC b (o + 4) (o + 4 + 3) c d ∧ Fr1 b W w') := fun W k => cstep_x b (o + 11) (o + 4) n t c s.lit s.path W (hB.kept k) hS.lit hS.path (by omega) (by omega) hk.lit hk.path hbit
 have F2 : Hid (∀ (W : World) (d : Nat → Value), Blk W b n d → PtV d (o + 4) (s.lit.step s.path t).1 → FrC b (o + 4) (o + 4 + 3) c d → Fr1 b w W → Calls Tryz.prog 166 #[.pointer (some ⟨b, o, none⟩), .int .i64 (s.lit.step s.path t).2, .pointer (some ⟨b, o + 3351, none⟩)] W fun e w' => e = .returned (.int .i64 ((symP s r t).2.2 : Int)) ∧ SRStep b o n d (symP s r t).1 (symP s r t).2.1 W w') := fun W d a1 a2 a3 a4 => by
  rw [symP_T]
  exact takeSymbol_x b o n _ d { s with path := (s.lit.step s.path t).1 } r W a1 (hS.set_path _ a2 (fun i hi => a3.out i (fun q => hi ⟨q.1, by omega⟩))) (hR.congr (fun i h1 h2 => a3.out i (by omega))) hn hk.good (hG.fr a4 (fun q => hb q.symm)) hb hk.sum hk.sym
 generalize symP s r t = T at *
 generalize (s.lit.step s.path t).2 = SY at *
 generalize (s.lit.step s.path t).1 = PP at *
 clear hB hS hR hG hk
 have wt : IntKind.i64.wrap (t : Int) = (t : Int) := by rw [IntKind.wrap_i64]; omega
 go_enter Tryz.func156, Tryz.ntmps156
 go_wp2_with fail
 go_region_held3 (fun W => True) (trivial) ((go_at_call 164; refine (F1.out _ ((Kept.refl _).drewN 1)).mono ?_; rintro e' w1 ⟨rfl, hst⟩))
 obtain ⟨d, d1, d2, d3, d4'⟩ := hst
 have d4 : Fr1 b w w1 := Fr.trans (Fr1.drewN (Fr.refl _ _) 1) d4'
 clear d4'
 have F3 := F2.out w1 d d1 d2 d3 d4
 replace F3 : Hid _ := F3
 have C1 : Hid (FrC b o (o + 4900) c d) := d3.mono (by omega) (by omega)
 have F4 : Hid (Fr1 b w w1) := d4
 clear d1 d2 d3 d4 F1 F2
 go_wp2_with fail
 refine Calls.mono F3.out ?_
 rintro e w2 ⟨rfl, k5⟩
 go_wp2_with fail
 go_ret
 exact ⟨rfl, SRStep.next C1.out F4.out k5⟩
theorem takeBit_x (b o n t : Nat) (c : Nat → Value) (s : St) (r : Rw) (w : World) (hB : Blk w b n c) (hS : StV c o s) (hR : RwV c (o + 3351) r) (hn : o + 4900 ≤ n) (hk : BitOk s r t) (hG : GrdAt w) (hb : b ≠ 0) :
  Calls Tryz.prog 156 #[.pointer (some ⟨b, o, none⟩), .int .u32 (t : Int), .pointer (some ⟨b, o + 3351, none⟩)] w fun e w' => e = .returned (.int .i64 ((bitP s r t).2.2 : Int)) ∧ SRStep b o n c (bitP s r t).1 (bitP s r t).2.1 w w' := by
 by_cases h12 : s.part = 12
 ·have e : bitP s r t = symP s r t := by unfold bitP; rw [if_pos h12]
  rw [e]
  exact takeBitS_x b o n t c s r w hB hS hR hn h12 (hk.sym h12) hG hb
 ·exact takeBitN_x b o n t c s r w hB hS hR hn hk h12 hG hb
end Go.Proofs.YtmbmecfodigciaaGreatDoor
