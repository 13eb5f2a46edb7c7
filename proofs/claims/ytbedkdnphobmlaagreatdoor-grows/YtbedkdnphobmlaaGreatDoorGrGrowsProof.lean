import Derived.Test.YtbedkdnphobmlaaGreatDoorProg
import Derived.Test.YtbedkdnphobmlaaGreatDoorRows
import Derived.Test.YtbedkdnphobmlaaGreatDoorCards
import Derived.Test.YtbedkdnphobmlaaGreatDoorTie
import Derived.WalkKit
import Derived.ProofKit
import Derived.LaidMore
import Derived.OpenShut
import Derived.ShutString
import Derived.Stop.Joined
import Derived.Lib.LaidTab
import Derived.SevenTiedAt
import Derived.Test.YtbedkdnphobmlaaGreatDoorUaa03
import Derived.Test.YtbedkdnphobmlaaGreatDoorUaa14
import Derived.Test.YtbedkdnphobmlaaGreatDoorUah02
set_option linter.unusedSimpArgs false
set_option linter.unusedVariables false
/- Grows, of every picture and every choice that the law makes. -/
namespace Go.Proofs.YtbedkdnphobmlaaGreatDoor.grows
open Go.ChangeShapes Go.WideShapes Go.ChangeAt Go.RowKit
open Go.ChangeMaps (open_string shut_string)

theorem own : ownKnob Tryz.prog.godebug = none := by kernel_rfl
theorem ig : Tryz.prog.globalNamed "pixels/passes.grid" = some 0 := by kernel_rfl

/-- The door's own heap meets the condition. -/
theorem dy (os : Os) (args : Array Value) : laidMetH Tryz.prog Rows.growsRow.laid ((World.doorLaid Tryz.prog 400 os).forCall (fun _ _ => 0) ⟨#[], args, []⟩).memory :=
  laidMetH_of_parts3 (fuel := 8) (laidMet_of_run' 8 (by kernel_rfl) (by kernel_rfl)) (by kernel_rfl) (by kernel_rfl)
theorem gX : (Tryz.prog.globals[0]?).map (·.type) = some 176 := by kernel_rfl
def fD (i : Nat) : List Int := (fJ.drop (6 * i)).take 6
theorem cG {H : Type} : (Rows.laid_pixels_passes_grid : DataW H) = .agg ((List.range 7).map fun i => Lib.tabData .i64 (fD i)) := rfl
theorem ek : ∀ i, i < 7 → ∀ j, j < 6 → (fD i)[j]? = some (fJ.getD (6 * i + j) 0) := by decide

theorem nD : Tryz.prog.globalNamed "pixels/copies.lengths" = some 1 := by kernel_rfl
theorem nE : Tryz.prog.globalNamed "pixels/copies.lengthBits" = some 4 := by kernel_rfl
theorem nF : Tryz.prog.globalNamed "pixels/copies.distances" = some 2 := by kernel_rfl
theorem nB : Tryz.prog.globalNamed "pixels/codes.order" = some 3 := by kernel_rfl
theorem ml : (Tryz.prog.globals[1]?).map (·.type) = some 243 := by kernel_rfl
theorem mm : (Tryz.prog.globals[4]?).map (·.type) = some 243 := by kernel_rfl
theorem mn : (Tryz.prog.globals[2]?).map (·.type) = some 208 := by kernel_rfl
theorem mj : (Tryz.prog.globals[3]?).map (·.type) = some 249 := by kernel_rfl
theorem ni {H : Type} : (Rows.laid_pixels_copies_lengths : DataW H) = Lib.tabData .i64 (lnT.map Int.ofNat) := rfl
theorem nj {H : Type} : (Rows.laid_pixels_copies_lengthBits : DataW H) = Lib.tabData .i64 (lbT.map Int.ofNat) := rfl
theorem nk {H : Type} : (Rows.laid_pixels_copies_distances : DataW H) = Lib.tabData .i64 (dsT.map Int.ofNat) := rfl
theorem nh {H : Type} : (Rows.laid_pixels_codes_order : DataW H) = Lib.tabData .i64 (orT.map Int.ofNat) := rfl
theorem bD {cs : List Value} {l : List Nat} {j n : Nat} (hc : cs = (l.map Int.ofNat).map fun z => Value.int .i64 z) (hl : l.length = n) (hj : j < n) : cs[j]? = some (.int .i64 (l.getD j 0 : Nat)) := by
  rw [hc, List.getElem?_map, List.getElem?_map, List.getElem?_eq_getElem (by omega), List.getD_eq_getElem?_getD, List.getElem?_eq_getElem (by omega)]
  rfl

set_option maxRecDepth 100000 in
/-- What the condition gives the walk: the tables' cells. -/
theorem dR {W : World} (h : laidMetH Tryz.prog Rows.growsRow.laid W) : aV W := by
  rw [MakeChecks.laidMetH_plain _ _ _ (by kernel_rfl)] at h
  obtain ⟨ps, ⟨g4, t4, cs4, f4, p4, q4, hg4, ht4, hv4, hd4, ⟨g1, t1, cs1, f1, p1, q1, hg1, ht1, hv1, hd1, ⟨g2, t2, cs2, f2, p2, q2, hg2, ht2, hv2, hd2, ⟨g3, t3, cs3, f3, p3, q3, hg3, ht3, hv3, hd3, ⟨g0, t0, cs0, f0, p0, q0, hg0, ht0, hv0, hd0, _, _⟩, _⟩, _⟩, _⟩, _⟩, _, _⟩ := h
  have c3 : Tryz.prog.cellsOf 3 = 1 := by kernel_rfl
  refine ⟨?_, ⟨?_, ?_, ?_, ?_⟩⟩
  · obtain rfl := Option.some.inj (ig.symm.trans hg0)
    obtain rfl := Option.some.inj (gX.symm.trans ht0)
    have c175 : Tryz.prog.cellsOf 175 = 6 := by kernel_rfl
    have c176 : Tryz.prog.cellsOf 176 = 42 := by kernel_rfl
    obtain ⟨xs, m1, rfl, hx, hlen, hn, hel⟩ := DataW.trod_array Tryz.underlying176 hd0
    rw [cG] at hx
    simp only [Prod.mk.injEq, DataW.agg.injEq] at hx
    intro j hj
    have hi : j / 6 < 7 := by omega
    have hxi : xs[j / 6]? = some (Lib.tabData .i64 (fD (j / 6)), (xs[j / 6]?.map (·.2)).getD []) := by
      have e := congrArg (fun l => l[j / 6]?) hx.1
      simp only [List.getElem?_map, List.getElem?_range hi, Option.map_some] at e
      cases hq : xs[j / 6]? with
      | none => rw [hq] at e; simp at e
      | some y =>
        rw [hq] at e
        simp only [Option.map_some, Option.some.injEq] at e
        obtain ⟨y1, y2⟩ := y
        simp only at e
        subst e
        rfl
    have ht := (hel (j / 6) hi).trans hxi
    simp only [c175] at ht
    have hc := Lib.cells_of_tab Tryz.underlying175 Tryz.underlying3 c3 c175 ht
    have hcell := World.var?_cell hg0 hv0 j
    refine hcell.trans ?_
    have e2 : ((cs0.toList.drop (j / 6 * 6)).take 6)[j % 6]? = cs0.toList[j]? := by
      rw [List.getElem?_take, if_pos (by omega), List.getElem?_drop]
      congr 1; omega
    rw [hc, List.getElem?_map, ek (j / 6) hi (j % 6) (by omega)] at e2
    have e3 : 6 * (j / 6) + j % 6 = j := by omega
    rw [e3] at e2
    simpa using e2.symm
  · obtain rfl := Option.some.inj (nD.symm.trans hg1)
    obtain rfl := Option.some.inj (ml.symm.trans ht1)
    have cN : Tryz.prog.cellsOf 243 = 29 := by kernel_rfl
    rw [ni] at hd1
    have hc := Lib.cells_of_tab Tryz.underlying243 Tryz.underlying3 c3 cN hd1
    exact fun j hj => (World.var?_cell hg1 hv1 j).trans ((by simp : cs1[j]? = cs1.toList[j]?).trans (bD hc rfl hj))
  · obtain rfl := Option.some.inj (nE.symm.trans hg2)
    obtain rfl := Option.some.inj (mm.symm.trans ht2)
    have cN : Tryz.prog.cellsOf 243 = 29 := by kernel_rfl
    rw [nj] at hd2
    have hc := Lib.cells_of_tab Tryz.underlying243 Tryz.underlying3 c3 cN hd2
    exact fun j hj => (World.var?_cell hg2 hv2 j).trans ((by simp : cs2[j]? = cs2.toList[j]?).trans (bD hc rfl hj))
  · obtain rfl := Option.some.inj (nF.symm.trans hg3)
    obtain rfl := Option.some.inj (mn.symm.trans ht3)
    have cN : Tryz.prog.cellsOf 208 = 30 := by kernel_rfl
    rw [nk] at hd3
    have hc := Lib.cells_of_tab Tryz.underlying208 Tryz.underlying3 c3 cN hd3
    exact fun j hj => (World.var?_cell hg3 hv3 j).trans ((by simp : cs3[j]? = cs3.toList[j]?).trans (bD hc rfl hj))
  · obtain rfl := Option.some.inj (nB.symm.trans hg4)
    obtain rfl := Option.some.inj (mj.symm.trans ht4)
    have cN : Tryz.prog.cellsOf 249 = 19 := by kernel_rfl
    rw [nh] at hd4
    have hc := Lib.cells_of_tab Tryz.underlying249 Tryz.underlying3 c3 cN hd4
    exact fun j hj => (World.var?_cell hg4 hv4 j).trans ((by simp : cs4[j]? = cs4.toList[j]?).trans (bD hc rfl hj))

theorem walk (a0 : Int) (a1 : ByteArray) (a2 : ByteArray) (a3 : Int) (a4 : ByteArray) (a5 : ByteArray) (a6 : Int) (w0 : (Lit.int .i64 a0).wf = true) (w1 : a1.size ≤ maxLen) (w2 : a2.size ≤ maxLen) (w3 : (Lit.int .i64 a3).wf = true) (w4 : a4.size ≤ maxLen) (w5 : a5.size ≤ maxLen) (w6 : (Lit.int .i64 a6).wf = true) (w : World) (hG : aV w) :
    Calls Tryz.prog 4 #[.int .i64 a0, .string a1, .string a2, .int .i64 a3, .string a4, .string a5, .int .i64 a6] w fun e w' => e = .returned (.bool true) ∧ Below w.heap.size w w' := by
  have h0 := bounds_i64 w0
  have h3 := bounds_i64 w3
  have h6 := bounds_i64 w6
  unfold maxLen at w1 w2 w4 w5
  exact vn a0 a3 a6 a1 a2 a4 a5 w h0.1 (by omega) h3.1 (by omega) (by omega) (by omega) (by omega) (by omega) h6.1 (by omega) hG

set_option maxRecDepth 100000 in
theorem lifted (os : Os) (started : os.Started) (H : Type) (enc : TypeId × Value → H) :
    ReturnsInHanded {} Tryz.checked os 4 .any (fun w args => (Rows.growsSpec.pre enc Tryz.prog Tryz.f4 [] false w args ∧ laidMetH Tryz.prog Rows.growsRow.laid w) ∧ sizedMet enc Tryz.prog Tryz.f4 (OpenSpec.ofChange Rows.growsSpec) false w args)
      (Rows.growsSpec.post enc Tryz.prog Tryz.f4 false true false false) := by
  refine returnsInHanded_of_change_and (C := Tryz.checked) (X := fun w _ => laidMetH Tryz.prog Rows.growsRow.laid w) (fun _ _ _ hh h => h.of_heap hh) own started (by kernel_rfl) Tryz.func4
    (ChangeSpec.witness_shaped (enc := enc) (C := Tryz.checked) (os := os) (X := fun w _ => laidMetH Tryz.prog Rows.growsRow.laid w) false (World.doorLaid Tryz.prog 400 os) #[.int .i64 0, .string ByteArray.empty, .string ByteArray.empty, .int .i64 0, .string ByteArray.empty, .string ByteArray.empty, .int .i64 0] 8 rfl (World.shaped_of_RefB (by kernel_rfl) (by kernel_rfl)) (by kernel_rfl) (by kernel_rfl) (by kernel_rfl) (dy os _)) ?_
  intro W base args ds gs before hval0 hW _ _ hL _
  have hval : ∀ (j : Nat) t v, Tryz.f4.params[j]? = some t → args[j]? = some v → Value.okWide Tryz.prog W .any base t v := hval0
  have hW' := hW
  obtain ⟨p, q, hA0, hV, rfl, hfz, hnd⟩ := hW
  have hA : DataW.TrodAll enc Tryz.prog W 0 (fun _ => true) true Tryz.f4.params.toList args.toList ds p := hA0
  rw [Tryz.params4] at hA hval
  obtain ⟨v0, vs0, d0, ds0, p0, q0, hargs, rfl, rfl, h0, r0⟩ := trodAll_cons hA
  obtain ⟨v1, vs1, d1, ds1, p1, q1, rfl, rfl, rfl, h1, r1⟩ := trodAll_cons r0
  obtain ⟨v2, vs2, d2, ds2, p2, q2, rfl, rfl, rfl, h2, r2⟩ := trodAll_cons r1
  obtain ⟨v3, vs3, d3, ds3, p3, q3, rfl, rfl, rfl, h3, r3⟩ := trodAll_cons r2
  obtain ⟨v4, vs4, d4, ds4, p4, q4, rfl, rfl, rfl, h4, r4⟩ := trodAll_cons r3
  obtain ⟨v5, vs5, d5, ds5, p5, q5, rfl, rfl, rfl, h5, r5⟩ := trodAll_cons r4
  obtain ⟨v6, vs6, d6, ds6, p6, q6, rfl, rfl, rfl, h6, r6⟩ := trodAll_cons r5
  obtain ⟨rfl, rfl, rfl⟩ := trodAll_nil r6
  obtain rfl : args = #[v0, v1, v2, v3, v4, v5, v6] := by cases args; simp_all
  obtain ⟨rfl, rfl⟩ := trodVars_none hV
  obtain ⟨a0, rfl, rfl, rfl, w0⟩ := open_int Tryz.underlying3 (hval 0 3 v0 rfl rfl) h0
  obtain ⟨a1, rfl, rfl, rfl, w1⟩ := open_string Tryz.underlying9 (hval 1 9 v1 rfl rfl) h1
  obtain ⟨a2, rfl, rfl, rfl, w2⟩ := open_string Tryz.underlying9 (hval 2 9 v2 rfl rfl) h2
  obtain ⟨a3, rfl, rfl, rfl, w3⟩ := open_int Tryz.underlying3 (hval 3 3 v3 rfl rfl) h3
  obtain ⟨a4, rfl, rfl, rfl, w4⟩ := open_string Tryz.underlying9 (hval 4 9 v4 rfl rfl) h4
  obtain ⟨a5, rfl, rfl, rfl, w5⟩ := open_string Tryz.underlying9 (hval 5 9 v5 rfl rfl) h5
  obtain ⟨a6, rfl, rfl, rfl, w6⟩ := open_int Tryz.underlying3 (hval 6 3 v6 rfl rfl) h6
  clear hA0 hval0
  simp only [List.append_nil] at hW'
  refine (walk a0 a1 a2 a3 a4 a5 a6 w0 w1 w2 w3 w4 w5 w6 W (dR hL)).mono fun e W' ⟨he, hg⟩ => ?_
  subst he
  exact ⟨_, rfl, _, _, _, [], [], [], hW', trodAll_cons_mk (shut_bool Tryz.underlying4 _) trodAll_mk0, trodAll_cons_mk (shut_int Tryz.underlying3 w0) (trodAll_cons_mk (shut_string Tryz.underlying9 w1) (trodAll_cons_mk (shut_string Tryz.underlying9 w2) (trodAll_cons_mk (shut_int Tryz.underlying3 w3) (trodAll_cons_mk (shut_string Tryz.underlying9 w4) (trodAll_cons_mk (shut_string Tryz.underlying9 w5) (trodAll_cons_mk (shut_int Tryz.underlying3 w6) trodAll_mk0)))))), rfl, Below.frame hg _, fun h => by cases h⟩

theorem over : Rows.GrowsSaid :=
  OpenClaim.holds_of_wide 4 Tryz.f4 rfl rfl rfl rfl rfl rfl rfl ⟨rfl, rfl, rfl, rfl, rfl⟩ rfl rfl rfl rfl rfl (by kernel_rfl) Tryz.func4 (by kernel_rfl)
    (of_decide_eq_true (by kernel_rfl)) (by unfold Func.isWrapper; first | (rw [if_pos (by decide +kernel)]; kernel_rfl) | (rw [if_neg (by decide +kernel)]; exact ⟨rfl, rfl⟩))
    (fun os started H enc _ => lifted os started H enc)

theorem proved : Rows.GrowsCardSaid :=
  Claim7.holds_tied_plain_at .later [] [.data, .data, .data, .data, .data] true (true, "5f6c7f3688ed1b115efa45ea0d3acddfb6b8c805c11b24915e105f706cc6390f") false
    over (fun _ h => by cases h) (by kernel_rfl) (fun _ h => by cases h) grows_row_tie rfl ⟨rfl, rfl⟩ (by kernel_rfl) rfl
    (fun f fn hf hfn => by
      obtain rfl : f = 4 := Option.some.inj ((show Tryz.prog.funcNamed "pixels/pixelskeep.Grows" = some 4 by kernel_rfl).symm.trans hf) |>.symm
      obtain rfl : fn = Tryz.f4 := (Option.some.inj (Tryz.func4.symm.trans hfn)).symm
      exact ⟨by kernel_rfl, fun j t ht => by
        rw [Tryz.params4] at ht
        have hm : t ∈ [3, 9, 9, 3, 9, 9, 3] := by simpa using Array.mem_of_getElem? ht
        have hall : ([3, 9, 9, 3, 9, 9, 3].all fun u => !Tryz.prog.wantsStandIn u) = true := by kernel_rfl
        exact (show Tryz.prog.wantsStandIn t = false by simpa using List.all_eq_true.1 hall t hm)⟩)
    (by kernel_rfl)
#print axioms proved
end Go.Proofs.YtbedkdnphobmlaaGreatDoor.grows
