import Derived.Test.YtgooinallljbpaaGreatDoorRows
import Derived.Test.YtgooinallljbpaaGreatDoorCards
import Derived.Test.YtgooinallljbpaaGreatDoorTie
import Derived.Test.YtgooinallljbpaaGreatDoorHd40
import Derived.WalkKit
import Derived.ProofKit
import Derived.LaidMore
import Derived.OpenShut
import Derived.ShutString
import Derived.Stop.Joined
import Derived.Lib.LaidTab
import Derived.SevenTiedAt
import Derived.SliceStrings
import Derived.SizedLaws
import Derived.Carry
set_option linter.unusedSimpArgs false
set_option linter.unusedVariables false
/- Heads, of every text and every cut. -/
namespace Go.Proofs.YtgooinallljbpaaGreatDoor.heads
open Go.ChangeShapes Go.WideShapes Go.ChangeAt Go.RowKit
open Go.ChangeMaps (open_string shut_string)

theorem own : ownKnob Tryz.prog.godebug = none := by kernel_rfl
theorem Om : Tryz.prog.globalNamed "pixels/passes.grid" = some 0 := by kernel_rfl
def IX : List Int := [0, 0, 8, 8, 8, 8, 4, 0, 8, 8, 4, 8, 0, 4, 4, 8, 4, 4, 2, 0, 4, 4, 2, 4, 0, 2, 2, 4, 2, 2, 1, 0, 2, 2, 1, 2, 0, 1, 1, 2, 1, 1]

/-- The door's own heap meets the condition. -/
theorem Jb (os : Os) (args : Array Value) : laidMetH Tryz.prog Rows.headsRow.laid ((World.doorLaid Tryz.prog 400 os).forCall (fun _ _ => 0) ⟨#[], args, []⟩).memory :=
  laidMetH_of_parts3 (fuel := 8) (laidMet_of_run' 8 (by kernel_rfl) (by kernel_rfl)) (by kernel_rfl) (by kernel_rfl)
theorem NW : (Tryz.prog.globals[0]?).map (·.type) = some 198 := by kernel_rfl
def MO (i : Nat) : List Int := (IX.drop (6 * i)).take 6
theorem ET {H : Type} : (Rows.laid_pixels_passes_grid : DataW H) = .agg ((List.range 7).map fun i => Lib.tabData .i64 (MO i)) := rfl
theorem Lo : ∀ i, i < 7 → ∀ j, j < 6 → (MO i)[j]? = some (IX.getD (6 * i + j) 0) := by decide

theorem O2 : Tryz.prog.globalNamed "pixels/copies.lengths" = some 2 := by kernel_rfl
theorem O3 : Tryz.prog.globalNamed "pixels/copies.lengthBits" = some 3 := by kernel_rfl
theorem O4 : Tryz.prog.globalNamed "pixels/copies.distances" = some 1 := by kernel_rfl
theorem O1 : Tryz.prog.globalNamed "pixels/codes.order" = some 4 := by kernel_rfl
theorem OL : (Tryz.prog.globals[2]?).map (·.type) = some 216 := by kernel_rfl
theorem OM : (Tryz.prog.globals[3]?).map (·.type) = some 216 := by kernel_rfl
theorem OO : (Tryz.prog.globals[1]?).map (·.type) = some 212 := by kernel_rfl
theorem OK : (Tryz.prog.globals[4]?).map (·.type) = some 221 := by kernel_rfl
theorem OY {H : Type} : (Rows.laid_pixels_copies_lengths : DataW H) = Lib.tabData .i64 (pX.map Int.ofNat) := rfl
theorem OZ {H : Type} : (Rows.laid_pixels_copies_lengthBits : DataW H) = Lib.tabData .i64 (tq.map Int.ofNat) := rfl
theorem O0 {H : Type} : (Rows.laid_pixels_copies_distances : DataW H) = Lib.tabData .i64 (qe.map Int.ofNat) := rfl
theorem OX {H : Type} : (Rows.laid_pixels_codes_order : DataW H) = Lib.tabData .i64 (rA.map Int.ofNat) := rfl
theorem xZ {cs : List Value} {l : List Nat} {j n : Nat} (hc : cs = (l.map Int.ofNat).map fun z => Value.int .i64 z) (hl : l.length = n) (hj : j < n) : cs[j]? = some (.int .i64 (l.getD j 0 : Nat)) := by
  rw [hc, List.getElem?_map, List.getElem?_map, List.getElem?_eq_getElem om, List.getD_eq_getElem?_getD, List.getElem?_eq_getElem om]
  rfl

set_option maxRecDepth 100000 in
/-- What the condition gives the walk: the tables' cells. -/
theorem KS {W : World} (h : laidMetH Tryz.prog Rows.headsRow.laid W) : bC W := by
  rw [MakeChecks.laidMetH_plain _ _ _ (by kernel_rfl)] at h
  obtain ⟨ps, ⟨g4, t4, cs4, f4, p4, q4, hg4, ht4, hv4, hd4, ⟨g1, t1, cs1, f1, p1, q1, hg1, ht1, hv1, hd1, ⟨g2, t2, cs2, f2, p2, q2, hg2, ht2, hv2, hd2, ⟨g3, t3, cs3, f3, p3, q3, hg3, ht3, hv3, hd3, ⟨g0, t0, cs0, f0, p0, q0, hg0, ht0, hv0, hd0, _, _⟩, _⟩, _⟩, _⟩, _⟩, _, _⟩ := h
  have c3 : Tryz.prog.cellsOf 3 = 1 := by kernel_rfl
  refine ⟨?_, ⟨?_, ?_, ?_, ?_⟩⟩
  · obtain rfl := Option.some.inj (Om.symm.trans hg0)
    obtain rfl := Option.some.inj (NW.symm.trans ht0)
    have c197 : Tryz.prog.cellsOf 197 = 6 := by kernel_rfl
    have c198 : Tryz.prog.cellsOf 198 = 42 := by kernel_rfl
    obtain ⟨xs, m1, rfl, hx, hlen, hn, hel⟩ := DataW.trod_array Tryz.underlying198 hd0
    rw [ET] at hx
    simp only [Prod.mk.injEq, DataW.agg.injEq] at hx
    intro j hj
    have hi : j / 6 < 7 := om
    have hxi : xs[j / 6]? = some (Lib.tabData .i64 (MO (j / 6)), (xs[j / 6]?.map (·.2)).getD []) := by
      have e := congrArg (fun l => l[j / 6]?) hx.1
      simp only [List.getElem?_map, List.getElem?_range hi, Option.map_some] at e
      cases hq : xs[j / 6]? with
      | none => rw [hq] at e; simp at e
      | some y =>
        rw [hq] at e
        simp only [Option.map_some, Option.some.injEq] at e
        obtain ⟨y1, y2⟩ := y
        simp only at e
        subst e
        rfl
    have ht := (hel (j / 6) hi).trans hxi
    simp only [c197] at ht
    have hc := Lib.cells_of_tab Tryz.underlying197 Tryz.underlying3 c3 c197 ht
    have hcell := World.var?_cell hg0 hv0 j
    refine hcell.trans ?_
    have e2 : ((cs0.toList.drop (j / 6 * 6)).take 6)[j % 6]? = cs0.toList[j]? := by
      rw [List.getElem?_take, if_pos om, List.getElem?_drop]
      congr 1; omega
    rw [hc, List.getElem?_map, Lo (j / 6) hi (j % 6) om] at e2
    have e3 : 6 * (j / 6) + j % 6 = j := om
    rw [e3] at e2
    have hgr : ∀ j, j < 42 → IX.getD j 0 = (Px.dG j : Int) := by decide
    rw [← hgr j hj]
    simpa using e2.symm
  · obtain rfl := Option.some.inj (O2.symm.trans hg1)
    obtain rfl := Option.some.inj (OL.symm.trans ht1)
    have cN : Tryz.prog.cellsOf 216 = 29 := by kernel_rfl
    rw [OY] at hd1
    have hc := Lib.cells_of_tab Tryz.underlying216 Tryz.underlying3 c3 cN hd1
    exact fun j hj => (World.var?_cell hg1 hv1 j).trans ((by simp : cs1[j]? = cs1.toList[j]?).trans (xZ hc rfl hj))
  · obtain rfl := Option.some.inj (O3.symm.trans hg2)
    obtain rfl := Option.some.inj (OM.symm.trans ht2)
    have cN : Tryz.prog.cellsOf 216 = 29 := by kernel_rfl
    rw [OZ] at hd2
    have hc := Lib.cells_of_tab Tryz.underlying216 Tryz.underlying3 c3 cN hd2
    exact fun j hj => (World.var?_cell hg2 hv2 j).trans ((by simp : cs2[j]? = cs2.toList[j]?).trans (xZ hc rfl hj))
  · obtain rfl := Option.some.inj (O4.symm.trans hg3)
    obtain rfl := Option.some.inj (OO.symm.trans ht3)
    have cN : Tryz.prog.cellsOf 212 = 30 := by kernel_rfl
    rw [O0] at hd3
    have hc := Lib.cells_of_tab Tryz.underlying212 Tryz.underlying3 c3 cN hd3
    exact fun j hj => (World.var?_cell hg3 hv3 j).trans ((by simp : cs3[j]? = cs3.toList[j]?).trans (xZ hc rfl hj))
  · obtain rfl := Option.some.inj (O1.symm.trans hg4)
    obtain rfl := Option.some.inj (OK.symm.trans ht4)
    have cN : Tryz.prog.cellsOf 221 = 19 := by kernel_rfl
    rw [OX] at hd4
    have hc := Lib.cells_of_tab Tryz.underlying221 Tryz.underlying3 c3 cN hd4
    exact fun j hj => (World.var?_cell hg4 hv4 j).trans ((by simp : cs4[j]? = cs4.toList[j]?).trans (xZ hc rfl hj))

set_option maxRecDepth 100000 in
theorem lifted (os : Os) (started : os.Started) (H : Type) (enc : TypeId × Value → H) :
    ReturnsInHanded {} Tryz.checked os 3 .any (fun w args => (Rows.headsSpec.pre enc Tryz.prog Tryz.f3 [] false w args ∧ laidMetH Tryz.prog Rows.headsRow.laid w) ∧ sizedMet enc Tryz.prog Tryz.f3 (OpenSpec.ofChange Rows.headsSpec) false w args)
      (Rows.headsSpec.post enc Tryz.prog Tryz.f3 false true false false) := by
  refine returnsInHanded_of_change_and (C := Tryz.checked) (X := fun w _ => laidMetH Tryz.prog Rows.headsRow.laid w) (fun _ _ _ hh h => h.of_heap hh) own started (by kernel_rfl) Tryz.func3
    (ChangeSpec.witness_shaped (enc := enc) (C := Tryz.checked) (os := os) (X := fun w _ => laidMetH Tryz.prog Rows.headsRow.laid w) false (World.doorLaid Tryz.prog 400 os) #[.string ByteArray.empty, .int .i64 0] 8 rfl (World.shaped_of_RefB (by kernel_rfl) (by kernel_rfl)) (by kernel_rfl) (by kernel_rfl) (by kernel_rfl) (Jb os _)) ?_
  intro W base args ds gs before hval0 hW _ hsz0 hL _
  clear hsz0
  have hval : ∀ (j : Nat) t v, Tryz.f3.params[j]? = some t → args[j]? = some v → Value.okWide Tryz.prog W .any base t v := hval0
  have hW' := hW
  obtain ⟨p, q, hA0, hV, rfl, _, _⟩ := hW
  have hA : DataW.TrodAll enc Tryz.prog W 0 (fun _ => true) true Tryz.f3.params.toList args.toList ds p := hA0
  rw [Tryz.params3] at hA hval
  obtain ⟨v0, vs0, d0, ds0, p0, q0, hargs, rfl, rfl, h0, r0⟩ := trodAll_cons hA
  obtain ⟨v1, vs1, d1, ds1, p1, q1, rfl, rfl, rfl, h1, r1⟩ := trodAll_cons r0
  obtain ⟨rfl, rfl, rfl⟩ := trodAll_nil r1
  obtain rfl : args = #[v0, v1] := by cases args; simp_all
  obtain ⟨rfl, rfl⟩ := trodVars_none hV
  obtain ⟨a0, rfl, rfl, rfl, w0⟩ := open_string Tryz.underlying9 (hval 0 9 v0 rfl rfl) h0
  obtain ⟨a1, rfl, rfl, rfl, w1⟩ := open_int Tryz.underlying3 (hval 1 3 v1 rfl rfl) h1
  clear hA0 hval0
  simp only [List.append_nil] at hW'
  have hb := bounds_i64 w1
  refine (Pc a0 a1 W hb.1 om (KS hL)).mono fun e W' ⟨he, hg⟩ => ?_
  subst he
  exact ⟨_, rfl, _, _, _, [], [], [], hW', trodAll_cons_mk (shut_bool Tryz.underlying4 _) trodAll_mk0, trodAll_cons_mk (shut_string Tryz.underlying9 w0) (trodAll_cons_mk (shut_int Tryz.underlying3 w1) trodAll_mk0), rfl, Below.frame hg _, fun h => by cases h⟩

theorem over : Rows.HeadsSaid :=
  OpenClaim.holds_of_wide 3 Tryz.f3 rfl rfl rfl rfl rfl rfl rfl ⟨rfl, rfl, rfl, rfl, rfl⟩ rfl rfl rfl rfl rfl (by kernel_rfl) Tryz.func3 (by kernel_rfl)
    (of_decide_eq_true (by kernel_rfl)) (by unfold Func.isWrapper; first | (rw [if_pos (by decide +kernel)]; kernel_rfl) | (rw [if_neg (by decide +kernel)]; exact ⟨rfl, rfl⟩))
    (fun os started H enc _ => lifted os started H enc)

theorem proved : Rows.HeadsCardSaid :=
  Claim7.holds_tied_plain_at .later [] [.data, .data, .data, .data, .data] true (true, "b6119c938dc522db1ce542aaa54b6109013d9e6ab57d719d7bc077e924afc01b") false
    over (fun _ h => by cases h) (by kernel_rfl) (fun _ h => by cases h) heads_row_tie rfl ⟨rfl, rfl⟩ (by kernel_rfl) rfl
    (fun f fn hf hfn => by
      obtain rfl : f = 3 := Option.some.inj ((show Tryz.prog.funcNamed "pixels/pixelslaw.Heads" = some 3 by kernel_rfl).symm.trans hf) |>.symm
      obtain rfl : fn = Tryz.f3 := (Option.some.inj (Tryz.func3.symm.trans hfn)).symm
      exact ⟨by kernel_rfl, fun j t ht => by
        rw [Tryz.params3] at ht
        have hm : t ∈ [9, 3] := by simpa using Array.mem_of_getElem? ht
        have hall : ([9, 3].all fun u => !Tryz.prog.wantsStandIn u) = true := by kernel_rfl
        exact (show Tryz.prog.wantsStandIn t = false by simpa using List.all_eq_true.1 hall t hm)⟩)
    (by kernel_rfl)
#print axioms proved
end Go.Proofs.YtgooinallljbpaaGreatDoor.heads
