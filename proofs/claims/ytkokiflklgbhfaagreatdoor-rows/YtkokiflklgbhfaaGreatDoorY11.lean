import Derived.Test.YtkokiflklgbhfaaGreatDoorY7
import Derived.Test.YtkokiflklgbhfaaGreatDoorG8
set_option maxRecDepth 100000
set_option maxHeartbeats 3200000
namespace Go.Proofs.YtkokiflklgbhfaaGreatDoor
open Go.RowKit Px
set_option linter.unusedSimpArgs false
set_option linter.unusedVariables false
/-- What a list of bytes that was made is for the callers, with what it holds. -/
structure MadeB (w w' : World) (ov : Value) (L : List Int) : Prop where
  ok : isBytes L
  lat : LAt w' .u8 ov L
  nn : ∀ n c, ov = .slice none n c → c = 0
  new : ∀ g, sliceBlock ov = some g → w.heap.size ≤ g
  kept : Kept w w'
theorem singles_b (v : Value) (l : List Int) (w : World) (hl : LAt w .i64 v l) (hn : l.length ≤ 65536) (hB : isBytes l) :
    Calls Tryz.prog 48 #[v] w fun r w' => ∃ ov : Value, r = .returned ov ∧ MadeB w w' ov l := by
  obtain ⟨p, c, rfl⟩ := hl.form
  have HL : Hid (LAt w .i64 (.slice p l.length c) l) := hl
  have HB : Hid (isBytes l) := hB
  clear hl hB
  obtain ⟨i0, hi, hz0, hz1, hz2⟩ := info_parts' infoU8
  go_enter Tryz.func48, Tryz.ntmps48
  go_wp2_with (refine wpList_make_full _ rfl _ _ 105 rfl w.heap.size 5 i0 (.int .u8 0) 1 Tryz.underlying105 hi hz0 hz1 .i64 .i64 (l.length : Int) (l.length : Int) l.length rfl rfl rfl rfl (by rw [hz2]; omega) (by unfold maxLen; omega) (Nat.le_refl _) ?_)
  intro w1 ho1 hg1
  have hK1 : Hid (Kept w w1) := ⟨hg1.os, hg1.tape, hg1.output, hg1.size, fun k hk => hg1.block k hk (by simp)⟩
  have hF1 : Hid (∀ k, w1.frozen? ⟨w.heap.size, k, none⟩ = false) := by
    rcases ho1.2 with ⟨hv, h0⟩ | ⟨g, cap, cur, hv, hg, hh, r⟩
    · cases hv
    · injection hv with hv _ _
      injection hv with hv
      injection hv with hv _ _
      rw [← hv] at hh
      exact fun k => Joins.unfrozen_of_block hh k
  have hR1 : Hid (∀ j, j < l.length → w1.cell? ⟨w.heap.size, j, none⟩ = some (.int .u8 (if j < 0 then l.getD j 0 else 0))) := by
    intro j hj
    have := ho1.cells rfl j _ (made8 l.length j hj)
    rw [Addr.add_mid, Nat.zero_add] at this
    rw [if_neg (by omega)]
    exact this
  clear ho1 hg1
  go_wp2
  go_loopw [4] (fun v W => ∃ k : Nat, k ≤ l.length ∧ v = .int .i64 (k : Int) ∧ (∀ j, j < l.length → W.cell? ⟨w.heap.size, j, none⟩ = some (.int .u8 (if j < k then l.getD j 0 else 0))) ∧ (∀ k, W.frozen? ⟨w.heap.size, k, none⟩ = false) ∧ Kept w W) (fun v _ => l.length - (intOf v).toNat)
  case atStart => exact ⟨0, by omega, rfl, hR1.out, hF1.out, hK1.out⟩
  case round =>
    obtain ⟨k, hk, rfl, hR, hF, hK⟩ := hrel
    clear hR1 hF1 hK1
    by_cases hlt : k < l.length
    · obtain ⟨g, o, rfl, hc⟩ := (HL.out.kept hK).cellAt k hlt
      have hgw : g < w.heap.size := by
        obtain ⟨g', o', e, hc'⟩ := HL.out.cellAt k hlt
        injection e with e
        injection e with e _
        subst e
        exact World.block_lt_of_cell? _ _ hc'
      have hz := hR k hlt
      rw [if_neg (by omega)] at hz
      have hb := HB.out _ (getD_mem hlt)
      have hb0 := hb.1
      have hb1 := hb.2
      clear hb
      obtain ⟨B, hBe⟩ : ∃ B, B = l.getD k 0 := ⟨_, rfl⟩
      rw [← hBe] at hc hb0 hb1
      replace hBe : Hid _ := hBe
      have hfk := hF k
      have hlt' : (k : Int) < (l.length : Int) := by omega
      have hk0 : (0 : Int) ≤ (k : Int) := by omega
      replace hR : Hid (∀ j, j < l.length → wr.cell? ⟨w.heap.size, j, none⟩ = some (.int .u8 (if j < k then l.getD j 0 else 0))) := hR
      replace hF : Hid (∀ k, wr.frozen? ⟨w.heap.size, k, none⟩ = false) := hF
      replace hK : Hid (Kept w wr) := hK
      go_wp2
      refine ⟨⟨k + 1, by omega, by go_num, fun j hj => ?_, fun j => by rw [World.frozen?_setCell]; exact hF.out j, hK.out.setCell (Nat.le_refl _) _⟩, by simp [intOf]; omega⟩
      by_cases hjk : j = k
      · subst hjk
        rw [if_pos (by omega), ← hBe.out]
        first | exact cell_set_same hz _ | (rw [cell_set_same hz _, Int.emod_eq_of_lt hb0 hb1])
      · rw [cell_set_other _ _ _ _ _ (fun e => hjk e.symm)]
        rw [hR.out j hj]
        by_cases h5 : j < k
        · rw [if_pos h5, if_pos (by omega)]
        · rw [if_neg h5, if_neg (by omega)]
    · have hke : k = l.length := by omega
      subst hke
      replace hR : Hid (∀ j, j < l.length → wr.cell? ⟨w.heap.size, j, none⟩ = some (.int .u8 (if j < l.length then l.getD j 0 else 0))) := hR
      replace hF : Hid (∀ k, wr.frozen? ⟨w.heap.size, k, none⟩ = false) := hF
      replace hK : Hid (Kept w wr) := hK
      go_wp2
      go_ret
      refine ⟨.slice (some ⟨w.heap.size, 0, none⟩) l.length l.length, rfl, HB.out, ⟨⟨_, _, rfl⟩, ?_⟩, ?_, ?_, hK.out⟩
      · intro p' c' e i hi
        injection e with e _ _
        refine ⟨w.heap.size, 0, e.symm, ?_⟩
        rw [Nat.zero_add, hR.out i hi, if_pos hi]
      · intro n c' e; injection e with e _ _; cases e
      · intro g hg
        have : w.heap.size = g := by injection hg
        omega
/-- Two bytes for each sample. -/
def twoB (l : List Int) : List Int := l.flatMap (fun x => [x / 256, x % 256])
theorem twoB_len (l : List Int) : (twoB l).length = 2 * l.length := by
  unfold twoB
  induction l with
  | nil => rfl
  | cons x l ih => rw [List.flatMap_cons, List.length_append, ih]; simp; omega
theorem twoB_snoc (l : List Int) (x : Int) : twoB (l ++ [x]) = twoB l ++ [x / 256, x % 256] := by
  unfold twoB; rw [List.flatMap_append]; simp
theorem pairs_b (v : Value) (l : List Int) (w : World) (hl : LAt w .i64 v l) (hn : l.length ≤ 65536) (hB : ∀ x ∈ l, 0 ≤ x ∧ x < 65536) :
    Calls Tryz.prog 77 #[v] w fun r w' => ∃ ov : Value, r = .returned ov ∧ MadeB w w' ov (twoB l) := by
  obtain ⟨p, c, rfl⟩ := hl.form
  have HL : Hid (LAt w .i64 (.slice p l.length c) l) := hl
  have HB : Hid _ := hB
  clear hl hB
  go_enter Tryz.func77, Tryz.ntmps77
  go_wp2
  go_loopw [3, 4] (fun u v W => ∃ k : Nat, k ≤ l.length ∧ v = .int .i64 (k : Int) ∧ OwnB W w.heap.size u (twoB (l.take k)) ∧ Kept w W) (fun _ v _ => l.length - (intOf v).toNat)
  case atStart => exact ⟨0, by omega, rfl, OwnB.nil _ _, Kept.refl _⟩
  case round =>
    obtain ⟨k, hk, rfl, ho, hK⟩ := hrel
    have HLn : Hid ((twoB (l.take k)).length = 2 * k) := by
      show (twoB (l.take k)).length = 2 * k
      rw [twoB_len, List.length_take]; omega
    obtain ⟨pp, cc, rfl⟩ := ho.slice' HLn.out
    have hsz := hK.size
    by_cases hlt : k < l.length
    · obtain ⟨g, o, rfl, hc⟩ := (HL.out.kept hK).cellAt k hlt
      have hgw : g < w.heap.size := by
        obtain ⟨g', o', e, hc'⟩ := HL.out.cellAt k hlt
        injection e with e
        injection e with e _
        subst e
        exact World.block_lt_of_cell? _ _ hc'
      have hb := HB.out _ (getD_mem hlt)
      have hb0 := hb.1
      have hb1 := hb.2
      clear hb
      have HNx : Hid (twoB (l.take (k + 1)) = twoB (l.take k) ++ [l.getD k 0 / 256, l.getD k 0 % 256]) := by
        show twoB (l.take (k + 1)) = _
        rw [← twoB_snoc, List.take_succ_eq_append_getElem hlt]
        simp [List.getD_eq_getElem?_getD, List.getElem?_eq_getElem hlt]
      generalize l.getD k 0 = B at *
      obtain ⟨T0, hT0⟩ : ∃ T0, T0 = twoB (l.take k) := ⟨_, rfl⟩
      rw [← hT0] at HNx HLn ho
      clear hT0
      have HW1 : Hid (IntKind.u8.wrap (B / 256) = B / 256) := by show IntKind.u8.wrap (B / 256) = _; rw [IntKind.wrap_u8]; omega
      have HW2 : Hid (IntKind.u8.wrap B = B % 256) := IntKind.wrap_u8 B
      have hlt' : (k : Int) < (l.length : Int) := by omega
      have hk0 : (0 : Int) ≤ (k : Int) := by omega
      replace hK : Hid (Kept w wr) := hK
      have HO : Hid (OwnB wr w.heap.size (.slice pp (2 * k) cc) T0) := ho
      clear ho
      have HE : Hid (isBytes [IntKind.u8.wrap (B / 256), IntKind.u8.wrap B]) := by
        intro y hy
        simp at hy
        rcases hy with rfl | rfl
        · have := bounds_u8 (wf_wrap .u8 (B / 256)); omega
        · have := bounds_u8 (wf_wrap .u8 B); omega
      have HC : Hid (∀ j, j < 2 → ((wr.alloc (Obj.cells #[Value.int IntKind.u8 (IntKind.u8.wrap (B / 256)), Value.int IntKind.u8 (IntKind.u8.wrap B)] 5)).drewN 1).cell? ⟨wr.heap.size, j, none⟩ = some (.int .u8 ([IntKind.u8.wrap (B / 256), IntKind.u8.wrap B].getD j 0))) := by
        intro j hj
        show (wr.alloc _).cell? _ = _
        rw [World.cell?_alloc_at _ _ _ _ rfl]
        have : j = 0 ∨ j = 1 := by omega
        rcases this with rfl | rfl <;> rfl
      go_wp2_with fail
      go_region_held3 (fun W => W.cell? ⟨g, o + k, none⟩ = some (.int .i64 B)) (first | exact hc | exact hc5 | go_keep) ((refine stepB (by rfl) _ _ (by rfl) w.heap.size (.slice pp (2 * k) cc) T0 (by rfl) (by exact (HO.out.alloc _).drewN 1) wr.heap.size 2 2 [IntKind.u8.wrap (B / 256), IntKind.u8.wrap B] (by rfl) rfl (by omega) HE.out (by exact HC.out) (by rw [HLn.out]; omega) (by simp; omega) ?_; intro g' cap w2 ho2 hf2; have fk : Fr (fun k' => (Value.slice pp (2 * k) cc).ownBlock = some k') wr w2 := (((Fr.refl _ wr).alloc _).drewN 1).trans hf2; have hc5 : w2.cell? ⟨g, o + k, none⟩ = some (.int .i64 B) := (fk.cell (World.block_lt_of_cell? _ _ hc) (fun e => by have := HO.out.ge g e; omega)).trans hc))
      have HO2 : Hid (OwnB w2 w.heap.size (.slice (some ⟨g', 0, none⟩) (T0.length + 2) cap) (twoB (l.take (k + 1)))) := by
        show OwnB _ _ _ _
        rw [HNx.out]
        have h5 := ho2
        rw [HW1.out, HW2.out] at h5
        exact h5
      have HK2 : Hid (Kept w w2) := Fr.to_kept hK.out fk (fun i hi e => by have := HO.out.ge i e; omega)
      clear ho2 hf2 fk
      go_wp2
      exact ⟨⟨k + 1, by omega, by go_num, HO2.out, HK2.out⟩, by simp [intOf]; omega⟩
    · have hke : k = l.length := by omega
      subst hke
      have HO : Hid (OwnB wr w.heap.size (.slice pp (2 * l.length) cc) (twoB l)) := by
        show OwnB _ _ _ _
        rw [List.take_of_length_le (Nat.le_refl _)] at ho; exact ho
      replace hK : Hid (Kept w wr) := hK
      clear ho
      go_wp2
      go_ret
      have hLo := HO.out.2
      refine ⟨.slice pp (2 * l.length) cc, rfl, HO.out.1, HO.out.lat, ?_, ?_, hK.out⟩
      · intro n c' e
        rcases hLo.2 with ⟨hv, h0⟩ | ⟨g, cap, cur, hv, hg, r⟩
        · rw [hv] at e; injection e with _ _ e; omega
        · rw [hv] at e; injection e with e _ _; cases e
      · intro g hg
        rw [sliceBlock_own _ hLo] at hg
        exact (hLo.lt g hg).1
theorem clearOf_b (W H K D : Int) (pv cv xv : Value) (l : List Int) (w : World) (hl : LAt w .i64 cv l) (hn : l.length ≤ 65536) (hB : ∀ x ∈ l, 0 ≤ x ∧ x < 65536) (hB3 : K = 3 → isBytes l) :
    Calls Tryz.prog 50 #[.agg #[.int .i64 W, .int .i64 H, .int .i64 K, .int .i64 D, pv, cv, xv]] w fun r w' => ∃ ov : Value, r = .returned ov ∧ MadeB w w' ov (if K = 3 then l else twoB l) := by
  have hk0 : Kept w (w.alloc (Obj.cells #[Value.int .i64 W, .int .i64 H, .int .i64 K, .int .i64 D, pv, cv, xv] 29)) := Below.alloc (Below.refl _ _) (Nat.le_refl _) _
  have F1 : Hid (K = 3 → Calls Tryz.prog 48 #[cv] (w.alloc (Obj.cells #[Value.int .i64 W, .int .i64 H, .int .i64 K, .int .i64 D, pv, cv, xv] 29)) fun r w' => ∃ ov : Value, r = .returned ov ∧ MadeB (w.alloc (Obj.cells #[Value.int .i64 W, .int .i64 H, .int .i64 K, .int .i64 D, pv, cv, xv] 29)) w' ov l) := fun h3 => singles_b cv l _ (hl.kept hk0) hn (hB3 h3)
  have F2 : Hid (Calls Tryz.prog 77 #[cv] (w.alloc (Obj.cells #[Value.int .i64 W, .int .i64 H, .int .i64 K, .int .i64 D, pv, cv, xv] 29)) fun r w' => ∃ ov : Value, r = .returned ov ∧ MadeB (w.alloc (Obj.cells #[Value.int .i64 W, .int .i64 H, .int .i64 K, .int .i64 D, pv, cv, xv] 29)) w' ov (twoB l)) := pairs_b cv l _ (hl.kept hk0) hn hB
  replace hk0 : Hid _ := hk0
  clear hl hB hB3
  by_cases hK : K = 3
  · subst hK
    rw [if_pos rfl]
    replace F1 := F1.out rfl
    replace F1 : Hid _ := F1
    go_enter Tryz.func50, Tryz.ntmps50
    go_wp2_with fail
    refine Calls.mono F1.out ?_
    rintro r w1 ⟨ov, rfl, h⟩
    go_wp2
    go_ret
    exact ⟨ov, rfl, h.ok, h.lat, h.nn, fun g hg => Nat.le_trans hk0.out.size (h.new g hg), Kept.trans hk0.out h.kept⟩
  · rw [if_neg hK]
    have hK' : (K == 3) = false := by rw [beq_eq_false_iff_ne]; exact hK
    clear hK
    go_enter Tryz.func50, Tryz.ntmps50
    go_wp2_with fail
    refine F2.out.mono ?_
    rintro r w1 ⟨ov, rfl, h⟩
    go_wp2
    go_ret
    exact ⟨ov, rfl, h.ok, h.lat, h.nn, fun g hg => Nat.le_trans hk0.out.size (h.new g hg), Kept.trans hk0.out h.kept⟩
/-- The data in one chunk. -/
theorem wdata_b (x N g o c : Nat) (L : List Int) (S : Nat → Prop) (cv : Value) (l : List Int) (w : World) (h : WrB w x N L S) (hm0 : 0 < L.length) (hm : L.length ≤ 1000000) (hl : LAt w .u8 (.slice (some ⟨g, o, none⟩) l.length c) l) (hB : isBytes l) (hcap : l.length ≤ c) (h0 : 0 < l.length) (hn : l.length ≤ 32768) (hgS : ¬ S g) (hcl : LAt w .i64 cv [32768]) (hcS : ∀ b, sliceBlock cv = some b → ¬ S b) :
    Calls Tryz.prog 51 #[.pointer (some ⟨x, 0, none⟩), .slice (some ⟨g, o, none⟩) l.length c, cv] w fun r w' => r = .returned (.tuple #[]) ∧ PutB x N (L ++ chB idat l) S w w' := by
  obtain ⟨cp, cc, rfl⟩ := hcl.form
  have F1 : Hid (Calls Tryz.prog 71 #[.slice cp 1 cc, .int .i64 0] w fun r w' => r = .returned (.int .i64 32768) ∧ Kept w w') := turns_any (.slice cp 1 cc) [32768] 0 w hcl (by decide) (by decide) (by decide)
  have F2 : Hid (∀ (W : World), Kept w W → Calls Tryz.prog 78 #[.pointer (some ⟨x, 0, none⟩), .slice (some ⟨g, o, none⟩) l.length c] W fun r w' => r = .returned (.tuple #[]) ∧ PutB x N (L ++ chB idat l) S W w') := fun W hk => dataw_b x N L S _ l W (h.kept hk) hm0 (hl.kept hk) hB (fun n' c'' e => by injection e with e _ _; cases e) (fun b hb => by
      have : g = b := by injection hb
      rw [← this]; exact hgS) hm (by omega)
  have F1' : ∃ V : Nat, l.length ≤ V ∧ V ≤ 65536 ∧ Hid (Calls Tryz.prog 71 #[.slice cp 1 cc, .int .i64 0] w fun r w' => r = .returned (.int .i64 (V : Int)) ∧ Kept w w') := ⟨32768, hn, by decide, F1⟩
  clear F1
  obtain ⟨V, hV0, hVb, F1⟩ := F1'
  clear h hl hB hcl hcS
  obtain ⟨Q, hQ⟩ : ∃ Q, l.length = Q := ⟨_, rfl⟩
  rw [hQ] at F2 hV0 h0 hcap ⊢
  clear hn
  have HK0 : Hid (L ++ chB idat l = L ++ chB idat l) := rfl
  obtain ⟨LL, hLL⟩ : ∃ LL, LL = L ++ chB idat l := ⟨_, rfl⟩
  rw [← hLL] at F2 ⊢
  clear hLL HK0 hQ hm0 hm
  show Calls Tryz.prog 51 #[.pointer (some ⟨x, 0, none⟩), .slice (some ⟨g, o, none⟩) Q c, .slice cp 1 cc] w _
  go_enter Tryz.func51, Tryz.ntmps51
  go_wp2
  go_loopw [6, 7] (fun u v W => (u = .int .i64 0 ∧ v = .int .i64 0 ∧ W = w) ∨ (u = .int .i64 1 ∧ v = .int .i64 (Q : Int) ∧ PutB x N LL S w W)) (fun u _ _ => 1 - (intOf u).toNat)
  case atStart => exact Or.inl ⟨rfl, rfl, rfl⟩
  case round =>
    rcases hrel with ⟨rfl, rfl, rfl⟩ | ⟨rfl, rfl, hP⟩
    · have l1 : (0 : Int) < (Q : Int) := by omega
      have hVz : (0 : Int) ≤ (V : Int) := by omega
      by_cases hm' : V = Q
      · subst hm'
        have hmi : (V : Int) ≤ (V : Int) := by omega
        go_wp2_with fail
        refine F1.out.mono ?_
        rintro r w6 ⟨rfl, hk6⟩
        replace hk6 : Hid (Kept wr w6) := hk6
        go_wp2_with fail
        refine (F2.out w6 hk6.out).mono ?_
        rintro r w7 ⟨rfl, hw7⟩
        have HP7 : Hid (PutB x N LL S wr w7) := ⟨hw7.at', (Fr.of_kept hk6.out).trans hw7.fr⟩
        clear hw7
        go_wp2
        exact ⟨Or.inr ⟨rfl, rfl, HP7.out⟩, by simp [intOf]⟩
      · have hmi : ¬ (V : Int) ≤ (Q : Int) := by omega
        have hmi2 : (Q : Int) ≤ (V : Int) := by omega
        go_wp2_with fail
        refine F1.out.mono ?_
        rintro r w6 ⟨rfl, hk6⟩
        replace hk6 : Hid (Kept wr w6) := hk6
        go_wp2_with fail
        refine (F2.out w6 hk6.out).mono ?_
        rintro r w7 ⟨rfl, hw7⟩
        have HP7 : Hid (PutB x N LL S wr w7) := ⟨hw7.at', (Fr.of_kept hk6.out).trans hw7.fr⟩
        clear hw7
        go_wp2
        exact ⟨Or.inr ⟨rfl, rfl, HP7.out⟩, by simp [intOf]⟩
    · replace hP : Hid _ := hP
      go_wp2
      go_end0
      exact ⟨rfl, hP.out⟩
end Go.Proofs.YtkokiflklgbhfaaGreatDoor
