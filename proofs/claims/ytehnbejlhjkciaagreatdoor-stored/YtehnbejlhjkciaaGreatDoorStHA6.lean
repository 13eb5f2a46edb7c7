import Derived.Test.YtehnbejlhjkciaaGreatDoorStHA4
import Derived.Lib.SmallJoins
namespace Go.Proofs.YtehnbejlhjkciaaGreatDoor
open Go.RowKit
set_option linter.unusedSimpArgs false
set_option linter.unusedVariables false
theorem made8b (n j : Nat) (h : j < n) : (madeCells #[Value.int .u8 0] n).toList[j]? = some (.int .u8 0) := by
  simp [madeCells, h, Nat.mod_one]
/-- Lengths come back: n bytes in a new block. -/
def LenP (w : World) (n : Nat) (r : Ending) (w' : World) : Prop := ∃ g, r = .returned (.slice (some ⟨g, 0, none⟩) n n) ∧ w.heap.size ≤ g ∧ Rng .u8 256 w' g 0 n
set_option maxRecDepth 100000 in
set_option maxHeartbeats 3200000 in
theorem lengths_any (ov : Value) (l : List Int) (M : Int) (w : World) (hl : LAt w .i64 ov l) (h0 : 0 < l.length) (hn : l.length ≤ 1024) :
    Calls Tryz.prog 80 #[ov, .int .i64 M] w fun r w' => LenP w l.length r w' ∧ Kept w w' := by
  obtain ⟨p, c, rfl⟩ := hl.form
  have HL : Hid (∀ W, Kept w W → LAt W .i64 (.slice p l.length c) l) := fun W k => hl.kept k
  clear hl
  obtain ⟨i0, hi, hz0, hz1, hz2⟩ := info_parts' infoU8
  go_enter Tryz.func80, Tryz.ntmps80
  go_wp2_with (refine wpList_make_full _ rfl _ _ 61 rfl w.heap.size 5 i0 (.int .u8 0) 1 Tryz.underlying61 hi hz0 hz1 .i64 .i64 (l.length : Int) (l.length : Int) l.length rfl rfl rfl rfl (by rw [hz2]; omega) (by unfold maxLen; omega) (Nat.le_refl _) ?_)
  intro w1 ho1 hg1
  have hK1 : Hid (Kept w w1) := ⟨hg1.os, hg1.tape, hg1.output, hg1.size, fun k hk => hg1.block k hk (by simp)⟩
  have hF1 : Hid (∀ k, w1.frozen? ⟨w.heap.size, k, none⟩ = false) := by
    rcases ho1.2 with ⟨hv, h0⟩ | ⟨g, cap, cur, hv, hg, hh, r⟩
    · cases hv
    · injection hv with hv _ _
      injection hv with hv
      injection hv with hv _ _
      rw [← hv] at hh
      exact fun k => Joins.unfrozen_of_block hh k
  have hR1 : Hid (Rng .u8 256 w1 w.heap.size 0 l.length) := by
    intro j hj
    refine ⟨0, by omega, by omega, ?_⟩
    have := ho1.cells rfl j _ (made8b l.length j hj)
    rw [Addr.add_mid] at this
    exact this
  have hlt1 : w.heap.size < w1.heap.size := by
    obtain ⟨z, _, _, hz⟩ := hR1.out 0 h0
    exact World.block_lt_of_cell? _ _ hz
  clear ho1 hg1 hi hz0 hz1 hz2
  go_wp2_with fail
  refine (sorted_any (.slice p l.length c) l w1 (HL.out w1 hK1.out) hn).mono ?_
  rintro r w2 ⟨⟨lv, m, rfl, hm, hOL⟩, hk2⟩
  have HLF : Hid (∀ W, Fr1 w.heap.size w2 W → LfAt W lv m l.length) := fun W f => by
    obtain ⟨xs, o, hx⟩ := hOL
    exact (OwnLf.at ⟨xs, o, hx⟩).frS f (fun g e q => by have := (o.lt g e).1; omega)
  obtain ⟨p6, c6, rfl⟩ := hOL.at.form
  have hK2 : Hid (Kept w w2) := hK1.out.trans hk2
  have hR2 : Hid (Rng .u8 256 w2 w.heap.size 0 l.length) := hR1.out.kept hk2
  have hF2 : Hid (∀ k, w2.frozen? ⟨w.heap.size, k, none⟩ = false) := fun k => (hk2.frozen (p := ⟨w.heap.size, k, none⟩) hlt1).trans (hF1.out k)
  have hlt2 : w.heap.size < w2.heap.size := Nat.lt_of_lt_of_le hlt1 hk2.size
  clear hOL hk2 hK1 hF1 hR1 HL
  by_cases c1 : m = 1
  · subst c1
    obtain ⟨g, s, z, rfl, hs, y0, y1⟩ := (HLF.out w2 (Fr1.refl _ _)).often (i := 0) (by omega)
    rw [Nat.zero_mul] at y0
    obtain ⟨z2, _, _, hc⟩ := hR2.out s hs
    rw [Nat.zero_add] at hc
    have f1 := hF2.out s
    have s0 : (0 : Int) ≤ (s : Int) := by omega
    have s1 : (s : Int) < (l.length : Int) := by omega
    go_wp2
    go_ret
    exact ⟨⟨w.heap.size, rfl, Nat.le_refl _, hR2.out.set s 1 (by omega) (by omega)⟩, hK2.out.setCell (by simp) _⟩
  · have c1' : ¬ (m : Int) = 1 := by omega
    have c1'' : ((m : Int) == 1) = false := by rw [beq_eq_false_iff_ne]; exact c1'
    go_wp2_with fail
    refine (rowsof_any (.slice p6 m c6) m l.length M w2 (HLF.out w2 (Fr1.refl _ _)) (by omega)).mono ?_
    rintro r w3 ⟨⟨rv, q, rfl, hq, hRW⟩, hk3⟩
    obtain ⟨p7, c7, rfl⟩ := hRW.form
    have HRW : Hid (∀ W, Fr1 w.heap.size w3 W → RwsAt W w2.heap.size (.slice p7 q c7) q (2 * m)) := fun W f => hRW.frS f (fun g e => by omega)
    have HLF3 : Hid (∀ W, Fr1 w.heap.size w3 W → LfAt W (.slice p6 m c6) m l.length) := fun W f => HLF.out W ((Fr.of_kept hk3).trans f)
    have hK3 : Hid (Kept w w3) := hK2.out.trans hk3
    have hR3 : Hid (Rng .u8 256 w3 w.heap.size 0 l.length) := hR2.out.kept hk3
    have hF3 : Hid (∀ k, w3.frozen? ⟨w.heap.size, k, none⟩ = false) := fun k => (hk3.frozen (p := ⟨w.heap.size, k, none⟩) hlt2).trans (hF2.out k)
    clear hRW hk3 HLF hR2 hF2 hK2
    go_wp2
    go_loopw [8, 9, 10, 11] (fun v8 v9 _ _ W => ∃ (t : Int) (b : Nat), b ≤ q ∧ v8 = .int .i64 t ∧ v9 = .int .i64 ((b : Int) - 1) ∧ Rng .u8 256 W w.heap.size 0 l.length ∧ (∀ k, W.frozen? ⟨w.heap.size, k, none⟩ = false) ∧ Fr1 w.heap.size w3 W) (fun _ v9 _ _ _ => (intOf v9 + 1).toNat)
    case atStart => exact ⟨_, q, Nat.le_refl _, rfl, rfl, hR3.out, hF3.out, Fr1.refl _ _⟩
    case round =>
      obtain ⟨t, b, hb, rfl, rfl, hR, hF, hFr⟩ := hrel
      have HR : Hid (Rng .u8 256 wr w.heap.size 0 l.length) := hR
      have HF : Hid (∀ k, wr.frozen? ⟨w.heap.size, k, none⟩ = false) := hF
      have HFr : Hid (Fr1 w.heap.size w3 wr) := hFr
      clear hR hF hFr hR3 hF3
      by_cases c2 : 0 < b
      · obtain ⟨d, rfl⟩ : ∃ d, b = d + 1 := ⟨b - 1, by omega⟩
        have e1 : ((d + 1 : Nat) : Int) - 1 = (d : Int) := by omega
        rw [e1]
        have e2 : (0 : Int) ≤ (d : Int) := by omega
        have e3 : (d : Int) < (q : Int) := by omega
        obtain ⟨g, c', u, n, e, hN, hn2, hc, hI, hgu⟩ := (HRW.out wr HFr.out).cells d (by omega)
        injection e with e4 _ e5
        subst e4
        subst e5
        have F1 : Hid (Calls Tryz.prog 90 #[u, .int .i64 t] wr fun r w' => LvP t r ∧ Kept wr w') := leavesof_any u n t wr hI (by omega)
        obtain ⟨pu, cu, rfl⟩ := hI.form
        clear hI hgu
        go_wp2_with fail
        refine F1.out.mono ?_
        rintro r w4 ⟨⟨k, hk, rfl⟩, hk4⟩
        have hlt3 : w.heap.size < wr.heap.size := by
          obtain ⟨z, _, _, hz⟩ := HR.out 0 h0
          exact World.block_lt_of_cell? _ _ hz
        have HR4 : Hid (Rng .u8 256 w4 w.heap.size 0 l.length) := HR.out.kept hk4
        have HF4 : Hid (∀ k, w4.frozen? ⟨w.heap.size, k, none⟩ = false) := fun k => (hk4.frozen (p := ⟨w.heap.size, k, none⟩) hlt3).trans (HF.out k)
        have HFr4 : Hid (Fr1 w.heap.size w3 w4) := Fr.kept HFr.out hk4
        clear F1 hk4 HR HF HFr hc hk
        go_wp2_with fail
        go_loopw [11] (fun v11 W => ∃ i : Nat, i ≤ m ∧ v11 = .int .i64 (i : Int) ∧ Rng .u8 256 W w.heap.size 0 l.length ∧ (∀ k, W.frozen? ⟨w.heap.size, k, none⟩ = false) ∧ Fr1 w.heap.size w3 W) (fun v11 _ => m - (intOf v11).toNat)
        case atStart => exact ⟨0, by omega, rfl, HR4.out, HF4.out, HFr4.out⟩
        case round =>
          clear HR4 HF4 HFr4
          obtain ⟨i, hi, rfl, hR, hF, hFr⟩ := hrel
          have HR : Hid (Rng .u8 256 wr w.heap.size 0 l.length) := hR
          have HF : Hid (∀ k, wr.frozen? ⟨w.heap.size, k, none⟩ = false) := hF
          have HFr : Hid (Fr1 w.heap.size w3 wr) := hFr
          by_cases c3 : i < k
          · have c3' : (i : Int) < (k : Int) := by omega
            by_cases c4 : i < m
            · have c4' : (i : Int) < (m : Int) := by omega
              obtain ⟨g2, s, z, rfl, hs, y0, y1⟩ := (HLF3.out wr hFr).often c4
              obtain ⟨z2, z20, z21, hc⟩ := hR s hs
              rw [Nat.zero_add] at hc
              have f1 := hF s
              have s0 : (0 : Int) ≤ (s : Int) := by omega
              have s1 : (s : Int) < (l.length : Int) := by omega
              have i0 : (0 : Int) ≤ (i : Int) := by omega
              clear hR hF hFr y1
              go_wp2
              exact ⟨⟨i + 1, by omega, by go_num, HR.out.set s _ (Int.emod_nonneg _ (by omega)) (Int.emod_lt_of_pos _ (by omega)), fun k => by rw [World.frozen?_setCell]; exact HF.out k, HFr.out.set _ _⟩, by simp [intOf]; omega⟩
            · have c4' : ¬ (i : Int) < (m : Int) := by omega
              clear hR hF hFr
              go_wp2
              exact ⟨⟨_, d, by omega, rfl, rfl, HR.out, HF.out, HFr.out⟩, by simp [intOf]⟩
          · have c3' : ¬ (i : Int) < (k : Int) := by omega
            clear hR hF hFr
            go_wp2
            exact ⟨⟨_, d, by omega, rfl, rfl, HR.out, HF.out, HFr.out⟩, by simp [intOf]⟩
      · have b0 : b = 0 := by omega
        subst b0
        go_wp2
        go_ret
        exact ⟨⟨w.heap.size, rfl, Nat.le_refl _, HR.out⟩, Fr.to_kept hK3.out HFr.out (fun i hi e => by omega)⟩
end Go.Proofs.YtehnbejlhjkciaaGreatDoor
