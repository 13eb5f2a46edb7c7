import Derived.Test.YtdnpefabcholbaaGreatR13
import Derived.Test.YtdnpefabcholbaaGreatW12
namespace Go.Proofs.YtdnpefabcholbaaGreat
open Go.RowKit
set_option linter.unusedSimpArgs false
set_option linter.unusedVariables false

theorem legal_kind {k d : Nat} (h : Px.legal k d = true) : kindOk k := by
  unfold Px.legal at h
  unfold kindOk
  (repeat' split at h)
  all_goals first | omega | (simp at h)
theorem headOf_kind (d : Nat → Nat) (h : (Px.headOf d).1 = 0) : kindOk (Px.headOf d).2.K ∧ 1 ≤ (Px.headOf d).2.W ∧ 1 ≤ (Px.headOf d).2.H := by
  rw [headOf_eq] at h ⊢
  by_cases h1 : wN d = 0 ∨ hN d = 0 ∨ 2147483648 ≤ wN d ∨ 2147483648 ≤ hN d ∨ Px.legal (d 9) (d 8) = false
  · rw [if_pos h1] at h; simp at h
  · rw [if_neg h1] at h ⊢
    by_cases h2 : d 10 ≠ 0 ∨ d 11 ≠ 0 ∨ 1 < d 12
    · rw [if_pos h2] at h; simp at h
    · rw [if_neg h2] at h ⊢
      by_cases h3 : 16 < wN d ∨ 16 < hN d
      · rw [if_pos h3] at h; simp at h
      · rw [if_neg h3]
        have hl : Px.legal (d 9) (d 8) = true := by
          cases hh : Px.legal (d 9) (d 8)
          · exact absurd (Or.inr (Or.inr (Or.inr (Or.inr hh)))) h1
          · rfl
        exact ⟨legal_kind hl, by show 1 ≤ wN d; omega, by show 1 ≤ hN d; omega⟩

theorem ends_fok {f : Px.Fl} (h : FOk f) (k : Nat) (d : List Nat) (hd : d.length ≤ 1048576) : FOk (f.ends k d).1 := by
  unfold Px.Fl.ends
  have hh := headOf_ok (fun i => d.getD i 0)
  (repeat' split)
  · exact h
  · rename_i a b
    have := headOf_kind (fun i => d.getD i 0) (by omega)
    exact ⟨this.1, hh.2.2.1, hh.1, hh.2.1, h.P⟩
  · exact ⟨h.K, h.D, h.W, h.H, hd⟩
  · exact h
  · exact ⟨h.K, h.D, h.W, h.H, h.P⟩
  · exact h

theorem drop_seg (t : ByteArray) (i j n : Nat) : (((bsOf t).drop i).drop j).take n = seg t (i + j) n := by unfold seg; rw [List.drop_drop]

/-- What begins has let by. -/
theorem begins_ihdr {f : Px.Fl} {n : Nat} (h : f.begins Px.ihdr n = 0) : n = 13 := by
  unfold Px.Fl.begins at h
  rw [if_neg (by decide)] at h
  cases hf : f.first
  · rw [hf, if_pos rfl, if_neg (by simp)] at h; split at h <;> omega
  · rw [hf, if_neg (by decide), if_pos rfl] at h; omega
theorem begins_iend {f : Px.Fl} {n : Nat} : f.begins Px.iend n ≠ 0 := by
  unfold Px.Fl.begins
  rw [if_neg (by decide)]
  cases hf : f.first
  · rw [if_pos rfl, if_pos (by decide)]; decide
  · rw [if_neg (by decide), if_neg (by decide), if_neg (by decide), if_neg (by decide), if_pos rfl]; decide
theorem begins_trns {f : Px.Fl} {n : Nat} (h : f.begins Px.trns n = 0) (hK : f.hd.K ≠ 3) : n % 2 = 0 := by
  unfold Px.Fl.begins at h
  rw [if_neg (by decide)] at h
  cases hf : f.first
  · rw [hf, if_pos rfl, if_pos (by decide)] at h; omega
  · rw [hf, if_neg (by decide), if_neg (by decide), if_neg (by decide), if_pos rfl] at h
    by_cases h1 : f.hasClear = true ∨ (f.hd.K = 4 ∨ f.hd.K = 6) ∨ (f.hd.K = 3 ∧ f.hasPal = false)
    · rw [if_pos h1] at h; omega
    · rw [if_neg h1, if_neg (fun h => hK h.1)] at h
      by_cases h2 : f.hd.K ≠ 3 ∧ n ≠ 2 * (if f.hd.K = 2 then 3 else if f.hd.K = 4 then 2 else if f.hd.K = 6 then 4 else 1)
      · rw [if_pos h2] at h; omega
      · have : n = 2 * (if f.hd.K = 2 then 3 else if f.hd.K = 4 then 2 else if f.hd.K = 6 then 4 else 1) := by
          apply Classical.byContradiction; intro hc; exact h2 ⟨hK, hc⟩
        omega

theorem chunk_any (b : Nat) (f : Px.Fl) (t : ByteArray) (i : Nat) (w : World) (h : FlAt w b f 0 0) (ho : FOk f) (hs : t.size ≤ 1048576) (hi : i ≤ t.size)
    (hno : i + 8 ≤ t.size → ty (t.extract (i + 4) (i + 8)) ≠ Px.idat) :
    Calls Tryz.prog 41 #[.pointer (some ⟨b, 0, none⟩), .string t, .int .i64 (i : Int)] w fun r w' =>
      r = .returned (.tuple #[.int .i64 ((i + (f.chunk ((bsOf t).drop i)).took : Nat) : Int), .bool (decide ((f.chunk ((bsOf t).drop i)).took ≠ 0))])
      ∧ FlAt w' b (f.chunk ((bsOf t).drop i)).f (f.chunk ((bsOf t).drop i)).err (if (f.chunk ((bsOf t).drop i)).err = 0 then 0 else i + (f.chunk ((bsOf t).drop i)).at') ∧ Oth b w w' := by
  have hl : ((bsOf t).drop i).length = t.size - i := by rw [List.length_drop, bsOf_length]
  obtain ⟨c, hc⟩ : ∃ c, c = f.chunk ((bsOf t).drop i) := ⟨_, rfl⟩
  rw [← hc]
  unfold Px.Fl.chunk at hc
  simp only [hl] at hc
  have e0 : ((bsOf t).drop i).take 4 = seg t i 4 := rfl
  rw [e0, drop_seg, drop_seg] at hc
  by_cases g4 : t.size - i < 4
  · rw [if_pos g4] at hc
    subst hc
    refine (chunk_no4 b t i w (by omega) hs (by omega)).mono ?_
    rintro r w' ⟨rfl, rfl⟩
    exact ⟨rfl, h, Oth.refl _ _⟩
  · rw [if_neg g4] at hc
    have F : Hid (∀ W, Calls Tryz.prog 68 #[.string t, .int .i64 (i : Int), .int .i64 4] W fun r w' => r = .returned (.int .i64 ((Px.numb (seg t i 4) : Nat) : Int)) ∧ w' = W) := fun W => num_any t i 4 W (by omega) (by omega) hs
    generalize Px.numb (seg t i 4) = n at *
    by_cases gn : 2147483648 ≤ n
    · rw [if_pos gn] at hc
      subst hc
      refine (chunk_len b f t i n w h (by omega) hs F (decide_eq_true (by omega))).mono ?_
      rintro r w' ⟨rfl, h1, hw⟩
      exact ⟨rfl, h1, hw⟩
    · rw [if_neg gn] at hc
      have hnd : decide ((2147483648 : Int) ≤ (n : Int)) = false := decide_eq_false (by omega)
      by_cases g8 : t.size - i < 8
      · rw [if_pos g8] at hc
        subst hc
        refine (chunk_no8 b t i n w (by omega) (by omega) hs F hnd).mono ?_
        rintro r w' ⟨rfl, rfl⟩
        exact ⟨rfl, h, Oth.refl _ _⟩
      · rw [if_neg g8] at hc
        have hks := kd_size t i (by omega)
        have hkt := kd_ty t i
        unfold kd at hks hkt
        rw [← hkt] at hc
        have hno' := hno (by omega)
        have G := begins_any b f 0 0 (t.extract (i + 4) (i + 8)) n w h ho hks hno' (by omega)
        have t4 := ty_idat _ hks
        rw [decide_eq_false hno'] at t4
        by_cases gb0 : f.begins (ty (t.extract (i + 4) (i + 8))) n = 0
        · rw [if_neg (by omega)] at hc
          rw [gb0, if_pos rfl] at G
          have ho1 : FOk { f with first := true } := ⟨ho.K, ho.D, ho.W, ho.H, ho.P⟩
          by_cases ge : t.size - i < 8 + n + 4
          · rw [if_pos ge] at hc
            subst hc
            refine (chunk_cut b _ t i n w (by omega) (by omega) hs (by omega) F hnd G t4 (by omega)).mono ?_
            rintro r w' ⟨rfl, h1, hw⟩
            exact ⟨rfl, h1, hw⟩
          · rw [if_neg ge] at hc
            have F2 : Hid (∀ W, Calls Tryz.prog 70 #[.string (t.extract (i + 4) (i + 8 + n))] W fun r w' => r = .returned (.int .i64 ((Px.crcEnd (Px.crcL Px.crcStart (seg t (i + 4) (4 + n))) : Nat) : Int)) ∧ w' = W) := fun W => by
              have := crc_any (t.extract (i + 4) (i + 8 + n)) W (by rw [size_extract t _ _ (by omega) (by omega)]; omega)
              rw [bsOf_seg, show i + 8 + n - (i + 4) = 4 + n from by omega] at this; exact this
            have F3 : Hid (∀ W, Calls Tryz.prog 68 #[.string t, .int .i64 ((i : Int) + 8 + (n : Int)), .int .i64 4] W fun r w' => r = .returned (.int .i64 ((Px.numb (seg t (i + (8 + n)) 4) : Nat) : Int)) ∧ w' = W) := fun W => by
              have := num_any t (i + (8 + n)) 4 W (by omega) (by omega) hs
              rw [show ((i + (8 + n) : Nat) : Int) = (i : Int) + 8 + (n : Int) from by omega] at this; exact this
            rw [drop_seg, drop_seg] at hc
            generalize Px.crcEnd (Px.crcL Px.crcStart (seg t (i + 4) (4 + n))) = C at *
            generalize Px.numb (seg t (i + (8 + n)) 4) = M at *
            by_cases gc : C = M
            · rw [if_neg (by simpa using gc)] at hc
              have hds : (t.extract (i + 8) (i + 8 + n)).size = n := by rw [size_extract t _ _ (by omega) (by omega)]; omega
              have hdb : bsOf (t.extract (i + 8) (i + 8 + n)) = seg t (i + 8) n := by rw [bsOf_seg, show i + 8 + n - (i + 8) = n from by omega]
              have G2 : Hid (∀ W, FlAt W b { f with first := true } 0 0 → Calls Tryz.prog 71 #[.pointer (some ⟨b, 0, none⟩), .string (t.extract (i + 4) (i + 8)), .string (t.extract (i + 8) (i + 8 + n))] W fun r w' => r = .returned (.int .i64 ((({ f with first := true } : Px.Fl).ends (ty (t.extract (i + 4) (i + 8))) (seg t (i + 8) n)).2 : Int)) ∧ FlAt w' b (({ f with first := true } : Px.Fl).ends (ty (t.extract (i + 4) (i + 8))) (seg t (i + 8) n)).1 0 0 ∧ Oth b W w') := fun W hW => by
                have := ends_any b { f with first := true } 0 0 (t.extract (i + 4) (i + 8)) (t.extract (i + 8) (i + 8 + n)) W hW ho1 hks (fun e => begins_iend (f := f) (by rw [← e]; exact gb0)) (by omega) (fun e => by rw [hds]; exact begins_ihdr (f := f) (by rw [← e]; exact gb0)) (fun e hK => by rw [hds]; exact begins_trns (f := f) (by rw [← e]; exact gb0) hK)
                rw [hdb] at this; exact this
              generalize ({ f with first := true } : Px.Fl).ends (ty (t.extract (i + 4) (i + 8))) (seg t (i + 8) n) = E at *
              have hcm : ((C : Int) != (M : Int)) = false := by rw [bne_eq_false_iff_eq]; omega
              by_cases gv : E.2 = 0
              · rw [if_neg (by omega)] at hc
                subst hc
                refine (chunk_ok b _ t i n w (by omega) (by omega) hs (by omega) F hnd G t4 (by omega) C M F2 F3 hcm E.1 E.2 G2 (by rw [bne_eq_false_iff_eq]; omega)).mono ?_
                rintro r w' ⟨rfl, h1, hw⟩
                refine ⟨?_, h1, hw⟩
                rw [decide_eq_true (by show 12 + n ≠ 0; omega)]
              · rw [if_pos gv] at hc
                subst hc
                refine (chunk_ends b _ t i n w (by omega) (by omega) hs (by omega) F hnd G t4 (by omega) C M F2 F3 hcm E.1 E.2 G2 (by rw [bne_iff_ne]; omega)).mono ?_
                rintro r w' ⟨rfl, h1, hw⟩
                refine ⟨rfl, ?_, hw⟩
                rw [if_neg gv]
                rw [show i + (8 + n + 3) = i + 8 + n + 3 from by omega]
                exact h1
            · rw [if_pos gc] at hc
              subst hc
              refine (chunk_crc b _ t i n w (by omega) (by omega) hs (by omega) F hnd G t4 (by omega) C M F2 F3 (by rw [bne_iff_ne]; omega)).mono ?_
              rintro r w' ⟨rfl, h1, hw⟩
              refine ⟨rfl, ?_, hw⟩
              show FlAt w' b _ 6 (i + (8 + n + 3))
              rw [show i + (8 + n + 3) = i + 8 + n + 3 from by omega]
              exact h1
        · rw [if_pos gb0] at hc
          rw [if_neg gb0] at G
          subst hc
          refine (chunk_begins b f f t i n (f.begins (ty (t.extract (i + 4) (i + 8))) n) w (by omega) (by omega) hs F hnd G (by rw [bne_iff_ne]; omega)).mono ?_
          rintro r w' ⟨rfl, h1, hw⟩
          refine ⟨rfl, ?_, hw⟩
          rw [if_neg gb0]
          exact h1
end Go.Proofs.YtdnpefabcholbaaGreat
