import Derived.Test.YtdnpefabcholbaaGreatR5
import Derived.Test.YtdnpefabcholbaaGreatR6
import Derived.Test.YtdnpefabcholbaaGreatR7a
import Derived.Test.YtdnpefabcholbaaGreatR7b
import Derived.Test.YtdnpefabcholbaaGreatR9c
import Derived.Test.YtdnpefabcholbaaGreatR10
namespace Go.Proofs.YtdnpefabcholbaaGreat
open Go.RowKit
set_option linter.unusedSimpArgs false
set_option linter.unusedVariables false

structure FOk (f : Px.Fl) : Prop where
  K : kindOk f.hd.K
  D : f.hd.D ≤ 16
  W : f.hd.W ≤ 16
  H : f.hd.H ≤ 16
  P : f.palN ≤ 1048576

set_option maxRecDepth 100000 in
set_option maxHeartbeats 800000 in
theorem bad_any (b : Nat) (k : ByteArray) (n : Nat) (w : World) (hk : k.size = 4) (ha : allL k = false) :
    Calls Tryz.prog 69 #[.pointer (some ⟨b, 0, none⟩), .string k, .int .i64 (n : Int)] w fun r w' => r = .returned (.int .i64 ((3 : Nat) : Int)) ∧ w' = w := by
  go_enter Tryz.func69, Tryz.ntmps69
  go_wp2_with (go_at_call 92; refine (lettered_any _ _ hk).mono ?_; rintro r w' ⟨rfl, rfl⟩)
  go_ret
  exact ⟨rfl, rfl⟩

theorem begins_any (b : Nat) (f : Px.Fl) (e a : Nat) (k : ByteArray) (n : Nat) (w : World) (h : FlAt w b f e a) (ho : FOk f) (hk : k.size = 4) (hi : ty k ≠ Px.idat) (hn : n < 2147483648) :
    Calls Tryz.prog 69 #[.pointer (some ⟨b, 0, none⟩), .string k, .int .i64 (n : Int)] w fun r w' => r = .returned (.int .i64 (f.begins (ty k) n : Int)) ∧ FlAt w' b (if f.begins (ty k) n = 0 then { f with first := true } else f) e a ∧ Oth b w w' := by
  cases hf : f.first
  · exact begins_first b f e a k n w h hk hf
  · have hsame : (if f.begins (ty k) n = 0 then { f with first := true } else f) = f := by
      split
      · cases f; simp at hf; subst hf; rfl
      · rfl
    rw [hsame]
    have c13 := h.c13
    rw [hf] at c13
    obtain ⟨pa, pc, c8⟩ := h.c8
    have tb := ty_tyB k hk
    have t4 := ty_idat k hk
    rw [decide_eq_false hi] at t4
    have fin : ∀ {V : Nat}, V = f.begins (ty k) n → Calls Tryz.prog 69 #[.pointer (some ⟨b, 0, none⟩), .string k, .int .i64 (n : Int)] w (fun r w' => r = .returned (.int .i64 (V : Int)) ∧ w' = w) →
        Calls Tryz.prog 69 #[.pointer (some ⟨b, 0, none⟩), .string k, .int .i64 (n : Int)] w fun r w' => r = .returned (.int .i64 (f.begins (ty k) n : Int)) ∧ FlAt w' b f e a ∧ Oth b w w' := by
      intro V hV hc
      refine hc.mono ?_
      rintro r w' ⟨rfl, rfl⟩
      exact ⟨by rw [hV], h, Oth.refl _ _⟩
    cases ha : allL k
    · refine fin (V := 3) ?_ ?_
      · unfold Px.Fl.begins; rw [tb, if_pos ha]
      · exact bad_any b k n w hk ha
    · have hg : Px.capB (ty k / 16777216 % 256) = Px.capB (gb k 0) := by
        rw [ty_eq k hk]
        have h0 := gb_lt k 0
        have h1 := gb_lt k 1
        have h2 := gb_lt k 2
        have h3 := gb_lt k 3
        congr 1
        omega
      have t1 := ty_ihdr k hk
      have t2 := ty_plte k hk
      have t3 := ty_trns k hk
      have t5 := ty_iend k hk
      obtain ⟨V, hV⟩ : ∃ V, V = f.begins (ty k) n := ⟨_, rfl⟩
      have hq := hV
      unfold Px.Fl.begins at hq
      rw [tb, if_neg (by rw [ha]; decide), if_neg (by rw [hf]; decide), hg] at hq
      by_cases e1 : ty k = Px.ihdr
      · rw [if_pos e1] at hq
        have x2 : ty k ≠ Px.plte := by rw [e1]; decide
        have x3 : ty k ≠ Px.trns := by rw [e1]; decide
        have x5 : ty k ≠ Px.iend := by rw [e1]; decide
        rw [decide_eq_true e1] at t1
        rw [decide_eq_false x2] at t2
        rw [decide_eq_false x3] at t3
        rw [decide_eq_false x5] at t5
        exact fin hV (bx_ihdr b k n w hk ha hn _ _ _ _ _ pa pc ho.D ho.P ho.K c13 h.c11 h.c4 h.c3 h.c6 h.c7 c8 t1 t2 t3 t4 t5 _ hq)
      · rw [if_neg e1] at hq
        rw [decide_eq_false e1] at t1
        by_cases e2 : ty k = Px.plte
        · rw [if_pos e2] at hq
          have x3 : ty k ≠ Px.trns := by rw [e2]; decide
          have x5 : ty k ≠ Px.iend := by rw [e2]; decide
          rw [decide_eq_true e2] at t2
          rw [decide_eq_false x3] at t3
          rw [decide_eq_false x5] at t5
          exact fin hV (bx_plte b k n w hk ha hn _ _ _ _ _ pa pc ho.D ho.P ho.K c13 h.c11 h.c4 h.c3 h.c6 h.c7 c8 t1 t2 t3 t4 t5 _ hq)
        · rw [if_neg e2] at hq
          rw [decide_eq_false e2] at t2
          by_cases e3 : ty k = Px.trns
          · rw [if_pos e3] at hq
            have x5 : ty k ≠ Px.iend := by rw [e3]; decide
            rw [decide_eq_true e3] at t3
            rw [decide_eq_false x5] at t5
            by_cases hb : f.hasClear = true ∨ (f.hd.K = 4 ∨ f.hd.K = 6) ∨ (f.hd.K = 3 ∧ f.hasPal = false)
            · exact fin hV (bx_trns4 b k n w hk ha hn _ _ _ _ _ pa pc ho.D ho.P ho.K c13 h.c11 h.c4 h.c3 h.c6 h.c7 c8 t1 t2 t3 t4 t5 _ hb hq)
            · exact fin hV (bx_trns5 b k n w hk ha hn _ _ _ _ _ pa pc ho.D ho.P ho.K c13 h.c11 h.c4 h.c3 h.c6 h.c7 c8 t1 t2 t3 t4 t5 _ hb hq)
          · rw [if_neg e3] at hq
            rw [decide_eq_false e3] at t3
            by_cases e5 : ty k = Px.iend
            · rw [if_pos e5] at hq
              rw [decide_eq_true e5] at t5
              exact fin hV (bx_iend b k n w hk ha hn _ _ _ _ _ pa pc ho.D ho.P ho.K c13 h.c11 h.c4 h.c3 h.c6 h.c7 c8 t1 t2 t3 t4 t5 _ hq)
            · rw [if_neg e5] at hq
              rw [decide_eq_false e5] at t5
              exact fin hV (bx_else b k n w hk ha hn _ _ _ _ _ pa pc ho.D ho.P ho.K c13 h.c11 h.c4 h.c3 h.c6 h.c7 c8 t1 t2 t3 t4 t5 _ hq)

theorem ends_any (b : Nat) (f : Px.Fl) (e a : Nat) (k d : ByteArray) (w : World) (h : FlAt w b f e a) (ho : FOk f) (hk : k.size = 4) (h5 : ty k ≠ Px.iend) (hd : d.size ≤ 1048576) (h1 : ty k = Px.ihdr → d.size = 13) (h3 : ty k = Px.trns → f.hd.K ≠ 3 → d.size % 2 = 0) :
    Calls Tryz.prog 71 #[.pointer (some ⟨b, 0, none⟩), .string k, .string d] w fun r w' => r = .returned (.int .i64 ((f.ends (ty k) (bsOf d)).2 : Int)) ∧ FlAt w' b (f.ends (ty k) (bsOf d)).1 e a ∧ Oth b w w' := by
  have t1 := ty_ihdr k hk
  have t2 := ty_plte k hk
  have t3 := ty_trns k hk
  have t5 := ty_iend k hk
  rw [decide_eq_false h5] at t5
  by_cases e1 : ty k = Px.ihdr
  · rw [decide_eq_true e1] at t1
    refine (ends_ihdr b f e a k d w h t1 (h1 e1)).mono ?_
    rintro r w' ⟨rfl, hf, hw⟩
    have hq : f.ends (ty k) (bsOf d) = if (Px.headOf (gb d)).1 ≠ 0 then (f, (Px.headOf (gb d)).1) else ({ f with on := true, hd := (Px.headOf (gb d)).2 }, 0) := by
      unfold Px.Fl.ends; rw [if_pos e1]; rfl
    by_cases hz : (Px.headOf (gb d)).1 ≠ 0
    · rw [if_pos hz] at hq hf; rw [hq]; exact ⟨rfl, hf, hw⟩
    · rw [if_neg hz] at hq hf; rw [hq]; refine ⟨?_, hf, hw⟩; rw [show (Px.headOf (gb d)).1 = 0 from by omega]
  · rw [decide_eq_false e1] at t1
    by_cases e2 : ty k = Px.plte
    · rw [decide_eq_true e2] at t2
      have hq : f.ends (ty k) (bsOf d) = ({ f with hasPal := true, palN := d.size }, 0) := by
        unfold Px.Fl.ends; rw [if_neg e1, if_pos e2, bsOf_length]
      rw [hq]
      exact ends_plte b f e a k d w h hd t1 t2
    · rw [decide_eq_false e2] at t2
      by_cases e3 : ty k = Px.trns
      · rw [decide_eq_true e3] at t3
        have hq : f.ends (ty k) (bsOf d) = if f.hd.K ≠ 3 ∧ Px.pairsBad f.hd.D (bsOf d) = true then (f, 9) else ({ f with hasClear := true }, 0) := by
          unfold Px.Fl.ends; rw [if_neg e1, if_neg e2, if_pos e3]
        by_cases hK : f.hd.K = 3
        · rw [if_neg (fun h => h.1 hK)] at hq
          rw [hq]
          exact ends_trns3 b f e a k d w h hd hK t1 t2 t3
        · refine (ends_trnsN b f e a k d w h hd (h3 e3 hK) hK ho.D t1 t2 t3).mono ?_
          rintro r w' (⟨rfl, hb, rfl⟩ | ⟨rfl, hb, hf, hw⟩)
          · rw [if_pos ⟨hK, hb⟩] at hq; rw [hq]; exact ⟨rfl, h, Oth.refl _ _⟩
          · rw [if_neg (by rw [hb]; simp)] at hq; rw [hq]; exact ⟨rfl, hf, hw⟩
      · rw [decide_eq_false e3] at t3
        have hq : f.ends (ty k) (bsOf d) = (f, 0) := by unfold Px.Fl.ends; rw [if_neg e1, if_neg e2, if_neg e3]
        rw [hq]
        refine (ends_else b k d w t1 t2 t3 t5).mono ?_
        rintro r w' ⟨rfl, rfl⟩
        exact ⟨rfl, h, Oth.refl _ _⟩
end Go.Proofs.YtdnpefabcholbaaGreat
