import Derived.Test.YtdnpefabcholbaaGreatW13
set_option linter.unusedSimpArgs false
set_option linter.unusedVariables false
namespace Go.Proofs.YtdnpefabcholbaaGreat
open Go.RowKit

theorem take_snoc' (s : ByteArray) (k : Nat) (h : k < s.size) : (bsOf s).take (k + 1) = (bsOf s).take k ++ [s[k].toNat] := by
  rw [List.take_succ_eq_append_getElem (by rw [bsOf_length]; exact h), bsOf_get s k h]

set_option maxHeartbeats 1600000 in
theorem feed_any (b : Nat) (d : Px.Dec) (t : ByteArray) (w : World) (h : DecAt w b d) (hv : DInv d) (hc : cleanD d (bsOf t)) (hs : t.size ≤ 1048576) (hn : d.count ≤ 1048576) :
    Calls Tryz.prog 12 #[.pointer (some ⟨b, 0, none⟩), .string t] w fun e w' => e = .returned (.tuple #[.int .i64 ((d.feed (bsOf t)).err : Int), .int .i64 ((d.feed (bsOf t)).at' : Int)]) ∧ DecAt w' b (d.feed (bsOf t)) ∧ Oth b w w' := by
  have HC : Hid (cleanD d (bsOf t)) := hc
  have HV : Hid (∀ k, DInv (d.feed ((bsOf t).take k))) := fun k => feed_inv hv _ (fun x hx => bsOf_lt t x (List.mem_of_mem_take hx)) (cleanD_snoc hc k)
  have HN : Hid (∀ k, k ≤ t.size → (d.feed ((bsOf t).take k)).count ≤ 1048576 + k) := by
    intro k hk
    have := @feed_count d ((bsOf t).take k)
    have h2 := List.length_take_le k (bsOf t)
    omega
  clear hc hv
  go_enter Tryz.func12, Tryz.ntmps12
  go_wp2
  go_loopw [6] (fun i W => ∃ k : Nat, k ≤ t.size ∧ i = .int .i64 k ∧ DecAt W b (d.feed ((bsOf t).take k)) ∧ Oth b w W) (fun i _ => t.size - (intOf i).toNat)
  case atStart => exact ⟨0, by omega, rfl, h, Oth.refl _ _⟩
  case round =>
    obtain ⟨k, hk, rfl, hd, hw⟩ := hrel
    clear h
    by_cases hlt : k < t.size
    · have hts := take_snoc' t k hlt
      have hfs : d.feed ((bsOf t).take (k + 1)) = (d.feed ((bsOf t).take k)).one t[k].toNat := by rw [hts, feed_snoc]
      have HF : Hid (d.feed ((bsOf t).take (k + 1)) = (d.feed ((bsOf t).take k)).one t[k].toNat) := hfs
      clear hts hfs
      have hv := HV.out k
      have hn := HN.out k hk
      have hstep := cleanD_take HC.out k (by rw [bsOf_length]; exact hlt)
      rw [bsOf_get t k hlt] at hstep
      generalize hD : d.feed ((bsOf t).take k) = D at *
      have c1 := hd.err
      have hlt' : (k : Int) < (t.size : Int) := by omega
      have hx : t[k].toNat < 256 := t[k].toNat_lt
      cases he : ((D.err : Int) == 0)
      · have he0 : D.err ≠ 0 := by rw [beq_eq_false_iff_ne] at he; omega
        have hall : d.feed (bsOf t) = D := by
          have e1 : bsOf t = (bsOf t).take k ++ (bsOf t).drop k := (List.take_append_drop k _).symm
          rw [e1, feed_append, hD, feed_err he0]
        have c2 := hd.at'
        rw [← hall] at c1 c2 hd he
        clear hD hall he0 hstep hv
        go_wp2
        go_quiet (fail)
        go_wp2
        go_ret2
        exact ⟨rfl, hd.drewN _, hw.drewN _⟩
      · have he0 : D.err = 0 := by rw [beq_iff_eq] at he; omega
        have F : Hid (Calls Tryz.prog 22 #[.pointer (some ⟨b, 0, none⟩), .int .u8 (t[k].toNat : Int)] wr.drew fun e w' => e = .returned (.int .i64 ((D.file.take t[k].toNat).2 : Int)) ∧ RdAt w' b (D.file.take t[k].toNat).1 ∧ But b wr.drew w') :=
          take_any b D.file t[k].toNat wr.drew (hd.file.same rfl) hv.inv hx (hstep he0)
        have hone : D.one t[k].toNat = if (D.file.take t[k].toNat).2 ≠ 0 then { D with file := (D.file.take t[k].toNat).1, err := (D.file.take t[k].toNat).2, at' := D.count } else { D with file := (D.file.take t[k].toNat).1, count := D.count + 1 } := by
          unfold Px.Dec.one; rw [if_neg (by omega)]
        generalize hE : (D.file.take t[k].toNat).2 = E at *
        generalize hS : (D.file.take t[k].toNat).1 = S at *
        clear hE hS hstep hv
        have HD : Hid (d.feed ((bsOf t).take k) = D) := hD
        clear hD
        cases hE : ((E : Int) != 0)
        · have hE0 : E = 0 := by rw [bne_eq_false_iff_eq] at hE; omega
          rw [if_neg (by omega)] at hone
          have HO : Hid (D.one t[k].toNat = { D with file := S, count := D.count + 1 }) := hone
          have c0 := hd.cnt
          clear hone he0 hE0
          go_wp2
          go_region_with (go_at_call 22; refine F.out.mono ?_; rintro e w1 ⟨rfl, h1, hb1⟩)
          have h2 : DecAt w1 b { D with file := S } := DecAt.but (w := wr.drew) (hd.same rfl) hb1 h1
          have c3 := h2.cnt
          have hf := h2.file.fz
          clear c0 c1
          go_wp2
          have hw1 : Oth b w w1 := Oth.but (y := wr.drew) (hw.kept ((Below.refl _ _).drew)) hb1
          have h3 := h2.set_count (D.count + 1)
          refine ⟨⟨k + 1, by omega, by go_num, ?_, hw1.setCell _ _⟩, by simp [intOf]; omega⟩
          rw [HF.out, HO.out]
          exact h3
        · have hE0 : E ≠ 0 := by rw [bne_iff_ne] at hE; omega
          rw [if_pos hE0] at hone
          have hall : d.feed (bsOf t) = { D with file := S, err := E, at' := D.count } := by
            have e1 : bsOf t = (bsOf t).take (k + 1) ++ (bsOf t).drop (k + 1) := (List.take_append_drop (k + 1) _).symm
            rw [e1, feed_append, HF.out, hone, feed_err hE0]
          have HA : Hid (d.feed (bsOf t) = { D with file := S, err := E, at' := D.count }) := hall
          clear hone he0 hE0 hall
          go_wp2
          go_region_with (go_at_call 22; refine F.out.mono ?_; rintro e w1 ⟨rfl, h1, hb1⟩)
          have h2 : DecAt w1 b { D with file := S } := DecAt.but (w := wr.drew) (hd.same rfl) hb1 h1
          have hw1 : Oth b w w1 := Oth.but (y := wr.drew) (hw.kept ((Below.refl _ _).drew)) hb1
          clear c1
          go_wp2_with fail
          refine (fail_any b { D with file := S } E _ h2).mono ?_
          rintro e w2 ⟨rfl, h3, hb3⟩
          have h4 : DecAt w2 b (d.feed (bsOf t)) := by rw [HA.out]; exact h3
          have c4 := h4.err
          have c5 := h4.at'
          go_wp2
          go_quiet (fail)
          go_wp2
          go_ret2
          exact ⟨rfl, h4.drewN _, (hw1.trans hb3).drewN _⟩
    · have hall : (bsOf t).take k = bsOf t := List.take_of_length_le (by rw [bsOf_length]; omega)
      rw [hall] at hd
      have c1 := hd.err
      have c2 := hd.at'
      go_wp2
      go_quiet (fail)
      go_wp2
      go_ret2
      exact ⟨rfl, hd.drewN _, hw.drewN _⟩
end Go.Proofs.YtdnpefabcholbaaGreat
