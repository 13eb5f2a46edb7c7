import Derived.Test.YtkokiflklgbhfaaGreatDoorY7
import Derived.Test.YtkokiflklgbhfaaGreatDoorG7
set_option maxRecDepth 100000
set_option maxHeartbeats 3200000
namespace Go.Proofs.YtkokiflklgbhfaaGreatDoor
open Go.RowKit Px
set_option linter.unusedSimpArgs false
set_option linter.unusedVariables false
/-- The stream of bytes in one stored block. -/
def zStream (V : Nat) (l : List Int) : List Int := [((8 + 16 * V : Nat) : Int), (zFlg V : Int)] ++ stB 1 l ++ beB (adlL 1 l)
theorem stream_b (g o c : Nat) (kv fv cv : Value) (l kl : List Int) (lace srch : Int) (P V : Nat) (w : World) (hl : LAt w .u8 (.slice (some ⟨g, o, none⟩) l.length c) l) (hB : isBytes l) (hcap : l.length ≤ c) (hkl : LAt w .i64 kv kl) (hn : l.length ≤ 32768) (h0 : 0 < l.length) (hk0 : 0 < kl.length) (hk1 : kl.length ≤ 64) (hkk : ∀ x ∈ kl, x = 0) (hp0 : l.length ≤ P) (hp1 : P ≤ 1048576) (hw1 : V ≤ 7) :
    Calls Tryz.prog 44 #[.slice (some ⟨g, o, none⟩) l.length c, .agg #[.int .i64 lace, fv, kv, .int .i64 (P : Int), cv, .int .i64 (V : Int), .int .i64 srch]] w fun r w' => ∃ ov, r = .returned ov ∧ OwnB w' w.heap.size ov (zStream V l) ∧ Kept w w' := by
  have F1 : Hid (∀ w, Calls Tryz.prog 68 #[] w fun r w' => ∃ cs : List Value, r = .returned (.agg cs.toArray) ∧ cs.length = 288 ∧ (∀ i, i < 288 → ∃ z : Int, 0 ≤ z ∧ z < 16 ∧ cs[i]? = some (.int .u8 z)) ∧ Kept w w') := fixlit_any
  have F2 : Hid (∀ (v : Value) (l : List Int) (w : World), LAt w .u8 v l → l.length = 288 → (∀ x ∈ l, 0 ≤ x ∧ x < 256) → Calls Tryz.prog 69 #[v] w fun r w' => ∃ cs : List Value, r = .returned (.agg cs.toArray) ∧ cs.length = 576 ∧ (∀ i, i < 288 → ∃ z : Int, 0 ≤ z ∧ z < 4294967296 ∧ cs[i]? = some (.int .u32 z)) ∧ (∀ i, i < 288 → ∃ z : Int, 0 ≤ z ∧ z < 16 ∧ cs[288 + i]? = some (.int .u8 z)) ∧ Kept w w') := bookof_any
  have hch : Hid (∀ k u, #[Value.int .i64 lace, fv, kv, .int .i64 (P : Int), cv, .int .i64 (V : Int), .int .i64 srch][k]? = some u → (w.alloc (Obj.cells #[Value.int .i64 lace, fv, kv, .int .i64 (P : Int), cv, .int .i64 (V : Int), .int .i64 srch] 31)).cell? ⟨w.heap.size, k, none⟩ = some u) := by
    intro k u hu
    rw [World.cell?_alloc_at _ _ _ _ rfl]; exact hu
  have hkw0 : Hid (Kept w (w.alloc (Obj.cells #[Value.int .i64 lace, fv, kv, .int .i64 (P : Int), cv, .int .i64 (V : Int), .int .i64 srch] 31))) := (Below.refl _ _).alloc (Nat.le_refl _) _
  have hs0 : Hid (w.heap.size < (w.alloc (Obj.cells #[Value.int .i64 lace, fv, kv, .int .i64 (P : Int), cv, .int .i64 (V : Int), .int .i64 srch] 31)).heap.size) := by show _ < _; simp
  have HL : Hid (LAt w .u8 (.slice (some ⟨g, o, none⟩) l.length c) l) := hl
  have HKL : Hid (LAt w .i64 kv kl) := hkl
  have HKK : Hid (∀ x ∈ kl, x = 0) := hkk
  have HB : Hid (isBytes l) := hB
  clear hl hkl hkk hB
  go_enter Tryz.func44, Tryz.ntmps44
  go_wp2_with fail
  generalize (w.alloc (Obj.cells #[Value.int .i64 lace, fv, kv, .int .i64 (P : Int), cv, .int .i64 (V : Int), .int .i64 srch] 31)) = w0 at *
  refine (F1.out _).mono ?_
  rintro r w1 ⟨cs, rfl, hcl, hcz, hkw1⟩
  have hone : Hid (∀ v ∈ cs, v.oneCell' = true) := ints_one hcl hcz
  have hT : Hid ((w1.alloc (Obj.cells Tryz.zeroCells132 132)).there w1.heap.size 0 cs.length) := by
    intro j hj
    refine ⟨?_, World.frozen?_alloc_at _ _ _ _ rfl⟩
    rw [World.cell?_alloc_at _ _ _ _ rfl, zero288]; simp; omega
  have hsc : (storeCells ⟨w1.heap.size, 0, none⟩ cs).run Tryz.prog (w1.alloc (Obj.cells Tryz.zeroCells132 132)) = .ok () ((w1.alloc (Obj.cells Tryz.zeroCells132 132)).setCells w1.heap.size 0 cs) := store_there hT.out hone.out
  have hr2 : Hid (Rng .u8 16 ((w1.alloc (Obj.cells Tryz.zeroCells132 132)).setCells w1.heap.size 0 cs) w1.heap.size 0 288) := Rng.of_range (World.rangeAt_setCells_same _ _ _ _ hT.out) hcz
  have hk2 : Hid (Kept w1 ((w1.alloc (Obj.cells Tryz.zeroCells132 132)).setCells w1.heap.size 0 cs)) := Kept.setCells (Nat.le_refl _) _ _ ((Below.refl _ _).alloc (Nat.le_refl _) _)
  clear hcz
  replace hcl : Hid _ := hcl
  go_wp2_with fail
  generalize ((w1.alloc (Obj.cells Tryz.zeroCells132 132)).setCells w1.heap.size 0 cs) = w2 at *
  obtain ⟨ll, hll, hla, hlz⟩ := Rng.lat hr2.out 288
  refine (F2.out _ ll w2 hla hll (fun x hx => by have := hlz x hx; omega)).mono ?_
  rintro r w3 ⟨ct, rfl, hctl, hct1, hct2, hkw3⟩
  clear hll hla hlz
  obtain ⟨A, hAe, hAs, hA0, hA1, hA2, hA3, hA4, hA5⟩ := lay_writer ct hctl hct1 hct2
  have hT4 : Hid ((w3.alloc (Obj.cells Tryz.zeroCells141 141)).there w3.heap.size 0 A.toList.length) := by
    intro j hj
    refine ⟨?_, World.frozen?_alloc_at _ _ _ _ rfl⟩
    rw [World.cell?_alloc_at _ _ _ _ rfl]
    have : j < (Tryz.zeroCells141).size := by rw [size579]; rw [Array.length_toList, hAs] at hj; exact hj
    show ((Tryz.zeroCells141)[0 + j]?).isSome = true
    rw [Nat.zero_add, Array.getElem?_eq_getElem this]; rfl
  have hsc4 : (storeCells ⟨w3.heap.size, 0, none⟩ A.toList).run Tryz.prog (w3.alloc (Obj.cells Tryz.zeroCells141 141)) = .ok () ((w3.alloc (Obj.cells Tryz.zeroCells141 141)).setCells w3.heap.size 0 A.toList) := store_there hT4.out hA5
  have hR4 : Hid (((w3.alloc (Obj.cells Tryz.zeroCells141 141)).setCells w3.heap.size 0 A.toList).rangeAt w3.heap.size 0 A.toList) := World.rangeAt_setCells_same _ _ _ _ hT4.out
  have hK4 : Hid (Kept w3 ((w3.alloc (Obj.cells Tryz.zeroCells141 141)).setCells w3.heap.size 0 A.toList)) := Kept.setCells (Nat.le_refl _) _ _ ((Below.refl _ _).alloc (Nat.le_refl _) _)
  have hF4 : Hid (∀ k, ((w3.alloc (Obj.cells Tryz.zeroCells141 141)).setCells w3.heap.size 0 A.toList).frozen? ⟨w3.heap.size, k, none⟩ = false) := fun k => by rw [World.frozen?_setCells]; exact World.frozen?_alloc_at _ _ _ _ rfl
  replace hA0 : Hid _ := hA0
  replace hA1 : Hid _ := hA1
  replace hA2 : Hid _ := hA2
  replace hA3 : Hid _ := hA3
  replace hA4 : Hid _ := hA4
  clear hct1 hct2 hA5
  have HK : Hid (Kept w0 ((w3.alloc (Obj.cells Tryz.zeroCells141 141)).setCells w3.heap.size 0 A.toList)) := ((hkw1.trans hk2.out).trans hkw3).trans hK4.out
  have hsz : Hid (((w3.alloc (Obj.cells Tryz.zeroCells141 141)).setCells w3.heap.size 0 A.toList).heap.size = w3.heap.size + 1) := by
    show _ = _
    rw [setCells_size]; simp
  have g0 : w.heap.size < w3.heap.size := by
    have h1 := hs0.out
    have h2 := hkw1.size
    have h3 := hk2.out.size
    have h4 := hkw3.size
    omega
  have ch5 : ((w3.alloc (Obj.cells Tryz.zeroCells141 141)).setCells w3.heap.size 0 A.toList).cell? ⟨w.heap.size, 5, none⟩ = some (.int .i64 (V : Int)) := (HK.out.cell (p := ⟨w.heap.size, 5, none⟩) hs0.out).trans (hch.out 5 _ rfl)
  go_wp2_with fail
  generalize ((w3.alloc (Obj.cells Tryz.zeroCells141 141)).setCells w3.heap.size 0 A.toList) = w4 at *
  clear hsc4 hT4 hK4 hAe hAs
  generalize w3.heap.size = x at *
  have H4 : Hid (BitB w4 x (x + 1) [] 0 0) := ⟨by omega, by rw [hsz.out]; omega, hF4.out, ⟨.slice none 0 0, hR4.out 0 _ hA0.out, OwnB.nil _ _⟩, hR4.out 1 _ hA1.out, hR4.out 2 _ hA2.out⟩
  have HKw : Hid (Kept w w4) := hkw0.out.trans HK.out
  have hgl : g < w.heap.size := HL.out.lt h0 g rfl
  have hkb : Hid (∀ b, sliceBlock kv = some b → b < w.heap.size) := HKL.out.lt hk0
  have ch2 : Hid (w4.cell? ⟨w.heap.size, 2, none⟩ = some kv) := (HK.out.cell (p := ⟨w.heap.size, 2, none⟩) hs0.out).trans (hch.out 2 _ rfl)
  have ch3 : w4.cell? ⟨w.heap.size, 3, none⟩ = some (.int .i64 (P : Int)) := (HK.out.cell (p := ⟨w.heap.size, 3, none⟩) hs0.out).trans (hch.out 3 _ rfl)
  have hs4 : Hid (w.heap.size < w4.heap.size) := by show _ < _; rw [hsz.out]; omega
  obtain ⟨hd, hhd⟩ : ∃ hd : List Int, hd = [((8 + 16 * V : Nat) : Int), (zFlg V : Int)] := ⟨_, rfl⟩
  have hhl : hd.length = 2 := by rw [hhd]; rfl
  have F3 : Hid (Calls Tryz.prog 70 #[.pointer (some ⟨x, 0, none⟩), .int .i64 (V : Int)] w4 fun r w' => r = .returned (.tuple #[]) ∧ WroteB x (x + 1) hd 0 0 w4 w') := by
    rw [hhd]
    exact head_b x (x + 1) V [] w4 H4.out hw1 (by simp)
  clear hA0 hA1 hA2 hA3 hA4 hR4 hF4 hsz
  have HZ : Hid (zStream V l = hd ++ stB 1 l ++ beB (adlL 1 l)) := by show zStream V l = _; rw [hhd]; rfl
  replace hhl : Hid _ := hhl
  clear hhd
  refine F3.out.mono ?_
  rintro r w5 ⟨rfl, hw5⟩
  have ch3' : w5.cell? ⟨w.heap.size, 3, none⟩ = some (.int .i64 (P : Int)) := (hw5.fr.cell hs4.out (by omega)).trans ch3
  replace hw5 : Hid (WroteB x (x + 1) hd 0 0 w4 w5) := hw5
  clear ch3 ch5
  have hP1 : (1 : Int) ≤ (P : Int) := by omega
  have HKl0 : Hid (kl.getD (0 % kl.length) 0 = 0) := HKK.out _ (getD_mem (Nat.mod_lt 0 hk0))
  have F4 : Hid (∀ (W : World), LAt W .i64 kv kl → Calls Tryz.prog 71 #[kv, .int .i64 0] W fun r w' => r = .returned (.int .i64 0) ∧ Kept W w') := fun W h => by
    have := turns_any kv kl 0 W h hk0 (by omega) (by omega)
    rw [HKl0.out] at this
    exact this
  have hSg : Hid (∀ b, sliceBlock (.slice (some ⟨g, o, none⟩) l.length c) = some b → ¬ (b = x ∨ x + 1 ≤ b)) := by
    intro b hb
    have : g = b := by injection hb
    omega
  have F5 : Hid (∀ (W : World), WroteB x (x + 1) hd 0 0 w4 W → Calls Tryz.prog 72 #[.pointer (some ⟨x, 0, none⟩), .int .i64 0, .slice (some ⟨g, o, none⟩) l.length c, .bool true] W fun r w' => r = .returned (.tuple #[]) ∧ WroteB x (x + 1) (hd ++ stB 1 l) 0 0 W w') := fun W hW => block_b x (x + 1) true hd _ l W hW.bits ((HL.out.kept HKw.out).fr hW.fr hSg.out) HB.out hSg.out (by omega) (by rw [hhl.out]; omega)
  have HKW : Hid (∀ (W : World) (ls : List Int), WroteB x (x + 1) ls 0 0 w4 W → LAt W .i64 kv kl ∧ W.cell? ⟨w.heap.size, 2, none⟩ = some kv) := by
    intro W ls hW
    refine ⟨(HKL.out.kept HKw.out).fr hW.fr (fun b hb => by have := hkb.out b hb; omega), (hW.fr.cell hs4.out (by omega)).trans ch2.out⟩
  have F6 : Hid (∀ (W : World) (ls : List Int), BitB W x (x + 1) ls 0 0 → Calls Tryz.prog 73 #[.pointer (some ⟨x, 0, none⟩)] W fun r w' => r = .returned (.tuple #[]) ∧ WroteB x (x + 1) ls 0 0 W w') := fun W ls hB => fill0_b x (x + 1) ls W hB
  have hstl : (stB 1 l).length = l.length + 5 := by simp [stB]
  have F7 : Hid (∀ (W : World), WroteB x (x + 1) (hd ++ stB 1 l) 0 0 w4 W → Calls Tryz.prog 74 #[.pointer (some ⟨x, 0, none⟩), .slice (some ⟨g, o, none⟩) l.length c] W fun r w' => r = .returned (.tuple #[]) ∧ WroteB x (x + 1) (hd ++ stB 1 l ++ beB (adlL 1 l)) 0 0 W w') := fun W hW => sum_b x (x + 1) _ _ l W hW.bits ((HL.out.kept HKw.out).fr hW.fr hSg.out) HB.out (by omega) (by rw [List.length_append, hhl.out, hstl]; omega)
  clear HKL HB HL H4 F1 F2 F3 hr2 hk2 hT hone hsc hkw1 hkw3 HK hch hkw0 hs0 ch2 hstl
  generalize w1.heap.size = y1 at *
  generalize hcsA : cs.toArray = csA at *
  generalize hctA : ct.toArray = ctA at *
  clear hcsA hctA hctl hcl
  go_wp2_with fail
  go_loopg [8, 9] 1 (fun m u v W => (m = 1 ∧ u = .int .i64 0 ∧ v = .int .i64 0 ∧ WroteB x (x + 1) hd 0 0 w4 W) ∨ (m = 0 ∧ u = .int .i64 (l.length : Int) ∧ v = .int .i64 1 ∧ WroteB x (x + 1) (hd ++ stB 1 l) 0 0 w4 W))
  case atStart => exact Or.inl ⟨rfl, rfl, rfl, hw5.out⟩
  case round =>
    rcases hrel with ⟨hm, rfl, rfl, hW⟩ | ⟨hm, rfl, rfl, hW⟩
    · obtain ⟨hk4, hc4⟩ := HKW.out wr _ hW
      have FT := F4.out wr hk4
      replace FT : Hid (Calls Tryz.prog 71 #[kv, .int .i64 0] wr fun r w' => r = .returned (.int .i64 0) ∧ Kept wr w') := FT
      replace hW : Hid (WroteB x (x + 1) hd 0 0 w4 wr) := hW
      replace hm : Hid _ := hm
      clear hw5 ch3' hk4
      by_cases hPe : P = l.length
      · subst hPe
        go_wp2_with fail
        refine FT.out.mono ?_
        rintro r w6 ⟨rfl, hk6⟩
        replace hk6 : Hid (Kept wr w6) := hk6
        go_wp2_with fail
        refine (F5.out w6 (hW.out.kept hk6.out)).mono ?_
        rintro r w7 ⟨rfl, hw7⟩
        have HW7 : Hid (WroteB x (x + 1) (hd ++ stB 1 l) 0 0 w4 w7) := (hW.out.kept hk6.out).trans hw7
        clear hw7
        go_wp2_with fail
        go_roundg 0
        case measure => rw [hm.out]; omega
        case rel => exact Or.inr ⟨rfl, rfl, by first | rfl | go_num, HW7.out⟩
      · have hm' : ¬ (P : Int) ≤ (l.length : Int) := by omega
        go_wp2_with fail
        refine FT.out.mono ?_
        rintro r w6 ⟨rfl, hk6⟩
        replace hk6 : Hid (Kept wr w6) := hk6
        go_wp2_with fail
        refine (F5.out w6 (hW.out.kept hk6.out)).mono ?_
        rintro r w7 ⟨rfl, hw7⟩
        have HW7 : Hid (WroteB x (x + 1) (hd ++ stB 1 l) 0 0 w4 w7) := (hW.out.kept hk6.out).trans hw7
        clear hw7
        go_wp2_with fail
        go_roundg 0
        case measure => rw [hm.out]; omega
        case rel => exact Or.inr ⟨rfl, rfl, by first | rfl | go_num, HW7.out⟩
    · have F66 : Hid (Calls Tryz.prog 73 #[.pointer (some ⟨x, 0, none⟩)] wr fun r w' => r = .returned (.tuple #[]) ∧ WroteB x (x + 1) (hd ++ stB 1 l) 0 0 wr w') := F6.out wr _ hW.bits
      replace hW : Hid (WroteB x (x + 1) (hd ++ stB 1 l) 0 0 w4 wr) := hW
      replace hm : Hid _ := hm
      go_wp2_with fail
      refine F66.out.mono ?_
      rintro r w8 ⟨rfl, hw8⟩
      replace hw8 : Hid (WroteB x (x + 1) (hd ++ stB 1 l) 0 0 w4 w8) := hW.out.trans hw8
      go_wp2_with fail
      refine (F7.out w8 hw8.out).mono ?_
      rintro r w9 ⟨rfl, hw9⟩
      replace hw9 : Hid (WroteB x (x + 1) (hd ++ stB 1 l ++ beB (adlL 1 l)) 0 0 w4 w9) := hw8.out.trans hw9
      obtain ⟨ov, h0v, hov⟩ := hw9.out.bits.out
      obtain ⟨LZ, hLZ⟩ : ∃ LZ, (hd ++ stB 1 l ++ beB (adlL 1 l)).length = LZ := ⟨_, rfl⟩
      obtain ⟨pp, cc, rfl⟩ := hov.slice' hLZ
      replace hov : Hid (OwnB w9 (x + 1) (.slice pp LZ cc) (hd ++ stB 1 l ++ beB (adlL 1 l))) := hov
      clear hLZ
      go_wp2_with fail
      go_ret
      refine ⟨.slice pp LZ cc, rfl, ?_, ?_⟩
      · rw [HZ.out]
        exact OwnB.base hov.out (by omega)
      · exact Fr.to_kept HKw.out hw9.out.fr (fun i hi q => by omega)
end Go.Proofs.YtkokiflklgbhfaaGreatDoor
