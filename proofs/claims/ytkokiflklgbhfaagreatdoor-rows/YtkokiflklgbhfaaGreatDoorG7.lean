import Derived.Test.YtkokiflklgbhfaaGreatDoorG2
set_option maxRecDepth 100000
set_option maxHeartbeats 3200000
namespace Go.Proofs.YtkokiflklgbhfaaGreatDoor
open Go.RowKit
set_option linter.unusedSimpArgs false
set_option linter.unusedVariables false
theorem zero579 : Tryz.zeroCells141 = #[.slice none 0 0, .int .u32 0, .int .u64 0] ++ (Array.replicate 288 (.int .u32 0) ++ Array.replicate 288 (.int .u8 0)) := by kernel_rfl
theorem size579 : (Tryz.zeroCells141).size = 579 := by rw [zero579]; simp
theorem z579_0 : (Tryz.zeroCells141)[0]? = some (.slice none 0 0) := by rw [zero579, Array.getElem?_append_left (by simp)]; rfl
theorem z579_1 : (Tryz.zeroCells141)[1]? = some (.int .u32 0) := by rw [zero579, Array.getElem?_append_left (by simp)]; rfl
theorem z579_2 : (Tryz.zeroCells141)[2]? = some (.int .u64 0) := by rw [zero579, Array.getElem?_append_left (by simp)]; rfl
/-- The writer as it is laid: no bits, and the book. -/
theorem lay_writer (ct : List Value) (hl : ct.length = 576) (h1 : ∀ i, i < 288 → ∃ z : Int, 0 ≤ z ∧ z < 4294967296 ∧ ct[i]? = some (.int .u32 z)) (h2 : ∀ i, i < 288 → ∃ z : Int, 0 ≤ z ∧ z < 16 ∧ ct[288 + i]? = some (.int .u8 z)) :
    ∃ A : Array Value, List.foldl (fun (cs : Array Value) (x : Value × Nat) => cs.setIfInBounds (3 + x.snd) x.fst) Tryz.zeroCells141 ct.zipIdx = A ∧ A.size = 579 ∧ A.toList[0]? = some (.slice none 0 0) ∧ A.toList[1]? = some (.int .u32 0) ∧ A.toList[2]? = some (.int .u64 0) ∧ (∀ i, i < 288 → ∃ z : Int, 0 ≤ z ∧ z < 4294967296 ∧ A.toList[3 + i]? = some (.int .u32 z)) ∧ (∀ i, i < 288 → ∃ z : Int, 0 ≤ z ∧ z < 16 ∧ A.toList[3 + 288 + i]? = some (.int .u8 z)) ∧ (∀ v ∈ A.toList, v.oneCell' = true) := by
  have hs := lay_size 3 ct 0 Tryz.zeroCells141
  have ho := fun j (h : j < 3) => lay_out 3 ct 0 Tryz.zeroCells141 j (Or.inl (by omega))
  have hi := fun j (h : j < ct.length) => lay_in 3 ct 0 Tryz.zeroCells141 j h (by rw [size579]; omega)
  rw [size579] at hs
  obtain ⟨A, hA⟩ : ∃ A, A = List.foldl (fun (cs : Array Value) (x : Value × Nat) => cs.setIfInBounds (3 + x.snd) x.fst) Tryz.zeroCells141 ct.zipIdx := ⟨_, rfl⟩
  rw [← hA] at hs
  have hA' := hA.symm
  refine ⟨A, hA', hs, ?_, ?_, ?_, ?_, ?_, ?_⟩
  · rw [Array.getElem?_toList, hA, ho 0 (by omega), z579_0]
  · rw [Array.getElem?_toList, hA, ho 1 (by omega), z579_1]
  · rw [Array.getElem?_toList, hA, ho 2 (by omega), z579_2]
  · intro i hi'
    obtain ⟨z, a, b, e⟩ := h1 i hi'
    have := hi i (by omega)
    exact ⟨z, a, b, by rw [Array.getElem?_toList, hA]; exact this.trans e⟩
  · intro i hi'
    obtain ⟨z, a, b, e⟩ := h2 i hi'
    have := hi (288 + i) (by omega)
    exact ⟨z, a, b, by rw [Array.getElem?_toList, hA, show 3 + 288 + i = 3 + 0 + (288 + i) by omega]; exact this.trans e⟩
  · intro v hv
    obtain ⟨j, hj, e⟩ := List.getElem_of_mem hv
    have hjA : A.toList[j]? = some v := by rw [List.getElem?_eq_getElem hj, e]
    rw [Array.getElem?_toList] at hjA
    have hj' : j < 579 := by simpa [hs] using hj
    by_cases q0 : j < 3
    · rw [hA, ho j q0] at hjA
      have : j = 0 ∨ j = 1 ∨ j = 2 := by omega
      rcases this with rfl | rfl | rfl
      · rw [z579_0] at hjA; injection hjA with hjA; rw [← hjA]; rfl
      · rw [z579_1] at hjA; injection hjA with hjA; rw [← hjA]; rfl
      · rw [z579_2] at hjA; injection hjA with hjA; rw [← hjA]; rfl
    · have hh := hi (j - 3) (by omega)
      rw [show 3 + 0 + (j - 3) = j by omega, ← hA, hjA] at hh
      by_cases q1 : j < 291
      · obtain ⟨z, _, _, e2⟩ := h1 (j - 3) (by omega)
        rw [e2] at hh; injection hh with hh; rw [hh]; rfl
      · obtain ⟨z, _, _, e2⟩ := h2 (j - 291) (by omega)
        rw [show 288 + (j - 291) = j - 3 by omega] at e2
        rw [e2] at hh; injection hh with hh; rw [hh]; rfl
theorem Own8.base {w : World} {N N' : Nat} {v : Value} {n : Nat} (h : Own8 w N v n) (hb : N' ≤ N) : Own8 w N' v n := by
  obtain ⟨l, h1, h2, h3⟩ := h; exact ⟨l, h1, h2, own_base h3 hb⟩
theorem stream_any (g o c : Nat) (kv fv cv : Value) (l kl : List Int) (lace srch : Int) (P V : Nat) (w : World) (hl : LAt w .u8 (.slice (some ⟨g, o, none⟩) l.length c) l) (hB : isBytes l) (hcap : l.length ≤ c) (hkl : LAt w .i64 kv kl) (hn : l.length ≤ 65536) (h0 : 0 < l.length) (hk0 : 0 < kl.length) (hk1 : kl.length ≤ 64) (hkk : ∀ x ∈ kl, 0 ≤ x ∧ x ≤ 2) (hp0 : 1 ≤ P) (hp1 : P ≤ 1048576) (hw1 : V ≤ 7) :
    Calls Tryz.prog 44 #[.slice (some ⟨g, o, none⟩) l.length c, .agg #[.int .i64 lace, fv, kv, .int .i64 (P : Int), cv, .int .i64 (V : Int), .int .i64 srch]] w fun r w' => ∃ ov L k, r = .returned ov ∧ 6 ≤ L ∧ L ≤ 1048576 ∧ Own8 w' w.heap.size ov L ∧ Kept w w' ∧ l.length ≤ k * P ∧ (k - 1) * P < l.length ∧ ((∀ x ∈ kl, x = 0) → L = 6 + 5 * k + l.length) := by
  have F1 : Hid (∀ w, Calls Tryz.prog 68 #[] w fun r w' => ∃ cs : List Value, r = .returned (.agg cs.toArray) ∧ cs.length = 288 ∧ (∀ i, i < 288 → ∃ z : Int, 0 ≤ z ∧ z < 16 ∧ cs[i]? = some (.int .u8 z)) ∧ Kept w w') := fixlit_any
  have F2 : Hid (∀ (v : Value) (l : List Int) (w : World), LAt w .u8 v l → l.length = 288 → (∀ x ∈ l, 0 ≤ x ∧ x < 256) → Calls Tryz.prog 69 #[v] w fun r w' => ∃ cs : List Value, r = .returned (.agg cs.toArray) ∧ cs.length = 576 ∧ (∀ i, i < 288 → ∃ z : Int, 0 ≤ z ∧ z < 4294967296 ∧ cs[i]? = some (.int .u32 z)) ∧ (∀ i, i < 288 → ∃ z : Int, 0 ≤ z ∧ z < 16 ∧ cs[288 + i]? = some (.int .u8 z)) ∧ Kept w w') := bookof_any
  have hch : Hid (∀ k u, #[Value.int .i64 lace, fv, kv, .int .i64 (P : Int), cv, .int .i64 (V : Int), .int .i64 srch][k]? = some u → (w.alloc (Obj.cells #[Value.int .i64 lace, fv, kv, .int .i64 (P : Int), cv, .int .i64 (V : Int), .int .i64 srch] 31)).cell? ⟨w.heap.size, k, none⟩ = some u) := by
    intro k u hu
    rw [World.cell?_alloc_at _ _ _ _ rfl]; exact hu
  have hkw0 : Hid (Kept w (w.alloc (Obj.cells #[Value.int .i64 lace, fv, kv, .int .i64 (P : Int), cv, .int .i64 (V : Int), .int .i64 srch] 31))) := (Below.refl _ _).alloc (Nat.le_refl _) _
  have hs0 : Hid (w.heap.size < (w.alloc (Obj.cells #[Value.int .i64 lace, fv, kv, .int .i64 (P : Int), cv, .int .i64 (V : Int), .int .i64 srch] 31)).heap.size) := by show _ < _; simp
  have HL : Hid (LAt w .u8 (.slice (some ⟨g, o, none⟩) l.length c) l) := hl
  have HKL : Hid (LAt w .i64 kv kl) := hkl
  have HKK : Hid (∀ x ∈ kl, 0 ≤ x ∧ x ≤ 2) := hkk
  have HB : Hid (isBytes l) := hB
  clear hl hkl hkk hB
  go_enter Tryz.func44, Tryz.ntmps44
  go_wp2_with fail
  generalize (w.alloc (Obj.cells #[Value.int .i64 lace, fv, kv, .int .i64 (P : Int), cv, .int .i64 (V : Int), .int .i64 srch] 31)) = w0 at *
  refine (F1.out _).mono ?_
  rintro r w1 ⟨cs, rfl, hcl, hcz, hkw1⟩
  have hone : Hid (∀ v ∈ cs, v.oneCell' = true) := ints_one hcl hcz
  have hT : Hid ((w1.alloc (Obj.cells Tryz.zeroCells132 132)).there w1.heap.size 0 cs.length) := by
    intro j hj
    refine ⟨?_, World.frozen?_alloc_at _ _ _ _ rfl⟩
    rw [World.cell?_alloc_at _ _ _ _ rfl, zero288]; simp; omega
  have hsc : (storeCells ⟨w1.heap.size, 0, none⟩ cs).run Tryz.prog (w1.alloc (Obj.cells Tryz.zeroCells132 132)) = .ok () ((w1.alloc (Obj.cells Tryz.zeroCells132 132)).setCells w1.heap.size 0 cs) := store_there hT.out hone.out
  have hr2 : Hid (Rng .u8 16 ((w1.alloc (Obj.cells Tryz.zeroCells132 132)).setCells w1.heap.size 0 cs) w1.heap.size 0 288) := Rng.of_range (World.rangeAt_setCells_same _ _ _ _ hT.out) hcz
  have hk2 : Hid (Kept w1 ((w1.alloc (Obj.cells Tryz.zeroCells132 132)).setCells w1.heap.size 0 cs)) := Kept.setCells (Nat.le_refl _) _ _ ((Below.refl _ _).alloc (Nat.le_refl _) _)
  clear hcz
  replace hcl : Hid _ := hcl
  go_wp2_with fail
  generalize ((w1.alloc (Obj.cells Tryz.zeroCells132 132)).setCells w1.heap.size 0 cs) = w2 at *
  obtain ⟨ll, hll, hla, hlz⟩ := Rng.lat hr2.out 288
  refine (F2.out _ ll w2 hla hll (fun x hx => by have := hlz x hx; omega)).mono ?_
  rintro r w3 ⟨ct, rfl, hctl, hct1, hct2, hkw3⟩
  clear hll hla hlz
  obtain ⟨A, hAe, hAs, hA0, hA1, hA2, hA3, hA4, hA5⟩ := lay_writer ct hctl hct1 hct2
  have hT4 : Hid ((w3.alloc (Obj.cells Tryz.zeroCells141 141)).there w3.heap.size 0 A.toList.length) := by
    intro j hj
    refine ⟨?_, World.frozen?_alloc_at _ _ _ _ rfl⟩
    rw [World.cell?_alloc_at _ _ _ _ rfl]
    have : j < (Tryz.zeroCells141).size := by rw [size579]; rw [Array.length_toList, hAs] at hj; exact hj
    show ((Tryz.zeroCells141)[0 + j]?).isSome = true
    rw [Nat.zero_add, Array.getElem?_eq_getElem this]; rfl
  have hsc4 : (storeCells ⟨w3.heap.size, 0, none⟩ A.toList).run Tryz.prog (w3.alloc (Obj.cells Tryz.zeroCells141 141)) = .ok () ((w3.alloc (Obj.cells Tryz.zeroCells141 141)).setCells w3.heap.size 0 A.toList) := store_there hT4.out hA5
  have hR4 : Hid (((w3.alloc (Obj.cells Tryz.zeroCells141 141)).setCells w3.heap.size 0 A.toList).rangeAt w3.heap.size 0 A.toList) := World.rangeAt_setCells_same _ _ _ _ hT4.out
  have hK4 : Hid (Kept w3 ((w3.alloc (Obj.cells Tryz.zeroCells141 141)).setCells w3.heap.size 0 A.toList)) := Kept.setCells (Nat.le_refl _) _ _ ((Below.refl _ _).alloc (Nat.le_refl _) _)
  have hF4 : Hid (∀ k, ((w3.alloc (Obj.cells Tryz.zeroCells141 141)).setCells w3.heap.size 0 A.toList).frozen? ⟨w3.heap.size, k, none⟩ = false) := fun k => by rw [World.frozen?_setCells]; exact World.frozen?_alloc_at _ _ _ _ rfl
  replace hA0 : Hid _ := hA0
  replace hA1 : Hid _ := hA1
  replace hA2 : Hid _ := hA2
  replace hA3 : Hid _ := hA3
  replace hA4 : Hid _ := hA4
  clear hct1 hct2 hA5
  have HK : Hid (Kept w0 ((w3.alloc (Obj.cells Tryz.zeroCells141 141)).setCells w3.heap.size 0 A.toList)) := ((hkw1.trans hk2.out).trans hkw3).trans hK4.out
  have hsz : Hid (((w3.alloc (Obj.cells Tryz.zeroCells141 141)).setCells w3.heap.size 0 A.toList).heap.size = w3.heap.size + 1) := by
    show _ = _
    rw [setCells_size]; simp
  have g0 : w.heap.size < w3.heap.size := by
    have h1 := hs0.out
    have h2 := hkw1.size
    have h3 := hk2.out.size
    have h4 := hkw3.size
    omega
  have ch5 : ((w3.alloc (Obj.cells Tryz.zeroCells141 141)).setCells w3.heap.size 0 A.toList).cell? ⟨w.heap.size, 5, none⟩ = some (.int .i64 (V : Int)) := (HK.out.cell (p := ⟨w.heap.size, 5, none⟩) hs0.out).trans (hch.out 5 _ rfl)
  go_wp2_with fail
  generalize ((w3.alloc (Obj.cells Tryz.zeroCells141 141)).setCells w3.heap.size 0 A.toList) = w4 at *
  clear hsc4 hT4 hK4 hAe hAs
  generalize w3.heap.size = x at *
  have H4 : Hid (BitAt w4 x (x + 1) 0) := ⟨by omega, by rw [hsz.out]; omega, hF4.out, ⟨.slice none 0 0, hR4.out 0 _ hA0.out, Own8.nil _ _⟩, ⟨0, by omega, by omega, hR4.out 1 _ hA1.out⟩, hR4.out 2 _ hA2.out⟩
  have HBk : Hid (BookAt w4 x 3) := by
    intro i hi
    obtain ⟨z1, a1, a2, a3⟩ := hA3.out i hi
    obtain ⟨z2, b1, b2, b3⟩ := hA4.out i hi
    have e1 := hR4.out _ _ a3
    have e2 := hR4.out _ _ b3
    rw [Nat.zero_add] at e1 e2
    exact ⟨z1, z2, a1, a2, b1, b2, e1, e2⟩
  have HKw : Hid (Kept w w4) := hkw0.out.trans HK.out
  have hgl : g < w.heap.size := HL.out.lt h0 g rfl
  have hkb : Hid (∀ b, sliceBlock kv = some b → b < w.heap.size) := HKL.out.lt hk0
  have ch2 : Hid (w4.cell? ⟨w.heap.size, 2, none⟩ = some kv) := (HK.out.cell (p := ⟨w.heap.size, 2, none⟩) hs0.out).trans (hch.out 2 _ rfl)
  have ch3 : w4.cell? ⟨w.heap.size, 3, none⟩ = some (.int .i64 (P : Int)) := (HK.out.cell (p := ⟨w.heap.size, 3, none⟩) hs0.out).trans (hch.out 3 _ rfl)
  have hs4 : Hid (w.heap.size < w4.heap.size) := by show _ < _; rw [hsz.out]; omega
  have F3 : Hid (Calls Tryz.prog 70 #[.pointer (some ⟨x, 0, none⟩), .int .i64 (V : Int)] w4 fun r w' => r = .returned (.tuple #[]) ∧ Wrote x (x + 1) 16 w4 w') := (headw_any x (x + 1) 0 V w4 H4.out hw1 (by omega)).mono (fun r w' h => by simpa using h)
  clear hA0 hA1 hA2 hA3 hA4 hR4 hF4 hsz
  refine F3.out.mono ?_
  rintro r w5 ⟨rfl, hw5⟩
  have ch3' : w5.cell? ⟨w.heap.size, 3, none⟩ = some (.int .i64 (P : Int)) := (hw5.fr.cell hs4.out (by omega)).trans ch3
  replace hw5 : Hid (Wrote x (x + 1) 16 w4 w5) := hw5
  clear ch3 ch5
  go_wp2
  have F4 : Hid (∀ (W : World) (k : Nat), k ≤ 65536 → LAt W .i64 kv kl → Calls Tryz.prog 71 #[kv, .int .i64 (k : Int)] W fun r w' => r = .returned (.int .i64 (kl.getD (k % kl.length) 0)) ∧ Kept W w') := fun W k hk h => turns_any kv kl k W h hk0 (by omega) (by omega)
  have F5 : Hid (∀ (W : World) (T kd f n c' : Nat) (b : Bool), f + n ≤ l.length → T ≤ 68719476736 → kd ≤ 2 → Wrote x (x + 1) T w4 W → Calls Tryz.prog 72 #[.pointer (some ⟨x, 0, none⟩), .int .i64 (kd : Int), .slice (some ⟨g, o + f, none⟩) n c', .bool b] W fun r w' => r = .returned (.tuple #[]) ∧ ∃ t, T ≤ t ∧ t ≤ T + 64 + 15 * (n + 1) ∧ (kd = 0 → t = 8 * ((T + 1 + 2 + 7) / 8) + 32 + 8 * n) ∧ Wrote x (x + 1) t W w') := by
    intro W T kd f n c' b hfn hT hkd hW
    have hlen : ((l.drop f).take n).length = n := by simp; omega
    have hS : ∀ b, sliceBlock (.slice (some ⟨g, o, none⟩) l.length c) = some b → ¬ (b = x ∨ x + 1 ≤ b) := by
      intro b hb
      have : g = b := by injection hb
      omega
    have := blockw_any x (x + 1) T kd b _ _ W hW.bits (HBk.out.far hW.far) (((HL.out.kept HKw.out).fr hW.fr hS).part f n c' hfn) (HB.out.part f n) (by
      intro b hb
      have : g = b := by injection hb
      omega) (by rw [hlen]; omega) hT hkd
    rw [hlen] at this
    exact this
  have HKW : Hid (∀ (W : World) (T : Nat), Wrote x (x + 1) T w4 W → LAt W .i64 kv kl ∧ W.cell? ⟨w.heap.size, 2, none⟩ = some kv) := by
    intro W T hW
    refine ⟨(HKL.out.kept HKw.out).fr hW.fr (fun b hb => by have := hkb.out b hb; omega), (hW.fr.cell hs4.out (by omega)).trans ch2.out⟩
  have HDW : Hid (∀ (W : World) (T : Nat), Wrote x (x + 1) T w4 W → LAt W .u8 (.slice (some ⟨g, o, none⟩) l.length c) l) := by
    intro W T hW
    refine (HL.out.kept HKw.out).fr hW.fr ?_
    intro b hb
    have : g = b := by injection hb
    omega
  have F6 : Hid (∀ (W : World) (T : Nat), T ≤ 68719476736 → BitAt W x (x + 1) T → Calls Tryz.prog 73 #[.pointer (some ⟨x, 0, none⟩)] W fun r w' => r = .returned (.tuple #[]) ∧ Wrote x (x + 1) (8 * ((T + 7) / 8)) W w') := fun W T hT hB => fill_any x (x + 1) T W hB (by omega)
  have F7 : Hid (∀ (W : World) (T : Nat), T ≤ 68719476736 → Wrote x (x + 1) T w4 W → Calls Tryz.prog 74 #[.pointer (some ⟨x, 0, none⟩), .slice (some ⟨g, o, none⟩) l.length c] W fun r w' => r = .returned (.tuple #[]) ∧ Wrote x (x + 1) (T + 32) W w') := fun W T hT hW => sumw_any x (x + 1) T _ l W hW.bits (HDW.out W T hW) HB.out (by omega) (by omega)
  clear HKL HB HL HBk H4 F1 F2 F3 hr2 hk2 hT hone hsc hkw1 hkw3 HK hch hkw0 hs0 ch2
  generalize w1.heap.size = y1 at *
  generalize hcsA : cs.toArray = csA at *
  generalize hctA : ct.toArray = ctA at *
  clear hcsA hctA hctl hcl
  go_loopw [8, 9] (fun u v W => ∃ f k T : Nat, f ≤ l.length ∧ u = .int .i64 (f : Int) ∧ v = .int .i64 (k : Int) ∧ f = min (k * P) l.length ∧ (0 < k → (k - 1) * P < l.length) ∧ k ≤ l.length ∧ T ≤ 16 + 94 * f ∧ 16 ≤ T ∧ ((∀ x ∈ kl, x = 0) → T = 16 + 40 * k + 8 * f) ∧ Wrote x (x + 1) T w4 W) (fun u _ _ => l.length - (intOf u).toNat)
  case atStart => exact ⟨0, 0, 16, by omega, rfl, rfl, by omega, by omega, by omega, by omega, by omega, fun _ => by omega, hw5.out⟩
  case round =>
    obtain ⟨f, k, T, hf, rfl, rfl, hfe, hkp, hkn, hT1, hT2, hZ, hW⟩ := hrel
    replace hZ : Hid ((∀ x ∈ kl, x = 0) → T = 16 + 40 * k + 8 * f) := hZ
    replace hkp : Hid (0 < k → (k - 1) * P < l.length) := hkp
    clear hw5 ch3'
    by_cases hlt : f < l.length
    · have hfk : f = k * P := by omega
      have hkl2 : k < l.length := by
        have := Nat.le_mul_of_pos_right k (show 0 < P by omega)
        omega
      obtain ⟨hk4, hc4⟩ := HKW.out wr T hW
      have FT := F4.out wr k (by omega) hk4
      obtain ⟨kd, hkd⟩ : ∃ kd : Nat, kl.getD (k % kl.length) 0 = (kd : Int) ∧ kd ≤ 2 := by
        have := HKK.out _ (getD_mem (Nat.mod_lt k hk0))
        exact ⟨(kl.getD (k % kl.length) 0).toNat, by omega, by omega⟩
      rw [hkd.1] at FT
      have hkdz : Hid ((∀ x ∈ kl, x = 0) → kd = 0) := by
        intro h
        have := h _ (getD_mem (Nat.mod_lt k hk0))
        omega
      have hkd2 := hkd.2
      clear hkd hk4
      replace FT : Hid (Calls Tryz.prog 71 #[kv, .int .i64 (k : Int)] wr fun r w' => r = .returned (.int .i64 (kd : Int)) ∧ Kept wr w') := FT
      replace hW : Hid (Wrote x (x + 1) T w4 wr) := hW
      replace hfe : Hid (f = min (k * P) l.length) := hfe
      replace hfk : Hid (f = k * P) := hfk
      have hfl : (f : Int) < (l.length : Int) := by omega
      rcases Nat.eq_zero_or_pos k with hk00 | hk00
      · subst hk00
        by_cases hm : P ≤ l.length - f
        · have hm' : (P : Int) ≤ (l.length : Int) - (f : Int) := by omega
          go_wp2_with fail
          refine FT.out.mono ?_
          rintro r w6 ⟨rfl, hk6⟩
          replace hk6 : Hid (Kept wr w6) := hk6
          go_wp2_with fail
          refine (F5.out w6 T kd f (P) (c - f) _ (by omega) (by omega) hkd2 (hW.out.kept hk6.out)).mono ?_
          rintro r w7 ⟨rfl, t, ht1, ht2, htz, hw7⟩
          have HW7 : Hid (Wrote x (x + 1) t w4 w7) := (hW.out.kept hk6.out).trans hw7
          replace htz : Hid (kd = 0 → t = 8 * ((T + 1 + 2 + 7) / 8) + 32 + 8 * (P)) := htz
          clear hw7
          go_wp2
          have hmul := Nat.succ_mul 0 P
          have hfk' := hfk.out
          refine ⟨⟨f + P, 0 + 1, t, by omega, by first | rfl | go_num, by first | rfl | go_num, by rw [Nat.succ_mul]; omega, fun _ => by show (0 + 1 - 1) * P < l.length; rw [Nat.add_sub_cancel]; omega, by omega, by omega, by omega, fun hz => ?_, HW7.out⟩, by simp [intOf]; omega⟩
          have h1 := hZ.out hz
          have h2 := htz.out (hkdz.out hz)
          omega
        · have hm' : ¬ (P : Int) ≤ (l.length : Int) - (f : Int) := by omega
          go_wp2_with fail
          refine FT.out.mono ?_
          rintro r w6 ⟨rfl, hk6⟩
          replace hk6 : Hid (Kept wr w6) := hk6
          go_wp2_with fail
          refine (F5.out w6 T kd f (l.length - f) (c - f) _ (by omega) (by omega) hkd2 (hW.out.kept hk6.out)).mono ?_
          rintro r w7 ⟨rfl, t, ht1, ht2, htz, hw7⟩
          have HW7 : Hid (Wrote x (x + 1) t w4 w7) := (hW.out.kept hk6.out).trans hw7
          replace htz : Hid (kd = 0 → t = 8 * ((T + 1 + 2 + 7) / 8) + 32 + 8 * (l.length - f)) := htz
          clear hw7
          go_wp2
          have hmul := Nat.succ_mul 0 P
          have hfk' := hfk.out
          refine ⟨⟨l.length, 0 + 1, t, by omega, by first | rfl | go_num, by first | rfl | go_num, by rw [Nat.succ_mul]; omega, fun _ => by show (0 + 1 - 1) * P < l.length; rw [Nat.add_sub_cancel]; omega, by omega, by omega, by omega, fun hz => ?_, HW7.out⟩, by simp [intOf]; omega⟩
          have h1 := hZ.out hz
          have h2 := htz.out (hkdz.out hz)
          omega
      · have b0 : ((k : Int) == 0) = false := by rw [beq_eq_false_iff_ne]; omega
        by_cases hm : P ≤ l.length - f
        · have hm' : (P : Int) ≤ (l.length : Int) - (f : Int) := by omega
          go_wp2_with fail
          refine FT.out.mono ?_
          rintro r w6 ⟨rfl, hk6⟩
          replace hk6 : Hid (Kept wr w6) := hk6
          go_wp2_with fail
          refine (F5.out w6 T kd f (P) (c - f) _ (by omega) (by omega) hkd2 (hW.out.kept hk6.out)).mono ?_
          rintro r w7 ⟨rfl, t, ht1, ht2, htz, hw7⟩
          have HW7 : Hid (Wrote x (x + 1) t w4 w7) := (hW.out.kept hk6.out).trans hw7
          replace htz : Hid (kd = 0 → t = 8 * ((T + 1 + 2 + 7) / 8) + 32 + 8 * (P)) := htz
          clear hw7
          go_wp2
          have hmul := Nat.succ_mul k P
          have hfk' := hfk.out
          refine ⟨⟨f + P, k + 1, t, by omega, by first | rfl | go_num, by first | rfl | go_num, by rw [Nat.succ_mul]; omega, fun _ => by show (k + 1 - 1) * P < l.length; rw [Nat.add_sub_cancel]; omega, by omega, by omega, by omega, fun hz => ?_, HW7.out⟩, by simp [intOf]; omega⟩
          have h1 := hZ.out hz
          have h2 := htz.out (hkdz.out hz)
          omega
        · have hm' : ¬ (P : Int) ≤ (l.length : Int) - (f : Int) := by omega
          go_wp2_with fail
          refine FT.out.mono ?_
          rintro r w6 ⟨rfl, hk6⟩
          replace hk6 : Hid (Kept wr w6) := hk6
          go_wp2_with fail
          refine (F5.out w6 T kd f (l.length - f) (c - f) _ (by omega) (by omega) hkd2 (hW.out.kept hk6.out)).mono ?_
          rintro r w7 ⟨rfl, t, ht1, ht2, htz, hw7⟩
          have HW7 : Hid (Wrote x (x + 1) t w4 w7) := (hW.out.kept hk6.out).trans hw7
          replace htz : Hid (kd = 0 → t = 8 * ((T + 1 + 2 + 7) / 8) + 32 + 8 * (l.length - f)) := htz
          clear hw7
          go_wp2
          have hmul := Nat.succ_mul k P
          have hfk' := hfk.out
          refine ⟨⟨l.length, k + 1, t, by omega, by first | rfl | go_num, by first | rfl | go_num, by rw [Nat.succ_mul]; omega, fun _ => by show (k + 1 - 1) * P < l.length; rw [Nat.add_sub_cancel]; omega, by omega, by omega, by omega, fun hz => ?_, HW7.out⟩, by simp [intOf]; omega⟩
          have h1 := hZ.out hz
          have h2 := htz.out (hkdz.out hz)
          omega
    · have hfn : f = l.length := by omega
      have hkpos : 0 < k := by
        rcases Nat.eq_zero_or_pos k with h | h
        · subst h; simp at hfe; omega
        · exact h
      have b0 : ((k : Int) == 0) = false := by rw [beq_eq_false_iff_ne]; omega
      have hfl : ¬ (f : Int) < (l.length : Int) := by omega
      have F66 := F6.out wr T (by omega) hW.bits
      replace F66 : Hid _ := F66
      replace hW : Hid (Wrote x (x + 1) T w4 wr) := hW
      have hkP : Hid (l.length ≤ k * P) := by show _ ≤ _; omega
      clear hfe
      go_wp2_with fail
      refine Calls.mono F66.out ?_
      rintro r w8 ⟨rfl, hw8⟩
      replace hw8 : Hid (Wrote x (x + 1) (8 * ((T + 7) / 8)) w4 w8) := hW.out.trans hw8
      go_wp2_with fail
      refine (F7.out w8 _ (by omega) hw8.out).mono ?_
      rintro r w9 ⟨rfl, hw9⟩
      replace hw9 : Hid (Wrote x (x + 1) (8 * ((T + 7) / 8) + 32) w4 w9) := hw8.out.trans hw9
      obtain ⟨ov, ho0, hoo⟩ := hw9.out.bits.out
      replace hoo : Hid _ := hoo
      go_wp2
      go_ret
      refine ⟨ov, (8 * ((T + 7) / 8) + 32) / 8, k, rfl, by omega, by omega, Own8.base hoo.out (by omega), ?_, hkP.out, hkp.out hkpos, fun hz => ?_⟩
      · exact Fr.to_kept HKw.out hw9.out.fr (fun i hi => by omega)
      · have := hZ.out hz
        omega
end Go.Proofs.YtkokiflklgbhfaaGreatDoor
