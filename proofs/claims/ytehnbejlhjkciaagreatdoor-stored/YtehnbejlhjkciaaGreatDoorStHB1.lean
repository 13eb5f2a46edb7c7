import Derived.Test.YtehnbejlhjkciaaGreatDoorStHA8
import Derived.Test.YtehnbejlhjkciaaGreatDoorStG6b
namespace Go.Proofs.YtehnbejlhjkciaaGreatDoor
open Go.RowKit
set_option linter.unusedSimpArgs false
set_option linter.unusedVariables false
theorem zero19 : #[Value.int .i64 0, Value.int .i64 0, Value.int .i64 0, Value.int .i64 0, Value.int .i64 0, Value.int .i64 0, Value.int .i64 0, Value.int .i64 0, Value.int .i64 0, Value.int .i64 0, Value.int .i64 0, Value.int .i64 0, Value.int .i64 0, Value.int .i64 0, Value.int .i64 0, Value.int .i64 0, Value.int .i64 0, Value.int .i64 0, Value.int .i64 0] = Array.replicate 19 (Value.int .i64 0) := by rfl
set_option maxRecDepth 100000 in
set_option maxHeartbeats 3200000 in
theorem shortlen_any (lv : Value) (n : Nat) (w : World) (hl : StAt w lv n) (hn : n ≤ 1048576) :
    Calls Tryz.prog 93 #[lv] w fun r w' => LenP w 19 r w' ∧ Kept w w' := by
  obtain ⟨p, c, rfl⟩ := hl.form
  have HL : Hid (∀ W, Kept w W → StAt W (.slice p n c) n) := fun W k => hl.kept k
  obtain ⟨w0, hw0⟩ : ∃ w0, w0 = w.alloc (Obj.cells #[Value.int .i64 0, Value.int .i64 0, Value.int .i64 0, Value.int .i64 0, Value.int .i64 0, Value.int .i64 0, Value.int .i64 0, Value.int .i64 0, Value.int .i64 0, Value.int .i64 0, Value.int .i64 0, Value.int .i64 0, Value.int .i64 0, Value.int .i64 0, Value.int .i64 0, Value.int .i64 0, Value.int .i64 0, Value.int .i64 0, Value.int .i64 0] 167) := ⟨_, rfl⟩
  have hR : Hid (IR w0 w.heap.size 0 19) := by
    rw [hw0]
    intro j hj
    refine ⟨0, ?_⟩
    rw [World.cell?_alloc_at _ _ _ _ rfl]
    rw [zero19]; simp [hj]
  have hF : Hid (∀ k, w0.frozen? ⟨w.heap.size, k, none⟩ = false) := by rw [hw0]; exact fun k => World.frozen?_alloc_at _ _ _ _ rfl
  have hK : Hid (Kept w w0) := by rw [hw0]; exact (Below.refl _ _).alloc (Nat.le_refl _) _
  clear hl
  go_enter Tryz.func93, Tryz.ntmps93
  go_upto_region 2 with fail
  rw [← hw0]
  clear hw0
  go_wp2_with fail
  go_loopw [4, 5] (fun v _ W => ∃ k : Nat, k ≤ n ∧ v = .int .i64 (k : Int) ∧ IR W w.heap.size 0 19 ∧ (∀ k, W.frozen? ⟨w.heap.size, k, none⟩ = false) ∧ Kept w W) (fun v _ _ => n - (intOf v).toNat)
  case atStart => exact ⟨0, by omega, rfl, hR.out, hF.out, hK.out⟩
  case round =>
    clear hR hF hK
    obtain ⟨k, hk, rfl, hr, hf, hK⟩ := hrel
    have HR : Hid (IR wr w.heap.size 0 19) := hr
    have HF : Hid (∀ k, wr.frozen? ⟨w.heap.size, k, none⟩ = false) := hf
    have HK : Hid (Kept w wr) := hK
    clear hr hf
    by_cases c1 : k < n
    · have c1' : (k : Int) < (n : Int) := by omega
      have k0 : (0 : Int) ≤ (k : Int) := by omega
      obtain ⟨g, s, z, rfl, y0, y1⟩ := (HL.out wr hK).two c1
      clear hK y1
      by_cases c2 : 0 ≤ s ∧ s < 19
      · obtain ⟨s, rfl⟩ : ∃ d : Nat, s = (d : Int) := ⟨s.toNat, by omega⟩
        obtain ⟨c2, c3⟩ := c2
        obtain ⟨z2, hz⟩ := HR.out s (by omega)
        rw [Nat.zero_add] at hz
        have f1 := HF.out s
        go_wp2
        exact ⟨⟨k + 1, by omega, by go_num, HR.out.set _ _, fun j => by rw [World.frozen?_setCell]; exact HF.out j, HK.out.setCell (by simp) _⟩, by simp [intOf]; omega⟩
      · by_cases c3 : 0 ≤ s
        · have c4 : ¬ s < 19 := by omega
          clear c2
          go_wp2
          exact ⟨⟨k + 1, by omega, by go_num, HR.out, HF.out, HK.out⟩, by simp [intOf]; omega⟩
        · clear c2
          go_wp2
          exact ⟨⟨k + 1, by omega, by go_num, HR.out, HF.out, HK.out⟩, by simp [intOf]; omega⟩
    · have c1' : ¬ (k : Int) < (n : Int) := by omega
      obtain ⟨l, hll, hLA⟩ := HR.out.lat 19
      have HLA : Hid (LAt wr .i64 (.slice (some ⟨w.heap.size, 0, none⟩) 19 19) l) := hLA
      have hll' : Hid (l.length = 19) := hll
      have F : Hid (Calls Tryz.prog 80 #[.slice (some ⟨w.heap.size, 0, none⟩) 19 19, .int .i64 7] wr fun r w' => LenP wr 19 r w' ∧ Kept wr w') := by
        have := lengths_any _ l 7 wr hLA (by omega) (by omega)
        rw [hll] at this
        exact this
      clear hLA hll HLA hll' hK
      go_wp2_with fail
      refine F.out.mono ?_
      rintro r w1 ⟨⟨g, rfl, hg, hR1⟩, hk1⟩
      have E : Hid (w.heap.size ≤ g ∧ Rng .u8 256 w1 g 0 19 ∧ Kept w w1) := ⟨Nat.le_trans HK.out.size hg, hR1, HK.out.trans hk1⟩
      clear hR1 hk1 hg F
      go_wp2
      go_ret
      exact ⟨⟨g, rfl, E.out.1, E.out.2.1⟩, E.out.2.2⟩
end Go.Proofs.YtehnbejlhjkciaaGreatDoor
namespace Go.Proofs.YtehnbejlhjkciaaGreatDoor
open Go.RowKit
set_option linter.unusedSimpArgs false
set_option linter.unusedVariables false
theorem zero19b : #[Value.int .u8 0, Value.int .u8 0, Value.int .u8 0, Value.int .u8 0, Value.int .u8 0, Value.int .u8 0, Value.int .u8 0, Value.int .u8 0, Value.int .u8 0, Value.int .u8 0, Value.int .u8 0, Value.int .u8 0, Value.int .u8 0, Value.int .u8 0, Value.int .u8 0, Value.int .u8 0, Value.int .u8 0, Value.int .u8 0, Value.int .u8 0] = Array.replicate 19 (Value.int .u8 0) := by rfl
theorem u32_lo (z : Int) : 0 ≤ IntKind.u32.wrap z := (bounds_u32 (wf_wrap .u32 _)).1
theorem u32_hi (z : Int) : IntKind.u32.wrap z < 4294967296 := Int.lt_of_le_of_lt (bounds_u32 (wf_wrap .u32 _)).2 (by omega)
set_option maxRecDepth 100000 in
set_option maxHeartbeats 3200000 in
theorem shortsw_n (x T g : Nat) (v : Value) (w : World) (h : WS w x v T) (hR : Rng .u8 256 w g 0 19) (hT : T ≤ 68719476736) :
    Calls Tryz.prog 94 #[.pointer (some ⟨x, 0, none⟩), .slice (some ⟨g, 0, none⟩) 19 19] w fun r w' => r = .returned (.tuple #[]) ∧ WN x w v T 61 w' := by
  have HS : Hid (∀ W, Kept w W → WS W x v T) := fun W k => h.kept k
  have HG : Hid (∀ W, Kept w W → Rng .u8 256 W g 0 19) := fun W k => hR.kept k
  have HO : Hid (Off x v w.heap.size) := h.new (Nat.le_refl _)
  have HX : Hid (x < w.heap.size) := h.bit.lt
  obtain ⟨w0, hw0⟩ : ∃ w0, w0 = w.alloc (Obj.cells #[Value.int .u8 0, Value.int .u8 0, Value.int .u8 0, Value.int .u8 0, Value.int .u8 0, Value.int .u8 0, Value.int .u8 0, Value.int .u8 0, Value.int .u8 0, Value.int .u8 0, Value.int .u8 0, Value.int .u8 0, Value.int .u8 0, Value.int .u8 0, Value.int .u8 0, Value.int .u8 0, Value.int .u8 0, Value.int .u8 0, Value.int .u8 0] 168) := ⟨_, rfl⟩
  have hR0 : Hid (Rng .u8 256 w0 w.heap.size 0 19) := by
    rw [hw0]
    intro j hj
    refine ⟨0, by omega, by omega, ?_⟩
    rw [World.cell?_alloc_at _ _ _ _ rfl]
    rw [zero19b]; simp [hj]
  have hF0 : Hid (∀ k, w0.frozen? ⟨w.heap.size, k, none⟩ = false) := by rw [hw0]; exact fun k => World.frozen?_alloc_at _ _ _ _ rfl
  have hK0 : Hid (Kept w w0) := by rw [hw0]; exact (Below.refl _ _).alloc (Nat.le_refl _) _
  clear h hR
  go_enter Tryz.func94, Tryz.ntmps94
  go_upto_region 1 with fail
  rw [← hw0]
  clear hw0
  go_wp2_with fail
  go_loopw [5, 6] (fun v5 _ W => ∃ k : Nat, k ≤ 19 ∧ v5 = .int .i64 (k : Int) ∧ Rng .u8 256 W w.heap.size 0 19 ∧ (∀ k, W.frozen? ⟨w.heap.size, k, none⟩ = false) ∧ Kept w W) (fun v5 _ _ => 19 - (intOf v5).toNat)
  case atStart => exact ⟨0, by omega, rfl, hR0.out, hF0.out, hK0.out⟩
  case round =>
    clear hR0 hF0 hK0
    obtain ⟨k, hk, rfl, hr, hf, hK⟩ := hrel
    have HR : Hid (Rng .u8 256 wr w.heap.size 0 19) := hr
    have HF : Hid (∀ k, wr.frozen? ⟨w.heap.size, k, none⟩ = false) := hf
    have HK : Hid (Kept w wr) := hK
    clear hr hf hK
    by_cases c1 : k < 19
    · have c1' : (k : Int) < 19 := by omega
      have k0 : (0 : Int) ≤ (k : Int) := by omega
      go_wp2_with fail
      refine (shat_any k wr (HS.out wr HK.out).tab c1).mono ?_
      rintro r w1 ⟨⟨a, ha, rfl⟩, hk1⟩
      have hlt : w.heap.size < wr.heap.size := by
        obtain ⟨z, _, _, hz⟩ := HR.out 0 (by omega)
        exact World.block_lt_of_cell? _ _ hz
      have HR1 : Hid (Rng .u8 256 w1 w.heap.size 0 19) := HR.out.kept hk1
      have HF1 : Hid (∀ k, w1.frozen? ⟨w.heap.size, k, none⟩ = false) := fun j => (hk1.frozen (p := ⟨w.heap.size, j, none⟩) hlt).trans (HF.out j)
      have HK1 : Hid (Kept w w1) := HK.out.trans hk1
      obtain ⟨y, y0, y1, hy⟩ := HG.out w1 HK1.out a ha
      obtain ⟨z, _, _, hz⟩ := HR1.out k c1
      rw [Nat.zero_add] at hy hz
      have f1 := HF1.out k
      have a0 : (0 : Int) ≤ (a : Int) := by omega
      have a1 : (a : Int) < 19 := by omega
      clear hk1 HR HF HK
      go_wp2
      exact ⟨⟨k + 1, by omega, by go_num, HR1.out.set _ _ y0 y1, fun j => by rw [World.frozen?_setCell]; exact HF1.out j, HK1.out.setCell (by simp) _⟩, by simp [intOf]; omega⟩
    · have c1' : ¬ (k : Int) < 19 := by omega
      obtain ⟨l, hll, hLA, _⟩ := HR.out.lat 19
      have F : Hid (Calls Tryz.prog 91 #[.slice (some ⟨w.heap.size, 0, none⟩) 19 19, .int .i64 4] wr fun r w' => NumB 19 r ∧ w' = wr) := by
        have := told_any _ l 4 wr hLA (by omega)
        rw [hll] at this
        exact this
      clear hLA
      have hlt : w.heap.size < wr.heap.size := by
        obtain ⟨z, _, _, hz⟩ := HR.out 0 (by omega)
        exact World.block_lt_of_cell? _ _ hz
      go_wp2_with fail
      refine F.out.mono ?_
      rintro r w1 ⟨⟨n, hn, rfl⟩, rfl⟩
      clear F
      have F1 : Hid (∀ q : Int, 0 ≤ q → q < 4294967296 → Calls Tryz.prog 65 #[.pointer (some ⟨x, 0, none⟩), .int .u32 q, .int .u64 4] w1 fun r w' => r = .returned (.tuple #[]) ∧ WN x w1 v T 4 w') := fun q h0 h1 => number_n x T 4 q v w1 (HS.out w1 HK.out) (by omega) h0 h1 (by omega)
      go_wp2_with fail
      refine (F1.out _ (Int.emod_nonneg _ (by omega)) (Int.emod_lt_of_pos _ (by omega))).mono ?_
      rintro r w2 ⟨rfl, v2, t2, l2, u2, s2, r2⟩
      have S2 : Hid (WS w2 x v2 t2) := s2
      have R2 : Hid (WrB x w v w2 v2) := r2.pre HK.out HX.out
      have O2 : Hid (Off x v2 w.heap.size) := HO.out.next r2 hlt
      have G2 : Hid (Rng .u8 256 w2 w.heap.size 0 19) := HR.out.fr (fun j _ _ => r2.cellK HO.out hlt)
      clear s2 r2 F1 HR HF HK HS HG HO hlt hll
      go_wp2_with fail
      go_loopw [8] (fun v8 W => ∃ (k : Nat) (v' : Value) (t : Nat), k ≤ 19 ∧ v8 = .int .i64 (k : Int) ∧ T ≤ t ∧ t ≤ T + 4 + 3 * k ∧ WS W x v' t ∧ WrB x w v W v' ∧ Off x v' w.heap.size ∧ Rng .u8 256 W w.heap.size 0 19) (fun v8 _ => 19 - (intOf v8).toNat)
      case atStart => exact ⟨0, v2, t2, by omega, rfl, by omega, by omega, S2.out, R2.out, O2.out, G2.out⟩
      case round =>
        clear S2 R2 O2 G2
        obtain ⟨k, v3, t3, hk3, rfl, l3, u3, s3, r3, o3, g3⟩ := hrel
        have S3 : Hid (WS wr x v3 t3) := s3
        have R3 : Hid (WrB x w v wr v3) := r3
        have O3 : Hid (Off x v3 w.heap.size) := o3
        have G3 : Hid (Rng .u8 256 wr w.heap.size 0 19) := g3
        clear s3 r3 o3
        by_cases c2 : k < n
        · have c2' : (k : Int) < (n : Int) := by omega
          by_cases c3 : k < 19
          · have c3' : (k : Int) < 19 := by omega
            have k0 : (0 : Int) ≤ (k : Int) := by omega
            obtain ⟨z, z0, z1, hz⟩ := g3 k c3
            rw [Nat.zero_add] at hz
            have hlt := World.block_lt_of_cell? _ _ hz
            have F4 : Hid (Calls Tryz.prog 65 #[.pointer (some ⟨x, 0, none⟩), .int .u32 (IntKind.u32.wrap z), .int .u64 3] wr.drew fun r w' => r = .returned (.tuple #[]) ∧ WN x wr.drew v3 t3 3 w') :=
              number_n x t3 3 _ v3 wr.drew (S3.out.kept ((Kept.refl _).drewN 1)) (by omega) (u32_lo _) (u32_hi _) (by omega)
            clear g3
            go_wp2_with fail
            go_region_held3 (fun W => W.cell? ⟨w.heap.size, k, none⟩ = some (.int .u8 z)) (first | exact hz | exact c4 | go_keep) ((go_at_call 65; refine F4.out.mono ?_; rintro r w4 ⟨rfl, v4, t4, l4, u4, s4, r4⟩; have R34 : WrB x wr v3 w4 v4 := r4.pre ((Kept.refl _).drewN 1) S3.out.bit.lt; have c4 : w4.cell? ⟨w.heap.size, k, none⟩ = some (.int .u8 z) := (R34.cellK O3.out hlt).trans hz))
            have S4 : Hid (WS w4 x v4 t4) := s4
            have R4 : Hid (WrB x w v w4 v4) := R3.out.trans R34
            have O4 : Hid (Off x v4 w.heap.size) := O3.out.next R34 hlt
            have G4 : Hid (Rng .u8 256 w4 w.heap.size 0 19) := G3.out.fr (fun j _ _ => R34.cellK O3.out hlt)
            clear s4 r4 R34 c4 hz F4 S3 R3 O3 G3
            go_wp2
            exact ⟨⟨k + 1, v4, t4, by omega, by go_num, by omega, by omega, S4.out, R4.out, O4.out, G4.out⟩, by simp [intOf]; omega⟩
          · have c3' : ¬ (k : Int) < 19 := by omega
            clear g3
            go_wp2
            go_end0
            exact ⟨rfl, v3, t3, by omega, by omega, S3.out, R3.out⟩
        · have c2' : ¬ (k : Int) < (n : Int) := by omega
          clear g3
          go_wp2
          go_end0
          exact ⟨rfl, v3, t3, by omega, by omega, S3.out, R3.out⟩
end Go.Proofs.YtehnbejlhjkciaaGreatDoor
