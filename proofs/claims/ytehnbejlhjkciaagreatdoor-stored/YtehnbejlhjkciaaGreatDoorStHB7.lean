import Derived.Test.YtehnbejlhjkciaaGreatDoorStHB5
namespace Go.Proofs.YtehnbejlhjkciaaGreatDoor
open Go.RowKit
set_option linter.unusedSimpArgs false
set_option linter.unusedVariables false
/-- The writer's own two books. -/
def BkF (W : World) (x : Nat) : Prop := ∃ cs, BksC cs ∧ W.rangeAt x 3 cs
theorem BkF.kept {w W : World} {x : Nat} (h : BkF w x) (k : Kept w W) : BkF W x := by
  obtain ⟨cs, h1, h2⟩ := h; exact ⟨cs, h1, range_kept h2 k⟩
theorem BkF.next {x : Nat} {w w1 : World} {v v1 : Value} (h : BkF w x) (k : WrB x w v w1 v1) : BkF w1 x := by
  obtain ⟨cs, h1, h2⟩ := h; exact ⟨cs, h1, fun j u hu => (k.far _ (by omega)).trans (h2 j u hu)⟩
/-- Just so many bits. -/
def WX (x : Nat) (w : World) (v : Value) (T : Nat) (w' : World) : Prop := ∃ v', WS w' x v' T ∧ WrB x w v w' v'
theorem number_x (x T s : Nat) (n : Int) (v : Value) (w : World) (h : WS w x v T) (hs : s ≤ 16) (hn0 : 0 ≤ n) (hn1 : n < 4294967296) (hT : T ≤ 1099511627776) :
    Calls Tryz.prog 65 #[.pointer (some ⟨x, 0, none⟩), .int .u32 n, .int .u64 (s : Int)] w fun r w' => r = .returned (.tuple #[]) ∧ WX x w v (T + s) w' :=
  (number_b x T s n v w h.bit hs hn0 hn1 hT).mono (fun r w' q => ⟨q.1, by obtain ⟨v', b, k⟩ := q.2; exact ⟨v', h.next k b, k⟩⟩)
theorem fill_x (x T : Nat) (v : Value) (w : World) (h : WS w x v T) (hT : T ≤ 549755813888) :
    Calls Tryz.prog 51 #[.pointer (some ⟨x, 0, none⟩)] w fun r w' => r = .returned (.tuple #[]) ∧ WX x w v (8 * ((T + 7) / 8)) w' :=
  (fill_b x T v w h.bit hT).mono (fun r w' q => ⟨q.1, by obtain ⟨v', b, k⟩ := q.2; exact ⟨v', h.next k b, k⟩⟩)
theorem WX.wn {x T s : Nat} {w w' : World} {v : Value} (k : WX x w v (T + s) w') : WN x w v T s w' := by
  obtain ⟨v', a, b⟩ := k; exact ⟨v', T + s, by omega, by omega, a, b⟩
set_option maxRecDepth 100000 in
set_option maxHeartbeats 3200000 in
theorem markw_x (x T : Nat) (b : Bool) (v : Value) (w : World) (h : WS w x v T) (hT : T ≤ 549755813888) :
    Calls Tryz.prog 49 #[.pointer (some ⟨x, 0, none⟩), .bool b] w fun r w' => r = .returned (.tuple #[]) ∧ WX x w v (T + 1) w' := by
  have F : Hid (∀ q : Int, 0 ≤ q → q < 4294967296 → Calls Tryz.prog 65 #[.pointer (some ⟨x, 0, none⟩), .int .u32 q, .int .u64 1] w fun r w' => r = .returned (.tuple #[]) ∧ WX x w v (T + 1) w') := fun q h0 h1 => number_x x T 1 q v w h (by omega) h0 h1 (by omega)
  clear h
  go_enter Tryz.func49, Tryz.ntmps49
  cases b
  all_goals
    go_wp2_with fail
    refine (F.out _ (by omega) (by omega)).mono ?_
    rintro r w1 ⟨rfl, h1⟩
    replace h1 : Hid (WX x w v (T + 1) w1) := h1
    clear F
    go_wp2
    go_end0
    exact ⟨rfl, h1.out⟩
set_option maxRecDepth 100000 in
set_option maxHeartbeats 3200000 in
theorem fixedw_n (x T n : Nat) (lv v : Value) (w : World) (h : WS w x v T) (hb : BkF w x) (hl : TkAt w lv n) (ho : ∀ g, lv.ownBlock = some g → Off x v g ∧ g < w.heap.size) (hn : n ≤ 1048576) (hT : T ≤ 17179869184) :
    Calls Tryz.prog 69 #[.pointer (some ⟨x, 0, none⟩), lv] w fun r w' => r = .returned (.tuple #[]) ∧ WN x w v T (48 * n + 17) w' := by
  have F : Hid (Calls Tryz.prog 65 #[.pointer (some ⟨x, 0, none⟩), .int .u32 1, .int .u64 2] w fun r w' => r = .returned (.tuple #[]) ∧ WX x w v (T + 2) w') := number_x x T 2 1 v w h (by omega) (by omega) (by omega) (by omega)
  have HB : Hid (BkF w x) := hb
  have HL : Hid (TkAt w lv n) := hl
  have HO : Hid (∀ g, lv.ownBlock = some g → Off x v g ∧ g < w.heap.size) := ho
  clear h hb hl ho
  go_enter Tryz.func69, Tryz.ntmps69
  go_wp2_with fail
  refine F.out.mono ?_
  rintro r w1 ⟨rfl, v1, s1, r1⟩
  obtain ⟨cs, hcs, hrg⟩ := HB.out.next r1
  have S1 : Hid (WS w1 x v1 (T + 2)) := s1
  have R1 : Hid (WrB x w v w1 v1) := r1
  have HC : Hid (BksC cs) := hcs
  have HR : Hid (w1.rangeAt x 3 cs) := hrg
  have L1 : Hid (TkAt w1 lv n) := HL.out.frS r1.fr (fun g e => (HO.out g e).1.no)
  have hi : Hid ((Tryz.prog.info? 90).map (·.size) = some cs.length) := by show _ = _; rw [hcs.len]; exact tsize1152
  have O1 : Hid (∀ g, lv.ownBlock = some g → Off x v1 g) := fun g e => (HO.out g e).1.next r1 (HO.out g e).2
  clear s1 r1 hcs hrg F HB HL HO
  go_wp2_with fail
  refine wp_load_mid 90 _ rfl x 3 rfl cs _ HR.out Tryz.underlying90 rfl hi.out ?_
  go_wp2_with fail
  refine (toksw_n x (T + 2) n cs.toArray lv v1 w1 S1.out HC.out.bkl L1.out O1.out hn (by omega)).mono ?_
  rintro r w2 ⟨rfl, v2, t2, l2, u2, s2, r2⟩
  have HE : Hid (WN x w v T (48 * n + 17) w2) := ⟨v2, t2, by omega, by omega, s2, R1.out.trans r2⟩
  clear s2 r2 HC HR hi
  go_wp2
  go_end0
  exact ⟨rfl, HE.out⟩
theorem LAt.off {x : Nat} {w w1 : World} {k : IntKind} {dv v v1 : Value} {l : List Int} (h : LAt w k dv l) (r : WrB x w v w1 v1) (hD : ∀ g, sliceBlock dv = some g → Off x v g) : LAt w1 k dv l := h.fr r.fr (fun g e => (hD g e).no)
set_option maxRecDepth 100000 in
set_option maxHeartbeats 3200000 in
theorem storedw_x (x T f : Nat) (dv v : Value) (l : List Int) (w : World) (h : WS w x v T) (hl : LAt w .u8 dv l) (hB : isBytes l) (hD : ∀ g, sliceBlock dv = some g → Off x v g) (hn : l.length ≤ 1048576) (hf : f ≤ l.length) (hT : T ≤ 137438953472) :
    Calls Tryz.prog 66 #[.pointer (some ⟨x, 0, none⟩), dv, .int .i64 (f : Int)] w fun r w' => r = .returned (.tuple #[]) ∧ WX x w v (8 * ((T + 2 + 7) / 8) + 32 + 8 * (l.length - f)) w' := by
  obtain ⟨p, c, rfl⟩ := hl.form
  have F1 : Hid (Calls Tryz.prog 65 #[.pointer (some ⟨x, 0, none⟩), .int .u32 0, .int .u64 2] w fun r w' => r = .returned (.tuple #[]) ∧ WX x w v (T + 2) w') := number_x x T 2 0 v w h (by omega) (by omega) (by omega) (by omega)
  obtain ⟨Z, hZ⟩ : ∃ Z, Z = 8 * ((T + 2 + 7) / 8) := ⟨_, rfl⟩
  have F2 : Hid (∀ W v, WS W x v (T + 2) → Calls Tryz.prog 51 #[.pointer (some ⟨x, 0, none⟩)] W fun r w' => r = .returned (.tuple #[]) ∧ WX x W v Z w') := fun W v hB => by rw [hZ]; exact fill_x x (T + 2) v W hB (by omega)
  rw [← hZ]
  have hZb : Z ≤ 137438963472 := by omega
  have F3 : Hid (∀ W v t (q : Int), t ≤ 274877906944 → 0 ≤ q → q < 4294967296 → WS W x v t → Calls Tryz.prog 65 #[.pointer (some ⟨x, 0, none⟩), .int .u32 q, .int .u64 16] W fun r w' => r = .returned (.tuple #[]) ∧ WX x W v (t + 16) w') := fun W v t q ht h0 h1 hB => number_x x t 16 q v W hB (by omega) h0 h1 (by omega)
  have F5 : Hid (∀ W v t (q : Int), t ≤ 274877906944 → 0 ≤ q → q < 4294967296 → WS W x v t → Calls Tryz.prog 65 #[.pointer (some ⟨x, 0, none⟩), .int .u32 q, .int .u64 8] W fun r w' => r = .returned (.tuple #[]) ∧ WX x W v (t + 8) w') := fun W v t q ht h0 h1 hB => number_x x t 8 q v W hB (by omega) h0 h1 (by omega)
  have HL : Hid (LAt w .u8 (.slice p l.length c) l) := hl
  have HD : Hid (∀ g, sliceBlock (.slice p l.length c) = some g → Off x v g) := hD
  have HB : Hid (isBytes l) := hB
  have i0 : (0 : Int) ≤ (f : Int) := by omega
  have i1 : (f : Int) ≤ (l.length : Int) := by omega
  clear h hl hZ hD hB
  go_enter Tryz.func66, Tryz.ntmps66
  go_wp2_with fail
  refine F1.out.mono ?_
  rintro r w1 ⟨rfl, v1, s1, r1⟩
  have S1 : Hid (WS w1 x v1 (T + 2)) := s1
  have R1 : Hid (WrB x w v w1 v1) := r1
  clear s1 r1 F1
  go_wp2_with fail
  refine (F2.out w1 v1 S1.out).mono ?_
  rintro r w2 ⟨rfl, v2, s2, r2⟩
  have S2 : Hid (WS w2 x v2 Z) := s2
  have R2 : Hid (WrB x w v w2 v2) := R1.out.trans r2
  clear s2 r2 F2 S1 R1
  go_wp2_with fail
  refine (F3.out w2 v2 Z _ (by omega) (by omega) (by omega) S2.out).mono ?_
  rintro r w3 ⟨rfl, v3, s3, r3⟩
  have S3 : Hid (WS w3 x v3 (Z + 16)) := s3
  have R3 : Hid (WrB x w v w3 v3) := R2.out.trans r3
  clear s3 r3 S2 R2
  go_wp2_with fail
  refine (F3.out w3 v3 (Z + 16) _ (by omega) (by first | exact (bounds_u32 (wf_bits _ _ _ _)).1 | exact (bounds_u32 (wf_wrap _ _)).1 | omega) (by first | exact Int.lt_of_le_of_lt (bounds_u32 (wf_bits _ _ _ _)).2 (by omega) | exact Int.lt_of_le_of_lt (bounds_u32 (wf_wrap _ _)).2 (by omega) | omega) S3.out).mono ?_
  rintro r w4 ⟨rfl, v4, s4, r4⟩
  have S4 : Hid (WS w4 x v4 (Z + 16 + 16)) := s4
  have R4 : Hid (WrB x w v w4 v4) := R3.out.trans r4
  clear s4 r4 S3 R3 F3
  generalize bits BinOp.xor IntKind.u32 IntKind.u32.max ((l.length : Int) - (f : Int)) = Y
  go_wp2
  go_loopw [7] (fun vi W => ∃ (k : Nat) (v' : Value), f ≤ k ∧ k ≤ l.length ∧ vi = .int .i64 (k : Int) ∧ WS W x v' (Z + 32 + 8 * (k - f)) ∧ WrB x w v W v') (fun vi _ => l.length - (intOf vi).toNat)
  case atStart => exact ⟨f, v4, Nat.le_refl _, hf, rfl, by rw [Nat.sub_self]; exact S4.out, R4.out⟩
  case round =>
    clear S4 R4
    obtain ⟨k, v5, hk0, hk1, rfl, hs, hr⟩ := hrel
    have S5 : Hid (WS wr x v5 (Z + 32 + 8 * (k - f))) := hs
    have R5 : Hid (WrB x w v wr v5) := hr
    clear hs hr
    by_cases hlt : k < l.length
    · obtain ⟨g, o, rfl, hc⟩ := (HL.out.off R5.out HD.out).cellAt k hlt
      have hb := HB.out _ (getD_mem hlt)
      generalize l.getD k 0 = B at *
      have hlt' : (k : Int) < (l.length : Int) := by omega
      have k0 : (0 : Int) ≤ (k : Int) := by omega
      have gl := World.block_lt_of_cell? _ _ hc
      have OG : Hid (Off x v5 g) := (HD.out g rfl).next R5.out (by
        obtain ⟨g', o', e, hc'⟩ := HL.out.cellAt k hlt
        injection e with e
        injection e with e _
        rw [e]
        exact World.block_lt_of_cell? _ _ hc')
      have F6 : Hid (Calls Tryz.prog 65 #[.pointer (some ⟨x, 0, none⟩), .int .u32 (IntKind.u32.wrap B), .int .u64 8] wr.drew fun r w' => r = .returned (.tuple #[]) ∧ WX x wr.drew v5 (Z + 32 + 8 * (k - f) + 8) w') := F5.out wr.drew v5 (Z + 32 + 8 * (k - f)) _ (by omega) (u32_lo _) (u32_hi _) (S5.out.kept ((Kept.refl _).drewN 1))
      clear hb
      go_wp2_with fail
      go_region_held3 (fun W => W.cell? ⟨g, o + k, none⟩ = some (.int .u8 B)) (first | exact hc | exact hc6 | go_keep) ((go_at_call 65; refine F6.out.mono ?_; rintro r w6 ⟨rfl, v6, s6, r6⟩; have R56 : WrB x wr v5 w6 v6 := r6.pre ((Kept.refl _).drewN 1) S5.out.bit.lt; have hc6 : w6.cell? ⟨g, o + k, none⟩ = some (.int .u8 B) := (R56.cellK OG.out gl).trans hc))
      have S6 : Hid (WS w6 x v6 (Z + 32 + 8 * (k + 1 - f))) := by
        have e : Z + 32 + 8 * (k - f) + 8 = Z + 32 + 8 * (k + 1 - f) := by omega
        show WS w6 x v6 (Z + 32 + 8 * (k + 1 - f))
        rw [← e]; exact s6
      have R6 : Hid (WrB x w v w6 v6) := R5.out.trans R56
      clear s6 r6 R56 hc hc6 F6 S5 R5 OG
      go_wp2
      exact ⟨⟨k + 1, v6, by omega, by omega, by go_num, S6.out, R6.out⟩, by simp [intOf]; omega⟩
    · have hke : k = l.length := by omega
      have hlt' : ¬ (k : Int) < (l.length : Int) := by omega
      go_wp2
      go_end0
      rw [hke] at S5
      exact ⟨rfl, v5, S5.out, R5.out⟩
end Go.Proofs.YtehnbejlhjkciaaGreatDoor
