import Derived.Test.YtkokiflklgbhfaaGreatDoorU12
set_option maxRecDepth 100000
set_option maxHeartbeats 3200000
namespace Go.Proofs.YtkokiflklgbhfaaGreatDoor
open Go.RowKit Px
set_option linter.unusedSimpArgs false
set_option linter.unusedVariables false
def bsOf (s : ByteArray) : List Nat := s.data.toList.map UInt8.toNat
theorem bsOf_length (s : ByteArray) : (bsOf s).length = s.size := by unfold bsOf; simp
theorem bsOf_get (s : ByteArray) (k : Nat) (h : k < s.size) : (bsOf s)[k]'(by rw [bsOf_length]; exact h) = s[k].toNat := by
  unfold bsOf; simp; rfl
theorem take_snoc' (s : ByteArray) (k : Nat) (h : k < s.size) : (bsOf s).take (k + 1) = (bsOf s).take k ++ [s[k].toNat] := by
  rw [List.take_succ_eq_append_getElem (by rw [bsOf_length]; exact h), bsOf_get s k h]
def Dc.one (d : Dc) (x : Nat) : Dc := if d.err ≠ 0 then d else if (d.file.take x).2 ≠ 0 then { d with file := (d.file.take x).1, err := (d.file.take x).2, at1 := d.count } else { d with file := (d.file.take x).1, count := d.count + 1 }
def Dc.feed (d : Dc) (l : List Nat) : Dc := l.foldl Dc.one d
theorem feed_snoc (d : Dc) (l : List Nat) (x : Nat) : d.feed (l ++ [x]) = (d.feed l).one x := by unfold Dc.feed; rw [List.foldl_append]; rfl
theorem feed_append (d : Dc) (l m : List Nat) : d.feed (l ++ m) = (d.feed l).feed m := by unfold Dc.feed; rw [List.foldl_append]
theorem feed_err {d : Dc} (h : d.err ≠ 0) : ∀ l, d.feed l = d
  | [] => rfl
  | x :: l => by
    show Dc.feed (d.one x) l = d
    rw [show d.one x = d from by unfold Dc.one; rw [if_pos h]]
    exact feed_err h l
def DcStep (b n : Nat) (d' : Dc) (w w' : World) : Prop := ∃ e, Blk w' b n e ∧ DcV e 0 d' ∧ Fr1 b w w'
theorem RdStep.dc {b n : Nat} {c : Nat → Value} {D : Dc} {S : Rd} {w w1 w' : World} (h : DcV c 0 D) (hF : Fr1 b w w1) (k : RdStep b 0 n c S w1 w') : DcStep b n { D with file := S } w w' := by
  obtain ⟨e, h1, h2, h3, h4⟩ := k
  exact ⟨e, h1, h.set_file S h2 (fun i hi => h3.out i (by omega)), hF.trans h4⟩
def FeedOk (d : Dc) (l : List Nat) : Prop := ∀ k x, l[k]? = some x → (d.feed (l.take k)).err = 0 → TakeOk (d.feed (l.take k)).file x ∧ (d.feed (l.take k)).count ≤ 4294967296
theorem fail_x (b n E : Nat) (c : Nat → Value) (D : Dc) (w : World) (hB : Blk w b n c) (hV : DcV c 0 D) (hn : 5957 ≤ n) :
    Calls Tryz.prog 28 #[.pointer (some ⟨b, 0, none⟩), .int .i64 (E : Int)] w fun e w' => e = .returned (.tuple #[]) ∧ DcStep b n { D with err := E, at1 := D.count } w w' := by
  have k0 := hB.at (i := 5954) (by omega) hV.count
  have k1 := hB.at (i := 5955) (by omega) hV.err
  have k2 := hB.at (i := 5956) (by omega) hV.at1
  have z := hB.fz
  have HB : Hid (Blk w b n c) := hB
  have HV : Hid (DcV c 0 D) := hV
  clear hB hV
  go_enter Tryz.func28, Tryz.ntmps28
  go_wp2
  go_end0
  exact ⟨rfl, _, (HB.out.set (k := 5955) (by omega) _).set (k := 5956) (by omega) _, (HV.out.set_err E).set_at1 D.count, Fr1.set (Fr1.set (Fr.refl _ _) _ _) _ _⟩
theorem feed_x (b n : Nat) (t : ByteArray) (c : Nat → Value) (d : Dc) (w : World) (hB : Blk w b n c) (hV : DcV c 0 d) (hn : 5957 ≤ n) (hk : FeedOk d (bsOf t)) (hs : t.size ≤ 2147483648) (hG : GrdAt w) (hb : b ≠ 0) :
    Calls Tryz.prog 16 #[.pointer (some ⟨b, 0, none⟩), .string t] w fun e w' => e = .returned (.tuple #[.int .i64 ((d.feed (bsOf t)).err : Int), .int .i64 ((d.feed (bsOf t)).at1 : Int)]) ∧ DcStep b n (d.feed (bsOf t)) w w' := by
  have HG : Hid (∀ W, Fr1 b w W → GrdAt W) := fun W f => hG.fr f (fun q => hb q.symm)
  have HK : Hid (FeedOk d (bsOf t)) := hk
  have H0 : Hid (DcStep b n (d.feed ((bsOf t).take 0)) w w) := ⟨c, hB, hV, Fr.refl _ _⟩
  clear hB hV hk hG
  go_enter Tryz.func16, Tryz.ntmps16
  go_wp2_with fail
  go_loopg [6, 7] t.size (fun m v u W => ∃ k : Nat, m = t.size - k ∧ k ≤ t.size ∧ v = .int .i64 (k : Int) ∧ DcStep b n (d.feed ((bsOf t).take k)) w W)
  case atStart => exact ⟨0, by omega, by omega, rfl, H0.out⟩
  case round =>
    obtain ⟨k, hgk, hkt, rfl, e, hBe, hVe, hFe⟩ := hrel
    replace hgk : Hid _ := hgk
    clear H0
    have BE : Hid (Blk wr b n e) := hBe
    have VE : Hid (DcV e 0 (d.feed ((bsOf t).take k))) := hVe
    have FE : Hid (Fr1 b w wr) := hFe
    clear hBe hVe hFe
    by_cases hlt : k < t.size
    · have HF : Hid (d.feed ((bsOf t).take (k + 1)) = (d.feed ((bsOf t).take k)).one t[k].toNat) := by
        show d.feed ((bsOf t).take (k + 1)) = _
        rw [take_snoc' t k hlt, feed_snoc]
      have hlt' : (k : Int) < (t.size : Int) := by omega
      have hx : t[k].toNat < 256 := t[k].toNat_lt
      have HOk := HK.out k t[k].toNat (by rw [← bsOf_get t k hlt]; exact List.getElem?_eq_getElem _)
      have HAll : Hid (d.feed (bsOf t) = (d.feed ((bsOf t).take k)).feed ((bsOf t).drop k)) := by show d.feed (bsOf t) = _; rw [← feed_append, List.take_append_drop]
      have HAll2 : Hid (d.feed (bsOf t) = (d.feed ((bsOf t).take (k + 1))).feed ((bsOf t).drop (k + 1))) := by show d.feed (bsOf t) = _; rw [← feed_append, List.take_append_drop]
      obtain ⟨D, hD⟩ : ∃ D, D = d.feed ((bsOf t).take k) := ⟨_, rfl⟩
      rw [← hD] at VE HF HOk HAll
      clear hD
      have c1 := BE.out.at (i := 5955) (by omega) VE.out.err
      replace HOk : Hid _ := HOk
      by_cases he : D.err = 0
      · have he' : ((D.err : Int) == 0) = true := by rw [beq_iff_eq]; omega
        obtain ⟨hto, hcnt⟩ := HOk.out he
        have FT : Hid (∀ W, Kept wr W → Calls Tryz.prog 27 #[.pointer (some ⟨b, 0, none⟩), .int .u8 (t[k].toNat : Int)] W fun e' w' => e' = .returned (.int .i64 ((D.file.take t[k].toNat).2 : Int)) ∧ RdStep b 0 n e (D.file.take t[k].toNat).1 W w') := fun W kw => rdtake_x b 0 n _ e D.file W (BE.out.kept kw) VE.out.file (by omega) hx hto (HG.out _ (FE.out.kept kw)) hb
        have HOne : Hid (D.one t[k].toNat = if (D.file.take t[k].toNat).2 ≠ 0 then { D with file := (D.file.take t[k].toNat).1, err := (D.file.take t[k].toNat).2, at1 := D.count } else { D with file := (D.file.take t[k].toNat).1, count := D.count + 1 }) := by show D.one t[k].toNat = _; unfold Dc.one; rw [if_neg (fun q => q he)]
        replace he : Hid _ := he
        clear hto HOk
        obtain ⟨E, hE⟩ : ∃ E, E = (D.file.take t[k].toNat).2 := ⟨_, rfl⟩
        obtain ⟨S, hS⟩ : ∃ S, S = (D.file.take t[k].toNat).1 := ⟨_, rfl⟩
        rw [← hE, ← hS] at FT HOne
        clear hE hS
        go_wp2_with fail
        go_region_held3 (fun W => True) (trivial) ((go_at_call 27; refine (FT.out _ ((Kept.refl _).drewN 1)).mono ?_; rintro e' w1 ⟨rfl, hst⟩))
        obtain ⟨e1, hB1, hV1, hF1⟩ := RdStep.dc VE.out (Fr1.drewN (Fr.refl _ _) 1) hst
        have B1 : Hid (Blk w1 b n e1) := hB1
        have V1 : Hid (DcV e1 0 { D with file := S }) := hV1
        have F1 : Hid (Fr1 b w w1) := FE.out.trans hF1
        have c0 := hB1.at (i := 5954) (by omega) hV1.count
        have z0 := hB1.fz 5954
        replace c0 : w1.cell? ⟨b, 5954, none⟩ = some (.int .i64 (D.count : Int)) := c0
        clear hB1 hV1 hF1 hst FT BE VE FE c1
        by_cases hz : E = 0
        · have hz' : ((E : Int) != 0) = false := by rw [bne_eq_false_iff_eq]; omega
          obtain ⟨N, hN⟩ : ∃ N, N = D.count + 1 := ⟨_, rfl⟩
          have eN : (D.count : Int) + 1 = (N : Int) := by omega
          have hN2 : N ≤ 4294967297 := by omega
          have HO2 : Hid (D.one t[k].toNat = { D with file := S, count := N }) := by show D.one t[k].toNat = _; rw [HOne.out, if_neg (fun q => q hz), hN]
          replace hz : Hid _ := hz
          clear hN
          go_wp2_with fail
          go_roundg (t.size - (k + 1))
          case measure => rw [hgk.out]; omega
          case rel =>
            refine ⟨k + 1, rfl, by omega, by go_num, ?_⟩
            rw [HF.out, HO2.out]
            exact ⟨_, B1.out.set (k := 5954) (by omega) _, V1.out.set_count N, Fr1.set F1.out _ _⟩
        · have hz' : ((E : Int) != 0) = true := by rw [bne_iff_ne]; omega
          have HA : Hid (d.feed (bsOf t) = { D with file := S, err := E, at1 := D.count }) := by
            show d.feed (bsOf t) = _
            rw [HAll2.out, HF.out, HOne.out, if_pos hz, feed_err hz]
          replace hz : Hid _ := hz
          go_wp2_with fail
          refine (fail_x b n E e1 { D with file := S } w1 B1.out V1.out hn).mono ?_
          rintro e' w2 ⟨rfl, e2, hB2, hV2, hF2⟩
          have c4 := hB2.at (i := 5955) (by omega) hV2.err
          have c5 := hB2.at (i := 5956) (by omega) hV2.at1
          replace c4 : w2.cell? ⟨b, 5955, none⟩ = some (.int .i64 (E : Int)) := c4
          replace c5 : w2.cell? ⟨b, 5956, none⟩ = some (.int .i64 (D.count : Int)) := c5
          have B2 : Hid (Blk w2 b n e2) := hB2
          have V2 : Hid (DcV e2 0 { ({ D with file := S } : Dc) with err := E, at1 := D.count }) := hV2
          have F2 : Hid (Fr1 b w w2) := F1.out.trans hF2
          clear hB2 hV2 hF2
          go_wp2_with fail
          go_quiet (fail)
          go_wp2_with fail
          go_ret2
          rw [HA.out]
          exact ⟨rfl, e2, B2.out.kept ((Kept.refl _).drewN _), V2.out, F2.out.kept ((Kept.refl _).drewN _)⟩
      · have he' : ((D.err : Int) == 0) = false := by rw [beq_eq_false_iff_ne]; omega
        have HA : Hid (d.feed (bsOf t) = D) := by show d.feed (bsOf t) = D; rw [HAll.out, feed_err he]
        have c2 := BE.out.at (i := 5956) (by omega) VE.out.at1
        replace he : Hid _ := he
        go_wp2_with fail
        go_quiet (fail)
        go_wp2_with fail
        go_ret2
        rw [HA.out]
        exact ⟨rfl, e, BE.out.kept ((Kept.refl _).drewN _), VE.out, FE.out.kept ((Kept.refl _).drewN _)⟩
    · have hlt' : ¬ (k : Int) < (t.size : Int) := by omega
      have hall : (bsOf t).take k = bsOf t := List.take_of_length_le (by rw [bsOf_length]; omega)
      rw [hall] at VE
      have c1 := BE.out.at (i := 5955) (by omega) VE.out.err
      have c2 := BE.out.at (i := 5956) (by omega) VE.out.at1
      clear hall
      go_wp2_with fail
      go_quiet (fail)
      go_wp2_with fail
      go_ret2
      exact ⟨rfl, e, BE.out.kept ((Kept.refl _).drewN _), VE.out, FE.out.kept ((Kept.refl _).drewN _)⟩
def hd0 : Hd := ⟨0, 0, 0, 0, 0⟩
def rwN : Rw := ⟨hd0, 0, 0, 0, 0, 0, 0, 0, 0, fun _ => 0, fun _ => 0, fun _ => false, fun _ => 0⟩
def tl0 : Tl := ⟨fun _ => 0, fun _ => 0, 0, 0⟩
def rd0 : Rd := ⟨0, 0, 0, 0, 0, 0, hd0, fun _ => 0, tl0, st0 0, rwN, false, false, false, false⟩
def dc0 : Dc := ⟨rd0, 0, 0, 0⟩
def dcA : List Value := [.int .i64 0, .int .u32 0, .int .u32 0, .int .u32 0, .int .u32 0, .int .u32 0, .int .i64 0, .int .i64 0, .int .i64 0, .int .i64 0, .int .i64 0]
def dcB : List Value := List.replicate 1037 (.int .u8 0)
def dcC : List Value := [.int .i64 0, .int .i64 0]
def dcD : List Value := stH ++ (stT ++ [.int .i64 0, .int .u32 0])
def dcE : List Value := List.replicate 12 (.int .i64 0) ++ rwTail
def dcF : List Value := [.bool false, .bool false, .bool false, .bool false, .int .i64 0, .int .i64 0, .int .i64 0]
theorem zero5957 : Tryz.zeroCells95.toList = dcA ++ (dcB ++ (dcC ++ (dcD ++ (dcE ++ dcF)))) := by kernel_rfl
theorem dcD_len : dcD.length = 3351 := by
  unfold dcD
  rw [List.length_append, List.length_append, stT_len, show stH.length = 10 from rfl]
  simp only [List.length_cons, List.length_nil]
theorem dcE_len : dcE.length = 1549 := by unfold dcE; rw [List.length_append, rwTail_len, List.length_replicate]
theorem dcB_len : dcB.length = 1037 := List.length_replicate ..
theorem size5957 : Tryz.zeroCells95.size = 5957 := by
  rw [← Array.length_toList, zero5957, List.length_append, List.length_append, List.length_append, List.length_append, List.length_append, dcB_len, dcD_len, dcE_len, show dcA.length = 11 from rfl, show dcC.length = 2 from rfl, show dcF.length = 7 from rfl]
theorem rwN_V : RwV (fun j => dcE.getD j undef) 0 rwN := by
  have h12 : (List.replicate 12 (Value.int .i64 0)).length = 12 := List.length_replicate ..
  have g : ∀ i, i < 12 → dcE.getD i undef = .int .i64 0 := fun i hi => getD_rep _ _ _ _ hi
  have t : ∀ i j v, i = 12 + j → rwTail.getD j undef = v → dcE.getD i undef = v := fun i j v hi e => by rw [hi]; exact (getD_skip _ _ 12 j h12).trans e
  exact ⟨⟨g 0 (by omega), g 1 (by omega), g 2 (by omega), g 3 (by omega), g 4 (by omega)⟩, g 5 (by omega), g 6 (by omega), g 7 (by omega), g 8 (by omega), g 9 (by omega), g 10 (by omega), g 11 (by omega), t 12 0 _ rfl (rwTail_u8 0 (by omega)), fun i hi => t _ (1 + i) _ (by omega) (rwTail_u8 _ (by omega)), fun i hi => t _ (129 + i) _ (by omega) (rwTail_u8 _ (by omega)), fun i hi => t _ (257 + i) _ (by omega) (rwTail_bl _ hi), fun i hi => t _ (257 + (256 + i)) _ (by omega) (rwTail_u16 _ hi)⟩
/-- The cells of a decoder that was fed nothing. -/
theorem dc0_V : DcV (fun i => Tryz.zeroCells95.getD i undef) 0 dc0 := by
  obtain ⟨L, hL⟩ : ∃ L, L = Tryz.zeroCells95.toList := ⟨_, rfl⟩
  have hc : ∀ i, Tryz.zeroCells95.getD i undef = L.getD i undef := fun i => by
    rw [hL, Array.getD_eq_getD_getElem?, List.getD_eq_getElem?_getD, Array.getElem?_toList]
  rw [zero5957] at hL
  have e : (fun i => Tryz.zeroCells95.getD i undef) = fun i => L.getD i undef := funext hc
  rw [e]
  have h11 : dcA.length = 11 := rfl
  have h2 : dcC.length = 2 := rfl
  have A : ∀ i v, i < 11 → dcA.getD i undef = v → L.getD i undef = v := fun i v hi q => by rw [hL]; exact (getD_front _ _ i (by rw [h11]; exact hi)).trans q
  have B : ∀ i, 11 ≤ i → i < 1048 → L.getD i undef = .int .u8 0 := fun i h1 h2 => by
    rw [hL, show i = 11 + (i - 11) from by omega]
    exact (getD_skip _ _ 11 _ h11).trans (getD_rep _ _ _ _ (by omega))
  have C : ∀ j v, j < 2 → dcC.getD j undef = v → L.getD (1048 + j) undef = v := fun j v hj q => by
    rw [hL, show 1048 + j = 11 + (1037 + j) from by omega]
    exact (getD_skip _ _ 11 _ h11).trans ((getD_skip _ _ 1037 _ dcB_len).trans ((getD_front _ _ j (by rw [h2]; exact hj)).trans q))
  have D : ∀ j, j < 3351 → L.getD (1050 + j) undef = dcD.getD j undef := fun j hj => by
    rw [hL, show 1050 + j = 11 + (1037 + (2 + j)) from by omega]
    exact (getD_skip _ _ 11 _ h11).trans ((getD_skip _ _ 1037 _ dcB_len).trans ((getD_skip _ _ 2 _ h2).trans (getD_front _ _ j (by rw [dcD_len]; exact hj))))
  have E : ∀ j, j < 1549 → L.getD (4401 + j) undef = dcE.getD j undef := fun j hj => by
    rw [hL, show 4401 + j = 11 + (1037 + (2 + (3351 + j))) from by omega]
    exact (getD_skip _ _ 11 _ h11).trans ((getD_skip _ _ 1037 _ dcB_len).trans ((getD_skip _ _ 2 _ h2).trans ((getD_skip _ _ 3351 _ dcD_len).trans (getD_front _ _ j (by rw [dcE_len]; exact hj)))))
  have F : ∀ j v, dcF.getD j undef = v → L.getD (5950 + j) undef = v := fun j v q => by
    rw [hL, show 5950 + j = 11 + (1037 + (2 + (3351 + (1549 + j)))) from by omega]
    exact (getD_skip _ _ 11 _ h11).trans ((getD_skip _ _ 1037 _ dcB_len).trans ((getD_skip _ _ 2 _ h2).trans ((getD_skip _ _ 3351 _ dcD_len).trans ((getD_skip _ _ 1549 _ dcE_len).trans q))))
  clear hL e hc
  have VS : StV (fun i => L.getD i undef) 1050 (st0 0) := by
    have h := (stV_of 0).shift (fun i => L.getD i undef) 1050
    exact h.congr (fun i h1 h2 => by
      obtain ⟨j, rfl⟩ : ∃ j, i = 1050 + j := ⟨i - 1050, by omega⟩
      show L.getD (1050 + j) undef = _
      rw [updL_in (by omega), D j (by omega)]
      rfl)
  have VR : RwV (fun i => L.getD i undef) 4401 rwN := by
    have h := rwN_V.shift (fun i => L.getD i undef) 4401
    exact h.congr (fun i h1 h2 => by
      obtain ⟨j, rfl⟩ : ∃ j, i = 4401 + j := ⟨i - 4401, by omega⟩
      show L.getD (4401 + j) undef = _
      rw [updL_in (by omega), E j (by omega)])
  refine ⟨⟨A 0 _ (by omega) rfl, A 1 _ (by omega) rfl, A 2 _ (by omega) rfl, A 3 _ (by omega) rfl, A 4 _ (by omega) rfl, A 5 _ (by omega) rfl, ⟨A 6 _ (by omega) rfl, A 7 _ (by omega) rfl, A 8 _ (by omega) rfl, A 9 _ (by omega) rfl, A 10 _ (by omega) rfl⟩, fun i hi => B _ (by omega) (by omega), ⟨fun i hi => B _ (by omega) (by omega), fun i hi => B _ (by omega) (by omega), C 0 _ (by omega) rfl, C 1 _ (by omega) rfl⟩, ?_, ?_, F 0 _ rfl, F 1 _ rfl, F 2 _ rfl, F 3 _ rfl⟩, F 4 _ rfl, F 5 _ rfl, F 6 _ rfl⟩
  · exact VS
  · exact VR
theorem new_x (w : World) :
    Calls Tryz.prog 15 #[] w fun e w' => e = .returned (.pointer (some ⟨w.heap.size, 0, none⟩)) ∧ ∃ c, Blk w' w.heap.size 5957 c ∧ DcV c 0 dc0 ∧ Kept w w' := by
  have B := Blk.new w Tryz.zeroCells95 95 5957 size5957
  replace B : Hid _ := B
  go_enter Tryz.func15, Tryz.ntmps15
  go_wp2
  go_ret
  exact ⟨rfl, _, B.out, dc0_V, Below.alloc (Below.refl _ _) (Nat.le_refl _) _⟩
theorem rknown_x (b o n x y : Nat) (c : Nat → Value) (r : Rw) (w : World) (hB : Blk w b n c) (hV : RwV c o r) (hn : o + 1549 ≤ n) (hx : x < 16) (hy : y < 16) :
    Calls Tryz.prog 88 #[.pointer (some ⟨b, o, none⟩), .int .i64 (x : Int), .int .i64 (y : Int)] w fun e w' => e = .returned (.bool (r.known (y * 16 + x))) ∧ ∃ q, w' = w.drewN q := by
  have FI : Hid (∀ W, Calls Tryz.prog 118 #[.int .i64 (x : Int), .int .i64 (y : Int)] W fun e w' => e = .returned (.tuple #[.int .i64 ((y * 16 + x : Nat) : Int), .bool true]) ∧ w' = W) := fun W => by
    have := index_x x y W (by omega) (by omega)
    rw [if_pos ⟨hx, hy⟩, decide_eq_true (⟨hx, hy⟩ : x < 16 ∧ y < 16)] at this
    exact this
  obtain ⟨P, hP⟩ : ∃ P, P = y * 16 + x := ⟨_, rfl⟩
  rw [← hP] at FI ⊢
  have hP6 : P < 256 := by omega
  have k := hB.at (i := o + 269 + P) (by omega) (hV.known P hP6)
  have p0 : (0 : Int) ≤ (P : Int) := by omega
  have p1 : (P : Int) < 256 := by omega
  generalize r.known P = KK at *
  clear hB hV hP
  go_enter Tryz.func88, Tryz.ntmps88
  go_wp2_with fail
  refine (FI.out _).mono ?_
  rintro e w1 ⟨rfl, hw1⟩
  subst w1
  go_wp2_with fail
  go_ret
  exact ⟨rfl, 0, rfl⟩
theorem psize_x (h : Hd) (w : World) (hW : 1 ≤ h.W) (hW2 : h.W ≤ 16) (hH : 1 ≤ h.H) (hH2 : h.H ≤ 16) :
    Calls Tryz.prog 87 #[hdV h] w fun e w' => e = .returned (.int .i64 ((h.W * h.H : Nat) : Int)) ∧ Kept w w' := by
  unfold hdV
  have g1 : ¬ (h.W : Int) < 1 := by omega
  have g2 : ¬ (h.H : Int) < 1 := by omega
  obtain ⟨T, hT⟩ : ∃ T, T = h.W * h.H := ⟨_, rfl⟩
  have eT : (h.W : Int) * (h.H : Int) = (T : Int) := by rw [hT]; simp
  have hT6 : T ≤ 256 := by rw [hT]; exact Nat.mul_le_mul hW2 hH2
  rw [← hT]
  clear hT
  go_enter Tryz.func87, Tryz.ntmps87
  go_wp2
  go_ret
  exact ⟨rfl, Below.alloc (Below.refl _ _) (Nat.le_refl _) _⟩
theorem infoIntV : ∃ i, Tryz.prog.info? 3 = some i ∧ i.zero = some (.int .i64 0) ∧ i.size = 1 ∧ i.bytes = 8 := by
  have h : (Tryz.prog.info? 3).map (fun i => (i.zero, i.size, i.bytes)) = some (some (.int .i64 0), 1, 8) := by kernel_rfl
  cases hi : Tryz.prog.info? 3 with
  | none => rw [hi] at h; simp at h
  | some i =>
    rw [hi] at h
    simp at h
    exact ⟨i, rfl, h.1, h.2.1, h.2.2⟩
theorem made_ints (n j : Nat) (h : j < n) : (madeCells #[Value.int .i64 0] n)[j]? = some (.int .i64 0) := by
  unfold madeCells
  rw [Array.getElem?_map, Array.getElem?_range, if_pos h]
  show some (#[Value.int .i64 0][j % 1]!) = _
  rw [Nat.mod_one]
  rfl
/-- A new slice of n numbers, all 0. -/
theorem make_ints (w : World) (n : Nat) (hn : n ≤ 1000000) : (Instr.makeSlice 27 (.int .i64 (n : Int)) (.int .i64 (n : Int))).run Tryz.prog w = .ok (.slice (some ⟨w.heap.size, 0, none⟩) n n) (w.alloc (.cells (madeCells #[Value.int .i64 0] n) 3)) := by
  obtain ⟨i, hi, hz, hs, hb⟩ := infoIntV
  have := run_make (P := Tryz.prog) w 27 3 i (.int .i64 0) Tryz.underlying27 hi hz .i64 .i64 n n (by omega) (by omega) (by rw [hb]; omega) (by omega)
  rw [hs, Nat.mul_one, Int.toNat_natCast] at this
  exact this
theorem pknown_x (b o n : Nat) (c : Nat → Value) (r : Rw) (h : Hd) (w : World) (hB : Blk w b n c) (hV : RwV c o r) (hn : o + 1549 ≤ n) (hW : 1 ≤ h.W) (hW2 : h.W ≤ 16) (hH : 1 ≤ h.H) (hH2 : h.H ≤ 16) :
    Calls Tryz.prog 60 #[hdV h, .pointer (some ⟨b, o, none⟩)] w fun e w' => ∃ g, e = .returned (.slice (some ⟨g, 0, none⟩) (h.W * h.H) (h.W * h.H)) ∧ w.heap.size ≤ g ∧ (∀ j, j < h.W * h.H → w'.cell? ⟨g, j, none⟩ = some (.int .i64 (if r.known (j / h.W * 16 + j % h.W) then 1 else 0))) ∧ Kept w w' := by
  have FJ : Hid (∀ W, Calls Tryz.prog 87 #[hdV h] W fun e w' => e = .returned (.int .i64 ((h.W * h.H : Nat) : Int)) ∧ Kept W w') := fun W => psize_x h W hW hW2 hH hH2
  obtain ⟨T, hT⟩ : ∃ T, T = h.W * h.H := ⟨_, rfl⟩
  rw [← hT] at FJ ⊢
  have hT6 : T ≤ 256 := by rw [hT]; exact Nat.mul_le_mul hW2 hH2
  have HT : Hid (T = h.W * h.H) := hT
  clear hT
  unfold hdV at *
  go_enter Tryz.func60, Tryz.ntmps60
  go_wp2_with fail
  refine (FJ.out _).mono ?_
  rintro e w1 ⟨rfl, hk1⟩
  have hmk := make_ints w1 T (by omega)
  have K1 : Hid (Kept w w1) := Kept.trans (Below.alloc (Below.refl _ _) (Nat.le_refl _) _) hk1
  have hw0 : w1.cell? ⟨w.heap.size, 0, none⟩ = some (.int .i64 (h.W : Int)) := (hk1.cell (p := ⟨w.heap.size, 0, none⟩) (by simp)).trans ((World.cell?_alloc_at _ _ _ _ rfl).trans rfl)
  have hws : w.heap.size < w1.heap.size := World.block_lt_of_cell? _ _ hw0
  have K2 : Hid (Kept w1 (w1.alloc (.cells (madeCells #[Value.int .i64 0] T) 3))) := Below.alloc (Below.refl _ _) (Nat.le_refl _) _
  have HC : Hid (∀ j, j < T → (w1.alloc (.cells (madeCells #[Value.int .i64 0] T) 3)).cell? ⟨w1.heap.size, j, none⟩ = some (.int .i64 0)) := fun j hj => (World.cell?_alloc_at _ _ _ _ rfl).trans (made_ints T j hj)
  have HZ : Hid (∀ j, (w1.alloc (.cells (madeCells #[Value.int .i64 0] T) 3)).frozen? ⟨w1.heap.size, j, none⟩ = false) := fun j => World.frozen?_alloc_at _ _ _ _ rfl
  have HB2 : Hid (Blk (w1.alloc (.cells (madeCells #[Value.int .i64 0] T) 3)) b n c) := (hB.kept K1.out).kept K2.out
  have HV : Hid (RwV c o r) := hV
  have hw2 : (w1.alloc (.cells (madeCells #[Value.int .i64 0] T) 3)).cell? ⟨w.heap.size, 0, none⟩ = some (.int .i64 (h.W : Int)) := (K2.out.cell (p := ⟨w.heap.size, 0, none⟩) hws).trans hw0
  have hsz : w1.heap.size < (w1.alloc (.cells (madeCells #[Value.int .i64 0] T) 3)).heap.size := by simp
  have hbw := hB.lt
  clear hB hV hk1
  go_wp2_with fail
  generalize w1.alloc (.cells (madeCells #[Value.int .i64 0] T) 3) = w2 at *
  clear hmk
  obtain ⟨g, hg⟩ : ∃ g, g = w1.heap.size := ⟨_, rfl⟩
  rw [← hg] at HC HZ hws hsz ⊢
  replace hg : Hid _ := hg
  go_loopg [6] T (fun m v W => ∃ k : Nat, m = T - k ∧ k ≤ T ∧ v = .int .i64 (k : Int) ∧ Fr1 g w2 W ∧ (∀ j, W.frozen? ⟨g, j, none⟩ = false) ∧ (∀ j, j < T → W.cell? ⟨g, j, none⟩ = some (.int .i64 (if j < k ∧ r.known (j / h.W * 16 + j % h.W) = true then 1 else 0))))
  case atStart => exact ⟨0, by omega, by omega, rfl, Fr.refl _ _, HZ.out, fun j hj => by rw [if_neg (by omega)]; exact HC.out j hj⟩
  case round =>
    obtain ⟨k, hgk, hkT, rfl, hfr, hfz, hce⟩ := hrel
    replace hgk : Hid _ := hgk
    have HF : Hid (Fr1 g w2 wr) := hfr
    have HFz : Hid (∀ j, wr.frozen? ⟨g, j, none⟩ = false) := hfz
    have HCe : Hid (∀ j, j < T → wr.cell? ⟨g, j, none⟩ = some (.int .i64 (if j < k ∧ r.known (j / h.W * 16 + j % h.W) = true then 1 else 0))) := hce
    clear hfr hfz hce
    have hwc := (HF.out.cell (k := 0) (Nat.lt_trans hws hsz) (by omega)).trans hw2
    have g1 : (0 : Int) < (h.W : Int) := by omega
    have g0 : ¬ ((h.W : Int) = 0) := by omega
    by_cases hlt : k < T
    · have hlt' : (k : Int) < (T : Int) := by omega
      obtain ⟨X, hX⟩ : ∃ X, X = k % h.W := ⟨_, rfl⟩
      obtain ⟨Y, hY⟩ : ∃ Y, Y = k / h.W := ⟨_, rfl⟩
      have eX : (k : Int) % (h.W : Int) = (X : Int) := by rw [hX]; exact (Int.natCast_emod _ _).symm
      have eY : (k : Int) / (h.W : Int) = (Y : Int) := by rw [hY]; exact (Int.natCast_ediv _ _).symm
      have hX16 : X < 16 := by rw [hX]; exact Nat.lt_of_lt_of_le (Nat.mod_lt _ (by omega)) hW2
      have hY16 : Y < 16 := by
        rw [hY]
        refine Nat.lt_of_lt_of_le (Nat.div_lt_of_lt_mul (by rw [← HT.out]; exact hlt)) hH2
      have hbg : b ≠ g := by have := hg.out; have := K1.out.size; omega
      have FK : Hid (∀ q, Calls Tryz.prog 88 #[.pointer (some ⟨b, o, none⟩), .int .i64 (X : Int), .int .i64 (Y : Int)] (wr.drewN q) fun e w' => e = .returned (.bool (r.known (Y * 16 + X))) ∧ ∃ m, w' = (wr.drewN q).drewN m) := fun q => rknown_x b o n X Y c r (wr.drewN q) (((HB2.out.fr HF.out hbg)).kept ((Kept.refl _).drewN q)) HV.out hn hX16 hY16
      have HKK : Hid (r.known (k / h.W * 16 + k % h.W) = r.known (Y * 16 + X)) := by show r.known (k / h.W * 16 + k % h.W) = _; rw [hX, hY]
      generalize hKN : r.known (Y * 16 + X) = KN at *
      clear hKN
      replace hX : Hid _ := hX
      replace hY : Hid _ := hY
      have kg := HCe.out k hlt
      rw [if_neg (by omega)] at kg
      have zg := HFz.out k
      have k0 : (0 : Int) ≤ (k : Int) := by omega
      have tm : (k : Int).tmod (h.W : Int) = (X : Int) := by rw [Int.tmod_eq_emod_of_nonneg (by omega)]; exact eX
      have td : (k : Int).tdiv (h.W : Int) = (Y : Int) := by rw [Int.tdiv_eq_ediv_of_nonneg (by omega)]; exact eY
      cases KN with
      | false =>
        go_wp2_with fail
        go_quiet ((go_at_call 88; exact Calls.quiet_of (FK.out _)))
        go_wp2_with fail
        go_roundg (T - (k + 1))
        case measure => rw [hgk.out]; omega
        case rel =>
          refine ⟨k + 1, rfl, by omega, by go_num, HF.out.kept ((Kept.refl _).drewN _), fun j => HFz.out j, fun j hj => ?_⟩
          refine (HCe.out j hj).trans ?_
          by_cases e : j = k
          · subst e
            rw [if_neg (by omega), if_neg (fun q => by rw [HKK.out] at q; exact absurd q.2 (by simp))]
          · by_cases e2 : j < k ∧ r.known (j / h.W * 16 + j % h.W) = true
            · rw [if_pos e2, if_pos ⟨by omega, e2.2⟩]
            · rw [if_neg e2, if_neg (fun q => e2 ⟨by omega, q.2⟩)]
      | true =>
        go_wp2_with fail
        go_quiet ((go_at_call 88; exact Calls.quiet_of (FK.out _)))
        go_wp2_with fail
        go_roundg (T - (k + 1))
        case measure => rw [hgk.out]; omega
        case rel =>
          refine ⟨k + 1, rfl, by omega, by go_num, Fr1.set (HF.out.kept ((Kept.refl _).drewN _)) _ _, fun j => by rw [World.frozen?_setCell]; exact HFz.out j, fun j hj => ?_⟩
          by_cases e : j = k
          · subst e
            rw [if_pos ⟨by omega, HKK.out⟩]
            exact cell_set_same kg _
          · rw [cell_set_other _ _ _ _ _ (fun q => e q.symm)]
            refine (HCe.out j hj).trans ?_
            by_cases e2 : j < k ∧ r.known (j / h.W * 16 + j % h.W) = true
            · rw [if_pos e2, if_pos ⟨by omega, e2.2⟩]
            · rw [if_neg e2, if_neg (fun q => e2 ⟨by omega, q.2⟩)]
    · have hlt' : ¬ (k : Int) < (T : Int) := by omega
      have hkT' : k = T := by omega
      replace hkT' : Hid _ := hkT'
      go_wp2_with fail
      go_ret
      refine ⟨g, rfl, by have := hg.out; have := K1.out.size; omega, fun j hj => ?_, ?_⟩
      · refine (HCe.out j hj).trans ?_
        by_cases e2 : r.known (j / h.W * 16 + j % h.W) = true
        · rw [if_pos ⟨by rw [hkT'.out]; exact hj, e2⟩, if_pos e2]
        · rw [if_neg (fun q => e2 q.2), if_neg e2]
      · exact Fr.to_kept (K1.out.trans (by rw [hg.out] at *; exact K2.out)) HF.out (fun i hi q => by have := hg.out; have := K1.out.size; omega)
end Go.Proofs.YtkokiflklgbhfaaGreatDoor
