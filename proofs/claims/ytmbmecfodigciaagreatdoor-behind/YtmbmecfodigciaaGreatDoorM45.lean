import Derived.Test.YtmbmecfodigciaaGreatDoorM44
set_option maxRecDepth 100000
set_option maxHeartbeats 6400000
namespace Go.Proofs.YtmbmecfodigciaaGreatDoor
open Go.RowKit Px
set_option linter.unusedSimpArgs false
set_option linter.unusedVariables false
/-- The decoder in block g, all that is older as it was. -/
structure DI (w W : World) (g : Nat) (d : Dc) : Prop where
  kept : Kept w W
  pos : 0 < w.heap.size
  lo : w.heap.size ≤ g
  ex : ∃ c, Blk W g 5957 c ∧ DcV c 0 d
theorem DI.on {w W W' : World} {g : Nat} {d : Dc} (h : DI w W g d) (k : Kept W W') : DI w W' g d := by
  obtain ⟨c, b, v⟩ := h.ex
  exact ⟨h.kept.trans k, h.pos, h.lo, c, b.kept k, v⟩
theorem DI.step {w W W' : World} {g : Nat} {d d' : Dc} (h : DI w W g d) (k : DcStep g 5957 d' W W') : DI w W' g d' := by
  obtain ⟨e, b, v, f⟩ := k
  have h1 := h.lo
  exact ⟨Fr.to_kept h.kept f (fun i hi q => by omega), h.pos, h.lo, e, b, v⟩
theorem newDI {w W : World} (h : Kept w W) (h0 : 0 < w.heap.size) : Calls Tryz.prog 21 #[] W fun e W' => ∃ g, e = .returned (.pointer (some ⟨g, 0, none⟩)) ∧ DI w W' g dc0 := by
  refine (new_x W).mono ?_
  rintro e W' ⟨rfl, c, b, v, k⟩
  exact ⟨_, rfl, h.trans k, h0, h.size, c, b, v⟩
theorem feedDI {w W : World} {g : Nat} {d : Dc} (t : ByteArray) (h : DI w W g d) (hk : FeedOk d (bsOf t)) (hs : t.size ≤ 2147483648) (hG : GrdAt w) :
    Calls Tryz.prog 22 #[.pointer (some ⟨g, 0, none⟩), .string t] W fun e W' => e = .returned (.tuple #[.int .i64 ((d.feed (bsOf t)).err : Int), .int .i64 ((d.feed (bsOf t)).at1 : Int)]) ∧ DI w W' g (d.feed (bsOf t)) := by
  obtain ⟨c, b, v⟩ := h.ex
  have h0 := h.pos
  have h1 := h.lo
  refine (feed_x g 5957 t c d W b v (Nat.le_refl _) hk hs (hG.kept h.kept) (by omega)).mono ?_
  rintro e W' ⟨rfl, k⟩
  exact ⟨rfl, h.step k⟩
theorem closeDI {w W : World} {g : Nat} {d : Dc} (h : DI w W g d) (he : d.err = 0) (hp : d.file.part ≠ 5) :
    Calls Tryz.prog 23 #[.pointer (some ⟨g, 0, none⟩)] W fun e W' => e = .returned (.tuple #[.int .i64 23, .int .i64 (d.count : Int)]) ∧ DI w W' g { d with err := 23, at1 := d.count } := by
  obtain ⟨c, b, v⟩ := h.ex
  refine (close_cut g 5957 c d W b v (Nat.le_refl _) he hp).mono ?_
  rintro e W' ⟨rfl, k⟩
  exact ⟨rfl, h.step k⟩
/-- What a snapshot answers, its first three fields. -/
def SnA (W : World) (E A : Nat) (DN : Bool) (e : Ending) (W' : World) : Prop := ∃ cs : List Value, e = .returned (.agg cs.toArray) ∧ cs.length = 11 ∧ (∀ v ∈ cs, v.oneCell' = true) ∧ cs[0]? = some (.int .i64 (E : Int)) ∧ cs[1]? = some (.int .i64 (A : Int)) ∧ cs[2]? = some (.bool DN) ∧ Kept W W'
/-- The reader's state may be shown. -/
structure ShowOk (s : Rd) : Prop where
  hd : RdHd s
  clear : ∀ j, s.tl.clear j < 256
  sm : SmI s
theorem snapDI {w W : World} {g : Nat} {d : Dc} (h : DI w W g d) (hs : ShowOk d.file) (hG : GrdAt w) :
    Calls Tryz.prog 24 #[.pointer (some ⟨g, 0, none⟩)] W (SnA W d.err d.at1 (decide (d.err = 0) && decide (d.file.part = 5))) := by
  obtain ⟨c, B, v⟩ := h.ex
  refine (snap_d g 5957 c d W B v (Nat.le_refl _) ?_ (hG.kept h.kept)).mono ?_
  · by_cases q : d.file.hd.W = 0
    · exact Or.inl q
    · refine Or.inr ⟨v.file.rw, v.file.tl, by omega, by omega, hs.clear, hs.sm.1, hs.hd.K, by omega, hs.hd.W, ?_, hs.hd.H, hs.hd.L⟩
      rcases hs.sm.2 with e | e
      · exact absurd e q
      · exact e
  · rintro e W' ⟨cs, rfl, h1, h2, h3, h4, h5, h6⟩
    exact ⟨cs, rfl, h1, h2, h3, h4, h5, h6⟩
theorem feedOk_err {d : Dc} (h : d.err ≠ 0) (l : List Nat) : FeedOk d l := by
  intro k x _ e
  rw [feed_err h] at e
  exact absurd e h
/-- The decoder ahead of byte k of a file. -/
theorem fed_pre {W H D K L P V : Nat} {pal clr pix fl kl cl : List Int} {s : ByteArray} (h : FileT W H D K L P V pal clr pix fl kl s) (ok : OkIm W H K D pal clr pix) (hc : OkCh L P V fl kl cl) (k : Nat) (hk : k < s.size) :
    ∃ a, FeedOk dc0 (bsOf (s.extract 0 k)) ∧ dc0.feed (bsOf (s.extract 0 k)) = ⟨a, k, 0, 0⟩ ∧ a.part ≠ 5 ∧ ShowOk a := by
  obtain ⟨b, h1, h2, h3, h4, h5⟩ := fileT_taken h ok hc
  have hsz := (fileT_size h).2
  obtain ⟨a, g1, g2, g3, g4⟩ := pre_state h1 k (by rw [bsOf_length]; exact hk)
  have e : bsOf (s.extract 0 k) = (bsOf s).take k := by rw [bsOf_extr, List.drop_zero, Nat.sub_zero]
  have hl : ((bsOf s).take k).length = k := by rw [List.length_take, bsOf_length]; omega
  rw [e]
  refine ⟨a, Rn.ok (d := dc0) g1 rfl (by rw [hl]; show 0 + k ≤ _; omega), ?_, g2, g3.hd, g3.clear, g4⟩
  rw [Rn.feed (d := dc0) g1 rfl, hl]
  show (⟨a, 0 + k, 0, 0⟩ : Dc) = _
  rw [Nat.zero_add]
def snN : Array Value := #[.int .i64 0, .int .i64 0, .bool false, .int .i64 0, .int .i64 0, .int .i64 0, .int .i64 0, .int .i64 0, .slice none 0 0, .slice none 0 0, .slice none 0 0]
/-- A snapshot laid into a variable. -/
theorem snap_lay (W : World) (cs : List Value) (hl : cs.length = 11) (ho : ∀ v ∈ cs, v.oneCell' = true) :
    (storeCells ⟨W.heap.size, 0, none⟩ cs).run Tryz.prog (W.alloc (Obj.cells snN 50)) = .ok () ((W.alloc (Obj.cells snN 50)).setCells W.heap.size 0 cs) ∧ ((W.alloc (Obj.cells snN 50)).setCells W.heap.size 0 cs).rangeAt W.heap.size 0 cs ∧ Kept W ((W.alloc (Obj.cells snN 50)).setCells W.heap.size 0 cs) := by
  have B : Blk (W.alloc (Obj.cells snN 50)) W.heap.size 11 (fun i => snN.getD i undef) := Blk.new W snN _ 11 rfl
  have T : (W.alloc (Obj.cells snN 50)).there W.heap.size 0 cs.length := by rw [hl]; exact B.there (by omega)
  exact ⟨store_all T ho, World.rangeAt_setCells_same _ _ _ _ T, Kept.setCells (Nat.le_refl _) _ _ ((Below.refl _ _).alloc (Nat.le_refl _) _)⟩
theorem kshort_x (x wd H K D L P V Z : Nat) (a : Int) (pp qp xp fp kp cp : Option Addr) (pc qc xc fc kc cc : Nat) (pal clr pix fl kl cl : List Int) (ff : ByteArray) (w : World) (h : Dk w x wd H K D L P V Z pp qp xp fp kp cp pc qc xc fc kc cc pal clr pix fl kl cl) (hx0 : x ≠ 0) (hf : FileT wd H D K L P V pal clr pix fl kl ff) (h14 : w.cell? ⟨x, 14, none⟩ = some (.string ff)) (ha1 : -9223372036854775808 ≤ a) (ha2 : a < 9223372036854775808) :
    Calls Tryz.prog 14 #[.pointer (some ⟨x, 0, none⟩), .int .i64 a] w fun r w' => r = .returned (.bool true) ∧ Kept w w' := by
  have hGr : GrdAt w := grd_x h.grid
  have hw0 : 0 < w.heap.size := World.block_lt_of_cell? w ⟨0, 0, none⟩ (h.grid 0 (by omega))
  obtain ⟨hs1, hs2⟩ := fileT_size hf
  have FP : Hid (Calls Tryz.prog 17 #[.int .i64 a, .int .i64 (ff.size : Int)] w fun r w' => (∃ k : Nat, k < ff.size ∧ r = .returned (.int .i64 (k : Int))) ∧ w' = w) := pick_any a ff.size w ha1 ha2 (by omega) (by omega)
  have HF : Hid (∀ k, k < ff.size → ∃ a, FeedOk dc0 (bsOf (ff.extract 0 k)) ∧ dc0.feed (bsOf (ff.extract 0 k)) = ⟨a, k, 0, 0⟩ ∧ a.part ≠ 5 ∧ ShowOk a) := fun k hk => fed_pre hf h.im h.ch k hk
  have H14 : Hid (∀ W', Kept w W' → W'.cell? ⟨x, 14, none⟩ = some (.string ff)) := fun W' k => (k.cell (p := ⟨x, 14, none⟩) (World.block_lt_of_cell? _ _ h14)).trans h14
  have HG : Hid (GrdAt w) := hGr
  clear h hf hGr
  go_enter Tryz.func14, Tryz.ntmps14
  go_wp2_with fail
  refine FP.out.mono ?_
  rintro r w1 ⟨⟨k, hk, rfl⟩, hw1⟩
  subst w1
  obtain ⟨A, q1, q2, q3, q4⟩ := HF.out k hk
  have hki : (k : Int) < (ff.size : Int) := by omega
  have hkl : (k : Int) ≤ (ff.size : Int) := by omega
  have hk0 : (0 : Int) ≤ (k : Int) := by omega
  have F1 : Hid (∀ W' g, DI w W' g dc0 → Calls Tryz.prog 22 #[.pointer (some ⟨g, 0, none⟩), .string (ff.extract 0 k)] W' fun e W2 => e = .returned (.tuple #[.int .i64 0, .int .i64 0]) ∧ DI w W2 g ⟨A, k, 0, 0⟩) := fun W' g hD => by
    have := feedDI (ff.extract 0 k) hD q1 (by rw [ByteArray.size_extract]; omega) HG.out
    rw [q2] at this
    exact this
  have F2 : Hid (∀ W' g, DI w W' g ⟨A, k, 0, 0⟩ → Calls Tryz.prog 23 #[.pointer (some ⟨g, 0, none⟩)] W' fun e W2 => e = .returned (.tuple #[.int .i64 23, .int .i64 (k : Int)]) ∧ DI w W2 g ⟨A, k, 23, k⟩) := fun W' g hD => closeDI hD rfl q3
  have F3 : Hid (∀ W' g, DI w W' g ⟨A, k, 23, k⟩ → Calls Tryz.prog 22 #[.pointer (some ⟨g, 0, none⟩), .string (ff.extract k ff.size)] W' fun e W2 => e = .returned (.tuple #[.int .i64 23, .int .i64 (k : Int)]) ∧ DI w W2 g ⟨A, k, 23, k⟩) := fun W' g hD => by
    have ne : (⟨A, k, 23, k⟩ : Dc).err ≠ 0 := by show (23 : Nat) ≠ 0; decide
    have := feedDI (ff.extract k ff.size) hD (feedOk_err ne _) (by rw [ByteArray.size_extract]; omega) HG.out
    rw [feed_err ne] at this
    exact this
  have F4 : Hid (∀ W' g, DI w W' g ⟨A, k, 23, k⟩ → Calls Tryz.prog 24 #[.pointer (some ⟨g, 0, none⟩)] W' (SnA W' 23 k false)) := fun W' g hD => snapDI (d := ⟨A, k, 23, k⟩) hD q4 HG.out
  have F0 : Hid (Calls Tryz.prog 21 #[] w fun e W' => ∃ g, e = .returned (.pointer (some ⟨g, 0, none⟩)) ∧ DI w W' g dc0) := newDI (Kept.refl _) hw0
  clear q1 q2 q3 q4 HF FP
  go_wp2_with fail
  refine F0.out.mono ?_
  rintro r w2 ⟨g, rfl, hD2⟩
  have y2 := H14.out w2 hD2.kept
  have D2 : Hid (DI w w2 g dc0) := hD2
  clear hD2 h14
  go_wp2_with fail
  refine (F1.out w2 g D2.out).mono ?_
  rintro r w3 ⟨rfl, hD3⟩
  have D3 : Hid (DI w w3 g ⟨A, k, 0, 0⟩) := hD3
  clear hD3 D2 y2
  go_wp2_with fail
  refine (F2.out w3 g D3.out).mono ?_
  rintro r w4 ⟨rfl, hD4⟩
  have y4 := H14.out w4 hD4.kept
  have D4 : Hid (DI w w4 g ⟨A, k, 23, k⟩) := hD4
  clear hD4 D3
  go_wp2_with fail
  refine (F3.out w4 g D4.out).mono ?_
  rintro r w5 ⟨rfl, hD5⟩
  have D5 : Hid (DI w w5 g ⟨A, k, 23, k⟩) := hD5
  clear hD5 D4 y4
  go_wp2_with fail
  refine (F4.out w5 g D5.out).mono ?_
  rintro r w6 ⟨cs, rfl, hl, ho, _, _, c2, hk6⟩
  obtain ⟨hsc, hrg, hkl6⟩ := snap_lay w6 cs hl ho
  unfold snN at hsc hrg hkl6
  have K6 : Hid (Kept w ((w6.alloc (Obj.cells #[.int .i64 0, .int .i64 0, .bool false, .int .i64 0, .int .i64 0, .int .i64 0, .int .i64 0, .int .i64 0, .slice none 0 0, .slice none 0 0, .slice none 0 0] 50)).setCells w6.heap.size 0 cs)) := (D5.out.kept.trans hk6).trans hkl6
  have j2 := hrg 2 _ c2
  rw [Nat.zero_add] at j2
  replace hl : Hid _ := hl
  replace ho : Hid _ := ho
  replace c2 : Hid _ := c2
  replace hrg : Hid _ := hrg
  replace hkl6 : Hid _ := hkl6
  replace hk6 : Hid _ := hk6
  clear D5
  go_wp2
  go_ret
  exact ⟨rfl, K6.out⟩
theorem keep_part (s : Rd) (x : Nat) : (s.keep x).1.part = s.part := by
  unfold Rd.keep
  split
  · rfl
  · split
    · rfl
    · split
      · rfl
      · split
        · unfold Rd.takeStream
          split
          · rfl
          · split
            · rfl
            · rfl
        · rfl
theorem accept_part (s : Rd) : s.accept.1.part = s.part ∧ s.accept.1.sum = s.sum := by
  unfold Rd.accept
  split
  · unfold Rd.acceptHead
    split
    · exact ⟨rfl, rfl⟩
    · exact ⟨rfl, rfl⟩
  · split
    · exact ⟨rfl, rfl⟩
    · exact ⟨rfl, rfl⟩
theorem fin_step {a : Rd} {x : Nat} (k : TakeOk a x) (h0 : (a.take x).2 = 0) (h5 : (a.take x).1.part = 5) : (a.take x).1.taken = 0 ∧ (a.take x).1.sum < 4294967296 := by
  have np := part5 h0
  have hp := k.part
  have hs := k.sum
  unfold Rd.take at h0 h5 ⊢
  by_cases p0 : a.part = 0
  · rw [if_pos p0] at h5
    exfalso
    unfold Rd.takeSign at h5
    split at h5
    · replace h5 : a.part = 5 := h5; omega
    · split at h5
      · exact absurd (show (1 : Nat) = 5 from h5) (by decide)
      · replace h5 : a.part = 5 := h5; omega
  rw [if_neg p0] at h0 h5 ⊢
  by_cases p1 : a.part = 1
  · rw [if_pos p1] at h5
    exfalso
    unfold Rd.takeLength at h5
    split at h5
    · replace h5 : a.part = 5 := h5; omega
    · split at h5
      · replace h5 : a.part = 5 := h5; omega
      · exact absurd (show (2 : Nat) = 5 from h5) (by decide)
  rw [if_neg p1] at h0 h5 ⊢
  by_cases p2 : a.part = 2
  · rw [if_pos p2] at h5
    exfalso
    unfold Rd.takeType at h5
    split at h5
    · replace h5 : a.part = 5 := h5; omega
    · split at h5
      · replace h5 : a.part = 5 := h5; omega
      · split at h5
        · exact absurd (show (4 : Nat) = 5 from h5) (by decide)
        · exact absurd (show (3 : Nat) = 5 from h5) (by decide)
  rw [if_neg p2] at h0 h5 ⊢
  by_cases p3 : a.part = 3
  · rw [if_pos p3] at h5
    exfalso
    have hk : ((a.summed x).keep x).1.part = 3 := (keep_part (a.summed x) x).trans p3
    unfold Rd.takeData at h5
    split at h5
    · omega
    · replace h5 : ((a.summed x).keep x).1.dataEnd.part = 5 := h5
      unfold Rd.dataEnd at h5
      split at h5
      · exact absurd (show (4 : Nat) = 5 from h5) (by decide)
      · replace h5 : ((a.summed x).keep x).1.part = 5 := h5; omega
  rw [if_neg p3] at h0 h5 ⊢
  have p4 : a.part = 4 := by omega
  rw [if_pos p4] at h0 h5 ⊢
  have ha := accept_part (a.num x)
  have ha2 : (a.num x).accept.1.sum < 4294967296 := by rw [ha.2]; exact hs
  have ha1 : (a.num x).accept.1.part = 4 := ha.1.trans p4
  unfold Rd.takeSum at h0 h5 ⊢
  by_cases t1 : a.taken + 1 ≠ 4
  · rw [if_pos t1] at h5
    replace h5 : a.part = 5 := h5
    omega
  rw [if_neg t1] at h0 h5 ⊢
  by_cases t2 : a.number * 256 + x ≠ crcEnd a.sum
  · rw [if_pos t2] at h5
    replace h5 : a.part = 5 := h5
    omega
  rw [if_neg t2] at h0 h5 ⊢
  by_cases t3 : (a.num x).accept.2 ≠ 0
  · rw [if_pos t3] at h0
    exact absurd h0 t3
  rw [if_neg t3] at h0 h5 ⊢
  by_cases t4 : (a.num x).accept.1.ctype = iend
  · rw [if_pos t4]
    exact ⟨rfl, ha2⟩
  · rw [if_neg t4] at h5
    exact absurd (show (1 : Nat) = 5 from h5) (by decide)
/-- Behind the file another byte meets what it may. -/
theorem end_ok {l : List Nat} {b : Rd} (h : Rn rd0 l b) (h5 : b.part = 5) (hi : RdInv b) (y : Nat) : TakeOk b y := by
  have hl : 0 < l.length := by
    rcases Nat.eq_zero_or_pos l.length with q | q
    · have : l = [] := List.length_eq_zero_iff.1 q
      subst this
      have e : rd0 = b := h
      rw [← e] at h5
      exact absurd (show (0 : Nat) = 5 from h5) (by decide)
    · exact q
  obtain ⟨a, h1, h2, h3, h4⟩ := h.at (l.length - 1) l[l.length - 1] (List.getElem?_eq_getElem (by omega))
  rw [show l.length - 1 + 1 = l.length from by omega, List.drop_length] at h4
  have e : (a.take l[l.length - 1]).1 = b := h4
  have hf := fin_step h2 h3 (by rw [e]; exact h5)
  rw [e] at hf
  exact ⟨by omega, fun _ => by rw [hf.1]; omega, fun q => by omega, hf.2, fun q => by omega, hi.hd, fun q => by omega, fun q => by omega, hi.raw, hi.clear⟩
theorem take_end5 {b : Rd} (h5 : b.part = 5) (y : Nat) : b.take y = (b, 22) := by
  unfold Rd.take
  rw [if_neg (by omega), if_neg (by omega), if_neg (by omega), if_neg (by omega), if_neg (by omega)]
/-- A byte behind the file. -/
theorem fed_more {W H D K L P V : Nat} {pal clr pix fl kl cl : List Int} {s : ByteArray} (h : FileT W H D K L P V pal clr pix fl kl s) (ok : OkIm W H K D pal clr pix) (hc : OkCh L P V fl kl cl) :
    ∃ b, FeedOk dc0 (bsOf s) ∧ dc0.feed (bsOf s) = ⟨b, s.size, 0, 0⟩ ∧ ShowOk b ∧ ∀ y, FeedOk ⟨b, s.size, 0, 0⟩ [y] ∧ (⟨b, s.size, 0, 0⟩ : Dc).feed [y] = ⟨b, s.size, 22, s.size⟩ := by
  obtain ⟨b, h1, h2, h3, h4, h5⟩ := fileT_taken h ok hc
  have hsz := (fileT_size h).2
  have hl : (bsOf s).length = s.size := bsOf_length s
  refine ⟨b, Rn.ok (d := dc0) h1 rfl (by rw [hl]; show 0 + s.size ≤ _; omega), ?_, ⟨h5.hd, h5.clear, h1.smI smI0⟩, fun y => ⟨?_, ?_⟩⟩
  · rw [Rn.feed (d := dc0) h1 rfl, hl]
    show (⟨b, 0 + s.size, 0, 0⟩ : Dc) = _
    rw [Nat.zero_add]
  · intro k x e _
    have hk : k = 0 := by
      have := (List.getElem?_eq_some_iff.1 e).1
      simp at this; exact this
    subst hk
    have ey : y = x := by simpa using e
    subst ey
    exact ⟨end_ok h1 h2 h5 y, by show s.size ≤ 4294967296; omega⟩
  · show Dc.one ⟨b, s.size, 0, 0⟩ y = _
    unfold Dc.one
    rw [if_neg (show ¬ ((0 : Nat) ≠ 0) from fun q => q rfl), take_end5 h2, if_pos (show ((b, 22) : Rd × Nat).2 ≠ 0 from by show (22 : Nat) ≠ 0; decide)]
theorem kbehind_x (x wd H K D L P V Z : Nat) (a : Int) (pp qp xp fp kp cp : Option Addr) (pc qc xc fc kc cc : Nat) (pal clr pix fl kl cl : List Int) (ff : ByteArray) (w : World) (h : Dk w x wd H K D L P V Z pp qp xp fp kp cp pc qc xc fc kc cc pal clr pix fl kl cl) (hx0 : x ≠ 0) (hf : FileT wd H D K L P V pal clr pix fl kl ff) (h14 : w.cell? ⟨x, 14, none⟩ = some (.string ff)) :
    Calls Tryz.prog 15 #[.pointer (some ⟨x, 0, none⟩), .int .i64 a] w fun r w' => r = .returned (.bool true) ∧ Kept w w' := by
  have hGr : GrdAt w := grd_x h.grid
  have hw0 : 0 < w.heap.size := World.block_lt_of_cell? w ⟨0, 0, none⟩ (h.grid 0 (by omega))
  obtain ⟨hs1, hs2⟩ := fileT_size hf
  obtain ⟨A, q1, q2, q3, q4⟩ := fed_more hf h.im h.ch
  have H14 : Hid (∀ W', Kept w W' → W'.cell? ⟨x, 14, none⟩ = some (.string ff)) := fun W' k => (k.cell (p := ⟨x, 14, none⟩) (World.block_lt_of_cell? _ _ h14)).trans h14
  have HG : Hid (GrdAt w) := hGr
  have F1 : Hid (∀ W' g, DI w W' g dc0 → Calls Tryz.prog 22 #[.pointer (some ⟨g, 0, none⟩), .string ff] W' fun e W2 => e = .returned (.tuple #[.int .i64 0, .int .i64 0]) ∧ DI w W2 g ⟨A, ff.size, 0, 0⟩) := fun W' g hD => by
    have := feedDI ff hD q1 (by omega) HG.out
    rw [q2] at this
    exact this
  have F2 : Hid (∀ W' g t, t.size = 1 → DI w W' g ⟨A, ff.size, 0, 0⟩ → Calls Tryz.prog 22 #[.pointer (some ⟨g, 0, none⟩), .string t] W' fun e W2 => e = .returned (.tuple #[.int .i64 22, .int .i64 (ff.size : Int)]) ∧ DI w W2 g ⟨A, ff.size, 22, ff.size⟩) := fun W' g t ht hD => by
    obtain ⟨y, hy⟩ : ∃ y, bsOf t = [y] := List.length_eq_one_iff.1 (by rw [bsOf_length]; exact ht)
    have := feedDI t hD (by rw [hy]; exact (q4 y).1) (by omega) HG.out
    rw [hy, (q4 y).2] at this
    exact this
  have F4 : Hid (∀ W' g, DI w W' g ⟨A, ff.size, 22, ff.size⟩ → Calls Tryz.prog 24 #[.pointer (some ⟨g, 0, none⟩)] W' (SnA W' 22 ff.size false)) := fun W' g hD => snapDI (d := ⟨A, ff.size, 22, ff.size⟩) hD q3 HG.out
  have F0 : Hid (Calls Tryz.prog 21 #[] w fun e W' => ∃ g, e = .returned (.pointer (some ⟨g, 0, none⟩)) ∧ DI w W' g dc0) := newDI (Kept.refl _) hw0
  clear q1 q2 q3 q4 h hf hGr
  go_enter Tryz.func15, Tryz.ntmps15
  go_wp2_with fail
  refine F0.out.mono ?_
  rintro r w2 ⟨g, rfl, hD2⟩
  have y2 := H14.out w2 hD2.kept
  have D2 : Hid (DI w w2 g dc0) := hD2
  clear hD2 h14
  go_wp2_with fail
  refine (F1.out w2 g D2.out).mono ?_
  rintro r w3 ⟨rfl, hD3⟩
  have D3 : Hid (DI w w3 g ⟨A, ff.size, 0, 0⟩) := hD3
  have D3a : Hid (∀ o, DI w (w3.alloc o) g ⟨A, ff.size, 0, 0⟩) := fun o => D3.out.on ((Below.refl _ _).alloc (Nat.le_refl _) o)
  clear hD3 D2 y2
  have hcv := run_convert_bytes_arg (P := Tryz.prog) (w3.alloc (Obj.cells #[.int .u8 (a % 256)] 5)) 56 5 Tryz.underlying56 Tryz.underlying5 w3.heap.size 0 1 1 [a % 256] rfl (fun i hi => by
    have e : i = 0 := by simpa using hi
    subst e
    rw [World.cell?_alloc_at _ _ _ _ rfl]; rfl) 9 Tryz.underlying9
  obtain ⟨t1, ht1⟩ : ∃ t, t = strOfNums [a % 256] := ⟨_, rfl⟩
  have hts : Hid (t1.size = 1) := by show t1.size = 1; rw [ht1, strOfNums_size]; rfl
  rw [← ht1] at hcv
  clear ht1
  go_wp2_with fail
  refine (F2.out _ g t1 hts.out (D3a.out _)).mono ?_
  rintro r w5 ⟨rfl, hD5⟩
  have D5 : Hid (DI w w5 g ⟨A, ff.size, 22, ff.size⟩) := hD5
  clear hD5 D3 D3a
  go_wp2_with fail
  refine (F4.out w5 g D5.out).mono ?_
  rintro r w6 ⟨cs, rfl, hl, ho, _, _, c2, hk6⟩
  obtain ⟨hsc, hrg, hkl6⟩ := snap_lay w6 cs hl ho
  unfold snN at hsc hrg hkl6
  have K6 : Hid (Kept w ((w6.alloc (Obj.cells #[.int .i64 0, .int .i64 0, .bool false, .int .i64 0, .int .i64 0, .int .i64 0, .int .i64 0, .int .i64 0, .slice none 0 0, .slice none 0 0, .slice none 0 0] 50)).setCells w6.heap.size 0 cs)) := (D5.out.kept.trans hk6).trans hkl6
  have j2 := hrg 2 _ c2
  rw [Nat.zero_add] at j2
  have y6 := H14.out _ K6.out
  replace hl : Hid _ := hl
  replace ho : Hid _ := ho
  replace c2 : Hid _ := c2
  replace hrg : Hid _ := hrg
  replace hkl6 : Hid _ := hkl6
  replace hk6 : Hid _ := hk6
  clear D5
  go_wp2
  go_ret
  exact ⟨rfl, K6.out⟩
theorem shortLaw_x (a b i : Int) (s t u v : ByteArray) (w : World) (ha1 : -9223372036854775808 ≤ a) (ha2 : a < 9223372036854775808) (hb1 : -9223372036854775808 ≤ b) (hb2 : b < 9223372036854775808) (hs : s.size < 9223372036854775808) (ht : t.size < 9223372036854775808) (hu : u.size < 9223372036854775808) (hv : v.size < 9223372036854775808) (hi1 : -9223372036854775808 ≤ i) (hi2 : i < 9223372036854775808) (hG : GridAt w) :
    Calls Tryz.prog 6 #[.int .i64 a, .string s, .string t, .int .i64 b, .string u, .string v, .int .i64 i] w fun r w' => r = .returned (.bool true) ∧ Kept w w' := by
  have FF : Hid (∀ W' : World, Calls Tryz.prog 10 #[.string s, .string t, .string u, .string v] W' fun r w' => r = .returned (.bool (decide (65536 < s.size ∨ 65536 < t.size ∨ 65536 < u.size ∨ 65536 < v.size))) ∧ w' = W') := fun W' => far_any s t u v W' hs ht hu hv
  have FD : Hid (Calls Tryz.prog 9 #[.int .i64 a, .string s, .string t, .int .i64 b, .string u, .string v] w fun r w' => (decide (65536 < s.size ∨ 65536 < t.size ∨ 65536 < u.size ∨ 65536 < v.size) = true ∧ r = .returned (.pointer none) ∨ decide (65536 < s.size ∨ 65536 < t.size ∨ 65536 < u.size ∨ 65536 < v.size) = false ∧ DeskX w w' r) ∧ Kept w w') := desked_x a b s t u v w ha1 ha2 hb1 hb2 hs ht hu hv hG
  generalize decide (65536 < s.size ∨ 65536 < t.size ∨ 65536 < u.size ∨ 65536 < v.size) = far at *
  clear hG
  go_enter Tryz.func6, Tryz.ntmps6
  go_wp2_with fail
  refine FD.out.mono ?_
  rintro r w1 ⟨h | ⟨_, x, wd, H, K, D, L, P, V, Z, pp, qp, xp, fp, kp, cp, pc, qc, xc, fc, kc, cc, pal, clr, pix, fl, kl, cl, ff, rfl, hx0, hx1, hD, hfT, h14⟩, hk1⟩
  · obtain ⟨rfl, rfl⟩ := h
    have HK : Hid (Kept w w1) := hk1
    clear hk1
    go_wp2_with fail
    refine (FF.out _).mono ?_
    rintro r w2 ⟨rfl, hw⟩
    subst w2
    go_wp2
    go_ret
    exact ⟨rfl, HK.out⟩
  · have HK : Hid (Kept w w1) := hk1
    have HD : Hid (Dk w1 x wd H K D L P V Z pp qp xp fp kp cp pc qc xc fc kc cc pal clr pix fl kl cl) := hD
    have HFT : Hid (FileT wd H D K L P V pal clr pix fl kl ff) := hfT
    have H14 : Hid (w1.cell? ⟨x, 14, none⟩ = some (.string ff)) := h14
    clear hk1 hD hfT h14
    go_wp2_with fail
    refine (kshort_x x wd H K D L P V Z i pp qp xp fp kp cp pc qc xc fc kc cc pal clr pix fl kl cl ff w1 HD.out hx0 HFT.out H14.out hi1 hi2).mono ?_
    rintro r w2 ⟨rfl, hk2⟩
    have HK2 : Hid (Kept w w2) := HK.out.trans hk2
    clear hk2
    go_wp2
    go_ret
    exact ⟨rfl, HK2.out⟩
theorem behindLaw_x (a b i : Int) (s t u v : ByteArray) (w : World) (ha1 : -9223372036854775808 ≤ a) (ha2 : a < 9223372036854775808) (hb1 : -9223372036854775808 ≤ b) (hb2 : b < 9223372036854775808) (hs : s.size < 9223372036854775808) (ht : t.size < 9223372036854775808) (hu : u.size < 9223372036854775808) (hv : v.size < 9223372036854775808) (hi1 : -9223372036854775808 ≤ i) (hi2 : i < 9223372036854775808) (hG : GridAt w) :
    Calls Tryz.prog 7 #[.int .i64 a, .string s, .string t, .int .i64 b, .string u, .string v, .int .i64 i] w fun r w' => r = .returned (.bool true) ∧ Kept w w' := by
  have FF : Hid (∀ W' : World, Calls Tryz.prog 10 #[.string s, .string t, .string u, .string v] W' fun r w' => r = .returned (.bool (decide (65536 < s.size ∨ 65536 < t.size ∨ 65536 < u.size ∨ 65536 < v.size))) ∧ w' = W') := fun W' => far_any s t u v W' hs ht hu hv
  have FD : Hid (Calls Tryz.prog 9 #[.int .i64 a, .string s, .string t, .int .i64 b, .string u, .string v] w fun r w' => (decide (65536 < s.size ∨ 65536 < t.size ∨ 65536 < u.size ∨ 65536 < v.size) = true ∧ r = .returned (.pointer none) ∨ decide (65536 < s.size ∨ 65536 < t.size ∨ 65536 < u.size ∨ 65536 < v.size) = false ∧ DeskX w w' r) ∧ Kept w w') := desked_x a b s t u v w ha1 ha2 hb1 hb2 hs ht hu hv hG
  generalize decide (65536 < s.size ∨ 65536 < t.size ∨ 65536 < u.size ∨ 65536 < v.size) = far at *
  clear hG
  go_enter Tryz.func7, Tryz.ntmps7
  go_wp2_with fail
  refine FD.out.mono ?_
  rintro r w1 ⟨h | ⟨_, x, wd, H, K, D, L, P, V, Z, pp, qp, xp, fp, kp, cp, pc, qc, xc, fc, kc, cc, pal, clr, pix, fl, kl, cl, ff, rfl, hx0, hx1, hD, hfT, h14⟩, hk1⟩
  · obtain ⟨rfl, rfl⟩ := h
    have HK : Hid (Kept w w1) := hk1
    clear hk1
    go_wp2_with fail
    refine (FF.out _).mono ?_
    rintro r w2 ⟨rfl, hw⟩
    subst w2
    go_wp2
    go_ret
    exact ⟨rfl, HK.out⟩
  · have HK : Hid (Kept w w1) := hk1
    have HD : Hid (Dk w1 x wd H K D L P V Z pp qp xp fp kp cp pc qc xc fc kc cc pal clr pix fl kl cl) := hD
    have HFT : Hid (FileT wd H D K L P V pal clr pix fl kl ff) := hfT
    have H14 : Hid (w1.cell? ⟨x, 14, none⟩ = some (.string ff)) := h14
    clear hk1 hD hfT h14
    go_wp2_with fail
    refine (kbehind_x x wd H K D L P V Z i pp qp xp fp kp cp pc qc xc fc kc cc pal clr pix fl kl cl ff w1 HD.out hx0 HFT.out H14.out).mono ?_
    rintro r w2 ⟨rfl, hk2⟩
    have HK2 : Hid (Kept w w2) := HK.out.trans hk2
    clear hk2
    go_wp2
    go_ret
    exact ⟨rfl, HK2.out⟩
end Go.Proofs.YtmbmecfodigciaaGreatDoor
