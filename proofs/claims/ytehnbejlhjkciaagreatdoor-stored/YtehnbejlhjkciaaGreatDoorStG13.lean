import Derived.Test.YtehnbejlhjkciaaGreatDoorStG8
import Derived.Test.YtehnbejlhjkciaaGreatDoorStG6b
import Derived.Test.YtehnbejlhjkciaaGreatDoorStG11
namespace Go.Proofs.YtehnbejlhjkciaaGreatDoor
open Go.RowKit
set_option linter.unusedSimpArgs false
set_option linter.unusedVariables false

set_option maxRecDepth 100000 in
set_option maxHeartbeats 3200000 in
theorem wdata_any (x N m g o c : Nat) (S : Nat → Prop) (cv : Value) (l cl : List Int) (w : World) (h : WrAt w x N m S) (hm0 : 0 < m) (hm : m ≤ 1073741824) (hl : LAt w .u8 (.slice (some ⟨g, o, none⟩) l.length c) l) (hB : isBytes l) (hcap : l.length ≤ c) (h0 : 0 < l.length) (hn : l.length ≤ 16777216) (hgS : ¬ S g) (hcl : LAt w .i64 cv cl) (hc0 : 0 < cl.length) (hc1 : cl.length ≤ 64) (hcS : ∀ b, sliceBlock cv = some b → ¬ S b) (hcc : ∀ y ∈ cl, 0 ≤ y ∧ y ≤ 65536) (hcf : 1 ≤ cl.getD 0 0) :
    Calls Tryz.prog 37 #[.pointer (some ⟨x, 0, none⟩), .slice (some ⟨g, o, none⟩) l.length c, cv] w fun r w' => r = .returned (.tuple #[]) ∧ ∃ k f, 1 ≤ k ∧ 1 ≤ f ∧ f ≤ l.length ∧ k ≤ 1073741824 ∧ (cl = [32768] → l.length ≤ 32768 → k = 1 ∧ f = l.length) ∧ Put x N (m + 12 * k + f) S w w' := by
  obtain ⟨cp, cc, rfl⟩ := hcl.form
  have F1 : Hid (∀ (W : World) (k f : Nat), k ≤ 1073741824 → Put x N (m + 12 * k + f) S w W → Calls Tryz.prog 48 #[.slice cp cl.length cc, .int .i64 (k : Int)] W fun r w' => r = .returned (.int .i64 (cl.getD (k % cl.length) 0)) ∧ Kept W w') := fun W k f hk hP => turns_any _ cl k W (hcl.fr hP.fr hcS) hc0 (by omega) (by omega)
  have F2 : Hid (∀ (W : World) (k f n c' : Nat), k ≤ 1073741824 → n ≤ 65536 → f + n ≤ l.length → Put x N (m + 12 * k + f) S w W → Calls Tryz.prog 56 #[.pointer (some ⟨x, 0, none⟩), .slice (some ⟨g, o + f, none⟩) n c'] W fun r w' => r = .returned (.tuple #[]) ∧ Put x N (m + 12 * k + f + 12 + n) S W w') := by
    intro W k f n c' hk hn65 hf hP
    have hlen : ((l.drop f).take n).length = n := by simp; omega
    have := dataw_any x N (m + 12 * k + f) S (.slice (some ⟨g, o + f, none⟩) n c') _ W hP.at' (by omega) ((hl.fr hP.fr (fun b hb => by
      have : g = b := by injection hb
      rw [← this]; exact hgS)).part f n c' hf) (hB.part f n) (fun n' c'' e => by injection e with e _ _; cases e) (fun b hb => by
      have : g = b := by injection hb
      rw [← this]; exact hgS) (by omega) (by rw [hlen]; omega)
    rw [hlen] at this
    exact this
  have HP0 : Hid (Put x N m S w w) := Put.refl h
  have HCC : Hid (∀ y ∈ cl, 0 ≤ y ∧ y ≤ 65536) := hcc
  have hCn : cl.length * l.length ≤ 1073741824 := Nat.le_trans (Nat.mul_le_mul hc1 hn) (by decide)
  have hCp : 0 < cl.length * l.length := Nat.mul_pos hc0 h0
  clear h hl hB hcl hcS hcc
  have eM : ((cl.length : Int) * (l.length : Int)) = ((cl.length * l.length : Nat) : Int) := by simp
  obtain ⟨Q, hQ⟩ : ∃ Q, Q = cl.length * l.length := ⟨_, rfl⟩
  rw [← hQ] at eM hCn hCp
  have hCl : (cl.length : Int) ≤ 64 := by omega
  have hll : (l.length : Int) ≤ 16777216 := by omega
  clear hQ
  go_enter Tryz.func37, Tryz.ntmps37
  go_wp2
  go_loopw [6, 7] (fun u v W => ∃ k f : Nat, u = .int .i64 (k : Int) ∧ v = .int .i64 (f : Int) ∧ f ≤ l.length ∧ k ≤ Q ∧ (0 < k → 0 < f) ∧ (k = 0 → f = 0) ∧ (cl = [32768] → l.length ≤ 32768 → (k = 0 ∧ f = 0) ∨ (k = 1 ∧ f = l.length)) ∧ Put x N (m + 12 * k + f) S w W) (fun u _ _ => Q - (intOf u).toNat)
  case atStart => exact ⟨0, 0, rfl, rfl, by omega, by omega, by omega, by omega, fun _ _ => Or.inl ⟨rfl, rfl⟩, HP0.out⟩
  case round =>
    obtain ⟨k, f, rfl, rfl, hf, hkQ, hkf, hkf0, hone, hP⟩ := hrel
    replace hone : Hid _ := hone
    by_cases hlt : f < l.length ∧ k < Q
    · obtain ⟨hlt1, hlt2⟩ := hlt
      have FT := F1.out wr k f (by omega) hP
      have hcv := HCC.out _ (getD_mem (Nat.mod_lt k hc0))
      obtain ⟨V, hV⟩ : ∃ V : Nat, cl.getD (k % cl.length) 0 = (V : Int) := ⟨(cl.getD (k % cl.length) 0).toNat, by omega⟩
      have hV1 : k = 0 → 1 ≤ V := by
        intro e; subst e
        rw [Nat.zero_mod] at hV; omega
      have hV2 : Hid (cl = [32768] → V = 32768) := by
        intro e
        subst e
        have : k % ([32768] : List Int).length = 0 := by simp [Nat.mod_one]
        rw [this] at hV
        simp at hV; omega
      rw [hV] at FT
      have hVb : V ≤ 65536 := by omega
      clear hcv hV
      replace FT : Hid (Calls Tryz.prog 48 #[.slice cp cl.length cc, .int .i64 (k : Int)] wr fun r w' => r = .returned (.int .i64 (V : Int)) ∧ Kept wr w') := FT
      replace hP : Hid (Put x N (m + 12 * k + f) S w wr) := hP
      have hV0 : (0 : Int) ≤ (V : Int) := by omega
      have l1 : (f : Int) < (l.length : Int) := by omega
      have l2 : (k : Int) < (Q : Int) := by omega
      by_cases hm' : V ≤ l.length - f
      · have hmi : (V : Int) ≤ (l.length : Int) - (f : Int) := by omega
        go_wp2_with fail
        refine FT.out.mono ?_
        rintro r w6 ⟨rfl, hk6⟩
        replace hk6 : Hid (Kept wr w6) := hk6
        go_wp2_with fail
        refine (F2.out w6 k f (V) (c - f) (by omega) (by omega) (by omega) (hP.out.kept hk6.out)).mono ?_
        rintro r w7 ⟨rfl, hw7⟩
        have HP7 : Hid (Put x N (m + 12 * (k + 1) + (f + V)) S w w7) := by
          have := (hP.out.kept hk6.out).trans hw7
          rw [show m + 12 * k + f + 12 + (V) = m + 12 * (k + 1) + (f + V) by omega] at this
          exact this
        clear hw7
        go_wp2
        refine ⟨⟨k + 1, f + V, by go_num, by first | rfl | go_num, by omega, by omega, fun _ => by omega, fun h => by omega, fun e1 e2 => ?_, HP7.out⟩, by simp [intOf]; omega⟩
        have h1 := hone.out e1 e2
        have h2 := hV2.out e1
        omega
      · have hmi : ¬ (V : Int) ≤ (l.length : Int) - (f : Int) := by omega
        go_wp2_with fail
        refine FT.out.mono ?_
        rintro r w6 ⟨rfl, hk6⟩
        replace hk6 : Hid (Kept wr w6) := hk6
        go_wp2_with fail
        refine (F2.out w6 k f (l.length - f) (c - f) (by omega) (by omega) (by omega) (hP.out.kept hk6.out)).mono ?_
        rintro r w7 ⟨rfl, hw7⟩
        have HP7 : Hid (Put x N (m + 12 * (k + 1) + (l.length)) S w w7) := by
          have := (hP.out.kept hk6.out).trans hw7
          rw [show m + 12 * k + f + 12 + (l.length - f) = m + 12 * (k + 1) + (l.length) by omega] at this
          exact this
        clear hw7
        go_wp2
        refine ⟨⟨k + 1, l.length, by go_num, by first | rfl | go_num, by omega, by omega, fun _ => by omega, fun h => by omega, fun e1 e2 => ?_, HP7.out⟩, by simp [intOf]; omega⟩
        have h1 := hone.out e1 e2
        have h2 := hV2.out e1
        omega
    · have hk1 : 1 ≤ k := by
        rcases Nat.eq_zero_or_pos k with e | e
        · have := hkf0 e
          exact absurd ⟨by omega, by omega⟩ hlt
        · exact e
      have hfin : ∃ k' f', 1 ≤ k' ∧ 1 ≤ f' ∧ f' ≤ l.length ∧ k' ≤ 1073741824 ∧ (cl = [32768] → l.length ≤ 32768 → k' = 1 ∧ f' = l.length) ∧ Put x N (m + 12 * k' + f') S w wr := by
        refine ⟨k, f, hk1, hkf hk1, hf, by omega, fun e1 e2 => ?_, hP⟩
        have := hone.out e1 e2
        omega
      replace hfin : Hid _ := hfin
      clear hP hone
      by_cases hf2 : f < l.length
      · have l1 : (f : Int) < (l.length : Int) := by omega
        have l2 : ¬ (k : Int) < (Q : Int) := by omega
        go_wp2
        go_end0
        obtain ⟨k', f', a1, a2, a3, a4, a5, a6⟩ := hfin.out
        exact ⟨rfl, k', a1, f', a2, a3, a4, a5, a6⟩
      · have l1 : ¬ (f : Int) < (l.length : Int) := by omega
        go_wp2
        go_end0
        obtain ⟨k', f', a1, a2, a3, a4, a5, a6⟩ := hfin.out
        exact ⟨rfl, k', a1, f', a2, a3, a4, a5, a6⟩
end Go.Proofs.YtehnbejlhjkciaaGreatDoor
namespace Go.Proofs.YtehnbejlhjkciaaGreatDoor
open Go.RowKit
set_option linter.unusedSimpArgs false
set_option linter.unusedVariables false

set_option maxRecDepth 100000 in
set_option maxHeartbeats 3200000 in
theorem clearOf_any (W H K D : Int) (pv cv xv : Value) (l : List Int) (w : World) (hl : LAt w .i64 cv l) (hn : l.length ≤ 65536) (hB : ∀ x ∈ l, 0 ≤ x ∧ x < 65536) :
    Calls Tryz.prog 36 #[.agg #[.int .i64 W, .int .i64 H, .int .i64 K, .int .i64 D, pv, cv, xv]] w fun r w' => ∃ ov : Value, r = .returned ov ∧ Made8 w w' ov (if K = 3 then l.length else 2 * l.length) := by
  have hk0 : Kept w (w.alloc (Obj.cells #[Value.int .i64 W, .int .i64 H, .int .i64 K, .int .i64 D, pv, cv, xv] 29)) := Below.alloc (Below.refl _ _) (Nat.le_refl _) _
  have F1 : Hid (Calls Tryz.prog 34 #[cv] (w.alloc (Obj.cells #[Value.int .i64 W, .int .i64 H, .int .i64 K, .int .i64 D, pv, cv, xv] 29)) fun r w' => ∃ ov : Value, r = .returned ov ∧ Made8 (w.alloc (Obj.cells #[Value.int .i64 W, .int .i64 H, .int .i64 K, .int .i64 D, pv, cv, xv] 29)) w' ov l.length) := singles_any cv l _ (hl.kept hk0) hn
  have F2 : Hid (Calls Tryz.prog 55 #[cv] (w.alloc (Obj.cells #[Value.int .i64 W, .int .i64 H, .int .i64 K, .int .i64 D, pv, cv, xv] 29)) fun r w' => ∃ ov : Value, r = .returned ov ∧ Made8 (w.alloc (Obj.cells #[Value.int .i64 W, .int .i64 H, .int .i64 K, .int .i64 D, pv, cv, xv] 29)) w' ov (2 * l.length)) := pairs_any cv l _ (hl.kept hk0) hn hB
  replace hk0 : Hid _ := hk0
  clear hl hB
  by_cases hK : K = 3
  · subst hK
    rw [if_pos rfl]
    go_enter Tryz.func36, Tryz.ntmps36
    go_wp2_with fail
    refine F1.out.mono ?_
    rintro r w1 ⟨ov, rfl, h⟩
    go_wp2
    go_ret
    exact ⟨ov, rfl, h.ex, h.nn, fun g hg => Nat.le_trans hk0.out.size (h.new g hg), Kept.trans hk0.out h.kept⟩
  · rw [if_neg hK]
    have hK' : (K == 3) = false := by rw [beq_eq_false_iff_ne]; exact hK
    clear hK
    go_enter Tryz.func36, Tryz.ntmps36
    go_wp2_with fail
    refine F2.out.mono ?_
    rintro r w1 ⟨ov, rfl, h⟩
    go_wp2
    go_ret
    exact ⟨ov, rfl, h.ex, h.nn, fun g hg => Nat.le_trans hk0.out.size (h.new g hg), Kept.trans hk0.out h.kept⟩
end Go.Proofs.YtehnbejlhjkciaaGreatDoor
namespace Go.Proofs.YtehnbejlhjkciaaGreatDoor
open Go.RowKit
set_option linter.unusedSimpArgs false
set_option linter.unusedVariables false

/-- The file's own blocks. -/
def S0 (x N : Nat) : Nat → Prop := fun g => g = x ∨ N ≤ g
/-- .. but one. -/
def S1 (x N d : Nat) : Nat → Prop := fun g => (g = x ∨ N ≤ g) ∧ g ≠ d
theorem Put.widen {x N n : Nat} {S S' : Nat → Prop} {w w' : World} (h : Put x N n S' w w') (hS : ∀ g, S' g → S g) (hn : ∀ g, w'.heap.size ≤ g → S g) : Put x N n S w w' :=
  ⟨h.at'.turn (fun g _ e => hS g e) hn, h.fr.mono (fun g _ e => hS g e)⟩
theorem WrF.turn {W : World} {x N g : Nat} {S S' : Nat → Prop} (h : WrF W x N g S) (hx : S' x) (hn : ∀ g, W.heap.size ≤ g → S' g) : WrF W x N g S' := ⟨h.lt, h.size, h.fz, hx, hn, h.out, h.gx, h.cl⟩
theorem WrF.kept {W W' : World} {x N g : Nat} {S : Nat → Prop} (h : WrF W x N g S) (k : Kept W W') : WrF W' x N g S := by
  obtain ⟨h1, h2, h3, sx, nw, o, gx, l, a, b, c⟩ := h
  have hx : x < W.heap.size := by omega
  exact ⟨h1, Nat.le_trans h2 k.size, fun j => (k.frozen (p := ⟨x, j, none⟩) hx).trans (h3 j), sx, fun g hg => nw g (Nat.le_trans k.size hg), (k.cell (p := ⟨x, 0, none⟩) hx).trans o, gx, l, a, b, fun j hj => (k.cell (p := ⟨g, j, none⟩) (World.block_lt_of_cell? _ _ (c j hj))).trans (c j hj)⟩
theorem size13 : (Tryz.prog.info? 102).map (·.size) = some 13 := by kernel_rfl
set_option maxRecDepth 100000 in
set_option maxHeartbeats 3200000 in
theorem headC_any (x N g W H D K L : Nat) (w : World) (h : WrF w x N g (S0 x N)) (h1 : W ≤ 16) (h2 : H ≤ 16) (h3 : D ≤ 16) (h4 : K ≤ 6) (h5 : L ≤ 1) :
    Calls Tryz.prog 32 #[.pointer (some ⟨x, 0, none⟩), .agg #[.int .i64 (W : Int), .int .i64 (H : Int), .int .i64 (D : Int), .int .i64 (K : Int), .int .i64 (L : Int)]] w fun r w' => r = .returned (.tuple #[]) ∧ Put x N 33 (S0 x N) w w' := by
  have F1 : Hid (∀ W' : World, Calls Tryz.prog 53 #[.agg #[.int .i64 (W : Int), .int .i64 (H : Int), .int .i64 (D : Int), .int .i64 (K : Int), .int .i64 (L : Int)]] W' fun r w' => ∃ cs : List Value, r = .returned (.agg cs.toArray) ∧ cs.length = 13 ∧ (∀ j, j < 13 → ∃ z : Int, 0 ≤ z ∧ z < 256 ∧ cs[j]? = some (.int .u8 z)) ∧ Kept W' w') := fun W' => hdata_any W H D K L W' h1 h2 h3 h4 h5
  have hk0 : Hid (Kept w (w.alloc (Obj.cells #[.int .i64 (W : Int), .int .i64 (H : Int), .int .i64 (D : Int), .int .i64 (K : Int), .int .i64 (L : Int)] 60))) := Below.alloc (Below.refl _ _) (Nat.le_refl _) _
  have H0 : Hid (WrF w x N g (S0 x N)) := h
  have hlt := h.lt
  have hsz := h.size
  clear h
  go_enter Tryz.func32, Tryz.ntmps32
  go_wp2_with fail
  generalize (w.alloc (Obj.cells #[.int .i64 (W : Int), .int .i64 (H : Int), .int .i64 (D : Int), .int .i64 (K : Int), .int .i64 (L : Int)] 60)) = w0 at *
  refine (F1.out _).mono ?_
  rintro r w1 ⟨cs, rfl, hcl, hcz, hk1⟩
  have hone : Hid (∀ v ∈ cs, v.oneCell' = true) := ints_one hcl hcz
  have hT : Hid ((w1.alloc (Obj.cells #[Value.int .u8 0, .int .u8 0, .int .u8 0, .int .u8 0, .int .u8 0, .int .u8 0, .int .u8 0, .int .u8 0, .int .u8 0, .int .u8 0, .int .u8 0, .int .u8 0, .int .u8 0] 102)).there w1.heap.size 0 cs.length) := by
    intro j hj
    refine ⟨?_, World.frozen?_alloc_at _ _ _ _ rfl⟩
    rw [World.cell?_alloc_at _ _ _ _ rfl, Nat.zero_add]
    have : j < 13 := by omega
    rw [Array.getElem?_eq_getElem (by simpa using this)]; rfl
  have hsc : (storeCells ⟨w1.heap.size, 0, none⟩ cs).run Tryz.prog (w1.alloc (Obj.cells #[Value.int .u8 0, .int .u8 0, .int .u8 0, .int .u8 0, .int .u8 0, .int .u8 0, .int .u8 0, .int .u8 0, .int .u8 0, .int .u8 0, .int .u8 0, .int .u8 0, .int .u8 0] 102)) = .ok () ((w1.alloc (Obj.cells #[Value.int .u8 0, .int .u8 0, .int .u8 0, .int .u8 0, .int .u8 0, .int .u8 0, .int .u8 0, .int .u8 0, .int .u8 0, .int .u8 0, .int .u8 0, .int .u8 0, .int .u8 0] 102)).setCells w1.heap.size 0 cs) := store_there hT.out hone.out
  have hr2 : Hid (Rng .u8 256 ((w1.alloc (Obj.cells #[Value.int .u8 0, .int .u8 0, .int .u8 0, .int .u8 0, .int .u8 0, .int .u8 0, .int .u8 0, .int .u8 0, .int .u8 0, .int .u8 0, .int .u8 0, .int .u8 0, .int .u8 0] 102)).setCells w1.heap.size 0 cs) w1.heap.size 0 13) := Rng.of_range (World.rangeAt_setCells_same _ _ _ _ hT.out) hcz
  have hk2 : Hid (Kept w1 ((w1.alloc (Obj.cells #[Value.int .u8 0, .int .u8 0, .int .u8 0, .int .u8 0, .int .u8 0, .int .u8 0, .int .u8 0, .int .u8 0, .int .u8 0, .int .u8 0, .int .u8 0, .int .u8 0, .int .u8 0] 102)).setCells w1.heap.size 0 cs)) := Kept.setCells (Nat.le_refl _) _ _ (Below.alloc (Below.refl _ _) (Nat.le_refl _) _)
  have hsz2 : Hid (((w1.alloc (Obj.cells #[Value.int .u8 0, .int .u8 0, .int .u8 0, .int .u8 0, .int .u8 0, .int .u8 0, .int .u8 0, .int .u8 0, .int .u8 0, .int .u8 0, .int .u8 0, .int .u8 0, .int .u8 0] 102)).setCells w1.heap.size 0 cs).heap.size = w1.heap.size + 1) := by show _ = _; rw [setCells_size]; simp
  have HK : Hid (Kept w ((w1.alloc (Obj.cells #[Value.int .u8 0, .int .u8 0, .int .u8 0, .int .u8 0, .int .u8 0, .int .u8 0, .int .u8 0, .int .u8 0, .int .u8 0, .int .u8 0, .int .u8 0, .int .u8 0, .int .u8 0] 102)).setCells w1.heap.size 0 cs)) := (hk0.out.trans hk1).trans hk2.out
  have hsw : w.heap.size ≤ w1.heap.size := (hk0.out.trans hk1).size
  clear hcz hT hone
  have hcl' := hcl
  go_wp2_with fail
  generalize (w1.alloc (Obj.cells #[Value.int .u8 0, .int .u8 0, .int .u8 0, .int .u8 0, .int .u8 0, .int .u8 0, .int .u8 0, .int .u8 0, .int .u8 0, .int .u8 0, .int .u8 0, .int .u8 0, .int .u8 0] 102)).setCells w1.heap.size 0 cs = w2 at *
  clear hsc
  obtain ⟨ll, hll, hla, hlz⟩ := Rng.lat hr2.out 13
  have HF : WrF w2 x N g (S1 x N w1.heap.size) := (H0.out.kept HK.out).turn ⟨Or.inl rfl, by omega⟩ (fun g' hg' => ⟨Or.inr (by rw [hsz2.out] at hg'; omega), by rw [hsz2.out] at hg'; omega⟩)
  have FA := fun (T : Nat) (hT : T < 4294967296) => add_core x N 8 T (S1 x N w1.heap.size) (.slice (some ⟨w1.heap.size, 0, none⟩) 13 13) ll w2 (fun q h0 h1 => num4_full x N g q w2 _ HF h0 h1) (by omega) hla (fun x hx => hlz x hx) (fun n c e => by injection e with e _ _; cases e) (fun b hb e => by
    have : w1.heap.size = b := by injection hb
    exact e.2 this.symm) (by omega) (by omega) hT
  rw [hll] at FA
  replace FA : Hid _ := FA
  refine Calls.mono (FA.out _ ?_) ?_
  rotate_left
  · rintro r w3 ⟨rfl, hw3⟩
    have H3 : Hid (Put x N 33 (S0 x N) w w3) := by
      have hz := hw3.fr.size
      have hz2 := hsz2.out
      have := hw3.widen (S := S0 x N) (fun g e => e.1) (fun g hg => Or.inr (by omega))
      exact ⟨this.at', Fr.trans (Fr.of_kept HK.out) this.fr⟩
    go_wp2
    go_end0
    exact ⟨rfl, H3.out⟩
  · decide
end Go.Proofs.YtehnbejlhjkciaaGreatDoor
