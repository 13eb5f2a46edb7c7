import Derived.Test.YtehnbejlhjkciaaGreatDoorStG8
import Derived.Test.YtehnbejlhjkciaaGreatDoorStG6b
import Derived.Lib.SmallJoins
import Derived.Laws.BytesArg
import Derived.Deep.RegionHeld3
namespace Go.Proofs.YtehnbejlhjkciaaGreatDoor
open Go.RowKit
set_option linter.unusedSimpArgs false
set_option linter.unusedVariables false

theorem heap_alloc_at (w : World) (o : Obj) (n : Nat) (hn : n = w.heap.size) : (w.alloc o).heap[n]? = some o := by subst hn; exact heap_alloc_new w o
/-- The file's first eight bytes, in a row that is full. -/
structure WrF (W : World) (x N g : Nat) (S : Nat → Prop) : Prop where
  lt : x < N
  size : N ≤ W.heap.size
  fz : ∀ k, W.frozen? ⟨x, k, none⟩ = false
  sx : S x
  new : ∀ g, W.heap.size ≤ g → S g
  out : W.cell? ⟨x, 0, none⟩ = some (.slice (some ⟨g, 0, none⟩) 8 8)
  gx : g ≠ x
  cl : ∃ l : List Int, l.length = 8 ∧ isBytes l ∧ ∀ j, j < 8 → W.cell? ⟨g, j, none⟩ = some (.int .u8 (l.getD j 0))
/-- Bytes behind a row that is full. -/
theorem append8F (w : World) {ops : Array Oper} {rest : List Oper} {o : Oper} {a : Act} {Q : Exit → Act → World → Prop}
    (hg : o.guard = none) (s x : Operand) (hop : o.op = Op.call { callee := Callee.builtin Builtin.append, args := #[s, x], argTypes := #[61, 61] })
    (N g n : Nat) (hs : a.eval s = .slice (some ⟨g, 0, none⟩) n n) (ol : List Int) (hol : ol.length = n) (hob : isBytes ol) (hoc : ∀ j, j < n → w.cell? ⟨g, j, none⟩ = some (.int .u8 (ol.getD j 0)))
    (g2 : Nat) (m c : Nat) (es : List Int) (hx : a.eval x = .slice (some ⟨g2, 0, none⟩) m c) (hm : m = es.length) (h0 : 0 < m) (hE : isBytes es) (hc : ∀ j, j < m → w.cell? ⟨g2, 0 + j, none⟩ = some (.int .u8 (es.getD j 0))) (hb : n + m ≤ 1099511627776) (hbase : N ≤ w.heap.size)
    (hK : ∀ v' w', Own8 w' N v' (n + m) → Kept w w' → (∀ k, v'.ownBlock = some k → w.heap.size ≤ k) → wpList Tryz.prog ops Q rest (a.put o.dst v') w') :
    wpList Tryz.prog ops Q (o :: rest) a w := by
  subst hm
  obtain ⟨i0, hi, hz0, hz1, hz2⟩ := info_parts' infoU8
  have get8 : ∀ (L : List Int) (j : Nat) (u : Value), (u8s L)[j]? = some u → j < L.length ∧ u = .int .u8 (L.getD j 0) := by
    intro L j u hj
    have hlt : j < L.length := by
      have := (List.getElem?_eq_some_iff.1 hj).1
      simpa [u8s] using this
    refine ⟨hlt, ?_⟩
    simp [u8s, List.getElem?_map, List.getElem?_eq_getElem hlt] at hj
    rw [← hj]
    simp [List.getD_eq_getElem?_getD, List.getElem?_eq_getElem hlt]
  refine wpList_append_grows w hg s x 61 hop 5 i0 (.int .u8 0) 1 1 Tryz.underlying61 hi hz0 hz1 hz2 rfl (by omega) (some ⟨g, 0, none⟩) n n (u8s ol) hs (fun e => by cases e) (by simp [u8s, hol]) ?_ ⟨g2, 0, none⟩ es.length c (u8s es) hx (by simp [u8s]) ?_ ?_ (by omega) (by unfold maxLen; omega) (by omega) ?_
  · intro b hb j u hj
    cases hb
    obtain ⟨h1, rfl⟩ := get8 ol j u hj
    rw [Addr.add_mid, Nat.zero_add]; exact hoc j (by omega)
  · intro j u hj
    obtain ⟨h1, rfl⟩ := get8 es j u hj
    rw [Addr.add_mid]; exact hc j h1
  · intro u hu; simp [u8s] at hu; obtain ⟨y, _, rfl⟩ := hu; rfl
  · intro v' w' h1 h2
    have h1' : Own8 w' w.heap.size v' (n + es.length) := ⟨ol ++ es, by simp [hol], hob.app hE, by simpa [u8s] using h1⟩
    refine hK v' w' ?_ ⟨h2.os, h2.tape, h2.output, h2.size, fun k hk => h2.block k hk (by simp)⟩ h1'.ge
    obtain ⟨l, a1, a2, a3⟩ := h1'
    exact ⟨l, a1, a2, own_base a3 hbase⟩
set_option maxRecDepth 100000 in
set_option maxHeartbeats 3200000 in
theorem num4_full (x N g : Nat) (n : Int) (w : World) (S : Nat → Prop) (h : WrF w x N g S) (hn0 : 0 ≤ n) (hn1 : n < 4294967296) :
    Calls Tryz.prog 71 #[.pointer (some ⟨x, 0, none⟩), .int .u32 n] w fun r w' => r = .returned (.tuple #[]) ∧ Put x N (8 + 4) S w w' := by
  obtain ⟨hlt, hsz, hfz, hSx, hSn, h0, hgx, ol, hol, hob, hoc⟩ := h
  have hfa := hfz 0
  replace hfz : Hid (∀ k, w.frozen? ⟨x, k, none⟩ = false) := hfz
  replace hSn : Hid (∀ g, w.heap.size ≤ g → S g) := hSn
  have hxs : x < w.heap.size := by omega
  have HOC : Hid (∀ j, j < 8 → (w.alloc (Obj.cells #[Value.int IntKind.u8 (n / 16777216), Value.int IntKind.u8 (n / 65536 % 256), Value.int IntKind.u8 (n / 256 % 256), Value.int IntKind.u8 (n % 256)] 5)).cell? ⟨g, j, none⟩ = some (.int .u8 (ol.getD j 0))) := by
    intro j hj
    rw [World.cell?_alloc_lt _ _ _ (World.block_lt_of_cell? w _ (hoc j hj))]; exact hoc j hj
  clear hoc
  have HE : Hid (isBytes [n / 16777216, n / 65536 % 256, n / 256 % 256, n % 256]) := by
    intro y hy
    simp at hy
    rcases hy with rfl | rfl | rfl | rfl <;> omega
  have HC : Hid (∀ j, j < 4 → (w.alloc (Obj.cells #[Value.int IntKind.u8 (n / 16777216), Value.int IntKind.u8 (n / 65536 % 256), Value.int IntKind.u8 (n / 256 % 256), Value.int IntKind.u8 (n % 256)] 5)).cell? ⟨w.heap.size, 0 + j, none⟩ = some (.int .u8 ([n / 16777216, n / 65536 % 256, n / 256 % 256, n % 256].getD j 0))) := by
    intro j hj
    rw [Nat.zero_add]
    rw [World.cell?_alloc_at _ _ _ _ rfl]
    have : j = 0 ∨ j = 1 ∨ j = 2 ∨ j = 3 := by omega
    rcases this with rfl | rfl | rfl | rfl <;> rfl
  replace hob : Hid _ := hob
  replace hol : Hid _ := hol
  go_enter Tryz.func71, Tryz.ntmps71
  go_wp2_with (at_builtin; refine append8F _ rfl _ _ rfl N g 8 rfl ol hol.out hob.out HOC.out w.heap.size 4 4 [n / 16777216, n / 65536 % 256, n / 256 % 256, n % 256] rfl rfl (by omega) HE.out HC.out (by omega) (by simp; omega) ?_)
  intro v' w2 ho2 hf2 hn2
  obtain ⟨p', c', rfl⟩ := ho2.slice
  have fk : Kept w w2 := Kept.trans (Below.alloc (Below.refl _ _) (Nat.le_refl _) _) hf2
  have k0 := (fk.cell (p := ⟨x, 0, none⟩) hxs).trans h0
  have g0 := (fk.frozen (p := ⟨x, 0, none⟩) hxs).trans hfa
  have HO2 : Hid (Own8 w2 N (.slice p' (8 + 4) c') (8 + 4)) := ho2
  have HF2 : Hid (Fr S w w2) := Fr.of_kept fk
  have HN2 : Hid (∀ k, (Value.slice p' (8 + 4) c').ownBlock = some k → S k) := fun k hk => hSn.out k (by have := hn2 k hk; first | omega | (simp at this; omega))
  have HG2 : Hid (∀ k, w2.frozen? ⟨x, k, none⟩ = false) := fun k => (fk.frozen (p := ⟨x, k, none⟩) hxs).trans (hfz.out k)
  clear hf2 ho2 fk hn2
  go_wp2
  go_end0
  have hse : (w2.setCell ⟨x, 0, none⟩ (Value.slice p' (8 + 4) c')).heap.size = w2.heap.size := by simp [World.setCell]
  exact ⟨rfl, ⟨hlt, by rw [hse]; exact Nat.le_trans hsz HF2.out.size, fun k => by rw [World.frozen?_setCell]; exact HG2.out k, hSx, fun g hg => hSn.out g (by rw [hse] at hg; have := HF2.out.size; omega), ⟨_, cell_set_same k0 _, HO2.out.set hlt _ _, HN2.out⟩⟩, HF2.out.setCell (Or.inl hSx) _ _⟩
set_option maxRecDepth 100000 in
set_option maxHeartbeats 3200000 in
theorem begin_any (w : World) :
    Calls Tryz.prog 31 #[] w fun r w' => ∃ g, r = .returned (.agg #[.slice (some ⟨g, 0, none⟩) 8 8]) ∧ w.heap.size ≤ g ∧ (∃ l : List Int, l.length = 8 ∧ isBytes l ∧ ∀ j, j < 8 → w'.cell? ⟨g, j, none⟩ = some (.int .u8 (l.getD j 0))) ∧ Kept w w' := by
  have kc := fun (w : World) (C : Array Value) (n c g : Nat) (hg : g = w.heap.size) => Joins.run_convert_bytes_const_at (P := Tryz.prog) w 61 5 C n c g hg Tryz.underlying61 Tryz.underlying5
  go_enter Tryz.func31, Tryz.ntmps31
  have hi : (Tryz.prog.info? 65).map (·.size) = some 1 := by kernel_rfl
  go_wp2
  refine bodyPost_ret (v := .agg #[.slice (some ⟨w.heap.size + 1, 0, none⟩) 8 8]) (results_cell1 rfl _ _ w.heap.size 0 _ rfl ?_) rfl ?_
  · refine run_loadVar_row _ _ 65 65 _ (0, 0) _ ?_ Tryz.underlying65 rfl hi
    rw [heap_alloc_old _ _ (by simp)]
    exact heap_alloc_at _ _ _ rfl
  · refine ⟨w.heap.size + 1, rfl, by omega, ⟨[137, 80, 78, 71, 13, 10, 26, 10], rfl, ?_, ?_⟩, Below.alloc (Below.alloc (Below.refl _ _) (Nat.le_refl _) _) (by simp) _⟩
    · intro y hy
      simp at hy
      rcases hy with rfl | rfl | rfl | rfl | rfl | rfl | rfl | rfl <;> omega
    · intro j hj
      rw [Joins.cell_alloc_mark_at _ _ _ _ _ _ (by simp)]
      have : j = 0 ∨ j = 1 ∨ j = 2 ∨ j = 3 ∨ j = 4 ∨ j = 5 ∨ j = 6 ∨ j = 7 := by omega
      rcases this with rfl | rfl | rfl | rfl | rfl | rfl | rfl | rfl <;> rfl
set_option maxRecDepth 100000 in
set_option maxHeartbeats 3200000 in
theorem hdata_any (W H D K L : Nat) (w : World) (h1 : W ≤ 16) (h2 : H ≤ 16) (h3 : D ≤ 16) (h4 : K ≤ 6) (h5 : L ≤ 1) :
    Calls Tryz.prog 53 #[.agg #[.int .i64 (W : Int), .int .i64 (H : Int), .int .i64 (D : Int), .int .i64 (K : Int), .int .i64 (L : Int)]] w fun r w' => ∃ cs : List Value, r = .returned (.agg cs.toArray) ∧ cs.length = 13 ∧ (∀ j, j < 13 → ∃ z : Int, 0 ≤ z ∧ z < 256 ∧ cs[j]? = some (.int .u8 z)) ∧ Kept w w' := by
  have hi : (Tryz.prog.info? 102).map (·.size) = some 13 := by kernel_rfl
  go_enter Tryz.func53, Tryz.ntmps53
  go_wp2
  refine bodyPost_ret (v := .agg #[.int .u8 ((W : Int) / 16777216), .int .u8 ((W : Int) / 65536), .int .u8 ((W : Int) / 256), .int .u8 (W : Int), .int .u8 ((H : Int) / 16777216), .int .u8 ((H : Int) / 65536), .int .u8 ((H : Int) / 256), .int .u8 (H : Int), .int .u8 (D : Int), .int .u8 (K : Int), .int .u8 0, .int .u8 0, .int .u8 (L : Int)]) (results_cell1 rfl _ _ (w.heap.size + 1) 0 _ rfl ?_) rfl ?_
  · refine run_loadVar_row _ _ 102 102 _ (0, 0) _ ?_ Tryz.underlying102 rfl hi
    exact heap_alloc_at _ _ _ (by simp)
  · refine ⟨[.int .u8 ((W : Int) / 16777216), .int .u8 ((W : Int) / 65536), .int .u8 ((W : Int) / 256), .int .u8 (W : Int), .int .u8 ((H : Int) / 16777216), .int .u8 ((H : Int) / 65536), .int .u8 ((H : Int) / 256), .int .u8 (H : Int), .int .u8 (D : Int), .int .u8 (K : Int), .int .u8 0, .int .u8 0, .int .u8 (L : Int)], rfl, rfl, ?_, Below.alloc (Below.alloc (Below.refl _ _) (Nat.le_refl _) _) (by simp) _⟩
    intro j hj
    have : j = 0 ∨ j = 1 ∨ j = 2 ∨ j = 3 ∨ j = 4 ∨ j = 5 ∨ j = 6 ∨ j = 7 ∨ j = 8 ∨ j = 9 ∨ j = 10 ∨ j = 11 ∨ j = 12 := by omega
    rcases this with rfl | rfl | rfl | rfl | rfl | rfl | rfl | rfl | rfl | rfl | rfl | rfl | rfl
    all_goals exact ⟨_, by omega, by omega, rfl⟩
set_option maxRecDepth 100000 in
set_option maxHeartbeats 3200000 in
theorem text_any (x N m : Nat) (S : Nat → Prop) (w : World) (h : WrAt w x N m S) (hm0 : 0 < m) (hm : m ≤ 274877906944) :
    Calls Tryz.prog 39 #[.pointer (some ⟨x, 0, none⟩)] w fun r w' => ∃ s : ByteArray, r = .returned (.string s) ∧ s.size = m ∧ Kept w w' := by
  obtain ⟨hlt, hsz, hfz, sx, nw, ov, h0, h5, h6⟩ := h
  obtain ⟨L, hLl, hLb, hLat⟩ := h5.lat
  obtain ⟨g, o, c, rfl, hc⟩ := hLat.addr (by omega)
  have hcv := run_convert_bytes_arg (P := Tryz.prog) w 61 5 Tryz.underlying61 Tryz.underlying5 g o L.length c L rfl hc 9 Tryz.underlying9
  clear h5 h6 hLat hc hLb
  replace hLl : Hid (L.length = m) := hLl
  go_enter Tryz.func39, Tryz.ntmps39
  go_wp2
  go_ret
  exact ⟨_, rfl, by have := hLl.out; simp [strOfNums, ByteArray.size, this], Kept.refl _⟩
end Go.Proofs.YtehnbejlhjkciaaGreatDoor
namespace Go.Proofs.YtehnbejlhjkciaaGreatDoor
open Go.RowKit
set_option linter.unusedSimpArgs false
set_option linter.unusedVariables false

theorem made8 (n j : Nat) (h : j < n) : (madeCells #[Value.int .u8 0] n).toList[j]? = some (.int .u8 0) := by
  simp [madeCells, h, Nat.mod_one]
/-- What a list of bytes that was made is for the callers. -/
structure Made8 (w w' : World) (ov : Value) (n : Nat) : Prop where
  ex : ∃ L : List Int, L.length = n ∧ isBytes L ∧ LAt w' .u8 ov L
  nn : ∀ n c, ov = .slice none n c → c = 0
  new : ∀ g, sliceBlock ov = some g → w.heap.size ≤ g
  kept : Kept w w'
set_option maxRecDepth 100000 in
set_option maxHeartbeats 3200000 in
theorem singles_any (v : Value) (l : List Int) (w : World) (hl : LAt w .i64 v l) (hn : l.length ≤ 65536) :
    Calls Tryz.prog 34 #[v] w fun r w' => ∃ ov : Value, r = .returned ov ∧ Made8 w w' ov l.length := by
  obtain ⟨p, c, rfl⟩ := hl.form
  have HL : Hid (LAt w .i64 (.slice p l.length c) l) := hl
  clear hl
  obtain ⟨i0, hi, hz0, hz1, hz2⟩ := info_parts' infoU8
  go_enter Tryz.func34, Tryz.ntmps34
  go_wp2_with (refine wpList_make_full _ rfl _ _ 61 rfl w.heap.size 5 i0 (.int .u8 0) 1 Tryz.underlying61 hi hz0 hz1 .i64 .i64 (l.length : Int) (l.length : Int) l.length rfl rfl rfl rfl (by rw [hz2]; omega) (by unfold maxLen; omega) (Nat.le_refl _) ?_)
  intro w1 ho1 hg1
  have hK1 : Hid (Kept w w1) := ⟨hg1.os, hg1.tape, hg1.output, hg1.size, fun k hk => hg1.block k hk (by simp)⟩
  have hF1 : Hid (∀ k, w1.frozen? ⟨w.heap.size, k, none⟩ = false) := by
    rcases ho1.2 with ⟨hv, h0⟩ | ⟨g, cap, cur, hv, hg, hh, r⟩
    · cases hv
    · injection hv with hv _ _
      injection hv with hv
      injection hv with hv _ _
      rw [← hv] at hh
      exact fun k => Joins.unfrozen_of_block hh k
  have hR1 : Hid (Rng .u8 256 w1 w.heap.size 0 l.length) := by
    intro j hj
    refine ⟨0, by omega, by omega, ?_⟩
    have := ho1.cells rfl j _ (made8 l.length j hj)
    rw [Addr.add_mid] at this
    exact this
  clear ho1 hg1
  go_wp2
  go_loopw [4] (fun v W => ∃ k : Nat, k ≤ l.length ∧ v = .int .i64 (k : Int) ∧ Rng .u8 256 W w.heap.size 0 l.length ∧ (∀ k, W.frozen? ⟨w.heap.size, k, none⟩ = false) ∧ Kept w W) (fun v _ => l.length - (intOf v).toNat)
  case atStart => exact ⟨0, by omega, rfl, hR1.out, hF1.out, hK1.out⟩
  case round =>
    obtain ⟨k, hk, rfl, hR, hF, hK⟩ := hrel
    clear hR1 hF1 hK1
    by_cases hlt : k < l.length
    · obtain ⟨g, o, rfl, hc⟩ := (HL.out.kept hK).cellAt k hlt
      have hgw : g < w.heap.size := by
        obtain ⟨g', o', e, hc'⟩ := HL.out.cellAt k hlt
        injection e with e
        injection e with e _
        subst e
        exact World.block_lt_of_cell? _ _ hc'
      generalize l.getD k 0 = B at *
      obtain ⟨z, _, _, hz⟩ := hR k hlt
      rw [Nat.zero_add] at hz
      have hfk := hF k
      have hlt' : (k : Int) < (l.length : Int) := by omega
      have hk0 : (0 : Int) ≤ (k : Int) := by omega
      replace hR : Hid (Rng .u8 256 wr w.heap.size 0 l.length) := hR
      replace hF : Hid (∀ k, wr.frozen? ⟨w.heap.size, k, none⟩ = false) := hF
      replace hK : Hid (Kept w wr) := hK
      go_wp2
      exact ⟨⟨k + 1, by omega, by go_num, Rng.set hR.out k _ (Int.emod_nonneg _ (by omega)) (Int.emod_lt_of_pos _ (by omega)), fun j => by rw [World.frozen?_setCell]; exact hF.out j, hK.out.setCell (Nat.le_refl _) _⟩, by simp [intOf]; omega⟩
    · have hke : k = l.length := by omega
      subst hke
      replace hR : Hid (Rng .u8 256 wr w.heap.size 0 l.length) := hR
      replace hF : Hid (∀ k, wr.frozen? ⟨w.heap.size, k, none⟩ = false) := hF
      replace hK : Hid (Kept w wr) := hK
      go_wp2
      go_ret
      obtain ⟨L, hLl, hLat, hLb⟩ := Rng.lat hR.out l.length
      refine ⟨.slice (some ⟨w.heap.size, 0, none⟩) l.length l.length, rfl, ⟨L, hLl, hLb, hLat⟩, ?_, ?_, hK.out⟩
      · intro n c' e; injection e with e _ _; cases e
      · intro g hg
        have : w.heap.size = g := by injection hg
        omega
set_option maxRecDepth 100000 in
set_option maxHeartbeats 3200000 in
theorem pairs_any (v : Value) (l : List Int) (w : World) (hl : LAt w .i64 v l) (hn : l.length ≤ 65536) (hB : ∀ x ∈ l, 0 ≤ x ∧ x < 65536) :
    Calls Tryz.prog 55 #[v] w fun r w' => ∃ ov : Value, r = .returned ov ∧ Made8 w w' ov (2 * l.length) := by
  obtain ⟨p, c, rfl⟩ := hl.form
  have HL : Hid (LAt w .i64 (.slice p l.length c) l) := hl
  have HB : Hid _ := hB
  clear hl hB
  go_enter Tryz.func55, Tryz.ntmps55
  go_wp2
  go_loopw [3, 4] (fun u v W => ∃ k : Nat, k ≤ l.length ∧ v = .int .i64 (k : Int) ∧ Own8 W w.heap.size u (2 * k) ∧ Kept w W) (fun _ v _ => l.length - (intOf v).toNat)
  case atStart => exact ⟨0, by omega, rfl, Own8.nil _ _, Kept.refl _⟩
  case round =>
    obtain ⟨k, hk, rfl, ho, hK⟩ := hrel
    obtain ⟨pp, cc, rfl⟩ := ho.slice
    have hsz := hK.size
    by_cases hlt : k < l.length
    · obtain ⟨g, o, rfl, hc⟩ := (HL.out.kept hK).cellAt k hlt
      have hgw : g < w.heap.size := by
        obtain ⟨g', o', e, hc'⟩ := HL.out.cellAt k hlt
        injection e with e
        injection e with e _
        subst e
        exact World.block_lt_of_cell? _ _ hc'
      have hb := HB.out _ (getD_mem hlt)
      have hb0 := hb.1
      have hb1 := hb.2
      clear hb
      generalize l.getD k 0 = B at *
      have hlt' : (k : Int) < (l.length : Int) := by omega
      have hk0 : (0 : Int) ≤ (k : Int) := by omega
      replace hK : Hid (Kept w wr) := hK
      have HO : Hid (Own8 wr w.heap.size (.slice pp (2 * k) cc) (2 * k)) := ho
      clear ho
      have HE : Hid (isBytes [IntKind.u8.wrap (B / 256), IntKind.u8.wrap B]) := by
        intro y hy
        simp at hy
        rcases hy with rfl | rfl
        · have := bounds_u8 (wf_wrap .u8 (B / 256)); omega
        · have := bounds_u8 (wf_wrap .u8 B); omega
      have HC : Hid (∀ j, j < 2 → ((wr.alloc (Obj.cells #[Value.int IntKind.u8 (IntKind.u8.wrap (B / 256)), Value.int IntKind.u8 (IntKind.u8.wrap B)] 5)).drewN 1).cell? ⟨wr.heap.size, j, none⟩ = some (.int .u8 ([IntKind.u8.wrap (B / 256), IntKind.u8.wrap B].getD j 0))) := by
        intro j hj
        show (wr.alloc _).cell? _ = _
        rw [World.cell?_alloc_at _ _ _ _ rfl]
        have : j = 0 ∨ j = 1 := by omega
        rcases this with rfl | rfl <;> rfl
      go_wp2_with fail
      go_region_held3 (fun W => W.cell? ⟨g, o + k, none⟩ = some (.int .i64 B)) (first | exact hc | exact hc5 | go_keep) ((refine step8 (by rfl) _ _ (by rfl) w.heap.size (.slice pp (2 * k) cc) (2 * k) (by rfl) (by exact (HO.out.alloc _).drewN 1) wr.heap.size 2 2 [IntKind.u8.wrap (B / 256), IntKind.u8.wrap B] (by rfl) rfl (by omega) HE.out (by exact HC.out) (by omega) (by simp; omega) ?_; intro g' cap w2 ho2 hf2; have fk : Fr (fun k' => (Value.slice pp (2 * k) cc).ownBlock = some k') wr w2 := (((Fr.refl _ wr).alloc _).drewN 1).trans hf2; have hc5 : w2.cell? ⟨g, o + k, none⟩ = some (.int .i64 B) := (fk.cell (World.block_lt_of_cell? _ _ hc) (fun e => by have := HO.out.ge g e; omega)).trans hc))
      have HO2 : Hid (Own8 w2 w.heap.size (.slice (some ⟨g', 0, none⟩) (2 * k + 2) cap) (2 * k + 2)) := ho2
      have HK2 : Hid (Kept w w2) := Fr.to_kept hK.out fk (fun i hi e => by have := HO.out.ge i e; omega)
      clear ho2 hf2 fk
      go_wp2
      exact ⟨⟨k + 1, by omega, by go_num, by rw [show 2 * (k + 1) = 2 * k + 2 by omega]; exact HO2.out, HK2.out⟩, by simp [intOf]; omega⟩
    · have hke : k = l.length := by omega
      subst hke
      have HO : Hid (Own8 wr w.heap.size (.slice pp (2 * l.length) cc) (2 * l.length)) := ho
      replace hK : Hid (Kept w wr) := hK
      clear ho
      go_wp2
      go_ret
      obtain ⟨L, hLl, hLb, hLo⟩ := HO.out
      have hlat : LAt wr .u8 (.slice pp (2 * l.length) cc) L := by
        have := hLo
        rw [← hLl] at this
        have h2 := own_lat (k := .u8) this
        rw [hLl] at h2; exact h2
      refine ⟨.slice pp (2 * l.length) cc, rfl, ⟨L, hLl, hLb, hlat⟩, ?_, ?_, hK.out⟩
      · intro n c' e
        rcases hLo.2 with ⟨hv, h0⟩ | ⟨g, cap, cur, hv, hg, r⟩
        · rw [hv] at e; injection e with _ _ e; omega
        · rw [hv] at e; injection e with e _ _; cases e
      · intro g hg
        rw [sliceBlock_own _ hLo] at hg
        exact (hLo.lt g hg).1
end Go.Proofs.YtehnbejlhjkciaaGreatDoor
