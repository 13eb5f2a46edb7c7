import Derived.Test.YtehnbejlhjkciaaGreatDoorStG0
import Derived.Deep.RegionHeld3
namespace Go.Proofs.YtehnbejlhjkciaaGreatDoor
open Go.RowKit
set_option linter.unusedSimpArgs false
set_option linter.unusedVariables false

/-- Bytes behind a row of one's own: with its block told. -/
theorem append8' (w : World) {ops : Array Oper} {rest : List Oper} {o : Oper} {a : Act} {Q : Exit → Act → World → Prop}
    (hg : o.guard = none) (s x : Operand) (hop : o.op = Op.call { callee := Callee.builtin Builtin.append, args := #[s, x], argTypes := #[61, 61] })
    (N : Nat) (v : Value) (n : Nat) (hs : a.eval s = v) (hown : Own8 w N v n)
    (g o' : Nat) (m c : Nat) (es : List Int) (hx : a.eval x = .slice (some ⟨g, o', none⟩) m c) (hm : m = es.length) (h0 : 0 < m) (hE : isBytes es) (hc : ∀ j, j < m → w.cell? ⟨g, o' + j, none⟩ = some (.int .u8 (es.getD j 0))) (hb : n + m ≤ 1099511627776) (hbase : N ≤ w.heap.size)
    (hK : ∀ v' w', Own8 w' N v' (n + m) → Fr (fun k => v.ownBlock = some k) w w' → (∀ k, v'.ownBlock = some k → v.ownBlock = some k ∨ w.heap.size ≤ k) → wpList Tryz.prog ops Q rest (a.put o.dst v') w') :
    wpList Tryz.prog ops Q (o :: rest) a w := by
  obtain ⟨l, hl, hB, ho⟩ := hown
  subst hm
  refine append_own w 61 61 5 1 1 (.int .u8 0) Tryz.underlying61 infoU8 rfl (by omega) hg s x hop N v n (u8s l) hs ho ⟨g, o', none⟩ es.length c (u8s es) hx (by simp [u8s]) h0 ?_ ?_ (by unfold maxLen; omega) (by omega) hbase ?_ rfl
  · intro j u hj
    have hlt : j < es.length := by
      have := (List.getElem?_eq_some_iff.1 hj).1
      simpa [u8s] using this
    rw [Addr.add_mid, hc j hlt]
    simp [u8s, List.getElem?_map, List.getElem?_eq_getElem hlt] at hj
    rw [← hj]
    simp [List.getD_eq_getElem?_getD, List.getElem?_eq_getElem hlt]
  · intro u hu; simp [u8s] at hu; obtain ⟨y, _, rfl⟩ := hu; rfl
  · intro v' w' h1 h2 h3
    exact hK v' w' ⟨l ++ es, by simp [hl], hB.app hE, by simpa [u8s] using h1⟩ ⟨h2.os, h2.tape, h2.output, h2.size, fun k hk hn => h2.block k hk (fun e => hn e.symm)⟩ h3
/-- The file so far, n bytes; S: the blocks that it may write. -/
structure WrAt (W : World) (x N n : Nat) (S : Nat → Prop) : Prop where
  lt : x < N
  size : N ≤ W.heap.size
  fz : ∀ k, W.frozen? ⟨x, k, none⟩ = false
  sx : S x
  new : ∀ g, W.heap.size ≤ g → S g
  out : ∃ ov, W.cell? ⟨x, 0, none⟩ = some ov ∧ Own8 W N ov n ∧ ∀ g, ov.ownBlock = some g → S g
theorem WrAt.kept {W W' : World} {x N n : Nat} {S : Nat → Prop} (h : WrAt W x N n S) (k : Kept W W') : WrAt W' x N n S := by
  obtain ⟨h1, h2, h3, sx, nw, ov, h4, h5, h6⟩ := h
  have hx : x < W.heap.size := by omega
  exact ⟨h1, Nat.le_trans h2 k.size, fun j => (k.frozen (p := ⟨x, j, none⟩) hx).trans (h3 j), sx, fun g hg => nw g (Nat.le_trans k.size hg), ov, (k.cell (p := ⟨x, 0, none⟩) hx).trans h4, h5.kept k, h6⟩
/-- Behind an alloc the new block may be kept apart. -/
theorem WrAt.turn {W : World} {x N n : Nat} {S S' : Nat → Prop} (h : WrAt W x N n S) (hS : ∀ g, g < W.heap.size → S g → S' g) (hn : ∀ g, W.heap.size ≤ g → S' g) : WrAt W x N n S' := by
  obtain ⟨h1, h2, h3, sx, nw, ov, h4, h5, h6⟩ := h
  refine ⟨h1, h2, h3, hS x (by omega) sx, hn, ov, h4, h5, fun g hg => ?_⟩
  obtain ⟨l, _, _, h7⟩ := h5
  exact hS g (h7.lt g hg).2 (h6 g hg)
/-- What a call that writes to the file leaves. -/
structure Put (x N n : Nat) (S : Nat → Prop) (w w' : World) : Prop where
  at' : WrAt w' x N n S
  fr : Fr S w w'
theorem Put.trans {x N n m : Nat} {S : Nat → Prop} {a b c : World} (h : Put x N n S a b) (k : Put x N m S b c) : Put x N m S a c := ⟨k.at', h.fr.trans k.fr⟩
theorem Put.refl {x N n : Nat} {S : Nat → Prop} {a : World} (h : WrAt a x N n S) : Put x N n S a a := ⟨h, Fr.refl _ _⟩
theorem Put.kept {x N n : Nat} {S : Nat → Prop} {a b c : World} (h : Put x N n S a b) (k : Kept b c) : Put x N n S a c := ⟨h.at'.kept k, h.fr.kept k⟩
theorem Put.drewN {x N n : Nat} {S : Nat → Prop} {a b : World} (h : Put x N n S a b) (k : Nat) : Put x N n S a (b.drewN k) := h.kept ((Kept.refl _).drewN k)
set_option maxRecDepth 100000 in
set_option maxHeartbeats 3200000 in
theorem crc_any (s b : Int) (w : World) (hs0 : 0 ≤ s) (hs1 : s < 4294967296) (hb0 : 0 ≤ b) (hb1 : b < 256) :
    Calls Tryz.prog 72 #[.int .u32 s, .int .u8 b] w fun r w' => (∃ q : Int, 0 ≤ q ∧ q < 4294967296 ∧ r = .returned (.int .u32 q)) ∧ Kept w w' := by
  go_enter Tryz.func72, Tryz.ntmps72
  go_wp2
  go_loopw [0, 5] (fun u v W => ∃ k : Nat, ∃ q : Int, k ≤ 8 ∧ v = .int .i64 (k : Int) ∧ u = .int .u32 q ∧ 0 ≤ q ∧ q < 4294967296 ∧ Kept w W) (fun _ v _ => 8 - (intOf v).toNat)
  case atStart => exact ⟨0, _, by omega, rfl, rfl, (bounds_u32 (wf_bits _ _ _ _)).1, Int.lt_of_le_of_lt (bounds_u32 (wf_bits _ _ _ _)).2 (by omega), Kept.refl _⟩
  case round =>
    obtain ⟨k, q, hk, rfl, rfl, hq0, hq1, hK⟩ := hrel
    by_cases hlt : k < 8
    · have i1 : (k : Int) < 8 := by omega
      obtain ⟨L, hL⟩ : ∃ L, bits BinOp.and IntKind.u32 q 1 = L := ⟨_, rfl⟩
      replace hK : Hid (Kept w wr) := hK
      by_cases h1 : L = 1
      · subst h1
        go_wp2
        refine ⟨⟨k + 1, _, by omega, by go_num, rfl, (bounds_u32 (wf_bits _ _ _ _)).1, Int.lt_of_le_of_lt (bounds_u32 (wf_bits _ _ _ _)).2 (by omega), hK.out⟩, by simp [intOf]; omega⟩
      · have h1' : (L == 1) = false := by rw [beq_eq_false_iff_ne]; exact h1
        go_wp2
        exact ⟨⟨k + 1, _, by omega, by go_num, rfl, by omega, by omega, hK.out⟩, by simp [intOf]; omega⟩
    · have i1 : ¬ (k : Int) < 8 := by omega
      go_wp2
      go_ret
      exact ⟨⟨q, hq0, hq1, rfl⟩, hK⟩
set_option maxRecDepth 100000 in
set_option maxHeartbeats 3200000 in
theorem crcend_any (s : Int) (w : World) (hs0 : 0 ≤ s) (hs1 : s < 4294967296) :
    Calls Tryz.prog 73 #[.int .u32 s] w fun r w' => (∃ q : Int, 0 ≤ q ∧ q < 4294967296 ∧ r = .returned (.int .u32 q)) ∧ w' = w := by
  go_enter Tryz.func73, Tryz.ntmps73
  go_wp2
  go_ret
  exact ⟨⟨_, (bounds_u32 (wf_bits _ _ _ _)).1, Int.lt_of_le_of_lt (bounds_u32 (wf_bits _ _ _ _)).2 (by omega), rfl⟩, rfl⟩
set_option maxRecDepth 100000 in
set_option maxHeartbeats 3200000 in
theorem num4_any (x N m : Nat) (n : Int) (w : World) (S : Nat → Prop) (h : WrAt w x N m S) (hn0 : 0 ≤ n) (hn1 : n < 4294967296) (hm : m ≤ 549755813888) :
    Calls Tryz.prog 71 #[.pointer (some ⟨x, 0, none⟩), .int .u32 n] w fun r w' => r = .returned (.tuple #[]) ∧ Put x N (m + 4) S w w' := by
  obtain ⟨hlt, hsz, hfz, hSx, hSn, ov, h0, hown, hSo⟩ := h
  obtain ⟨p, c, rfl⟩ := hown.slice
  have hfa := hfz 0
  have HO : Hid (Own8 w N (.slice p m c) m) := hown
  replace hfz : Hid (∀ k, w.frozen? ⟨x, k, none⟩ = false) := hfz
  have hne : ¬ (Value.slice p m c).ownBlock = some x := fun e => by have := HO.out.ge x e; omega
  have hxs : x < w.heap.size := by omega
  replace hSo : Hid _ := hSo
  replace hSn : Hid (∀ g, w.heap.size ≤ g → S g) := hSn
  clear hown
  go_enter Tryz.func71, Tryz.ntmps71
  have HE : Hid (isBytes [n / 16777216, n / 65536 % 256, n / 256 % 256, n % 256]) := by
    intro y hy
    simp at hy
    rcases hy with rfl | rfl | rfl | rfl <;> omega
  have HC : Hid (∀ j, j < 4 → (w.alloc (Obj.cells #[Value.int IntKind.u8 (n / 16777216), Value.int IntKind.u8 (n / 65536 % 256), Value.int IntKind.u8 (n / 256 % 256), Value.int IntKind.u8 (n % 256)] 5)).cell? ⟨w.heap.size, 0 + j, none⟩ = some (.int .u8 ([n / 16777216, n / 65536 % 256, n / 256 % 256, n % 256].getD j 0))) := by
    intro j hj
    rw [Nat.zero_add]
    rw [World.cell?_alloc_at _ _ _ _ rfl]
    have : j = 0 ∨ j = 1 ∨ j = 2 ∨ j = 3 := by omega
    rcases this with rfl | rfl | rfl | rfl <;> rfl
  go_wp2_with (at_builtin; refine append8' _ rfl _ _ rfl N (.slice p m c) m rfl (HO.out.alloc _) w.heap.size 0 4 4 [n / 16777216, n / 65536 % 256, n / 256 % 256, n % 256] rfl rfl (by omega) HE.out HC.out (by omega) (by simp; omega) ?_)
  intro v' w2 ho2 hf2 hn2
  obtain ⟨p', c', rfl⟩ := ho2.slice
  have fk : Fr (fun k => (Value.slice p m c).ownBlock = some k) w w2 := ((Fr.refl _ w).alloc _).trans hf2
  have k0 := (fk.cell (k := 0) hxs hne).trans h0
  have g0 := (fk.frozen (k := 0) hxs hne).trans hfa
  have HO2 : Hid (Own8 w2 N (.slice p' (m + 4) c') (m + 4)) := ho2
  have HF2 : Hid (Fr S w w2) := fk.mono (fun i _ e => hSo.out i e)
  have HN2 : Hid (∀ k, (Value.slice p' (m + 4) c').ownBlock = some k → S k) := fun k hk => by
    rcases hn2 k hk with h | h
    · exact hSo.out k h
    · exact hSn.out k (by first | omega | (simp at h; omega))
  have HG2 : Hid (∀ k, w2.frozen? ⟨x, k, none⟩ = false) := fun k => (fk.frozen hxs hne).trans (hfz.out k)
  clear hf2 ho2 fk hn2
  go_wp2
  go_end0
  have hse : (w2.setCell ⟨x, 0, none⟩ (Value.slice p' (m + 4) c')).heap.size = w2.heap.size := by simp [World.setCell]
  exact ⟨rfl, ⟨hlt, by rw [hse]; exact Nat.le_trans hsz HF2.out.size, fun k => by rw [World.frozen?_setCell]; exact HG2.out k, hSx, fun g hg => hSn.out g (by rw [hse] at hg; have := HF2.out.size; omega), ⟨_, cell_set_same k0 _, HO2.out.set hlt _ _, HN2.out⟩⟩, HF2.out.setCell (Or.inl hSx) _ _⟩
end Go.Proofs.YtehnbejlhjkciaaGreatDoor
namespace Go.Proofs.YtehnbejlhjkciaaGreatDoor
open Go.RowKit
set_option linter.unusedSimpArgs false
set_option linter.unusedVariables false

theorem Own8.lat {w : World} {N : Nat} {v : Value} {n : Nat} (h : Own8 w N v n) : ∃ l : List Int, l.length = n ∧ isBytes l ∧ LAt w .u8 v l := by
  obtain ⟨l, h1, h2, h3⟩ := h
  subst h1
  exact ⟨l, rfl, h2, own_lat h3⟩
/-- A list of bytes, or none, behind a row that is not empty. -/
theorem append8A (w : World) {ops : Array Oper} {rest : List Oper} {o : Oper} {a : Act} {Q : Exit → Act → World → Prop}
    (hg : o.guard = none) (s x : Operand) (hop : o.op = Op.call { callee := Callee.builtin Builtin.append, args := #[s, x], argTypes := #[61, 61] })
    (N : Nat) (v : Value) (n : Nat) (hs : a.eval s = v) (hown : Own8 w N v n) (h0 : 0 < n)
    (p : Option Addr) (c : Nat) (l : List Int) (hx : a.eval x = .slice p l.length c) (hl : LAt w .u8 (.slice p l.length c) l) (hE : isBytes l) (hpc : p = none → c = 0) (hb : n + l.length ≤ 1099511627776) (hbase : N ≤ w.heap.size)
    (hK : ∀ v' w', Own8 w' N v' (n + l.length) → Fr (fun k => v.ownBlock = some k) w w' → (∀ k, v'.ownBlock = some k → v.ownBlock = some k ∨ w.heap.size ≤ k) → wpList Tryz.prog ops Q rest (a.put o.dst v') w') :
    wpList Tryz.prog ops Q (o :: rest) a w := by
  by_cases hl0 : l.length = 0
  · obtain ⟨xs, hxl, hxb, ho⟩ := hown
    have ho' := ho
    rcases ho.2 with ⟨hv, hz⟩ | ⟨g, cap, cur, hv, hgb, hh, hnc, hcm, hcs, htk⟩
    · omega
    · subst hv
      obtain ⟨i0, hi, hz0, hz1, hz2⟩ := info_parts' infoU8
      refine wpList_append_fits_any w hg s x 61 hop N 5 i0 1 Tryz.underlying61 hi hz1 g n cap (u8s xs) hs ho' p l.length c [] hx (by simp [hl0]) (fun e => ⟨hl0, hpc e⟩) (fun ad _ j u hj => by simp at hj) (fun u hu => by simp at hu) (by omega) ?_
      intro w' h1 h2
      refine hK _ w' ⟨xs, by omega, hxb, by simpa using h1⟩ ⟨h2.os, h2.tape, h2.output, h2.size, fun k hk hn => h2.block k hk (fun e => hn e.symm)⟩ (fun k hk => Or.inl hk)
  · obtain ⟨g, o', c', e, hc⟩ := hl.addr (by omega)
    injection e with e _ _
    subst e
    exact append8' w hg s x hop N v n hs hown g o' l.length c l hx rfl (by omega) hE hc hb hbase hK
set_option maxRecDepth 100000 in
set_option maxHeartbeats 3200000 in
theorem add_core (x N m T : Nat) (S : Nat → Prop) (v : Value) (l : List Int) (w : World) (h : ∀ q : Int, 0 ≤ q → q < 4294967296 → Calls Tryz.prog 71 #[.pointer (some ⟨x, 0, none⟩), .int .u32 q] w fun r w' => r = .returned (.tuple #[]) ∧ Put x N (m + 4) S w w') (hm0 : 0 < m) (hl : LAt w .u8 v l) (hB : isBytes l) (hpc : ∀ n c, v = .slice none n c → c = 0) (hS : ∀ g, sliceBlock v = some g → ¬ S g) (hm : m ≤ 274877906944) (hn : l.length ≤ 1048576) (hT : T < 4294967296) :
    Calls Tryz.prog 54 #[.pointer (some ⟨x, 0, none⟩), .int .u32 (T : Int), v] w fun r w' => r = .returned (.tuple #[]) ∧ Put x N (m + 12 + l.length) S w w' := by
  obtain ⟨p, c, rfl⟩ := hl.form
  have F1 : Hid (∀ (W : World) (k : Nat) (q : Int), k ≤ 549755813888 → 0 ≤ q → q < 4294967296 → WrAt W x N k S → Calls Tryz.prog 71 #[.pointer (some ⟨x, 0, none⟩), .int .u32 q] W fun r w' => r = .returned (.tuple #[]) ∧ Put x N (k + 4) S W w') := fun W k q hk h0 h1 hW => num4_any x N k q W S hW h0 h1 hk
  have F2 : Hid (∀ (W : World) (s b : Int), 0 ≤ s → s < 4294967296 → 0 ≤ b → b < 256 → Calls Tryz.prog 72 #[.int .u32 s, .int .u8 b] W fun r w' => (∃ q : Int, 0 ≤ q ∧ q < 4294967296 ∧ r = .returned (.int .u32 q)) ∧ Kept W w') := fun W s b h0 h1 h2 h3 => crc_any s b W h0 h1 h2 h3
  have F3 : Hid (∀ (W : World) (s : Int), 0 ≤ s → s < 4294967296 → Calls Tryz.prog 73 #[.int .u32 s] W fun r w' => (∃ q : Int, 0 ≤ q ∧ q < 4294967296 ∧ r = .returned (.int .u32 q)) ∧ w' = W) := fun W s h0 h1 => crcend_any s W h0 h1
  have H0 : Hid (∀ q : Int, 0 ≤ q → q < 4294967296 → Calls Tryz.prog 71 #[.pointer (some ⟨x, 0, none⟩), .int .u32 q] w fun r w' => r = .returned (.tuple #[]) ∧ Put x N (m + 4) S w w') := h
  have HL : Hid (LAt w .u8 (.slice p l.length c) l) := hl
  have HS : Hid (∀ g, sliceBlock (.slice p l.length c) = some g → ¬ S g) := hS
  have HB : Hid (isBytes l) := hB
  clear h hl hS hB
  go_enter Tryz.func54, Tryz.ntmps54
  go_wp2_with fail
  refine (H0.out _ (by omega) (by omega)).mono ?_
  rintro r w1 ⟨rfl, hw1⟩
  obtain ⟨ov1, c01, ho1, hs1⟩ := hw1.at'.out
  obtain ⟨p1, cc1, rfl⟩ := ho1.slice
  replace hw1 : Hid (Put x N (m + 4) S w w1) := hw1
  clear ho1 hs1
  go_wp2_with fail
  refine (F1.out _ (m + 4) _ (by omega) (by omega) (by omega) hw1.out.at').mono ?_
  rintro r w2 ⟨rfl, hw2⟩
  replace hw2 : Hid (Put x N (m + 8) S w w2) := hw1.out.trans hw2
  obtain ⟨ov2, c02, ho2, hs2⟩ := hw2.out.at'.out
  obtain ⟨p2, cc2, rfl⟩ := ho2.slice
  have hf2 := hw2.out.at'.fz 0
  have hN2 := hw2.out.at'.size
  have hlt := hw2.out.at'.lt
  have hne : ¬ (Value.slice p2 (m + 8) cc2).ownBlock = some x := fun e => by have := ho2.ge x e; omega
  have hxs : x < w2.heap.size := by omega
  have HO2 : Hid (Own8 w2 N (.slice p2 (m + 8) cc2) (m + 8)) := ho2
  replace hs2 : Hid _ := hs2
  clear hw1 c01 ho2
  have HPC : Hid (p = none → c = 0) := fun e => hpc l.length c (by rw [e])
  have HL2 : Hid (LAt w2 .u8 (.slice p l.length c) l) := HL.out.fr hw2.out.fr HS.out
  clear hpc HL
  go_wp2_with (at_builtin; refine append8A _ rfl _ _ rfl N (.slice p2 (m + 8) cc2) (m + 8) rfl HO2.out (by omega) p c l rfl HL2.out HB.out HPC.out (by omega) (by omega) ?_)
  intro v' w3 ho3 hf3 hn3
  obtain ⟨p3, c3, rfl⟩ := ho3.slice
  have k0 := (hf3.cell (k := 0) hxs hne).trans c02
  have g0 := (hf3.frozen (k := 0) hxs hne).trans hf2
  have HP3 : Hid (Put x N (m + 8 + l.length) S w (w3.setCell ⟨x, 0, none⟩ (.slice p3 (m + 8 + l.length) c3))) := by
    have hse : (w3.setCell ⟨x, 0, none⟩ (Value.slice p3 (m + 8 + l.length) c3)).heap.size = w3.heap.size := by simp [World.setCell]
    have hA := hw2.out.at'
    have hz := hf3.size
    refine ⟨⟨hlt, by rw [hse]; omega, fun k => by rw [World.frozen?_setCell]; exact (hf3.frozen hxs hne).trans (hA.fz k), hA.sx, fun g hg => hA.new g (by rw [hse] at hg; omega), ⟨_, cell_set_same k0 _, ho3.set hlt _ _, ?_⟩⟩, ?_⟩
    · intro g hg
      rcases hn3 g hg with h | h
      · exact hs2.out g h
      · exact hA.new g h
    · exact (hw2.out.fr.trans (hf3.mono (fun i _ e => hs2.out i e))).setCell (Or.inl hA.sx) _ _
  have kk := cell_set_same k0 (.slice p3 (m + 8 + l.length) c3)
  clear hf3 ho3 hn3 HL2 hw2 hs2 HO2
  go_wp2
  generalize w3.setCell ⟨x, 0, none⟩ (.slice p3 (m + 8 + l.length) c3) = w4 at *
  go_loopw [7, 8] (fun u v W => ∃ k : Nat, ∃ q : Int, m + 4 ≤ k ∧ k ≤ m + 8 + l.length ∧ v = .int .i64 (k : Int) ∧ u = .int .u32 q ∧ 0 ≤ q ∧ q < 4294967296 ∧ Kept w4 W) (fun _ v _ => m + 8 + l.length - (intOf v).toNat)
  case atStart => exact ⟨m + 4, _, by omega, by omega, by go_num, rfl, by omega, by omega, Kept.refl _⟩
  case round =>
    obtain ⟨k, q, hk0, hk1, rfl, rfl, hq0, hq1, hK⟩ := hrel
    have hP : Hid (Put x N (m + 8 + l.length) S w wr) := HP3.out.kept hK
    have kw : wr.cell? ⟨x, 0, none⟩ = some (.slice p3 (m + 8 + l.length) c3) := (hK.cell (p := ⟨x, 0, none⟩) (World.block_lt_of_cell? _ _ kk)).trans kk
    replace hK : Hid (Kept w4 wr) := hK
    clear kk HP3
    by_cases hlt2 : k < m + 8 + l.length
    · obtain ⟨ov, e0, ho, _⟩ := hP.out.at'.out
      rw [kw] at e0
      injection e0 with e0
      subst e0
      obtain ⟨L, hLl, hLb, hLat⟩ := ho.lat
      obtain ⟨g, o, rfl, hc⟩ : ∃ g o, p3 = some ⟨g, o, none⟩ ∧ wr.cell? ⟨g, o + k, none⟩ = some (.int .u8 (L.getD k 0)) := by
        obtain ⟨g, o, c', e, hc⟩ := hLat.addr (by omega)
        injection e with e _ _
        exact ⟨g, o, e, hc k (by omega)⟩
      have hb := hLb _ (getD_mem (show k < L.length by omega))
      have hb0 := hb.1
      have hb1 := hb.2
      generalize L.getD k 0 = B at *
      clear hb ho hLl hLb hLat
      have hlt' : (k : Int) < (m : Int) + 8 + (l.length : Int) := by omega
      have hk00 : (0 : Int) ≤ (k : Int) := by omega
      go_wp2_with fail
      refine (F2.out _ q B hq0 hq1 hb0 hb1).mono ?_
      rintro r w5 ⟨⟨q5, hq50, hq51, rfl⟩, hk5⟩
      replace hk5 : Hid (Kept w4 w5) := hK.out.trans hk5
      go_wp2
      exact ⟨⟨k + 1, q5, by omega, by omega, by go_num, rfl, hq50, hq51, hk5.out⟩, by simp [intOf]; omega⟩
    · have hlt' : ¬ (k : Int) < (m : Int) + 8 + (l.length : Int) := by omega
      go_wp2_with fail
      refine (F3.out _ q hq0 hq1).mono ?_
      rintro r w5 ⟨⟨q5, hq50, hq51, rfl⟩, rfl⟩
      go_wp2_with fail
      refine (F1.out _ (m + 8 + l.length) q5 (by omega) hq50 hq51 hP.out.at').mono ?_
      rintro r w6 ⟨rfl, hw6⟩
      have HP6 : Hid (Put x N (m + 12 + l.length) S w w6) := by
        rw [show m + 12 + l.length = m + 8 + l.length + 4 by omega]; exact hP.out.trans hw6
      go_wp2
      go_end0
      exact ⟨rfl, HP6.out⟩
theorem add_any (x N m T : Nat) (S : Nat → Prop) (v : Value) (l : List Int) (w : World) (h : WrAt w x N m S) (hm0 : 0 < m) (hl : LAt w .u8 v l) (hB : isBytes l) (hpc : ∀ n c, v = .slice none n c → c = 0) (hS : ∀ g, sliceBlock v = some g → ¬ S g) (hm : m ≤ 274877906944) (hn : l.length ≤ 1048576) (hT : T < 4294967296) :
    Calls Tryz.prog 54 #[.pointer (some ⟨x, 0, none⟩), .int .u32 (T : Int), v] w fun r w' => r = .returned (.tuple #[]) ∧ Put x N (m + 12 + l.length) S w w' :=
  add_core x N m T S v l w (fun q h0 h1 => num4_any x N m q w S h h0 h1 (by omega)) hm0 hl hB hpc hS hm hn hT
end Go.Proofs.YtehnbejlhjkciaaGreatDoor
namespace Go.Proofs.YtehnbejlhjkciaaGreatDoor
open Go.RowKit
set_option linter.unusedSimpArgs false
set_option linter.unusedVariables false

theorem nilat (w : World) : LAt w .u8 (.slice none 0 0) [] := LAt.nil
set_option maxRecDepth 100000 in
set_option maxHeartbeats 3200000 in
theorem palw_any (x N m : Nat) (S : Nat → Prop) (v : Value) (l : List Int) (w : World) (h : WrAt w x N m S) (hm0 : 0 < m) (hl : LAt w .u8 v l) (hB : isBytes l) (hpc : ∀ n c, v = .slice none n c → c = 0) (hS : ∀ g, sliceBlock v = some g → ¬ S g) (hm : m ≤ 274877906944) (hn : l.length ≤ 1048576) :
    Calls Tryz.prog 33 #[.pointer (some ⟨x, 0, none⟩), v] w fun r w' => r = .returned (.tuple #[]) ∧ Put x N (m + 12 + l.length) S w w' := by
  have F := fun (T : Nat) (hT : T < 4294967296) => add_any x N m T S v l w h hm0 hl hB hpc hS hm hn hT
  replace F : Hid _ := F
  obtain ⟨p, c, rfl⟩ := hl.form
  clear h hl hB hpc hS
  go_enter Tryz.func33, Tryz.ntmps33
  go_wp2_with fail
  refine (F.out _ ?_).mono ?_
  rotate_left
  · rintro r w1 ⟨rfl, hw1⟩
    go_wp2
    go_end0
    exact ⟨rfl, hw1⟩
  · decide
set_option maxRecDepth 100000 in
set_option maxHeartbeats 3200000 in
theorem clrw_any (x N m : Nat) (S : Nat → Prop) (v : Value) (l : List Int) (w : World) (h : WrAt w x N m S) (hm0 : 0 < m) (hl : LAt w .u8 v l) (hB : isBytes l) (hpc : ∀ n c, v = .slice none n c → c = 0) (hS : ∀ g, sliceBlock v = some g → ¬ S g) (hm : m ≤ 274877906944) (hn : l.length ≤ 1048576) :
    Calls Tryz.prog 35 #[.pointer (some ⟨x, 0, none⟩), v] w fun r w' => r = .returned (.tuple #[]) ∧ Put x N (m + 12 + l.length) S w w' := by
  have F := fun (T : Nat) (hT : T < 4294967296) => add_any x N m T S v l w h hm0 hl hB hpc hS hm hn hT
  replace F : Hid _ := F
  obtain ⟨p, c, rfl⟩ := hl.form
  clear h hl hB hpc hS
  go_enter Tryz.func35, Tryz.ntmps35
  go_wp2_with fail
  refine (F.out _ ?_).mono ?_
  rotate_left
  · rintro r w1 ⟨rfl, hw1⟩
    go_wp2
    go_end0
    exact ⟨rfl, hw1⟩
  · decide
set_option maxRecDepth 100000 in
set_option maxHeartbeats 3200000 in
theorem dataw_any (x N m : Nat) (S : Nat → Prop) (v : Value) (l : List Int) (w : World) (h : WrAt w x N m S) (hm0 : 0 < m) (hl : LAt w .u8 v l) (hB : isBytes l) (hpc : ∀ n c, v = .slice none n c → c = 0) (hS : ∀ g, sliceBlock v = some g → ¬ S g) (hm : m ≤ 274877906944) (hn : l.length ≤ 1048576) :
    Calls Tryz.prog 56 #[.pointer (some ⟨x, 0, none⟩), v] w fun r w' => r = .returned (.tuple #[]) ∧ Put x N (m + 12 + l.length) S w w' := by
  have F := fun (T : Nat) (hT : T < 4294967296) => add_any x N m T S v l w h hm0 hl hB hpc hS hm hn hT
  replace F : Hid _ := F
  obtain ⟨p, c, rfl⟩ := hl.form
  clear h hl hB hpc hS
  go_enter Tryz.func56, Tryz.ntmps56
  go_wp2_with fail
  refine (F.out _ ?_).mono ?_
  rotate_left
  · rintro r w1 ⟨rfl, hw1⟩
    go_wp2
    go_end0
    exact ⟨rfl, hw1⟩
  · decide
set_option maxRecDepth 100000 in
set_option maxHeartbeats 3200000 in
theorem endw_any (x N m : Nat) (S : Nat → Prop) (w : World) (h : WrAt w x N m S) (hm0 : 0 < m) (hm : m ≤ 274877906944) :
    Calls Tryz.prog 38 #[.pointer (some ⟨x, 0, none⟩)] w fun r w' => r = .returned (.tuple #[]) ∧ Put x N (m + 12) S w w' := by
  have F := fun (T : Nat) (hT : T < 4294967296) => add_any x N m T S (.slice none 0 0) [] w h hm0 LAt.nil isBytes.nil (fun n c e => by injection e with _ _ e; exact e.symm) (fun g hg => by cases hg) hm (by simp) hT
  replace F : Hid _ := F
  clear h
  go_enter Tryz.func38, Tryz.ntmps38
  go_wp2_with fail
  refine (F.out _ ?_).mono ?_
  rotate_left
  · rintro r w1 ⟨rfl, hw1⟩
    go_wp2
    go_end0
    exact ⟨rfl, hw1⟩
  · decide
end Go.Proofs.YtehnbejlhjkciaaGreatDoor
