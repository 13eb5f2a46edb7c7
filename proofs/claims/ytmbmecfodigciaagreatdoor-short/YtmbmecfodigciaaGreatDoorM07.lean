import Derived.Test.YtmbmecfodigciaaGreatDoorM00
import Derived.Deep.RegionHeld3
import Derived.Test.YtmbmecfodigciaaGreatDoorM05
import Derived.Test.YtmbmecfodigciaaGreatDoorM04
set_option maxRecDepth 100000
set_option maxHeartbeats 6400000
namespace Go.Proofs.YtmbmecfodigciaaGreatDoor
open Go.RowKit
set_option linter.unusedSimpArgs false
set_option linter.unusedVariables false
/-- The blocks that the writer may write. -/
structure LS (w : World) (x : Nat) (S : Nat → Prop) : Prop where
  sx : S x
  new : ∀ g, w.heap.size ≤ g → S g
  own : ∀ ov g, w.cell? ⟨x, 5, none⟩ = some ov → ov.ownBlock = some g → S g
theorem LS.kept {w w' : World} {x : Nat} {S : Nat → Prop} (h : LS w x S) (k : Kept w w') (hx : x < w.heap.size) : LS w' x S := ⟨h.sx, fun g hg => h.new g (Nat.le_trans k.size hg), fun ov g h1 h2 => h.own ov g ((k.cell (p := ⟨x, 5, none⟩) hx).symm.trans h1) h2⟩
end Go.Proofs.YtmbmecfodigciaaGreatDoor
namespace Go.Proofs.YtmbmecfodigciaaGreatDoor
open Go.RowKit Px
set_option linter.unusedSimpArgs false
set_option linter.unusedVariables false
def putR (r m n s : Nat) : Nat := r + n % 2 ^ s * 2 ^ m
theorem putR_lt {r m n s : Nat} (hr : r < 2 ^ m) : putR r m n s < 2 ^ (m + s) := by
  unfold putR
  have h1 : n % 2 ^ s < 2 ^ s := Nat.mod_lt _ (Nat.two_pow_pos s)
  have h2 : (n % 2 ^ s + 1) * 2 ^ m ≤ 2 ^ s * 2 ^ m := Nat.mul_le_mul_right _ h1
  rw [Nat.add_mul, Nat.one_mul] at h2
  rw [Nat.pow_add, Nat.mul_comm (2 ^ m)]
  omega
theorem pow24 {k : Nat} (h : k ≤ 23) : 2 ^ k ≤ 8388608 := Nat.le_trans (Nat.pow_le_pow_right (by omega) h) (by decide)
theorem number_b (x N : Nat) (l : List Int) (r m n s : Nat) (w : World) (h : BitB w x N l r m) (hr : r < 2 ^ m) (hm7 : m ≤ 7) (hs : s ≤ 16) (hn1 : n < 4294967296) (hl : l.length ≤ 1073741824) :
    Calls Tryz.prog 133 #[.pointer (some ⟨x, 0, none⟩), .int .u32 (n : Int), .int .u64 (s : Int)] w fun e w' => e = .returned (.tuple #[]) ∧ BitB w' x N (l ++ leB ((m + s) / 8) (putR r m n s)) (putR r m n s / 256 ^ ((m + s) / 8)) ((m + s) % 8) ∧ FrN x N w w' ∧ (∀ j, 3 ≤ j → w'.cell? ⟨x, j, none⟩ = w.cell? ⟨x, j, none⟩) := by
  obtain ⟨hlt, hsz, hfz, ⟨ov, h0, hown⟩, h1, h2⟩ := h
  obtain ⟨p, c, rfl⟩ := hown.slice
  have hfa := hfz 0
  have hfb := hfz 1
  have hfc := hfz 2
  have HO : Hid (OwnB w N (.slice p l.length c) l) := hown
  have hpR := putR_lt (n := n) (s := s) hr
  have hp24 := pow24 (k := m + s) (by omega)
  obtain ⟨PR, hPR⟩ : ∃ PR, PR = putR r m n s := ⟨_, rfl⟩
  have HR : Hid (∀ q : Int, q = bits BinOp.or IntKind.u32 (r : Int) (bits BinOp.and IntKind.u32 (n : Int) ((2 ^ s - 1) % 4294967296) * 2 ^ m % 4294967296) → q = (PR : Int)) := fun q hq => by
    have hp := pow24 (k := s) (by omega)
    have hs1 : 1 ≤ 2 ^ s := Nat.one_le_two_pow
    have e1 : ((2 : Int) ^ s - 1) % 4294967296 = ((2 ^ s - 1 : Nat) : Int) := by
      have : (2 : Int) ^ s = ((2 ^ s : Nat) : Int) := by simp
      rw [this]; omega
    have hnm : n % 2 ^ s * 2 ^ m ≤ putR r m n s := by unfold putR; omega
    have e2 : ((n % 2 ^ s : Nat) : Int) * 2 ^ m % 4294967296 = ((n % 2 ^ s * 2 ^ m : Nat) : Int) := by
      have : ((n % 2 ^ s : Nat) : Int) * 2 ^ m = ((n % 2 ^ s * 2 ^ m : Nat) : Int) := by simp
      rw [this]
      obtain ⟨Z, hZ⟩ : ∃ Z, Z = n % 2 ^ s * 2 ^ m := ⟨_, rfl⟩
      rw [← hZ] at hnm ⊢
      omega
    rw [hq, e1, u32_and_mask n s hn1 (by omega), e2, u32_or_shl r m _ hr (by show putR r m n s < _; omega), hPR]
    rfl
  rw [← hPR] at hpR ⊢
  have hPRb : PR < 8388608 := by omega
  clear hown hPR hpR hp24
  obtain ⟨MS, hMS⟩ : ∃ MS, MS = m + s := ⟨_, rfl⟩
  have eMS : (m : Int) + (s : Int) = (MS : Int) := by omega
  have hMS23 : MS ≤ 23 := by omega
  rw [← hMS]
  clear hMS
  go_enter Tryz.func133, Tryz.ntmps133
  go_wp2
  go_region
  rw [HR.out _ rfl]
  have hD : ((w.setCell { block := x, off := 1 } (Value.int IntKind.u32 (PR : Int))).drew) = ((w.setCell { block := x, off := 1 } (Value.int IntKind.u32 (PR : Int))).drewN 1) := rfl
  rw [hD]
  clear hD
  have a0 : ((w.setCell ⟨x, 1, none⟩ (Value.int IntKind.u32 (PR : Int))).drewN 1).cell? ⟨x, 0, none⟩ = some (Value.slice p l.length c) := (cell_set_other _ _ _ _ _ (by omega)).trans h0
  have a1 : ((w.setCell ⟨x, 1, none⟩ (Value.int IntKind.u32 (PR : Int))).drewN 1).cell? ⟨x, 1, none⟩ = some (Value.int IntKind.u32 (PR : Int)) := cell_set_same h1 _
  have a2 : ((w.setCell ⟨x, 1, none⟩ (Value.int IntKind.u32 (PR : Int))).drewN 1).cell? ⟨x, 2, none⟩ = some (Value.int IntKind.u64 (m : Int)) := (cell_set_other _ _ _ _ _ (by omega)).trans h2
  have af : ∀ k, ((w.setCell ⟨x, 1, none⟩ (Value.int IntKind.u32 (PR : Int))).drewN 1).frozen? ⟨x, k, none⟩ = false := fun k => by show (w.setCell _ _).frozen? _ = false; rw [World.frozen?_setCell]; exact hfz k
  have HO1 : Hid (OwnB ((w.setCell ⟨x, 1, none⟩ (Value.int IntKind.u32 (PR : Int))).drewN 1) N (.slice p l.length c) l) := (HO.out.set hlt _ _).drewN _
  have HF1 : Hid (FrN x N w ((w.setCell ⟨x, 1, none⟩ (Value.int IntKind.u32 (PR : Int))).drewN 1)) := ((Fr.refl _ _).setCell (Or.inl (Or.inl rfl)) _ _).drewN _
  have HJ1 : Hid (∀ j, 3 ≤ j → ((w.setCell ⟨x, 1, none⟩ (Value.int IntKind.u32 (PR : Int))).drewN 1).cell? ⟨x, j, none⟩ = w.cell? ⟨x, j, none⟩) := fun j hj => cell_set_other _ _ _ _ _ (by omega)
  generalize (w.setCell ⟨x, 1, none⟩ (Value.int IntKind.u32 (PR : Int))).drewN 1 = w1 at *
  clear h0 h1 h2 hfa hfb hfc
  have hfa := af 0
  have hfb := af 1
  have hfc := af 2
  go_wp2
  generalize ((2 : Int) ^ s % 4294967296 - 1) % 4294967296 = Z1
  go_loopw [] (fun W => ∃ k q : Nat, ∃ ov : Value, 8 * q + k = MS ∧ W.cell? ⟨x, 2, none⟩ = some (.int .u64 (k : Int)) ∧ W.cell? ⟨x, 0, none⟩ = some ov ∧ OwnB W N ov (l ++ leB q PR) ∧ W.cell? ⟨x, 1, none⟩ = some (.int .u32 ((PR / 256 ^ q : Nat) : Int)) ∧ (∀ k, W.frozen? ⟨x, k, none⟩ = false) ∧ FrN x N w W ∧ (∀ j, 3 ≤ j → W.cell? ⟨x, j, none⟩ = w.cell? ⟨x, j, none⟩)) (fun W => szOf W x)
  case atStart =>
    refine ⟨MS, 0, _, by omega, ?_, (cell_set_other _ _ _ _ _ (by omega)).trans a0, ?_, ?_, ?_, HF1.out.setCell (Or.inl (Or.inl rfl)) _ _, ?_⟩
    · exact cell_set_same a2 _
    · rw [show leB 0 PR = [] from rfl, List.append_nil]; exact HO1.out.set hlt _ _
    · rw [Nat.pow_zero, Nat.div_one]; exact (cell_set_other _ _ _ _ _ (by omega)).trans a1
    · intro k; rw [World.frozen?_setCell]; exact af k
    · intro j hj; rw [cell_set_other _ _ _ _ _ (by omega)]; exact HJ1.out j hj
  case round =>
    obtain ⟨k, q, ov, he, c2, c0, ho, c1, ff, hF, hJ⟩ := hrel
    obtain ⟨p2, cc, rfl⟩ := ho.slice
    have f0 := ff 0
    have f1 := ff 1
    have f2 := ff 2
    have hN : N ≤ wr.heap.size := Nat.le_trans hsz hF.size
    have HF : Hid (FrN x N w wr) := hF
    have HJ : Hid (∀ j, 3 ≤ j → wr.cell? ⟨x, j, none⟩ = w.cell? ⟨x, j, none⟩) := hJ
    obtain ⟨LL, hLL⟩ : ∃ LL, LL = l ++ leB q PR := ⟨_, rfl⟩
    have hLLl : LL.length = l.length + q := by rw [hLL, List.length_append, leB_len]
    rw [← hLL] at ho c0
    have HO2 : Hid (OwnB wr N (.slice p2 LL.length cc) LL) := ho
    replace ff : Hid (∀ k, wr.frozen? ⟨x, k, none⟩ = false) := ff
    obtain ⟨RQ, hRQ⟩ : ∃ RQ, RQ = PR / 256 ^ q := ⟨_, rfl⟩
    have hRQb : RQ ≤ PR := by rw [hRQ]; exact Nat.div_le_self _ _
    rw [← hRQ] at c1
    obtain ⟨QL, hQL⟩ : ∃ QL, QL = LL.length := ⟨_, rfl⟩
    rw [← hQL] at HO2 c0
    have hQLb : QL ≤ 1073741824 + 3 := by omega
    have hLLb : LL.length ≤ 1073741824 + 3 := by omega
    replace hLLl : Hid _ := hLLl
    clear ho hF hJ af HO HO1 HF1 HJ1
    by_cases hge : 8 ≤ k
    · have hge' : (8 : Int) ≤ (k : Int) := by omega
      have e8 : IntKind.u8.wrap (RQ : Int) = ((RQ % 256 : Nat) : Int) := u8_wrap RQ
      have e0 : 0 ≤ IntKind.u8.wrap (RQ : Int) := by rw [e8]; omega
      have e1 : IntKind.u8.wrap (RQ : Int) < 256 := by rw [e8]; omega
      have HLq : Hid (LL ++ [IntKind.u8.wrap (RQ : Int)] = l ++ leB (q + 1) PR) := by
        show LL ++ [IntKind.u8.wrap (RQ : Int)] = l ++ leB (q + 1) PR
        rw [e8, hLL, leB_snoc, hRQ, List.append_assoc]
      have HRq : Hid (RQ / 256 = PR / 256 ^ (q + 1)) := by
        show RQ / 256 = PR / 256 ^ (q + 1)
        rw [hRQ, Nat.div_div_eq_div_mul, Nat.pow_succ]
      have hne : ¬ (Value.slice p2 QL cc).ownBlock = some x := fun e => by have := HO2.out.ge x e; omega
      have hxs : x < wr.heap.size := by omega
      have HQ : Hid (QL = LL.length) := hQL
      have HO2' : Hid (OwnB wr N (.slice p2 QL cc) LL) := HO2.out
      clear e8 hLL hRQ hQL
      go_wp2
      go_region_law ((refine stepB_1 (by rfl) _ _ (by rfl) N (.slice p2 QL cc) LL (by rfl) (by first | exact HO2.out.alloc _ | exact (HO2.out.drewN _).alloc _ | exact (HO2.out.alloc _).drewN _) wr.heap.size 1 (IntKind.u8.wrap (RQ : Int)) (by rfl) e0 e1 (by simp) (by omega) (by simp; omega) ?_; intro g' cap w2 ho2 hf2; have fk : Fr (fun k => (Value.slice p2 QL cc).ownBlock = some k) wr w2 := (((Fr.refl _ wr).drewN 1).alloc _).trans hf2; have k0 := (fk.cell (k := 0) hxs hne).trans c0; have k1 := (fk.cell (k := 1) hxs hne).trans c1; have k2 := (fk.cell (k := 2) hxs hne).trans c2; have g0 := (fk.frozen (k := 0) hxs hne).trans f0; have g1 := (fk.frozen (k := 1) hxs hne).trans f1; have g2 := (fk.frozen (k := 2) hxs hne).trans f2))
      all_goals
        have HO3 : Hid (OwnB (w2.setCell ⟨x, 0, none⟩ (Value.slice (some ⟨g', 0, none⟩) (LL.length + 1) cap)) N (Value.slice (some ⟨g', 0, none⟩) (LL.length + 1) cap) (l ++ leB (q + 1) PR)) := by rw [← HLq.out]; exact ho2.set hlt _ _
        have HF3 : Hid (FrN x N w (w2.setCell ⟨x, 0, none⟩ (Value.slice (some ⟨g', 0, none⟩) (LL.length + 1) cap))) := (HF.out.trans' fk (fun i _ e => Or.inr (HO2.out.ge i e))).setCell (Or.inl (Or.inl rfl)) _ _
        have HJ3 : Hid (∀ j, 3 ≤ j → (w2.setCell ⟨x, 0, none⟩ (Value.slice (some ⟨g', 0, none⟩) (LL.length + 1) cap)).cell? ⟨x, j, none⟩ = w.cell? ⟨x, j, none⟩) := fun j hj => (cell_set_other _ _ _ _ _ (by omega)).trans ((fk.cell hxs hne).trans (HJ.out j hj))
        have HG3 : Hid (∀ k, (w2.setCell ⟨x, 0, none⟩ (Value.slice (some ⟨g', 0, none⟩) (LL.length + 1) cap)).frozen? ⟨x, k, none⟩ = false) := fun k => by rw [World.frozen?_setCell]; exact (fk.frozen hxs hne).trans (ff.out k)
        have m0 := cell_set_same k0 (Value.slice (some ⟨g', 0, none⟩) (LL.length + 1) cap)
        have m1 := (cell_set_other w2 x 0 1 (Value.slice (some ⟨g', 0, none⟩) (LL.length + 1) cap) (by omega)).trans k1
        have m2 := (cell_set_other w2 x 0 2 (Value.slice (some ⟨g', 0, none⟩) (LL.length + 1) cap) (by omega)).trans k2
        have hsz' : szOf wr x = k := by unfold szOf; rw [c2]; simp
        generalize w2.setCell ⟨x, 0, none⟩ (Value.slice (some ⟨g', 0, none⟩) (LL.length + 1) cap) = w3 at *
        have n0 := HG3.out 0
        have n1 := HG3.out 1
        have n2 := HG3.out 2
        clear fk hf2 ho2 HO2 HO2' HF HJ k0 k1 k2 g0 g1 g2 c0 c1 c2 f0 f1 f2
        go_wp2
        refine ⟨⟨k - 8, q + 1, _, by omega, ?_, (cell_set_other _ _ _ _ _ (by omega)).trans ((cell_set_other _ _ _ _ _ (by omega)).trans m0), (HO3.out.set hlt _ _).set hlt _ _, ?_, ?_, (HF3.out.setCell (Or.inl (Or.inl rfl)) _ _).setCell (Or.inl (Or.inl rfl)) _ _, ?_⟩, ?_⟩
        · rw [cell_set_same ((cell_set_other _ _ _ _ _ (by omega)).trans m2)]
          exact congrArg some (val_int (by omega))
        · rw [cell_set_other _ _ _ _ _ (by omega), cell_set_same m1]
          exact congrArg some (val_int (by rw [← HRq.out]; omega))
        · intro k; rw [World.frozen?_setCell, World.frozen?_setCell]; exact HG3.out k
        · intro j hj; rw [cell_set_other _ _ _ _ _ (by omega), cell_set_other _ _ _ _ _ (by omega)]; exact HJ3.out j hj
        · rw [hsz']
          unfold szOf
          rw [cell_set_same ((cell_set_other _ _ _ _ _ (by omega)).trans m2)]
          show ((k : Int) - 8).toNat < k
          omega
    · have hge' : ¬ (8 : Int) ≤ (k : Int) := by omega
      have HL : Hid (LL = l ++ leB q PR) := hLL
      have HRQ : Hid (RQ = PR / 256 ^ q) := hRQ
      clear hLL hRQ hQL
      go_wp2
      go_end0
      have hq : MS / 8 = q := by omega
      have hk : MS % 8 = k := by omega
      rw [hq, hk, ← HRQ.out, ← HL.out]
      exact ⟨rfl, ⟨hlt, hN, ff.out, ⟨_, c0, HO2.out⟩, c1, c2⟩, HF.out, HJ.out⟩
/-- Bits were written. -/
structure WroteB (x N : Nat) (l : List Int) (r m : Nat) (w w' : World) : Prop where
  bits : BitB w' x N l r m
  fr : FrN x N w w'
  far : ∀ j, 3 ≤ j → w'.cell? ⟨x, j, none⟩ = w.cell? ⟨x, j, none⟩
theorem WroteB.refl {x N : Nat} {l : List Int} {r m : Nat} {w : World} (h : BitB w x N l r m) : WroteB x N l r m w w := ⟨h, Fr.refl _ _, fun _ _ => rfl⟩
theorem WroteB.trans {x N : Nat} {l l' : List Int} {r m r' m' : Nat} {a b c : World} (h : WroteB x N l r m a b) (k : WroteB x N l' r' m' b c) : WroteB x N l' r' m' a c := ⟨k.bits, h.fr.trans k.fr, fun j hj => (k.far j hj).trans (h.far j hj)⟩
theorem BitB.kept {x N : Nat} {l : List Int} {r m : Nat} {w w' : World} (h : BitB w x N l r m) (k : Kept w w') : BitB w' x N l r m := by
  have hx : x < w.heap.size := Nat.lt_of_lt_of_le h.lt h.size
  obtain ⟨ov, h0, ho⟩ := h.out
  exact ⟨h.lt, Nat.le_trans h.size k.size, fun j => (k.frozen (p := ⟨x, j, none⟩) hx).trans (h.fz j), ⟨ov, (k.cell (p := ⟨x, 0, none⟩) hx).trans h0, ho.kept k⟩, (k.cell (p := ⟨x, 1, none⟩) hx).trans h.rest, (k.cell (p := ⟨x, 2, none⟩) hx).trans h.sz⟩
theorem WroteB.kept {x N : Nat} {l : List Int} {r m : Nat} {a b c : World} (h : WroteB x N l r m a b) (k : Kept b c) : WroteB x N l r m a c := by
  have hx : x < b.heap.size := Nat.lt_of_lt_of_le h.bits.lt h.bits.size
  exact ⟨h.bits.kept k, h.fr.kept k, fun j hj => (k.cell (p := ⟨x, j, none⟩) hx).trans (h.far j hj)⟩
theorem number_wb (x N : Nat) (l : List Int) (r m n s : Nat) (l' : List Int) (r' m' : Nat) (w : World) (h : BitB w x N l r m) (hr : r < 2 ^ m) (hm7 : m ≤ 7) (hs : s ≤ 16) (hn1 : n < 4294967296) (hl : l.length ≤ 1073741824) (e1 : l' = l ++ leB ((m + s) / 8) (putR r m n s)) (e2 : r' = putR r m n s / 256 ^ ((m + s) / 8)) (e3 : m' = (m + s) % 8) :
    Calls Tryz.prog 133 #[.pointer (some ⟨x, 0, none⟩), .int .u32 (n : Int), .int .u64 (s : Int)] w fun e w' => e = .returned (.tuple #[]) ∧ WroteB x N l' r' m' w w' := by
  subst e1; subst e2; subst e3
  exact (number_b x N l r m n s w h hr hm7 hs hn1 hl).mono (fun e w' ⟨q1, q2, q3, q4⟩ => ⟨q1, q2, q3, q4⟩)
/-- A whole byte behind whole bytes. -/
theorem byte_b (x N : Nat) (l : List Int) (n : Nat) (w : World) (h : BitB w x N l 0 0) (hn1 : n < 4294967296) (hl : l.length ≤ 1073741824) :
    Calls Tryz.prog 133 #[.pointer (some ⟨x, 0, none⟩), .int .u32 (n : Int), .int .u64 8] w fun e w' => e = .returned (.tuple #[]) ∧ WroteB x N (l ++ [((n % 256 : Nat) : Int)]) 0 0 w w' := by
  refine number_wb x N l 0 0 n 8 _ 0 0 w h (by omega) (by omega) (by omega) hn1 hl ?_ ?_ rfl
  · show _ = l ++ [(((0 + n % 256 * 1) % 256 : Nat) : Int)]
    rw [Nat.zero_add, Nat.mul_one, Nat.mod_mod]
  · show 0 = (0 + n % 256 * 1) / 256
    omega
def zFlg (v : Nat) : Nat := (31 - 256 * (8 + 16 * v) % 31) % 31
theorem head_b (x N v : Nat) (l : List Int) (w : World) (h : BitB w x N l 0 0) (hv : v ≤ 7) (hl : l.length ≤ 1000000) :
    Calls Tryz.prog 99 #[.pointer (some ⟨x, 0, none⟩), .int .i64 (v : Int)] w fun e w' => e = .returned (.tuple #[]) ∧ WroteB x N (l ++ [((8 + 16 * v : Nat) : Int), (zFlg v : Int)]) 0 0 w w' := by
  have F1 : Hid (∀ n : Nat, n < 4294967296 → Calls Tryz.prog 133 #[.pointer (some ⟨x, 0, none⟩), .int .u32 (n : Int), .int .u64 8] w fun e w' => e = .returned (.tuple #[]) ∧ WroteB x N (l ++ [((n % 256 : Nat) : Int)]) 0 0 w w') := fun n hn => byte_b x N l n w h hn (by omega)
  have F2 : Hid (∀ (W : World) (l1 : List Int) (n : Nat), n < 4294967296 → l1.length ≤ 1000001 → BitB W x N l1 0 0 → Calls Tryz.prog 133 #[.pointer (some ⟨x, 0, none⟩), .int .u32 (n : Int), .int .u64 8] W fun e w' => e = .returned (.tuple #[]) ∧ WroteB x N (l1 ++ [((n % 256 : Nat) : Int)]) 0 0 W w') := fun W l1 n hn hl1 hb => byte_b x N l1 n W hb hn (by omega)
  clear h
  have hv' : v = 0 ∨ v = 1 ∨ v = 2 ∨ v = 3 ∨ v = 4 ∨ v = 5 ∨ v = 6 ∨ v = 7 := by omega
  rcases hv' with rfl | rfl | rfl | rfl | rfl | rfl | rfl | rfl
  · clear hv
    have e1 : (zFlg 0 : Int) = 29 := by decide
    have e2 : ((8 + 16 * 0 : Nat) : Int) = 8 := by decide
    rw [e1, e2]
    clear e1 e2
    have G1 := F1.out 8 (by decide)
    have G2 := fun W l1 => F2.out W l1 29 (by decide)
    replace G1 : Hid (Calls Tryz.prog 133 #[.pointer (some ⟨x, 0, none⟩), .int .u32 8, .int .u64 8] w fun e w' => e = .returned (.tuple #[]) ∧ WroteB x N (l ++ [8]) 0 0 w w') := G1
    replace G2 : Hid (∀ (W : World) (l1 : List Int), l1.length ≤ 1000001 → BitB W x N l1 0 0 → Calls Tryz.prog 133 #[.pointer (some ⟨x, 0, none⟩), .int .u32 29, .int .u64 8] W fun e w' => e = .returned (.tuple #[]) ∧ WroteB x N (l1 ++ [29]) 0 0 W w') := G2
    clear F1 F2
    go_enter Tryz.func99, Tryz.ntmps99
    go_wp2_with fail
    refine G1.out.mono ?_
    rintro e w1 ⟨rfl, hw1⟩
    go_wp2_with fail
    refine (G2.out _ _ (by simp; omega) hw1.bits).mono ?_
    rintro e w2 ⟨rfl, hw2⟩
    go_wp2
    go_end0
    refine ⟨rfl, ?_⟩
    have := hw1.trans hw2
    rw [List.append_assoc] at this
    exact this
  · clear hv
    have e1 : (zFlg 1 : Int) = 25 := by decide
    have e2 : ((8 + 16 * 1 : Nat) : Int) = 24 := by decide
    rw [e1, e2]
    clear e1 e2
    have G1 := F1.out 24 (by decide)
    have G2 := fun W l1 => F2.out W l1 25 (by decide)
    replace G1 : Hid (Calls Tryz.prog 133 #[.pointer (some ⟨x, 0, none⟩), .int .u32 24, .int .u64 8] w fun e w' => e = .returned (.tuple #[]) ∧ WroteB x N (l ++ [24]) 0 0 w w') := G1
    replace G2 : Hid (∀ (W : World) (l1 : List Int), l1.length ≤ 1000001 → BitB W x N l1 0 0 → Calls Tryz.prog 133 #[.pointer (some ⟨x, 0, none⟩), .int .u32 25, .int .u64 8] W fun e w' => e = .returned (.tuple #[]) ∧ WroteB x N (l1 ++ [25]) 0 0 W w') := G2
    clear F1 F2
    go_enter Tryz.func99, Tryz.ntmps99
    go_wp2_with fail
    refine G1.out.mono ?_
    rintro e w1 ⟨rfl, hw1⟩
    go_wp2_with fail
    refine (G2.out _ _ (by simp; omega) hw1.bits).mono ?_
    rintro e w2 ⟨rfl, hw2⟩
    go_wp2
    go_end0
    refine ⟨rfl, ?_⟩
    have := hw1.trans hw2
    rw [List.append_assoc] at this
    exact this
  · clear hv
    have e1 : (zFlg 2 : Int) = 21 := by decide
    have e2 : ((8 + 16 * 2 : Nat) : Int) = 40 := by decide
    rw [e1, e2]
    clear e1 e2
    have G1 := F1.out 40 (by decide)
    have G2 := fun W l1 => F2.out W l1 21 (by decide)
    replace G1 : Hid (Calls Tryz.prog 133 #[.pointer (some ⟨x, 0, none⟩), .int .u32 40, .int .u64 8] w fun e w' => e = .returned (.tuple #[]) ∧ WroteB x N (l ++ [40]) 0 0 w w') := G1
    replace G2 : Hid (∀ (W : World) (l1 : List Int), l1.length ≤ 1000001 → BitB W x N l1 0 0 → Calls Tryz.prog 133 #[.pointer (some ⟨x, 0, none⟩), .int .u32 21, .int .u64 8] W fun e w' => e = .returned (.tuple #[]) ∧ WroteB x N (l1 ++ [21]) 0 0 W w') := G2
    clear F1 F2
    go_enter Tryz.func99, Tryz.ntmps99
    go_wp2_with fail
    refine G1.out.mono ?_
    rintro e w1 ⟨rfl, hw1⟩
    go_wp2_with fail
    refine (G2.out _ _ (by simp; omega) hw1.bits).mono ?_
    rintro e w2 ⟨rfl, hw2⟩
    go_wp2
    go_end0
    refine ⟨rfl, ?_⟩
    have := hw1.trans hw2
    rw [List.append_assoc] at this
    exact this
  · clear hv
    have e1 : (zFlg 3 : Int) = 17 := by decide
    have e2 : ((8 + 16 * 3 : Nat) : Int) = 56 := by decide
    rw [e1, e2]
    clear e1 e2
    have G1 := F1.out 56 (by decide)
    have G2 := fun W l1 => F2.out W l1 17 (by decide)
    replace G1 : Hid (Calls Tryz.prog 133 #[.pointer (some ⟨x, 0, none⟩), .int .u32 56, .int .u64 8] w fun e w' => e = .returned (.tuple #[]) ∧ WroteB x N (l ++ [56]) 0 0 w w') := G1
    replace G2 : Hid (∀ (W : World) (l1 : List Int), l1.length ≤ 1000001 → BitB W x N l1 0 0 → Calls Tryz.prog 133 #[.pointer (some ⟨x, 0, none⟩), .int .u32 17, .int .u64 8] W fun e w' => e = .returned (.tuple #[]) ∧ WroteB x N (l1 ++ [17]) 0 0 W w') := G2
    clear F1 F2
    go_enter Tryz.func99, Tryz.ntmps99
    go_wp2_with fail
    refine G1.out.mono ?_
    rintro e w1 ⟨rfl, hw1⟩
    go_wp2_with fail
    refine (G2.out _ _ (by simp; omega) hw1.bits).mono ?_
    rintro e w2 ⟨rfl, hw2⟩
    go_wp2
    go_end0
    refine ⟨rfl, ?_⟩
    have := hw1.trans hw2
    rw [List.append_assoc] at this
    exact this
  · clear hv
    have e1 : (zFlg 4 : Int) = 13 := by decide
    have e2 : ((8 + 16 * 4 : Nat) : Int) = 72 := by decide
    rw [e1, e2]
    clear e1 e2
    have G1 := F1.out 72 (by decide)
    have G2 := fun W l1 => F2.out W l1 13 (by decide)
    replace G1 : Hid (Calls Tryz.prog 133 #[.pointer (some ⟨x, 0, none⟩), .int .u32 72, .int .u64 8] w fun e w' => e = .returned (.tuple #[]) ∧ WroteB x N (l ++ [72]) 0 0 w w') := G1
    replace G2 : Hid (∀ (W : World) (l1 : List Int), l1.length ≤ 1000001 → BitB W x N l1 0 0 → Calls Tryz.prog 133 #[.pointer (some ⟨x, 0, none⟩), .int .u32 13, .int .u64 8] W fun e w' => e = .returned (.tuple #[]) ∧ WroteB x N (l1 ++ [13]) 0 0 W w') := G2
    clear F1 F2
    go_enter Tryz.func99, Tryz.ntmps99
    go_wp2_with fail
    refine G1.out.mono ?_
    rintro e w1 ⟨rfl, hw1⟩
    go_wp2_with fail
    refine (G2.out _ _ (by simp; omega) hw1.bits).mono ?_
    rintro e w2 ⟨rfl, hw2⟩
    go_wp2
    go_end0
    refine ⟨rfl, ?_⟩
    have := hw1.trans hw2
    rw [List.append_assoc] at this
    exact this
  · clear hv
    have e1 : (zFlg 5 : Int) = 9 := by decide
    have e2 : ((8 + 16 * 5 : Nat) : Int) = 88 := by decide
    rw [e1, e2]
    clear e1 e2
    have G1 := F1.out 88 (by decide)
    have G2 := fun W l1 => F2.out W l1 9 (by decide)
    replace G1 : Hid (Calls Tryz.prog 133 #[.pointer (some ⟨x, 0, none⟩), .int .u32 88, .int .u64 8] w fun e w' => e = .returned (.tuple #[]) ∧ WroteB x N (l ++ [88]) 0 0 w w') := G1
    replace G2 : Hid (∀ (W : World) (l1 : List Int), l1.length ≤ 1000001 → BitB W x N l1 0 0 → Calls Tryz.prog 133 #[.pointer (some ⟨x, 0, none⟩), .int .u32 9, .int .u64 8] W fun e w' => e = .returned (.tuple #[]) ∧ WroteB x N (l1 ++ [9]) 0 0 W w') := G2
    clear F1 F2
    go_enter Tryz.func99, Tryz.ntmps99
    go_wp2_with fail
    refine G1.out.mono ?_
    rintro e w1 ⟨rfl, hw1⟩
    go_wp2_with fail
    refine (G2.out _ _ (by simp; omega) hw1.bits).mono ?_
    rintro e w2 ⟨rfl, hw2⟩
    go_wp2
    go_end0
    refine ⟨rfl, ?_⟩
    have := hw1.trans hw2
    rw [List.append_assoc] at this
    exact this
  · clear hv
    have e1 : (zFlg 6 : Int) = 5 := by decide
    have e2 : ((8 + 16 * 6 : Nat) : Int) = 104 := by decide
    rw [e1, e2]
    clear e1 e2
    have G1 := F1.out 104 (by decide)
    have G2 := fun W l1 => F2.out W l1 5 (by decide)
    replace G1 : Hid (Calls Tryz.prog 133 #[.pointer (some ⟨x, 0, none⟩), .int .u32 104, .int .u64 8] w fun e w' => e = .returned (.tuple #[]) ∧ WroteB x N (l ++ [104]) 0 0 w w') := G1
    replace G2 : Hid (∀ (W : World) (l1 : List Int), l1.length ≤ 1000001 → BitB W x N l1 0 0 → Calls Tryz.prog 133 #[.pointer (some ⟨x, 0, none⟩), .int .u32 5, .int .u64 8] W fun e w' => e = .returned (.tuple #[]) ∧ WroteB x N (l1 ++ [5]) 0 0 W w') := G2
    clear F1 F2
    go_enter Tryz.func99, Tryz.ntmps99
    go_wp2_with fail
    refine G1.out.mono ?_
    rintro e w1 ⟨rfl, hw1⟩
    go_wp2_with fail
    refine (G2.out _ _ (by simp; omega) hw1.bits).mono ?_
    rintro e w2 ⟨rfl, hw2⟩
    go_wp2
    go_end0
    refine ⟨rfl, ?_⟩
    have := hw1.trans hw2
    rw [List.append_assoc] at this
    exact this
  · clear hv
    have e1 : (zFlg 7 : Int) = 1 := by decide
    have e2 : ((8 + 16 * 7 : Nat) : Int) = 120 := by decide
    rw [e1, e2]
    clear e1 e2
    have G1 := F1.out 120 (by decide)
    have G2 := fun W l1 => F2.out W l1 1 (by decide)
    replace G1 : Hid (Calls Tryz.prog 133 #[.pointer (some ⟨x, 0, none⟩), .int .u32 120, .int .u64 8] w fun e w' => e = .returned (.tuple #[]) ∧ WroteB x N (l ++ [120]) 0 0 w w') := G1
    replace G2 : Hid (∀ (W : World) (l1 : List Int), l1.length ≤ 1000001 → BitB W x N l1 0 0 → Calls Tryz.prog 133 #[.pointer (some ⟨x, 0, none⟩), .int .u32 1, .int .u64 8] W fun e w' => e = .returned (.tuple #[]) ∧ WroteB x N (l1 ++ [1]) 0 0 W w') := G2
    clear F1 F2
    go_enter Tryz.func99, Tryz.ntmps99
    go_wp2_with fail
    refine G1.out.mono ?_
    rintro e w1 ⟨rfl, hw1⟩
    go_wp2_with fail
    refine (G2.out _ _ (by simp; omega) hw1.bits).mono ?_
    rintro e w2 ⟨rfl, hw2⟩
    go_wp2
    go_end0
    refine ⟨rfl, ?_⟩
    have := hw1.trans hw2
    rw [List.append_assoc] at this
    exact this
theorem u32_not (n : Nat) (h : n < 4294967296) : bits BinOp.xor IntKind.u32 IntKind.u32.max (n : Int) = ((4294967295 - n : Nat) : Int) := by
  rw [show IntKind.u32.max = ((4294967295 : Nat) : Int) from rfl, u32_xor_nat 4294967295 n (by omega) h]
  have : 4294967295 ^^^ n = 4294967295 - n := by
    have e : (BitVec.allOnes 32 ^^^ BitVec.ofNat 32 n).toNat = (~~~ BitVec.ofNat 32 n).toNat := by rw [BitVec.allOnes_xor]
    rw [BitVec.toNat_xor, BitVec.toNat_not, BitVec.toNat_allOnes, BitVec.toNat_ofNat, Nat.mod_eq_of_lt (by omega)] at e
    exact e
  rw [this]
end Go.Proofs.YtmbmecfodigciaaGreatDoor
namespace Px
def adlL (s : Nat) (l : List Int) : Nat := l.foldl (fun s x => adl s x.toNat) s
theorem adlL_lt (s : Nat) (l : List Int) (h : s < 4294967296) : adlL s l < 4294967296 := by
  unfold adlL
  induction l generalizing s with
  | nil => exact h
  | cons x l ih => exact ih _ (adl_lt _ _)
end Px
namespace Go.Proofs.YtmbmecfodigciaaGreatDoor
open Go.RowKit Px
set_option linter.unusedSimpArgs false
set_option linter.unusedVariables false
def beB (n : Nat) : List Int := [((n / 16777216 % 256 : Nat) : Int), ((n / 65536 % 256 : Nat) : Int), ((n / 256 % 256 : Nat) : Int), ((n % 256 : Nat) : Int)]
theorem sum_b (x N : Nat) (l : List Int) (v : Value) (d : List Int) (w : World) (h : BitB w x N l 0 0) (hl : LAt w .u8 v d) (hB : isBytes d) (hn : d.length ≤ 65535) (hll : l.length ≤ 100000) :
    Calls Tryz.prog 103 #[.pointer (some ⟨x, 0, none⟩), v] w fun e w' => e = .returned (.tuple #[]) ∧ WroteB x N (l ++ beB (adlL 1 d)) 0 0 w w' := by
  obtain ⟨p, c, rfl⟩ := hl.form
  have F5 : Hid (∀ (W : World) (l1 : List Int) (n : Nat), n < 4294967296 → l1.length ≤ 1000000 → BitB W x N l1 0 0 → Calls Tryz.prog 133 #[.pointer (some ⟨x, 0, none⟩), .int .u32 (n : Int), .int .u64 8] W fun e w' => e = .returned (.tuple #[]) ∧ WroteB x N (l1 ++ [((n % 256 : Nat) : Int)]) 0 0 W w') := fun W l1 n hn hl1 hb => byte_b x N l1 n W hb hn (by omega)
  have HL : Hid (LAt w .u8 (.slice p d.length c) d) := hl
  have HB : Hid (isBytes d) := hB
  have H0 : Hid (BitB w x N l 0 0) := h
  clear h hl hB
  go_enter Tryz.func103, Tryz.ntmps103
  go_wp2_with fail
  go_loopg [4, 5] d.length (fun m u v W => ∃ k : Nat, m = d.length - k ∧ k ≤ d.length ∧ v = .int .i64 (k : Int) ∧ u = .int .u32 (adlL 1 (d.take k) : Int) ∧ Kept w W)
  case atStart => exact ⟨0, by omega, by omega, rfl, rfl, Kept.refl _⟩
  case round =>
    obtain ⟨k, hgk, hk, rfl, rfl, hK⟩ := hrel
    replace hgk : Hid _ := hgk
    have hq1 : adlL 1 (d.take k) < 4294967296 := adlL_lt _ _ (by omega)
    by_cases hlt : k < d.length
    · obtain ⟨g, o, rfl, hc⟩ := (HL.out.kept hK).cellAt k hlt
      have hb := HB.out _ (getD_mem hlt)
      obtain ⟨B, hBB⟩ : ∃ B : Nat, d.getD k 0 = (B : Int) := ⟨(d.getD k 0).toNat, by omega⟩
      have HTk : Hid (adlL 1 (d.take (k + 1)) = adl (adlL 1 (d.take k)) B) := by
        show adlL 1 (d.take (k + 1)) = _
        have hg : d[k] = (B : Int) := by rw [← hBB, List.getD_eq_getElem?_getD, List.getElem?_eq_getElem hlt]; rfl
        rw [List.take_succ_eq_append_getElem hlt, hg]
        unfold adlL
        rw [List.foldl_append]
        rfl
      rw [hBB] at hc hb
      have hb1 : B < 256 := by omega
      clear hb hBB
      have hlt' : (k : Int) < (d.length : Int) := by omega
      have hk0 : (0 : Int) ≤ (k : Int) := by omega
      obtain ⟨q, hq⟩ : ∃ q, q = adlL 1 (d.take k) := ⟨_, rfl⟩
      rw [← hq] at HTk hq1 ⊢
      clear hq
      have FA : Hid (∀ W, Calls Tryz.prog 136 #[.int .u32 (q : Int), .int .u8 (B : Int)] W fun e w' => e = .returned (.int .u32 (adl q B : Int)) ∧ w' = W) := fun W => adler_x q B W hq1 hb1
      replace hK : Hid (Kept w wr) := hK
      go_wp2_with fail
      refine (FA.out _).mono ?_
      rintro e w5 ⟨rfl, hw5⟩
      subst w5
      go_wp2_with fail
      go_roundg (d.length - (k + 1))
      case measure => rw [hgk.out]; omega
      case rel => exact ⟨k + 1, rfl, by omega, by go_num, by rw [HTk.out], hK.out⟩
    · replace hK : Hid (Kept w wr) := hK
      have hke : k = d.length := by omega
      have hlt' : ¬ (k : Int) < (d.length : Int) := by omega
      have HA : Hid (adlL 1 (d.take k) = adlL 1 d) := by show adlL 1 (d.take k) = adlL 1 d; rw [hke, List.take_length]
      obtain ⟨q, hq⟩ : ∃ q, q = adlL 1 (d.take k) := ⟨_, rfl⟩
      rw [← hq] at HA hq1 ⊢
      clear hq
      replace hke : Hid _ := hke
      have H1 : Hid (WroteB x N l 0 0 w wr) := (WroteB.refl H0.out).kept hK.out
      clear hK
      have e24 : (q : Int) / 16777216 = ((q / 16777216 : Nat) : Int) := by omega
      have e16 : (q : Int) / 65536 = ((q / 65536 : Nat) : Int) := by omega
      have e8 : (q : Int) / 256 = ((q / 256 : Nat) : Int) := by omega
      obtain ⟨q3, hq3⟩ : ∃ q3, q3 = q / 16777216 := ⟨_, rfl⟩
      obtain ⟨q2, hq2⟩ : ∃ q2, q2 = q / 65536 := ⟨_, rfl⟩
      obtain ⟨qq, hqq⟩ : ∃ qq, qq = q / 256 := ⟨_, rfl⟩
      rw [← hq3] at e24
      rw [← hq2] at e16
      rw [← hqq] at e8
      have HBe : Hid (l ++ beB (adlL 1 d) = l ++ [((q3 % 256 : Nat) : Int)] ++ [((q2 % 256 : Nat) : Int)] ++ [((qq % 256 : Nat) : Int)] ++ [((q % 256 : Nat) : Int)]) := by
        show l ++ beB (adlL 1 d) = _
        rw [← HA.out, hq3, hq2, hqq]
        simp [beB]
      have h3 : q3 < 4294967296 := by omega
      have h2 : q2 < 4294967296 := by omega
      have h1' : qq < 4294967296 := by omega
      clear hq3 hq2 hqq
      go_wp2_with fail
      go_loopg [6] 4 (fun m v W => (m = 4 ∧ v = .int .i64 32 ∧ WroteB x N l 0 0 w W) ∨ (m = 3 ∧ v = .int .i64 24 ∧ WroteB x N (l ++ [((q3 % 256 : Nat) : Int)]) 0 0 w W) ∨ (m = 2 ∧ v = .int .i64 16 ∧ WroteB x N (l ++ [((q3 % 256 : Nat) : Int)] ++ [((q2 % 256 : Nat) : Int)]) 0 0 w W) ∨ (m = 1 ∧ v = .int .i64 8 ∧ WroteB x N (l ++ [((q3 % 256 : Nat) : Int)] ++ [((q2 % 256 : Nat) : Int)] ++ [((qq % 256 : Nat) : Int)]) 0 0 w W) ∨ (m = 0 ∧ v = .int .i64 0 ∧ WroteB x N (l ++ [((q3 % 256 : Nat) : Int)] ++ [((q2 % 256 : Nat) : Int)] ++ [((qq % 256 : Nat) : Int)] ++ [((q % 256 : Nat) : Int)]) 0 0 w W))
      case atStart => exact Or.inl ⟨rfl, rfl, H1.out⟩
      case round =>
        rcases hrel with ⟨hm, rfl, hW⟩ | ⟨hm, rfl, hW⟩ | ⟨hm, rfl, hW⟩ | ⟨hm, rfl, hW⟩ | ⟨hm, rfl, hW⟩
        · have FF : Hid (Calls Tryz.prog 133 #[.pointer (some ⟨x, 0, none⟩), .int .u32 (q3 : Int), .int .u64 8] wr fun e w' => e = .returned (.tuple #[]) ∧ WroteB x N (l ++ [((q3 % 256 : Nat) : Int)]) 0 0 wr w') := F5.out wr _ q3 h3 (by first | omega | (simp; omega)) hW.bits
          replace hW : Hid (WroteB x N (l) 0 0 w wr) := hW
          replace hm : Hid _ := hm
          go_wp2_with fail
          refine FF.out.mono ?_
          rintro e w6 ⟨rfl, hw6⟩
          replace hw6 : Hid (WroteB x N (l ++ [((q3 % 256 : Nat) : Int)]) 0 0 w w6) := hW.out.trans hw6
          go_wp2_with fail
          go_roundg 3
          case measure => rw [hm.out]; omega
          case rel => exact Or.inr (Or.inl ⟨rfl, by first | rfl | go_num, hw6.out⟩)
        · have FF : Hid (Calls Tryz.prog 133 #[.pointer (some ⟨x, 0, none⟩), .int .u32 (q2 : Int), .int .u64 8] wr fun e w' => e = .returned (.tuple #[]) ∧ WroteB x N (l ++ [((q3 % 256 : Nat) : Int)] ++ [((q2 % 256 : Nat) : Int)]) 0 0 wr w') := F5.out wr _ q2 h2 (by first | omega | (simp; omega)) hW.bits
          replace hW : Hid (WroteB x N (l ++ [((q3 % 256 : Nat) : Int)]) 0 0 w wr) := hW
          replace hm : Hid _ := hm
          go_wp2_with fail
          refine FF.out.mono ?_
          rintro e w6 ⟨rfl, hw6⟩
          replace hw6 : Hid (WroteB x N (l ++ [((q3 % 256 : Nat) : Int)] ++ [((q2 % 256 : Nat) : Int)]) 0 0 w w6) := hW.out.trans hw6
          go_wp2_with fail
          go_roundg 2
          case measure => rw [hm.out]; omega
          case rel => exact Or.inr (Or.inr (Or.inl ⟨rfl, by first | rfl | go_num, hw6.out⟩))
        · have FF : Hid (Calls Tryz.prog 133 #[.pointer (some ⟨x, 0, none⟩), .int .u32 (qq : Int), .int .u64 8] wr fun e w' => e = .returned (.tuple #[]) ∧ WroteB x N (l ++ [((q3 % 256 : Nat) : Int)] ++ [((q2 % 256 : Nat) : Int)] ++ [((qq % 256 : Nat) : Int)]) 0 0 wr w') := F5.out wr _ qq h1' (by first | omega | (simp; omega)) hW.bits
          replace hW : Hid (WroteB x N (l ++ [((q3 % 256 : Nat) : Int)] ++ [((q2 % 256 : Nat) : Int)]) 0 0 w wr) := hW
          replace hm : Hid _ := hm
          go_wp2_with fail
          refine FF.out.mono ?_
          rintro e w6 ⟨rfl, hw6⟩
          replace hw6 : Hid (WroteB x N (l ++ [((q3 % 256 : Nat) : Int)] ++ [((q2 % 256 : Nat) : Int)] ++ [((qq % 256 : Nat) : Int)]) 0 0 w w6) := hW.out.trans hw6
          go_wp2_with fail
          go_roundg 1
          case measure => rw [hm.out]; omega
          case rel => exact Or.inr (Or.inr (Or.inr (Or.inl ⟨rfl, by first | rfl | go_num, hw6.out⟩)))
        · have FF : Hid (Calls Tryz.prog 133 #[.pointer (some ⟨x, 0, none⟩), .int .u32 (q : Int), .int .u64 8] wr fun e w' => e = .returned (.tuple #[]) ∧ WroteB x N (l ++ [((q3 % 256 : Nat) : Int)] ++ [((q2 % 256 : Nat) : Int)] ++ [((qq % 256 : Nat) : Int)] ++ [((q % 256 : Nat) : Int)]) 0 0 wr w') := F5.out wr _ q hq1 (by first | omega | (simp; omega)) hW.bits
          replace hW : Hid (WroteB x N (l ++ [((q3 % 256 : Nat) : Int)] ++ [((q2 % 256 : Nat) : Int)] ++ [((qq % 256 : Nat) : Int)]) 0 0 w wr) := hW
          replace hm : Hid _ := hm
          go_wp2_with fail
          refine FF.out.mono ?_
          rintro e w6 ⟨rfl, hw6⟩
          replace hw6 : Hid (WroteB x N (l ++ [((q3 % 256 : Nat) : Int)] ++ [((q2 % 256 : Nat) : Int)] ++ [((qq % 256 : Nat) : Int)] ++ [((q % 256 : Nat) : Int)]) 0 0 w w6) := hW.out.trans hw6
          go_wp2_with fail
          go_roundg 0
          case measure => rw [hm.out]; omega
          case rel => exact Or.inr (Or.inr (Or.inr (Or.inr ⟨rfl, by first | rfl | go_num, hw6.out⟩)))
        · replace hW : Hid (WroteB x N (l ++ [((q3 % 256 : Nat) : Int)] ++ [((q2 % 256 : Nat) : Int)] ++ [((qq % 256 : Nat) : Int)] ++ [((q % 256 : Nat) : Int)]) 0 0 w wr) := hW
          replace hm : Hid _ := hm
          go_wp2_with fail
          go_end0
          rw [HBe.out]
          exact ⟨rfl, hW.out⟩
end Go.Proofs.YtmbmecfodigciaaGreatDoor
namespace Go.Proofs.YtmbmecfodigciaaGreatDoor
open Go.RowKit
set_option linter.unusedSimpArgs false
set_option linter.unusedVariables false
end Go.Proofs.YtmbmecfodigciaaGreatDoor
namespace Go.Proofs.YtmbmecfodigciaaGreatDoor
open Go.RowKit Px
set_option linter.unusedSimpArgs false
set_option linter.unusedVariables false
/-- The stream at cells o on of block b and the rows right behind it, behind a step. -/
def SRStep (b o n : Nat) (c : Nat → Value) (s' : St) (r' : Rw) (w w' : World) : Prop := ∃ d, Blk w' b n d ∧ StV d o s' ∧ RwV d (o + 3351) r' ∧ FrC b o (o + 4900) c d ∧ Fr1 b w w'
theorem SRStep.of_st {b o n : Nat} {c : Nat → Value} {s' : St} {r : Rw} {w w' : World} (hR : RwV c (o + 3351) r) (h : StStep b o n c s' w w') : SRStep b o n c s' r w w' := by
  obtain ⟨d, h1, h2, h3, h4⟩ := h
  exact ⟨d, h1, h2, hR.congr (fun i _ _ => h3.out i (by omega)), h3.mono (by omega) (by omega), h4⟩
theorem SRStep.of_rw {b o n : Nat} {c : Nat → Value} {s : St} {r' : Rw} {w w' : World} (hS : StV c o s) (h : RwStep b (o + 3351) n c r' w w') : SRStep b o n c s r' w w' := by
  obtain ⟨d, h1, h2, h3, h4⟩ := h
  exact ⟨d, h1, hS.congr (fun i _ _ => h3.out i (by omega)), h2, h3.mono (by omega) (by omega), h4⟩
theorem SRStep.refl {b o n : Nat} {c : Nat → Value} {s : St} {r : Rw} {w : World} (hB : Blk w b n c) (hS : StV c o s) (hR : RwV c (o + 3351) r) : SRStep b o n c s r w w := ⟨c, hB, hS, hR, FrC.refl _ _ _ _, Fr.refl _ _⟩
/-- A first step, then another. -/
theorem SRStep.next {b o n : Nat} {c d : Nat → Value} {s : St} {r : Rw} {w w1 w' : World} (hC : FrC b o (o + 4900) c d) (hF : Fr1 b w w1) (k : SRStep b o n d s r w1 w') : SRStep b o n c s r w w' := by
  obtain ⟨e, h1, h2, h3, h4, h5⟩ := k
  exact ⟨e, h1, h2, h3, hC.trans h4, hF.trans h5⟩
/-- The rows' reader may be given a byte. -/
structure RwGood (r : Rw) : Prop where
  in' : RwIn r
  tk : r.taken ≤ 128
  geo : wholeP r = false → RwGeo r
def St.give (s : St) (x : Nat) : St := { s with hist := upd s.hist s.count x, count := s.count + 1, sum := adl s.sum x }
def giveP (s : St) (r : Rw) (x : Nat) : St × Rw × Nat :=
  if (r.take x).2 = 0 then (if 2078 ≤ s.count then (s, (r.take x).1, 17) else (s.give x, (r.take x).1, 0)) else (s, (r.take x).1, (r.take x).2)
theorem give_x (b o n x : Nat) (c : Nat → Value) (s : St) (r : Rw) (w : World) (hB : Blk w b n c) (hS : StV c o s) (hR : RwV c (o + 3351) r) (hn : o + 4900 ≤ n) (hk : RwGood r) (hG : GrdAt w) (hb : b ≠ 0) (hx : x < 256) (hs : s.sum < 4294967296) :
    Calls Tryz.prog 174 #[.pointer (some ⟨b, o, none⟩), .int .u8 (x : Int), .pointer (some ⟨b, o + 3351, none⟩)] w fun e w' => e = .returned (.int .i64 ((giveP s r x).2.2 : Int)) ∧ SRStep b o n c (giveP s r x).1 (giveP s r x).2.1 w w' := by
  have FT : Hid (Calls Tryz.prog 190 #[.pointer (some ⟨b, o + 3351, none⟩), .int .u8 (x : Int)] w fun e w' => e = .returned (.int .i64 ((r.take x).2 : Int)) ∧ RwStep b (o + 3351) n c (r.take x).1 w w') := rtake_x b (o + 3351) n x c r w hB hR (by omega) hk.in' hk.tk hk.geo hG hb hx
  have HS : Hid (StV c o s) := hS
  have HE : Hid (giveP s r x = if (r.take x).2 = 0 then (if 2078 ≤ s.count then (s, (r.take x).1, 17) else (s.give x, (r.take x).1, 0)) else (s, (r.take x).1, (r.take x).2)) := rfl
  clear hB hS hR hG hk
  obtain ⟨E, hE⟩ : ∃ E, E = (r.take x).2 := ⟨_, rfl⟩
  obtain ⟨R, hR⟩ : ∃ R, R = (r.take x).1 := ⟨_, rfl⟩
  rw [← hE, ← hR] at FT HE
  clear hE hR
  go_enter Tryz.func174, Tryz.ntmps174
  go_wp2_with fail
  refine FT.out.mono ?_
  rintro e w1 ⟨rfl, hst⟩
  obtain ⟨d, hB1, hS1, hR1, hC1, hF1⟩ := SRStep.of_rw HS.out hst
  have B1 : Hid (Blk w1 b n d) := hB1
  have S1 : Hid (StV d o s) := hS1
  have R1 : Hid (RwV d (o + 3351) R) := hR1
  have C1 : Hid (FrC b o (o + 4900) c d) := hC1
  have F1 : Hid (Fr1 b w w1) := hF1
  clear hB1 hS1 hR1 hC1 hF1 hst FT
  by_cases hE : E = 0
  · have hE' : ((E : Int) != 0) = false := by rw [bne_eq_false_iff_eq]; omega
    have k15 := B1.out.at (i := o + 3349) (by omega) S1.out.count
    have k16 := B1.out.at (i := o + 3350) (by omega) S1.out.sum
    have z := B1.out.fz
    by_cases hc : 2078 ≤ s.count
    · have hc' : (2078 : Int) ≤ (s.count : Int) := by omega
      have HE2 : Hid (giveP s r x = (s, R, 17)) := by show giveP s r x = _; rw [HE.out, if_pos hE, if_pos hc]
      replace hE : Hid _ := hE
      go_wp2_with fail
      go_ret
      rw [HE2.out]
      exact ⟨rfl, d, B1.out, S1.out, R1.out, C1.out, F1.out⟩
    · have hc' : ¬ (2078 : Int) ≤ (s.count : Int) := by omega
      have HE2 : Hid (giveP s r x = (s.give x, R, 0)) := by show giveP s r x = _; rw [HE.out, if_pos hE, if_neg hc]
      replace hE : Hid _ := hE
      have i0 : (0 : Int) ≤ (s.count : Int) := by omega
      have i1 : (s.count : Int) < 2078 := by omega
      have kh := B1.out.at (i := o + 1271 + s.count) (by omega) (S1.out.hist s.count (by omega))
      have zh := z (o + 1271 + s.count)
      obtain ⟨N, hN⟩ : ∃ N, N = s.count + 1 := ⟨_, rfl⟩
      have eN : (s.count : Int) + 1 = (N : Int) := by omega
      have HN : Hid (N = s.count + 1) := hN
      clear hN HE
      have FA : Hid (∀ W, Calls Tryz.prog 136 #[.int .u32 (s.sum : Int), .int .u8 (x : Int)] W fun e w' => e = .returned (.int .u32 (adl s.sum x : Int)) ∧ w' = W) := fun W => adler_x s.sum x W hs hx
      go_wp2_with fail
      go_region_held3 (fun W => W.cell? ⟨b, o + 3349, none⟩ = some (.int .i64 (s.count : Int))) (first | exact k15 | exact (cell_set_other _ _ _ _ _ (by omega)).trans k15 | go_keep) (fail)
      go_wp2_with fail
      refine (FA.out _).mono ?_
      rintro e w2 ⟨rfl, hw2⟩
      subst w2
      go_wp2_with fail
      go_ret
      rw [HE2.out]
      refine ⟨rfl, _, (((B1.out.set (k := o + 1271 + s.count) (by omega) _).set (k := o + 3349) (by omega) _).set (k := o + 3350) (by omega) _).kept ((Kept.refl _).drewN 1), ?_, ?_, ?_, Fr1.drewN (Fr1.set (Fr1.set (Fr1.set F1.out _ _) _ _) _ _) 1⟩
      · have := ((S1.out.set_hist s.count x (by omega)).set_count N).set_sum (adl s.sum x)
        rw [show s.give x = { ({ ({ s with hist := upd s.hist s.count x } : St) with count := N } : St) with sum := adl s.sum x } from by rw [HN.out]; rfl]
        exact this
      · exact R1.out.congr (fun i h1 h2 => by rw [upd_ne _ _ _ (by omega), upd_ne _ _ _ (by omega), upd_ne _ _ _ (by omega)])
      · exact ((C1.out.trans (FrC.upd _ (by omega) (by omega))).trans (FrC.upd _ (by omega) (by omega))).trans (FrC.upd _ (by omega) (by omega))
  · have hE' : ((E : Int) != 0) = true := by rw [bne_iff_ne]; omega
    have HE2 : Hid (giveP s r x = (s, R, E)) := by show giveP s r x = _; rw [HE.out, if_neg hE]
    go_wp2_with fail
    go_ret
    rw [HE2.out]
    exact ⟨rfl, d, B1.out, S1.out, R1.out, C1.out, F1.out⟩
def St.oneLess (s : St) : St := if s.left - 1 = 0 then ({ s with left := s.left - 1 } : St).endBlock else ({ s with left := s.left - 1 } : St).enter 3 8
def storedP (s : St) (r : Rw) (x : Nat) : St × Rw × Nat := if (giveP s r x).2.2 = 0 then ((giveP s r x).1.oneLess, (giveP s r x).2.1, 0) else giveP s r x
theorem giveP_left (s : St) (r : Rw) (x : Nat) : (giveP s r x).1.left = s.left := by
  unfold giveP
  split
  · split
    · rfl
    · rfl
  · rfl
theorem takeStored_x (b o n x : Nat) (c : Nat → Value) (s : St) (r : Rw) (w : World) (hB : Blk w b n c) (hS : StV c o s) (hR : RwV c (o + 3351) r) (hn : o + 4900 ≤ n) (hk : RwGood r) (hG : GrdAt w) (hb : b ≠ 0) (hx : x < 256) (hs : s.sum < 4294967296) (hl : 1 ≤ s.left) (hl2 : s.left ≤ 65535) :
    Calls Tryz.prog 180 #[.pointer (some ⟨b, o, none⟩), .int .u8 (x : Int), .pointer (some ⟨b, o + 3351, none⟩)] w fun e w' => e = .returned (.int .i64 ((storedP s r x).2.2 : Int)) ∧ SRStep b o n c (storedP s r x).1 (storedP s r x).2.1 w w' := by
  have FG : Hid (Calls Tryz.prog 174 #[.pointer (some ⟨b, o, none⟩), .int .u8 (x : Int), .pointer (some ⟨b, o + 3351, none⟩)] w fun e w' => e = .returned (.int .i64 ((giveP s r x).2.2 : Int)) ∧ SRStep b o n c (giveP s r x).1 (giveP s r x).2.1 w w') := give_x b o n x c s r w hB hS hR hn hk hG hb hx hs
  have HE : Hid (storedP s r x = if (giveP s r x).2.2 = 0 then ((giveP s r x).1.oneLess, (giveP s r x).2.1, 0) else giveP s r x) := rfl
  have hgl := giveP_left s r x
  clear hB hS hR hk hG
  obtain ⟨E, hE⟩ : ∃ E, E = (giveP s r x).2.2 := ⟨_, rfl⟩
  obtain ⟨R, hR⟩ : ∃ R, R = (giveP s r x).2.1 := ⟨_, rfl⟩
  obtain ⟨S, hS⟩ : ∃ S, S = (giveP s r x).1 := ⟨_, rfl⟩
  have hgP : giveP s r x = (S, R, E) := by rw [hE, hR, hS]
  rw [← hE, ← hR, ← hS] at FG HE
  rw [← hS] at hgl
  rw [hgP] at HE
  clear hE hR hS hgP
  go_enter Tryz.func180, Tryz.ntmps180
  go_wp2_with fail
  refine FG.out.mono ?_
  rintro e w1 ⟨rfl, d, hB1, hS1, hR1, hC1, hF1⟩
  have B1 : Hid (Blk w1 b n d) := hB1
  have S1 : Hid (StV d o S) := hS1
  have R1 : Hid (RwV d (o + 3351) R) := hR1
  have C1 : Hid (FrC b o (o + 4900) c d) := hC1
  have F1 : Hid (Fr1 b w w1) := hF1
  clear hB1 hS1 hR1 hC1 hF1 FG
  by_cases hE : E = 0
  · have hE' : ((E : Int) != 0) = false := by rw [bne_eq_false_iff_eq]; omega
    have HE2 : Hid (storedP s r x = (S.oneLess, R, 0)) := by show storedP s r x = _; rw [HE.out, if_pos hE]
    replace hE : Hid _ := hE
    have k10 := B1.out.at (i := o + 10) (by omega) S1.out.left
    have z := B1.out.fz (o + 10)
    obtain ⟨L, hL⟩ : ∃ L, L = S.left - 1 := ⟨_, rfl⟩
    have eL : (S.left : Int) - 1 = (L : Int) := by omega
    have hL6 : L ≤ 65535 := by omega
    have HL : Hid (L = S.left - 1) := hL
    have hl3 : S.left ≤ 65535 := by omega
    replace hgl : Hid _ := hgl
    have HO : Hid (S.oneLess = if L = 0 then ({ S with left := L } : St).endBlock else ({ S with left := L } : St).enter 3 8) := by show S.oneLess = _; unfold St.oneLess; rw [hL]
    clear hL HE
    have C2 : Hid (FrC b o (o + 4900) c (upd d (o + 10) (.int .i64 (L : Int)))) := C1.out.trans (FrC.upd _ (by omega) (by omega))
    have R2 : Hid (RwV (upd d (o + 10) (.int .i64 (L : Int))) (o + 3351) R) := R1.out.congr (fun i h1 h2 => upd_ne _ _ _ (by omega))
    by_cases h0 : L = 0
    · have h0' : ((L : Int) == 0) = true := by rw [beq_iff_eq]; omega
      have HO2 : Hid (S.oneLess = ({ S with left := L } : St).endBlock) := by show S.oneLess = _; rw [HO.out, if_pos h0]
      replace h0 : Hid _ := h0
      clear HO
      go_wp2_with fail
      refine (endBlock_x b o n _ { S with left := L } _ (B1.out.set (by omega) _) (S1.out.set_left L) (by omega)).mono ?_
      rintro e w2 ⟨rfl, h⟩
      go_wp2_with fail
      go_ret
      rw [HE2.out]
      exact ⟨rfl, SRStep.next C2.out (Fr1.set F1.out _ _) (by rw [HO2.out]; exact SRStep.of_st R2.out h)⟩
    · have h0' : ((L : Int) == 0) = false := by rw [beq_eq_false_iff_ne]; omega
      have HO2 : Hid (S.oneLess = ({ S with left := L } : St).enter 3 8) := by show S.oneLess = _; rw [HO.out, if_neg h0]
      clear HO
      go_wp2_with fail
      refine (senter_x b o n 3 8 _ { S with left := L } _ (B1.out.set (by omega) _) (S1.out.set_left L) (by omega)).mono ?_
      rintro e w2 ⟨rfl, h⟩
      go_wp2_with fail
      go_ret
      rw [HE2.out]
      exact ⟨rfl, SRStep.next C2.out (Fr1.set F1.out _ _) (by rw [HO2.out]; exact SRStep.of_st R2.out h)⟩
  · have hE' : ((E : Int) != 0) = true := by rw [bne_iff_ne]; omega
    have HE2 : Hid (storedP s r x = (S, R, E)) := by show storedP s r x = _; rw [HE.out, if_neg hE]
    go_wp2_with fail
    go_ret
    rw [HE2.out]
    exact ⟨rfl, d, B1.out, S1.out, R1.out, C1.out, F1.out⟩
/-- The symbol at place i of the order of codes. -/
def CS.symbol (s : CS) (i : Nat) : Int := if s.total ≤ i ∨ 288 ≤ i then -2 else (s.sym i : Int)
/-- A path led a bit on. -/
def CS.step (s : CS) (p : Pt) (t : Nat) : Pt × Int :=
  if s.longest < p.bits + 1 ∨ 15 < p.bits + 1 then (⟨p.bits + 1, p.offset, p.ahead⟩, -2)
  else if 2 * p.offset + t < s.count (p.bits + 1) then (⟨p.bits + 1, 2 * p.offset + t, p.ahead⟩, s.symbol (p.ahead + (2 * p.offset + t)))
  else (⟨p.bits + 1, 2 * p.offset + t - s.count (p.bits + 1), p.ahead + s.count (p.bits + 1)⟩, if p.bits + 1 = s.longest then -2 else -1)
/-- A set of codes within bounds. -/
structure CSOk (s : CS) : Prop where
  count : ∀ i, i < 16 → s.count i ≤ 288
  sym : ∀ i, i < 288 → s.sym i < 288
  total : s.total ≤ 288
  longest : s.longest ≤ 15
structure PtOk (p : Pt) : Prop where
  bits : p.bits ≤ 16
  offset : p.offset ≤ 65535
  ahead : p.ahead ≤ 5000
theorem csymbol_x (b o n i : Nat) (c : Nat → Value) (s : CS) (w : World) (hB : Blk w b n c) (hV : CSV c o s) (hn : o + 306 ≤ n) (hk : CSOk s) (hi : i ≤ 1000000) :
    Calls Tryz.prog 170 #[.pointer (some ⟨b, o, none⟩), .int .i64 (i : Int)] w fun e w' => e = .returned (.int .i64 (s.symbol i)) ∧ w' = w := by
  have k2 := hB.at (i := o + 304) (by omega) hV.total
  have i0 : (0 : Int) ≤ (i : Int) := by omega
  have i0' : ¬ (i : Int) < 0 := by omega
  unfold CS.symbol
  have ht := hk.total
  by_cases h1 : s.total ≤ i
  · have h1' : (s.total : Int) ≤ (i : Int) := by omega
    rw [if_pos (Or.inl h1)]
    clear hB hV hk
    go_enter Tryz.func170, Tryz.ntmps170
    go_wp2
    go_ret
    exact ⟨rfl, rfl⟩
  · have h1' : ¬ (s.total : Int) ≤ (i : Int) := by omega
    have h2 : i < 288 := by omega
    have h2' : (i : Int) < 288 := by omega
    have h2'' : ¬ (288 : Int) ≤ (i : Int) := by omega
    rw [if_neg (by omega)]
    have k1 := hB.at (i := o + 16 + i) (by omega) (hV.sym i h2)
    clear hB hV hk
    go_enter Tryz.func170, Tryz.ntmps170
    go_wp2
    go_ret
    exact ⟨rfl, rfl⟩
theorem cstep_x (b o q n t : Nat) (c : Nat → Value) (s : CS) (p : Pt) (w : World) (hB : Blk w b n c) (hV : CSV c o s) (hP : PtV c q p) (hn : o + 306 ≤ n) (hq : q + 3 ≤ o) (hk : CSOk s) (hp : PtOk p) (ht : t ≤ 1) :
    Calls Tryz.prog 164 #[.pointer (some ⟨b, o, none⟩), .pointer (some ⟨b, q, none⟩), .int .i64 (t : Int)] w fun e w' => e = .returned (.int .i64 (s.step p t).2) ∧ ∃ d, Blk w' b n d ∧ PtV d q (s.step p t).1 ∧ FrC b q (q + 3) c d ∧ Fr1 b w w' := by
  have k0 := hB.at (i := q) (by omega) hP.bits
  have z := hB.fz
  obtain ⟨hp1, hp2, hp3⟩ := hp
  have hl := hk.longest
  have HE : Hid (s.step p t = if s.longest < p.bits + 1 ∨ 15 < p.bits + 1 then (⟨p.bits + 1, p.offset, p.ahead⟩, -2) else if 2 * p.offset + t < s.count (p.bits + 1) then (⟨p.bits + 1, 2 * p.offset + t, p.ahead⟩, s.symbol (p.ahead + (2 * p.offset + t))) else (⟨p.bits + 1, 2 * p.offset + t - s.count (p.bits + 1), p.ahead + s.count (p.bits + 1)⟩, if p.bits + 1 = s.longest then -2 else -1)) := rfl
  obtain ⟨N, hN⟩ : ∃ N, N = p.bits + 1 := ⟨_, rfl⟩
  have eN : (p.bits : Int) + 1 = (N : Int) := by omega
  have hN1 : 1 ≤ N := by omega
  have hN2 : N ≤ 17 := by omega
  rw [← hN] at HE
  replace hN : Hid _ := hN
  have HB1 : Hid (Blk (w.setCell ⟨b, q, none⟩ (.int .i64 (N : Int))) b n (upd c q (.int .i64 (N : Int)))) := hB.set (by omega) _
  have HV1 : Hid (CSV (upd c q (.int .i64 (N : Int))) o s) := hV.congr (fun i h1 h2 => upd_ne _ _ _ (by omega))
  have HP1 : Hid (PtV (upd c q (.int .i64 (N : Int))) q ⟨N, p.offset, p.ahead⟩) := hP.set_bits N
  have HF1 : Hid (Fr1 b w (w.setCell ⟨b, q, none⟩ (.int .i64 (N : Int)))) := Fr1.set (Fr.refl _ _) _ _
  have HC1 : Hid (FrC b q (q + 3) c (upd c q (.int .i64 (N : Int)))) := FrC.upd _ (by omega) (by omega)
  replace hk : Hid (CSOk s) := hk
  clear hB hV hP
  go_enter Tryz.func164, Tryz.ntmps164
  go_upto_region 2 with fail
  generalize w.setCell ⟨b, q, none⟩ (.int .i64 (N : Int)) = w1 at *
  generalize upd c q (.int .i64 (N : Int)) = c1 at *
  clear k0 z eN
  have k0 : w1.cell? ⟨b, q, none⟩ = some (.int .i64 (N : Int)) := HB1.out.at (i := q) (by omega) HP1.out.bits
  have k3 := HB1.out.at (i := o + 305) (by omega) HV1.out.longest
  have n1 : ¬ (N : Int) < 1 := by omega
  by_cases hb : s.longest < N ∨ 15 < N
  · have hb' : (s.longest : Int) < (N : Int) ∨ (15 : Int) < (N : Int) := by omega
    have HE2 : Hid (s.step p t = (⟨N, p.offset, p.ahead⟩, -2)) := by show s.step p t = _; rw [HE.out, if_pos hb]
    by_cases h1 : s.longest < N
    · have h1' : (s.longest : Int) < (N : Int) := by omega
      clear hb hb'
      go_quiet (fail)
      go_wp2_with fail
      go_ret
      rw [HE2.out]
      exact ⟨rfl, c1, HB1.out.kept ((Kept.refl _).drewN _), HP1.out, HC1.out, HF1.out.kept ((Kept.refl _).drewN _)⟩
    · have h1' : ¬ (s.longest : Int) < (N : Int) := by omega
      omega
  · have h1' : ¬ (s.longest : Int) < (N : Int) := by omega
    have h2' : ¬ (15 : Int) < (N : Int) := by omega
    have hN15 : N ≤ 15 := by omega
    go_quiet (fail)
    have HB2 : Hid (Blk (w1.drewN nq) b n c1) := HB1.out.kept ((Kept.refl _).drewN nq)
    have HF2 : Hid (Fr1 b w (w1.drewN nq)) := HF1.out.kept ((Kept.refl _).drewN nq)
    clear HB1 HF1 k0 k3
    generalize w1.drewN nq = w2 at *
    have k1 := HB2.out.at (i := q + 1) (by omega) HP1.out.offset
    replace k1 : w2.cell? ⟨b, q + 1, none⟩ = some (.int .i64 (p.offset : Int)) := k1
    have z := HB2.out.fz
    obtain ⟨O, hO⟩ : ∃ O, O = 2 * p.offset + t := ⟨_, rfl⟩
    have eO : 2 * (p.offset : Int) + (t : Int) = (O : Int) := by omega
    have hO2 : O ≤ 131071 := by omega
    rw [← hO] at HE
    replace hO : Hid _ := hO
    have HB3 : Hid (Blk (w2.setCell ⟨b, q + 1, none⟩ (.int .i64 (O : Int))) b n (upd c1 (q + 1) (.int .i64 (O : Int)))) := HB2.out.set (by omega) _
    have HV3 : Hid (CSV (upd c1 (q + 1) (.int .i64 (O : Int))) o s) := HV1.out.congr (fun i h1 h2 => upd_ne _ _ _ (by omega))
    have HP3 : Hid (PtV (upd c1 (q + 1) (.int .i64 (O : Int))) q ⟨N, O, p.ahead⟩) := HP1.out.set_offset O
    have HF3 : Hid (Fr1 b w (w2.setCell ⟨b, q + 1, none⟩ (.int .i64 (O : Int)))) := Fr1.set HF2.out _ _
    have HC3 : Hid (FrC b q (q + 3) c (upd c1 (q + 1) (.int .i64 (O : Int)))) := HC1.out.trans (FrC.upd _ (by omega) (by omega))
    clear HB2 HF2 HV1 HP1 HC1
    go_upto_region 5 with fail
    generalize w2.setCell ⟨b, q + 1, none⟩ (.int .i64 (O : Int)) = w3 at *
    generalize upd c1 (q + 1) (.int .i64 (O : Int)) = c3 at *
    clear k1 z eO
    have k0 : w3.cell? ⟨b, q, none⟩ = some (.int .i64 (N : Int)) := HB3.out.at (i := q) (by omega) HP3.out.bits
    have k1 : w3.cell? ⟨b, q + 1, none⟩ = some (.int .i64 (O : Int)) := HB3.out.at (i := q + 1) (by omega) HP3.out.offset
    have kc := HB3.out.at (i := o + N) (by omega) (HV3.out.count N (by omega))
    have n0 : (0 : Int) ≤ (N : Int) := by omega
    have n16 : (N : Int) < 16 := by omega
    obtain ⟨C, hC⟩ : ∃ C, C = s.count N := ⟨_, rfl⟩
    have hC2 : C ≤ 288 := by rw [hC]; exact hk.out.count N (by omega)
    rw [← hC] at HE kc
    replace hC : Hid _ := hC
    go_quiet (fail)
    have HB4 : Hid (Blk (w3.drewN nq) b n c3) := HB3.out.kept ((Kept.refl _).drewN nq)
    have HF4 : Hid (Fr1 b w (w3.drewN nq)) := HF3.out.kept ((Kept.refl _).drewN nq)
    clear HB3 HF3 k0 k1 kc
    generalize w3.drewN nq = w4 at *
    have k1 : w4.cell? ⟨b, q + 1, none⟩ = some (.int .i64 (O : Int)) := HB4.out.at (i := q + 1) (by omega) HP3.out.offset
    have k2 : w4.cell? ⟨b, q + 2, none⟩ = some (.int .i64 (p.ahead : Int)) := HB4.out.at (i := q + 2) (by omega) HP3.out.ahead
    have z := HB4.out.fz
    by_cases hlt : O < C
    · have hlt' : (O : Int) < (C : Int) := by omega
      have HE2 : Hid (s.step p t = (⟨N, O, p.ahead⟩, s.symbol (p.ahead + O))) := by show s.step p t = _; rw [HE.out, if_neg hb, if_pos hlt]
      have FJ : Hid (∀ W, Kept w4 W → Calls Tryz.prog 170 #[.pointer (some ⟨b, o, none⟩), .int .i64 ((p.ahead : Int) + (O : Int))] W fun e w' => e = .returned (.int .i64 (s.symbol (p.ahead + O))) ∧ w' = W) := fun W k => by
        have := csymbol_x b o n (p.ahead + O) c3 s W (HB4.out.kept k) HV3.out hn hk.out (by omega)
        rw [show ((p.ahead + O : Nat) : Int) = (p.ahead : Int) + (O : Int) from by omega] at this
        exact this
      generalize s.symbol (p.ahead + O) = SY at *
      go_wp2_with fail
      go_quiet ((go_at_call 170; exact Calls.quiet_of_same (FJ.out _ (by first | exact Kept.refl _ | exact (Kept.refl _).drewN _))))
      go_wp2_with fail
      go_ret
      rw [HE2.out]
      exact ⟨rfl, c3, HB4.out.kept ((Kept.refl _).drewN _), HP3.out, HC3.out, HF4.out.kept ((Kept.refl _).drewN _)⟩
    · have hlt' : ¬ (O : Int) < (C : Int) := by omega
      obtain ⟨O2, hO2'⟩ : ∃ O2, O2 = O - C := ⟨_, rfl⟩
      obtain ⟨A2, hA2⟩ : ∃ A2, A2 = p.ahead + C := ⟨_, rfl⟩
      have eO : (O : Int) - (C : Int) = (O2 : Int) := by omega
      have eA : (p.ahead : Int) + (C : Int) = (A2 : Int) := by omega
      rw [← hO2', ← hA2] at HE
      have HE2 : Hid (s.step p t = (⟨N, O2, A2⟩, if N = s.longest then -2 else -1)) := by show s.step p t = _; rw [HE.out, if_neg hb, if_neg hlt]
      replace hO2' : Hid _ := hO2'
      replace hA2 : Hid _ := hA2
      have hO3 : O2 ≤ 131071 := by have := hO2'.out; omega
      have hA3 : A2 ≤ 6000 := by have := hA2.out; omega
      have HB5 : Hid (Blk ((w4.setCell ⟨b, q + 1, none⟩ (.int .i64 (O2 : Int))).setCell ⟨b, q + 2, none⟩ (.int .i64 (A2 : Int))) b n (upd (upd c3 (q + 1) (.int .i64 (O2 : Int))) (q + 2) (.int .i64 (A2 : Int)))) := (HB4.out.set (by omega) _).set (by omega) _
      have HV5 : Hid (CSV (upd (upd c3 (q + 1) (.int .i64 (O2 : Int))) (q + 2) (.int .i64 (A2 : Int))) o s) := HV3.out.congr (fun i h1 h2 => by rw [upd_ne _ _ _ (by omega), upd_ne _ _ _ (by omega)])
      have HP5 : Hid (PtV (upd (upd c3 (q + 1) (.int .i64 (O2 : Int))) (q + 2) (.int .i64 (A2 : Int))) q ⟨N, O2, A2⟩) := (HP3.out.set_offset O2).set_ahead A2
      have HF5 : Hid (Fr1 b w ((w4.setCell ⟨b, q + 1, none⟩ (.int .i64 (O2 : Int))).setCell ⟨b, q + 2, none⟩ (.int .i64 (A2 : Int)))) := Fr1.set (Fr1.set HF4.out _ _) _ _
      have HC5 : Hid (FrC b q (q + 3) c (upd (upd c3 (q + 1) (.int .i64 (O2 : Int))) (q + 2) (.int .i64 (A2 : Int)))) := (HC3.out.trans (FrC.upd _ (by omega) (by omega))).trans (FrC.upd _ (by omega) (by omega))
      clear HB4 HF4 HV3 HP3 HC3
      go_upto_region 10 with fail
      generalize (w4.setCell ⟨b, q + 1, none⟩ (.int .i64 (O2 : Int))).setCell ⟨b, q + 2, none⟩ (.int .i64 (A2 : Int)) = w5 at *
      generalize upd (upd c3 (q + 1) (.int .i64 (O2 : Int))) (q + 2) (.int .i64 (A2 : Int)) = c5 at *
      clear k1 k2 z eO eA
      have k0 : w5.cell? ⟨b, q, none⟩ = some (.int .i64 (N : Int)) := HB5.out.at (i := q) (by omega) HP5.out.bits
      have k3 := HB5.out.at (i := o + 305) (by omega) HV5.out.longest
      by_cases hL : N = s.longest
      · have hL' : ((N : Int) == (s.longest : Int)) = true := by rw [beq_iff_eq]; omega
        have HE3 : Hid (s.step p t = (⟨N, O2, A2⟩, -2)) := by show s.step p t = _; rw [HE2.out, if_pos hL]
        replace hL : Hid _ := hL
        go_quiet (fail)
        go_wp2_with fail
        go_ret
        rw [HE3.out]
        exact ⟨rfl, c5, HB5.out.kept ((Kept.refl _).drewN _), HP5.out, HC5.out, HF5.out.kept ((Kept.refl _).drewN _)⟩
      · have hL' : ((N : Int) == (s.longest : Int)) = false := by rw [beq_eq_false_iff_ne]; omega
        have HE3 : Hid (s.step p t = (⟨N, O2, A2⟩, -1)) := by show s.step p t = _; rw [HE2.out, if_neg hL]
        go_quiet (fail)
        go_wp2_with fail
        go_ret
        rw [HE3.out]
        exact ⟨rfl, c5, HB5.out.kept ((Kept.refl _).drewN _), HP5.out, HC5.out, HF5.out.kept ((Kept.refl _).drewN _)⟩
end Go.Proofs.YtmbmecfodigciaaGreatDoor
