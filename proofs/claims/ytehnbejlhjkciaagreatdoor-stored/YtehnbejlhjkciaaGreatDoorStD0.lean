import Derived.Test.YtehnbejlhjkciaaGreatDoorProg
import Derived.WalkKit
import Derived.WalkSpells
import Derived.WalkLawsBesides
import Derived.Laws.BitsAllLaws
import Derived.BigQuiet
import Derived.Deep.QuietTactic
import Derived.Laws.IdiomCopy
import Derived.Deep.WholeRow
/-
  Plain mathematics, no Go: bits and numbers of a list of bytes.
-/
namespace Px

/-- A byte and where it stands. -/
abbrev One := Nat × Nat
def vAt (z : List One) (i : Nat) : Nat := (z.getD i (0, 0)).1
def pAt (z : List One) (i : Nat) : Nat := (z.getD i (0, 0)).2
/-- Bit i: the lowest of each byte first. -/
def bitAt (z : List One) (i : Nat) : Nat := vAt z (i / 8) / 2 ^ (i % 8) % 2
theorem bitAt_lt (z : List One) (i : Nat) : bitAt z i < 2 := Nat.mod_lt _ (by omega)
/-- The number of the n bits from a on. -/
def numAt (z : List One) (a : Nat) : Nat → Nat
  | 0 => 0
  | n + 1 => numAt z a n + bitAt z (a + n) * 2 ^ n
theorem numAt_lt (z : List One) (a n : Nat) : numAt z a n < 2 ^ n := by
  induction n with
  | zero => simp [numAt]
  | succ n ih =>
    have := bitAt_lt z (a + n)
    have h : bitAt z (a + n) * 2 ^ n ≤ 1 * 2 ^ n := Nat.mul_le_mul_right _ (by omega)
    rw [numAt, Nat.pow_succ]; omega
theorem numAt_add (z : List One) (a m n : Nat) : numAt z a (m + n) = numAt z a m + 2 ^ m * numAt z (a + m) n := by
  induction n with
  | zero => simp [numAt]
  | succ n ih =>
    rw [Nat.add_succ, numAt, ih, numAt, Nat.mul_add, Nat.pow_add, Nat.add_assoc a m n]
    rw [Nat.add_assoc]; congr 2
    rw [Nat.mul_left_comm]
def good (z : List One) : Prop := (∀ x ∈ z, x.1 < 256) ∧ z.length ≤ 1048576 ∧ ∀ x ∈ z, x.2 ≤ 1048576
theorem vAt_lt {z : List One} (h : good z) (i : Nat) : vAt z i < 256 := by
  unfold vAt; rw [List.getD_eq_getElem?_getD]
  cases e : z[i]? with
  | none => simp
  | some x => exact h.1 x (List.mem_of_getElem? e)
theorem pAt_le {z : List One} (h : good z) (i : Nat) : pAt z i ≤ 1048576 := by
  unfold pAt; rw [List.getD_eq_getElem?_getD]
  cases e : z[i]? with
  | none => simp
  | some x => exact h.2.2 x (List.mem_of_getElem? e)

/-- bits: where they stand, whether there are no more, what was wrong. -/
structure Bt where
  a : Nat
  cut : Bool
  err : Nat
def Bt.on (b : Bt) : Bool := !b.cut && decide (b.err = 0)
def Bt.num (z : List One) (t : Bt) (n : Nat) : Bt := if t.cut = true then t else if t.a + n ≤ 8 * z.length then { t with a := t.a + n } else { t with a := 8 * z.length, cut := true }
def up8 (a : Nat) : Nat := (a + 7) / 8 * 8
end Px
namespace Px
/-- Codes: the number of symbol s among the codes of these lengths, of the first n symbols. -/
def codeUp (l : List Nat) (s : Nat) : Nat → Nat
  | 0 => 0
  | t + 1 => codeUp l s t + if 0 < l.getD t 0 ∧ (l.getD t 0 < l.getD s 0 ∨ (l.getD t 0 = l.getD s 0 ∧ t < s)) then 2 ^ (l.getD s 0 - l.getD t 0) else 0
def codeOf (l : List Nat) (s : Nat) : Nat := codeUp l s l.length
def shortL (l : List Nat) : Prop := (∀ x ∈ l, x ≤ 15) ∧ l.length ≤ 320
theorem shortL_get {l : List Nat} (h : shortL l) (i : Nat) : l.getD i 0 ≤ 15 := by
  rw [List.getD_eq_getElem?_getD]
  cases e : l[i]? with
  | none => simp
  | some x => exact h.1 x (List.mem_of_getElem? e)
theorem pow15 (i : Nat) (hi : i ≤ 15) : 2 ^ i ≤ 32768 := by
  have := Nat.pow_le_pow_right (n := 2) (by omega) hi; simpa using this
theorem codeUp_le {l : List Nat} (h : shortL l) (s n : Nat) : codeUp l s n ≤ n * 32768 := by
  induction n with
  | zero => simp [codeUp]
  | succ n ih =>
    have h1 := shortL_get h s
    have h2 := pow15 (l.getD s 0 - l.getD n 0) (by omega)
    rw [codeUp, Nat.succ_mul]
    refine Nat.add_le_add ih ?_
    split
    · exact h2
    · exact Nat.zero_le _
theorem codeOf_lt {l : List Nat} (h : shortL l) (s : Nat) : codeOf l s ≤ 10485760 := by
  have := codeUp_le h s l.length
  have := h.2
  unfold codeOf; omega

/-- Full: the room that the first n symbols take, how many there are, and how many of one bit. -/
def sumUp (l : List Nat) : Nat → Nat
  | 0 => 0
  | t + 1 => sumUp l t + if 0 < l.getD t 0 then 2 ^ (15 - l.getD t 0) else 0
def cntUp (l : List Nat) : Nat → Nat
  | 0 => 0
  | t + 1 => cntUp l t + if 0 < l.getD t 0 then 1 else 0
def oneUp (l : List Nat) : Nat → Nat
  | 0 => 0
  | t + 1 => oneUp l t + if l.getD t 0 = 1 then 1 else 0
def fullB (l : List Nat) (lone none : Bool) : Bool :=
  if cntUp l l.length = 0 then none else decide (sumUp l l.length = 32768) || (lone && decide (cntUp l l.length = 1) && decide (oneUp l l.length = 1))
theorem sumUp_le (l : List Nat) (n : Nat) : sumUp l n ≤ n * 32768 := by
  induction n with
  | zero => simp [sumUp]
  | succ n ih =>
    have h2 := pow15 (15 - l.getD n 0) (by omega)
    rw [sumUp, Nat.succ_mul]
    refine Nat.add_le_add ih ?_
    split
    · exact h2
    · exact Nat.zero_le _
theorem cntUp_le (l : List Nat) (n : Nat) : cntUp l n ≤ n := by
  induction n with
  | zero => simp [cntUp]
  | succ n ih => rw [cntUp]; split <;> omega
theorem oneUp_le (l : List Nat) (n : Nat) : oneUp l n ≤ n := by
  induction n with
  | zero => simp [oneUp]
  | succ n ih => rw [oneUp]; split <;> omega
end Px
namespace Px
/-- The number of the n bits from a on, the first one highest. -/
def msb (z : List One) (a : Nat) : Nat → Nat
  | 0 => 0
  | n + 1 => 2 * msb z a n + bitAt z (a + n)
theorem msb_lt (z : List One) (a n : Nat) : msb z a n < 2 ^ n := by
  induction n with
  | zero => simp [msb]
  | succ n ih => have := bitAt_lt z (a + n); rw [msb, Nat.pow_succ]; omega
/-- Symbol s has the code v of n bits; its code begins with v. -/
def hitAt (l : List Nat) (n v s : Nat) : Prop := l.getD s 0 = n ∧ codeOf l s = v
def moreAt (l : List Nat) (n v s : Nat) : Prop := n < l.getD s 0 ∧ codeOf l s / 2 ^ (l.getD s 0 - n) = v
def noHit (l : List Nat) (n v k : Nat) : Prop := ∀ s, s < k → ¬ hitAt l n v s
def moreUp (l : List Nat) (n v k : Nat) : Prop := ∃ s, s < k ∧ moreAt l n v s
/-- The first n bits from a on are the beginning of a code, and of none the whole. -/
def symGo (z : List One) (a : Nat) (l : List Nat) (n : Nat) : Prop := ∀ m, 1 ≤ m → m ≤ n → noHit l m (msb z a m) l.length ∧ moreUp l m (msb z a m) l.length
theorem symGo_lt {z : List One} {a : Nat} {l : List Nat} {n : Nat} (h : symGo z a l n) (hl : shortL l) : n < 15 ∨ n = 0 := by
  by_cases h0 : n = 0
  · exact Or.inr h0
  · obtain ⟨s, _, hm⟩ := (h n (by omega) (Nat.le_refl _)).2
    have := shortL_get hl s
    have := hm.1
    omega
theorem symGo_succ {z : List One} {a : Nat} {l : List Nat} {n : Nat} (h : symGo z a l n) (h1 : noHit l (n + 1) (msb z a (n + 1)) l.length) (h2 : moreUp l (n + 1) (msb z a (n + 1)) l.length) : symGo z a l (n + 1) := by
  intro m h3 h4
  by_cases e : m = n + 1
  · subst e; exact ⟨h1, h2⟩
  · exact h m h3 (by omega)
end Px
namespace Go.Proofs.YtehnbejlhjkciaaGreatDoor
open Go.RowKit

theorem ret_bool {a b : Bool} (h : a = b) : Ending.returned (.bool a) = .returned (.bool b) := by rw [h]
theorem ret_int {k : IntKind} {a b : Int} (h : a = b) : Ending.returned (.int k a) = .returned (.int k b) := by rw [h]
theorem val_int {k : IntKind} {a b : Int} (h : a = b) : Value.int k a = .int k b := by rw [h]
theorem val_bool {a b : Bool} (h : a = b) : Value.bool a = .bool b := by rw [h]

abbrev Kept (w w' : World) : Prop := Below w.heap.size w w'
theorem Kept.refl (w : World) : Kept w w := Below.refl _ _
theorem Kept.trans {a b c : World} (h : Kept a b) (k : Kept b c) : Kept a c := Below.trans h (k.mono h.size)
theorem Kept.drewN {a w : World} (h : Kept a w) (n : Nat) : Kept a (w.drewN n) := below_drewN h n

theorem cell_set_other (w : World) (b k j : Nat) (v : Value) (h : k ≠ j) : (w.setCell ⟨b, k, none⟩ v).cell? ⟨b, j, none⟩ = w.cell? ⟨b, j, none⟩ :=
  World.cell?_setCell_other _ _ _ _ (by intro e; apply h; injection e)
theorem cell_set_same {w : World} {a : Addr} {u : Value} (h : w.cell? a = some u) (v : Value) : (w.setCell a v).cell? a = some v := World.cell?_setCell_same _ _ _ h

/-- All blocks but those of S are as they were. -/
structure Fr (S : Nat → Prop) (w w' : World) : Prop where
  os : w'.os = w.os
  tape : w'.tape = w.tape
  output : w'.output = w.output
  size : w.heap.size ≤ w'.heap.size
  block : ∀ k, k < w.heap.size → ¬ S k → w'.heap[k]? = w.heap[k]?
theorem Fr.refl (S : Nat → Prop) (w : World) : Fr S w w := ⟨rfl, rfl, rfl, Nat.le_refl _, fun _ _ _ => rfl⟩
theorem Fr.trans {S : Nat → Prop} {x y z : World} (h : Fr S x y) (k : Fr S y z) : Fr S x z :=
  ⟨k.os.trans h.os, k.tape.trans h.tape, k.output.trans h.output, Nat.le_trans h.size k.size, fun i hi hn => (k.block i (Nat.lt_of_lt_of_le hi h.size) hn).trans (h.block i hi hn)⟩
/-- A second step may also change what is new. -/
theorem Fr.trans' {S T : Nat → Prop} {x y z : World} (h : Fr S x y) (k : Fr T y z) (hT : ∀ i, i < x.heap.size → T i → S i) : Fr S x z :=
  ⟨k.os.trans h.os, k.tape.trans h.tape, k.output.trans h.output, Nat.le_trans h.size k.size, fun i hi hn => (k.block i (Nat.lt_of_lt_of_le hi h.size) (fun t => hn (hT i hi t))).trans (h.block i hi hn)⟩
theorem Fr.mono {S T : Nat → Prop} {x y : World} (h : Fr S x y) (hT : ∀ i, i < x.heap.size → S i → T i) : Fr T x y :=
  ⟨h.os, h.tape, h.output, h.size, fun i hi hn => h.block i hi (fun s => hn (hT i hi s))⟩
theorem Fr.of_kept {S : Nat → Prop} {x y : World} (k : Kept x y) : Fr S x y := ⟨k.os, k.tape, k.output, k.size, fun i hi _ => k.block i hi⟩
theorem Fr.kept {S : Nat → Prop} {x y z : World} (h : Fr S x y) (k : Kept y z) : Fr S x z := h.trans (Fr.of_kept k)
theorem Fr.setCell {S : Nat → Prop} {x y : World} (h : Fr S x y) {b : Nat} (hb : S b ∨ x.heap.size ≤ b) (k : Nat) (v : Value) : Fr S x (y.setCell ⟨b, k, none⟩ v) :=
  ⟨h.os, h.tape, h.output, by simpa [World.setCell] using h.size, fun i hi hn => (Below.heap_setCell _ _ _ _ (by rintro rfl; rcases hb with hb | hb; exact hn hb; exact absurd hi (Nat.not_lt.2 hb))).trans (h.block i hi hn)⟩
theorem Fr.drewN {S : Nat → Prop} {x y : World} (h : Fr S x y) (n : Nat) : Fr S x (y.drewN n) := h.kept ((Kept.refl _).drewN n)
theorem Fr.alloc {S : Nat → Prop} {x y : World} (h : Fr S x y) (o : Obj) : Fr S x (y.alloc o) := h.kept ((Below.refl _ _).alloc (Nat.le_refl _) o)
theorem Fr.grown {S : Nat → Prop} {x y z : World} (h : Fr S x y) {row : Option Nat} (hg : y.grownBy z row) (hr : ∀ k, row = some k → S k ∨ x.heap.size ≤ k) : Fr S x z :=
  ⟨hg.os.trans h.os, hg.tape.trans h.tape, hg.output.trans h.output, Nat.le_trans h.size hg.size, fun i hi hn => (hg.block i (Nat.lt_of_lt_of_le hi h.size) (fun e => by rcases hr i e.symm with q | q; exact hn q; omega)).trans (h.block i hi hn)⟩
theorem Fr.to_kept {S : Nat → Prop} {x y z : World} (h : Kept x y) (k : Fr S y z) (hS : ∀ i, i < x.heap.size → ¬ S i) : Kept x z :=
  ⟨k.os.trans h.os, k.tape.trans h.tape, k.output.trans h.output, Nat.le_trans h.size k.size, fun i hi => (k.block i (Nat.lt_of_lt_of_le hi h.size) (hS i hi)).trans (h.block i hi)⟩
theorem Fr.cell {S : Nat → Prop} {w w' : World} (h : Fr S w w') {c k : Nat} (hc : c < w.heap.size) (hn : ¬ S c) : w'.cell? ⟨c, k, none⟩ = w.cell? ⟨c, k, none⟩ := World.cell?_of_block (w := w) (h.block c hc hn)
theorem Fr.frozen {S : Nat → Prop} {w w' : World} (h : Fr S w w') {c k : Nat} (hc : c < w.heap.size) (hn : ¬ S c) : w'.frozen? ⟨c, k, none⟩ = w.frozen? ⟨c, k, none⟩ := World.frozen?_of_block (w := w) (h.block c hc hn)
abbrev Fr1 (b : Nat) : World → World → Prop := Fr (fun k => k = b)
theorem Fr1.refl (b : Nat) (w : World) : Fr1 b w w := Fr.refl _ _
theorem Fr1.set {b : Nat} {x y : World} (h : Fr1 b x y) (k : Nat) (v : Value) : Fr1 b x (y.setCell ⟨b, k, none⟩ v) := Fr.setCell h (Or.inl rfl) k v
theorem Fr1.drewN {b : Nat} {x y : World} (h : Fr1 b x y) (n : Nat) : Fr1 b x (y.drewN n) := Fr.drewN h n

theorem ofInt_64 (a : Nat) (ha : a < 4294967296) : (BitVec.ofInt 64 (a : Int)).toNat = a := by
  rw [BitVec.ofInt_natCast, BitVec.toNat_ofNat]; exact Nat.mod_eq_of_lt (by omega)
theorem i64_and_nat (a b : Nat) (ha : a < 4294967296) (hb : b < 4294967296) : bits .and .i64 (a : Int) (b : Int) = ((a &&& b : Nat) : Int) := by
  have hx : a &&& b < 2 ^ 32 := Nat.and_lt_two_pow _ (by omega)
  show IntKind.i64.wrap ((BitVec.ofInt 64 (a : Int) &&& BitVec.ofInt 64 (b : Int)).toNat : Int) = _
  rw [BitVec.toNat_and, ofInt_64 a ha, ofInt_64 b hb, IntKind.wrap_i64]
  omega
theorem i64_xor_nat (a b : Nat) (ha : a < 4294967296) (hb : b < 4294967296) : bits .xor .i64 (a : Int) (b : Int) = ((a ^^^ b : Nat) : Int) := by
  have hx : a ^^^ b < 2 ^ 32 := Nat.xor_lt_two_pow (by omega) (by omega)
  show IntKind.i64.wrap ((BitVec.ofInt 64 (a : Int) ^^^ BitVec.ofInt 64 (b : Int)).toNat : Int) = _
  rw [BitVec.toNat_xor, ofInt_64 a ha, ofInt_64 b hb, IntKind.wrap_i64]
  omega
theorem i64_bit (x k : Nat) (hx : x < 4294967296) : bits .and .i64 ((x : Int) / 2 ^ k) 1 = ((x / 2 ^ k % 2 : Nat) : Int) := by
  have e1 : (x : Int) / 2 ^ k = ((x / 2 ^ k : Nat) : Int) := by simp
  have h1 : x / 2 ^ k < 4294967296 := Nat.lt_of_le_of_lt (Nat.div_le_self _ _) (by omega)
  have := i64_and_nat (x / 2 ^ k) 1 h1 (by omega)
  rw [nat_mask1] at this; rw [e1]; exact this
end Go.Proofs.YtehnbejlhjkciaaGreatDoor
namespace Go.Proofs.YtehnbejlhjkciaaGreatDoor
open Go.RowKit
set_option linter.unusedSimpArgs false
set_option linter.unusedVariables false

def sliceBlock : Value → Option Nat
  | .slice (some a) _ _ => some a.block
  | _ => none
theorem info_parts' {P : Program} {E : TypeId} {z : Value} {s b : Nat} (h : (P.info? E).map (fun i => (i.zero, i.size, i.bytes)) = some (some z, s, b)) : ∃ i, P.info? E = some i ∧ i.zero = some z ∧ i.size = s ∧ i.bytes = b := by
  cases hq : P.info? E with
  | none => simp [hq] at h
  | some i => simp [hq] at h; exact ⟨i, rfl, h.1, h.2.1, h.2.2⟩
theorem own_base {w : World} {base base' : Nat} {e : TypeId} {size : Nat} {v : Value} {n : Nat} {xs : List Value} (h : w.ownsRow base e size v n xs) (hb : base' ≤ base) : w.ownsRow base' e size v n xs := by
  obtain ⟨h1, h2⟩ := h
  refine ⟨h1, ?_⟩
  rcases h2 with h2 | ⟨g, cap, cur, hv, hg, r⟩
  · exact Or.inl h2
  · exact Or.inr ⟨g, cap, cur, hv, by omega, r⟩
theorem own_kept {w W : World} {base : Nat} {e : TypeId} {size : Nat} {v : Value} {n : Nat} {xs : List Value} (h : w.ownsRow base e size v n xs) (k : Kept w W) : W.ownsRow base e size v n xs :=
  h.kept (row := none) ⟨k.os, k.tape, k.output, k.size, fun j hj _ => k.block j hj⟩ (by cases hv : v.ownBlock; exact Or.inl rfl; exact Or.inr (by simp))
theorem own_slice {w : World} {base : Nat} {e : TypeId} {size : Nat} {v : Value} {n : Nat} {xs : List Value} (h : w.ownsRow base e size v n xs) : ∃ p c, v = .slice p n c := by
  rcases h.2 with ⟨hv, h0⟩ | ⟨g, cap, cur, hv, hg, r⟩
  · exact ⟨none, 0, by rw [hv, h0]⟩
  · exact ⟨_, _, hv⟩
theorem own_ne {w : World} {base : Nat} {e : TypeId} {size : Nat} {v : Value} {n : Nat} {xs : List Value} (h : w.ownsRow base e size v n xs) {b : Nat} (hb : b < base) : ∀ g, sliceBlock v = some g → g ≠ b := by
  intro g hg e0
  subst e0
  rcases h.2 with ⟨hv, h0⟩ | ⟨g', cap, cur, hv, hg', r⟩
  · rw [hv] at hg; cases hg
  · rw [hv] at hg; injection hg with hg; simp at hg; omega
theorem sliceBlock_own (v : Value) {w : World} {base : Nat} {e : TypeId} {size n : Nat} {xs : List Value} (h : w.ownsRow base e size v n xs) : sliceBlock v = v.ownBlock := by
  rcases h.2 with ⟨hv, h0⟩ | ⟨g', cap, cur, hv, hg', r⟩ <;> rw [hv] <;> rfl
/-- append of whole elements to a row of the call's own: it stays where it was, or lies in a new block. -/
theorem append_own (w : World) {ops : Array Oper} {rest : List Oper} {o : Oper} {a : Act} {Q : Exit → Act → World → Prop}
    (T T2 E : TypeId) (size bytes : Nat) (zero : Value) (hT : Tryz.prog.underlying T = some (.slice E)) (hI : (Tryz.prog.info? E).map (fun i => (i.zero, i.size, i.bytes)) = some (some zero, size, bytes)) (hzc : zero.cells.size = size) (hpos : 0 < size)
    (hg : o.guard = none) (s x : Operand) (hop : o.op = Op.call { callee := Callee.builtin Builtin.append, args := #[s, x], argTypes := #[T, T2] })
    (base : Nat) (v : Value) (n : Nat) (xs : List Value) (hs : a.eval s = v) (hown : w.ownsRow base E size v n xs)
    (ad : Addr) (m c : Nat) (news : List Value) (hx : a.eval x = .slice (some ad) m c) (hn : news.length = m * size) (hm : 0 < m)
    (hc : ∀ j u, news[j]? = some u → w.cell? (ad.add j) = some u) (h1c : ∀ u ∈ news, u.oneCell' = true) (hml : n + m ≤ maxLen) (hb : (n + m) * bytes ≤ 140737488355328) (hbase : base ≤ w.heap.size)
    (hK : ∀ v' w', w'.ownsRow base E size v' (n + m) (xs ++ news) → w.grownBy w' v.ownBlock → (∀ k, v'.ownBlock = some k → v.ownBlock = some k ∨ w.heap.size ≤ k) → wpList Tryz.prog ops Q rest (a.put o.dst v') w') (hTT : T2 = T) :
    wpList Tryz.prog ops Q (o :: rest) a w := by
  subst hTT
  obtain ⟨i0, hi, hz0, hz1, hz2⟩ := info_parts' hI
  have fin : ∀ v' w', w'.ownsRow w.heap.size E size v' (n + m) (xs ++ news) → w.grownBy w' none → wpList Tryz.prog ops Q rest (a.put o.dst v') w' := by
    intro v' w' h1 h2
    refine hK v' w' (own_base h1 hbase) ⟨h2.os, h2.tape, h2.output, h2.size, fun k hk _ => h2.block k hk (by simp)⟩ (fun k hk => Or.inr ((h1.lt k hk).1))
  rcases hown.2 with ⟨rfl, h0⟩ | ⟨g, cap, cur, rfl, hgb, hh, hnc, hcm, hcs, htk⟩
  · subst h0
    have hx0 : xs = [] := List.eq_nil_of_length_eq_zero (by simpa using hown.1)
    subst hx0
    exact wpList_append_grows w hg s x T2 hop E i0 zero size bytes hT hi hz0 hz1 hz2 hzc hpos none 0 0 [] hs (fun _ => ⟨rfl, rfl⟩) (by simp) (fun b hb => by cases hb) ad m c news hx hn hc h1c (by omega) hml hb fin
  · by_cases hf : n + m ≤ cap
    · refine wpList_append_fits w hg s x T2 hop base E i0 size hT hi hz1 g n cap xs hs hown ad m c news hx hn hc h1c hf ?_
      intro w' h1 h2
      exact hK _ w' h1 h2 (fun k hk => Or.inl hk)
    · exact wpList_append_grows w hg s x T2 hop E i0 zero size bytes hT hi hz0 hz1 hz2 hzc hpos (some ⟨g, 0, none⟩) n cap xs hs (fun h => by cases h) hown.1 (fun b hb j u hj => by cases hb; exact hown.cells rfl j u hj) ad m c news hx hn hc h1c (by omega) hml hb fin

/-- A slice of numbers of kind k. -/
structure LAt (w : World) (k : IntKind) (v : Value) (l : List Int) : Prop where
  form : ∃ p c, v = .slice p l.length c
  cells : ∀ p c, v = .slice p l.length c → ∀ i, i < l.length → ∃ g o, p = some ⟨g, o, none⟩ ∧ w.cell? ⟨g, o + i, none⟩ = some (.int k (l.getD i 0))
theorem LAt.fr {S : Nat → Prop} {w w' : World} {k : IntKind} {v : Value} {l : List Int} (h : LAt w k v l) (f : Fr S w w') (hS : ∀ g, sliceBlock v = some g → ¬ S g) : LAt w' k v l := by
  refine ⟨h.form, ?_⟩
  intro p c hv i hi
  obtain ⟨g, o, hp, h1⟩ := h.cells p c hv i hi
  have hg : sliceBlock v = some g := by rw [hv, hp]; rfl
  have hlt : g < w.heap.size := World.block_lt_of_cell? _ _ h1
  exact ⟨g, o, hp, (f.cell hlt (hS g hg)).trans h1⟩
theorem LAt.kept {w w' : World} {k : IntKind} {v : Value} {l : List Int} (h : LAt w k v l) (f : Kept w w') : LAt w' k v l := h.fr (S := fun _ => False) ⟨f.os, f.tape, f.output, f.size, fun i hi _ => f.block i hi⟩ (fun _ _ h => h)
theorem LAt.addr {w : World} {k : IntKind} {v : Value} {l : List Int} (h : LAt w k v l) (h0 : 0 < l.length) : ∃ g o c, v = .slice (some ⟨g, o, none⟩) l.length c ∧ ∀ i, i < l.length → w.cell? ⟨g, o + i, none⟩ = some (.int k (l.getD i 0)) := by
  obtain ⟨p, c, hv⟩ := h.form
  obtain ⟨g, o, hp, _⟩ := h.cells p c hv 0 h0
  refine ⟨g, o, c, by rw [hv, hp], fun i hi => ?_⟩
  obtain ⟨g', o', hp', h1⟩ := h.cells p c hv i hi
  rw [hp] at hp'
  injection hp' with e
  injection e with e1 e2
  subst e1; subst e2
  exact h1
theorem LAt.nil {w : World} {k : IntKind} {p : Option Addr} {c : Nat} : LAt w k (.slice p 0 c) [] := ⟨⟨p, c, rfl⟩, fun _ _ _ i hi => by simp at hi⟩
theorem LAt.cellAt {w : World} {k : IntKind} {p : Option Addr} {c : Nat} {l : List Int} (h : LAt w k (.slice p l.length c) l) (i : Nat) (hi : i < l.length) : ∃ g o, p = some ⟨g, o, none⟩ ∧ w.cell? ⟨g, o + i, none⟩ = some (.int k (l.getD i 0)) := h.cells p c rfl i hi
/-- A row of one's own, read as numbers. -/
theorem own_lat {w : World} {base : Nat} {E : TypeId} {k : IntKind} {v : Value} {l : List Int} (h : w.ownsRow base E 1 v l.length (l.map (Value.int k))) : LAt w k v l := by
  rcases h.2 with ⟨hv, h0⟩ | ⟨g, cap, cur, hv, hg, r⟩
  · refine ⟨⟨none, 0, by rw [hv, h0]⟩, ?_⟩
    intro p c _ i hi; omega
  · refine ⟨⟨_, _, hv⟩, ?_⟩
    intro p c hp i hi
    rw [hv] at hp
    injection hp with hp _ _
    refine ⟨g, 0, hp.symm, ?_⟩
    have := h.cells (by rw [hv]; rfl) i (.int k (l.getD i 0)) (by simp [List.getElem?_map, List.getElem?_eq_getElem hi, List.getD_eq_getElem?_getD])
    have e : (Addr.add ⟨g, 0, none⟩ i) = ⟨g, 0 + i, none⟩ := by simp [Addr.add]; intro h; exact h.symm
    rw [e] at this; exact this
theorem getD_mem {l : List Int} {i : Nat} (h : i < l.length) : l.getD i 0 ∈ l := by simp [List.getD_eq_getElem?_getD, List.getElem?_eq_getElem h]
theorem all_take_succ (p : Int → Bool) (l : List Int) (i : Nat) (h : i < l.length) : (l.take (i + 1)).all p = ((l.take i).all p && p (l.getD i 0)) := by
  rw [List.take_succ_eq_append_getElem h, List.all_append]
  simp [List.getD_eq_getElem?_getD, List.getElem?_eq_getElem h]
/-- Numbers of an int. -/
def i64ok (x : Int) : Prop := -9223372036854775808 ≤ x ∧ x ≤ 9223372036854775807
end Go.Proofs.YtehnbejlhjkciaaGreatDoor
