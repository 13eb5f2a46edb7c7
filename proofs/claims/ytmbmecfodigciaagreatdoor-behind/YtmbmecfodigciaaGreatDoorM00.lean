import Derived.Test.YtmbmecfodigciaaGreatDoorProg
import Derived.WalkKit
import Derived.WalkSpells
import Derived.WalkLawsBesides
import Derived.Laws.BitsAllLaws
import Derived.BigQuiet
import Derived.Deep.QuietTactic
import Derived.Laws.IdiomCopy
import Derived.Deep.WholeRow
import Derived.Deep.MidRow
import Derived.OpenShut
import Derived.Deep.AppendLies
import Derived.Deep.RegionLaw
/-
  Plain mathematics, no Go: bits and numbers of a list of bytes.
-/
namespace Px
end Px
namespace Go.Proofs.YtmbmecfodigciaaGreatDoor
open Go.RowKit
theorem ret_bool {a b : Bool} (h : a = b) : Ending.returned (.bool a) = .returned (.bool b) := by rw [h]
theorem ret_int {k : IntKind} {a b : Int} (h : a = b) : Ending.returned (.int k a) = .returned (.int k b) := by rw [h]
theorem val_int {k : IntKind} {a b : Int} (h : a = b) : Value.int k a = .int k b := by rw [h]
theorem val_bool {a b : Bool} (h : a = b) : Value.bool a = .bool b := by rw [h]
abbrev Kept (w w' : World) : Prop := Below w.heap.size w w'
theorem Kept.refl (w : World) : Kept w w := Below.refl _ _
theorem Kept.trans {a b c : World} (h : Kept a b) (k : Kept b c) : Kept a c := Below.trans h (k.mono h.size)
theorem Kept.drewN {a w : World} (h : Kept a w) (n : Nat) : Kept a (w.drewN n) := below_drewN h n
theorem cell_set_other (w : World) (b k j : Nat) (v : Value) (h : k ≠ j) : (w.setCell ⟨b, k, none⟩ v).cell? ⟨b, j, none⟩ = w.cell? ⟨b, j, none⟩ :=
  World.cell?_setCell_other _ _ _ _ (by intro e; apply h; injection e)
theorem cell_set_same {w : World} {a : Addr} {u : Value} (h : w.cell? a = some u) (v : Value) : (w.setCell a v).cell? a = some v := World.cell?_setCell_same _ _ _ h
/-- All blocks but those of S are as they were. -/
structure Fr (S : Nat → Prop) (w w' : World) : Prop where
  os : w'.os = w.os
  tape : w'.tape = w.tape
  output : w'.output = w.output
  size : w.heap.size ≤ w'.heap.size
  block : ∀ k, k < w.heap.size → ¬ S k → w'.heap[k]? = w.heap[k]?
theorem Fr.refl (S : Nat → Prop) (w : World) : Fr S w w := ⟨rfl, rfl, rfl, Nat.le_refl _, fun _ _ _ => rfl⟩
theorem Fr.trans {S : Nat → Prop} {x y z : World} (h : Fr S x y) (k : Fr S y z) : Fr S x z :=
  ⟨k.os.trans h.os, k.tape.trans h.tape, k.output.trans h.output, Nat.le_trans h.size k.size, fun i hi hn => (k.block i (Nat.lt_of_lt_of_le hi h.size) hn).trans (h.block i hi hn)⟩
/-- A second step may also change what is new. -/
theorem Fr.trans' {S T : Nat → Prop} {x y z : World} (h : Fr S x y) (k : Fr T y z) (hT : ∀ i, i < x.heap.size → T i → S i) : Fr S x z :=
  ⟨k.os.trans h.os, k.tape.trans h.tape, k.output.trans h.output, Nat.le_trans h.size k.size, fun i hi hn => (k.block i (Nat.lt_of_lt_of_le hi h.size) (fun t => hn (hT i hi t))).trans (h.block i hi hn)⟩
theorem Fr.mono {S T : Nat → Prop} {x y : World} (h : Fr S x y) (hT : ∀ i, i < x.heap.size → S i → T i) : Fr T x y :=
  ⟨h.os, h.tape, h.output, h.size, fun i hi hn => h.block i hi (fun s => hn (hT i hi s))⟩
theorem Fr.of_kept {S : Nat → Prop} {x y : World} (k : Kept x y) : Fr S x y := ⟨k.os, k.tape, k.output, k.size, fun i hi _ => k.block i hi⟩
theorem Fr.kept {S : Nat → Prop} {x y z : World} (h : Fr S x y) (k : Kept y z) : Fr S x z := h.trans (Fr.of_kept k)
theorem Fr.setCell {S : Nat → Prop} {x y : World} (h : Fr S x y) {b : Nat} (hb : S b ∨ x.heap.size ≤ b) (k : Nat) (v : Value) : Fr S x (y.setCell ⟨b, k, none⟩ v) :=
  ⟨h.os, h.tape, h.output, by simpa [World.setCell] using h.size, fun i hi hn => (Below.heap_setCell _ _ _ _ (by rintro rfl; rcases hb with hb | hb; exact hn hb; exact absurd hi (Nat.not_lt.2 hb))).trans (h.block i hi hn)⟩
theorem Fr.drewN {S : Nat → Prop} {x y : World} (h : Fr S x y) (n : Nat) : Fr S x (y.drewN n) := h.kept ((Kept.refl _).drewN n)
theorem Fr.alloc {S : Nat → Prop} {x y : World} (h : Fr S x y) (o : Obj) : Fr S x (y.alloc o) := h.kept ((Below.refl _ _).alloc (Nat.le_refl _) o)
theorem Fr.to_kept {S : Nat → Prop} {x y z : World} (h : Kept x y) (k : Fr S y z) (hS : ∀ i, i < x.heap.size → ¬ S i) : Kept x z :=
  ⟨k.os.trans h.os, k.tape.trans h.tape, k.output.trans h.output, Nat.le_trans h.size k.size, fun i hi => (k.block i (Nat.lt_of_lt_of_le hi h.size) (hS i hi)).trans (h.block i hi)⟩
theorem Fr.cell {S : Nat → Prop} {w w' : World} (h : Fr S w w') {c k : Nat} (hc : c < w.heap.size) (hn : ¬ S c) : w'.cell? ⟨c, k, none⟩ = w.cell? ⟨c, k, none⟩ := World.cell?_of_block (w := w) (h.block c hc hn)
theorem Fr.frozen {S : Nat → Prop} {w w' : World} (h : Fr S w w') {c k : Nat} (hc : c < w.heap.size) (hn : ¬ S c) : w'.frozen? ⟨c, k, none⟩ = w.frozen? ⟨c, k, none⟩ := World.frozen?_of_block (w := w) (h.block c hc hn)
abbrev Fr1 (b : Nat) : World → World → Prop := Fr (fun k => k = b)
theorem Fr1.refl (b : Nat) (w : World) : Fr1 b w w := Fr.refl _ _
theorem Fr1.set {b : Nat} {x y : World} (h : Fr1 b x y) (k : Nat) (v : Value) : Fr1 b x (y.setCell ⟨b, k, none⟩ v) := Fr.setCell h (Or.inl rfl) k v
theorem Fr1.drewN {b : Nat} {x y : World} (h : Fr1 b x y) (n : Nat) : Fr1 b x (y.drewN n) := Fr.drewN h n
theorem ofInt_64 (a : Nat) (ha : a < 4294967296) : (BitVec.ofInt 64 (a : Int)).toNat = a := by
  rw [BitVec.ofInt_natCast, BitVec.toNat_ofNat]; exact Nat.mod_eq_of_lt (by omega)
set_option linter.unusedSimpArgs false
set_option linter.unusedVariables false
def sliceBlock : Value → Option Nat
  | .slice (some a) _ _ => some a.block
  | _ => none
theorem info_parts' {P : Program} {E : TypeId} {z : Value} {s b : Nat} (h : (P.info? E).map (fun i => (i.zero, i.size, i.bytes)) = some (some z, s, b)) : ∃ i, P.info? E = some i ∧ i.zero = some z ∧ i.size = s ∧ i.bytes = b := by
  cases hq : P.info? E with
  | none => simp [hq] at h
  | some i => simp [hq] at h; exact ⟨i, rfl, h.1, h.2.1, h.2.2⟩
theorem own_base {w : World} {base base' : Nat} {e : TypeId} {size : Nat} {v : Value} {n : Nat} {xs : List Value} (h : w.ownsRow base e size v n xs) (hb : base' ≤ base) : w.ownsRow base' e size v n xs := by
  obtain ⟨h1, h2⟩ := h
  refine ⟨h1, ?_⟩
  rcases h2 with h2 | ⟨g, cap, cur, hv, hg, r⟩
  · exact Or.inl h2
  · exact Or.inr ⟨g, cap, cur, hv, by omega, r⟩
theorem own_kept {w W : World} {base : Nat} {e : TypeId} {size : Nat} {v : Value} {n : Nat} {xs : List Value} (h : w.ownsRow base e size v n xs) (k : Kept w W) : W.ownsRow base e size v n xs :=
  h.kept (row := none) ⟨k.os, k.tape, k.output, k.size, fun j hj _ => k.block j hj⟩ (by cases hv : v.ownBlock; exact Or.inl rfl; exact Or.inr (by simp))
theorem own_slice {w : World} {base : Nat} {e : TypeId} {size : Nat} {v : Value} {n : Nat} {xs : List Value} (h : w.ownsRow base e size v n xs) : ∃ p c, v = .slice p n c := by
  rcases h.2 with ⟨hv, h0⟩ | ⟨g, cap, cur, hv, hg, r⟩
  · exact ⟨none, 0, by rw [hv, h0]⟩
  · exact ⟨_, _, hv⟩
theorem sliceBlock_own (v : Value) {w : World} {base : Nat} {e : TypeId} {size n : Nat} {xs : List Value} (h : w.ownsRow base e size v n xs) : sliceBlock v = v.ownBlock := by
  rcases h.2 with ⟨hv, h0⟩ | ⟨g', cap, cur, hv, hg', r⟩ <;> rw [hv] <;> rfl
/-- append of whole elements to a row of the call's own: it stays where it was, or lies in a new block. -/
theorem append_own (w : World) {ops : Array Oper} {rest : List Oper} {o : Oper} {a : Act} {Q : Exit → Act → World → Prop}
    (T T2 E : TypeId) (size bytes : Nat) (zero : Value) (hT : Tryz.prog.underlying T = some (.slice E)) (hI : (Tryz.prog.info? E).map (fun i => (i.zero, i.size, i.bytes)) = some (some zero, size, bytes)) (hzc : zero.cells.size = size) (hpos : 0 < size)
    (hg : o.guard = none) (s x : Operand) (hop : o.op = Op.call { callee := Callee.builtin Builtin.append, args := #[s, x], argTypes := #[T, T2] })
    (base : Nat) (v : Value) (n : Nat) (xs : List Value) (hs : a.eval s = v) (hown : w.ownsRow base E size v n xs)
    (ad : Addr) (m c : Nat) (news : List Value) (hx : a.eval x = .slice (some ad) m c) (hn : news.length = m * size) (hm : 0 < m)
    (hc : ∀ j u, news[j]? = some u → w.cell? (ad.add j) = some u) (h1c : ∀ u ∈ news, u.oneCell' = true) (hml : n + m ≤ maxLen) (hb : (n + m) * bytes ≤ 140737488355328) (hbase : base ≤ w.heap.size)
    (hK : ∀ v' w', w'.ownsRow base E size v' (n + m) (xs ++ news) → w.grownBy w' v.ownBlock → (∀ k, v'.ownBlock = some k → v.ownBlock = some k ∨ w.heap.size ≤ k) → wpList Tryz.prog ops Q rest (a.put o.dst v') w') (hTT : T2 = T) :
    wpList Tryz.prog ops Q (o :: rest) a w := by
  subst hTT
  obtain ⟨i0, hi, hz0, hz1, hz2⟩ := info_parts' hI
  have fin : ∀ v' w', w'.ownsRow w.heap.size E size v' (n + m) (xs ++ news) → w.grownBy w' none → wpList Tryz.prog ops Q rest (a.put o.dst v') w' := by
    intro v' w' h1 h2
    refine hK v' w' (own_base h1 hbase) ⟨h2.os, h2.tape, h2.output, h2.size, fun k hk _ => h2.block k hk (by simp)⟩ (fun k hk => Or.inr ((h1.lt k hk).1))
  rcases hown.2 with ⟨rfl, h0⟩ | ⟨g, cap, cur, rfl, hgb, hh, hnc, hcm, hcs, htk⟩
  · subst h0
    have hx0 : xs = [] := List.eq_nil_of_length_eq_zero (by simpa using hown.1)
    subst hx0
    exact wpList_append_grows w hg s x T2 hop E i0 zero size bytes hT hi hz0 hz1 hz2 hzc hpos none 0 0 [] hs (fun _ => ⟨rfl, rfl⟩) (by simp) (fun b hb => by cases hb) ad m c news hx hn hc h1c (by omega) hml hb fin
  · by_cases hf : n + m ≤ cap
    · refine wpList_append_fits w hg s x T2 hop base E i0 size hT hi hz1 g n cap xs hs hown ad m c news hx hn hc h1c hf ?_
      intro w' h1 h2
      exact hK _ w' h1 h2 (fun k hk => Or.inl hk)
    · exact wpList_append_grows w hg s x T2 hop E i0 zero size bytes hT hi hz0 hz1 hz2 hzc hpos (some ⟨g, 0, none⟩) n cap xs hs (fun h => by cases h) hown.1 (fun b hb j u hj => by cases hb; exact hown.cells rfl j u hj) ad m c news hx hn hc h1c (by omega) hml hb fin
/-- A slice of numbers of kind k. -/
structure LAt (w : World) (k : IntKind) (v : Value) (l : List Int) : Prop where
  form : ∃ p c, v = .slice p l.length c
  cells : ∀ p c, v = .slice p l.length c → ∀ i, i < l.length → ∃ g o, p = some ⟨g, o, none⟩ ∧ w.cell? ⟨g, o + i, none⟩ = some (.int k (l.getD i 0))
theorem LAt.fr {S : Nat → Prop} {w w' : World} {k : IntKind} {v : Value} {l : List Int} (h : LAt w k v l) (f : Fr S w w') (hS : ∀ g, sliceBlock v = some g → ¬ S g) : LAt w' k v l := by
  refine ⟨h.form, ?_⟩
  intro p c hv i hi
  obtain ⟨g, o, hp, h1⟩ := h.cells p c hv i hi
  have hg : sliceBlock v = some g := by rw [hv, hp]; rfl
  have hlt : g < w.heap.size := World.block_lt_of_cell? _ _ h1
  exact ⟨g, o, hp, (f.cell hlt (hS g hg)).trans h1⟩
theorem LAt.kept {w w' : World} {k : IntKind} {v : Value} {l : List Int} (h : LAt w k v l) (f : Kept w w') : LAt w' k v l := h.fr (S := fun _ => False) ⟨f.os, f.tape, f.output, f.size, fun i hi _ => f.block i hi⟩ (fun _ _ h => h)
theorem LAt.addr {w : World} {k : IntKind} {v : Value} {l : List Int} (h : LAt w k v l) (h0 : 0 < l.length) : ∃ g o c, v = .slice (some ⟨g, o, none⟩) l.length c ∧ ∀ i, i < l.length → w.cell? ⟨g, o + i, none⟩ = some (.int k (l.getD i 0)) := by
  obtain ⟨p, c, hv⟩ := h.form
  obtain ⟨g, o, hp, _⟩ := h.cells p c hv 0 h0
  refine ⟨g, o, c, by rw [hv, hp], fun i hi => ?_⟩
  obtain ⟨g', o', hp', h1⟩ := h.cells p c hv i hi
  rw [hp] at hp'
  injection hp' with e
  injection e with e1 e2
  subst e1; subst e2
  exact h1
theorem LAt.nil {w : World} {k : IntKind} {p : Option Addr} {c : Nat} : LAt w k (.slice p 0 c) [] := ⟨⟨p, c, rfl⟩, fun _ _ _ i hi => by simp at hi⟩
theorem LAt.cellAt {w : World} {k : IntKind} {p : Option Addr} {c : Nat} {l : List Int} (h : LAt w k (.slice p l.length c) l) (i : Nat) (hi : i < l.length) : ∃ g o, p = some ⟨g, o, none⟩ ∧ w.cell? ⟨g, o + i, none⟩ = some (.int k (l.getD i 0)) := h.cells p c rfl i hi
/-- A row of one's own, read as numbers. -/
theorem own_lat {w : World} {base : Nat} {E : TypeId} {k : IntKind} {v : Value} {l : List Int} (h : w.ownsRow base E 1 v l.length (l.map (Value.int k))) : LAt w k v l := by
  rcases h.2 with ⟨hv, h0⟩ | ⟨g, cap, cur, hv, hg, r⟩
  · refine ⟨⟨none, 0, by rw [hv, h0]⟩, ?_⟩
    intro p c _ i hi; omega
  · refine ⟨⟨_, _, hv⟩, ?_⟩
    intro p c hp i hi
    rw [hv] at hp
    injection hp with hp _ _
    refine ⟨g, 0, hp.symm, ?_⟩
    have := h.cells (by rw [hv]; rfl) i (.int k (l.getD i 0)) (by simp [List.getElem?_map, List.getElem?_eq_getElem hi, List.getD_eq_getElem?_getD])
    have e : (Addr.add ⟨g, 0, none⟩ i) = ⟨g, 0 + i, none⟩ := by simp [Addr.add]; intro h; exact h.symm
    rw [e] at this; exact this
theorem getD_mem {l : List Int} {i : Nat} (h : i < l.length) : l.getD i 0 ∈ l := by simp [List.getD_eq_getElem?_getD, List.getElem?_eq_getElem h]
/-- n cells of numbers of kind k below m. -/
def Rng (k : IntKind) (m : Int) (W : World) (b o n : Nat) : Prop := ∀ j, j < n → ∃ z : Int, 0 ≤ z ∧ z < m ∧ W.cell? ⟨b, o + j, none⟩ = some (.int k z)
theorem ints_one {k : IntKind} {m : Int} {cs : List Value} {n : Nat} (hl : cs.length = n) (h : ∀ j, j < n → ∃ z : Int, 0 ≤ z ∧ z < m ∧ cs[j]? = some (.int k z)) : ∀ v ∈ cs, v.oneCell' = true := by
  intro v hv
  obtain ⟨j, hj, e⟩ := List.getElem_of_mem hv
  obtain ⟨z, _, _, hz⟩ := h j (by omega)
  rw [List.getElem?_eq_getElem hj] at hz
  injection hz with hz
  rw [← e, hz]; rfl
theorem there_set {w : World} {b o n : Nat} (h : w.there b o n) {c k : Nat} (u : Value) (hne : c ≠ b) : (w.setCell ⟨c, k, none⟩ u).there b o n := by
  intro j hj
  obtain ⟨h1, h2⟩ := h j hj
  exact ⟨by rw [World.cell?_setCell_other _ _ _ _ (by intro e; injection e; omega)]; exact h1, by rw [World.frozen?_setCell]; exact h2⟩
theorem results_cell1 {P : Program} {fn : Func} {p : Tmp} {ty : TypeId} (h : fn.results = #[.cell p ty]) (tmps : Array Value) (w : World) (b o : Nat) (v : Value)
    (hp : tmps.getD p undef = .pointer (some ⟨b, o, none⟩)) (hl : (loadVar ty ⟨b, o, none⟩).run P w = .ok v w) : (results fn tmps).run P w = .ok v w := by
  have hp' : tmps[p]?.getD undef = .pointer (some ⟨b, o, none⟩) := by simpa using hp
  simp [results, h, hp', asAddr, Sem.run_bind, Result.andThen, hl]
theorem Fr.setCells {S : Nat → Prop} {x y : World} (h : Fr S x y) {b : Nat} (hb : S b ∨ x.heap.size ≤ b) : ∀ (vs : List Value) (o : Nat) {y : World}, Fr S x y → Fr S x (y.setCells b o vs)
  | [], _, _, h => h
  | v :: r, o, _, h => Fr.setCells (h.setCell hb o v) hb r (o + 1) (h.setCell hb o v)
theorem Kept.setCells {x : World} {b : Nat} (hb : x.heap.size ≤ b) : ∀ (vs : List Value) (o : Nat) {y : World}, Kept x y → Kept x (y.setCells b o vs)
  | [], _, _, h => h
  | v :: r, o, _, h => Kept.setCells hb r (o + 1) (h.setCell hb _)
theorem infoU8 : (Tryz.prog.info? 5).map (fun i => (i.zero, i.size, i.bytes)) = some (some (.int .u8 0), 1, 1) := by kernel_rfl
def isBytes (l : List Int) : Prop := ∀ x ∈ l, 0 ≤ x ∧ x < 256
theorem isBytes.nil : isBytes [] := fun _ h => by simp at h
theorem isBytes.app {l m : List Int} (h : isBytes l) (k : isBytes m) : isBytes (l ++ m) := by
  intro y hy; simp at hy; rcases hy with hy | hy
  · exact h y hy
  · exact k y hy
def u8s (l : List Int) : List Value := l.map (Value.int .u8)
/-- A row of bytes of one's own. -/
def Own8 (w : World) (N : Nat) (v : Value) (n : Nat) : Prop := ∃ l : List Int, l.length = n ∧ isBytes l ∧ w.ownsRow N 5 1 v n (u8s l)
/-- What stands from N on is the caller's own, and so is block x. -/
abbrev FrN (x N : Nat) : World → World → Prop := Fr (fun g => g = x ∨ N ≤ g)
def szOf (W : World) (x : Nat) : Nat := match W.cell? ⟨x, 2, none⟩ with | some (.int _ v) => v.toNat | _ => 0
end Go.Proofs.YtmbmecfodigciaaGreatDoor
namespace Px
def upd {A : Type} (f : Nat → A) (i : Nat) (v : A) : Nat → A := fun j => if j = i then v else f j
theorem upd_same {A : Type} (f : Nat → A) (i : Nat) (v : A) : upd f i v i = v := if_pos rfl
theorem upd_ne {A : Type} (f : Nat → A) (i : Nat) (v : A) {j : Nat} (h : j ≠ i) : upd f i v j = f j := if_neg h
end Px
namespace Go.Proofs.YtmbmecfodigciaaGreatDoor
open Go.RowKit Px
structure Pt where
  bits : Nat
  offset : Nat
  ahead : Nat
/-- 3 cells from o on. -/
structure PtV (c : Nat → Value) (o : Nat) (s : Pt) : Prop where
  bits : c (o) = .int .i64 (s.bits : Int)
  offset : c (o + 1) = .int .i64 (s.offset : Int)
  ahead : c (o + 2) = .int .i64 (s.ahead : Int)
theorem PtV.congr {c d : Nat → Value} {o : Nat} {s : Pt} (h : PtV c o s) (e : ∀ i, o ≤ i → i < o + 3 → d i = c i) : PtV d o s :=
  ⟨(e _ (by omega) (by omega)).trans h.bits, (e _ (by omega) (by omega)).trans h.offset, (e _ (by omega) (by omega)).trans h.ahead⟩
theorem PtV.set_bits {c : Nat → Value} {o : Nat} {s : Pt} (h : PtV c o s) (v : Nat) : PtV (upd c (o) (.int .i64 (v : Int))) o { s with bits := v } :=
  ⟨upd_same _ _ _, (upd_ne _ _ _ (by omega)).trans h.offset, (upd_ne _ _ _ (by omega)).trans h.ahead⟩
theorem PtV.set_offset {c : Nat → Value} {o : Nat} {s : Pt} (h : PtV c o s) (v : Nat) : PtV (upd c (o + 1) (.int .i64 (v : Int))) o { s with offset := v } :=
  ⟨(upd_ne _ _ _ (by omega)).trans h.bits, upd_same _ _ _, (upd_ne _ _ _ (by omega)).trans h.ahead⟩
theorem PtV.set_ahead {c : Nat → Value} {o : Nat} {s : Pt} (h : PtV c o s) (v : Nat) : PtV (upd c (o + 2) (.int .i64 (v : Int))) o { s with ahead := v } :=
  ⟨(upd_ne _ _ _ (by omega)).trans h.bits, (upd_ne _ _ _ (by omega)).trans h.offset, upd_same _ _ _⟩
structure CS where
  count : Nat → Nat
  sym : Nat → Nat
  total : Nat
  longest : Nat
/-- 306 cells from o on. -/
structure CSV (c : Nat → Value) (o : Nat) (s : CS) : Prop where
  count : ∀ i, i < 16 → c (o + i) = .int .i64 (s.count i : Int)
  sym : ∀ i, i < 288 → c (o + 16 + i) = .int .i64 (s.sym i : Int)
  total : c (o + 304) = .int .i64 (s.total : Int)
  longest : c (o + 305) = .int .i64 (s.longest : Int)
theorem CSV.congr {c d : Nat → Value} {o : Nat} {s : CS} (h : CSV c o s) (e : ∀ i, o ≤ i → i < o + 306 → d i = c i) : CSV d o s :=
  ⟨fun i hi => (e _ (by omega) (by omega)).trans (h.count i hi), fun i hi => (e _ (by omega) (by omega)).trans (h.sym i hi), (e _ (by omega) (by omega)).trans h.total, (e _ (by omega) (by omega)).trans h.longest⟩
theorem CSV.set_count {c : Nat → Value} {o : Nat} {s : CS} (h : CSV c o s) (k : Nat) (v : Nat) (hk : k < 16) : CSV (upd c (o + k) (.int .i64 (v : Int))) o { s with count := upd s.count k v } :=
  ⟨fun i hi => by
    by_cases e : i = k
    · subst e; rw [upd_same]; show _ = Value.int .i64 ((upd s.count i v i : Nat) : Int); rw [upd_same]
    · rw [upd_ne _ _ _ (by omega)]; show _ = Value.int .i64 ((upd s.count k v i : Nat) : Int); rw [upd_ne _ _ _ e]; exact h.count i hi, fun i hi => (upd_ne _ _ _ (by omega)).trans (h.sym i hi), (upd_ne _ _ _ (by omega)).trans h.total, (upd_ne _ _ _ (by omega)).trans h.longest⟩
theorem CSV.set_sym {c : Nat → Value} {o : Nat} {s : CS} (h : CSV c o s) (k : Nat) (v : Nat) (hk : k < 288) : CSV (upd c (o + 16 + k) (.int .i64 (v : Int))) o { s with sym := upd s.sym k v } :=
  ⟨fun i hi => (upd_ne _ _ _ (by omega)).trans (h.count i hi), fun i hi => by
    by_cases e : i = k
    · subst e; rw [upd_same]; show _ = Value.int .i64 ((upd s.sym i v i : Nat) : Int); rw [upd_same]
    · rw [upd_ne _ _ _ (by omega)]; show _ = Value.int .i64 ((upd s.sym k v i : Nat) : Int); rw [upd_ne _ _ _ e]; exact h.sym i hi, (upd_ne _ _ _ (by omega)).trans h.total, (upd_ne _ _ _ (by omega)).trans h.longest⟩
theorem CSV.set_total {c : Nat → Value} {o : Nat} {s : CS} (h : CSV c o s) (v : Nat) : CSV (upd c (o + 304) (.int .i64 (v : Int))) o { s with total := v } :=
  ⟨fun i hi => (upd_ne _ _ _ (by omega)).trans (h.count i hi), fun i hi => (upd_ne _ _ _ (by omega)).trans (h.sym i hi), upd_same _ _ _, (upd_ne _ _ _ (by omega)).trans h.longest⟩
theorem CSV.set_longest {c : Nat → Value} {o : Nat} {s : CS} (h : CSV c o s) (v : Nat) : CSV (upd c (o + 305) (.int .i64 (v : Int))) o { s with longest := v } :=
  ⟨fun i hi => (upd_ne _ _ _ (by omega)).trans (h.count i hi), fun i hi => (upd_ne _ _ _ (by omega)).trans (h.sym i hi), (upd_ne _ _ _ (by omega)).trans h.total, upd_same _ _ _⟩
structure Tb where
  literals : Nat
  distances : Nat
  shorts : Nat
  short : CS
  sl : Nat → Nat
  ls : Nat → Nat
  told : Nat
  rep : Int
/-- 646 cells from o on. -/
structure TbV (c : Nat → Value) (o : Nat) (s : Tb) : Prop where
  literals : c (o) = .int .i64 (s.literals : Int)
  distances : c (o + 1) = .int .i64 (s.distances : Int)
  shorts : c (o + 2) = .int .i64 (s.shorts : Int)
  short : CSV c (o + 3) s.short
  sl : ∀ i, i < 19 → c (o + 309 + i) = .int .u8 (s.sl i : Int)
  ls : ∀ i, i < 316 → c (o + 328 + i) = .int .u8 (s.ls i : Int)
  told : c (o + 644) = .int .i64 (s.told : Int)
  rep : c (o + 645) = .int .i64 s.rep
theorem TbV.congr {c d : Nat → Value} {o : Nat} {s : Tb} (h : TbV c o s) (e : ∀ i, o ≤ i → i < o + 646 → d i = c i) : TbV d o s :=
  ⟨(e _ (by omega) (by omega)).trans h.literals, (e _ (by omega) (by omega)).trans h.distances, (e _ (by omega) (by omega)).trans h.shorts, h.short.congr (fun i h1 h2 => e i (by omega) (by omega)), fun i hi => (e _ (by omega) (by omega)).trans (h.sl i hi), fun i hi => (e _ (by omega) (by omega)).trans (h.ls i hi), (e _ (by omega) (by omega)).trans h.told, (e _ (by omega) (by omega)).trans h.rep⟩
structure St where
  part : Nat
  number : Nat
  got : Nat
  wanted : Nat
  path : Pt
  skip : Bool
  window : Nat
  last : Bool
  left : Nat
  lit : CS
  dist : CS
  tb : Tb
  length : Nat
  base : Nat
  hist : Nat → Nat
  count : Nat
  sum : Nat
/-- 3351 cells from o on. -/
structure StV (c : Nat → Value) (o : Nat) (s : St) : Prop where
  part : c (o) = .int .i64 (s.part : Int)
  number : c (o + 1) = .int .u32 (s.number : Int)
  got : c (o + 2) = .int .u64 (s.got : Int)
  wanted : c (o + 3) = .int .u64 (s.wanted : Int)
  path : PtV c (o + 4) s.path
  skip : c (o + 7) = .bool s.skip
  window : c (o + 8) = .int .i64 (s.window : Int)
  last : c (o + 9) = .bool s.last
  left : c (o + 10) = .int .i64 (s.left : Int)
  lit : CSV c (o + 11) s.lit
  dist : CSV c (o + 317) s.dist
  tb : TbV c (o + 623) s.tb
  length : c (o + 1269) = .int .i64 (s.length : Int)
  base : c (o + 1270) = .int .i64 (s.base : Int)
  hist : ∀ i, i < 2078 → c (o + 1271 + i) = .int .u8 (s.hist i : Int)
  count : c (o + 3349) = .int .i64 (s.count : Int)
  sum : c (o + 3350) = .int .u32 (s.sum : Int)
theorem StV.congr {c d : Nat → Value} {o : Nat} {s : St} (h : StV c o s) (e : ∀ i, o ≤ i → i < o + 3351 → d i = c i) : StV d o s :=
  ⟨(e _ (by omega) (by omega)).trans h.part, (e _ (by omega) (by omega)).trans h.number, (e _ (by omega) (by omega)).trans h.got, (e _ (by omega) (by omega)).trans h.wanted, h.path.congr (fun i h1 h2 => e i (by omega) (by omega)), (e _ (by omega) (by omega)).trans h.skip, (e _ (by omega) (by omega)).trans h.window, (e _ (by omega) (by omega)).trans h.last, (e _ (by omega) (by omega)).trans h.left, h.lit.congr (fun i h1 h2 => e i (by omega) (by omega)), h.dist.congr (fun i h1 h2 => e i (by omega) (by omega)), h.tb.congr (fun i h1 h2 => e i (by omega) (by omega)), (e _ (by omega) (by omega)).trans h.length, (e _ (by omega) (by omega)).trans h.base, fun i hi => (e _ (by omega) (by omega)).trans (h.hist i hi), (e _ (by omega) (by omega)).trans h.count, (e _ (by omega) (by omega)).trans h.sum⟩
theorem StV.set_part {c : Nat → Value} {o : Nat} {s : St} (h : StV c o s) (v : Nat) : StV (upd c (o) (.int .i64 (v : Int))) o { s with part := v } :=
  ⟨upd_same _ _ _, (upd_ne _ _ _ (by omega)).trans h.number, (upd_ne _ _ _ (by omega)).trans h.got, (upd_ne _ _ _ (by omega)).trans h.wanted, h.path.congr (fun i h1 h2 => upd_ne _ _ _ (by omega)), (upd_ne _ _ _ (by omega)).trans h.skip, (upd_ne _ _ _ (by omega)).trans h.window, (upd_ne _ _ _ (by omega)).trans h.last, (upd_ne _ _ _ (by omega)).trans h.left, h.lit.congr (fun i h1 h2 => upd_ne _ _ _ (by omega)), h.dist.congr (fun i h1 h2 => upd_ne _ _ _ (by omega)), h.tb.congr (fun i h1 h2 => upd_ne _ _ _ (by omega)), (upd_ne _ _ _ (by omega)).trans h.length, (upd_ne _ _ _ (by omega)).trans h.base, fun i hi => (upd_ne _ _ _ (by omega)).trans (h.hist i hi), (upd_ne _ _ _ (by omega)).trans h.count, (upd_ne _ _ _ (by omega)).trans h.sum⟩
theorem StV.set_number {c : Nat → Value} {o : Nat} {s : St} (h : StV c o s) (v : Nat) : StV (upd c (o + 1) (.int .u32 (v : Int))) o { s with number := v } :=
  ⟨(upd_ne _ _ _ (by omega)).trans h.part, upd_same _ _ _, (upd_ne _ _ _ (by omega)).trans h.got, (upd_ne _ _ _ (by omega)).trans h.wanted, h.path.congr (fun i h1 h2 => upd_ne _ _ _ (by omega)), (upd_ne _ _ _ (by omega)).trans h.skip, (upd_ne _ _ _ (by omega)).trans h.window, (upd_ne _ _ _ (by omega)).trans h.last, (upd_ne _ _ _ (by omega)).trans h.left, h.lit.congr (fun i h1 h2 => upd_ne _ _ _ (by omega)), h.dist.congr (fun i h1 h2 => upd_ne _ _ _ (by omega)), h.tb.congr (fun i h1 h2 => upd_ne _ _ _ (by omega)), (upd_ne _ _ _ (by omega)).trans h.length, (upd_ne _ _ _ (by omega)).trans h.base, fun i hi => (upd_ne _ _ _ (by omega)).trans (h.hist i hi), (upd_ne _ _ _ (by omega)).trans h.count, (upd_ne _ _ _ (by omega)).trans h.sum⟩
theorem StV.set_got {c : Nat → Value} {o : Nat} {s : St} (h : StV c o s) (v : Nat) : StV (upd c (o + 2) (.int .u64 (v : Int))) o { s with got := v } :=
  ⟨(upd_ne _ _ _ (by omega)).trans h.part, (upd_ne _ _ _ (by omega)).trans h.number, upd_same _ _ _, (upd_ne _ _ _ (by omega)).trans h.wanted, h.path.congr (fun i h1 h2 => upd_ne _ _ _ (by omega)), (upd_ne _ _ _ (by omega)).trans h.skip, (upd_ne _ _ _ (by omega)).trans h.window, (upd_ne _ _ _ (by omega)).trans h.last, (upd_ne _ _ _ (by omega)).trans h.left, h.lit.congr (fun i h1 h2 => upd_ne _ _ _ (by omega)), h.dist.congr (fun i h1 h2 => upd_ne _ _ _ (by omega)), h.tb.congr (fun i h1 h2 => upd_ne _ _ _ (by omega)), (upd_ne _ _ _ (by omega)).trans h.length, (upd_ne _ _ _ (by omega)).trans h.base, fun i hi => (upd_ne _ _ _ (by omega)).trans (h.hist i hi), (upd_ne _ _ _ (by omega)).trans h.count, (upd_ne _ _ _ (by omega)).trans h.sum⟩
theorem StV.set_wanted {c : Nat → Value} {o : Nat} {s : St} (h : StV c o s) (v : Nat) : StV (upd c (o + 3) (.int .u64 (v : Int))) o { s with wanted := v } :=
  ⟨(upd_ne _ _ _ (by omega)).trans h.part, (upd_ne _ _ _ (by omega)).trans h.number, (upd_ne _ _ _ (by omega)).trans h.got, upd_same _ _ _, h.path.congr (fun i h1 h2 => upd_ne _ _ _ (by omega)), (upd_ne _ _ _ (by omega)).trans h.skip, (upd_ne _ _ _ (by omega)).trans h.window, (upd_ne _ _ _ (by omega)).trans h.last, (upd_ne _ _ _ (by omega)).trans h.left, h.lit.congr (fun i h1 h2 => upd_ne _ _ _ (by omega)), h.dist.congr (fun i h1 h2 => upd_ne _ _ _ (by omega)), h.tb.congr (fun i h1 h2 => upd_ne _ _ _ (by omega)), (upd_ne _ _ _ (by omega)).trans h.length, (upd_ne _ _ _ (by omega)).trans h.base, fun i hi => (upd_ne _ _ _ (by omega)).trans (h.hist i hi), (upd_ne _ _ _ (by omega)).trans h.count, (upd_ne _ _ _ (by omega)).trans h.sum⟩
theorem StV.set_path {c d : Nat → Value} {o : Nat} {s : St} (h : StV c o s) (v : Pt) (hv : PtV d (o + 4) v) (e : ∀ i, ¬ (o + 4 ≤ i ∧ i < o + 7) → d i = c i) : StV d o { s with path := v } :=
  ⟨(e _ (by omega)).trans h.part, (e _ (by omega)).trans h.number, (e _ (by omega)).trans h.got, (e _ (by omega)).trans h.wanted, hv, (e _ (by omega)).trans h.skip, (e _ (by omega)).trans h.window, (e _ (by omega)).trans h.last, (e _ (by omega)).trans h.left, h.lit.congr (fun i h1 h2 => e _ (by omega)), h.dist.congr (fun i h1 h2 => e _ (by omega)), h.tb.congr (fun i h1 h2 => e _ (by omega)), (e _ (by omega)).trans h.length, (e _ (by omega)).trans h.base, fun i hi => (e _ (by omega)).trans (h.hist i hi), (e _ (by omega)).trans h.count, (e _ (by omega)).trans h.sum⟩
theorem StV.set_skip {c : Nat → Value} {o : Nat} {s : St} (h : StV c o s) (v : Bool) : StV (upd c (o + 7) (.bool v)) o { s with skip := v } :=
  ⟨(upd_ne _ _ _ (by omega)).trans h.part, (upd_ne _ _ _ (by omega)).trans h.number, (upd_ne _ _ _ (by omega)).trans h.got, (upd_ne _ _ _ (by omega)).trans h.wanted, h.path.congr (fun i h1 h2 => upd_ne _ _ _ (by omega)), upd_same _ _ _, (upd_ne _ _ _ (by omega)).trans h.window, (upd_ne _ _ _ (by omega)).trans h.last, (upd_ne _ _ _ (by omega)).trans h.left, h.lit.congr (fun i h1 h2 => upd_ne _ _ _ (by omega)), h.dist.congr (fun i h1 h2 => upd_ne _ _ _ (by omega)), h.tb.congr (fun i h1 h2 => upd_ne _ _ _ (by omega)), (upd_ne _ _ _ (by omega)).trans h.length, (upd_ne _ _ _ (by omega)).trans h.base, fun i hi => (upd_ne _ _ _ (by omega)).trans (h.hist i hi), (upd_ne _ _ _ (by omega)).trans h.count, (upd_ne _ _ _ (by omega)).trans h.sum⟩
theorem StV.set_window {c : Nat → Value} {o : Nat} {s : St} (h : StV c o s) (v : Nat) : StV (upd c (o + 8) (.int .i64 (v : Int))) o { s with window := v } :=
  ⟨(upd_ne _ _ _ (by omega)).trans h.part, (upd_ne _ _ _ (by omega)).trans h.number, (upd_ne _ _ _ (by omega)).trans h.got, (upd_ne _ _ _ (by omega)).trans h.wanted, h.path.congr (fun i h1 h2 => upd_ne _ _ _ (by omega)), (upd_ne _ _ _ (by omega)).trans h.skip, upd_same _ _ _, (upd_ne _ _ _ (by omega)).trans h.last, (upd_ne _ _ _ (by omega)).trans h.left, h.lit.congr (fun i h1 h2 => upd_ne _ _ _ (by omega)), h.dist.congr (fun i h1 h2 => upd_ne _ _ _ (by omega)), h.tb.congr (fun i h1 h2 => upd_ne _ _ _ (by omega)), (upd_ne _ _ _ (by omega)).trans h.length, (upd_ne _ _ _ (by omega)).trans h.base, fun i hi => (upd_ne _ _ _ (by omega)).trans (h.hist i hi), (upd_ne _ _ _ (by omega)).trans h.count, (upd_ne _ _ _ (by omega)).trans h.sum⟩
theorem StV.set_last {c : Nat → Value} {o : Nat} {s : St} (h : StV c o s) (v : Bool) : StV (upd c (o + 9) (.bool v)) o { s with last := v } :=
  ⟨(upd_ne _ _ _ (by omega)).trans h.part, (upd_ne _ _ _ (by omega)).trans h.number, (upd_ne _ _ _ (by omega)).trans h.got, (upd_ne _ _ _ (by omega)).trans h.wanted, h.path.congr (fun i h1 h2 => upd_ne _ _ _ (by omega)), (upd_ne _ _ _ (by omega)).trans h.skip, (upd_ne _ _ _ (by omega)).trans h.window, upd_same _ _ _, (upd_ne _ _ _ (by omega)).trans h.left, h.lit.congr (fun i h1 h2 => upd_ne _ _ _ (by omega)), h.dist.congr (fun i h1 h2 => upd_ne _ _ _ (by omega)), h.tb.congr (fun i h1 h2 => upd_ne _ _ _ (by omega)), (upd_ne _ _ _ (by omega)).trans h.length, (upd_ne _ _ _ (by omega)).trans h.base, fun i hi => (upd_ne _ _ _ (by omega)).trans (h.hist i hi), (upd_ne _ _ _ (by omega)).trans h.count, (upd_ne _ _ _ (by omega)).trans h.sum⟩
theorem StV.set_left {c : Nat → Value} {o : Nat} {s : St} (h : StV c o s) (v : Nat) : StV (upd c (o + 10) (.int .i64 (v : Int))) o { s with left := v } :=
  ⟨(upd_ne _ _ _ (by omega)).trans h.part, (upd_ne _ _ _ (by omega)).trans h.number, (upd_ne _ _ _ (by omega)).trans h.got, (upd_ne _ _ _ (by omega)).trans h.wanted, h.path.congr (fun i h1 h2 => upd_ne _ _ _ (by omega)), (upd_ne _ _ _ (by omega)).trans h.skip, (upd_ne _ _ _ (by omega)).trans h.window, (upd_ne _ _ _ (by omega)).trans h.last, upd_same _ _ _, h.lit.congr (fun i h1 h2 => upd_ne _ _ _ (by omega)), h.dist.congr (fun i h1 h2 => upd_ne _ _ _ (by omega)), h.tb.congr (fun i h1 h2 => upd_ne _ _ _ (by omega)), (upd_ne _ _ _ (by omega)).trans h.length, (upd_ne _ _ _ (by omega)).trans h.base, fun i hi => (upd_ne _ _ _ (by omega)).trans (h.hist i hi), (upd_ne _ _ _ (by omega)).trans h.count, (upd_ne _ _ _ (by omega)).trans h.sum⟩
theorem StV.set_lit {c d : Nat → Value} {o : Nat} {s : St} (h : StV c o s) (v : CS) (hv : CSV d (o + 11) v) (e : ∀ i, ¬ (o + 11 ≤ i ∧ i < o + 317) → d i = c i) : StV d o { s with lit := v } :=
  ⟨(e _ (by omega)).trans h.part, (e _ (by omega)).trans h.number, (e _ (by omega)).trans h.got, (e _ (by omega)).trans h.wanted, h.path.congr (fun i h1 h2 => e _ (by omega)), (e _ (by omega)).trans h.skip, (e _ (by omega)).trans h.window, (e _ (by omega)).trans h.last, (e _ (by omega)).trans h.left, hv, h.dist.congr (fun i h1 h2 => e _ (by omega)), h.tb.congr (fun i h1 h2 => e _ (by omega)), (e _ (by omega)).trans h.length, (e _ (by omega)).trans h.base, fun i hi => (e _ (by omega)).trans (h.hist i hi), (e _ (by omega)).trans h.count, (e _ (by omega)).trans h.sum⟩
theorem StV.set_dist {c d : Nat → Value} {o : Nat} {s : St} (h : StV c o s) (v : CS) (hv : CSV d (o + 317) v) (e : ∀ i, ¬ (o + 317 ≤ i ∧ i < o + 623) → d i = c i) : StV d o { s with dist := v } :=
  ⟨(e _ (by omega)).trans h.part, (e _ (by omega)).trans h.number, (e _ (by omega)).trans h.got, (e _ (by omega)).trans h.wanted, h.path.congr (fun i h1 h2 => e _ (by omega)), (e _ (by omega)).trans h.skip, (e _ (by omega)).trans h.window, (e _ (by omega)).trans h.last, (e _ (by omega)).trans h.left, h.lit.congr (fun i h1 h2 => e _ (by omega)), hv, h.tb.congr (fun i h1 h2 => e _ (by omega)), (e _ (by omega)).trans h.length, (e _ (by omega)).trans h.base, fun i hi => (e _ (by omega)).trans (h.hist i hi), (e _ (by omega)).trans h.count, (e _ (by omega)).trans h.sum⟩
theorem StV.set_hist {c : Nat → Value} {o : Nat} {s : St} (h : StV c o s) (k : Nat) (v : Nat) (hk : k < 2078) : StV (upd c (o + 1271 + k) (.int .u8 (v : Int))) o { s with hist := upd s.hist k v } :=
  ⟨(upd_ne _ _ _ (by omega)).trans h.part, (upd_ne _ _ _ (by omega)).trans h.number, (upd_ne _ _ _ (by omega)).trans h.got, (upd_ne _ _ _ (by omega)).trans h.wanted, h.path.congr (fun i h1 h2 => upd_ne _ _ _ (by omega)), (upd_ne _ _ _ (by omega)).trans h.skip, (upd_ne _ _ _ (by omega)).trans h.window, (upd_ne _ _ _ (by omega)).trans h.last, (upd_ne _ _ _ (by omega)).trans h.left, h.lit.congr (fun i h1 h2 => upd_ne _ _ _ (by omega)), h.dist.congr (fun i h1 h2 => upd_ne _ _ _ (by omega)), h.tb.congr (fun i h1 h2 => upd_ne _ _ _ (by omega)), (upd_ne _ _ _ (by omega)).trans h.length, (upd_ne _ _ _ (by omega)).trans h.base, fun i hi => by
    by_cases e : i = k
    · subst e; rw [upd_same]; show _ = Value.int .u8 ((upd s.hist i v i : Nat) : Int); rw [upd_same]
    · rw [upd_ne _ _ _ (by omega)]; show _ = Value.int .u8 ((upd s.hist k v i : Nat) : Int); rw [upd_ne _ _ _ e]; exact h.hist i hi, (upd_ne _ _ _ (by omega)).trans h.count, (upd_ne _ _ _ (by omega)).trans h.sum⟩
theorem StV.set_count {c : Nat → Value} {o : Nat} {s : St} (h : StV c o s) (v : Nat) : StV (upd c (o + 3349) (.int .i64 (v : Int))) o { s with count := v } :=
  ⟨(upd_ne _ _ _ (by omega)).trans h.part, (upd_ne _ _ _ (by omega)).trans h.number, (upd_ne _ _ _ (by omega)).trans h.got, (upd_ne _ _ _ (by omega)).trans h.wanted, h.path.congr (fun i h1 h2 => upd_ne _ _ _ (by omega)), (upd_ne _ _ _ (by omega)).trans h.skip, (upd_ne _ _ _ (by omega)).trans h.window, (upd_ne _ _ _ (by omega)).trans h.last, (upd_ne _ _ _ (by omega)).trans h.left, h.lit.congr (fun i h1 h2 => upd_ne _ _ _ (by omega)), h.dist.congr (fun i h1 h2 => upd_ne _ _ _ (by omega)), h.tb.congr (fun i h1 h2 => upd_ne _ _ _ (by omega)), (upd_ne _ _ _ (by omega)).trans h.length, (upd_ne _ _ _ (by omega)).trans h.base, fun i hi => (upd_ne _ _ _ (by omega)).trans (h.hist i hi), upd_same _ _ _, (upd_ne _ _ _ (by omega)).trans h.sum⟩
theorem StV.set_sum {c : Nat → Value} {o : Nat} {s : St} (h : StV c o s) (v : Nat) : StV (upd c (o + 3350) (.int .u32 (v : Int))) o { s with sum := v } :=
  ⟨(upd_ne _ _ _ (by omega)).trans h.part, (upd_ne _ _ _ (by omega)).trans h.number, (upd_ne _ _ _ (by omega)).trans h.got, (upd_ne _ _ _ (by omega)).trans h.wanted, h.path.congr (fun i h1 h2 => upd_ne _ _ _ (by omega)), (upd_ne _ _ _ (by omega)).trans h.skip, (upd_ne _ _ _ (by omega)).trans h.window, (upd_ne _ _ _ (by omega)).trans h.last, (upd_ne _ _ _ (by omega)).trans h.left, h.lit.congr (fun i h1 h2 => upd_ne _ _ _ (by omega)), h.dist.congr (fun i h1 h2 => upd_ne _ _ _ (by omega)), h.tb.congr (fun i h1 h2 => upd_ne _ _ _ (by omega)), (upd_ne _ _ _ (by omega)).trans h.length, (upd_ne _ _ _ (by omega)).trans h.base, fun i hi => (upd_ne _ _ _ (by omega)).trans (h.hist i hi), (upd_ne _ _ _ (by omega)).trans h.count, upd_same _ _ _⟩
structure Hd where
  W : Nat
  H : Nat
  D : Nat
  K : Nat
  L : Nat
/-- 5 cells from o on. -/
structure HdV (c : Nat → Value) (o : Nat) (s : Hd) : Prop where
  W : c (o) = .int .i64 (s.W : Int)
  H : c (o + 1) = .int .i64 (s.H : Int)
  D : c (o + 2) = .int .i64 (s.D : Int)
  K : c (o + 3) = .int .i64 (s.K : Int)
  L : c (o + 4) = .int .i64 (s.L : Int)
theorem HdV.congr {c d : Nat → Value} {o : Nat} {s : Hd} (h : HdV c o s) (e : ∀ i, o ≤ i → i < o + 5 → d i = c i) : HdV d o s :=
  ⟨(e _ (by omega) (by omega)).trans h.W, (e _ (by omega) (by omega)).trans h.H, (e _ (by omega) (by omega)).trans h.D, (e _ (by omega) (by omega)).trans h.K, (e _ (by omega) (by omega)).trans h.L⟩
theorem HdV.set_W {c : Nat → Value} {o : Nat} {s : Hd} (h : HdV c o s) (v : Nat) : HdV (upd c (o) (.int .i64 (v : Int))) o { s with W := v } :=
  ⟨upd_same _ _ _, (upd_ne _ _ _ (by omega)).trans h.H, (upd_ne _ _ _ (by omega)).trans h.D, (upd_ne _ _ _ (by omega)).trans h.K, (upd_ne _ _ _ (by omega)).trans h.L⟩
theorem HdV.set_H {c : Nat → Value} {o : Nat} {s : Hd} (h : HdV c o s) (v : Nat) : HdV (upd c (o + 1) (.int .i64 (v : Int))) o { s with H := v } :=
  ⟨(upd_ne _ _ _ (by omega)).trans h.W, upd_same _ _ _, (upd_ne _ _ _ (by omega)).trans h.D, (upd_ne _ _ _ (by omega)).trans h.K, (upd_ne _ _ _ (by omega)).trans h.L⟩
theorem HdV.set_D {c : Nat → Value} {o : Nat} {s : Hd} (h : HdV c o s) (v : Nat) : HdV (upd c (o + 2) (.int .i64 (v : Int))) o { s with D := v } :=
  ⟨(upd_ne _ _ _ (by omega)).trans h.W, (upd_ne _ _ _ (by omega)).trans h.H, upd_same _ _ _, (upd_ne _ _ _ (by omega)).trans h.K, (upd_ne _ _ _ (by omega)).trans h.L⟩
theorem HdV.set_K {c : Nat → Value} {o : Nat} {s : Hd} (h : HdV c o s) (v : Nat) : HdV (upd c (o + 3) (.int .i64 (v : Int))) o { s with K := v } :=
  ⟨(upd_ne _ _ _ (by omega)).trans h.W, (upd_ne _ _ _ (by omega)).trans h.H, (upd_ne _ _ _ (by omega)).trans h.D, upd_same _ _ _, (upd_ne _ _ _ (by omega)).trans h.L⟩
theorem HdV.set_L {c : Nat → Value} {o : Nat} {s : Hd} (h : HdV c o s) (v : Nat) : HdV (upd c (o + 4) (.int .i64 (v : Int))) o { s with L := v } :=
  ⟨(upd_ne _ _ _ (by omega)).trans h.W, (upd_ne _ _ _ (by omega)).trans h.H, (upd_ne _ _ _ (by omega)).trans h.D, (upd_ne _ _ _ (by omega)).trans h.K, upd_same _ _ _⟩
structure Rw where
  hd : Hd
  colours : Nat
  pass : Int
  line : Nat
  columns : Nat
  lines : Nat
  size : Nat
  taken : Nat
  filter : Nat
  row : Nat → Nat
  above : Nat → Nat
  known : Nat → Bool
  smp : Nat → Nat
/-- 1549 cells from o on. -/
structure RwV (c : Nat → Value) (o : Nat) (s : Rw) : Prop where
  hd : HdV c (o) s.hd
  colours : c (o + 5) = .int .i64 (s.colours : Int)
  pass : c (o + 6) = .int .i64 s.pass
  line : c (o + 7) = .int .i64 (s.line : Int)
  columns : c (o + 8) = .int .i64 (s.columns : Int)
  lines : c (o + 9) = .int .i64 (s.lines : Int)
  size : c (o + 10) = .int .i64 (s.size : Int)
  taken : c (o + 11) = .int .i64 (s.taken : Int)
  filter : c (o + 12) = .int .u8 (s.filter : Int)
  row : ∀ i, i < 128 → c (o + 13 + i) = .int .u8 (s.row i : Int)
  above : ∀ i, i < 128 → c (o + 141 + i) = .int .u8 (s.above i : Int)
  known : ∀ i, i < 256 → c (o + 269 + i) = .bool (s.known i)
  smp : ∀ i, i < 1024 → c (o + 525 + i) = .int .u16 (s.smp i : Int)
theorem RwV.congr {c d : Nat → Value} {o : Nat} {s : Rw} (h : RwV c o s) (e : ∀ i, o ≤ i → i < o + 1549 → d i = c i) : RwV d o s :=
  ⟨h.hd.congr (fun i h1 h2 => e i (by omega) (by omega)), (e _ (by omega) (by omega)).trans h.colours, (e _ (by omega) (by omega)).trans h.pass, (e _ (by omega) (by omega)).trans h.line, (e _ (by omega) (by omega)).trans h.columns, (e _ (by omega) (by omega)).trans h.lines, (e _ (by omega) (by omega)).trans h.size, (e _ (by omega) (by omega)).trans h.taken, (e _ (by omega) (by omega)).trans h.filter, fun i hi => (e _ (by omega) (by omega)).trans (h.row i hi), fun i hi => (e _ (by omega) (by omega)).trans (h.above i hi), fun i hi => (e _ (by omega) (by omega)).trans (h.known i hi), fun i hi => (e _ (by omega) (by omega)).trans (h.smp i hi)⟩
theorem RwV.set_pass {c : Nat → Value} {o : Nat} {s : Rw} (h : RwV c o s) (v : Int) : RwV (upd c (o + 6) (.int .i64 v)) o { s with pass := v } :=
  ⟨h.hd.congr (fun i h1 h2 => upd_ne _ _ _ (by omega)), (upd_ne _ _ _ (by omega)).trans h.colours, upd_same _ _ _, (upd_ne _ _ _ (by omega)).trans h.line, (upd_ne _ _ _ (by omega)).trans h.columns, (upd_ne _ _ _ (by omega)).trans h.lines, (upd_ne _ _ _ (by omega)).trans h.size, (upd_ne _ _ _ (by omega)).trans h.taken, (upd_ne _ _ _ (by omega)).trans h.filter, fun i hi => (upd_ne _ _ _ (by omega)).trans (h.row i hi), fun i hi => (upd_ne _ _ _ (by omega)).trans (h.above i hi), fun i hi => (upd_ne _ _ _ (by omega)).trans (h.known i hi), fun i hi => (upd_ne _ _ _ (by omega)).trans (h.smp i hi)⟩
theorem RwV.set_line {c : Nat → Value} {o : Nat} {s : Rw} (h : RwV c o s) (v : Nat) : RwV (upd c (o + 7) (.int .i64 (v : Int))) o { s with line := v } :=
  ⟨h.hd.congr (fun i h1 h2 => upd_ne _ _ _ (by omega)), (upd_ne _ _ _ (by omega)).trans h.colours, (upd_ne _ _ _ (by omega)).trans h.pass, upd_same _ _ _, (upd_ne _ _ _ (by omega)).trans h.columns, (upd_ne _ _ _ (by omega)).trans h.lines, (upd_ne _ _ _ (by omega)).trans h.size, (upd_ne _ _ _ (by omega)).trans h.taken, (upd_ne _ _ _ (by omega)).trans h.filter, fun i hi => (upd_ne _ _ _ (by omega)).trans (h.row i hi), fun i hi => (upd_ne _ _ _ (by omega)).trans (h.above i hi), fun i hi => (upd_ne _ _ _ (by omega)).trans (h.known i hi), fun i hi => (upd_ne _ _ _ (by omega)).trans (h.smp i hi)⟩
theorem RwV.set_columns {c : Nat → Value} {o : Nat} {s : Rw} (h : RwV c o s) (v : Nat) : RwV (upd c (o + 8) (.int .i64 (v : Int))) o { s with columns := v } :=
  ⟨h.hd.congr (fun i h1 h2 => upd_ne _ _ _ (by omega)), (upd_ne _ _ _ (by omega)).trans h.colours, (upd_ne _ _ _ (by omega)).trans h.pass, (upd_ne _ _ _ (by omega)).trans h.line, upd_same _ _ _, (upd_ne _ _ _ (by omega)).trans h.lines, (upd_ne _ _ _ (by omega)).trans h.size, (upd_ne _ _ _ (by omega)).trans h.taken, (upd_ne _ _ _ (by omega)).trans h.filter, fun i hi => (upd_ne _ _ _ (by omega)).trans (h.row i hi), fun i hi => (upd_ne _ _ _ (by omega)).trans (h.above i hi), fun i hi => (upd_ne _ _ _ (by omega)).trans (h.known i hi), fun i hi => (upd_ne _ _ _ (by omega)).trans (h.smp i hi)⟩
theorem RwV.set_lines {c : Nat → Value} {o : Nat} {s : Rw} (h : RwV c o s) (v : Nat) : RwV (upd c (o + 9) (.int .i64 (v : Int))) o { s with lines := v } :=
  ⟨h.hd.congr (fun i h1 h2 => upd_ne _ _ _ (by omega)), (upd_ne _ _ _ (by omega)).trans h.colours, (upd_ne _ _ _ (by omega)).trans h.pass, (upd_ne _ _ _ (by omega)).trans h.line, (upd_ne _ _ _ (by omega)).trans h.columns, upd_same _ _ _, (upd_ne _ _ _ (by omega)).trans h.size, (upd_ne _ _ _ (by omega)).trans h.taken, (upd_ne _ _ _ (by omega)).trans h.filter, fun i hi => (upd_ne _ _ _ (by omega)).trans (h.row i hi), fun i hi => (upd_ne _ _ _ (by omega)).trans (h.above i hi), fun i hi => (upd_ne _ _ _ (by omega)).trans (h.known i hi), fun i hi => (upd_ne _ _ _ (by omega)).trans (h.smp i hi)⟩
theorem RwV.set_size {c : Nat → Value} {o : Nat} {s : Rw} (h : RwV c o s) (v : Nat) : RwV (upd c (o + 10) (.int .i64 (v : Int))) o { s with size := v } :=
  ⟨h.hd.congr (fun i h1 h2 => upd_ne _ _ _ (by omega)), (upd_ne _ _ _ (by omega)).trans h.colours, (upd_ne _ _ _ (by omega)).trans h.pass, (upd_ne _ _ _ (by omega)).trans h.line, (upd_ne _ _ _ (by omega)).trans h.columns, (upd_ne _ _ _ (by omega)).trans h.lines, upd_same _ _ _, (upd_ne _ _ _ (by omega)).trans h.taken, (upd_ne _ _ _ (by omega)).trans h.filter, fun i hi => (upd_ne _ _ _ (by omega)).trans (h.row i hi), fun i hi => (upd_ne _ _ _ (by omega)).trans (h.above i hi), fun i hi => (upd_ne _ _ _ (by omega)).trans (h.known i hi), fun i hi => (upd_ne _ _ _ (by omega)).trans (h.smp i hi)⟩
theorem RwV.set_taken {c : Nat → Value} {o : Nat} {s : Rw} (h : RwV c o s) (v : Nat) : RwV (upd c (o + 11) (.int .i64 (v : Int))) o { s with taken := v } :=
  ⟨h.hd.congr (fun i h1 h2 => upd_ne _ _ _ (by omega)), (upd_ne _ _ _ (by omega)).trans h.colours, (upd_ne _ _ _ (by omega)).trans h.pass, (upd_ne _ _ _ (by omega)).trans h.line, (upd_ne _ _ _ (by omega)).trans h.columns, (upd_ne _ _ _ (by omega)).trans h.lines, (upd_ne _ _ _ (by omega)).trans h.size, upd_same _ _ _, (upd_ne _ _ _ (by omega)).trans h.filter, fun i hi => (upd_ne _ _ _ (by omega)).trans (h.row i hi), fun i hi => (upd_ne _ _ _ (by omega)).trans (h.above i hi), fun i hi => (upd_ne _ _ _ (by omega)).trans (h.known i hi), fun i hi => (upd_ne _ _ _ (by omega)).trans (h.smp i hi)⟩
theorem RwV.set_filter {c : Nat → Value} {o : Nat} {s : Rw} (h : RwV c o s) (v : Nat) : RwV (upd c (o + 12) (.int .u8 (v : Int))) o { s with filter := v } :=
  ⟨h.hd.congr (fun i h1 h2 => upd_ne _ _ _ (by omega)), (upd_ne _ _ _ (by omega)).trans h.colours, (upd_ne _ _ _ (by omega)).trans h.pass, (upd_ne _ _ _ (by omega)).trans h.line, (upd_ne _ _ _ (by omega)).trans h.columns, (upd_ne _ _ _ (by omega)).trans h.lines, (upd_ne _ _ _ (by omega)).trans h.size, (upd_ne _ _ _ (by omega)).trans h.taken, upd_same _ _ _, fun i hi => (upd_ne _ _ _ (by omega)).trans (h.row i hi), fun i hi => (upd_ne _ _ _ (by omega)).trans (h.above i hi), fun i hi => (upd_ne _ _ _ (by omega)).trans (h.known i hi), fun i hi => (upd_ne _ _ _ (by omega)).trans (h.smp i hi)⟩
theorem RwV.set_row {c : Nat → Value} {o : Nat} {s : Rw} (h : RwV c o s) (k : Nat) (v : Nat) (hk : k < 128) : RwV (upd c (o + 13 + k) (.int .u8 (v : Int))) o { s with row := upd s.row k v } :=
  ⟨h.hd.congr (fun i h1 h2 => upd_ne _ _ _ (by omega)), (upd_ne _ _ _ (by omega)).trans h.colours, (upd_ne _ _ _ (by omega)).trans h.pass, (upd_ne _ _ _ (by omega)).trans h.line, (upd_ne _ _ _ (by omega)).trans h.columns, (upd_ne _ _ _ (by omega)).trans h.lines, (upd_ne _ _ _ (by omega)).trans h.size, (upd_ne _ _ _ (by omega)).trans h.taken, (upd_ne _ _ _ (by omega)).trans h.filter, fun i hi => by
    by_cases e : i = k
    · subst e; rw [upd_same]; show _ = Value.int .u8 ((upd s.row i v i : Nat) : Int); rw [upd_same]
    · rw [upd_ne _ _ _ (by omega)]; show _ = Value.int .u8 ((upd s.row k v i : Nat) : Int); rw [upd_ne _ _ _ e]; exact h.row i hi, fun i hi => (upd_ne _ _ _ (by omega)).trans (h.above i hi), fun i hi => (upd_ne _ _ _ (by omega)).trans (h.known i hi), fun i hi => (upd_ne _ _ _ (by omega)).trans (h.smp i hi)⟩
theorem RwV.all_above {c d : Nat → Value} {o : Nat} {s : Rw} (h : RwV c o s) (f : Nat → Nat) (hf : ∀ i, i < 128 → d (o + 141 + i) = .int .u8 (f i : Int)) (e : ∀ i, ¬ (o + 141 ≤ i ∧ i < o + 269) → d i = c i) : RwV d o { s with above := f } :=
  ⟨h.hd.congr (fun i h1 h2 => e _ (by omega)), (e _ (by omega)).trans h.colours, (e _ (by omega)).trans h.pass, (e _ (by omega)).trans h.line, (e _ (by omega)).trans h.columns, (e _ (by omega)).trans h.lines, (e _ (by omega)).trans h.size, (e _ (by omega)).trans h.taken, (e _ (by omega)).trans h.filter, fun i hi => (e _ (by omega)).trans (h.row i hi), hf, fun i hi => (e _ (by omega)).trans (h.known i hi), fun i hi => (e _ (by omega)).trans (h.smp i hi)⟩
theorem RwV.set_known {c : Nat → Value} {o : Nat} {s : Rw} (h : RwV c o s) (k : Nat) (v : Bool) (hk : k < 256) : RwV (upd c (o + 269 + k) (.bool v)) o { s with known := upd s.known k v } :=
  ⟨h.hd.congr (fun i h1 h2 => upd_ne _ _ _ (by omega)), (upd_ne _ _ _ (by omega)).trans h.colours, (upd_ne _ _ _ (by omega)).trans h.pass, (upd_ne _ _ _ (by omega)).trans h.line, (upd_ne _ _ _ (by omega)).trans h.columns, (upd_ne _ _ _ (by omega)).trans h.lines, (upd_ne _ _ _ (by omega)).trans h.size, (upd_ne _ _ _ (by omega)).trans h.taken, (upd_ne _ _ _ (by omega)).trans h.filter, fun i hi => (upd_ne _ _ _ (by omega)).trans (h.row i hi), fun i hi => (upd_ne _ _ _ (by omega)).trans (h.above i hi), fun i hi => by
    by_cases e : i = k
    · subst e; rw [upd_same]; show _ = Value.bool (upd s.known i v i); rw [upd_same]
    · rw [upd_ne _ _ _ (by omega)]; show _ = Value.bool (upd s.known k v i); rw [upd_ne _ _ _ e]; exact h.known i hi, fun i hi => (upd_ne _ _ _ (by omega)).trans (h.smp i hi)⟩
theorem RwV.set_smp {c : Nat → Value} {o : Nat} {s : Rw} (h : RwV c o s) (k : Nat) (v : Nat) (hk : k < 1024) : RwV (upd c (o + 525 + k) (.int .u16 (v : Int))) o { s with smp := upd s.smp k v } :=
  ⟨h.hd.congr (fun i h1 h2 => upd_ne _ _ _ (by omega)), (upd_ne _ _ _ (by omega)).trans h.colours, (upd_ne _ _ _ (by omega)).trans h.pass, (upd_ne _ _ _ (by omega)).trans h.line, (upd_ne _ _ _ (by omega)).trans h.columns, (upd_ne _ _ _ (by omega)).trans h.lines, (upd_ne _ _ _ (by omega)).trans h.size, (upd_ne _ _ _ (by omega)).trans h.taken, (upd_ne _ _ _ (by omega)).trans h.filter, fun i hi => (upd_ne _ _ _ (by omega)).trans (h.row i hi), fun i hi => (upd_ne _ _ _ (by omega)).trans (h.above i hi), fun i hi => (upd_ne _ _ _ (by omega)).trans (h.known i hi), fun i hi => by
    by_cases e : i = k
    · subst e; rw [upd_same]; show _ = Value.int .u16 ((upd s.smp i v i : Nat) : Int); rw [upd_same]
    · rw [upd_ne _ _ _ (by omega)]; show _ = Value.int .u16 ((upd s.smp k v i : Nat) : Int); rw [upd_ne _ _ _ e]; exact h.smp i hi⟩
structure Tl where
  pal : Nat → Nat
  clear : Nat → Nat
  colours : Nat
  clears : Nat
/-- 1026 cells from o on. -/
structure TlV (c : Nat → Value) (o : Nat) (s : Tl) : Prop where
  pal : ∀ i, i < 768 → c (o + i) = .int .u8 (s.pal i : Int)
  clear : ∀ i, i < 256 → c (o + 768 + i) = .int .u8 (s.clear i : Int)
  colours : c (o + 1024) = .int .i64 (s.colours : Int)
  clears : c (o + 1025) = .int .i64 (s.clears : Int)
theorem TlV.congr {c d : Nat → Value} {o : Nat} {s : Tl} (h : TlV c o s) (e : ∀ i, o ≤ i → i < o + 1026 → d i = c i) : TlV d o s :=
  ⟨fun i hi => (e _ (by omega) (by omega)).trans (h.pal i hi), fun i hi => (e _ (by omega) (by omega)).trans (h.clear i hi), (e _ (by omega) (by omega)).trans h.colours, (e _ (by omega) (by omega)).trans h.clears⟩
theorem TlV.set_pal {c : Nat → Value} {o : Nat} {s : Tl} (h : TlV c o s) (k : Nat) (v : Nat) (hk : k < 768) : TlV (upd c (o + k) (.int .u8 (v : Int))) o { s with pal := upd s.pal k v } :=
  ⟨fun i hi => by
    by_cases e : i = k
    · subst e; rw [upd_same]; show _ = Value.int .u8 ((upd s.pal i v i : Nat) : Int); rw [upd_same]
    · rw [upd_ne _ _ _ (by omega)]; show _ = Value.int .u8 ((upd s.pal k v i : Nat) : Int); rw [upd_ne _ _ _ e]; exact h.pal i hi, fun i hi => (upd_ne _ _ _ (by omega)).trans (h.clear i hi), (upd_ne _ _ _ (by omega)).trans h.colours, (upd_ne _ _ _ (by omega)).trans h.clears⟩
theorem TlV.set_clear {c : Nat → Value} {o : Nat} {s : Tl} (h : TlV c o s) (k : Nat) (v : Nat) (hk : k < 256) : TlV (upd c (o + 768 + k) (.int .u8 (v : Int))) o { s with clear := upd s.clear k v } :=
  ⟨fun i hi => (upd_ne _ _ _ (by omega)).trans (h.pal i hi), fun i hi => by
    by_cases e : i = k
    · subst e; rw [upd_same]; show _ = Value.int .u8 ((upd s.clear i v i : Nat) : Int); rw [upd_same]
    · rw [upd_ne _ _ _ (by omega)]; show _ = Value.int .u8 ((upd s.clear k v i : Nat) : Int); rw [upd_ne _ _ _ e]; exact h.clear i hi, (upd_ne _ _ _ (by omega)).trans h.colours, (upd_ne _ _ _ (by omega)).trans h.clears⟩
theorem TlV.set_colours {c : Nat → Value} {o : Nat} {s : Tl} (h : TlV c o s) (v : Nat) : TlV (upd c (o + 1024) (.int .i64 (v : Int))) o { s with colours := v } :=
  ⟨fun i hi => (upd_ne _ _ _ (by omega)).trans (h.pal i hi), fun i hi => (upd_ne _ _ _ (by omega)).trans (h.clear i hi), upd_same _ _ _, (upd_ne _ _ _ (by omega)).trans h.clears⟩
theorem TlV.set_clears {c : Nat → Value} {o : Nat} {s : Tl} (h : TlV c o s) (v : Nat) : TlV (upd c (o + 1025) (.int .i64 (v : Int))) o { s with clears := v } :=
  ⟨fun i hi => (upd_ne _ _ _ (by omega)).trans (h.pal i hi), fun i hi => (upd_ne _ _ _ (by omega)).trans (h.clear i hi), (upd_ne _ _ _ (by omega)).trans h.colours, upd_same _ _ _⟩
structure Rd where
  part : Nat
  taken : Nat
  number : Nat
  length : Nat
  ctype : Nat
  sum : Nat
  hd : Hd
  raw : Nat → Nat
  tl : Tl
  st : St
  rw : Rw
  sp : Bool
  sc : Bool
  sd : Bool
  dov : Bool
/-- 5954 cells from o on. -/
structure RdV (c : Nat → Value) (o : Nat) (s : Rd) : Prop where
  part : c (o) = .int .i64 (s.part : Int)
  taken : c (o + 1) = .int .u32 (s.taken : Int)
  number : c (o + 2) = .int .u32 (s.number : Int)
  length : c (o + 3) = .int .u32 (s.length : Int)
  ctype : c (o + 4) = .int .u32 (s.ctype : Int)
  sum : c (o + 5) = .int .u32 (s.sum : Int)
  hd : HdV c (o + 6) s.hd
  raw : ∀ i, i < 13 → c (o + 11 + i) = .int .u8 (s.raw i : Int)
  tl : TlV c (o + 24) s.tl
  st : StV c (o + 1050) s.st
  rw : RwV c (o + 4401) s.rw
  sp : c (o + 5950) = .bool s.sp
  sc : c (o + 5951) = .bool s.sc
  sd : c (o + 5952) = .bool s.sd
  dov : c (o + 5953) = .bool s.dov
theorem RdV.congr {c d : Nat → Value} {o : Nat} {s : Rd} (h : RdV c o s) (e : ∀ i, o ≤ i → i < o + 5954 → d i = c i) : RdV d o s :=
  ⟨(e _ (by omega) (by omega)).trans h.part, (e _ (by omega) (by omega)).trans h.taken, (e _ (by omega) (by omega)).trans h.number, (e _ (by omega) (by omega)).trans h.length, (e _ (by omega) (by omega)).trans h.ctype, (e _ (by omega) (by omega)).trans h.sum, h.hd.congr (fun i h1 h2 => e i (by omega) (by omega)), fun i hi => (e _ (by omega) (by omega)).trans (h.raw i hi), h.tl.congr (fun i h1 h2 => e i (by omega) (by omega)), h.st.congr (fun i h1 h2 => e i (by omega) (by omega)), h.rw.congr (fun i h1 h2 => e i (by omega) (by omega)), (e _ (by omega) (by omega)).trans h.sp, (e _ (by omega) (by omega)).trans h.sc, (e _ (by omega) (by omega)).trans h.sd, (e _ (by omega) (by omega)).trans h.dov⟩
theorem RdV.set_part {c : Nat → Value} {o : Nat} {s : Rd} (h : RdV c o s) (v : Nat) : RdV (upd c (o) (.int .i64 (v : Int))) o { s with part := v } :=
  ⟨upd_same _ _ _, (upd_ne _ _ _ (by omega)).trans h.taken, (upd_ne _ _ _ (by omega)).trans h.number, (upd_ne _ _ _ (by omega)).trans h.length, (upd_ne _ _ _ (by omega)).trans h.ctype, (upd_ne _ _ _ (by omega)).trans h.sum, h.hd.congr (fun i h1 h2 => upd_ne _ _ _ (by omega)), fun i hi => (upd_ne _ _ _ (by omega)).trans (h.raw i hi), h.tl.congr (fun i h1 h2 => upd_ne _ _ _ (by omega)), h.st.congr (fun i h1 h2 => upd_ne _ _ _ (by omega)), h.rw.congr (fun i h1 h2 => upd_ne _ _ _ (by omega)), (upd_ne _ _ _ (by omega)).trans h.sp, (upd_ne _ _ _ (by omega)).trans h.sc, (upd_ne _ _ _ (by omega)).trans h.sd, (upd_ne _ _ _ (by omega)).trans h.dov⟩
theorem RdV.set_taken {c : Nat → Value} {o : Nat} {s : Rd} (h : RdV c o s) (v : Nat) : RdV (upd c (o + 1) (.int .u32 (v : Int))) o { s with taken := v } :=
  ⟨(upd_ne _ _ _ (by omega)).trans h.part, upd_same _ _ _, (upd_ne _ _ _ (by omega)).trans h.number, (upd_ne _ _ _ (by omega)).trans h.length, (upd_ne _ _ _ (by omega)).trans h.ctype, (upd_ne _ _ _ (by omega)).trans h.sum, h.hd.congr (fun i h1 h2 => upd_ne _ _ _ (by omega)), fun i hi => (upd_ne _ _ _ (by omega)).trans (h.raw i hi), h.tl.congr (fun i h1 h2 => upd_ne _ _ _ (by omega)), h.st.congr (fun i h1 h2 => upd_ne _ _ _ (by omega)), h.rw.congr (fun i h1 h2 => upd_ne _ _ _ (by omega)), (upd_ne _ _ _ (by omega)).trans h.sp, (upd_ne _ _ _ (by omega)).trans h.sc, (upd_ne _ _ _ (by omega)).trans h.sd, (upd_ne _ _ _ (by omega)).trans h.dov⟩
theorem RdV.set_number {c : Nat → Value} {o : Nat} {s : Rd} (h : RdV c o s) (v : Nat) : RdV (upd c (o + 2) (.int .u32 (v : Int))) o { s with number := v } :=
  ⟨(upd_ne _ _ _ (by omega)).trans h.part, (upd_ne _ _ _ (by omega)).trans h.taken, upd_same _ _ _, (upd_ne _ _ _ (by omega)).trans h.length, (upd_ne _ _ _ (by omega)).trans h.ctype, (upd_ne _ _ _ (by omega)).trans h.sum, h.hd.congr (fun i h1 h2 => upd_ne _ _ _ (by omega)), fun i hi => (upd_ne _ _ _ (by omega)).trans (h.raw i hi), h.tl.congr (fun i h1 h2 => upd_ne _ _ _ (by omega)), h.st.congr (fun i h1 h2 => upd_ne _ _ _ (by omega)), h.rw.congr (fun i h1 h2 => upd_ne _ _ _ (by omega)), (upd_ne _ _ _ (by omega)).trans h.sp, (upd_ne _ _ _ (by omega)).trans h.sc, (upd_ne _ _ _ (by omega)).trans h.sd, (upd_ne _ _ _ (by omega)).trans h.dov⟩
theorem RdV.set_length {c : Nat → Value} {o : Nat} {s : Rd} (h : RdV c o s) (v : Nat) : RdV (upd c (o + 3) (.int .u32 (v : Int))) o { s with length := v } :=
  ⟨(upd_ne _ _ _ (by omega)).trans h.part, (upd_ne _ _ _ (by omega)).trans h.taken, (upd_ne _ _ _ (by omega)).trans h.number, upd_same _ _ _, (upd_ne _ _ _ (by omega)).trans h.ctype, (upd_ne _ _ _ (by omega)).trans h.sum, h.hd.congr (fun i h1 h2 => upd_ne _ _ _ (by omega)), fun i hi => (upd_ne _ _ _ (by omega)).trans (h.raw i hi), h.tl.congr (fun i h1 h2 => upd_ne _ _ _ (by omega)), h.st.congr (fun i h1 h2 => upd_ne _ _ _ (by omega)), h.rw.congr (fun i h1 h2 => upd_ne _ _ _ (by omega)), (upd_ne _ _ _ (by omega)).trans h.sp, (upd_ne _ _ _ (by omega)).trans h.sc, (upd_ne _ _ _ (by omega)).trans h.sd, (upd_ne _ _ _ (by omega)).trans h.dov⟩
theorem RdV.set_ctype {c : Nat → Value} {o : Nat} {s : Rd} (h : RdV c o s) (v : Nat) : RdV (upd c (o + 4) (.int .u32 (v : Int))) o { s with ctype := v } :=
  ⟨(upd_ne _ _ _ (by omega)).trans h.part, (upd_ne _ _ _ (by omega)).trans h.taken, (upd_ne _ _ _ (by omega)).trans h.number, (upd_ne _ _ _ (by omega)).trans h.length, upd_same _ _ _, (upd_ne _ _ _ (by omega)).trans h.sum, h.hd.congr (fun i h1 h2 => upd_ne _ _ _ (by omega)), fun i hi => (upd_ne _ _ _ (by omega)).trans (h.raw i hi), h.tl.congr (fun i h1 h2 => upd_ne _ _ _ (by omega)), h.st.congr (fun i h1 h2 => upd_ne _ _ _ (by omega)), h.rw.congr (fun i h1 h2 => upd_ne _ _ _ (by omega)), (upd_ne _ _ _ (by omega)).trans h.sp, (upd_ne _ _ _ (by omega)).trans h.sc, (upd_ne _ _ _ (by omega)).trans h.sd, (upd_ne _ _ _ (by omega)).trans h.dov⟩
theorem RdV.set_sum {c : Nat → Value} {o : Nat} {s : Rd} (h : RdV c o s) (v : Nat) : RdV (upd c (o + 5) (.int .u32 (v : Int))) o { s with sum := v } :=
  ⟨(upd_ne _ _ _ (by omega)).trans h.part, (upd_ne _ _ _ (by omega)).trans h.taken, (upd_ne _ _ _ (by omega)).trans h.number, (upd_ne _ _ _ (by omega)).trans h.length, (upd_ne _ _ _ (by omega)).trans h.ctype, upd_same _ _ _, h.hd.congr (fun i h1 h2 => upd_ne _ _ _ (by omega)), fun i hi => (upd_ne _ _ _ (by omega)).trans (h.raw i hi), h.tl.congr (fun i h1 h2 => upd_ne _ _ _ (by omega)), h.st.congr (fun i h1 h2 => upd_ne _ _ _ (by omega)), h.rw.congr (fun i h1 h2 => upd_ne _ _ _ (by omega)), (upd_ne _ _ _ (by omega)).trans h.sp, (upd_ne _ _ _ (by omega)).trans h.sc, (upd_ne _ _ _ (by omega)).trans h.sd, (upd_ne _ _ _ (by omega)).trans h.dov⟩
theorem RdV.set_hd {c d : Nat → Value} {o : Nat} {s : Rd} (h : RdV c o s) (v : Hd) (hv : HdV d (o + 6) v) (e : ∀ i, ¬ (o + 6 ≤ i ∧ i < o + 11) → d i = c i) : RdV d o { s with hd := v } :=
  ⟨(e _ (by omega)).trans h.part, (e _ (by omega)).trans h.taken, (e _ (by omega)).trans h.number, (e _ (by omega)).trans h.length, (e _ (by omega)).trans h.ctype, (e _ (by omega)).trans h.sum, hv, fun i hi => (e _ (by omega)).trans (h.raw i hi), h.tl.congr (fun i h1 h2 => e _ (by omega)), h.st.congr (fun i h1 h2 => e _ (by omega)), h.rw.congr (fun i h1 h2 => e _ (by omega)), (e _ (by omega)).trans h.sp, (e _ (by omega)).trans h.sc, (e _ (by omega)).trans h.sd, (e _ (by omega)).trans h.dov⟩
theorem RdV.set_raw {c : Nat → Value} {o : Nat} {s : Rd} (h : RdV c o s) (k : Nat) (v : Nat) (hk : k < 13) : RdV (upd c (o + 11 + k) (.int .u8 (v : Int))) o { s with raw := upd s.raw k v } :=
  ⟨(upd_ne _ _ _ (by omega)).trans h.part, (upd_ne _ _ _ (by omega)).trans h.taken, (upd_ne _ _ _ (by omega)).trans h.number, (upd_ne _ _ _ (by omega)).trans h.length, (upd_ne _ _ _ (by omega)).trans h.ctype, (upd_ne _ _ _ (by omega)).trans h.sum, h.hd.congr (fun i h1 h2 => upd_ne _ _ _ (by omega)), fun i hi => by
    by_cases e : i = k
    · subst e; rw [upd_same]; show _ = Value.int .u8 ((upd s.raw i v i : Nat) : Int); rw [upd_same]
    · rw [upd_ne _ _ _ (by omega)]; show _ = Value.int .u8 ((upd s.raw k v i : Nat) : Int); rw [upd_ne _ _ _ e]; exact h.raw i hi, h.tl.congr (fun i h1 h2 => upd_ne _ _ _ (by omega)), h.st.congr (fun i h1 h2 => upd_ne _ _ _ (by omega)), h.rw.congr (fun i h1 h2 => upd_ne _ _ _ (by omega)), (upd_ne _ _ _ (by omega)).trans h.sp, (upd_ne _ _ _ (by omega)).trans h.sc, (upd_ne _ _ _ (by omega)).trans h.sd, (upd_ne _ _ _ (by omega)).trans h.dov⟩
theorem RdV.set_tl {c d : Nat → Value} {o : Nat} {s : Rd} (h : RdV c o s) (v : Tl) (hv : TlV d (o + 24) v) (e : ∀ i, ¬ (o + 24 ≤ i ∧ i < o + 1050) → d i = c i) : RdV d o { s with tl := v } :=
  ⟨(e _ (by omega)).trans h.part, (e _ (by omega)).trans h.taken, (e _ (by omega)).trans h.number, (e _ (by omega)).trans h.length, (e _ (by omega)).trans h.ctype, (e _ (by omega)).trans h.sum, h.hd.congr (fun i h1 h2 => e _ (by omega)), fun i hi => (e _ (by omega)).trans (h.raw i hi), hv, h.st.congr (fun i h1 h2 => e _ (by omega)), h.rw.congr (fun i h1 h2 => e _ (by omega)), (e _ (by omega)).trans h.sp, (e _ (by omega)).trans h.sc, (e _ (by omega)).trans h.sd, (e _ (by omega)).trans h.dov⟩
theorem RdV.set_st {c d : Nat → Value} {o : Nat} {s : Rd} (h : RdV c o s) (v : St) (hv : StV d (o + 1050) v) (e : ∀ i, ¬ (o + 1050 ≤ i ∧ i < o + 4401) → d i = c i) : RdV d o { s with st := v } :=
  ⟨(e _ (by omega)).trans h.part, (e _ (by omega)).trans h.taken, (e _ (by omega)).trans h.number, (e _ (by omega)).trans h.length, (e _ (by omega)).trans h.ctype, (e _ (by omega)).trans h.sum, h.hd.congr (fun i h1 h2 => e _ (by omega)), fun i hi => (e _ (by omega)).trans (h.raw i hi), h.tl.congr (fun i h1 h2 => e _ (by omega)), hv, h.rw.congr (fun i h1 h2 => e _ (by omega)), (e _ (by omega)).trans h.sp, (e _ (by omega)).trans h.sc, (e _ (by omega)).trans h.sd, (e _ (by omega)).trans h.dov⟩
theorem RdV.set_rw {c d : Nat → Value} {o : Nat} {s : Rd} (h : RdV c o s) (v : Rw) (hv : RwV d (o + 4401) v) (e : ∀ i, ¬ (o + 4401 ≤ i ∧ i < o + 5950) → d i = c i) : RdV d o { s with rw := v } :=
  ⟨(e _ (by omega)).trans h.part, (e _ (by omega)).trans h.taken, (e _ (by omega)).trans h.number, (e _ (by omega)).trans h.length, (e _ (by omega)).trans h.ctype, (e _ (by omega)).trans h.sum, h.hd.congr (fun i h1 h2 => e _ (by omega)), fun i hi => (e _ (by omega)).trans (h.raw i hi), h.tl.congr (fun i h1 h2 => e _ (by omega)), h.st.congr (fun i h1 h2 => e _ (by omega)), hv, (e _ (by omega)).trans h.sp, (e _ (by omega)).trans h.sc, (e _ (by omega)).trans h.sd, (e _ (by omega)).trans h.dov⟩
theorem RdV.set_sp {c : Nat → Value} {o : Nat} {s : Rd} (h : RdV c o s) (v : Bool) : RdV (upd c (o + 5950) (.bool v)) o { s with sp := v } :=
  ⟨(upd_ne _ _ _ (by omega)).trans h.part, (upd_ne _ _ _ (by omega)).trans h.taken, (upd_ne _ _ _ (by omega)).trans h.number, (upd_ne _ _ _ (by omega)).trans h.length, (upd_ne _ _ _ (by omega)).trans h.ctype, (upd_ne _ _ _ (by omega)).trans h.sum, h.hd.congr (fun i h1 h2 => upd_ne _ _ _ (by omega)), fun i hi => (upd_ne _ _ _ (by omega)).trans (h.raw i hi), h.tl.congr (fun i h1 h2 => upd_ne _ _ _ (by omega)), h.st.congr (fun i h1 h2 => upd_ne _ _ _ (by omega)), h.rw.congr (fun i h1 h2 => upd_ne _ _ _ (by omega)), upd_same _ _ _, (upd_ne _ _ _ (by omega)).trans h.sc, (upd_ne _ _ _ (by omega)).trans h.sd, (upd_ne _ _ _ (by omega)).trans h.dov⟩
theorem RdV.set_sc {c : Nat → Value} {o : Nat} {s : Rd} (h : RdV c o s) (v : Bool) : RdV (upd c (o + 5951) (.bool v)) o { s with sc := v } :=
  ⟨(upd_ne _ _ _ (by omega)).trans h.part, (upd_ne _ _ _ (by omega)).trans h.taken, (upd_ne _ _ _ (by omega)).trans h.number, (upd_ne _ _ _ (by omega)).trans h.length, (upd_ne _ _ _ (by omega)).trans h.ctype, (upd_ne _ _ _ (by omega)).trans h.sum, h.hd.congr (fun i h1 h2 => upd_ne _ _ _ (by omega)), fun i hi => (upd_ne _ _ _ (by omega)).trans (h.raw i hi), h.tl.congr (fun i h1 h2 => upd_ne _ _ _ (by omega)), h.st.congr (fun i h1 h2 => upd_ne _ _ _ (by omega)), h.rw.congr (fun i h1 h2 => upd_ne _ _ _ (by omega)), (upd_ne _ _ _ (by omega)).trans h.sp, upd_same _ _ _, (upd_ne _ _ _ (by omega)).trans h.sd, (upd_ne _ _ _ (by omega)).trans h.dov⟩
theorem RdV.set_sd {c : Nat → Value} {o : Nat} {s : Rd} (h : RdV c o s) (v : Bool) : RdV (upd c (o + 5952) (.bool v)) o { s with sd := v } :=
  ⟨(upd_ne _ _ _ (by omega)).trans h.part, (upd_ne _ _ _ (by omega)).trans h.taken, (upd_ne _ _ _ (by omega)).trans h.number, (upd_ne _ _ _ (by omega)).trans h.length, (upd_ne _ _ _ (by omega)).trans h.ctype, (upd_ne _ _ _ (by omega)).trans h.sum, h.hd.congr (fun i h1 h2 => upd_ne _ _ _ (by omega)), fun i hi => (upd_ne _ _ _ (by omega)).trans (h.raw i hi), h.tl.congr (fun i h1 h2 => upd_ne _ _ _ (by omega)), h.st.congr (fun i h1 h2 => upd_ne _ _ _ (by omega)), h.rw.congr (fun i h1 h2 => upd_ne _ _ _ (by omega)), (upd_ne _ _ _ (by omega)).trans h.sp, (upd_ne _ _ _ (by omega)).trans h.sc, upd_same _ _ _, (upd_ne _ _ _ (by omega)).trans h.dov⟩
theorem RdV.set_dov {c : Nat → Value} {o : Nat} {s : Rd} (h : RdV c o s) (v : Bool) : RdV (upd c (o + 5953) (.bool v)) o { s with dov := v } :=
  ⟨(upd_ne _ _ _ (by omega)).trans h.part, (upd_ne _ _ _ (by omega)).trans h.taken, (upd_ne _ _ _ (by omega)).trans h.number, (upd_ne _ _ _ (by omega)).trans h.length, (upd_ne _ _ _ (by omega)).trans h.ctype, (upd_ne _ _ _ (by omega)).trans h.sum, h.hd.congr (fun i h1 h2 => upd_ne _ _ _ (by omega)), fun i hi => (upd_ne _ _ _ (by omega)).trans (h.raw i hi), h.tl.congr (fun i h1 h2 => upd_ne _ _ _ (by omega)), h.st.congr (fun i h1 h2 => upd_ne _ _ _ (by omega)), h.rw.congr (fun i h1 h2 => upd_ne _ _ _ (by omega)), (upd_ne _ _ _ (by omega)).trans h.sp, (upd_ne _ _ _ (by omega)).trans h.sc, (upd_ne _ _ _ (by omega)).trans h.sd, upd_same _ _ _⟩
structure Dc where
  file : Rd
  count : Nat
  err : Nat
  at1 : Nat
/-- 5957 cells from o on. -/
structure DcV (c : Nat → Value) (o : Nat) (s : Dc) : Prop where
  file : RdV c (o) s.file
  count : c (o + 5954) = .int .i64 (s.count : Int)
  err : c (o + 5955) = .int .i64 (s.err : Int)
  at1 : c (o + 5956) = .int .i64 (s.at1 : Int)
theorem DcV.set_file {c d : Nat → Value} {o : Nat} {s : Dc} (h : DcV c o s) (v : Rd) (hv : RdV d (o) v) (e : ∀ i, ¬ (o ≤ i ∧ i < o + 5954) → d i = c i) : DcV d o { s with file := v } :=
  ⟨hv, (e _ (by omega)).trans h.count, (e _ (by omega)).trans h.err, (e _ (by omega)).trans h.at1⟩
theorem DcV.set_count {c : Nat → Value} {o : Nat} {s : Dc} (h : DcV c o s) (v : Nat) : DcV (upd c (o + 5954) (.int .i64 (v : Int))) o { s with count := v } :=
  ⟨h.file.congr (fun i h1 h2 => upd_ne _ _ _ (by omega)), upd_same _ _ _, (upd_ne _ _ _ (by omega)).trans h.err, (upd_ne _ _ _ (by omega)).trans h.at1⟩
theorem DcV.set_err {c : Nat → Value} {o : Nat} {s : Dc} (h : DcV c o s) (v : Nat) : DcV (upd c (o + 5955) (.int .i64 (v : Int))) o { s with err := v } :=
  ⟨h.file.congr (fun i h1 h2 => upd_ne _ _ _ (by omega)), (upd_ne _ _ _ (by omega)).trans h.count, upd_same _ _ _, (upd_ne _ _ _ (by omega)).trans h.at1⟩
theorem DcV.set_at1 {c : Nat → Value} {o : Nat} {s : Dc} (h : DcV c o s) (v : Nat) : DcV (upd c (o + 5956) (.int .i64 (v : Int))) o { s with at1 := v } :=
  ⟨h.file.congr (fun i h1 h2 => upd_ne _ _ _ (by omega)), (upd_ne _ _ _ (by omega)).trans h.count, (upd_ne _ _ _ (by omega)).trans h.err, upd_same _ _ _⟩
/-- A block of n cells, none of them frozen. -/
structure Blk (w : World) (b n : Nat) (c : Nat → Value) : Prop where
  cell : ∀ i, i < n → w.cell? ⟨b, i, none⟩ = some (c i)
  fz : ∀ i, w.frozen? ⟨b, i, none⟩ = false
  lt : b < w.heap.size
theorem Blk.set {w : World} {b n : Nat} {c : Nat → Value} (h : Blk w b n c) {k : Nat} (hk : k < n) (v : Value) : Blk (w.setCell ⟨b, k, none⟩ v) b n (upd c k v) :=
  ⟨fun i hi => by
    by_cases e : i = k
    · subst e; rw [upd_same]; exact cell_set_same (h.cell i hi) _
    · rw [upd_ne _ _ _ e, cell_set_other _ _ _ _ _ (fun q => e q.symm)]; exact h.cell i hi, fun i => by rw [World.frozen?_setCell]; exact h.fz i, by simpa [World.setCell] using h.lt⟩
theorem Blk.kept {w w' : World} {b n : Nat} {c : Nat → Value} (h : Blk w b n c) (k : Kept w w') : Blk w' b n c :=
  ⟨fun i hi => (k.cell (p := ⟨b, i, none⟩) h.lt).trans (h.cell i hi), fun i => (k.frozen (p := ⟨b, i, none⟩) h.lt).trans (h.fz i), Nat.lt_of_lt_of_le h.lt k.size⟩
theorem Blk.fr {S : Nat → Prop} {w w' : World} {b n : Nat} {c : Nat → Value} (h : Blk w b n c) (k : Fr S w w') (hS : ¬ S b) : Blk w' b n c :=
  ⟨fun i hi => (k.cell h.lt hS).trans (h.cell i hi), fun i => (k.frozen h.lt hS).trans (h.fz i), Nat.lt_of_lt_of_le h.lt k.size⟩
end Go.Proofs.YtmbmecfodigciaaGreatDoor
