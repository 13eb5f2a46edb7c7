import Derived.Test.YtdnpefabcholbaaGreatR24
import Derived.Test.YtdnpefabcholbaaGreatW16
namespace Go.Proofs.YtdnpefabcholbaaGreat
open Go.RowKit
set_option linter.unusedSimpArgs false
set_option linter.unusedVariables false

theorem own_base {w : World} {base base' : Nat} {e : TypeId} {size : Nat} {v : Value} {n : Nat} {xs : List Value} (h : w.ownsRow base e size v n xs) (hb : base' ≤ base) : w.ownsRow base' e size v n xs := by
  obtain ⟨h1, h2⟩ := h
  refine ⟨h1, ?_⟩
  rcases h2 with h2 | ⟨g, cap, cur, hv, hg, r⟩
  · exact Or.inl h2
  · exact Or.inr ⟨g, cap, cur, hv, by omega, r⟩

/-- append to a row of the call's own: it stays where it was, or lies in a new block. -/
theorem append_strong (w : World) {ops : Array Oper} {rest : List Oper} {o : Oper} {a : Act} {Q : Exit → Act → World → Prop}
    (hg : o.guard = none) (s x : Operand) (hop : o.op = Op.call { callee := Callee.builtin Builtin.append, args := #[s, x], argTypes := #[30, 30] })
    (base : Nat) (v : Value) (n : Nat) (xs : List Value) (hs : a.eval s = v) (hown : w.ownsRow base 3 1 v n xs)
    (ad : Addr) (m c : Nat) (news : List Value) (hx : a.eval x = .slice (some ad) m c) (hn : news.length = m) (hm : 0 < m)
    (hc : ∀ j u, news[j]? = some u → w.cell? (ad.add j) = some u) (h1c : ∀ u ∈ news, u.oneCell' = true) (hb : n + m ≤ 1048576) (hbase : base ≤ w.heap.size)
    (hK : ∀ v' w', w'.ownsRow base 3 1 v' (n + m) (xs ++ news) → w.grownBy w' v.ownBlock → (∀ k, v'.ownBlock = some k → v.ownBlock = some k ∨ w.heap.size ≤ k) → wpList Tryz.prog ops Q rest (a.put o.dst v') w') :
    wpList Tryz.prog ops Q (o :: rest) a w := by
  obtain ⟨i0, hi, hz0, hz1, hz2⟩ := info_parts info3R
  have hml : n + m ≤ maxLen := by unfold maxLen; omega
  have fin : ∀ v' w', w'.ownsRow w.heap.size 3 1 v' (n + m) (xs ++ news) → w.grownBy w' none → wpList Tryz.prog ops Q rest (a.put o.dst v') w' := by
    intro v' w' h1 h2
    refine hK v' w' (own_base h1 hbase) ⟨h2.os, h2.tape, h2.output, h2.size, fun k hk _ => h2.block k hk (by simp)⟩ (fun k hk => Or.inr ((h1.lt k hk).1))
  rcases hown.2 with ⟨rfl, h0⟩ | ⟨g, cap, cur, rfl, hgb, hh, hnc, hcm, hcs, htk⟩
  · subst h0
    have hx0 : xs = [] := List.eq_nil_of_length_eq_zero (by simpa using hown.1)
    subst hx0
    exact wpList_append_grows w hg s x 30 hop 3 i0 (.int .i64 0) 1 8 Tryz.underlying30 hi hz0 hz1 hz2 rfl (by decide) none 0 0 [] hs (fun _ => ⟨rfl, rfl⟩) rfl (fun b hb => by cases hb) ad m c news hx (by omega) hc h1c (by omega) hml (by omega) fin
  · by_cases hf : n + m ≤ cap
    · refine wpList_append_fits w hg s x 30 hop base 3 i0 1 Tryz.underlying30 hi hz1 g n cap xs hs hown ad m c news hx (by omega) hc h1c hf ?_
      intro w' h1 h2
      exact hK _ w' h1 h2 (fun k hk => Or.inl hk)
    · exact wpList_append_grows w hg s x 30 hop 3 i0 (.int .i64 0) 1 8 Tryz.underlying30 hi hz0 hz1 hz2 rfl (by decide) (some ⟨g, 0, none⟩) n cap xs hs (fun h => by cases h) (by have := hown.1; omega) (fun b hb j u hj => by cases hb; exact hown.cells rfl j u hj) ad m c news hx (by omega) hc h1c (by omega) hml (by omega) fin

/-- The three lists under way, in cells 8 to 10 of block P. -/
structure Tri (w W : World) (P : Nat) (a b c : Value) (na nb nc : Nat) (pc : Nat → Value) : Prop where
  kept : Kept w W
  base : w.heap.size ≤ P
  c8 : W.cell? ⟨P, 8, none⟩ = some a
  c9 : W.cell? ⟨P, 9, none⟩ = some b
  c10 : W.cell? ⟨P, 10, none⟩ = some c
  fz : ∀ k, W.frozen? ⟨P, k, none⟩ = false
  oa : W.ownsRow (P + 1) 3 1 a na (List.replicate na (.int .i64 0))
  ob : W.ownsRow (P + 1) 3 1 b nb (List.replicate nb (.int .i64 0))
  oc : W.ownsRow (P + 1) 3 1 c nc (List.replicate nc (.int .i64 0))
  ab : ∀ k, a.ownBlock = some k → b.ownBlock ≠ some k
  ac : ∀ k, a.ownBlock = some k → c.ownBlock ≠ some k
  bc : ∀ k, b.ownBlock = some k → c.ownBlock ≠ some k
  rest : ∀ j, j < 8 → W.cell? ⟨P, j, none⟩ = some (pc j)
theorem Tri.lt {w W : World} {P : Nat} {a b c : Value} {na nb nc : Nat} {pc : Nat → Value} (h : Tri w W P a b c na nb nc pc) : P < W.heap.size := World.block_lt_of_cell? _ _ h.c8
theorem own_kept {w W : World} {base : Nat} {v : Value} {n : Nat} {xs : List Value} (h : w.ownsRow base 3 1 v n xs) (k : Kept w W) : W.ownsRow base 3 1 v n xs :=
  h.kept (row := none) ⟨k.os, k.tape, k.output, k.size, fun j hj _ => k.block j hj⟩ (by cases hv : v.ownBlock; exact Or.inl rfl; exact Or.inr (by simp))
theorem Tri.keep {w W W' : World} {P : Nat} {a b c : Value} {na nb nc : Nat} {pc : Nat → Value} (h : Tri w W P a b c na nb nc pc) (k : Kept W W') : Tri w W' P a b c na nb nc pc := by
  have cl : ∀ j, W'.cell? ⟨P, j, none⟩ = W.cell? ⟨P, j, none⟩ := fun j => k.cell (p := ⟨P, j, none⟩) h.lt
  exact ⟨h.kept.trans k, h.base, by rw [cl]; exact h.c8, by rw [cl]; exact h.c9, by rw [cl]; exact h.c10, fun j => by rw [k.frozen (p := ⟨P, j, none⟩) h.lt]; exact h.fz j, own_kept h.oa k, own_kept h.ob k, own_kept h.oc k, h.ab, h.ac, h.bc, fun j hj => by rw [cl]; exact h.rest j hj⟩
theorem rep_app (n m : Nat) : List.replicate n (Value.int .i64 0) ++ List.replicate m (Value.int .i64 0) = List.replicate (n + m) (Value.int .i64 0) := by rw [List.replicate_append_replicate]
theorem own_set {W : World} {base P j : Nat} {v u : Value} {n : Nat} {xs : List Value} (h : W.ownsRow base 3 1 v n xs) (hb : P < base) : (W.setCell ⟨P, j, none⟩ u).ownsRow base 3 1 v n xs := ownsRow_setCell_below h hb u
/-- what a law on append leaves, at the three lists -/
theorem Tri.appA {w W W' : World} {P : Nat} {a b c v' : Value} {na nb nc m : Nat} {pc : Nat → Value} (h : Tri w W P a b c na nb nc pc)
    (ho : W'.ownsRow (P + 1) 3 1 v' (na + m) (List.replicate na (.int .i64 0) ++ List.replicate m (.int .i64 0))) (hg : W.grownBy W' a.ownBlock) (hf : ∀ k, v'.ownBlock = some k → a.ownBlock = some k ∨ W.heap.size ≤ k) :
    Tri w (W'.setCell ⟨P, 8, none⟩ v') P v' b c (na + m) nb nc pc := by
  have hP : some P ≠ a.ownBlock := fun e => by have := (h.oa.lt P e.symm).1; omega
  have blk : W'.heap[P]? = W.heap[P]? := hg.block P h.lt hP
  have cl : ∀ j, W'.cell? ⟨P, j, none⟩ = W.cell? ⟨P, j, none⟩ := fun j => World.cell?_of_block (w := W) blk
  have fl : ∀ j, W'.frozen? ⟨P, j, none⟩ = W.frozen? ⟨P, j, none⟩ := fun j => World.frozen?_of_block (w := W) blk
  have hk : Kept w W' := ⟨hg.os.trans h.kept.os, hg.tape.trans h.kept.tape, hg.output.trans h.kept.output, Nat.le_trans h.kept.size hg.size, fun j hj => (hg.block j (Nat.lt_of_lt_of_le hj h.kept.size) (fun e => by have := (h.oa.lt j e.symm).1; have := h.base; omega)).trans (h.kept.block j hj)⟩
  have ob : W'.ownsRow (P + 1) 3 1 b nb (List.replicate nb (.int .i64 0)) := h.ob.kept hg (by
    cases hb : b.ownBlock with
    | none => exact Or.inl rfl
    | some k => exact Or.inr (fun e => h.ab k e.symm hb))
  have oc : W'.ownsRow (P + 1) 3 1 c nc (List.replicate nc (.int .i64 0)) := h.oc.kept hg (by
    cases hb : c.ownBlock with
    | none => exact Or.inl rfl
    | some k => exact Or.inr (fun e => h.ac k e.symm hb))
  rw [rep_app] at ho
  refine ⟨hk.own ((Oth.refl _ _).setCell _ _) h.base, h.base, cell_set_same ((cl 8).trans h.c8) _, by rw [cell_set_other _ _ _ _ _ (by omega), cl]; exact h.c9, by rw [cell_set_other _ _ _ _ _ (by omega), cl]; exact h.c10, fun j => by rw [World.frozen?_setCell, fl]; exact h.fz j, own_set ho (by omega), own_set ob (by omega), own_set oc (by omega), ?_, ?_, h.bc, fun j hj => by rw [cell_set_other _ _ _ _ _ (by omega), cl]; exact h.rest j hj⟩
  · intro k hk' hb
    rcases hf k hk' with e | e
    · exact h.ab k e hb
    · have := (h.ob.lt k hb).2; omega
  · intro k hk' hb
    rcases hf k hk' with e | e
    · exact h.ac k e hb
    · have := (h.oc.lt k hb).2; omega
theorem Tri.appB {w W W' : World} {P : Nat} {a b c v' : Value} {na nb nc m : Nat} {pc : Nat → Value} (h : Tri w W P a b c na nb nc pc)
    (ho : W'.ownsRow (P + 1) 3 1 v' (nb + m) (List.replicate nb (.int .i64 0) ++ List.replicate m (.int .i64 0))) (hg : W.grownBy W' b.ownBlock) (hf : ∀ k, v'.ownBlock = some k → b.ownBlock = some k ∨ W.heap.size ≤ k) :
    Tri w (W'.setCell ⟨P, 9, none⟩ v') P a v' c na (nb + m) nc pc := by
  have hP : some P ≠ b.ownBlock := fun e => by have := (h.ob.lt P e.symm).1; omega
  have blk : W'.heap[P]? = W.heap[P]? := hg.block P h.lt hP
  have cl : ∀ j, W'.cell? ⟨P, j, none⟩ = W.cell? ⟨P, j, none⟩ := fun j => World.cell?_of_block (w := W) blk
  have fl : ∀ j, W'.frozen? ⟨P, j, none⟩ = W.frozen? ⟨P, j, none⟩ := fun j => World.frozen?_of_block (w := W) blk
  have hk : Kept w W' := ⟨hg.os.trans h.kept.os, hg.tape.trans h.kept.tape, hg.output.trans h.kept.output, Nat.le_trans h.kept.size hg.size, fun j hj => (hg.block j (Nat.lt_of_lt_of_le hj h.kept.size) (fun e => by have := (h.ob.lt j e.symm).1; have := h.base; omega)).trans (h.kept.block j hj)⟩
  have oa : W'.ownsRow (P + 1) 3 1 a na (List.replicate na (.int .i64 0)) := h.oa.kept hg (by
    cases hb : a.ownBlock with
    | none => exact Or.inl rfl
    | some k => exact Or.inr (fun e => h.ab k hb e.symm))
  have oc : W'.ownsRow (P + 1) 3 1 c nc (List.replicate nc (.int .i64 0)) := h.oc.kept hg (by
    cases hb : c.ownBlock with
    | none => exact Or.inl rfl
    | some k => exact Or.inr (fun e => h.bc k e.symm hb))
  rw [rep_app] at ho
  refine ⟨hk.own ((Oth.refl _ _).setCell _ _) h.base, h.base, by rw [cell_set_other _ _ _ _ _ (by omega), cl]; exact h.c8, cell_set_same ((cl 9).trans h.c9) _, by rw [cell_set_other _ _ _ _ _ (by omega), cl]; exact h.c10, fun j => by rw [World.frozen?_setCell, fl]; exact h.fz j, own_set oa (by omega), own_set ho (by omega), own_set oc (by omega), ?_, h.ac, ?_, fun j hj => by rw [cell_set_other _ _ _ _ _ (by omega), cl]; exact h.rest j hj⟩
  · intro k ha hk'
    rcases hf k hk' with e | e
    · exact h.ab k ha e
    · have := (h.oa.lt k ha).2; omega
  · intro k hk' hb
    rcases hf k hk' with e | e
    · exact h.bc k e hb
    · have := (h.oc.lt k hb).2; omega
theorem Tri.appC {w W W' : World} {P : Nat} {a b c v' : Value} {na nb nc m : Nat} {pc : Nat → Value} (h : Tri w W P a b c na nb nc pc)
    (ho : W'.ownsRow (P + 1) 3 1 v' (nc + m) (List.replicate nc (.int .i64 0) ++ List.replicate m (.int .i64 0))) (hg : W.grownBy W' c.ownBlock) (hf : ∀ k, v'.ownBlock = some k → c.ownBlock = some k ∨ W.heap.size ≤ k) :
    Tri w (W'.setCell ⟨P, 10, none⟩ v') P a b v' na nb (nc + m) pc := by
  have hP : some P ≠ c.ownBlock := fun e => by have := (h.oc.lt P e.symm).1; omega
  have blk : W'.heap[P]? = W.heap[P]? := hg.block P h.lt hP
  have cl : ∀ j, W'.cell? ⟨P, j, none⟩ = W.cell? ⟨P, j, none⟩ := fun j => World.cell?_of_block (w := W) blk
  have fl : ∀ j, W'.frozen? ⟨P, j, none⟩ = W.frozen? ⟨P, j, none⟩ := fun j => World.frozen?_of_block (w := W) blk
  have hk : Kept w W' := ⟨hg.os.trans h.kept.os, hg.tape.trans h.kept.tape, hg.output.trans h.kept.output, Nat.le_trans h.kept.size hg.size, fun j hj => (hg.block j (Nat.lt_of_lt_of_le hj h.kept.size) (fun e => by have := (h.oc.lt j e.symm).1; have := h.base; omega)).trans (h.kept.block j hj)⟩
  have oa : W'.ownsRow (P + 1) 3 1 a na (List.replicate na (.int .i64 0)) := h.oa.kept hg (by
    cases hb : a.ownBlock with
    | none => exact Or.inl rfl
    | some k => exact Or.inr (fun e => h.ac k hb e.symm))
  have ob : W'.ownsRow (P + 1) 3 1 b nb (List.replicate nb (.int .i64 0)) := h.ob.kept hg (by
    cases hb : b.ownBlock with
    | none => exact Or.inl rfl
    | some k => exact Or.inr (fun e => h.bc k hb e.symm))
  rw [rep_app] at ho
  refine ⟨hk.own ((Oth.refl _ _).setCell _ _) h.base, h.base, by rw [cell_set_other _ _ _ _ _ (by omega), cl]; exact h.c8, by rw [cell_set_other _ _ _ _ _ (by omega), cl]; exact h.c9, cell_set_same ((cl 10).trans h.c10) _, fun j => by rw [World.frozen?_setCell, fl]; exact h.fz j, own_set oa (by omega), own_set ob (by omega), own_set ho (by omega), h.ab, ?_, ?_, fun j hj => by rw [cell_set_other _ _ _ _ _ (by omega), cl]; exact h.rest j hj⟩
  · intro k ha hk'
    rcases hf k hk' with e | e
    · exact h.ac k ha e
    · have := (h.oa.lt k ha).2; omega
  · intro k hb hk'
    rcases hf k hk' with e | e
    · exact h.bc k hb e
    · have := (h.ob.lt k hb).2; omega
end Go.Proofs.YtdnpefabcholbaaGreat
