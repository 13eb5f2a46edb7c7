import Derived.Test.YtdnpefabcholbaaGreatW3
set_option linter.unusedSimpArgs false
set_option linter.unusedVariables false
namespace Go.Proofs.YtdnpefabcholbaaGreat
open Go.RowKit

theorem cell_set_other (w : World) (b k j : Nat) (v : Value) (h : k ≠ j) : (w.setCell ⟨b, k, none⟩ v).cell? ⟨b, j, none⟩ = w.cell? ⟨b, j, none⟩ :=
  World.cell?_setCell_other _ _ _ _ (by intro e; apply h; injection e)
theorem cell_set_same {w : World} {a : Addr} {u : Value} (h : w.cell? a = some u) (v : Value) : (w.setCell a v).cell? a = some v := World.cell?_setCell_same _ _ _ h

/-- All blocks but b are as they were, and b's cells behind the reader. -/
structure But (b : Nat) (w w' : World) : Prop where
  os : w'.os = w.os
  tape : w'.tape = w.tape
  output : w'.output = w.output
  size : w.heap.size ≤ w'.heap.size
  block : ∀ k, k < w.heap.size → k ≠ b → w'.heap[k]? = w.heap[k]?
  high : b < w.heap.size → ∀ k, 1054 ≤ k → w'.cell? ⟨b, k, none⟩ = w.cell? ⟨b, k, none⟩
theorem But.refl (b : Nat) (w : World) : But b w w := ⟨rfl, rfl, rfl, Nat.le_refl _, fun _ _ _ => rfl, fun _ _ _ => rfl⟩
theorem But.trans {b : Nat} {x y z : World} (h : But b x y) (k : But b y z) : But b x z :=
  ⟨k.os.trans h.os, k.tape.trans h.tape, k.output.trans h.output, Nat.le_trans h.size k.size, fun i hi hn => (k.block i (Nat.lt_of_lt_of_le hi h.size) hn).trans (h.block i hi hn),
    fun hb j hj => (k.high (Nat.lt_of_lt_of_le hb h.size) j hj).trans (h.high hb j hj)⟩
theorem But.of_kept {b : Nat} {x y : World} (k : Kept x y) : But b x y := ⟨k.os, k.tape, k.output, k.size, fun i hi _ => k.block i hi, fun hb j _ => k.cell (p := ⟨b, j, none⟩) hb⟩
theorem But.kept {b : Nat} {x y z : World} (h : But b x y) (k : Kept y z) : But b x z := h.trans (But.of_kept k)
theorem But.setCell {b : Nat} {x y : World} (h : But b x y) (k : Nat) (v : Value) (hk : k < 1054 := by omega) : But b x (y.setCell ⟨b, k, none⟩ v) :=
  h.trans ⟨rfl, rfl, rfl, by simp [World.setCell], fun i _ hn => Below.heap_setCell _ _ _ _ hn, fun _ j hj => cell_set_other _ _ _ _ _ (by omega)⟩
theorem But.drewN {b : Nat} {x y : World} (h : But b x y) (n : Nat) : But b x (y.drewN n) := h.kept ((Kept.refl _).drewN n)
theorem But.alloc {b : Nat} {x y : World} (h : But b x y) (o : Obj) : But b x (y.alloc o) := h.kept ((Below.refl _ _).alloc (Nat.le_refl _) o)

theorem RdAt.set_part {w : World} {b : Nat} {s : Px.Rd} (h : RdAt w b s) (v : Nat) : RdAt (w.setCell ⟨b, 0, none⟩ (.int .i64 (v : Int))) b { s with part := v } := by
  constructor
  · exact cell_set_same h.c0 _
  · rw [cell_set_other _ _ _ _ _ (by omega)]; exact h.c1
  · rw [cell_set_other _ _ _ _ _ (by omega)]; exact h.c2
  · rw [cell_set_other _ _ _ _ _ (by omega)]; exact h.c3
  · rw [cell_set_other _ _ _ _ _ (by omega)]; exact h.c4
  · rw [cell_set_other _ _ _ _ _ (by omega)]; exact h.c5
  · rw [cell_set_other _ _ _ _ _ (by omega)]; exact h.c6
  · rw [cell_set_other _ _ _ _ _ (by omega)]; exact h.c7
  · rw [cell_set_other _ _ _ _ _ (by omega)]; exact h.c8
  · rw [cell_set_other _ _ _ _ _ (by omega)]; exact h.c9
  · rw [cell_set_other _ _ _ _ _ (by omega)]; exact h.c10
  · intro i hi; rw [cell_set_other _ _ _ _ _ (by omega)]; exact h.raw i hi
  · intro i hi; rw [cell_set_other _ _ _ _ _ (by omega)]; exact h.pal i hi
  · rw [cell_set_other _ _ _ _ _ (by omega)]; exact h.col
  · intro i hi; rw [cell_set_other _ _ _ _ _ (by omega)]; exact h.clr i hi
  · rw [cell_set_other _ _ _ _ _ (by omega)]; exact h.str
  · rw [cell_set_other _ _ _ _ _ (by omega)]; exact h.sp
  · rw [cell_set_other _ _ _ _ _ (by omega)]; exact h.sc
  · rw [cell_set_other _ _ _ _ _ (by omega)]; exact h.sd
  · rw [cell_set_other _ _ _ _ _ (by omega)]; exact h.dov
  · intro k; rw [World.frozen?_setCell]; exact h.fz k
theorem RdAt.set_taken {w : World} {b : Nat} {s : Px.Rd} (h : RdAt w b s) (v : Nat) : RdAt (w.setCell ⟨b, 1, none⟩ (.int .u32 (v : Int))) b { s with taken := v } := by
  constructor
  · rw [cell_set_other _ _ _ _ _ (by omega)]; exact h.c0
  · exact cell_set_same h.c1 _
  · rw [cell_set_other _ _ _ _ _ (by omega)]; exact h.c2
  · rw [cell_set_other _ _ _ _ _ (by omega)]; exact h.c3
  · rw [cell_set_other _ _ _ _ _ (by omega)]; exact h.c4
  · rw [cell_set_other _ _ _ _ _ (by omega)]; exact h.c5
  · rw [cell_set_other _ _ _ _ _ (by omega)]; exact h.c6
  · rw [cell_set_other _ _ _ _ _ (by omega)]; exact h.c7
  · rw [cell_set_other _ _ _ _ _ (by omega)]; exact h.c8
  · rw [cell_set_other _ _ _ _ _ (by omega)]; exact h.c9
  · rw [cell_set_other _ _ _ _ _ (by omega)]; exact h.c10
  · intro i hi; rw [cell_set_other _ _ _ _ _ (by omega)]; exact h.raw i hi
  · intro i hi; rw [cell_set_other _ _ _ _ _ (by omega)]; exact h.pal i hi
  · rw [cell_set_other _ _ _ _ _ (by omega)]; exact h.col
  · intro i hi; rw [cell_set_other _ _ _ _ _ (by omega)]; exact h.clr i hi
  · rw [cell_set_other _ _ _ _ _ (by omega)]; exact h.str
  · rw [cell_set_other _ _ _ _ _ (by omega)]; exact h.sp
  · rw [cell_set_other _ _ _ _ _ (by omega)]; exact h.sc
  · rw [cell_set_other _ _ _ _ _ (by omega)]; exact h.sd
  · rw [cell_set_other _ _ _ _ _ (by omega)]; exact h.dov
  · intro k; rw [World.frozen?_setCell]; exact h.fz k
theorem RdAt.set_number {w : World} {b : Nat} {s : Px.Rd} (h : RdAt w b s) (v : Nat) : RdAt (w.setCell ⟨b, 2, none⟩ (.int .u32 (v : Int))) b { s with number := v } := by
  constructor
  · rw [cell_set_other _ _ _ _ _ (by omega)]; exact h.c0
  · rw [cell_set_other _ _ _ _ _ (by omega)]; exact h.c1
  · exact cell_set_same h.c2 _
  · rw [cell_set_other _ _ _ _ _ (by omega)]; exact h.c3
  · rw [cell_set_other _ _ _ _ _ (by omega)]; exact h.c4
  · rw [cell_set_other _ _ _ _ _ (by omega)]; exact h.c5
  · rw [cell_set_other _ _ _ _ _ (by omega)]; exact h.c6
  · rw [cell_set_other _ _ _ _ _ (by omega)]; exact h.c7
  · rw [cell_set_other _ _ _ _ _ (by omega)]; exact h.c8
  · rw [cell_set_other _ _ _ _ _ (by omega)]; exact h.c9
  · rw [cell_set_other _ _ _ _ _ (by omega)]; exact h.c10
  · intro i hi; rw [cell_set_other _ _ _ _ _ (by omega)]; exact h.raw i hi
  · intro i hi; rw [cell_set_other _ _ _ _ _ (by omega)]; exact h.pal i hi
  · rw [cell_set_other _ _ _ _ _ (by omega)]; exact h.col
  · intro i hi; rw [cell_set_other _ _ _ _ _ (by omega)]; exact h.clr i hi
  · rw [cell_set_other _ _ _ _ _ (by omega)]; exact h.str
  · rw [cell_set_other _ _ _ _ _ (by omega)]; exact h.sp
  · rw [cell_set_other _ _ _ _ _ (by omega)]; exact h.sc
  · rw [cell_set_other _ _ _ _ _ (by omega)]; exact h.sd
  · rw [cell_set_other _ _ _ _ _ (by omega)]; exact h.dov
  · intro k; rw [World.frozen?_setCell]; exact h.fz k
theorem RdAt.set_length {w : World} {b : Nat} {s : Px.Rd} (h : RdAt w b s) (v : Nat) : RdAt (w.setCell ⟨b, 3, none⟩ (.int .u32 (v : Int))) b { s with length := v } := by
  constructor
  · rw [cell_set_other _ _ _ _ _ (by omega)]; exact h.c0
  · rw [cell_set_other _ _ _ _ _ (by omega)]; exact h.c1
  · rw [cell_set_other _ _ _ _ _ (by omega)]; exact h.c2
  · exact cell_set_same h.c3 _
  · rw [cell_set_other _ _ _ _ _ (by omega)]; exact h.c4
  · rw [cell_set_other _ _ _ _ _ (by omega)]; exact h.c5
  · rw [cell_set_other _ _ _ _ _ (by omega)]; exact h.c6
  · rw [cell_set_other _ _ _ _ _ (by omega)]; exact h.c7
  · rw [cell_set_other _ _ _ _ _ (by omega)]; exact h.c8
  · rw [cell_set_other _ _ _ _ _ (by omega)]; exact h.c9
  · rw [cell_set_other _ _ _ _ _ (by omega)]; exact h.c10
  · intro i hi; rw [cell_set_other _ _ _ _ _ (by omega)]; exact h.raw i hi
  · intro i hi; rw [cell_set_other _ _ _ _ _ (by omega)]; exact h.pal i hi
  · rw [cell_set_other _ _ _ _ _ (by omega)]; exact h.col
  · intro i hi; rw [cell_set_other _ _ _ _ _ (by omega)]; exact h.clr i hi
  · rw [cell_set_other _ _ _ _ _ (by omega)]; exact h.str
  · rw [cell_set_other _ _ _ _ _ (by omega)]; exact h.sp
  · rw [cell_set_other _ _ _ _ _ (by omega)]; exact h.sc
  · rw [cell_set_other _ _ _ _ _ (by omega)]; exact h.sd
  · rw [cell_set_other _ _ _ _ _ (by omega)]; exact h.dov
  · intro k; rw [World.frozen?_setCell]; exact h.fz k
theorem RdAt.set_ctype {w : World} {b : Nat} {s : Px.Rd} (h : RdAt w b s) (v : Nat) : RdAt (w.setCell ⟨b, 4, none⟩ (.int .u32 (v : Int))) b { s with ctype := v } := by
  constructor
  · rw [cell_set_other _ _ _ _ _ (by omega)]; exact h.c0
  · rw [cell_set_other _ _ _ _ _ (by omega)]; exact h.c1
  · rw [cell_set_other _ _ _ _ _ (by omega)]; exact h.c2
  · rw [cell_set_other _ _ _ _ _ (by omega)]; exact h.c3
  · exact cell_set_same h.c4 _
  · rw [cell_set_other _ _ _ _ _ (by omega)]; exact h.c5
  · rw [cell_set_other _ _ _ _ _ (by omega)]; exact h.c6
  · rw [cell_set_other _ _ _ _ _ (by omega)]; exact h.c7
  · rw [cell_set_other _ _ _ _ _ (by omega)]; exact h.c8
  · rw [cell_set_other _ _ _ _ _ (by omega)]; exact h.c9
  · rw [cell_set_other _ _ _ _ _ (by omega)]; exact h.c10
  · intro i hi; rw [cell_set_other _ _ _ _ _ (by omega)]; exact h.raw i hi
  · intro i hi; rw [cell_set_other _ _ _ _ _ (by omega)]; exact h.pal i hi
  · rw [cell_set_other _ _ _ _ _ (by omega)]; exact h.col
  · intro i hi; rw [cell_set_other _ _ _ _ _ (by omega)]; exact h.clr i hi
  · rw [cell_set_other _ _ _ _ _ (by omega)]; exact h.str
  · rw [cell_set_other _ _ _ _ _ (by omega)]; exact h.sp
  · rw [cell_set_other _ _ _ _ _ (by omega)]; exact h.sc
  · rw [cell_set_other _ _ _ _ _ (by omega)]; exact h.sd
  · rw [cell_set_other _ _ _ _ _ (by omega)]; exact h.dov
  · intro k; rw [World.frozen?_setCell]; exact h.fz k
theorem RdAt.set_sum {w : World} {b : Nat} {s : Px.Rd} (h : RdAt w b s) (v : Nat) : RdAt (w.setCell ⟨b, 5, none⟩ (.int .u32 (v : Int))) b { s with sum := v } := by
  constructor
  · rw [cell_set_other _ _ _ _ _ (by omega)]; exact h.c0
  · rw [cell_set_other _ _ _ _ _ (by omega)]; exact h.c1
  · rw [cell_set_other _ _ _ _ _ (by omega)]; exact h.c2
  · rw [cell_set_other _ _ _ _ _ (by omega)]; exact h.c3
  · rw [cell_set_other _ _ _ _ _ (by omega)]; exact h.c4
  · exact cell_set_same h.c5 _
  · rw [cell_set_other _ _ _ _ _ (by omega)]; exact h.c6
  · rw [cell_set_other _ _ _ _ _ (by omega)]; exact h.c7
  · rw [cell_set_other _ _ _ _ _ (by omega)]; exact h.c8
  · rw [cell_set_other _ _ _ _ _ (by omega)]; exact h.c9
  · rw [cell_set_other _ _ _ _ _ (by omega)]; exact h.c10
  · intro i hi; rw [cell_set_other _ _ _ _ _ (by omega)]; exact h.raw i hi
  · intro i hi; rw [cell_set_other _ _ _ _ _ (by omega)]; exact h.pal i hi
  · rw [cell_set_other _ _ _ _ _ (by omega)]; exact h.col
  · intro i hi; rw [cell_set_other _ _ _ _ _ (by omega)]; exact h.clr i hi
  · rw [cell_set_other _ _ _ _ _ (by omega)]; exact h.str
  · rw [cell_set_other _ _ _ _ _ (by omega)]; exact h.sp
  · rw [cell_set_other _ _ _ _ _ (by omega)]; exact h.sc
  · rw [cell_set_other _ _ _ _ _ (by omega)]; exact h.sd
  · rw [cell_set_other _ _ _ _ _ (by omega)]; exact h.dov
  · intro k; rw [World.frozen?_setCell]; exact h.fz k
theorem RdAt.set_colours {w : World} {b : Nat} {s : Px.Rd} (h : RdAt w b s) (v : Nat) : RdAt (w.setCell ⟨b, 792, none⟩ (.int .u32 (v : Int))) b { s with colours := v } := by
  constructor
  · rw [cell_set_other _ _ _ _ _ (by omega)]; exact h.c0
  · rw [cell_set_other _ _ _ _ _ (by omega)]; exact h.c1
  · rw [cell_set_other _ _ _ _ _ (by omega)]; exact h.c2
  · rw [cell_set_other _ _ _ _ _ (by omega)]; exact h.c3
  · rw [cell_set_other _ _ _ _ _ (by omega)]; exact h.c4
  · rw [cell_set_other _ _ _ _ _ (by omega)]; exact h.c5
  · rw [cell_set_other _ _ _ _ _ (by omega)]; exact h.c6
  · rw [cell_set_other _ _ _ _ _ (by omega)]; exact h.c7
  · rw [cell_set_other _ _ _ _ _ (by omega)]; exact h.c8
  · rw [cell_set_other _ _ _ _ _ (by omega)]; exact h.c9
  · rw [cell_set_other _ _ _ _ _ (by omega)]; exact h.c10
  · intro i hi; rw [cell_set_other _ _ _ _ _ (by omega)]; exact h.raw i hi
  · intro i hi; rw [cell_set_other _ _ _ _ _ (by omega)]; exact h.pal i hi
  · exact cell_set_same h.col _
  · intro i hi; rw [cell_set_other _ _ _ _ _ (by omega)]; exact h.clr i hi
  · rw [cell_set_other _ _ _ _ _ (by omega)]; exact h.str
  · rw [cell_set_other _ _ _ _ _ (by omega)]; exact h.sp
  · rw [cell_set_other _ _ _ _ _ (by omega)]; exact h.sc
  · rw [cell_set_other _ _ _ _ _ (by omega)]; exact h.sd
  · rw [cell_set_other _ _ _ _ _ (by omega)]; exact h.dov
  · intro k; rw [World.frozen?_setCell]; exact h.fz k
theorem RdAt.set_streamed {w : World} {b : Nat} {s : Px.Rd} (h : RdAt w b s) (v : Nat) : RdAt (w.setCell ⟨b, 1049, none⟩ (.int .u32 (v : Int))) b { s with streamed := v } := by
  constructor
  · rw [cell_set_other _ _ _ _ _ (by omega)]; exact h.c0
  · rw [cell_set_other _ _ _ _ _ (by omega)]; exact h.c1
  · rw [cell_set_other _ _ _ _ _ (by omega)]; exact h.c2
  · rw [cell_set_other _ _ _ _ _ (by omega)]; exact h.c3
  · rw [cell_set_other _ _ _ _ _ (by omega)]; exact h.c4
  · rw [cell_set_other _ _ _ _ _ (by omega)]; exact h.c5
  · rw [cell_set_other _ _ _ _ _ (by omega)]; exact h.c6
  · rw [cell_set_other _ _ _ _ _ (by omega)]; exact h.c7
  · rw [cell_set_other _ _ _ _ _ (by omega)]; exact h.c8
  · rw [cell_set_other _ _ _ _ _ (by omega)]; exact h.c9
  · rw [cell_set_other _ _ _ _ _ (by omega)]; exact h.c10
  · intro i hi; rw [cell_set_other _ _ _ _ _ (by omega)]; exact h.raw i hi
  · intro i hi; rw [cell_set_other _ _ _ _ _ (by omega)]; exact h.pal i hi
  · rw [cell_set_other _ _ _ _ _ (by omega)]; exact h.col
  · intro i hi; rw [cell_set_other _ _ _ _ _ (by omega)]; exact h.clr i hi
  · exact cell_set_same h.str _
  · rw [cell_set_other _ _ _ _ _ (by omega)]; exact h.sp
  · rw [cell_set_other _ _ _ _ _ (by omega)]; exact h.sc
  · rw [cell_set_other _ _ _ _ _ (by omega)]; exact h.sd
  · rw [cell_set_other _ _ _ _ _ (by omega)]; exact h.dov
  · intro k; rw [World.frozen?_setCell]; exact h.fz k
theorem RdAt.set_sp {w : World} {b : Nat} {s : Px.Rd} (h : RdAt w b s) (v : Bool) : RdAt (w.setCell ⟨b, 1050, none⟩ (.bool v)) b { s with sp := v } := by
  constructor
  · rw [cell_set_other _ _ _ _ _ (by omega)]; exact h.c0
  · rw [cell_set_other _ _ _ _ _ (by omega)]; exact h.c1
  · rw [cell_set_other _ _ _ _ _ (by omega)]; exact h.c2
  · rw [cell_set_other _ _ _ _ _ (by omega)]; exact h.c3
  · rw [cell_set_other _ _ _ _ _ (by omega)]; exact h.c4
  · rw [cell_set_other _ _ _ _ _ (by omega)]; exact h.c5
  · rw [cell_set_other _ _ _ _ _ (by omega)]; exact h.c6
  · rw [cell_set_other _ _ _ _ _ (by omega)]; exact h.c7
  · rw [cell_set_other _ _ _ _ _ (by omega)]; exact h.c8
  · rw [cell_set_other _ _ _ _ _ (by omega)]; exact h.c9
  · rw [cell_set_other _ _ _ _ _ (by omega)]; exact h.c10
  · intro i hi; rw [cell_set_other _ _ _ _ _ (by omega)]; exact h.raw i hi
  · intro i hi; rw [cell_set_other _ _ _ _ _ (by omega)]; exact h.pal i hi
  · rw [cell_set_other _ _ _ _ _ (by omega)]; exact h.col
  · intro i hi; rw [cell_set_other _ _ _ _ _ (by omega)]; exact h.clr i hi
  · rw [cell_set_other _ _ _ _ _ (by omega)]; exact h.str
  · exact cell_set_same h.sp _
  · rw [cell_set_other _ _ _ _ _ (by omega)]; exact h.sc
  · rw [cell_set_other _ _ _ _ _ (by omega)]; exact h.sd
  · rw [cell_set_other _ _ _ _ _ (by omega)]; exact h.dov
  · intro k; rw [World.frozen?_setCell]; exact h.fz k
theorem RdAt.set_sc {w : World} {b : Nat} {s : Px.Rd} (h : RdAt w b s) (v : Bool) : RdAt (w.setCell ⟨b, 1051, none⟩ (.bool v)) b { s with sc := v } := by
  constructor
  · rw [cell_set_other _ _ _ _ _ (by omega)]; exact h.c0
  · rw [cell_set_other _ _ _ _ _ (by omega)]; exact h.c1
  · rw [cell_set_other _ _ _ _ _ (by omega)]; exact h.c2
  · rw [cell_set_other _ _ _ _ _ (by omega)]; exact h.c3
  · rw [cell_set_other _ _ _ _ _ (by omega)]; exact h.c4
  · rw [cell_set_other _ _ _ _ _ (by omega)]; exact h.c5
  · rw [cell_set_other _ _ _ _ _ (by omega)]; exact h.c6
  · rw [cell_set_other _ _ _ _ _ (by omega)]; exact h.c7
  · rw [cell_set_other _ _ _ _ _ (by omega)]; exact h.c8
  · rw [cell_set_other _ _ _ _ _ (by omega)]; exact h.c9
  · rw [cell_set_other _ _ _ _ _ (by omega)]; exact h.c10
  · intro i hi; rw [cell_set_other _ _ _ _ _ (by omega)]; exact h.raw i hi
  · intro i hi; rw [cell_set_other _ _ _ _ _ (by omega)]; exact h.pal i hi
  · rw [cell_set_other _ _ _ _ _ (by omega)]; exact h.col
  · intro i hi; rw [cell_set_other _ _ _ _ _ (by omega)]; exact h.clr i hi
  · rw [cell_set_other _ _ _ _ _ (by omega)]; exact h.str
  · rw [cell_set_other _ _ _ _ _ (by omega)]; exact h.sp
  · exact cell_set_same h.sc _
  · rw [cell_set_other _ _ _ _ _ (by omega)]; exact h.sd
  · rw [cell_set_other _ _ _ _ _ (by omega)]; exact h.dov
  · intro k; rw [World.frozen?_setCell]; exact h.fz k
theorem RdAt.set_sd {w : World} {b : Nat} {s : Px.Rd} (h : RdAt w b s) (v : Bool) : RdAt (w.setCell ⟨b, 1052, none⟩ (.bool v)) b { s with sd := v } := by
  constructor
  · rw [cell_set_other _ _ _ _ _ (by omega)]; exact h.c0
  · rw [cell_set_other _ _ _ _ _ (by omega)]; exact h.c1
  · rw [cell_set_other _ _ _ _ _ (by omega)]; exact h.c2
  · rw [cell_set_other _ _ _ _ _ (by omega)]; exact h.c3
  · rw [cell_set_other _ _ _ _ _ (by omega)]; exact h.c4
  · rw [cell_set_other _ _ _ _ _ (by omega)]; exact h.c5
  · rw [cell_set_other _ _ _ _ _ (by omega)]; exact h.c6
  · rw [cell_set_other _ _ _ _ _ (by omega)]; exact h.c7
  · rw [cell_set_other _ _ _ _ _ (by omega)]; exact h.c8
  · rw [cell_set_other _ _ _ _ _ (by omega)]; exact h.c9
  · rw [cell_set_other _ _ _ _ _ (by omega)]; exact h.c10
  · intro i hi; rw [cell_set_other _ _ _ _ _ (by omega)]; exact h.raw i hi
  · intro i hi; rw [cell_set_other _ _ _ _ _ (by omega)]; exact h.pal i hi
  · rw [cell_set_other _ _ _ _ _ (by omega)]; exact h.col
  · intro i hi; rw [cell_set_other _ _ _ _ _ (by omega)]; exact h.clr i hi
  · rw [cell_set_other _ _ _ _ _ (by omega)]; exact h.str
  · rw [cell_set_other _ _ _ _ _ (by omega)]; exact h.sp
  · rw [cell_set_other _ _ _ _ _ (by omega)]; exact h.sc
  · exact cell_set_same h.sd _
  · rw [cell_set_other _ _ _ _ _ (by omega)]; exact h.dov
  · intro k; rw [World.frozen?_setCell]; exact h.fz k
theorem RdAt.set_dov {w : World} {b : Nat} {s : Px.Rd} (h : RdAt w b s) (v : Bool) : RdAt (w.setCell ⟨b, 1053, none⟩ (.bool v)) b { s with dov := v } := by
  constructor
  · rw [cell_set_other _ _ _ _ _ (by omega)]; exact h.c0
  · rw [cell_set_other _ _ _ _ _ (by omega)]; exact h.c1
  · rw [cell_set_other _ _ _ _ _ (by omega)]; exact h.c2
  · rw [cell_set_other _ _ _ _ _ (by omega)]; exact h.c3
  · rw [cell_set_other _ _ _ _ _ (by omega)]; exact h.c4
  · rw [cell_set_other _ _ _ _ _ (by omega)]; exact h.c5
  · rw [cell_set_other _ _ _ _ _ (by omega)]; exact h.c6
  · rw [cell_set_other _ _ _ _ _ (by omega)]; exact h.c7
  · rw [cell_set_other _ _ _ _ _ (by omega)]; exact h.c8
  · rw [cell_set_other _ _ _ _ _ (by omega)]; exact h.c9
  · rw [cell_set_other _ _ _ _ _ (by omega)]; exact h.c10
  · intro i hi; rw [cell_set_other _ _ _ _ _ (by omega)]; exact h.raw i hi
  · intro i hi; rw [cell_set_other _ _ _ _ _ (by omega)]; exact h.pal i hi
  · rw [cell_set_other _ _ _ _ _ (by omega)]; exact h.col
  · intro i hi; rw [cell_set_other _ _ _ _ _ (by omega)]; exact h.clr i hi
  · rw [cell_set_other _ _ _ _ _ (by omega)]; exact h.str
  · rw [cell_set_other _ _ _ _ _ (by omega)]; exact h.sp
  · rw [cell_set_other _ _ _ _ _ (by omega)]; exact h.sc
  · rw [cell_set_other _ _ _ _ _ (by omega)]; exact h.sd
  · exact cell_set_same h.dov _
  · intro k; rw [World.frozen?_setCell]; exact h.fz k
theorem RdAt.set_hdW {w : World} {b : Nat} {s : Px.Rd} (h : RdAt w b s) (v : Nat) : RdAt (w.setCell ⟨b, 6, none⟩ (.int .i64 (v : Int))) b { s with hd := { s.hd with W := v } } := by
  constructor
  · rw [cell_set_other _ _ _ _ _ (by omega)]; exact h.c0
  · rw [cell_set_other _ _ _ _ _ (by omega)]; exact h.c1
  · rw [cell_set_other _ _ _ _ _ (by omega)]; exact h.c2
  · rw [cell_set_other _ _ _ _ _ (by omega)]; exact h.c3
  · rw [cell_set_other _ _ _ _ _ (by omega)]; exact h.c4
  · rw [cell_set_other _ _ _ _ _ (by omega)]; exact h.c5
  · exact cell_set_same h.c6 _
  · rw [cell_set_other _ _ _ _ _ (by omega)]; exact h.c7
  · rw [cell_set_other _ _ _ _ _ (by omega)]; exact h.c8
  · rw [cell_set_other _ _ _ _ _ (by omega)]; exact h.c9
  · rw [cell_set_other _ _ _ _ _ (by omega)]; exact h.c10
  · intro i hi; rw [cell_set_other _ _ _ _ _ (by omega)]; exact h.raw i hi
  · intro i hi; rw [cell_set_other _ _ _ _ _ (by omega)]; exact h.pal i hi
  · rw [cell_set_other _ _ _ _ _ (by omega)]; exact h.col
  · intro i hi; rw [cell_set_other _ _ _ _ _ (by omega)]; exact h.clr i hi
  · rw [cell_set_other _ _ _ _ _ (by omega)]; exact h.str
  · rw [cell_set_other _ _ _ _ _ (by omega)]; exact h.sp
  · rw [cell_set_other _ _ _ _ _ (by omega)]; exact h.sc
  · rw [cell_set_other _ _ _ _ _ (by omega)]; exact h.sd
  · rw [cell_set_other _ _ _ _ _ (by omega)]; exact h.dov
  · intro k; rw [World.frozen?_setCell]; exact h.fz k
theorem RdAt.set_hdH {w : World} {b : Nat} {s : Px.Rd} (h : RdAt w b s) (v : Nat) : RdAt (w.setCell ⟨b, 7, none⟩ (.int .i64 (v : Int))) b { s with hd := { s.hd with H := v } } := by
  constructor
  · rw [cell_set_other _ _ _ _ _ (by omega)]; exact h.c0
  · rw [cell_set_other _ _ _ _ _ (by omega)]; exact h.c1
  · rw [cell_set_other _ _ _ _ _ (by omega)]; exact h.c2
  · rw [cell_set_other _ _ _ _ _ (by omega)]; exact h.c3
  · rw [cell_set_other _ _ _ _ _ (by omega)]; exact h.c4
  · rw [cell_set_other _ _ _ _ _ (by omega)]; exact h.c5
  · rw [cell_set_other _ _ _ _ _ (by omega)]; exact h.c6
  · exact cell_set_same h.c7 _
  · rw [cell_set_other _ _ _ _ _ (by omega)]; exact h.c8
  · rw [cell_set_other _ _ _ _ _ (by omega)]; exact h.c9
  · rw [cell_set_other _ _ _ _ _ (by omega)]; exact h.c10
  · intro i hi; rw [cell_set_other _ _ _ _ _ (by omega)]; exact h.raw i hi
  · intro i hi; rw [cell_set_other _ _ _ _ _ (by omega)]; exact h.pal i hi
  · rw [cell_set_other _ _ _ _ _ (by omega)]; exact h.col
  · intro i hi; rw [cell_set_other _ _ _ _ _ (by omega)]; exact h.clr i hi
  · rw [cell_set_other _ _ _ _ _ (by omega)]; exact h.str
  · rw [cell_set_other _ _ _ _ _ (by omega)]; exact h.sp
  · rw [cell_set_other _ _ _ _ _ (by omega)]; exact h.sc
  · rw [cell_set_other _ _ _ _ _ (by omega)]; exact h.sd
  · rw [cell_set_other _ _ _ _ _ (by omega)]; exact h.dov
  · intro k; rw [World.frozen?_setCell]; exact h.fz k
theorem RdAt.set_hdD {w : World} {b : Nat} {s : Px.Rd} (h : RdAt w b s) (v : Nat) : RdAt (w.setCell ⟨b, 8, none⟩ (.int .i64 (v : Int))) b { s with hd := { s.hd with D := v } } := by
  constructor
  · rw [cell_set_other _ _ _ _ _ (by omega)]; exact h.c0
  · rw [cell_set_other _ _ _ _ _ (by omega)]; exact h.c1
  · rw [cell_set_other _ _ _ _ _ (by omega)]; exact h.c2
  · rw [cell_set_other _ _ _ _ _ (by omega)]; exact h.c3
  · rw [cell_set_other _ _ _ _ _ (by omega)]; exact h.c4
  · rw [cell_set_other _ _ _ _ _ (by omega)]; exact h.c5
  · rw [cell_set_other _ _ _ _ _ (by omega)]; exact h.c6
  · rw [cell_set_other _ _ _ _ _ (by omega)]; exact h.c7
  · exact cell_set_same h.c8 _
  · rw [cell_set_other _ _ _ _ _ (by omega)]; exact h.c9
  · rw [cell_set_other _ _ _ _ _ (by omega)]; exact h.c10
  · intro i hi; rw [cell_set_other _ _ _ _ _ (by omega)]; exact h.raw i hi
  · intro i hi; rw [cell_set_other _ _ _ _ _ (by omega)]; exact h.pal i hi
  · rw [cell_set_other _ _ _ _ _ (by omega)]; exact h.col
  · intro i hi; rw [cell_set_other _ _ _ _ _ (by omega)]; exact h.clr i hi
  · rw [cell_set_other _ _ _ _ _ (by omega)]; exact h.str
  · rw [cell_set_other _ _ _ _ _ (by omega)]; exact h.sp
  · rw [cell_set_other _ _ _ _ _ (by omega)]; exact h.sc
  · rw [cell_set_other _ _ _ _ _ (by omega)]; exact h.sd
  · rw [cell_set_other _ _ _ _ _ (by omega)]; exact h.dov
  · intro k; rw [World.frozen?_setCell]; exact h.fz k
theorem RdAt.set_hdK {w : World} {b : Nat} {s : Px.Rd} (h : RdAt w b s) (v : Nat) : RdAt (w.setCell ⟨b, 9, none⟩ (.int .i64 (v : Int))) b { s with hd := { s.hd with K := v } } := by
  constructor
  · rw [cell_set_other _ _ _ _ _ (by omega)]; exact h.c0
  · rw [cell_set_other _ _ _ _ _ (by omega)]; exact h.c1
  · rw [cell_set_other _ _ _ _ _ (by omega)]; exact h.c2
  · rw [cell_set_other _ _ _ _ _ (by omega)]; exact h.c3
  · rw [cell_set_other _ _ _ _ _ (by omega)]; exact h.c4
  · rw [cell_set_other _ _ _ _ _ (by omega)]; exact h.c5
  · rw [cell_set_other _ _ _ _ _ (by omega)]; exact h.c6
  · rw [cell_set_other _ _ _ _ _ (by omega)]; exact h.c7
  · rw [cell_set_other _ _ _ _ _ (by omega)]; exact h.c8
  · exact cell_set_same h.c9 _
  · rw [cell_set_other _ _ _ _ _ (by omega)]; exact h.c10
  · intro i hi; rw [cell_set_other _ _ _ _ _ (by omega)]; exact h.raw i hi
  · intro i hi; rw [cell_set_other _ _ _ _ _ (by omega)]; exact h.pal i hi
  · rw [cell_set_other _ _ _ _ _ (by omega)]; exact h.col
  · intro i hi; rw [cell_set_other _ _ _ _ _ (by omega)]; exact h.clr i hi
  · rw [cell_set_other _ _ _ _ _ (by omega)]; exact h.str
  · rw [cell_set_other _ _ _ _ _ (by omega)]; exact h.sp
  · rw [cell_set_other _ _ _ _ _ (by omega)]; exact h.sc
  · rw [cell_set_other _ _ _ _ _ (by omega)]; exact h.sd
  · rw [cell_set_other _ _ _ _ _ (by omega)]; exact h.dov
  · intro k; rw [World.frozen?_setCell]; exact h.fz k
theorem RdAt.set_hdL {w : World} {b : Nat} {s : Px.Rd} (h : RdAt w b s) (v : Nat) : RdAt (w.setCell ⟨b, 10, none⟩ (.int .i64 (v : Int))) b { s with hd := { s.hd with L := v } } := by
  constructor
  · rw [cell_set_other _ _ _ _ _ (by omega)]; exact h.c0
  · rw [cell_set_other _ _ _ _ _ (by omega)]; exact h.c1
  · rw [cell_set_other _ _ _ _ _ (by omega)]; exact h.c2
  · rw [cell_set_other _ _ _ _ _ (by omega)]; exact h.c3
  · rw [cell_set_other _ _ _ _ _ (by omega)]; exact h.c4
  · rw [cell_set_other _ _ _ _ _ (by omega)]; exact h.c5
  · rw [cell_set_other _ _ _ _ _ (by omega)]; exact h.c6
  · rw [cell_set_other _ _ _ _ _ (by omega)]; exact h.c7
  · rw [cell_set_other _ _ _ _ _ (by omega)]; exact h.c8
  · rw [cell_set_other _ _ _ _ _ (by omega)]; exact h.c9
  · exact cell_set_same h.c10 _
  · intro i hi; rw [cell_set_other _ _ _ _ _ (by omega)]; exact h.raw i hi
  · intro i hi; rw [cell_set_other _ _ _ _ _ (by omega)]; exact h.pal i hi
  · rw [cell_set_other _ _ _ _ _ (by omega)]; exact h.col
  · intro i hi; rw [cell_set_other _ _ _ _ _ (by omega)]; exact h.clr i hi
  · rw [cell_set_other _ _ _ _ _ (by omega)]; exact h.str
  · rw [cell_set_other _ _ _ _ _ (by omega)]; exact h.sp
  · rw [cell_set_other _ _ _ _ _ (by omega)]; exact h.sc
  · rw [cell_set_other _ _ _ _ _ (by omega)]; exact h.sd
  · rw [cell_set_other _ _ _ _ _ (by omega)]; exact h.dov
  · intro k; rw [World.frozen?_setCell]; exact h.fz k
theorem RdAt.set_raw {w : World} {b : Nat} {s : Px.Rd} (h : RdAt w b s) (t v : Nat) (ht : t < 13) : RdAt (w.setCell ⟨b, 11 + t, none⟩ (.int .u8 (v : Int))) b { s with raw := Px.upd s.raw t v } := by
  constructor
  · rw [cell_set_other _ _ _ _ _ (by omega)]; exact h.c0
  · rw [cell_set_other _ _ _ _ _ (by omega)]; exact h.c1
  · rw [cell_set_other _ _ _ _ _ (by omega)]; exact h.c2
  · rw [cell_set_other _ _ _ _ _ (by omega)]; exact h.c3
  · rw [cell_set_other _ _ _ _ _ (by omega)]; exact h.c4
  · rw [cell_set_other _ _ _ _ _ (by omega)]; exact h.c5
  · rw [cell_set_other _ _ _ _ _ (by omega)]; exact h.c6
  · rw [cell_set_other _ _ _ _ _ (by omega)]; exact h.c7
  · rw [cell_set_other _ _ _ _ _ (by omega)]; exact h.c8
  · rw [cell_set_other _ _ _ _ _ (by omega)]; exact h.c9
  · rw [cell_set_other _ _ _ _ _ (by omega)]; exact h.c10
  · intro i hi
    show _ = some (Value.int .u8 ((Px.upd s.raw t v i : Nat) : Int))
    unfold Px.upd
    by_cases e : i = t
    · subst e; rw [if_pos rfl]; exact cell_set_same (h.raw i hi) _
    · rw [if_neg e, cell_set_other _ _ _ _ _ (by omega)]; exact h.raw i hi
  · intro i hi; rw [cell_set_other _ _ _ _ _ (by omega)]; exact h.pal i hi
  · rw [cell_set_other _ _ _ _ _ (by omega)]; exact h.col
  · intro i hi; rw [cell_set_other _ _ _ _ _ (by omega)]; exact h.clr i hi
  · rw [cell_set_other _ _ _ _ _ (by omega)]; exact h.str
  · rw [cell_set_other _ _ _ _ _ (by omega)]; exact h.sp
  · rw [cell_set_other _ _ _ _ _ (by omega)]; exact h.sc
  · rw [cell_set_other _ _ _ _ _ (by omega)]; exact h.sd
  · rw [cell_set_other _ _ _ _ _ (by omega)]; exact h.dov
  · intro k; rw [World.frozen?_setCell]; exact h.fz k
theorem RdAt.set_clear {w : World} {b : Nat} {s : Px.Rd} (h : RdAt w b s) (t v : Nat) (ht : t < 256) : RdAt (w.setCell ⟨b, 793 + t, none⟩ (.int .u8 (v : Int))) b { s with clear := Px.upd s.clear t v } := by
  constructor
  · rw [cell_set_other _ _ _ _ _ (by omega)]; exact h.c0
  · rw [cell_set_other _ _ _ _ _ (by omega)]; exact h.c1
  · rw [cell_set_other _ _ _ _ _ (by omega)]; exact h.c2
  · rw [cell_set_other _ _ _ _ _ (by omega)]; exact h.c3
  · rw [cell_set_other _ _ _ _ _ (by omega)]; exact h.c4
  · rw [cell_set_other _ _ _ _ _ (by omega)]; exact h.c5
  · rw [cell_set_other _ _ _ _ _ (by omega)]; exact h.c6
  · rw [cell_set_other _ _ _ _ _ (by omega)]; exact h.c7
  · rw [cell_set_other _ _ _ _ _ (by omega)]; exact h.c8
  · rw [cell_set_other _ _ _ _ _ (by omega)]; exact h.c9
  · rw [cell_set_other _ _ _ _ _ (by omega)]; exact h.c10
  · intro i hi; rw [cell_set_other _ _ _ _ _ (by omega)]; exact h.raw i hi
  · intro i hi; rw [cell_set_other _ _ _ _ _ (by omega)]; exact h.pal i hi
  · rw [cell_set_other _ _ _ _ _ (by omega)]; exact h.col
  · intro i hi
    show _ = some (Value.int .u8 ((Px.upd s.clear t v i : Nat) : Int))
    unfold Px.upd
    by_cases e : i = t
    · subst e; rw [if_pos rfl]; exact cell_set_same (h.clr i hi) _
    · rw [if_neg e, cell_set_other _ _ _ _ _ (by omega)]; exact h.clr i hi
  · rw [cell_set_other _ _ _ _ _ (by omega)]; exact h.str
  · rw [cell_set_other _ _ _ _ _ (by omega)]; exact h.sp
  · rw [cell_set_other _ _ _ _ _ (by omega)]; exact h.sc
  · rw [cell_set_other _ _ _ _ _ (by omega)]; exact h.sd
  · rw [cell_set_other _ _ _ _ _ (by omega)]; exact h.dov
  · intro k; rw [World.frozen?_setCell]; exact h.fz k
theorem RdAt.set_pal {w : World} {b : Nat} {s : Px.Rd} (h : RdAt w b s) (t v : Nat) (ht : t < 768) : RdAt (w.setCell ⟨b, 24 + t, none⟩ (.int .u8 (v : Int))) b s := by
  constructor
  · rw [cell_set_other _ _ _ _ _ (by omega)]; exact h.c0
  · rw [cell_set_other _ _ _ _ _ (by omega)]; exact h.c1
  · rw [cell_set_other _ _ _ _ _ (by omega)]; exact h.c2
  · rw [cell_set_other _ _ _ _ _ (by omega)]; exact h.c3
  · rw [cell_set_other _ _ _ _ _ (by omega)]; exact h.c4
  · rw [cell_set_other _ _ _ _ _ (by omega)]; exact h.c5
  · rw [cell_set_other _ _ _ _ _ (by omega)]; exact h.c6
  · rw [cell_set_other _ _ _ _ _ (by omega)]; exact h.c7
  · rw [cell_set_other _ _ _ _ _ (by omega)]; exact h.c8
  · rw [cell_set_other _ _ _ _ _ (by omega)]; exact h.c9
  · rw [cell_set_other _ _ _ _ _ (by omega)]; exact h.c10
  · intro i hi; rw [cell_set_other _ _ _ _ _ (by omega)]; exact h.raw i hi
  · intro i hi
    by_cases e : i = t
    · subst e; obtain ⟨u, hu⟩ := h.pal i hi; exact ⟨v, cell_set_same hu _⟩
    · rw [cell_set_other _ _ _ _ _ (by omega)]; exact h.pal i hi
  · rw [cell_set_other _ _ _ _ _ (by omega)]; exact h.col
  · intro i hi; rw [cell_set_other _ _ _ _ _ (by omega)]; exact h.clr i hi
  · rw [cell_set_other _ _ _ _ _ (by omega)]; exact h.str
  · rw [cell_set_other _ _ _ _ _ (by omega)]; exact h.sp
  · rw [cell_set_other _ _ _ _ _ (by omega)]; exact h.sc
  · rw [cell_set_other _ _ _ _ _ (by omega)]; exact h.sd
  · rw [cell_set_other _ _ _ _ _ (by omega)]; exact h.dov
  · intro k; rw [World.frozen?_setCell]; exact h.fz k
end Go.Proofs.YtdnpefabcholbaaGreat
