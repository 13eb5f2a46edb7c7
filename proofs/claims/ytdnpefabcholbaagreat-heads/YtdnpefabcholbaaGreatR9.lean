import Derived.Test.YtdnpefabcholbaaGreatR4
import Derived.Test.YtdnpefabcholbaaGreatR8
import Derived.Test.YtdnpefabcholbaaGreatW8
namespace Go.Proofs.YtdnpefabcholbaaGreat
open Go.RowKit
set_option linter.unusedSimpArgs false
set_option linter.unusedVariables false

theorem FlAt.set_on {w : World} {b : Nat} {f : Px.Fl} {e a : Nat} (h : FlAt w b f e a) : FlAt (w.setCell ⟨b, 0, none⟩ (.bool true)) b { f with on := true } e a := by
  constructor
  · exact cell_set_same h.c0 _
  · rw [cell_set_other _ _ _ _ _ (by omega)]; exact h.c1
  · rw [cell_set_other _ _ _ _ _ (by omega)]; exact h.c2
  · rw [cell_set_other _ _ _ _ _ (by omega)]; exact h.c3
  · rw [cell_set_other _ _ _ _ _ (by omega)]; exact h.c4
  · rw [cell_set_other _ _ _ _ _ (by omega)]; exact h.c5
  · rw [cell_set_other _ _ _ _ _ (by omega)]; exact h.c6
  · rw [cell_set_other _ _ _ _ _ (by omega)]; exact h.c7
  · rw [cell_set_other _ _ _ _ _ (by omega)]; exact h.c8
  · rw [cell_set_other _ _ _ _ _ (by omega)]; exact h.c9
  · rw [cell_set_other _ _ _ _ _ (by omega)]; exact h.c10
  · rw [cell_set_other _ _ _ _ _ (by omega)]; exact h.c11
  · rw [cell_set_other _ _ _ _ _ (by omega)]; exact h.c12
  · rw [cell_set_other _ _ _ _ _ (by omega)]; exact h.c13
  · rw [cell_set_other _ _ _ _ _ (by omega)]; exact h.c14
  · rw [cell_set_other _ _ _ _ _ (by omega)]; exact h.c15
  · rw [cell_set_other _ _ _ _ _ (by omega)]; exact h.c16
  · intro k; rw [World.frozen?_setCell]; exact h.fz k
theorem FlAt.set_W {w : World} {b : Nat} {f : Px.Fl} {e a : Nat} (h : FlAt w b f e a) (v : Nat) : FlAt (w.setCell ⟨b, 1, none⟩ (.int .i64 (v : Int))) b { f with hd := { f.hd with W := v } } e a := by
  constructor
  · rw [cell_set_other _ _ _ _ _ (by omega)]; exact h.c0
  · exact cell_set_same h.c1 _
  · rw [cell_set_other _ _ _ _ _ (by omega)]; exact h.c2
  · rw [cell_set_other _ _ _ _ _ (by omega)]; exact h.c3
  · rw [cell_set_other _ _ _ _ _ (by omega)]; exact h.c4
  · rw [cell_set_other _ _ _ _ _ (by omega)]; exact h.c5
  · rw [cell_set_other _ _ _ _ _ (by omega)]; exact h.c6
  · rw [cell_set_other _ _ _ _ _ (by omega)]; exact h.c7
  · rw [cell_set_other _ _ _ _ _ (by omega)]; exact h.c8
  · rw [cell_set_other _ _ _ _ _ (by omega)]; exact h.c9
  · rw [cell_set_other _ _ _ _ _ (by omega)]; exact h.c10
  · rw [cell_set_other _ _ _ _ _ (by omega)]; exact h.c11
  · rw [cell_set_other _ _ _ _ _ (by omega)]; exact h.c12
  · rw [cell_set_other _ _ _ _ _ (by omega)]; exact h.c13
  · rw [cell_set_other _ _ _ _ _ (by omega)]; exact h.c14
  · rw [cell_set_other _ _ _ _ _ (by omega)]; exact h.c15
  · rw [cell_set_other _ _ _ _ _ (by omega)]; exact h.c16
  · intro k; rw [World.frozen?_setCell]; exact h.fz k
theorem FlAt.set_H {w : World} {b : Nat} {f : Px.Fl} {e a : Nat} (h : FlAt w b f e a) (v : Nat) : FlAt (w.setCell ⟨b, 2, none⟩ (.int .i64 (v : Int))) b { f with hd := { f.hd with H := v } } e a := by
  constructor
  · rw [cell_set_other _ _ _ _ _ (by omega)]; exact h.c0
  · rw [cell_set_other _ _ _ _ _ (by omega)]; exact h.c1
  · exact cell_set_same h.c2 _
  · rw [cell_set_other _ _ _ _ _ (by omega)]; exact h.c3
  · rw [cell_set_other _ _ _ _ _ (by omega)]; exact h.c4
  · rw [cell_set_other _ _ _ _ _ (by omega)]; exact h.c5
  · rw [cell_set_other _ _ _ _ _ (by omega)]; exact h.c6
  · rw [cell_set_other _ _ _ _ _ (by omega)]; exact h.c7
  · rw [cell_set_other _ _ _ _ _ (by omega)]; exact h.c8
  · rw [cell_set_other _ _ _ _ _ (by omega)]; exact h.c9
  · rw [cell_set_other _ _ _ _ _ (by omega)]; exact h.c10
  · rw [cell_set_other _ _ _ _ _ (by omega)]; exact h.c11
  · rw [cell_set_other _ _ _ _ _ (by omega)]; exact h.c12
  · rw [cell_set_other _ _ _ _ _ (by omega)]; exact h.c13
  · rw [cell_set_other _ _ _ _ _ (by omega)]; exact h.c14
  · rw [cell_set_other _ _ _ _ _ (by omega)]; exact h.c15
  · rw [cell_set_other _ _ _ _ _ (by omega)]; exact h.c16
  · intro k; rw [World.frozen?_setCell]; exact h.fz k
theorem FlAt.set_D {w : World} {b : Nat} {f : Px.Fl} {e a : Nat} (h : FlAt w b f e a) (v : Nat) : FlAt (w.setCell ⟨b, 3, none⟩ (.int .i64 (v : Int))) b { f with hd := { f.hd with D := v } } e a := by
  constructor
  · rw [cell_set_other _ _ _ _ _ (by omega)]; exact h.c0
  · rw [cell_set_other _ _ _ _ _ (by omega)]; exact h.c1
  · rw [cell_set_other _ _ _ _ _ (by omega)]; exact h.c2
  · exact cell_set_same h.c3 _
  · rw [cell_set_other _ _ _ _ _ (by omega)]; exact h.c4
  · rw [cell_set_other _ _ _ _ _ (by omega)]; exact h.c5
  · rw [cell_set_other _ _ _ _ _ (by omega)]; exact h.c6
  · rw [cell_set_other _ _ _ _ _ (by omega)]; exact h.c7
  · rw [cell_set_other _ _ _ _ _ (by omega)]; exact h.c8
  · rw [cell_set_other _ _ _ _ _ (by omega)]; exact h.c9
  · rw [cell_set_other _ _ _ _ _ (by omega)]; exact h.c10
  · rw [cell_set_other _ _ _ _ _ (by omega)]; exact h.c11
  · rw [cell_set_other _ _ _ _ _ (by omega)]; exact h.c12
  · rw [cell_set_other _ _ _ _ _ (by omega)]; exact h.c13
  · rw [cell_set_other _ _ _ _ _ (by omega)]; exact h.c14
  · rw [cell_set_other _ _ _ _ _ (by omega)]; exact h.c15
  · rw [cell_set_other _ _ _ _ _ (by omega)]; exact h.c16
  · intro k; rw [World.frozen?_setCell]; exact h.fz k
theorem FlAt.set_K {w : World} {b : Nat} {f : Px.Fl} {e a : Nat} (h : FlAt w b f e a) (v : Nat) : FlAt (w.setCell ⟨b, 4, none⟩ (.int .i64 (v : Int))) b { f with hd := { f.hd with K := v } } e a := by
  constructor
  · rw [cell_set_other _ _ _ _ _ (by omega)]; exact h.c0
  · rw [cell_set_other _ _ _ _ _ (by omega)]; exact h.c1
  · rw [cell_set_other _ _ _ _ _ (by omega)]; exact h.c2
  · rw [cell_set_other _ _ _ _ _ (by omega)]; exact h.c3
  · exact cell_set_same h.c4 _
  · rw [cell_set_other _ _ _ _ _ (by omega)]; exact h.c5
  · rw [cell_set_other _ _ _ _ _ (by omega)]; exact h.c6
  · rw [cell_set_other _ _ _ _ _ (by omega)]; exact h.c7
  · rw [cell_set_other _ _ _ _ _ (by omega)]; exact h.c8
  · rw [cell_set_other _ _ _ _ _ (by omega)]; exact h.c9
  · rw [cell_set_other _ _ _ _ _ (by omega)]; exact h.c10
  · rw [cell_set_other _ _ _ _ _ (by omega)]; exact h.c11
  · rw [cell_set_other _ _ _ _ _ (by omega)]; exact h.c12
  · rw [cell_set_other _ _ _ _ _ (by omega)]; exact h.c13
  · rw [cell_set_other _ _ _ _ _ (by omega)]; exact h.c14
  · rw [cell_set_other _ _ _ _ _ (by omega)]; exact h.c15
  · rw [cell_set_other _ _ _ _ _ (by omega)]; exact h.c16
  · intro k; rw [World.frozen?_setCell]; exact h.fz k
theorem FlAt.set_L {w : World} {b : Nat} {f : Px.Fl} {e a : Nat} (h : FlAt w b f e a) (v : Nat) : FlAt (w.setCell ⟨b, 5, none⟩ (.int .i64 (v : Int))) b { f with hd := { f.hd with L := v } } e a := by
  constructor
  · rw [cell_set_other _ _ _ _ _ (by omega)]; exact h.c0
  · rw [cell_set_other _ _ _ _ _ (by omega)]; exact h.c1
  · rw [cell_set_other _ _ _ _ _ (by omega)]; exact h.c2
  · rw [cell_set_other _ _ _ _ _ (by omega)]; exact h.c3
  · rw [cell_set_other _ _ _ _ _ (by omega)]; exact h.c4
  · exact cell_set_same h.c5 _
  · rw [cell_set_other _ _ _ _ _ (by omega)]; exact h.c6
  · rw [cell_set_other _ _ _ _ _ (by omega)]; exact h.c7
  · rw [cell_set_other _ _ _ _ _ (by omega)]; exact h.c8
  · rw [cell_set_other _ _ _ _ _ (by omega)]; exact h.c9
  · rw [cell_set_other _ _ _ _ _ (by omega)]; exact h.c10
  · rw [cell_set_other _ _ _ _ _ (by omega)]; exact h.c11
  · rw [cell_set_other _ _ _ _ _ (by omega)]; exact h.c12
  · rw [cell_set_other _ _ _ _ _ (by omega)]; exact h.c13
  · rw [cell_set_other _ _ _ _ _ (by omega)]; exact h.c14
  · rw [cell_set_other _ _ _ _ _ (by omega)]; exact h.c15
  · rw [cell_set_other _ _ _ _ _ (by omega)]; exact h.c16
  · intro k; rw [World.frozen?_setCell]; exact h.fz k
theorem FlAt.set_hasPal {w : World} {b : Nat} {f : Px.Fl} {e a : Nat} (h : FlAt w b f e a) : FlAt (w.setCell ⟨b, 6, none⟩ (.bool true)) b { f with hasPal := true } e a := by
  constructor
  · rw [cell_set_other _ _ _ _ _ (by omega)]; exact h.c0
  · rw [cell_set_other _ _ _ _ _ (by omega)]; exact h.c1
  · rw [cell_set_other _ _ _ _ _ (by omega)]; exact h.c2
  · rw [cell_set_other _ _ _ _ _ (by omega)]; exact h.c3
  · rw [cell_set_other _ _ _ _ _ (by omega)]; exact h.c4
  · rw [cell_set_other _ _ _ _ _ (by omega)]; exact h.c5
  · exact cell_set_same h.c6 _
  · rw [cell_set_other _ _ _ _ _ (by omega)]; exact h.c7
  · rw [cell_set_other _ _ _ _ _ (by omega)]; exact h.c8
  · rw [cell_set_other _ _ _ _ _ (by omega)]; exact h.c9
  · rw [cell_set_other _ _ _ _ _ (by omega)]; exact h.c10
  · rw [cell_set_other _ _ _ _ _ (by omega)]; exact h.c11
  · rw [cell_set_other _ _ _ _ _ (by omega)]; exact h.c12
  · rw [cell_set_other _ _ _ _ _ (by omega)]; exact h.c13
  · rw [cell_set_other _ _ _ _ _ (by omega)]; exact h.c14
  · rw [cell_set_other _ _ _ _ _ (by omega)]; exact h.c15
  · rw [cell_set_other _ _ _ _ _ (by omega)]; exact h.c16
  · intro k; rw [World.frozen?_setCell]; exact h.fz k
theorem FlAt.set_hasClear {w : World} {b : Nat} {f : Px.Fl} {e a : Nat} (h : FlAt w b f e a) : FlAt (w.setCell ⟨b, 7, none⟩ (.bool true)) b { f with hasClear := true } e a := by
  constructor
  · rw [cell_set_other _ _ _ _ _ (by omega)]; exact h.c0
  · rw [cell_set_other _ _ _ _ _ (by omega)]; exact h.c1
  · rw [cell_set_other _ _ _ _ _ (by omega)]; exact h.c2
  · rw [cell_set_other _ _ _ _ _ (by omega)]; exact h.c3
  · rw [cell_set_other _ _ _ _ _ (by omega)]; exact h.c4
  · rw [cell_set_other _ _ _ _ _ (by omega)]; exact h.c5
  · rw [cell_set_other _ _ _ _ _ (by omega)]; exact h.c6
  · exact cell_set_same h.c7 _
  · rw [cell_set_other _ _ _ _ _ (by omega)]; exact h.c8
  · rw [cell_set_other _ _ _ _ _ (by omega)]; exact h.c9
  · rw [cell_set_other _ _ _ _ _ (by omega)]; exact h.c10
  · rw [cell_set_other _ _ _ _ _ (by omega)]; exact h.c11
  · rw [cell_set_other _ _ _ _ _ (by omega)]; exact h.c12
  · rw [cell_set_other _ _ _ _ _ (by omega)]; exact h.c13
  · rw [cell_set_other _ _ _ _ _ (by omega)]; exact h.c14
  · rw [cell_set_other _ _ _ _ _ (by omega)]; exact h.c15
  · rw [cell_set_other _ _ _ _ _ (by omega)]; exact h.c16
  · intro k; rw [World.frozen?_setCell]; exact h.fz k
theorem FlAt.set_pal {w : World} {b : Nat} {f : Px.Fl} {e a : Nat} (h : FlAt w b f e a) (p : Option Addr) (n c : Nat) : FlAt (w.setCell ⟨b, 8, none⟩ (.slice p n c)) b { f with palN := n } e a := by
  obtain ⟨q, r, h8⟩ := h.c8
  constructor
  · rw [cell_set_other _ _ _ _ _ (by omega)]; exact h.c0
  · rw [cell_set_other _ _ _ _ _ (by omega)]; exact h.c1
  · rw [cell_set_other _ _ _ _ _ (by omega)]; exact h.c2
  · rw [cell_set_other _ _ _ _ _ (by omega)]; exact h.c3
  · rw [cell_set_other _ _ _ _ _ (by omega)]; exact h.c4
  · rw [cell_set_other _ _ _ _ _ (by omega)]; exact h.c5
  · rw [cell_set_other _ _ _ _ _ (by omega)]; exact h.c6
  · rw [cell_set_other _ _ _ _ _ (by omega)]; exact h.c7
  · exact ⟨p, c, cell_set_same h8 _⟩
  · rw [cell_set_other _ _ _ _ _ (by omega)]; exact h.c9
  · rw [cell_set_other _ _ _ _ _ (by omega)]; exact h.c10
  · rw [cell_set_other _ _ _ _ _ (by omega)]; exact h.c11
  · rw [cell_set_other _ _ _ _ _ (by omega)]; exact h.c12
  · rw [cell_set_other _ _ _ _ _ (by omega)]; exact h.c13
  · rw [cell_set_other _ _ _ _ _ (by omega)]; exact h.c14
  · rw [cell_set_other _ _ _ _ _ (by omega)]; exact h.c15
  · rw [cell_set_other _ _ _ _ _ (by omega)]; exact h.c16
  · intro k; rw [World.frozen?_setCell]; exact h.fz k
theorem FlAt.set_clear {w : World} {b : Nat} {f : Px.Fl} {e a : Nat} (h : FlAt w b f e a) (v : Value) : FlAt (w.setCell ⟨b, 9, none⟩ v) b f e a := by
  obtain ⟨q, h9⟩ := h.c9
  constructor
  · rw [cell_set_other _ _ _ _ _ (by omega)]; exact h.c0
  · rw [cell_set_other _ _ _ _ _ (by omega)]; exact h.c1
  · rw [cell_set_other _ _ _ _ _ (by omega)]; exact h.c2
  · rw [cell_set_other _ _ _ _ _ (by omega)]; exact h.c3
  · rw [cell_set_other _ _ _ _ _ (by omega)]; exact h.c4
  · rw [cell_set_other _ _ _ _ _ (by omega)]; exact h.c5
  · rw [cell_set_other _ _ _ _ _ (by omega)]; exact h.c6
  · rw [cell_set_other _ _ _ _ _ (by omega)]; exact h.c7
  · rw [cell_set_other _ _ _ _ _ (by omega)]; exact h.c8
  · exact ⟨v, cell_set_same h9 _⟩
  · rw [cell_set_other _ _ _ _ _ (by omega)]; exact h.c10
  · rw [cell_set_other _ _ _ _ _ (by omega)]; exact h.c11
  · rw [cell_set_other _ _ _ _ _ (by omega)]; exact h.c12
  · rw [cell_set_other _ _ _ _ _ (by omega)]; exact h.c13
  · rw [cell_set_other _ _ _ _ _ (by omega)]; exact h.c14
  · rw [cell_set_other _ _ _ _ _ (by omega)]; exact h.c15
  · rw [cell_set_other _ _ _ _ _ (by omega)]; exact h.c16
  · intro k; rw [World.frozen?_setCell]; exact h.fz k

theorem FlAt.drewN {w : World} {b : Nat} {f : Px.Fl} {e a : Nat} (h : FlAt w b f e a) (n : Nat) : FlAt (w.drewN n) b f e a := h.same rfl
theorem seg4 (d : ByteArray) (i : Nat) (h : i + 4 ≤ d.size) : Px.numb (seg d i 4) = ((gb d i * 256 + gb d (i + 1)) * 256 + gb d (i + 2)) * 256 + gb d (i + 3) := by
  rw [seg_succ d i 3 (by omega), seg_succ d i 2 (by omega), seg_succ d i 1 (by omega), seg_succ d i 0 (by omega), numb_snoc, numb_snoc, numb_snoc, numb_snoc]
  rw [gb_eq d (i + 3) (by omega), gb_eq d (i + 2) (by omega), gb_eq d (i + 1) (by omega), gb_eq d (i + 0) (by omega)]
  have : Px.numb (seg d i 0) = 0 := rfl
  rw [this, Nat.add_zero]
  omega

end Go.Proofs.YtdnpefabcholbaaGreat
