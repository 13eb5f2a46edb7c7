import Derived.Test.YtdnpefabcholbaaGreatW12
import Derived.BigRegion
import Derived.Deep.RegionWith
set_option linter.unusedSimpArgs false
set_option linter.unusedVariables false
namespace Go.Proofs.YtdnpefabcholbaaGreat
open Go.RowKit

/-- All blocks but b are as they were. -/
structure Oth (b : Nat) (w w' : World) : Prop where
  os : w'.os = w.os
  tape : w'.tape = w.tape
  output : w'.output = w.output
  size : w.heap.size ≤ w'.heap.size
  block : ∀ k, k < w.heap.size → k ≠ b → w'.heap[k]? = w.heap[k]?
theorem Oth.refl (b : Nat) (w : World) : Oth b w w := ⟨rfl, rfl, rfl, Nat.le_refl _, fun _ _ _ => rfl⟩
theorem Oth.trans {b : Nat} {x y z : World} (h : Oth b x y) (k : Oth b y z) : Oth b x z :=
  ⟨k.os.trans h.os, k.tape.trans h.tape, k.output.trans h.output, Nat.le_trans h.size k.size, fun i hi hn => (k.block i (Nat.lt_of_lt_of_le hi h.size) hn).trans (h.block i hi hn)⟩
theorem Oth.of_kept {b : Nat} {x y : World} (k : Kept x y) : Oth b x y := ⟨k.os, k.tape, k.output, k.size, fun i hi _ => k.block i hi⟩
theorem Oth.kept {b : Nat} {x y z : World} (h : Oth b x y) (k : Kept y z) : Oth b x z := h.trans (Oth.of_kept k)
theorem Oth.but {b : Nat} {x y z : World} (h : Oth b x y) (k : But b y z) : Oth b x z := h.trans ⟨k.os, k.tape, k.output, k.size, k.block⟩
theorem Oth.setCell {b : Nat} {x y : World} (h : Oth b x y) (k : Nat) (v : Value) : Oth b x (y.setCell ⟨b, k, none⟩ v) :=
  h.trans ⟨rfl, rfl, rfl, by simp [World.setCell], fun i _ hn => Below.heap_setCell _ _ _ _ hn⟩
theorem Oth.drewN {b : Nat} {x y : World} (h : Oth b x y) (n : Nat) : Oth b x (y.drewN n) := h.kept ((Kept.refl _).drewN n)
theorem Oth.alloc {b : Nat} {x y : World} (h : Oth b x y) (o : Obj) : Oth b x (y.alloc o) := h.kept ((Below.refl _ _).alloc (Nat.le_refl _) o)

/-- The program's decoder in block b. -/
structure DecAt (w : World) (b : Nat) (d : Px.Dec) : Prop where
  file : RdAt w b d.file
  cnt : w.cell? ⟨b, 1054, none⟩ = some (.int .i64 (d.count : Int))
  err : w.cell? ⟨b, 1055, none⟩ = some (.int .i64 (d.err : Int))
  at' : w.cell? ⟨b, 1056, none⟩ = some (.int .i64 (d.at' : Int))
theorem DecAt.lt {w : World} {b : Nat} {d : Px.Dec} (h : DecAt w b d) : b < w.heap.size := h.file.lt
theorem DecAt.same {w w' : World} {b : Nat} {d : Px.Dec} (h : DecAt w b d) (e : w'.heap[b]? = w.heap[b]?) : DecAt w' b d := by
  have hc : ∀ k, w'.cell? ⟨b, k, none⟩ = w.cell? ⟨b, k, none⟩ := fun k => World.cell?_of_block (w := w) e
  exact ⟨h.file.same e, by rw [hc]; exact h.cnt, by rw [hc]; exact h.err, by rw [hc]; exact h.at'⟩
theorem DecAt.drewN {w : World} {b : Nat} {d : Px.Dec} (h : DecAt w b d) (n : Nat) : DecAt (w.drewN n) b d := h.same rfl
theorem DecAt.kept {w w' : World} {b : Nat} {d : Px.Dec} (h : DecAt w b d) (e : Kept w w') : DecAt w' b d := h.same (e.block b h.lt)
theorem DecAt.but {w w' : World} {b : Nat} {d : Px.Dec} (h : DecAt w b d) (e : But b w w') {s : Px.Rd} (hs : RdAt w' b s) : DecAt w' b { d with file := s } :=
  ⟨hs, by rw [e.high h.lt _ (by omega)]; exact h.cnt, by rw [e.high h.lt _ (by omega)]; exact h.err, by rw [e.high h.lt _ (by omega)]; exact h.at'⟩
/-- A store behind the reader. -/
theorem RdAt.high {w : World} {b : Nat} {s : Px.Rd} (h : RdAt w b s) (k : Nat) (v : Value) (hk : 1054 ≤ k) : RdAt (w.setCell ⟨b, k, none⟩ v) b s := by
  constructor
  · rw [cell_set_other _ _ _ _ _ (by omega)]; exact h.c0
  · rw [cell_set_other _ _ _ _ _ (by omega)]; exact h.c1
  · rw [cell_set_other _ _ _ _ _ (by omega)]; exact h.c2
  · rw [cell_set_other _ _ _ _ _ (by omega)]; exact h.c3
  · rw [cell_set_other _ _ _ _ _ (by omega)]; exact h.c4
  · rw [cell_set_other _ _ _ _ _ (by omega)]; exact h.c5
  · rw [cell_set_other _ _ _ _ _ (by omega)]; exact h.c6
  · rw [cell_set_other _ _ _ _ _ (by omega)]; exact h.c7
  · rw [cell_set_other _ _ _ _ _ (by omega)]; exact h.c8
  · rw [cell_set_other _ _ _ _ _ (by omega)]; exact h.c9
  · rw [cell_set_other _ _ _ _ _ (by omega)]; exact h.c10
  · intro i hi; rw [cell_set_other _ _ _ _ _ (by omega)]; exact h.raw i hi
  · intro i hi; rw [cell_set_other _ _ _ _ _ (by omega)]; exact h.pal i hi
  · rw [cell_set_other _ _ _ _ _ (by omega)]; exact h.col
  · intro i hi; rw [cell_set_other _ _ _ _ _ (by omega)]; exact h.clr i hi
  · rw [cell_set_other _ _ _ _ _ (by omega)]; exact h.str
  · rw [cell_set_other _ _ _ _ _ (by omega)]; exact h.sp
  · rw [cell_set_other _ _ _ _ _ (by omega)]; exact h.sc
  · rw [cell_set_other _ _ _ _ _ (by omega)]; exact h.sd
  · rw [cell_set_other _ _ _ _ _ (by omega)]; exact h.dov
  · intro k; rw [World.frozen?_setCell]; exact h.fz k
theorem DecAt.set_count {w : World} {b : Nat} {d : Px.Dec} (h : DecAt w b d) (v : Nat) : DecAt (w.setCell ⟨b, 1054, none⟩ (.int .i64 (v : Int))) b { d with count := v } :=
  ⟨h.file.high _ _ (by omega), cell_set_same h.cnt _, by rw [cell_set_other _ _ _ _ _ (by omega)]; exact h.err, by rw [cell_set_other _ _ _ _ _ (by omega)]; exact h.at'⟩
theorem DecAt.set_err {w : World} {b : Nat} {d : Px.Dec} (h : DecAt w b d) (v : Nat) : DecAt (w.setCell ⟨b, 1055, none⟩ (.int .i64 (v : Int))) b { d with err := v } :=
  ⟨h.file.high _ _ (by omega), by rw [cell_set_other _ _ _ _ _ (by omega)]; exact h.cnt, cell_set_same h.err _, by rw [cell_set_other _ _ _ _ _ (by omega)]; exact h.at'⟩
theorem DecAt.set_at {w : World} {b : Nat} {d : Px.Dec} (h : DecAt w b d) (v : Nat) : DecAt (w.setCell ⟨b, 1056, none⟩ (.int .i64 (v : Int))) b { d with at' := v } :=
  ⟨h.file.high _ _ (by omega), by rw [cell_set_other _ _ _ _ _ (by omega)]; exact h.cnt, by rw [cell_set_other _ _ _ _ _ (by omega)]; exact h.err, cell_set_same h.at' _⟩

set_option maxHeartbeats 400000 in
theorem fail_any (b : Nat) (d : Px.Dec) (v : Nat) (w : World) (h : DecAt w b d) :
    Calls Tryz.prog 23 #[.pointer (some ⟨b, 0, none⟩), .int .i64 (v : Int)] w fun e w' => e = .returned (.tuple #[]) ∧ DecAt w' b { d with err := v, at' := d.count } ∧ Oth b w w' := by
  have c0 := h.cnt
  have c1 := h.err
  have c2 := h.at'
  have hf := h.file.fz
  go_enter Tryz.func23, Tryz.ntmps23
  go_wp2
  go_end0
  exact ⟨rfl, (h.set_err v).set_at d.count, ((Oth.refl _ _).setCell _ _).setCell _ _⟩
set_option maxHeartbeats 400000 in
theorem ended_any (b : Nat) (s : Px.Rd) (w : World) (h : RdAt w b s) :
    Calls Tryz.prog 24 #[.pointer (some ⟨b, 0, none⟩)] w fun e w' => e = .returned (.bool (((s.part : Int) == 5))) ∧ w' = w := by
  have c0 := h.c0
  go_enter Tryz.func24, Tryz.ntmps24
  go_wp2
  go_ret
  exact ⟨rfl, rfl⟩
set_option maxHeartbeats 400000 in
theorem head_any (b : Nat) (s : Px.Rd) (w : World) (h : RdAt w b s) :
    Calls Tryz.prog 25 #[.pointer (some ⟨b, 0, none⟩)] w fun e w' => e = .returned (hdV s.hd) ∧ Kept w w' := by
  have c6 := h.c6
  have c7 := h.c7
  have c8 := h.c8
  have c9 := h.c9
  have c10 := h.c10
  have hbl := h.lt
  go_enter Tryz.func25, Tryz.ntmps25
  go_wp2
  refine bodyPost_ret (v := hdV s.hd) (by simp [results, Tryz.results25, go_sem]) rfl ⟨rfl, ?_⟩
  go_grown

def bsOf (s : ByteArray) : List Nat := s.data.toList.map UInt8.toNat
theorem bsOf_length (s : ByteArray) : (bsOf s).length = s.size := by unfold bsOf; simp
theorem bsOf_get (s : ByteArray) (k : Nat) (h : k < s.size) : (bsOf s)[k]'(by rw [bsOf_length]; exact h) = s[k].toNat := by
  unfold bsOf; simp; rfl
theorem bsOf_lt (s : ByteArray) : ∀ x ∈ bsOf s, x < 256 := by
  intro x hx; unfold bsOf at hx; rw [List.mem_map] at hx; obtain ⟨u, _, rfl⟩ := hx; exact u.toNat_lt

def cleanD : Px.Dec → List Nat → Prop
  | _, [] => True
  | d, x :: r => (d.err = 0 → okStep d.file x) ∧ cleanD (d.one x) r
theorem one_err {d : Px.Dec} (h : d.err ≠ 0) (x : Nat) : d.one x = d := by unfold Px.Dec.one; rw [if_pos h]
theorem feed_err {d : Px.Dec} (h : d.err ≠ 0) (l : List Nat) : d.feed l = d := by
  induction l with
  | nil => rfl
  | cons x r ih => show Px.Dec.feed (d.one x) r = d; rw [one_err h]; exact ih
theorem feed_snoc (d : Px.Dec) (l : List Nat) (x : Nat) : d.feed (l ++ [x]) = (d.feed l).one x := by unfold Px.Dec.feed; rw [List.foldl_append]; rfl
theorem feed_append (d : Px.Dec) (l r : List Nat) : d.feed (l ++ r) = (d.feed l).feed r := by unfold Px.Dec.feed; rw [List.foldl_append]
theorem cleanD_take {d : Px.Dec} {l : List Nat} (h : cleanD d l) (k : Nat) (hk : k < l.length) : (d.feed (l.take k)).err = 0 → okStep (d.feed (l.take k)).file l[k] := by
  induction l generalizing d k with
  | nil => simp at hk
  | cons x r ih =>
    cases k with
    | zero => exact h.1
    | succ k => exact ih h.2 k (by simpa using hk)

structure DInv (d : Px.Dec) : Prop where
  inv : Inv d.file
theorem one_inv {d : Px.Dec} (h : DInv d) (x : Nat) (hx : x < 256) (hc : d.err = 0 → okStep d.file x) : DInv (d.one x) := by
  unfold Px.Dec.one
  (repeat' split)
  · exact h
  · rename_i a b; exact ⟨take_inv h.inv x hx (hc (by omega))⟩
  · rename_i a b; exact ⟨take_inv h.inv x hx (hc (by omega))⟩
theorem feed_inv {d : Px.Dec} (h : DInv d) (l : List Nat) (hl : ∀ x ∈ l, x < 256) (hc : cleanD d l) : DInv (d.feed l) := by
  induction l generalizing d with
  | nil => exact h
  | cons x r ih => exact ih (one_inv h x (hl x (by simp)) hc.1) (fun y hy => hl y (by simp [hy])) hc.2
theorem one_count {d : Px.Dec} (x : Nat) : (d.one x).count ≤ d.count + 1 := by unfold Px.Dec.one; (repeat' split) <;> simp
theorem feed_count {d : Px.Dec} (l : List Nat) : (d.feed l).count ≤ d.count + l.length := by
  induction l generalizing d with
  | nil => simp [Px.Dec.feed]
  | cons x r ih =>
    have h1 := @ih (d.one x)
    have h2 := @one_count d x
    show (Px.Dec.feed (d.one x) r).count ≤ _
    simp only [List.length_cons]
    omega
theorem cleanD_snoc {d : Px.Dec} {l : List Nat} (h : cleanD d l) (k : Nat) : cleanD d (l.take k) := by
  induction l generalizing d k with
  | nil => simp [cleanD]
  | cons x r ih =>
    cases k with
    | zero => simp [cleanD]
    | succ k => exact ⟨h.1, ih h.2 k⟩
end Go.Proofs.YtdnpefabcholbaaGreat
