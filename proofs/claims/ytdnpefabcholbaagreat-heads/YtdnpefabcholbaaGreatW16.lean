import Derived.Test.YtdnpefabcholbaaGreatW14
set_option linter.unusedSimpArgs false
set_option linter.unusedVariables false
namespace Go.Proofs.YtdnpefabcholbaaGreat
open Go.RowKit
theorem kept_drew (w : World) : Kept w w.drew := (Below.refl _ _).drew

set_option maxHeartbeats 400000 in
theorem head_all (b : Nat) (s : Px.Rd) (w : World) (h : RdAt w b s) :
    Calls Tryz.prog 25 #[.pointer (some ⟨b, 0, none⟩)] w fun e w' => e = .returned (hdV s.hd) ∧ w' = w.alloc (.cells #[.int .i64 (s.hd.W : Int), .int .i64 (s.hd.H : Int), .int .i64 (s.hd.D : Int), .int .i64 (s.hd.K : Int), .int .i64 (s.hd.L : Int)] 39) := by
  have c6 := h.c6
  have c7 := h.c7
  have c8 := h.c8
  have c9 := h.c9
  have c10 := h.c10
  have hbl := h.lt
  go_enter Tryz.func25, Tryz.ntmps25
  go_wp2
  refine bodyPost_ret (v := hdV s.hd) (by simp [results, Tryz.results25, go_sem]) rfl ⟨rfl, rfl⟩

def zeros (n : Nat) : Array Value := Array.replicate n (.int .i64 0)
theorem info3 : (Tryz.prog.info? 3).map (fun i => (i.zero, i.size, i.bytes)) = some (some (.int .i64 0), 1, 8) := by kernel_rfl
theorem made_zeros (n : Nat) : madeCells (Value.int .i64 0).cells (n * 1) = zeros n := by
  unfold madeCells zeros
  rw [Nat.mul_one]
  apply Array.ext
  · simp
  · intro i h1 h2
    simp [Value.cells, Nat.mod_one]
theorem make_zeros (n : Nat) (hn : n ≤ 1024) (C : Int) (hC : C = (n : Int)) (w : World) :
    (Instr.makeSlice 30 (.int .i64 C) (.int .i64 C)).run Tryz.prog w = .ok (.slice (some ⟨w.heap.size, 0, none⟩) n n) (w.alloc (.cells (zeros n) 3)) := by
  obtain ⟨i0, hi, hz0, hz1, hz2⟩ := info_parts info3
  subst hC
  have := run_make (P := Tryz.prog) w 30 3 i0 (.int .i64 0) Tryz.underlying30 hi hz0 .i64 .i64 n n (by omega) (by omega) (by rw [hz2]; omega) (by omega)
  rw [this, hz1, Int.toNat_natCast, made_zeros]

/-- A fresh list of n noughts without spare room; nil if it is empty. -/
def ZT (w : World) (base n : Nat) (v : Value) : Prop :=
  (n = 0 ∧ v = .slice none 0 0) ∨ ∃ g, v = .slice (some ⟨g, 0, none⟩) n n ∧ 0 < n ∧ base ≤ g ∧ g < w.heap.size ∧ ∀ i, i < n → w.cell? ⟨g, i, none⟩ = some (.int .i64 0)
theorem ZT.nil (w : World) (base : Nat) : ZT w base 0 (.slice none 0 0) := Or.inl ⟨rfl, rfl⟩
theorem ZT.kept {w w' : World} {base n : Nat} {v : Value} (h : ZT w base n v) (k : Kept w w') : ZT w' base n v := by
  rcases h with h | ⟨g, h1, h2, h3, h4, h5⟩
  · exact Or.inl h
  · exact Or.inr ⟨g, h1, h2, h3, Nat.lt_of_lt_of_le h4 k.size, fun i hi => by rw [k.cell (p := ⟨g, i, none⟩) h4]; exact h5 i hi⟩
theorem ZT.made (w : World) (base n : Nat) (hn : 0 < n) (hb : base ≤ w.heap.size) : ZT (w.alloc (.cells (zeros n) 3)) base n (.slice (some ⟨w.heap.size, 0, none⟩) n n) := by
  refine Or.inr ⟨w.heap.size, rfl, hn, hb, by simp, fun i hi => ?_⟩
  rw [World.cell?_alloc_at _ _ _ _ rfl]
  unfold zeros
  rw [Array.getElem?_replicate, if_pos hi]

theorem ZT.made' (w : World) (base n g : Nat) (hg : g = w.heap.size) (hn : 0 < n) (hb : base ≤ w.heap.size) : ZT (w.alloc (.cells (zeros n) 3)) base n (.slice (some ⟨g, 0, none⟩) n n) := by
  subst hg; exact ZT.made w base n hn hb
theorem Kept.alloc (w : World) (o : Obj) : Kept w (w.alloc o) := (Below.refl _ _).alloc (Nat.le_refl _) o
abbrev snapV (e a : Nat) (dn : Bool) (h : Px.Hd) (vk vp vs : Value) : Value :=
  .agg #[.int .i64 (e : Int), .int .i64 (a : Int), .bool dn, .int .i64 (h.W : Int), .int .i64 (h.H : Int), .int .i64 (h.K : Int), .int .i64 (h.D : Int), .int .i64 (h.L : Int), vk, vp, vs]
def hdOut (h : Px.Hd) : Px.Hd := if h.W = 0 then ⟨0, 0, 0, 0, 0⟩ else h

set_option maxHeartbeats 3200000 in
theorem snap_any (b : Nat) (d : Px.Dec) (w : World) (h : DecAt w b d) (hv : DInv d) (hp : d.file.part ≠ 5) (hH1 : d.file.hd.W ≠ 0 → 1 ≤ d.file.hd.H) :
    Calls Tryz.prog 14 #[.pointer (some ⟨b, 0, none⟩)] w fun e w' => (∃ vk vp vs, e = .returned (snapV d.err d.at' false (hdOut d.file.hd) vk vp vs)
      ∧ ZT w' w.heap.size ((hdOut d.file.hd).W * (hdOut d.file.hd).H) vk ∧ ZT w' w.heap.size (4 * ((hdOut d.file.hd).W * (hdOut d.file.hd).H)) vp ∧ ZT w' w.heap.size (4 * ((hdOut d.file.hd).W * (hdOut d.file.hd).H)) vs) ∧ Kept w w' := by
  have c1 := h.err
  have c2 := h.at'
  have hbl := h.lt
  have hW := hv.inv.ok.W
  have hH := hv.inv.ok.H
  have HR : Hid (∀ W, Kept w W → RdAt W b d.file) := fun W hW => h.file.below hW
  have hp5 : ((d.file.part : Int) == 5) = false := beq_eq_false_iff_ne.2 (by omega)
  have hWH : d.file.hd.W * d.file.hd.H ≤ 256 := Nat.mul_le_mul hW hH
  have hWH0 : (0 : Int) ≤ (d.file.hd.W : Int) * (d.file.hd.H : Int) := by rw [← Int.natCast_mul]; omega
  have hWH1 : (d.file.hd.W : Int) * (d.file.hd.H : Int) ≤ 256 := by rw [← Int.natCast_mul]; omega
  have hm1 := make_zeros (d.file.hd.W * d.file.hd.H) (by omega) ((d.file.hd.W : Int) * (d.file.hd.H : Int)) (by rw [Int.natCast_mul])
  have e4 : (4 : Int) * (d.file.hd.W : Int) * (d.file.hd.H : Int) = ((4 * (d.file.hd.W * d.file.hd.H) : Nat) : Int) := by rw [Int.natCast_mul, Int.natCast_mul, Int.mul_assoc]; rfl
  have hm2 := make_zeros (4 * (d.file.hd.W * d.file.hd.H)) (by omega) ((4 : Int) * (d.file.hd.W : Int) * (d.file.hd.H : Int)) e4
  have h4a : (0 : Int) ≤ (4 : Int) * (d.file.hd.W : Int) * (d.file.hd.H : Int) := by rw [e4]; omega
  have h4b : (4 : Int) * (d.file.hd.W : Int) * (d.file.hd.H : Int) ≤ 1024 := by rw [e4]; omega
  clear e4 h hv hp
  cases hz : ((d.file.hd.W : Int) == 0)
  · have hz0 : d.file.hd.W ≠ 0 := by rw [beq_eq_false_iff_ne] at hz; omega
    have hpos : 0 < d.file.hd.W * d.file.hd.H := Nat.mul_pos (by omega) (hH1 hz0)
    have ho : hdOut d.file.hd = d.file.hd := by unfold hdOut; rw [if_neg hz0]
    rw [ho]
    have HP : Hid (0 < d.file.hd.W * d.file.hd.H) := hpos
    clear hz0 hH1 ho hpos
    cases he : ((d.err : Int) == 0)
    all_goals
      go_enter Tryz.func14, Tryz.ntmps14
      go_wp2
      go_region
      go_wp2_with (go_at_call 24; refine (ended_any b d.file _ (HR.out _ (by go_grown))).mono ?_; rintro e w' ⟨rfl, rfl⟩)
      refine (head_all b d.file _ (HR.out _ (by go_grown))).mono ?_
      rintro e w' ⟨rfl, rfl⟩
      go_wp2
      refine bodyPost_ret (v := snapV d.err d.at' false d.file.hd (.slice (some ⟨w.heap.size + 4, 0, none⟩) (d.file.hd.W * d.file.hd.H) (d.file.hd.W * d.file.hd.H)) (.slice (some ⟨w.heap.size + 5, 0, none⟩) (4 * (d.file.hd.W * d.file.hd.H)) (4 * (d.file.hd.W * d.file.hd.H))) (.slice (some ⟨w.heap.size + 6, 0, none⟩) (4 * (d.file.hd.W * d.file.hd.H)) (4 * (d.file.hd.W * d.file.hd.H)))) (by simp [results, Tryz.results14, go_sem]) rfl ⟨⟨_, _, _, rfl, ?_, ?_, ?_⟩, ?_⟩
      · exact ZT.kept (ZT.kept (ZT.kept (ZT.made' _ _ _ _ (by simp) HP.out (by simp; omega)) (Kept.alloc _ _)) (Kept.alloc _ _)) (kept_drew _)
      · exact ZT.kept (ZT.kept (ZT.made' _ _ _ _ (by simp) (by have := HP.out; omega) (by simp; omega)) (Kept.alloc _ _)) (kept_drew _)
      · exact ZT.kept (ZT.made' _ _ _ _ (by simp) (by have := HP.out; omega) (by simp; omega)) (kept_drew _)
      · go_grown
  · have hz0 : d.file.hd.W = 0 := by rw [beq_iff_eq] at hz; omega
    have ho : hdOut d.file.hd = ⟨0, 0, 0, 0, 0⟩ := by unfold hdOut; rw [if_pos hz0]
    rw [ho]
    clear hz0 hH1 ho
    cases he : ((d.err : Int) == 0)
    all_goals
      go_enter Tryz.func14, Tryz.ntmps14
      go_wp2
      go_region
      go_wp2_with (go_at_call 24; refine (ended_any b d.file _ (HR.out _ (by go_grown))).mono ?_; rintro e w' ⟨rfl, rfl⟩)
      refine (head_all b d.file _ (HR.out _ (by go_grown))).mono ?_
      rintro e w' ⟨rfl, rfl⟩
      go_wp2
      refine bodyPost_ret (v := snapV d.err d.at' false ⟨0, 0, 0, 0, 0⟩ (.slice none 0 0) (.slice none 0 0) (.slice none 0 0)) (by simp [results, Tryz.results14, go_sem]) rfl ⟨⟨_, _, _, rfl, ZT.nil _ _, ZT.nil _ _, ZT.nil _ _⟩, ?_⟩
      go_grown
end Go.Proofs.YtdnpefabcholbaaGreat
