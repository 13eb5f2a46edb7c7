import Derived.Test.YtdnpefabcholbaaGreatR14
namespace Go.Proofs.YtdnpefabcholbaaGreat
open Go.RowKit
set_option linter.unusedSimpArgs false
set_option linter.unusedVariables false

/-- No chunk of the text is an IDAT. -/
def noIdat (t : ByteArray) : Prop := ∀ i, i + 8 ≤ t.size → ty (t.extract (i + 4) (i + 8)) ≠ Px.idat

theorem start_fok : FOk Px.Fl.start := ⟨Or.inl rfl, by decide, by decide, by decide, by decide⟩
theorem chunk_fok {f : Px.Fl} (h : FOk f) (l : List Nat) (hl : l.length ≤ 1048576) : FOk (f.chunk l).f := by
  unfold Px.Fl.chunk
  simp only []
  (repeat' split)
  all_goals first
    | exact h
    | exact ⟨h.K, h.D, h.W, h.H, h.P⟩
    | (refine ends_fok (f := { f with first := true }) ⟨h.K, h.D, h.W, h.H, h.P⟩ _ _ ?_; rw [List.length_take, List.length_drop]; omega)
theorem chunk_took {f : Px.Fl} {l : List Nat} (h : (f.chunk l).took ≠ 0) : (f.chunk l).took ≤ l.length ∧ (f.chunk l).err = 0 := by
  revert h
  unfold Px.Fl.chunk
  simp only []
  (repeat' split)
  all_goals (intro h; first | exact absurd rfl h | (constructor; (show 12 + _ ≤ _; omega); rfl))

def boolOf : Value → Nat | .bool true => 1 | _ => 0
def allR (t : ByteArray) : Px.Fl × Nat × Nat := Px.Fl.chunks (t.size + 1) Px.Fl.start ((bsOf t).drop 8) 8

/-- The loop over the chunks: at place i, still good; or it has ended. -/
def WRel (t : ByteArray) (b : Nat) (i : Nat) (ok : Bool) (W : World) : Prop :=
  (ok = true ∧ ∃ f fuel, FlAt W b f 0 0 ∧ FOk f ∧ t.size - i < fuel ∧ Px.Fl.chunks fuel f ((bsOf t).drop i) i = allR t) ∨
  (ok = false ∧ FlAt W b (allR t).1 (allR t).2.1 (allR t).2.2 ∧ FOk (allR t).1)

theorem WRel.step {t : ByteArray} {b i : Nat} {W W' : World} {f : Px.Fl} {fuel : Nat} (hs : t.size ≤ 1048576) (hi : i < t.size) (ho : FOk f) (hf : t.size - i < fuel) (hq : Px.Fl.chunks fuel f ((bsOf t).drop i) i = allR t)
    (h1 : FlAt W' b (f.chunk ((bsOf t).drop i)).f (f.chunk ((bsOf t).drop i)).err (if (f.chunk ((bsOf t).drop i)).err = 0 then 0 else i + (f.chunk ((bsOf t).drop i)).at')) :
    WRel t b (i + (f.chunk ((bsOf t).drop i)).took) (decide ((f.chunk ((bsOf t).drop i)).took ≠ 0)) W' := by
  have hl : ((bsOf t).drop i).length = t.size - i := by rw [List.length_drop, bsOf_length]
  have hfo := chunk_fok ho ((bsOf t).drop i) (by omega)
  obtain ⟨fu, rfl⟩ : ∃ fu, fuel = fu + 1 := ⟨fuel - 1, by omega⟩
  have hne : (bsOf t).drop i ≠ [] := by intro e; rw [e] at hl; simp at hl; omega
  unfold Px.Fl.chunks at hq
  rw [if_neg hne] at hq
  simp only [] at hq
  by_cases h0 : (f.chunk ((bsOf t).drop i)).took = 0
  · rw [if_pos h0] at hq
    refine Or.inr ⟨by simp [h0], ?_, ?_⟩
    · rw [← hq]; exact h1
    · rw [← hq]; exact hfo
  · rw [if_neg h0] at hq
    have ht := chunk_took h0
    refine Or.inl ⟨by simp [h0], (f.chunk ((bsOf t).drop i)).f, fu, ?_, hfo, by omega, ?_⟩
    · rw [ht.2] at h1; exact h1
    · rw [List.drop_drop] at hq; exact hq
theorem WRel.done {t : ByteArray} {b i : Nat} {W : World} (hi : t.size ≤ i) (h : WRel t b i true W) : FlAt W b (allR t).1 (allR t).2.1 (allR t).2.2 ∧ FOk (allR t).1 := by
  rcases h with ⟨_, f, fuel, h1, h2, h3, h4⟩ | ⟨h, _⟩
  · have e : (bsOf t).drop i = [] := List.drop_eq_nil_of_le (by rw [bsOf_length]; exact hi)
    obtain ⟨fu, rfl⟩ : ∃ fu, fuel = fu + 1 := ⟨fuel - 1, by omega⟩
    unfold Px.Fl.chunks at h4
    rw [if_pos e] at h4
    rw [← h4]
    exact ⟨h1, h2⟩
  · cases h
end Go.Proofs.YtdnpefabcholbaaGreat
