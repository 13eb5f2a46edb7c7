import Derived.Test.YtdnpefabcholbaaGreatW13
namespace Px
open Go.Proofs.YtdnpefabcholbaaGreat (cleanD okStep)
set_option linter.unusedSimpArgs false
set_option linter.unusedVariables false

theorem feed_nil (d : Dec) : d.feed [] = d := rfl
theorem feed_cons (d : Dec) (x : Nat) (l : List Nat) : d.feed (x :: l) = (d.one x).feed l := rfl
theorem feed_app (d : Dec) (l r : List Nat) : d.feed (l ++ r) = (d.feed l).feed r := by unfold Dec.feed; rw [List.foldl_append]
theorem feed_bad {d : Dec} (h : d.err ≠ 0) (l : List Nat) : d.feed l = d := by
  induction l with
  | nil => rfl
  | cons x r ih => rw [feed_cons]; unfold Dec.one; rw [if_pos h]; exact ih
theorem one_ok {s : Rd} {c x : Nat} (h : (s.take x).2 = 0) : (⟨s, c, 0, 0⟩ : Dec).one x = ⟨(s.take x).1, c + 1, 0, 0⟩ := by
  unfold Dec.one; simp [h]
theorem one_bad {s : Rd} {c x : Nat} (h : (s.take x).2 ≠ 0) : (⟨s, c, 0, 0⟩ : Dec).one x = ⟨(s.take x).1, c, (s.take x).2, c⟩ := by
  unfold Dec.one; simp [h]

theorem clean_app (d : Dec) (l r : List Nat) (h1 : cleanD d l) (h2 : cleanD (d.feed l) r) : cleanD d (l ++ r) := by
  induction l generalizing d with
  | nil => exact h2
  | cons x l ih => exact ⟨h1.1, ih (d.one x) h1.2 h2⟩
theorem clean_bad {d : Dec} (h : d.err ≠ 0) (l : List Nat) : cleanD d l := by
  induction l with
  | nil => trivial
  | cons x l ih =>
    refine ⟨fun e => absurd e h, ?_⟩
    have e : d.one x = d := by unfold Dec.one; rw [if_pos h]
    rw [e]; exact ih
theorem ok_other {s : Rd} {x : Nat} (h : s.part ≠ 2) : okStep s x := fun e => absurd e h

theorem numb4 (a b e g : Nat) : numb [a, b, e, g] = ((a * 256 + b) * 256 + e) * 256 + g := by
  show 256 * (256 * (256 * (256 * 0 + a) + b) + e) + g = _; omega

/-- The length's bytes. -/
theorem len_step (s : Rd) (x : Nat) (hp : s.part = 1) (ht : s.taken < 3) : s.take x = (s.num x, 0) := by
  have h4 : (s.num x).taken ≠ 4 := by show (s.taken + 1) % 4294967296 ≠ 4; omega
  have e : s.take x = s.takeLength x := by unfold Rd.take; rw [if_neg (by omega), if_pos hp]
  rw [e]
  unfold Rd.takeLength
  simp only []
  rw [if_pos h4]
theorem len_last (s : Rd) (x : Nat) (hp : s.part = 1) (ht : s.taken = 3) : s.take x = if 2147483648 ≤ (s.num x).number then (s.num x, 2) else ({ s.num x with length := (s.num x).number, sum := crcStart }.enter 2, 0) := by
  have h4 : ¬ (s.num x).taken ≠ 4 := by show ¬ (s.taken + 1) % 4294967296 ≠ 4; omega
  have e : s.take x = s.takeLength x := by unfold Rd.take; rw [if_neg (by omega), if_pos hp]
  rw [e]
  unfold Rd.takeLength
  simp only []
  rw [if_neg h4]
/-- What a state holds of the file. -/
structure Same (s s' : Rd) : Prop where
  hd : s'.hd = s.hd
  colours : s'.colours = s.colours
  streamed : s'.streamed = s.streamed
  sp : s'.sp = s.sp
  sc : s'.sc = s.sc
  sd : s'.sd = s.sd
  dov : s'.dov = s.dov
theorem Same.refl (s : Rd) : Same s s := ⟨rfl, rfl, rfl, rfl, rfl, rfl, rfl⟩
theorem Same.trans {a b c : Rd} (h : Same a b) (k : Same b c) : Same a c := ⟨k.hd.trans h.hd, k.colours.trans h.colours, k.streamed.trans h.streamed, k.sp.trans h.sp, k.sc.trans h.sc, k.sd.trans h.sd, k.dov.trans h.dov⟩
theorem same_num (s : Rd) (x : Nat) : Same s (s.num x) := ⟨rfl, rfl, rfl, rfl, rfl, rfl, rfl⟩

/-- Fewer than four bytes of a length. -/
theorem len_few (l : List Nat) : ∀ (s : Rd) (c : Nat), s.part = 1 → s.taken + l.length < 4 → ∃ s', (⟨s, c, 0, 0⟩ : Dec).feed l = ⟨s', c + l.length, 0, 0⟩ ∧ Same s s' ∧ s'.part = 1 ∧ cleanD ⟨s, c, 0, 0⟩ l := by
  induction l with
  | nil => intro s c hp _; exact ⟨s, rfl, Same.refl s, hp, trivial⟩
  | cons x r ih =>
    intro s c hp hl
    simp only [List.length_cons] at hl
    have e := len_step s x hp (by omega)
    have e0 : (⟨s, c, 0, 0⟩ : Dec).one x = ⟨s.num x, c + 1, 0, 0⟩ := by rw [one_ok (by rw [e]), e]
    rw [feed_cons, e0]
    obtain ⟨s', h1, h2, h3, h4⟩ := ih (s.num x) (c + 1) hp (by show (s.taken + 1) % 4294967296 + r.length < 4; omega)
    exact ⟨s', by rw [h1]; simp only [List.length_cons]; congr 1; omega, (same_num s x).trans h2, h3, fun _ => ok_other (by show s.part ≠ 2; omega), by rw [e0]; exact h4⟩
theorem num4 (s : Rd) (a b e g : Nat) (ht : s.taken = 0) (hn : s.number = 0) (ha : a < 256) (hb : b < 256) (he : e < 256) (hg : g < 256) :
    ((((s.num a).num b).num e).num g).number = numb [a, b, e, g] ∧ (((s.num a).num b).num e).taken = 3 ∧ ((s.num a).num b).taken = 2 ∧ (s.num a).taken = 1 := by
  rw [numb4]
  refine ⟨?_, ?_, ?_, ?_⟩
  · show ((((s.number * 256 + a) % 4294967296 * 256 + b) % 4294967296 * 256 + e) % 4294967296 * 256 + g) % 4294967296 = _
    omega
  · show (((s.taken + 1) % 4294967296 + 1) % 4294967296 + 1) % 4294967296 = 3
    omega
  · show ((s.taken + 1) % 4294967296 + 1) % 4294967296 = 2
    omega
  · show (s.taken + 1) % 4294967296 = 1
    omega
/-- A whole length. -/
theorem len_four (s : Rd) (c a b e g : Nat) (hp : s.part = 1) (ht : s.taken = 0) (hn : s.number = 0) (ha : a < 256) (hb : b < 256) (he : e < 256) (hg : g < 256) :
    ∃ s', Same s s' ∧ (⟨s, c, 0, 0⟩ : Dec).feed [a, b, e, g] = (if 2147483648 ≤ numb [a, b, e, g] then ⟨s', c + 3, 2, c + 3⟩ else ⟨s', c + 4, 0, 0⟩) ∧ (2147483648 ≤ numb [a, b, e, g] → s'.part = 1)
      ∧ (¬ 2147483648 ≤ numb [a, b, e, g] → s'.part = 2 ∧ s'.taken = 0 ∧ s'.number = 0 ∧ s'.length = numb [a, b, e, g] ∧ s'.sum = crcStart) ∧ cleanD ⟨s, c, 0, 0⟩ [a, b, e, g] := by
  obtain ⟨h1, h2, h3, h4⟩ := num4 s a b e g ht hn ha hb he hg
  have e1 := len_step s a hp (by omega)
  have e2 := len_step (s.num a) b hp (by omega)
  have e3 := len_step ((s.num a).num b) e hp (by omega)
  have e4 := len_last (((s.num a).num b).num e) g hp h2
  rw [h1] at e4
  have f : (⟨s, c, 0, 0⟩ : Dec).feed [a, b, e, g] = (⟨((s.num a).num b).num e, c + 3, 0, 0⟩ : Dec).one g := by
    rw [feed_cons, one_ok (by rw [e1]), e1, feed_cons, one_ok (by rw [e2]), e2, feed_cons, one_ok (by rw [e3]), e3]; rfl
  have g1 : (⟨s, c, 0, 0⟩ : Dec).one a = ⟨s.num a, c + 1, 0, 0⟩ := by rw [one_ok (by rw [e1]), e1]
  have g2 : (⟨s.num a, c + 1, 0, 0⟩ : Dec).one b = ⟨(s.num a).num b, c + 1 + 1, 0, 0⟩ := by rw [one_ok (by rw [e2]), e2]
  have g3 : (⟨(s.num a).num b, c + 1 + 1, 0, 0⟩ : Dec).one e = ⟨((s.num a).num b).num e, c + 1 + 1 + 1, 0, 0⟩ := by rw [one_ok (by rw [e3]), e3]
  have hcl : cleanD ⟨s, c, 0, 0⟩ [a, b, e, g] := by
    refine ⟨fun _ => ok_other (by show s.part ≠ 2; omega), ?_⟩
    rw [g1]
    refine ⟨fun _ => ok_other (by show s.part ≠ 2; omega), ?_⟩
    rw [g2]
    refine ⟨fun _ => ok_other (by show s.part ≠ 2; omega), ?_⟩
    rw [g3]
    exact ⟨fun _ => ok_other (by show s.part ≠ 2; omega), trivial⟩
  rw [f]
  by_cases hL : 2147483648 ≤ numb [a, b, e, g]
  · rw [if_pos hL] at e4
    rw [one_bad (by rw [e4]; exact Nat.succ_ne_zero 1), e4]
    exact ⟨(((s.num a).num b).num e).num g, ⟨rfl, rfl, rfl, rfl, rfl, rfl, rfl⟩, by rw [if_pos hL], fun _ => hp, fun h => absurd hL h, hcl⟩
  · rw [if_neg hL] at e4
    rw [one_ok (by rw [e4]), e4]
    exact ⟨{ (((s.num a).num b).num e).num g with length := numb [a, b, e, g], sum := crcStart }.enter 2, ⟨rfl, rfl, rfl, rfl, rfl, rfl, rfl⟩, by rw [if_neg hL], fun h => absurd h hL, fun _ => ⟨rfl, rfl, rfl, rfl, rfl⟩, hcl⟩

/-! ### The type -/
open Go.Proofs.YtdnpefabcholbaaGreat (s1T s2T takeType_eq)
theorem ty_step (s : Rd) (x : Nat) (hp : s.part = 2) (ht : s.taken < 3) : s.take x = (s1T s x, 0) := by
  have h4 : (s1T s x).taken ≠ 4 := by show (s.taken + 1) % 4294967296 ≠ 4; omega
  have e : s.take x = s.takeType x := by unfold Rd.take; rw [if_neg (by omega), if_neg (by omega), if_pos hp]
  rw [e, takeType_eq, if_pos h4]
theorem ty_last (s : Rd) (x : Nat) (hp : s.part = 2) (ht : s.taken = 3) : s.take x = if (s2T s x).checkType ≠ 0 then (s2T s x, (s2T s x).checkType)
    else if (s2T s x).length = 0 then ((s2T s x).note.enter 4, 0) else ((s2T s x).note.enter 3, 0) := by
  have h4 : ¬ (s1T s x).taken ≠ 4 := by show ¬ (s.taken + 1) % 4294967296 ≠ 4; omega
  have e : s.take x = s.takeType x := by unfold Rd.take; rw [if_neg (by omega), if_neg (by omega), if_pos hp]
  rw [e, takeType_eq, if_neg h4]
theorem same_s1T (s : Rd) (x : Nat) : Same s (s1T s x) := ⟨rfl, rfl, rfl, rfl, rfl, rfl, rfl⟩
theorem ok_early {s : Rd} {x : Nat} (ht : s.taken < 3) : okStep s x := fun _ h => by
  exfalso
  have : (s.taken + 1) % 4294967296 = 4 := h
  omega
theorem ty_few (l : List Nat) : ∀ (s : Rd) (c : Nat), s.part = 2 → s.taken + l.length < 4 → ∃ s', (⟨s, c, 0, 0⟩ : Dec).feed l = ⟨s', c + l.length, 0, 0⟩ ∧ Same s s' ∧ s'.part = 2 ∧ cleanD ⟨s, c, 0, 0⟩ l := by
  induction l with
  | nil => intro s c hp _; exact ⟨s, rfl, Same.refl s, hp, trivial⟩
  | cons x r ih =>
    intro s c hp hl
    simp only [List.length_cons] at hl
    have e := ty_step s x hp (by omega)
    have e0 : (⟨s, c, 0, 0⟩ : Dec).one x = ⟨s1T s x, c + 1, 0, 0⟩ := by rw [one_ok (by rw [e]), e]
    rw [feed_cons, e0]
    obtain ⟨s', h1, h2, h3, h4⟩ := ih (s1T s x) (c + 1) hp (by show (s.taken + 1) % 4294967296 + r.length < 4; omega)
    exact ⟨s', by rw [h1]; simp only [List.length_cons]; congr 1; omega, (same_s1T s x).trans h2, h3, fun _ => ok_early (by show s.taken < 3; omega), by rw [e0]; exact h4⟩
/-- A whole type. -/
theorem ty_four (s : Rd) (c a b e g : Nat) (hp : s.part = 2) (ht : s.taken = 0) (hn : s.number = 0) (ha : a < 256) (hb : b < 256) (he : e < 256) (hg : g < 256) (hi : numb [a, b, e, g] ≠ idat) :
    ∃ t, Same s t ∧ t.part = 2 ∧ t.length = s.length ∧ t.ctype = numb [a, b, e, g] ∧ t.sum = crcL s.sum [a, b, e, g]
      ∧ (⟨s, c, 0, 0⟩ : Dec).feed [a, b, e, g] = (if t.checkType ≠ 0 then ⟨t, c + 3, t.checkType, c + 3⟩ else if t.length = 0 then ⟨t.note.enter 4, c + 4, 0, 0⟩ else ⟨t.note.enter 3, c + 4, 0, 0⟩)
      ∧ cleanD ⟨s, c, 0, 0⟩ [a, b, e, g] := by
  have h1 : (s1T (s1T (s1T (s1T s a) b) e) g).number = numb [a, b, e, g] := by
    rw [numb4]
    show ((((s.number * 256 + a) % 4294967296 * 256 + b) % 4294967296 * 256 + e) % 4294967296 * 256 + g) % 4294967296 = _
    omega
  have h2 : (s1T (s1T (s1T s a) b) e).taken = 3 := by show (((s.taken + 1) % 4294967296 + 1) % 4294967296 + 1) % 4294967296 = 3; omega
  have h3 : (s1T (s1T s a) b).taken = 2 := by show ((s.taken + 1) % 4294967296 + 1) % 4294967296 = 2; omega
  have h4 : (s1T s a).taken = 1 := by show (s.taken + 1) % 4294967296 = 1; omega
  have e1 := ty_step s a hp (by omega)
  have e2 := ty_step (s1T s a) b hp (by omega)
  have e3 := ty_step (s1T (s1T s a) b) e hp (by omega)
  have e4 := ty_last (s1T (s1T (s1T s a) b) e) g hp h2
  have g1 : (⟨s, c, 0, 0⟩ : Dec).one a = ⟨s1T s a, c + 1, 0, 0⟩ := by rw [one_ok (by rw [e1]), e1]
  have g2 : (⟨s1T s a, c + 1, 0, 0⟩ : Dec).one b = ⟨s1T (s1T s a) b, c + 1 + 1, 0, 0⟩ := by rw [one_ok (by rw [e2]), e2]
  have g3 : (⟨s1T (s1T s a) b, c + 1 + 1, 0, 0⟩ : Dec).one e = ⟨s1T (s1T (s1T s a) b) e, c + 1 + 1 + 1, 0, 0⟩ := by rw [one_ok (by rw [e3]), e3]
  have hcl : cleanD ⟨s, c, 0, 0⟩ [a, b, e, g] := by
    refine ⟨fun _ => ok_early (by show s.taken < 3; omega), ?_⟩
    rw [g1]
    refine ⟨fun _ => ok_early (by show (s1T s a).taken < 3; omega), ?_⟩
    rw [g2]
    refine ⟨fun _ => ok_early (by show (s1T (s1T s a) b).taken < 3; omega), ?_⟩
    rw [g3]
    refine ⟨fun _ _ _ => ?_, trivial⟩
    show (s1T (s1T (s1T (s1T s a) b) e) g).number ≠ idat
    rw [h1]; exact hi
  have f : (⟨s, c, 0, 0⟩ : Dec).feed [a, b, e, g] = (⟨s1T (s1T (s1T s a) b) e, c + 3, 0, 0⟩ : Dec).one g := by
    rw [feed_cons, g1, feed_cons, g2, feed_cons, g3]; rfl
  refine ⟨s2T (s1T (s1T (s1T s a) b) e) g, ⟨rfl, rfl, rfl, rfl, rfl, rfl, rfl⟩, hp, rfl, h1, rfl, ?_, hcl⟩
  rw [f]
  generalize s2T (s1T (s1T (s1T s a) b) e) g = t at *
  by_cases hL : t.checkType ≠ 0
  · rw [if_pos hL] at e4
    rw [one_bad (by rw [e4]; exact hL), e4, if_pos hL]
  · rw [if_neg hL] at e4
    rw [if_neg hL]
    by_cases h0 : t.length = 0
    · rw [if_pos h0] at e4
      rw [one_ok (by rw [e4]), e4, if_pos h0]
    · rw [if_neg h0] at e4
      rw [one_ok (by rw [e4]), e4, if_neg h0]

/-! ### The data -/
structure Data (s : Rd) (dk : List Nat) : Prop where
  taken : s.taken = dk.length
  raw : s.ctype = ihdr → ∀ j, j < dk.length → j < 13 → s.raw j = dk.getD j 0
  clear : s.ctype = trns → ∀ j, j < dk.length → j < 256 → s.clear j = dk.getD j 0
def dstep (s : Rd) (x : Nat) : Rd := { (({ s with sum := crcAdd s.sum x } : Rd).keep x) with taken := ((({ s with sum := crcAdd s.sum x } : Rd).keep x).taken + 1) % 4294967296 }
theorem keep_parts (s : Rd) (x : Nat) (hi : s.ctype ≠ idat) : Same s (s.keep x) ∧ (s.keep x).part = s.part ∧ (s.keep x).taken = s.taken ∧ (s.keep x).ctype = s.ctype ∧ (s.keep x).length = s.length ∧ (s.keep x).sum = s.sum ∧ (s.keep x).number = s.number
    ∧ (s.ctype = ihdr → ∀ j, j < 13 → (s.keep x).raw j = if j = s.taken then x else s.raw j) ∧ (s.ctype = trns → ∀ j, j < 256 → (s.keep x).clear j = if j = s.taken then x else s.clear j) := by
  unfold Rd.keep
  have n1 : trns ≠ ihdr := by decide
  have n2 : trns ≠ plte := by decide
  by_cases h1 : s.ctype = ihdr
  · rw [if_pos h1]
    by_cases h2 : s.taken < 13
    · rw [if_pos h2]
      exact ⟨⟨rfl, rfl, rfl, rfl, rfl, rfl, rfl⟩, rfl, rfl, rfl, rfl, rfl, rfl, fun _ j hj => rfl, fun h => absurd (h.symm.trans h1) n1⟩
    · rw [if_neg h2]
      exact ⟨Same.refl s, rfl, rfl, rfl, rfl, rfl, rfl, fun _ j hj => by rw [if_neg (by omega)], fun h => absurd (h.symm.trans h1) n1⟩
  · rw [if_neg h1]
    by_cases h2 : s.ctype = plte
    · rw [if_pos h2]
      exact ⟨Same.refl s, rfl, rfl, rfl, rfl, rfl, rfl, fun h => absurd h h1, fun h => absurd (h.symm.trans h2) n2⟩
    · rw [if_neg h2]
      by_cases h3 : s.ctype = trns
      · rw [if_pos h3]
        by_cases h4 : s.taken < 256
        · rw [if_pos h4]
          exact ⟨⟨rfl, rfl, rfl, rfl, rfl, rfl, rfl⟩, rfl, rfl, rfl, rfl, rfl, rfl, fun h => absurd h h1, fun _ j hj => rfl⟩
        · rw [if_neg h4]
          exact ⟨Same.refl s, rfl, rfl, rfl, rfl, rfl, rfl, fun h => absurd h h1, fun _ j hj => by rw [if_neg (by omega)]⟩
      · rw [if_neg h3, if_neg hi]
        exact ⟨Same.refl s, rfl, rfl, rfl, rfl, rfl, rfl, fun h => absurd h h1, fun h => absurd h h3⟩
theorem getD_snoc (l : List Nat) (x j : Nat) (h : j < (l ++ [x]).length) : (l ++ [x]).getD j 0 = if j = l.length then x else l.getD j 0 := by
  rw [List.getD_eq_getElem?_getD, List.getD_eq_getElem?_getD]
  by_cases e : j = l.length
  · rw [if_pos e, e]; simp
  · rw [if_neg e]
    simp at h
    rw [List.getElem?_append_left (by omega)]
theorem dstep_parts (s : Rd) (x : Nat) (dk : List Nat) (hi : s.ctype ≠ idat) (hd : Data s dk) (hl : dk.length + 1 < 4294967296) :
    Same s (dstep s x) ∧ (dstep s x).part = s.part ∧ (dstep s x).ctype = s.ctype ∧ (dstep s x).length = s.length ∧ (dstep s x).sum = crcAdd s.sum x ∧ Data (dstep s x) (dk ++ [x]) := by
  obtain ⟨k1, k2, k3, k4, k5, k6, k7, k8, k9⟩ := keep_parts ({ s with sum := crcAdd s.sum x } : Rd) x hi
  have ht : ((({ s with sum := crcAdd s.sum x } : Rd).keep x).taken + 1) % 4294967296 = dk.length + 1 := by rw [k3]; show (s.taken + 1) % 4294967296 = _; rw [hd.taken]; omega
  refine ⟨⟨k1.hd, k1.colours, k1.streamed, k1.sp, k1.sc, k1.sd, k1.dov⟩, k2, k4, k5, k6, ⟨by rw [List.length_append]; exact ht, fun h j hj hj2 => ?_, fun h j hj hj2 => ?_⟩⟩
  · have hc : s.ctype = ihdr := k4.symm.trans h
    rw [getD_snoc _ _ _ hj]
    refine (k8 hc j hj2).trans ?_
    show (if j = s.taken then x else s.raw j) = _
    rw [hd.taken]
    split
    · rfl
    · rename_i e
      simp at hj
      exact hd.raw hc j (by omega) hj2
  · have hc : s.ctype = trns := k4.symm.trans h
    rw [getD_snoc _ _ _ hj]
    refine (k9 hc j hj2).trans ?_
    show (if j = s.taken then x else s.clear j) = _
    rw [hd.taken]
    split
    · rfl
    · rename_i e
      simp at hj
      exact hd.clear hc j (by omega) hj2
theorem data_take (s : Rd) (x : Nat) (hp : s.part = 3) : s.take x = if (dstep s x).taken = (dstep s x).length then ((dstep s x).enter 4, 0) else (dstep s x, 0) := by
  have e : s.take x = s.takeData x := by unfold Rd.take; rw [if_neg (by omega), if_neg (by omega), if_neg (by omega), if_pos hp]
  rw [e]; rfl
/-- Data that do not end. -/
theorem data_few (l : List Nat) : ∀ (s : Rd) (c : Nat) (dk : List Nat), s.part = 3 → s.ctype ≠ idat → Data s dk → dk.length + l.length < s.length → s.length < 4294967296 →
    ∃ s', (⟨s, c, 0, 0⟩ : Dec).feed l = ⟨s', c + l.length, 0, 0⟩ ∧ Same s s' ∧ s'.part = 3 ∧ cleanD ⟨s, c, 0, 0⟩ l := by
  induction l with
  | nil => intro s c dk hp _ _ _ _; exact ⟨s, rfl, Same.refl s, hp, trivial⟩
  | cons x r ih =>
    intro s c dk hp hi hd hl hb
    simp only [List.length_cons] at hl
    obtain ⟨d1, d2, d3, d4, d5, d6⟩ := dstep_parts s x dk hi hd (by omega)
    have e := data_take s x hp
    have ht := d6.taken
    rw [List.length_append] at ht
    simp only [List.length_singleton] at ht
    rw [if_neg (by rw [ht, d4]; omega)] at e
    have e0 : (⟨s, c, 0, 0⟩ : Dec).one x = ⟨dstep s x, c + 1, 0, 0⟩ := by rw [one_ok (by rw [e]), e]
    rw [feed_cons, e0]
    obtain ⟨s', h1, h2, h3, h4⟩ := ih (dstep s x) (c + 1) (dk ++ [x]) (d2.trans hp) (by rw [d3]; exact hi) d6 (by rw [d4, List.length_append]; simp; omega) (by rw [d4]; exact hb)
    exact ⟨s', by rw [h1]; simp only [List.length_cons]; congr 1; omega, d1.trans h2, h3, fun _ => ok_other (by show s.part ≠ 2; omega), by rw [e0]; exact h4⟩
/-- The whole data. -/
theorem data_all (l : List Nat) : ∀ (s : Rd) (c : Nat) (dk : List Nat), s.part = 3 → s.ctype ≠ idat → Data s dk → dk.length + l.length = s.length → l ≠ [] → s.length < 4294967296 →
    ∃ s', (⟨s, c, 0, 0⟩ : Dec).feed l = ⟨s', c + l.length, 0, 0⟩ ∧ Same s s' ∧ s'.part = 4 ∧ s'.taken = 0 ∧ s'.number = 0 ∧ s'.ctype = s.ctype ∧ s'.length = s.length ∧ s'.sum = crcL s.sum l
      ∧ (s.ctype = ihdr → ∀ j, j < (dk ++ l).length → j < 13 → s'.raw j = (dk ++ l).getD j 0) ∧ (s.ctype = trns → ∀ j, j < (dk ++ l).length → j < 256 → s'.clear j = (dk ++ l).getD j 0) ∧ cleanD ⟨s, c, 0, 0⟩ l := by
  induction l with
  | nil => intro s c dk _ _ _ _ h; exact absurd rfl h
  | cons x r ih =>
    intro s c dk hp hi hd hl _ hb
    simp only [List.length_cons] at hl
    obtain ⟨d1, d2, d3, d4, d5, d6⟩ := dstep_parts s x dk hi hd (by omega)
    have e := data_take s x hp
    have ht := d6.taken
    rw [List.length_append] at ht
    simp only [List.length_singleton] at ht
    by_cases hr : r = []
    · subst hr
      simp only [List.length_nil] at hl
      rw [if_pos (by rw [ht, d4]; omega)] at e
      have e0 : (⟨s, c, 0, 0⟩ : Dec).one x = ⟨(dstep s x).enter 4, c + 1, 0, 0⟩ := by rw [one_ok (by rw [e]), e]
      refine ⟨(dstep s x).enter 4, by rw [feed_cons, e0]; rfl, ⟨d1.hd, d1.colours, d1.streamed, d1.sp, d1.sc, d1.sd, d1.dov⟩, rfl, rfl, rfl, d3, d4, d5, fun h => d6.raw (d3.trans h), fun h => d6.clear (d3.trans h), fun _ => ok_other (by show s.part ≠ 2; omega), trivial⟩
    · have hr0 : 0 < r.length := List.length_pos_iff.2 hr
      rw [if_neg (by rw [ht, d4]; omega)] at e
      have e0 : (⟨s, c, 0, 0⟩ : Dec).one x = ⟨dstep s x, c + 1, 0, 0⟩ := by rw [one_ok (by rw [e]), e]
      rw [feed_cons, e0]
      obtain ⟨s', h1, h2, h3, h4, h5, h6, h7, h8, h9, h10, h11⟩ := ih (dstep s x) (c + 1) (dk ++ [x]) (d2.trans hp) (by rw [d3]; exact hi) d6 (by rw [d4, List.length_append]; simp; omega) hr (by rw [d4]; exact hb)
      have ea : dk ++ [x] ++ r = dk ++ x :: r := by simp
      rw [ea] at h9 h10
      exact ⟨s', by rw [h1]; simp only [List.length_cons]; congr 1; omega, d1.trans h2, h3, h4, h5, h6.trans d3, h7.trans d4, by rw [h8, d5]; rfl, fun h => h9 (d3.trans h), fun h => h10 (d3.trans h), fun _ => ok_other (by show s.part ≠ 2; omega), by rw [e0]; exact h11⟩

/-! ### The sum -/
theorem sum_step (s : Rd) (x : Nat) (hp : s.part = 4) (ht : s.taken < 3) : s.take x = (s.num x, 0) := by
  have h4 : (s.num x).taken ≠ 4 := by show (s.taken + 1) % 4294967296 ≠ 4; omega
  have e : s.take x = s.takeSum x := by unfold Rd.take; rw [if_neg (by omega), if_neg (by omega), if_neg (by omega), if_neg (by omega), if_pos hp]
  rw [e]; unfold Rd.takeSum; simp only []; rw [if_pos h4]
theorem sum_last (s : Rd) (x : Nat) (hp : s.part = 4) (ht : s.taken = 3) : s.take x = if (s.num x).number ≠ crcEnd (s.num x).sum then (s.num x, 6) else if (s.num x).accept.2 ≠ 0 then (s.num x).accept else if (s.num x).ctype = iend then ((s.num x).accept.1.enter 5, 0) else ((s.num x).accept.1.enter 1, 0) := by
  have h4 : ¬ (s.num x).taken ≠ 4 := by show ¬ (s.taken + 1) % 4294967296 ≠ 4; omega
  have e : s.take x = s.takeSum x := by unfold Rd.take; rw [if_neg (by omega), if_neg (by omega), if_neg (by omega), if_neg (by omega), if_pos hp]
  rw [e]; unfold Rd.takeSum; simp only []; rw [if_neg h4]
theorem sum_few (l : List Nat) : ∀ (s : Rd) (c : Nat), s.part = 4 → s.taken + l.length < 4 → ∃ s', (⟨s, c, 0, 0⟩ : Dec).feed l = ⟨s', c + l.length, 0, 0⟩ ∧ Same s s' ∧ s'.part = 4 ∧ cleanD ⟨s, c, 0, 0⟩ l := by
  induction l with
  | nil => intro s c hp _; exact ⟨s, rfl, Same.refl s, hp, trivial⟩
  | cons x r ih =>
    intro s c hp hl
    simp only [List.length_cons] at hl
    have e := sum_step s x hp (by omega)
    have e0 : (⟨s, c, 0, 0⟩ : Dec).one x = ⟨s.num x, c + 1, 0, 0⟩ := by rw [one_ok (by rw [e]), e]
    rw [feed_cons, e0]
    obtain ⟨s', h1, h2, h3, h4⟩ := ih (s.num x) (c + 1) hp (by show (s.taken + 1) % 4294967296 + r.length < 4; omega)
    exact ⟨s', by rw [h1]; simp only [List.length_cons]; congr 1; omega, (same_num s x).trans h2, h3, fun _ => ok_other (by show s.part ≠ 2; omega), by rw [e0]; exact h4⟩
theorem sum_four (s : Rd) (c a b e g : Nat) (hp : s.part = 4) (ht : s.taken = 0) (hn : s.number = 0) (ha : a < 256) (hb : b < 256) (he : e < 256) (hg : g < 256) :
    ∃ t, Same s t ∧ t.part = 4 ∧ t.ctype = s.ctype ∧ t.raw = s.raw ∧ t.clear = s.clear ∧ t.length = s.length
      ∧ (⟨s, c, 0, 0⟩ : Dec).feed [a, b, e, g] = (if numb [a, b, e, g] ≠ crcEnd s.sum then ⟨t, c + 3, 6, c + 3⟩ else if t.accept.2 ≠ 0 then ⟨t.accept.1, c + 3, t.accept.2, c + 3⟩ else if t.ctype = iend then ⟨t.accept.1.enter 5, c + 4, 0, 0⟩ else ⟨t.accept.1.enter 1, c + 4, 0, 0⟩)
      ∧ cleanD ⟨s, c, 0, 0⟩ [a, b, e, g] := by
  obtain ⟨h1, h2, h3, h4⟩ := num4 s a b e g ht hn ha hb he hg
  have e1 := sum_step s a hp (by omega)
  have e2 := sum_step (s.num a) b hp (by omega)
  have e3 := sum_step ((s.num a).num b) e hp (by omega)
  have e4 := sum_last (((s.num a).num b).num e) g hp h2
  rw [h1, show ((((s.num a).num b).num e).num g).sum = s.sum from rfl] at e4
  have g1 : (⟨s, c, 0, 0⟩ : Dec).one a = ⟨s.num a, c + 1, 0, 0⟩ := by rw [one_ok (by rw [e1]), e1]
  have g2 : (⟨s.num a, c + 1, 0, 0⟩ : Dec).one b = ⟨(s.num a).num b, c + 1 + 1, 0, 0⟩ := by rw [one_ok (by rw [e2]), e2]
  have g3 : (⟨(s.num a).num b, c + 1 + 1, 0, 0⟩ : Dec).one e = ⟨((s.num a).num b).num e, c + 1 + 1 + 1, 0, 0⟩ := by rw [one_ok (by rw [e3]), e3]
  have hcl : cleanD ⟨s, c, 0, 0⟩ [a, b, e, g] := by
    refine ⟨fun _ => ok_other (by show s.part ≠ 2; omega), ?_⟩
    rw [g1]
    refine ⟨fun _ => ok_other (by show s.part ≠ 2; omega), ?_⟩
    rw [g2]
    refine ⟨fun _ => ok_other (by show s.part ≠ 2; omega), ?_⟩
    rw [g3]
    exact ⟨fun _ => ok_other (by show s.part ≠ 2; omega), trivial⟩
  have f : (⟨s, c, 0, 0⟩ : Dec).feed [a, b, e, g] = (⟨((s.num a).num b).num e, c + 3, 0, 0⟩ : Dec).one g := by
    rw [feed_cons, g1, feed_cons, g2, feed_cons, g3]; rfl
  refine ⟨(((s.num a).num b).num e).num g, ⟨rfl, rfl, rfl, rfl, rfl, rfl, rfl⟩, hp, rfl, rfl, rfl, rfl, ?_, hcl⟩
  rw [f]
  generalize (((s.num a).num b).num e).num g = t at *
  by_cases hL : numb [a, b, e, g] ≠ crcEnd s.sum
  · rw [if_pos hL] at e4
    rw [one_bad (by rw [e4]; exact Nat.succ_ne_zero 5), e4, if_pos hL]
  · rw [if_neg hL] at e4
    rw [if_neg hL]
    by_cases h0 : t.accept.2 ≠ 0
    · rw [if_pos h0] at e4
      rw [one_bad (by rw [e4]; exact h0), e4, if_pos h0]
    · rw [if_neg h0] at e4
      rw [if_neg h0]
      by_cases h5 : t.ctype = iend
      · rw [if_pos h5] at e4
        rw [one_ok (by rw [e4]), e4, if_pos h5]
      · rw [if_neg h5] at e4
        rw [one_ok (by rw [e4]), e4, if_neg h5]
end Px
namespace Px
open Go.Proofs.YtdnpefabcholbaaGreat (cleanD okStep)
set_option linter.unusedSimpArgs false
set_option linter.unusedVariables false

def kindOk' (k : Nat) : Prop := k = 0 ∨ k = 2 ∨ k = 3 ∨ k = 4 ∨ k = 6
/-- The program's reader and the definition's file agree (at a chunk's start, or inside it). -/
structure Agree (s : Rd) (f : Fl) : Prop where
  sp : s.sp = f.hasPal
  sc : s.sc = f.hasClear
  sd : s.sd = false
  dov : s.dov = false
  col : f.hasPal = true → s.colours = f.palN / 3
  first : f.first = f.on
  off : f.on = false → s.hd.W = 0
  on : f.on = true → s.hd = f.hd ∧ s.hd.W ≠ 0 ∧ 1 ≤ s.hd.H ∧ s.hd.L ≤ 1 ∧ kindOk' s.hd.K
  L : f.hd.L ≤ 1
theorem Agree.same {s t : Rd} {f : Fl} (h : Agree s f) (k : Same s t) : Agree t f :=
  ⟨k.sp.trans h.sp, k.sc.trans h.sc, k.sd.trans h.sd, k.dov.trans h.dov, fun e => k.colours.trans (h.col e), h.first, fun e => by rw [k.hd]; exact h.off e, fun e => by rw [k.hd]; exact h.on e, h.L⟩

theorem begin_eq {t : Rd} {f : Fl} (h : Agree t f) (hi : t.ctype ≠ idat) : t.checkType = f.begins t.ctype t.length := by
  unfold Rd.checkType Fl.begins
  by_cases h1 : tyB t.ctype = false
  · rw [if_pos h1, if_pos h1]
  · rw [if_neg h1, if_neg h1]
    cases hon : f.on
    · rw [if_pos (h.off hon), if_pos (h.first.trans hon)]
      rfl
    · obtain ⟨e1, e2, e3, e4, e5⟩ := h.on hon
      have q1 : ¬ (t.ctype ≠ idat ∧ t.sd = true ∧ t.dov = false ∧ t.streamed < 8) := by rw [h.sd]; intro hh; exact absurd hh.2.1 (by decide)
      have q2 : ¬ f.first = false := by rw [h.first, hon]; decide
      rw [if_neg e2, if_neg q1, if_neg q2]
      by_cases c1 : t.ctype = ihdr
      · rw [if_pos c1, if_pos c1]
      · rw [if_neg c1, if_neg c1]
        by_cases c2 : t.ctype = plte
        · rw [if_pos c2, if_pos c2]
          unfold Rd.checkPalette
          rw [h.sd, h.sp, h.sc, e1]
          rw [e1] at e5
          unfold kindOk' at e5
          cases f.hasPal <;> cases f.hasClear <;> simp only [Bool.false_or, Bool.or_true, Bool.or_false, if_true, true_or, or_true, false_or, Bool.false_eq_true, if_false]
          by_cases k1 : f.hd.K = 0 ∨ f.hd.K = 4
          · have k1' : ¬ (f.hd.K = 2 ∨ f.hd.K = 3 ∨ f.hd.K = 6) := by omega
            rw [if_pos k1, if_pos k1']
          · have k1' : ¬ ¬ (f.hd.K = 2 ∨ f.hd.K = 3 ∨ f.hd.K = 6) := by omega
            rw [if_neg k1, if_neg k1']
            by_cases k2 : t.length < 3 ∨ 768 < t.length ∨ t.length % 3 ≠ 0
            · have k2' : t.length = 0 ∨ t.length % 3 ≠ 0 ∨ 768 < t.length ∨ f.hd.K = 3 ∧ 3 * 2 ^ f.hd.D < t.length := by
                rcases k2 with k | k | k
                · by_cases z : t.length = 0
                  · exact Or.inl z
                  · exact Or.inr (Or.inl (by omega))
                · exact Or.inr (Or.inr (Or.inl k))
                · exact Or.inr (Or.inl k)
              rw [if_pos k2, if_pos k2']
            · rw [if_neg k2]
              by_cases k3 : f.hd.K = 3 ∧ 3 * 2 ^ f.hd.D < t.length
              · have k3' : t.length = 0 ∨ t.length % 3 ≠ 0 ∨ 768 < t.length ∨ f.hd.K = 3 ∧ 3 * 2 ^ f.hd.D < t.length := Or.inr (Or.inr (Or.inr k3))
                rw [if_pos k3, if_pos k3']
              · have k3' : ¬ (t.length = 0 ∨ t.length % 3 ≠ 0 ∨ 768 < t.length ∨ f.hd.K = 3 ∧ 3 * 2 ^ f.hd.D < t.length) := by
                  rintro (k | k | k | k)
                  · exact k2 (Or.inl (by omega))
                  · exact k2 (Or.inr (Or.inr k))
                  · exact k2 (Or.inr (Or.inl k))
                  · exact k3 k
                rw [if_neg k3, if_neg k3']
        · rw [if_neg c2, if_neg c2]
          by_cases c3 : t.ctype = trns
          · rw [if_pos c3, if_pos c3]
            unfold Rd.checkClear Rd.checkAlphas
            have hcol := h.col
            rw [h.sd, h.sp, h.sc, e1]
            rw [e1] at e5
            rcases e5 with k | k | k | k | k
            · rw [k]; cases f.hasClear <;> simp [smp]
            · rw [k]; cases f.hasClear <;> simp [smp]
            · rw [k]
              cases hp : f.hasPal <;> cases f.hasClear <;> simp [smp]
              rw [hcol hp]
            · rw [k]; cases f.hasClear <;> simp [smp]
            · rw [k]; cases f.hasClear <;> simp [smp]
          · rw [if_neg c3, if_neg c3, if_neg hi]
            by_cases c4 : t.ctype = iend
            · rw [if_pos c4, if_pos c4]; unfold Rd.checkEnd; rw [if_pos h.sd]
            · rw [if_neg c4, if_neg c4]

/-- The notes at a type. -/
theorem note_parts {t : Rd} (hsd : t.sd = false) (hi : t.ctype ≠ idat) : t.note.hd = t.hd ∧ t.note.sd = false ∧ t.note.dov = t.dov ∧ t.note.ctype = t.ctype ∧ t.note.length = t.length ∧ t.note.sum = t.sum ∧ t.note.streamed = t.streamed
    ∧ t.note.sp = (if t.ctype = plte then true else t.sp) ∧ t.note.colours = (if t.ctype = plte then t.length / 3 else t.colours) ∧ t.note.sc = (if t.ctype = trns then true else t.sc) := by
  have n1 : plte ≠ trns := by decide
  unfold Rd.note
  by_cases h1 : t.ctype = plte
  · simp [h1, hsd, n1]
  · by_cases h2 : t.ctype = trns
    · simp [h1, h2, hsd, n1.symm]
    · simp [h1, h2, hsd, hi]

theorem headOf_congr {r r' : Nat → Nat} (h : ∀ j, j < 13 → r j = r' j) : headOf r = headOf r' := by
  unfold headOf
  rw [h 0 (by omega), h 1 (by omega), h 2 (by omega), h 3 (by omega), h 4 (by omega), h 5 (by omega), h 6 (by omega), h 7 (by omega), h 8 (by omega), h 9 (by omega), h 10 (by omega), h 11 (by omega), h 12 (by omega)]
theorem legal_kind {k d : Nat} (h : legal k d ≠ false) : kindOk' k := by
  unfold kindOk'
  unfold legal at h
  by_cases h0 : k = 0
  · exact Or.inl h0
  · rw [if_neg h0] at h
    by_cases h3 : k = 3
    · exact Or.inr (Or.inr (Or.inl h3))
    · rw [if_neg h3] at h
      by_cases h2 : k = 2 ∨ k = 4 ∨ k = 6
      · omega
      · rw [if_neg h2] at h; exact absurd rfl h
theorem headOf_good (r : Nat → Nat) (h : (headOf r).1 = 0) : (headOf r).2.W ≠ 0 ∧ 1 ≤ (headOf r).2.H ∧ (headOf r).2.L ≤ 1 ∧ kindOk' (headOf r).2.K := by
  unfold headOf at h ⊢
  simp only [] at h ⊢
  split at h
  · cases h
  · rename_i h1
    rw [if_neg h1]
    split at h
    · cases h
    · rename_i h2
      rw [if_neg h2]
      split at h
      · cases h
      · rename_i h3
        rw [if_neg h3]
        refine ⟨?_, ?_, ?_, ?_⟩
        · show ((r 0 * 256 + r 1) * 256 + r 2) * 256 + r 3 ≠ 0
          exact fun e => h1 (Or.inl e)
        · show 1 ≤ ((r 4 * 256 + r 5) * 256 + r 6) * 256 + r 7
          have : ((r 4 * 256 + r 5) * 256 + r 6) * 256 + r 7 ≠ 0 := fun e => h1 (Or.inr (Or.inl e))
          omega
        · show r 12 ≤ 1
          have : ¬ 1 < r 12 := fun e => h2 (Or.inr (Or.inr e))
          omega
        · exact legal_kind (fun e => h1 (Or.inr (Or.inr (Or.inr (Or.inr e)))))
end Px
namespace Px
open Go.Proofs.YtdnpefabcholbaaGreat (cleanD okStep)
set_option linter.unusedSimpArgs false
set_option linter.unusedVariables false

theorem bg_iend (f : Fl) (n : Nat) : f.begins iend n ≠ 0 := by
  unfold Fl.begins
  have h1 : ¬ tyB iend = false := by decide
  have h2 : iend ≠ ihdr := by decide
  have h3 : ¬ iend = plte := by decide
  have h4 : ¬ iend = trns := by decide
  rw [if_neg h1]
  by_cases hf : f.first = false
  · rw [if_pos hf, if_pos h2]; decide
  · rw [if_neg hf, if_neg h2, if_neg h3, if_neg h4, if_pos rfl]; decide
theorem bg_ihdr {f : Fl} {n : Nat} (h : f.begins ihdr n = 0) : f.first = false ∧ n = 13 := by
  unfold Fl.begins at h
  have h1 : ¬ tyB ihdr = false := by decide
  rw [if_neg h1] at h
  by_cases hf : f.first = false
  · rw [if_pos hf, if_neg (by simp)] at h
    by_cases hn : n = 13
    · exact ⟨hf, hn⟩
    · rw [if_pos hn] at h; cases h
  · rw [if_neg hf, if_pos rfl] at h; cases h
theorem bg_first {f : Fl} {k n : Nat} (hk : k ≠ ihdr) (h : f.begins k n = 0) : f.first = true := by
  cases hf : f.first
  · unfold Fl.begins at h
    by_cases h1 : tyB k = false
    · rw [if_pos h1] at h; cases h
    · rw [if_neg h1, if_pos hf, if_pos hk] at h; cases h
  · rfl
theorem bg_trns {f : Fl} {n : Nat} (hk : kindOk' f.hd.K) (h : f.begins trns n = 0) : f.hd.K = 3 ∨ (f.hd.K = 0 ∧ n = 2) ∨ (f.hd.K = 2 ∧ n = 6) := by
  have hf := bg_first (by decide) h
  unfold Fl.begins at h
  have h1 : ¬ tyB trns = false := by decide
  have h2 : ¬ trns = ihdr := by decide
  have h3 : ¬ trns = plte := by decide
  rw [if_neg h1, if_neg (by rw [hf]; decide), if_neg h2, if_neg h3, if_pos rfl] at h
  rcases hk with k | k | k | k | k
  · rw [k] at h
    refine Or.inr (Or.inl ⟨k, ?_⟩)
    revert h
    cases f.hasClear <;> simp
  · rw [k] at h
    refine Or.inr (Or.inr ⟨k, ?_⟩)
    revert h
    cases f.hasClear <;> simp
  · exact Or.inl k
  · rw [k] at h; revert h; cases f.hasClear <;> simp
  · rw [k] at h; revert h; cases f.hasClear <;> simp

theorem bad_eq (t : Rd) (d : List Nat) (hK : (t.hd.K = 0 ∧ d.length = 2) ∨ (t.hd.K = 2 ∧ d.length = 6)) (hc : ∀ j, j < d.length → t.clear j = d.getD j 0) :
    (List.range (smp t.hd.K)).any t.clearBad = pairsBad t.hd.D d := by
  rcases hK with ⟨k, hl⟩ | ⟨k, hl⟩
  · match d, hl, hc with
    | [a, b], _, hc =>
      have e0 : t.clear 0 = a := hc 0 (by show 0 < 2; omega)
      have e1 : t.clear 1 = b := hc 1 (by show 1 < 2; omega)
      rw [k]
      show ((t.clearBad 0) || false) = (decide (2 ^ t.hd.D ≤ 256 * a + b) || false)
      unfold Rd.clearBad
      rw [show 2 * 0 = 0 from rfl, show 0 + 1 = 1 from rfl, e0, e1, Nat.mul_comm a 256]
  · match d, hl, hc with
    | [a, b, c, e, g, i], _, hc =>
      have e0 : t.clear 0 = a := hc 0 (by show 0 < 6; omega)
      have e1 : t.clear 1 = b := hc 1 (by show 1 < 6; omega)
      have e2 : t.clear 2 = c := hc 2 (by show 2 < 6; omega)
      have e3 : t.clear 3 = e := hc 3 (by show 3 < 6; omega)
      have e4 : t.clear 4 = g := hc 4 (by show 4 < 6; omega)
      have e5 : t.clear 5 = i := hc 5 (by show 5 < 6; omega)
      rw [k]
      show ((t.clearBad 0) || ((t.clearBad 1) || ((t.clearBad 2) || false))) = (decide (2 ^ t.hd.D ≤ 256 * a + b) || (decide (2 ^ t.hd.D ≤ 256 * c + e) || (decide (2 ^ t.hd.D ≤ 256 * g + i) || false)))
      unfold Rd.clearBad
      rw [show 2 * 0 = 0 from rfl, show 0 + 1 = 1 from rfl, show 2 * 1 = 2 from rfl, show 2 + 1 = 3 from rfl, show 2 * 2 = 4 from rfl, show 4 + 1 = 5 from rfl, e0, e1, e2, e3, e4, e5, Nat.mul_comm a 256, Nat.mul_comm c 256, Nat.mul_comm g 256]

/-- What stands behind a chunk's data. u: behind the type; t: behind the sum. -/
theorem acc {u t : Rd} {f : Fl} {d : List Nat} (h : Agree u f) (hi : u.ctype ≠ idat) (hb : f.begins u.ctype u.length = 0) (hs : Same u.note t) (hc : t.ctype = u.ctype) (hl : d.length = u.length)
    (hr : u.ctype = ihdr → ∀ j, j < d.length → j < 13 → t.raw j = d.getD j 0) (hq : u.ctype = trns → ∀ j, j < d.length → j < 256 → t.clear j = d.getD j 0) :
    t.accept.2 = (({ f with first := true } : Fl).ends u.ctype d).2 ∧ t.accept.1.part = t.part
      ∧ ((({ f with first := true } : Fl).ends u.ctype d).2 ≠ 0 → t.accept.1.hd = u.hd ∧ (({ f with first := true } : Fl).ends u.ctype d).1.on = f.on ∧ (({ f with first := true } : Fl).ends u.ctype d).1.hd = f.hd)
      ∧ ((({ f with first := true } : Fl).ends u.ctype d).2 = 0 → Agree t.accept.1 (({ f with first := true } : Fl).ends u.ctype d).1) := by
  obtain ⟨n1, n2, n3, n4, n5, n6, n7, n8, n9, n10⟩ := note_parts h.sd hi
  have th : t.hd = u.hd := hs.hd.trans n1
  unfold Rd.accept Fl.ends
  by_cases c1 : u.ctype = ihdr
  · have hc1 : t.ctype = ihdr := hc.trans c1
    rw [c1] at hb n8 n9 n10
    obtain ⟨hf, hn⟩ := bg_ihdr hb
    have hd : headOf t.raw = headOf (fun i => d.getD i 0) := headOf_congr (fun j hj => hr c1 j (by omega) hj)
    rw [if_pos hc1, hd, if_pos c1]
    have hon : f.on = false := h.first.symm.trans hf
    by_cases he : (headOf (fun i => d.getD i 0)).1 ≠ 0
    · rw [if_pos he, if_pos he]
      exact ⟨rfl, rfl, fun _ => ⟨th, rfl, rfl⟩, fun e => absurd e he⟩
    · rw [if_neg he, if_neg he]
      refine ⟨rfl, rfl, fun e => absurd rfl e, fun _ => ?_⟩
      obtain ⟨g1, g2, g3, g4⟩ := headOf_good _ (Decidable.not_not.1 he)
      refine ⟨?_, ?_, hs.sd.trans n2, hs.dov.trans (n3.trans h.dov), fun e => ?_, rfl, fun e => (Bool.noConfusion (show true = false from e)), fun _ => ⟨rfl, g1, g2, g3, g4⟩, g3⟩
      · exact hs.sp.trans (n8.trans ((if_neg (by decide)).trans h.sp))
      · exact hs.sc.trans (n10.trans ((if_neg (by decide)).trans h.sc))
      · exact hs.colours.trans (n9.trans ((if_neg (by decide)).trans (h.col e)))
  · have hc1 : ¬ t.ctype = ihdr := by rw [hc]; exact c1
    rw [if_neg hc1, if_neg c1]
    have hf := bg_first c1 hb
    have hon : f.on = true := h.first.symm.trans hf
    obtain ⟨o1, o2, o3, o4, o5⟩ := h.on hon
    have oth : t.hd = f.hd ∧ t.hd.W ≠ 0 ∧ 1 ≤ t.hd.H ∧ t.hd.L ≤ 1 ∧ kindOk' t.hd.K := by rw [th]; exact ⟨o1, o2, o3, o4, o5⟩
    by_cases c2 : u.ctype = plte
    · have hc2 : ¬ t.ctype = trns := by rw [hc, c2]; decide
      rw [if_neg hc2, if_pos c2]
      rw [c2] at n8 n9 n10
      refine ⟨rfl, rfl, fun e => absurd rfl e, fun _ => ⟨?_, ?_, hs.sd.trans n2, hs.dov.trans (n3.trans h.dov), fun _ => ?_, hon.symm, fun e => absurd (hon.symm.trans e) (by decide), fun _ => oth, h.L⟩⟩
      · exact hs.sp.trans (n8.trans (if_pos rfl))
      · exact hs.sc.trans (n10.trans ((if_neg (by decide)).trans h.sc))
      · rw [hs.colours, n9, if_pos rfl, hl]
    · rw [if_neg c2]
      by_cases c3 : u.ctype = trns
      · have hc3 : t.ctype = trns := hc.trans c3
        rw [if_pos hc3, if_pos c3]
        rw [c3] at n8 n9 n10 hb
        have tK : t.hd.K = f.hd.K := by rw [oth.1]
        have tD : t.hd.D = f.hd.D := by rw [oth.1]
        have good : Agree t { ({ f with first := true } : Fl) with hasClear := true } := by
          refine ⟨?_, ?_, hs.sd.trans n2, hs.dov.trans (n3.trans h.dov), fun e => ?_, hon.symm, fun e => absurd (hon.symm.trans e) (by decide), fun _ => oth, h.L⟩
          · exact hs.sp.trans (n8.trans ((if_neg (by decide)).trans h.sp))
          · exact hs.sc.trans (n10.trans (if_pos rfl))
          · exact hs.colours.trans (n9.trans ((if_neg (by decide)).trans (h.col e)))
        have hk := bg_trns (by rw [← o1]; exact o5) hb
        by_cases k3 : f.hd.K = 3
        · have k3' : t.hd.K = 3 := tK.trans k3
          have k3n : ¬ (({ f with first := true } : Fl).hd.K ≠ 3 ∧ pairsBad ({ f with first := true } : Fl).hd.D d = true) := fun e => e.1 k3
          rw [if_pos k3', if_neg k3n]
          exact ⟨rfl, rfl, fun e => absurd rfl e, fun _ => good⟩
        · have k3' : ¬ t.hd.K = 3 := by rw [tK]; exact k3
          rw [if_neg k3']
          have hbad := bad_eq t d (by rw [tK, hl]; rcases hk with k | k | k; exact absurd k k3; exact Or.inl k; exact Or.inr k) (fun j hj => hq c3 j hj (by
            rcases hk with k | k | k
            · exact absurd k k3
            · omega
            · omega))
          rw [tD] at hbad
          rw [hbad]
          by_cases pb : pairsBad f.hd.D d = true
          · have k3n : (({ f with first := true } : Fl).hd.K ≠ 3 ∧ pairsBad ({ f with first := true } : Fl).hd.D d = true) := ⟨k3, pb⟩
            rw [if_pos pb, if_pos k3n]
            exact ⟨rfl, rfl, fun _ => ⟨th, rfl, rfl⟩, fun e => absurd (show 9 = 0 from e) (by decide)⟩
          · have k3n : ¬ (({ f with first := true } : Fl).hd.K ≠ 3 ∧ pairsBad ({ f with first := true } : Fl).hd.D d = true) := fun e => pb e.2
            rw [if_neg pb, if_neg k3n]
            exact ⟨rfl, rfl, fun e => absurd rfl e, fun _ => good⟩
      · have hc3 : ¬ t.ctype = trns := by rw [hc]; exact c3
        rw [if_neg hc3, if_neg c3]
        refine ⟨rfl, rfl, fun e => absurd rfl e, fun _ => ⟨?_, ?_, hs.sd.trans n2, hs.dov.trans (n3.trans h.dov), fun e => ?_, hon.symm, fun e => absurd (hon.symm.trans e) (by decide), fun _ => oth, h.L⟩⟩
        · exact hs.sp.trans (n8.trans ((if_neg c2).trans h.sp))
        · exact hs.sc.trans (n10.trans ((if_neg c3).trans h.sc))
        · exact hs.colours.trans (n9.trans ((if_neg c2).trans (h.col e)))
end Px
namespace Px
open Go.Proofs.YtdnpefabcholbaaGreat (cleanD okStep)
set_option linter.unusedSimpArgs false
set_option linter.unusedVariables false

structure Post (D : Dec) (R : Fl × Nat × Nat) (N : Nat) : Prop where
  err : D.err = R.2.1
  at' : D.at' = R.2.2
  count : D.err = 0 → D.count = N
  part : D.file.part ≠ 5
  off : R.1.on = false → D.file.hd.W = 0
  on : R.1.on = true → D.file.hd = R.1.hd ∧ D.file.hd.W ≠ 0 ∧ 1 ≤ D.file.hd.H
  L : R.1.hd.L ≤ 1
theorem post_of {s : Rd} {f g : Fl} {D : Dec} {e a N : Nat} (h : Agree s f) (hh : D.file.hd = s.hd) (hon : g.on = f.on) (hhd : g.hd = f.hd) (he : D.err = e) (ha : D.at' = a) (hc : D.err = 0 → D.count = N) (hp : D.file.part ≠ 5) : Post D (g, e, a) N := by
  refine ⟨he, ha, hc, hp, fun h0 => by rw [hh]; exact h.off (hon.symm.trans h0), fun h1 => ?_, by show g.hd.L ≤ 1; rw [hhd]; exact h.L⟩
  obtain ⟨o1, o2, o3, o4, o5⟩ := h.on (hon.symm.trans h1)
  rw [hh]
  exact ⟨o1.trans hhd.symm, o2, o3⟩

theorem chunk_full (f : Fl) (a b e g a' b' e' g' : Nat) (q : List Nat) :
    f.chunk (a :: b :: e :: g :: a' :: b' :: e' :: g' :: q) =
      if 2147483648 ≤ numb [a, b, e, g] then ⟨f, 2, 3, 0⟩
      else if f.begins (numb [a', b', e', g']) (numb [a, b, e, g]) ≠ 0 then ⟨f, f.begins (numb [a', b', e', g']) (numb [a, b, e, g]), 7, 0⟩
      else if q.length < numb [a, b, e, g] + 4 then ⟨{ f with first := true }, 0, 0, 0⟩
      else if crcEnd (crcL (crcL crcStart [a', b', e', g']) (q.take (numb [a, b, e, g]))) ≠ numb ((q.drop (numb [a, b, e, g])).take 4) then ⟨{ f with first := true }, 6, 8 + numb [a, b, e, g] + 3, 0⟩
      else if (({ f with first := true } : Fl).ends (numb [a', b', e', g']) (q.take (numb [a, b, e, g]))).2 ≠ 0 then ⟨(({ f with first := true } : Fl).ends (numb [a', b', e', g']) (q.take (numb [a, b, e, g]))).1, (({ f with first := true } : Fl).ends (numb [a', b', e', g']) (q.take (numb [a, b, e, g]))).2, 8 + numb [a, b, e, g] + 3, 0⟩
      else ⟨(({ f with first := true } : Fl).ends (numb [a', b', e', g']) (q.take (numb [a, b, e, g]))).1, 0, 0, 12 + numb [a, b, e, g]⟩ := by
  unfold Fl.chunk
  have t1 : (a :: b :: e :: g :: a' :: b' :: e' :: g' :: q).take 4 = [a, b, e, g] := rfl
  have t2 : ((a :: b :: e :: g :: a' :: b' :: e' :: g' :: q).drop 4).take 4 = [a', b', e', g'] := rfl
  have t5 : (a :: b :: e :: g :: a' :: b' :: e' :: g' :: q).drop 8 = q := rfl
  have tl : (a :: b :: e :: g :: a' :: b' :: e' :: g' :: q).length = q.length + 8 := rfl
  simp only [t1, t2, t5, tl]
  generalize numb [a, b, e, g] = n
  have t3 : ((a :: b :: e :: g :: a' :: b' :: e' :: g' :: q).drop 4).take (4 + n) = [a', b', e', g'] ++ q.take n := by rw [Nat.add_comm]; rfl
  have t4 : (a :: b :: e :: g :: a' :: b' :: e' :: g' :: q).drop (8 + n) = q.drop n := by rw [Nat.add_comm]; rfl
  have t6 : crcL crcStart ([a', b', e', g'] ++ q.take n) = crcL (crcL crcStart [a', b', e', g']) (q.take n) := by unfold crcL; rw [List.foldl_append]
  have z1 : ¬ q.length + 8 < 4 := by omega
  have z2 : ¬ q.length + 8 < 8 := by omega
  rw [t3, t4, t6, if_neg z1]
  by_cases h1 : 2147483648 ≤ n
  · rw [if_pos h1, if_pos h1]
  · rw [if_neg h1, if_neg h1, if_neg z2]
    by_cases h2 : f.begins (numb [a', b', e', g']) n ≠ 0
    · rw [if_pos h2, if_pos h2]
    · rw [if_neg h2, if_neg h2]
      by_cases h3 : q.length < n + 4
      · have h3' : q.length + 8 < 8 + n + 4 := by omega
        rw [if_pos h3, if_pos h3']
      · have h3' : ¬ q.length + 8 < 8 + n + 4 := by omega
        rw [if_neg h3, if_neg h3']

/-- From behind the type on. -/
def behind (u : Rd) (c : Nat) : Dec := if u.length = 0 then ⟨u.note.enter 4, c, 0, 0⟩ else ⟨u.note.enter 3, c, 0, 0⟩
theorem dphase {u : Rd} (hsd : u.sd = false) (hi : u.ctype ≠ idat) (hb : u.length < 4294967296) (c : Nat) (ds : List Nat) (hl : ds.length = u.length) :
    ∃ s', (behind u c).feed ds = ⟨s', c + ds.length, 0, 0⟩ ∧ Same u.note s' ∧ s'.part = 4 ∧ s'.taken = 0 ∧ s'.number = 0 ∧ s'.ctype = u.ctype ∧ s'.sum = crcL u.sum ds
      ∧ (u.ctype = ihdr → ∀ j, j < ds.length → j < 13 → s'.raw j = ds.getD j 0) ∧ (u.ctype = trns → ∀ j, j < ds.length → j < 256 → s'.clear j = ds.getD j 0) ∧ cleanD (behind u c) ds := by
  obtain ⟨n1, n2, n3, n4, n5, n6, n7, n8, n9, n10⟩ := note_parts hsd hi
  unfold behind
  by_cases h0 : u.length = 0
  · rw [if_pos h0]
    have hd : ds = [] := List.eq_nil_of_length_eq_zero (hl.trans h0)
    subst hd
    exact ⟨u.note.enter 4, rfl, ⟨rfl, rfl, rfl, rfl, rfl, rfl, rfl⟩, rfl, rfl, rfl, n4, n6, fun _ j hj => absurd hj (Nat.not_lt_zero _), fun _ j hj => absurd hj (Nat.not_lt_zero _), trivial⟩
  · rw [if_neg h0]
    have hne : ds ≠ [] := fun e => h0 (by rw [← hl, e]; rfl)
    have hc : (u.note.enter 3).ctype = u.ctype := n4
    have hlen : (u.note.enter 3).length = u.length := n5
    obtain ⟨s', h1, h2, h3, h4, h5, h6, h7, h8, h9, h10, h11⟩ := data_all ds (u.note.enter 3) c [] rfl (by rw [hc]; exact hi) ⟨rfl, fun _ j hj => absurd hj (Nat.not_lt_zero _), fun _ j hj => absurd hj (Nat.not_lt_zero _)⟩ (by rw [hlen, ← hl]; simp) hne (by rw [hlen]; exact hb)
    refine ⟨s', h1, ⟨h2.hd, h2.colours, h2.streamed, h2.sp, h2.sc, h2.sd, h2.dov⟩, h3, h4, h5, h6.trans hc, ?_, fun e => h9 (hc.trans e), fun e => h10 (hc.trans e), h11⟩
    rw [h8]; show crcL u.note.sum ds = _; rw [n6]
theorem dphase_few {u : Rd} (hsd : u.sd = false) (hi : u.ctype ≠ idat) (hb : u.length < 4294967296) (c : Nat) (ds : List Nat) (hl : ds.length < u.length) :
    ∃ s', (behind u c).feed ds = ⟨s', c + ds.length, 0, 0⟩ ∧ Same u.note s' ∧ s'.part ≠ 5 ∧ cleanD (behind u c) ds := by
  obtain ⟨n1, n2, n3, n4, n5, n6, n7, n8, n9, n10⟩ := note_parts hsd hi
  have h0 : ¬ u.length = 0 := by omega
  unfold behind
  rw [if_neg h0]
  have hc : (u.note.enter 3).ctype = u.ctype := n4
  have hlen : (u.note.enter 3).length = u.length := n5
  obtain ⟨s', h1, h2, h3, h4⟩ := data_few ds (u.note.enter 3) c [] rfl (by rw [hc]; exact hi) ⟨rfl, fun _ j hj => absurd hj (Nat.not_lt_zero _), fun _ j hj => absurd hj (Nat.not_lt_zero _)⟩ (by rw [hlen]; simp; exact hl) (by rw [hlen]; exact hb)
  exact ⟨s', h1, ⟨h2.hd, h2.colours, h2.streamed, h2.sp, h2.sc, h2.sd, h2.dov⟩, by rw [h3]; decide, h4⟩

def NoId (l : List Nat) : Prop := ∀ k, numb ((l.drop k).take 4) ≠ idat
theorem NoId.drop {l : List Nat} (h : NoId l) (n : Nat) : NoId (l.drop n) := fun k => by rw [List.drop_drop]; exact h _

theorem four {l : List Nat} (h : 4 ≤ l.length) : ∃ a b e g r, l = a :: b :: e :: g :: r := by
  match l, h with
  | a :: b :: e :: g :: r, _ => exact ⟨a, b, e, g, r, rfl⟩

theorem note_hd {u : Rd} (hsd : u.sd = false) (hi : u.ctype ≠ idat) : u.note.hd = u.hd := (note_parts hsd hi).1

theorem sim : ∀ (fuel : Nat) (f : Fl) (s : Rd) (l : List Nat) (i : Nat), Agree s f → s.part = 1 → s.taken = 0 → s.number = 0 → (∀ x ∈ l, x < 256) → NoId l → l.length < fuel →
    cleanD ⟨s, i, 0, 0⟩ l ∧ Post ((⟨s, i, 0, 0⟩ : Dec).feed l) (Fl.chunks fuel f l i) (i + l.length) := by
  intro fuel
  induction fuel with
  | zero => intro f s l i _ _ _ _ _ _ h; exact absurd h (Nat.not_lt_zero _)
  | succ fuel ih =>
    intro f s l i hA hp ht hn hall hno hfuel
    by_cases hl0 : l = []
    · subst hl0
      have e : Fl.chunks (fuel + 1) f [] i = (f, 0, 0) := by rw [Fl.chunks]; rfl
      rw [e]
      exact ⟨trivial, post_of hA rfl rfl rfl rfl rfl (fun _ => rfl) (by show s.part ≠ 5; omega)⟩
    · have ec : Fl.chunks (fuel + 1) f l i = if (f.chunk l).took = 0 then ((f.chunk l).f, (f.chunk l).err, if (f.chunk l).err = 0 then 0 else i + (f.chunk l).at') else Fl.chunks fuel (f.chunk l).f (l.drop (f.chunk l).took) (i + (f.chunk l).took) := by
        rw [Fl.chunks, if_neg hl0]
      rw [ec]
      by_cases hl4 : l.length < 4
      · have ech : f.chunk l = ⟨f, 0, 0, 0⟩ := by unfold Fl.chunk; rw [if_pos hl4]
        rw [ech, if_pos rfl, if_pos rfl]
        obtain ⟨s', h1, h2, h3, h4⟩ := len_few l s i hp (by omega)
        refine ⟨h4, ?_⟩
        rw [h1]
        exact post_of hA h2.hd rfl rfl rfl rfl (fun _ => rfl) (by show s'.part ≠ 5; omega)
      · obtain ⟨a, b, e, g, r, rfl⟩ := four (l := l) (by omega)
        have ha := hall a (by simp)
        have hb := hall b (by simp)
        have he := hall e (by simp)
        have hg := hall g (by simp)
        obtain ⟨s1, p1, p2, p3, p4, p5⟩ := len_four s i a b e g hp ht hn ha hb he hg
        have split1 : a :: b :: e :: g :: r = [a, b, e, g] ++ r := rfl
        by_cases hbig : 2147483648 ≤ numb [a, b, e, g]
        · rw [if_pos hbig] at p2
          have ech : f.chunk (a :: b :: e :: g :: r) = ⟨f, 2, 3, 0⟩ := by
            unfold Fl.chunk; rw [if_neg hl4]; simp only []; rw [show (a :: b :: e :: g :: r).take 4 = [a, b, e, g] from rfl, if_pos hbig]
          rw [ech, if_pos rfl, if_neg (show ¬ (2 = 0) by decide), split1]
          have hbad : ((⟨s, i, 0, 0⟩ : Dec).feed [a, b, e, g]).err ≠ 0 := by rw [p2]; exact Nat.succ_ne_zero 1
          refine ⟨clean_app _ _ _ p5 (clean_bad hbad r), ?_⟩
          rw [feed_app, feed_bad hbad, p2]
          exact post_of hA p1.hd rfl rfl rfl rfl (fun h => absurd h (Nat.succ_ne_zero 1)) (by show s1.part ≠ 5; rw [p3 hbig]; decide)
        · rw [if_neg hbig] at p2
          obtain ⟨q1, q2, q3, q4, q5⟩ := p4 hbig
          have hA1 := hA.same p1
          by_cases hr4 : r.length < 4
          · have ech : f.chunk (a :: b :: e :: g :: r) = ⟨f, 0, 0, 0⟩ := by
              unfold Fl.chunk; rw [if_neg hl4]; simp only []
              rw [show (a :: b :: e :: g :: r).take 4 = [a, b, e, g] from rfl, if_neg hbig, if_pos (by show r.length + 1 + 1 + 1 + 1 < 8; omega)]
            rw [ech, if_pos rfl, if_pos rfl, split1]
            obtain ⟨s', h1, h2, h3, h4⟩ := ty_few r s1 (i + 4) q1 (by omega)
            refine ⟨clean_app _ _ _ p5 (by rw [p2]; exact h4), ?_⟩
            rw [feed_app, p2, h1]
            exact post_of hA1 h2.hd rfl rfl rfl rfl (fun _ => by show i + 4 + r.length = i + (r.length + 1 + 1 + 1 + 1); omega) (by show s'.part ≠ 5; omega)
          · obtain ⟨a', b', e', g', q, rfl⟩ := four (l := r) (by omega)
            have ha' := hall a' (by simp)
            have hb' := hall b' (by simp)
            have he' := hall e' (by simp)
            have hg' := hall g' (by simp)
            have hid : numb [a', b', e', g'] ≠ idat := hno 4
            obtain ⟨u, u1, u2, u3, u4, u5, u6, u7⟩ := ty_four s1 (i + 4) a' b' e' g' q1 q2 q3 ha' hb' he' hg' hid
            have hAu := hA1.same u1
            have hui : u.ctype ≠ idat := by rw [u4]; exact hid
            have hck := begin_eq hAu hui
            rw [u4, u3, q4] at hck
            have ul : u.length = numb [a, b, e, g] := u3.trans q4
            have split2 : a :: b :: e :: g :: a' :: b' :: e' :: g' :: q = [a, b, e, g] ++ ([a', b', e', g'] ++ q) := rfl
            rw [chunk_full, if_neg hbig]
            by_cases hbg : f.begins (numb [a', b', e', g']) (numb [a, b, e, g]) ≠ 0
            · rw [if_pos hbg, if_pos rfl, if_neg hbg, split2]
              rw [hck, if_pos hbg] at u6
              have hbad : ((⟨s1, i + 4, 0, 0⟩ : Dec).feed [a', b', e', g']).err ≠ 0 := by rw [u6]; exact hbg
              refine ⟨clean_app _ _ _ p5 (by rw [p2]; exact clean_app _ _ _ u7 (clean_bad hbad q)), ?_⟩
              rw [feed_app, p2, feed_app, feed_bad hbad, u6]
              exact post_of hA1 u1.hd rfl rfl rfl (by show i + 4 + 3 = i + 7; omega) (fun h => absurd h hbg) (by show u.part ≠ 5; omega)
            · rw [if_neg hbg]
              have hb0 : f.begins (numb [a', b', e', g']) (numb [a, b, e, g]) = 0 := Decidable.not_not.1 hbg
              have u6' : (⟨s1, i + 4, 0, 0⟩ : Dec).feed [a', b', e', g'] = behind u (i + 4 + 4) := by
                rw [u6, hck, if_neg hbg]; rfl
              have hu32 : u.length < 4294967296 := by rw [ul]; omega
              have hnh := note_hd hAu.sd hui
              by_cases hq : q.length < numb [a, b, e, g] + 4
              · rw [if_pos hq, if_pos rfl, if_pos rfl, split2]
                by_cases hq2 : q.length < u.length
                · obtain ⟨s', h1, h2, h3, h4⟩ := dphase_few hAu.sd hui hu32 (i + 4 + 4) q hq2
                  refine ⟨clean_app _ _ _ p5 (by rw [p2]; exact clean_app _ _ _ u7 (by rw [u6']; exact h4)), ?_⟩
                  rw [feed_app, p2, feed_app, u6', h1]
                  exact post_of hAu (h2.hd.trans hnh) rfl rfl rfl rfl (fun _ => by show i + 4 + 4 + q.length = i + (q.length + 1 + 1 + 1 + 1 + 1 + 1 + 1 + 1); omega) h3
                · have hqs : q = q.take u.length ++ q.drop u.length := (List.take_append_drop _ _).symm
                  have htl : (q.take u.length).length = u.length := by rw [List.length_take]; omega
                  have hdl : (q.drop u.length).length = q.length - u.length := List.length_drop
                  obtain ⟨s', h1, h2, h3, h4, h5, h6, h7, h8, h9, h10⟩ := dphase hAu.sd hui hu32 (i + 4 + 4) (q.take u.length) htl
                  obtain ⟨s2, k1, k2, k3, k4⟩ := sum_few (q.drop u.length) s' (i + 4 + 4 + (q.take u.length).length) h3 (by omega)
                  rw [hqs]
                  refine ⟨clean_app _ _ _ p5 (by rw [p2]; exact clean_app _ _ _ u7 (by rw [u6']; exact clean_app _ _ _ h10 (by rw [h1]; exact k4))), ?_⟩
                  rw [feed_app, p2, feed_app, u6', feed_app, h1, k1, ← hqs]
                  exact post_of hAu (k2.hd.trans (h2.hd.trans hnh)) rfl rfl rfl rfl (fun _ => by show i + 4 + 4 + (q.take u.length).length + (q.drop u.length).length = i + (q.length + 1 + 1 + 1 + 1 + 1 + 1 + 1 + 1); omega) (by show s2.part ≠ 5; omega)
              · rw [if_neg hq]
                rw [← ul] at hq hb0 hbg
                rw [← ul]
                have htl : (q.take u.length).length = u.length := by rw [List.length_take]; omega
                have hdl : (q.drop u.length).length = q.length - u.length := List.length_drop
                obtain ⟨v1, v2, v3, v4, z, hz⟩ := four (l := q.drop u.length) (by omega)
                have hqs : q = q.take u.length ++ ([v1, v2, v3, v4] ++ z) := by
                  have := (List.take_append_drop u.length q).symm
                  rw [hz] at this; exact this
                have hmem : ∀ x, x ∈ q.drop u.length → x < 256 := fun x hx => hall x (by
                  have := List.mem_of_mem_drop hx
                  simp [this])
                have hv1 := hmem v1 (by rw [hz]; simp)
                have hv2 := hmem v2 (by rw [hz]; simp)
                have hv3 := hmem v3 (by rw [hz]; simp)
                have hv4 := hmem v4 (by rw [hz]; simp)
                have hzl : z.length + 4 = q.length - u.length := by rw [← hdl, hz]; rfl
                obtain ⟨s', h1, h2, h3, h4, h5, h6, h7, h8, h9, h10⟩ := dphase hAu.sd hui hu32 (i + 4 + 4) (q.take u.length) htl
                obtain ⟨t, t1, t2, t3, t4, t5, t6, t7, t8⟩ := sum_four s' (i + 4 + 4 + (q.take u.length).length) v1 v2 v3 v4 h3 h4 h5 hv1 hv2 hv3 hv4
                have hacc := acc (d := q.take u.length) hAu hui (by rw [u4]; exact hb0) (h2.trans t1) (t3.trans h6) htl (fun e => by rw [t4]; exact h8 e) (fun e => by rw [t5]; exact h9 e)
                rw [u4] at hacc
                obtain ⟨ac1, ac2, ac3, ac4⟩ := hacc
                have hsum : s'.sum = crcL (crcL crcStart [a', b', e', g']) (q.take u.length) := by rw [h7, u5, q5]
                rw [hsum] at t7
                have hnv : numb ((q.drop u.length).take 4) = numb [v1, v2, v3, v4] := by rw [hz]; rfl
                rw [hnv]
                have hti : ¬ t.ctype = iend := fun e => bg_iend f u.length (by rw [← hb0, ← u4, ← h6, ← t3, e])
                generalize hds : q.take u.length = ds at *
                have hfeed : ∀ D, (⟨s', i + 4 + 4 + ds.length, 0, 0⟩ : Dec).feed [v1, v2, v3, v4] = D → (⟨s, i, 0, 0⟩ : Dec).feed (a :: b :: e :: g :: a' :: b' :: e' :: g' :: q) = D.feed z := by
                  intro D hD
                  rw [split2, feed_app, p2, feed_app, u6', hqs, feed_app, h1, feed_app, hD]
                have hcl : ∀ D, (⟨s', i + 4 + 4 + ds.length, 0, 0⟩ : Dec).feed [v1, v2, v3, v4] = D → cleanD D z → cleanD ⟨s, i, 0, 0⟩ (a :: b :: e :: g :: a' :: b' :: e' :: g' :: q) := by
                  intro D hD hc
                  rw [split2]
                  refine clean_app _ _ _ p5 ?_
                  rw [p2]
                  refine clean_app _ _ _ u7 ?_
                  rw [u6', hqs]
                  refine clean_app _ _ _ h10 ?_
                  rw [h1]
                  exact clean_app _ _ _ t8 (by rw [hD]; exact hc)
                by_cases hs : numb [v1, v2, v3, v4] ≠ crcEnd (crcL (crcL crcStart [a', b', e', g']) ds)
                · have hs' : crcEnd (crcL (crcL crcStart [a', b', e', g']) ds) ≠ numb [v1, v2, v3, v4] := fun e => hs e.symm
                  rw [if_pos hs] at t7
                  rw [if_pos hs', if_pos rfl, if_neg (show ¬ (6 = 0) by decide), hfeed _ t7]
                  have hbad : (⟨t, i + 4 + 4 + ds.length + 3, 6, i + 4 + 4 + ds.length + 3⟩ : Dec).err ≠ 0 := Nat.succ_ne_zero 5
                  refine ⟨hcl _ t7 (clean_bad hbad z), ?_⟩
                  rw [feed_bad hbad]
                  exact post_of hAu (t1.hd.trans (h2.hd.trans hnh)) rfl rfl rfl (by show i + 4 + 4 + ds.length + 3 = i + (8 + u.length + 3); omega) (fun h => absurd h (Nat.succ_ne_zero 5)) (by show t.part ≠ 5; omega)
                · have hs' : ¬ crcEnd (crcL (crcL crcStart [a', b', e', g']) ds) ≠ numb [v1, v2, v3, v4] := fun e => hs (fun e2 => e e2.symm)
                  rw [if_neg hs] at t7
                  rw [if_neg hs']
                  by_cases hac : t.accept.2 ≠ 0
                  · rw [if_pos hac] at t7
                    have hac' : (({ f with first := true } : Fl).ends (numb [a', b', e', g']) ds).2 ≠ 0 := by rw [← ac1]; exact hac
                    obtain ⟨x1, x2, x3⟩ := ac3 hac'
                    rw [if_pos hac', if_pos rfl, if_neg hac', hfeed _ t7]
                    have hbad : (⟨t.accept.1, i + 4 + 4 + ds.length + 3, t.accept.2, i + 4 + 4 + ds.length + 3⟩ : Dec).err ≠ 0 := hac
                    refine ⟨hcl _ t7 (clean_bad hbad z), ?_⟩
                    rw [feed_bad hbad]
                    exact post_of hAu x1 x2 x3 ac1 (by show i + 4 + 4 + ds.length + 3 = i + (8 + u.length + 3); omega) (fun h => absurd h hac) (by show t.accept.1.part ≠ 5; omega)
                  · rw [if_neg hac, if_neg hti] at t7
                    have hac' : ¬ (({ f with first := true } : Fl).ends (numb [a', b', e', g']) ds).2 ≠ 0 := by rw [← ac1]; exact hac
                    have hag := ac4 (Decidable.not_not.1 hac')
                    rw [if_neg hac', if_neg (show ¬ (12 + u.length = 0) by omega), hfeed _ t7]
                    have hdrop : (a :: b :: e :: g :: a' :: b' :: e' :: g' :: q).drop (12 + u.length) = z := by
                      rw [show 12 + u.length = u.length + 4 + 8 from by omega]
                      show q.drop (u.length + 4) = z
                      rw [← List.drop_drop, hz]; rfl
                    have hag2 : Agree (t.accept.1.enter 1) (({ f with first := true } : Fl).ends (numb [a', b', e', g']) ds).1 := hag.same ⟨rfl, rfl, rfl, rfl, rfl, rfl, rfl⟩
                    have hlen : (a :: b :: e :: g :: a' :: b' :: e' :: g' :: q).length = q.length + 8 := rfl
                    have hN : NoId z := by rw [← hdrop]; exact hno.drop _
                    have hZ : ∀ x ∈ z, x < 256 := fun x hx => hmem x (by rw [hz]; simp [hx])
                    have hI := ih (({ f with first := true } : Fl).ends (numb [a', b', e', g']) ds).1 (t.accept.1.enter 1) z (i + (12 + u.length)) hag2 rfl rfl rfl hZ hN (by rw [hlen] at hfuel; omega)
                    have hcnt : i + 4 + 4 + ds.length + 4 = i + (12 + u.length) := by omega
                    rw [hcnt] at t7
                    rw [hcnt, hdrop, hlen, show i + (q.length + 8) = i + (12 + u.length) + z.length from by omega]
                    exact ⟨hcl _ t7 hI.1, hI.2⟩
end Px
namespace Px
open Go.Proofs.YtdnpefabcholbaaGreat (cleanD okStep)
set_option linter.unusedSimpArgs false
set_option linter.unusedVariables false

theorem sign_take (s : Rd) (x : Nat) (hp : s.part = 0) : s.take x = s.takeSign x := by unfold Rd.take; rw [if_pos hp]
theorem sign_phase (l : List Nat) : ∀ (s : Rd) (j : Nat), j < 8 → s.part = 0 → s.taken = j → s.number = 0 →
    (∀ k, badSign j l = some k → (∃ s', (⟨s, j, 0, 0⟩ : Dec).feed l = ⟨s', k, 1, k⟩ ∧ Same s s' ∧ s'.part = 0) ∧ cleanD ⟨s, j, 0, 0⟩ l)
    ∧ (badSign j l = none → (j + l.length < 8 → (∃ s', (⟨s, j, 0, 0⟩ : Dec).feed l = ⟨s', j + l.length, 0, 0⟩ ∧ Same s s' ∧ s'.part = 0) ∧ cleanD ⟨s, j, 0, 0⟩ l)
      ∧ (8 ≤ j + l.length → ∃ s', Same s s' ∧ s'.part = 1 ∧ s'.taken = 0 ∧ s'.number = 0 ∧ (⟨s, j, 0, 0⟩ : Dec).feed l = (⟨s', 8, 0, 0⟩ : Dec).feed (l.drop (8 - j)) ∧ (cleanD ⟨s', 8, 0, 0⟩ (l.drop (8 - j)) → cleanD ⟨s, j, 0, 0⟩ l))) := by
  induction l with
  | nil =>
    intro s j hj hp ht hn
    refine ⟨fun k hk => (by simp [badSign] at hk), fun _ => ⟨fun _ => ⟨⟨s, rfl, Same.refl s, hp⟩, trivial⟩, fun h => ?_⟩⟩
    simp at h; omega
  | cons x r ih =>
    intro s j hj hp ht hn
    have hb : badSign j (x :: r) = if x ≠ signB j then some j else badSign (j + 1) r := by
      show (if 8 ≤ j then none else if x ≠ signB j then some j else badSign (j + 1) r) = _
      rw [if_neg (by omega)]
    have e := sign_take s x hp
    unfold Rd.takeSign at e
    rw [ht] at e
    by_cases hx : x ≠ signB j
    · rw [if_pos (Or.inr hx)] at e
      rw [hb, if_pos hx]
      refine ⟨fun k hk => ?_, fun h => by cases h⟩
      cases hk
      have e0 : (⟨s, j, 0, 0⟩ : Dec).one x = ⟨s, j, 1, j⟩ := by rw [one_bad (by rw [e]; exact Nat.succ_ne_zero 0), e]
      have hbad : (⟨s, j, 1, j⟩ : Dec).err ≠ 0 := Nat.succ_ne_zero 0
      exact ⟨⟨s, by rw [feed_cons, e0, feed_bad hbad], Same.refl s, hp⟩, fun _ => ok_other (by show s.part ≠ 2; omega), by rw [e0]; exact clean_bad hbad r⟩
    · have hcond : ¬ (8 ≤ j ∨ x ≠ signB j) := by rintro (h | h); omega; exact hx h
      rw [if_neg hcond] at e
      rw [hb, if_neg hx]
      by_cases h8 : j + 1 = 8
      · rw [if_pos h8] at e
        have e0 : (⟨s, j, 0, 0⟩ : Dec).one x = ⟨{ s with taken := j + 1 }.enter 1, 8, 0, 0⟩ := by rw [one_ok (by rw [e]), e, h8]
        have hj7 : j = 7 := by omega
        have hn8 : badSign (j + 1) r = none := by
          rw [h8]
          cases r with
          | nil => rfl
          | cons y r => show (if 8 ≤ 8 then none else _) = none; rw [if_pos (Nat.le_refl 8)]
        rw [hn8]
        refine ⟨fun k hk => (by cases hk), fun _ => ⟨fun h => (by simp at h; omega), fun _ => ?_⟩⟩
        refine ⟨{ s with taken := j + 1 }.enter 1, ⟨rfl, rfl, rfl, rfl, rfl, rfl, rfl⟩, rfl, rfl, rfl, ?_, fun hc => ⟨fun _ => ok_other (by show s.part ≠ 2; omega), ?_⟩⟩
        · rw [feed_cons, e0, hj7]; rfl
        · rw [e0]; rw [hj7] at hc ⊢; exact hc
      · rw [if_neg h8] at e
        have e0 : (⟨s, j, 0, 0⟩ : Dec).one x = ⟨{ s with taken := j + 1 }, j + 1, 0, 0⟩ := by rw [one_ok (by rw [e]), e]
        obtain ⟨i1, i2⟩ := ih { s with taken := j + 1 } (j + 1) (by omega) hp rfl hn
        have hlen : (x :: r).length = r.length + 1 := rfl
        have hdr : (x :: r).drop (8 - j) = r.drop (8 - (j + 1)) := by rw [show 8 - j = 8 - (j + 1) + 1 from by omega]; rfl
        have sm : Same s { s with taken := j + 1 } := ⟨rfl, rfl, rfl, rfl, rfl, rfl, rfl⟩
        rw [feed_cons, e0, hlen, hdr]
        refine ⟨fun k hk => ?_, fun h => ⟨fun hl => ?_, fun hl => ?_⟩⟩
        · obtain ⟨⟨s', q1, q2, q3⟩, q4⟩ := i1 k hk
          exact ⟨⟨s', q1, sm.trans q2, q3⟩, fun _ => ok_other (by show s.part ≠ 2; omega), by rw [e0]; exact q4⟩
        · obtain ⟨⟨s', q1, q2, q3⟩, q4⟩ := (i2 h).1 (by omega)
          exact ⟨⟨s', by rw [q1]; congr 1; omega, sm.trans q2, q3⟩, fun _ => ok_other (by show s.part ≠ 2; omega), by rw [e0]; exact q4⟩
        · obtain ⟨s', q1, q2, q3, q4, q5, q6⟩ := (i2 h).2 (by omega)
          exact ⟨s', sm.trans q1, q2, q3, q4, q5, fun hc => ⟨fun _ => ok_other (by show s.part ≠ 2; omega), by rw [e0]; exact q6 hc⟩⟩

theorem agree_start {s : Rd} (h : Same Rd.start s) : Agree s Fl.start :=
  ⟨h.sp, h.sc, h.sd, h.dov, fun e => (by cases e), rfl, fun _ => (by rw [h.hd]; rfl), fun e => (by cases e), Nat.zero_le 1⟩

/-- The program on a text, and the definition. -/
theorem walk_sim (l : List Nat) (hall : ∀ x ∈ l, x < 256) (hno : NoId l) : cleanD Dec.start l ∧ Post (Dec.start.feed l) (walk l) l.length := by
  obtain ⟨h1, h2⟩ := sign_phase l Rd.start 0 (by omega) rfl rfl rfl
  unfold walk
  cases hb : badSign 0 l with
  | some k =>
    obtain ⟨⟨s', q1, q2, q3⟩, q4⟩ := h1 k hb
    refine ⟨q4, ?_⟩
    show Post ((⟨Rd.start, 0, 0, 0⟩ : Dec).feed l) (Fl.start, 1, k) l.length
    rw [q1]
    exact post_of (agree_start (Same.refl _)) q2.hd rfl rfl rfl rfl (fun h => absurd h (Nat.succ_ne_zero 0)) (by show s'.part ≠ 5; omega)
  | none =>
    obtain ⟨g1, g2⟩ := h2 hb
    by_cases hl : 0 + l.length < 8
    · obtain ⟨⟨s', q1, q2, q3⟩, q4⟩ := g1 hl
      refine ⟨q4, ?_⟩
      have hd : l.drop 8 = [] := List.drop_eq_nil_of_le (by omega)
      have e : Fl.chunks (l.length + 1) Fl.start (l.drop 8) 8 = (Fl.start, 0, 0) := by rw [hd, Fl.chunks]; rfl
      show Post ((⟨Rd.start, 0, 0, 0⟩ : Dec).feed l) (Fl.chunks (l.length + 1) Fl.start (l.drop 8) 8) l.length
      rw [q1, e]
      exact post_of (agree_start (Same.refl _)) q2.hd rfl rfl rfl rfl (fun _ => by show 0 + l.length = l.length; omega) (by show s'.part ≠ 5; omega)
    · obtain ⟨s', q1, q2, q3, q4, q5, q6⟩ := g2 (by omega)
      have hs := sim (l.length + 1) Fl.start s' (l.drop 8) 8 (agree_start q1) q2 q3 q4 (fun x hx => hall x (List.mem_of_mem_drop hx)) (hno.drop 8) (by rw [List.length_drop]; omega)
      refine ⟨q6 hs.1, ?_⟩
      show Post ((⟨Rd.start, 0, 0, 0⟩ : Dec).feed l) (Fl.chunks (l.length + 1) Fl.start (l.drop 8) 8) l.length
      rw [q5]
      have hN : 8 + (l.drop 8).length = l.length := by rw [List.length_drop]; omega
      have := hs.2
      rw [hN] at this
      exact this
end Px
