import Derived.Test.YtjljchacohhhgaaDoorD0
import Derived.Deep.MidRow
import Derived.OpenShut
import Derived.Deep.AppendLies
import Derived.Deep.RegionLaw
namespace Go.Proofs.YtjljchacohhhgaaDoor
open Go.RowKit
set_option linter.unusedSimpArgs false
set_option linter.unusedVariables false

/-- n cells of numbers of kind k below m. -/
def Rng (k : IntKind) (m : Int) (W : World) (b o n : Nat) : Prop := ∀ j, j < n → ∃ z : Int, 0 ≤ z ∧ z < m ∧ W.cell? ⟨b, o + j, none⟩ = some (.int k z)
theorem Rng.fr {k : IntKind} {m : Int} {w W : World} {b o n : Nat} (h : Rng k m w b o n) (f : ∀ j, o ≤ j → j < o + n → W.cell? ⟨b, j, none⟩ = w.cell? ⟨b, j, none⟩) : Rng k m W b o n := by
  intro j hj
  obtain ⟨z, a, c, d⟩ := h j hj
  exact ⟨z, a, c, (f _ (by omega) (by omega)).trans d⟩
theorem Rng.kept {k : IntKind} {m : Int} {w W : World} {b o n : Nat} (h : Rng k m w b o n) (f : Kept w W) : Rng k m W b o n := by
  intro j hj
  obtain ⟨z, a, c, d⟩ := h j hj
  exact ⟨z, a, c, (f.cell (p := ⟨b, o + j, none⟩) (World.block_lt_of_cell? _ _ d)).trans d⟩
theorem Rng.set {k : IntKind} {m : Int} {W : World} {b o n : Nat} (h : Rng k m W b o n) (i : Nat) (z : Int) (h0 : 0 ≤ z) (h1 : z < m) : Rng k m (W.setCell ⟨b, i, none⟩ (.int k z)) b o n := by
  intro j hj
  obtain ⟨y, a, c, d⟩ := h j hj
  by_cases e : i = o + j
  · subst e; exact ⟨z, h0, h1, cell_set_same d _⟩
  · exact ⟨y, a, c, (cell_set_other _ _ _ _ _ e).trans d⟩
theorem Rng.list {k : IntKind} {m : Int} {W : World} {b o : Nat} : ∀ {n : Nat}, Rng k m W b o n → ∃ cs : List Value, cs.length = n ∧ W.rangeAt b o cs ∧ ∀ j, j < n → ∃ z : Int, 0 ≤ z ∧ z < m ∧ cs[j]? = some (.int k z)
  | 0, _ => ⟨[], rfl, fun j v h => by simp at h, fun j h => by omega⟩
  | n + 1, h => by
    obtain ⟨cs, h1, h2, h3⟩ := Rng.list (n := n) (fun j hj => h j (by omega))
    obtain ⟨z, a, c, d⟩ := h n (by omega)
    refine ⟨cs ++ [.int k z], by simp [h1], ?_, ?_⟩
    · intro j v hv
      by_cases hj : j < n
      · rw [List.getElem?_append_left (by omega)] at hv; exact h2 j v hv
      · have hj2 : j = n := by
          have := (List.getElem?_eq_some_iff.1 hv).1
          simp [h1] at this; omega
        subst hj2
        rw [List.getElem?_append_right (by omega)] at hv
        simp [h1] at hv
        rw [← hv]; exact d
    · intro j hj
      by_cases hj2 : j < n
      · rw [List.getElem?_append_left (by omega)]; exact h3 j hj2
      · have : j = n := by omega
        subst this
        rw [List.getElem?_append_right (by omega)]
        exact ⟨z, a, c, by simp [h1]⟩
theorem ints_one {k : IntKind} {m : Int} {cs : List Value} {n : Nat} (hl : cs.length = n) (h : ∀ j, j < n → ∃ z : Int, 0 ≤ z ∧ z < m ∧ cs[j]? = some (.int k z)) : ∀ v ∈ cs, v.oneCell' = true := by
  intro v hv
  obtain ⟨j, hj, e⟩ := List.getElem_of_mem hv
  obtain ⟨z, _, _, hz⟩ := h j (by omega)
  rw [List.getElem?_eq_getElem hj] at hz
  injection hz with hz
  rw [← e, hz]; rfl
theorem Rng.of_range {k : IntKind} {m : Int} {W : World} {b o n : Nat} {cs : List Value} (hr : W.rangeAt b o cs) (h : ∀ j, j < n → ∃ z : Int, 0 ≤ z ∧ z < m ∧ cs[j]? = some (.int k z)) : Rng k m W b o n := by
  intro j hj
  obtain ⟨z, a, c, d⟩ := h j hj
  exact ⟨z, a, c, hr j _ d⟩
theorem there_kept {w W : World} {b o n : Nat} (h : w.there b o n) (f : Kept w W) : W.there b o n := by
  intro j hj
  obtain ⟨h1, h2⟩ := h j hj
  obtain ⟨u, hu⟩ := Option.isSome_iff_exists.1 h1
  have hb := World.block_lt_of_cell? _ _ hu
  exact ⟨by rw [f.cell (p := ⟨b, o + j, none⟩) hb]; exact h1, by rw [f.frozen (p := ⟨b, o + j, none⟩) hb]; exact h2⟩
theorem there_set {w : World} {b o n : Nat} (h : w.there b o n) {c k : Nat} (u : Value) (hne : c ≠ b) : (w.setCell ⟨c, k, none⟩ u).there b o n := by
  intro j hj
  obtain ⟨h1, h2⟩ := h j hj
  exact ⟨by rw [World.cell?_setCell_other _ _ _ _ (by intro e; injection e; omega)]; exact h1, by rw [World.frozen?_setCell]; exact h2⟩
theorem results_cell1 {P : Program} {fn : Func} {p : Tmp} {ty : TypeId} (h : fn.results = #[.cell p ty]) (tmps : Array Value) (w : World) (b o : Nat) (v : Value)
    (hp : tmps.getD p undef = .pointer (some ⟨b, o, none⟩)) (hl : (loadVar ty ⟨b, o, none⟩).run P w = .ok v w) : (results fn tmps).run P w = .ok v w := by
  have hp' : tmps[p]?.getD undef = .pointer (some ⟨b, o, none⟩) := by simpa using hp
  simp [results, h, hp', asAddr, Sem.run_bind, Result.andThen, hl]
theorem Fr.setCells {S : Nat → Prop} {x y : World} (h : Fr S x y) {b : Nat} (hb : S b ∨ x.heap.size ≤ b) : ∀ (vs : List Value) (o : Nat) {y : World}, Fr S x y → Fr S x (y.setCells b o vs)
  | [], _, _, h => h
  | v :: r, o, _, h => Fr.setCells (h.setCell hb o v) hb r (o + 1) (h.setCell hb o v)
theorem Kept.setCells {x : World} {b : Nat} (hb : x.heap.size ≤ b) : ∀ (vs : List Value) (o : Nat) {y : World}, Kept x y → Kept x (y.setCells b o vs)
  | [], _, _, h => h
  | v :: r, o, _, h => Kept.setCells hb r (o + 1) (h.setCell hb _)
end Go.Proofs.YtjljchacohhhgaaDoor
namespace Go.Proofs.YtjljchacohhhgaaDoor
open Go.RowKit
set_option linter.unusedSimpArgs false
set_option linter.unusedVariables false

theorem infoU8 : (Tryd.prog.info? 5).map (fun i => (i.zero, i.size, i.bytes)) = some (some (.int .u8 0), 1, 1) := by kernel_rfl
def isBytes (l : List Int) : Prop := ∀ x ∈ l, 0 ≤ x ∧ x < 256
theorem isBytes.snoc {l : List Int} {x : Int} (h : isBytes l) (h0 : 0 ≤ x) (h1 : x < 256) : isBytes (l ++ [x]) := by
  intro y hy; simp at hy; rcases hy with hy | rfl
  · exact h y hy
  · exact ⟨h0, h1⟩
theorem isBytes.nil : isBytes [] := fun _ h => by simp at h
theorem isBytes.app {l m : List Int} (h : isBytes l) (k : isBytes m) : isBytes (l ++ m) := by
  intro y hy; simp at hy; rcases hy with hy | hy
  · exact h y hy
  · exact k y hy
def u8s (l : List Int) : List Value := l.map (Value.int .u8)
theorem u8s_snoc (l : List Int) (x : Int) : u8s (l ++ [x]) = u8s l ++ [.int .u8 x] := by simp [u8s]
/-- A row of bytes of one's own. -/
def Own8 (w : World) (N : Nat) (v : Value) (n : Nat) : Prop := ∃ l : List Int, l.length = n ∧ isBytes l ∧ w.ownsRow N 5 1 v n (u8s l)
theorem Own8.slice {w : World} {N : Nat} {v : Value} {n : Nat} (h : Own8 w N v n) : ∃ p c, v = .slice p n c := by
  obtain ⟨l, _, _, h⟩ := h; exact own_slice h
theorem Own8.kept {w W : World} {N : Nat} {v : Value} {n : Nat} (h : Own8 w N v n) (k : Kept w W) : Own8 W N v n := by
  obtain ⟨l, h1, h2, h3⟩ := h; exact ⟨l, h1, h2, own_kept h3 k⟩
theorem Own8.alloc {w : World} {N : Nat} {v : Value} {n : Nat} (h : Own8 w N v n) (o : Obj) : Own8 (w.alloc o) N v n := h.kept ((Below.refl _ _).alloc (Nat.le_refl _) o)
theorem Own8.drewN {w : World} {N : Nat} {v : Value} {n : Nat} (h : Own8 w N v n) (k : Nat) : Own8 (w.drewN k) N v n := h.kept ((Kept.refl _).drewN k)
theorem Own8.set {w : World} {N : Nat} {v : Value} {n : Nat} (h : Own8 w N v n) {b : Nat} (hb : b < N) (k : Nat) (u : Value) : Own8 (w.setCell ⟨b, k, none⟩ u) N v n := by
  obtain ⟨l, h1, h2, h3⟩ := h; exact ⟨l, h1, h2, ownsRow_setCell_below h3 hb _⟩
theorem Own8.ge {w : World} {N : Nat} {v : Value} {n : Nat} (h : Own8 w N v n) : ∀ k, v.ownBlock = some k → N ≤ k := by
  obtain ⟨l, h1, h2, h3⟩ := h; exact fun k hk => (h3.lt k hk).1
theorem Own8.nil (w : World) (N : Nat) : Own8 w N (.slice none 0 0) 0 := ⟨[], rfl, isBytes.nil, World.ownsRow_nil _ _ _ _⟩
/-- What stands from N on is the caller's own, and so is block x. -/
abbrev FrN (x N : Nat) : World → World → Prop := Fr (fun g => g = x ∨ N ≤ g)
/-- One byte behind such a row. -/
theorem append8 (w : World) {ops : Array Oper} {rest : List Oper} {o : Oper} {a : Act} {Q : Exit → Act → World → Prop}
    (hg : o.guard = none) (s x : Operand) (hop : o.op = Op.call { callee := Callee.builtin Builtin.append, args := #[s, x], argTypes := #[61, 61] })
    (N : Nat) (v : Value) (n : Nat) (hs : a.eval s = v) (hown : Own8 w N v n)
    (g : Nat) (m c : Nat) (es : List Int) (hx : a.eval x = .slice (some ⟨g, 0, none⟩) m c) (hm : m = es.length) (h0 : 0 < m) (hE : isBytes es) (hc : ∀ j, j < m → w.cell? ⟨g, j, none⟩ = some (.int .u8 (es.getD j 0))) (hb : n + m ≤ 1099511627776) (hbase : N ≤ w.heap.size)
    (hK : ∀ v' w', Own8 w' N v' (n + m) → Fr (fun k => v.ownBlock = some k) w w' → wpList Tryd.prog ops Q rest (a.put o.dst v') w') :
    wpList Tryd.prog ops Q (o :: rest) a w := by
  obtain ⟨l, hl, hB, ho⟩ := hown
  subst hm
  refine append_own w 61 61 5 1 1 (.int .u8 0) Tryd.underlying61 infoU8 rfl (by omega) hg s x hop N v n (u8s l) hs ho ⟨g, 0, none⟩ es.length c (u8s es) hx (by simp [u8s]) h0 ?_ ?_ (by unfold maxLen; omega) (by omega) hbase ?_ rfl
  · intro j u hj
    have hlt : j < es.length := by
      have := (List.getElem?_eq_some_iff.1 hj).1
      simpa [u8s] using this
    have e : (Addr.add ⟨g, 0, none⟩ j) = ⟨g, j, none⟩ := by unfold Addr.add; split <;> simp_all
    rw [e, hc j hlt]
    simp [u8s, List.getElem?_map, List.getElem?_eq_getElem hlt] at hj
    rw [← hj]
    simp [List.getD_eq_getElem?_getD, List.getElem?_eq_getElem hlt]
  · intro u hu; simp [u8s] at hu; obtain ⟨y, _, rfl⟩ := hu; rfl
  · intro v' w' h1 h2 h3
    refine hK v' w' ⟨l ++ es, by simp [hl], hB.app hE, by simpa [u8s] using h1⟩ ⟨h2.os, h2.tape, h2.output, h2.size, fun k hk hn => h2.block k hk (fun e => hn e.symm)⟩

/-- .. in a region that draws its order. -/
theorem step8 {w : World} {ops : Array Oper} {o : Oper} {a : Act} {K : Act → World → Prop} {Q : Exit → Act → World → Prop} {E : Prop} (hgd : o.guard = none) (s x : Operand)
    (hop : o.op = Op.call { callee := Callee.builtin Builtin.append, args := #[s, x], argTypes := #[61, 61] })
    (N : Nat) (v : Value) (n : Nat) (hs : a.eval s = v) (hown : Own8 w N v n)
    (g : Nat) (m c : Nat) (es : List Int) (hx : a.eval x = .slice (some ⟨g, 0, none⟩) m c) (hm : m = es.length) (h0 : 0 < m) (hE : isBytes es) (hc : ∀ j, j < m → w.cell? ⟨g, j, none⟩ = some (.int .u8 (es.getD j 0))) (hb : n + m ≤ 1099511627776) (hbase : N ≤ w.heap.size)
    (hK : ∀ g' cap w', Own8 w' N (.slice (some ⟨g', 0, none⟩) (n + m) cap) (n + m) → Fr (fun k => v.ownBlock = some k) w w' → K (a.put o.dst (.slice (some ⟨g', 0, none⟩) (n + m) cap)) w') :
    if Region.wanted o (yielded ops a.tmps) = true then Oper.wp Tryd.prog o a w K Q else E := by
  obtain ⟨l, hl, hB, ho⟩ := hown
  subst hm
  obtain ⟨i0, hi, hz0, hz1, hz2⟩ := info_parts' infoU8
  refine step_append_lies w hgd s x 61 hop N 5 i0 (.int .u8 0) 1 1 Tryd.underlying61 hi hz0 hz1 hz2 rfl (by omega) v n (u8s l) hs ho ⟨g, 0, none⟩ es.length c (u8s es) hx (by simp [u8s]) ?_ ?_ h0 (by unfold maxLen; omega) (by omega) hbase w.heap.size rfl ?_
  · intro j u hj
    have hlt : j < es.length := by
      have := (List.getElem?_eq_some_iff.1 hj).1
      simpa [u8s] using this
    have e : (Addr.add ⟨g, 0, none⟩ j) = ⟨g, j, none⟩ := by unfold Addr.add; split <;> simp_all
    rw [e, hc j hlt]
    simp [u8s, List.getElem?_map, List.getElem?_eq_getElem hlt] at hj
    rw [← hj]
    simp [List.getD_eq_getElem?_getD, List.getElem?_eq_getElem hlt]
  · intro u hu; simp [u8s] at hu; obtain ⟨y, _, rfl⟩ := hu; rfl
  · intro g' cap w' h1 h2 h3 h4
    refine hK g' cap w' ⟨l ++ es, by simp [hl], hB.app hE, by simpa [u8s] using h1⟩ ⟨h2.os, h2.tape, h2.output, h2.size, fun k hk hn => h2.block k hk (fun e => hn e.symm)⟩
/-- .. of one byte. -/
theorem step8_1 {w : World} {ops : Array Oper} {o : Oper} {a : Act} {K : Act → World → Prop} {Q : Exit → Act → World → Prop} {E : Prop} (hgd : o.guard = none) (s x : Operand)
    (hop : o.op = Op.call { callee := Callee.builtin Builtin.append, args := #[s, x], argTypes := #[61, 61] })
    (N : Nat) (v : Value) (n : Nat) (hs : a.eval s = v) (hown : Own8 w N v n)
    (g : Nat) (c : Nat) (e : Int) (hx : a.eval x = .slice (some ⟨g, 0, none⟩) 1 c) (he0 : 0 ≤ e) (he1 : e < 256) (hc : w.cell? ⟨g, 0, none⟩ = some (.int .u8 e)) (hb : n + 1 ≤ 1099511627776) (hbase : N ≤ w.heap.size)
    (hK : ∀ g' cap w', Own8 w' N (.slice (some ⟨g', 0, none⟩) (n + 1) cap) (n + 1) → Fr (fun k => v.ownBlock = some k) w w' → K (a.put o.dst (.slice (some ⟨g', 0, none⟩) (n + 1) cap)) w') :
    if Region.wanted o (yielded ops a.tmps) = true then Oper.wp Tryd.prog o a w K Q else E :=
  step8 hgd s x hop N v n hs hown g 1 c [e] hx rfl (by omega) (fun y hy => by simp at hy; subst hy; exact ⟨he0, he1⟩) (fun j hj => match j, hj with | 0, _ => hc) hb hbase hK
/-- The bits written so far: T of them. -/
structure BitAt (W : World) (x N T : Nat) : Prop where
  lt : x < N
  size : N ≤ W.heap.size
  fz : ∀ k, W.frozen? ⟨x, k, none⟩ = false
  out : ∃ ov, W.cell? ⟨x, 0, none⟩ = some ov ∧ Own8 W N ov (T / 8)
  rest : ∃ r : Int, 0 ≤ r ∧ r < 4294967296 ∧ W.cell? ⟨x, 1, none⟩ = some (.int .u32 r)
  sz : W.cell? ⟨x, 2, none⟩ = some (.int .u64 ((T % 8 : Nat) : Int))
def szOf (W : World) (x : Nat) : Nat := match W.cell? ⟨x, 2, none⟩ with | some (.int _ v) => v.toNat | _ => 0
theorem shl_le (s : Nat) (h : s ≤ 16) : 2 ^ s ≤ 65536 := Nat.le_trans (Nat.pow_le_pow_right (by omega) h) (by decide)
end Go.Proofs.YtjljchacohhhgaaDoor
namespace Go.Proofs.YtjljchacohhhgaaDoor
open Go.RowKit
set_option linter.unusedSimpArgs false
set_option linter.unusedVariables false

set_option maxRecDepth 100000 in
set_option maxHeartbeats 3200000 in
theorem number_any (x N T s : Nat) (n : Int) (w : World) (h : BitAt w x N T) (hs : s ≤ 16) (hn0 : 0 ≤ n) (hn1 : n < 4294967296) (hT : T ≤ 1099511627776) :
    Calls Tryd.prog 61 #[.pointer (some ⟨x, 0, none⟩), .int .u32 n, .int .u64 (s : Int)] w fun r w' => r = .returned (.tuple #[]) ∧ BitAt w' x N (T + s) ∧ FrN x N w w' ∧ (∀ j, 3 ≤ j → w'.cell? ⟨x, j, none⟩ = w.cell? ⟨x, j, none⟩) := by
  obtain ⟨hlt, hsz, hfz, ⟨ov, h0, hown⟩, ⟨r, hr0, hr1, h1⟩, h2⟩ := h
  obtain ⟨p, c, rfl⟩ := hown.slice
  have hfa := hfz 0
  have hfb := hfz 1
  have hfc := hfz 2
  have hm : T % 8 < 8 := Nat.mod_lt _ (by omega)
  have HO : Hid (Own8 w N (.slice p (T / 8) c) (T / 8)) := hown
  clear hown
  go_enter Tryd.func61, Tryd.ntmps61
  go_wp2
  go_region
  obtain ⟨R, hR⟩ : ∃ R, R = bits BinOp.or IntKind.u32 r (bits BinOp.and IntKind.u32 n ((2 ^ s - 1) % 4294967296) * 2 ^ (T % 8) % 4294967296) := ⟨_, rfl⟩
  rw [← hR]
  have hRb := bounds_u32 (wf_bits .or .u32 r (bits BinOp.and IntKind.u32 n ((2 ^ s - 1) % 4294967296) * 2 ^ (T % 8) % 4294967296))
  rw [← hR] at hRb
  clear hR
  have hD : ((w.setCell { block := x, off := 1 } (Value.int IntKind.u32 R)).drew) = ((w.setCell { block := x, off := 1 } (Value.int IntKind.u32 R)).drewN 1) := rfl
  rw [hD]
  clear hD
  have a0 : ((w.setCell ⟨x, 1, none⟩ (Value.int IntKind.u32 R)).drewN 1).cell? ⟨x, 0, none⟩ = some (Value.slice p (T / 8) c) := (cell_set_other _ _ _ _ _ (by omega)).trans h0
  have a1 : ((w.setCell ⟨x, 1, none⟩ (Value.int IntKind.u32 R)).drewN 1).cell? ⟨x, 1, none⟩ = some (Value.int IntKind.u32 R) := cell_set_same h1 _
  have a2 : ((w.setCell ⟨x, 1, none⟩ (Value.int IntKind.u32 R)).drewN 1).cell? ⟨x, 2, none⟩ = some (Value.int IntKind.u64 ((T % 8 : Nat) : Int)) := (cell_set_other _ _ _ _ _ (by omega)).trans h2
  have af : ∀ k, ((w.setCell ⟨x, 1, none⟩ (Value.int IntKind.u32 R)).drewN 1).frozen? ⟨x, k, none⟩ = false := fun k => by show (w.setCell _ _).frozen? _ = false; rw [World.frozen?_setCell]; exact hfz k
  have HO1 : Hid (Own8 ((w.setCell ⟨x, 1, none⟩ (Value.int IntKind.u32 R)).drewN 1) N (.slice p (T / 8) c) (T / 8)) := (HO.out.set hlt _ _).drewN _
  have HF1 : Hid (FrN x N w ((w.setCell ⟨x, 1, none⟩ (Value.int IntKind.u32 R)).drewN 1)) := ((Fr.refl _ _).setCell (Or.inl (Or.inl rfl)) _ _).drewN _
  have HJ1 : Hid (∀ j, 3 ≤ j → ((w.setCell ⟨x, 1, none⟩ (Value.int IntKind.u32 R)).drewN 1).cell? ⟨x, j, none⟩ = w.cell? ⟨x, j, none⟩) := fun j hj => cell_set_other _ _ _ _ _ (by omega)
  generalize (w.setCell ⟨x, 1, none⟩ (Value.int IntKind.u32 R)).drewN 1 = w1 at *
  clear h0 h1 h2 hfa hfb hfc
  have hfa := af 0
  have hfb := af 1
  have hfc := af 2
  go_wp2
  generalize ((2 : Int) ^ s % 4294967296 - 1) % 4294967296 = Z1
  go_loopw [] (fun W => ∃ m q : Nat, ∃ ov : Value, ∃ r : Int, 8 * q + m = T + s ∧ m < 24 ∧ W.cell? ⟨x, 2, none⟩ = some (.int .u64 (m : Int)) ∧ W.cell? ⟨x, 0, none⟩ = some ov ∧ Own8 W N ov q ∧ 0 ≤ r ∧ r < 4294967296 ∧ W.cell? ⟨x, 1, none⟩ = some (.int .u32 r) ∧ (∀ k, W.frozen? ⟨x, k, none⟩ = false) ∧ FrN x N w W ∧ (∀ j, 3 ≤ j → W.cell? ⟨x, j, none⟩ = w.cell? ⟨x, j, none⟩)) (fun W => szOf W x)
  case atStart =>
    refine ⟨T % 8 + s, T / 8, _, R, by omega, by omega, ?_, (cell_set_other _ _ _ _ _ (by omega)).trans a0, HO1.out.set hlt _ _, hRb.1, by omega, (cell_set_other _ _ _ _ _ (by omega)).trans a1, ?_, HF1.out.setCell (Or.inl (Or.inl rfl)) _ _, ?_⟩
    · rw [cell_set_same a2]; simp
    · intro k; rw [World.frozen?_setCell]; exact af k
    · intro j hj; rw [cell_set_other _ _ _ _ _ (by omega)]; exact HJ1.out j hj
  case round =>
    obtain ⟨m, q, ov, r2, he, hm2, c2, c0, ho, r0, r1, c1, ff, hF, hJ⟩ := hrel
    obtain ⟨p2, cc, rfl⟩ := ho.slice
    have f0 := ff 0
    have f1 := ff 1
    have f2 := ff 2
    have hN : N ≤ wr.heap.size := Nat.le_trans hsz hF.size
    have HF : Hid (FrN x N w wr) := hF
    have HJ : Hid (∀ j, 3 ≤ j → wr.cell? ⟨x, j, none⟩ = w.cell? ⟨x, j, none⟩) := hJ
    have HO2 : Hid (Own8 wr N (.slice p2 q cc) q) := ho
    replace ff : Hid (∀ k, wr.frozen? ⟨x, k, none⟩ = false) := ff
    clear ho hF hJ af HO HO1 HF1 HJ1
    by_cases hge : 8 ≤ m
    · have hq : q ≤ 1099511627776 := by omega
      have hge' : (8 : Int) ≤ (m : Int) := by omega
      have eb := bounds_u8 (wf_wrap .u8 r2)
      have e0 : 0 ≤ IntKind.u8.wrap r2 := eb.1
      have e1 : IntKind.u8.wrap r2 < 256 := by omega
      have hne : ¬ (Value.slice p2 q cc).ownBlock = some x := fun e => by have := HO2.out.ge x e; omega
      have hxs : x < wr.heap.size := by omega
      clear eb
      go_wp2
      go_region_law ((refine step8_1 (by rfl) _ _ (by rfl) N (.slice p2 q cc) q (by rfl) (by first | exact HO2.out.alloc _ | exact (HO2.out.drewN _).alloc _ | exact (HO2.out.alloc _).drewN _) wr.heap.size 1 (IntKind.u8.wrap r2) (by rfl) e0 e1 (by simp) (by omega) (by simp; omega) ?_; intro g' cap w2 ho2 hf2; have fk : Fr (fun k => (Value.slice p2 q cc).ownBlock = some k) wr w2 := (((Fr.refl _ wr).drewN 1).alloc _).trans hf2; have k0 := (fk.cell (k := 0) hxs hne).trans c0; have k1 := (fk.cell (k := 1) hxs hne).trans c1; have k2 := (fk.cell (k := 2) hxs hne).trans c2; have g0 := (fk.frozen (k := 0) hxs hne).trans f0; have g1 := (fk.frozen (k := 1) hxs hne).trans f1; have g2 := (fk.frozen (k := 2) hxs hne).trans f2))
      all_goals
        have HO3 : Hid (Own8 (w2.setCell ⟨x, 0, none⟩ (Value.slice (some ⟨g', 0, none⟩) (q + 1) cap)) N (Value.slice (some ⟨g', 0, none⟩) (q + 1) cap) (q + 1)) := ho2.set hlt _ _
        have HF3 : Hid (FrN x N w (w2.setCell ⟨x, 0, none⟩ (Value.slice (some ⟨g', 0, none⟩) (q + 1) cap))) := (HF.out.trans' fk (fun i _ e => Or.inr (HO2.out.ge i e))).setCell (Or.inl (Or.inl rfl)) _ _
        have HJ3 : Hid (∀ j, 3 ≤ j → (w2.setCell ⟨x, 0, none⟩ (Value.slice (some ⟨g', 0, none⟩) (q + 1) cap)).cell? ⟨x, j, none⟩ = w.cell? ⟨x, j, none⟩) := fun j hj => (cell_set_other _ _ _ _ _ (by omega)).trans ((fk.cell hxs hne).trans (HJ.out j hj))
        have HG3 : Hid (∀ k, (w2.setCell ⟨x, 0, none⟩ (Value.slice (some ⟨g', 0, none⟩) (q + 1) cap)).frozen? ⟨x, k, none⟩ = false) := fun k => by rw [World.frozen?_setCell]; exact (fk.frozen hxs hne).trans (ff.out k)
        have m0 := cell_set_same k0 (Value.slice (some ⟨g', 0, none⟩) (q + 1) cap)
        have m1 := (cell_set_other w2 x 0 1 (Value.slice (some ⟨g', 0, none⟩) (q + 1) cap) (by omega)).trans k1
        have m2 := (cell_set_other w2 x 0 2 (Value.slice (some ⟨g', 0, none⟩) (q + 1) cap) (by omega)).trans k2
        have hsz' : szOf wr x = m := by unfold szOf; rw [c2]; simp
        generalize w2.setCell ⟨x, 0, none⟩ (Value.slice (some ⟨g', 0, none⟩) (q + 1) cap) = w3 at *
        have n0 := HG3.out 0
        have n1 := HG3.out 1
        have n2 := HG3.out 2
        clear fk hf2 ho2 HO2 HF HJ k0 k1 k2 g0 g1 g2 c0 c1 c2 f0 f1 f2
        go_wp2
        refine ⟨⟨m - 8, q + 1, _, r2 / 256, by omega, by omega, ?_, (cell_set_other _ _ _ _ _ (by omega)).trans ((cell_set_other _ _ _ _ _ (by omega)).trans m0), (HO3.out.set hlt _ _).set hlt _ _, by omega, by omega, ?_, ?_, (HF3.out.setCell (Or.inl (Or.inl rfl)) _ _).setCell (Or.inl (Or.inl rfl)) _ _, ?_⟩, ?_⟩
        · rw [cell_set_same ((cell_set_other _ _ _ _ _ (by omega)).trans m2)]
          exact congrArg some (val_int (by omega))
        · rw [cell_set_other _ _ _ _ _ (by omega), cell_set_same m1]
        · intro k; rw [World.frozen?_setCell, World.frozen?_setCell]; exact HG3.out k
        · intro j hj; rw [cell_set_other _ _ _ _ _ (by omega), cell_set_other _ _ _ _ _ (by omega)]; exact HJ3.out j hj
        · rw [hsz']
          unfold szOf
          rw [cell_set_same ((cell_set_other _ _ _ _ _ (by omega)).trans m2)]
          show ((m : Int) - 8).toNat < m
          omega
    · have hge' : ¬ (8 : Int) ≤ (m : Int) := by omega
      go_wp2
      go_end0
      refine ⟨rfl, ⟨hlt, hN, ff.out, ⟨_, c0, ?_⟩, ⟨r2, r0, r1, c1⟩, ?_⟩, HF.out, HJ.out⟩
      · rw [show (T + s) / 8 = q by omega]; exact HO2.out
      · rw [show (T + s) % 8 = m by omega]; exact c2
end Go.Proofs.YtjljchacohhhgaaDoor
namespace Go.Proofs.YtjljchacohhhgaaDoor
open Go.RowKit
set_option linter.unusedSimpArgs false
set_option linter.unusedVariables false

/-- What a call that writes bits leaves. -/
structure Wrote (x N T : Nat) (w w' : World) : Prop where
  bits : BitAt w' x N T
  fr : FrN x N w w'
  far : ∀ j, 3 ≤ j → w'.cell? ⟨x, j, none⟩ = w.cell? ⟨x, j, none⟩
theorem Wrote.trans {x N T T' : Nat} {a b c : World} (h : Wrote x N T a b) (k : Wrote x N T' b c) : Wrote x N T' a c := ⟨k.bits, h.fr.trans k.fr, fun j hj => (k.far j hj).trans (h.far j hj)⟩
theorem Wrote.refl {x N T : Nat} {a : World} (h : BitAt a x N T) : Wrote x N T a a := ⟨h, Fr.refl _ _, fun _ _ => rfl⟩
theorem BitAt.kept {x N T : Nat} {w w' : World} (h : BitAt w x N T) (k : Kept w w') : BitAt w' x N T := by
  obtain ⟨hlt, hsz, hfz, ⟨ov, h0, hown⟩, ⟨r, hr0, hr1, h1⟩, h2⟩ := h
  have hx : x < w.heap.size := by omega
  exact ⟨hlt, Nat.le_trans hsz k.size, fun j => (k.frozen (p := ⟨x, j, none⟩) hx).trans (hfz j), ⟨ov, (k.cell (p := ⟨x, 0, none⟩) hx).trans h0, hown.kept k⟩, ⟨r, hr0, hr1, (k.cell (p := ⟨x, 1, none⟩) hx).trans h1⟩, (k.cell (p := ⟨x, 2, none⟩) hx).trans h2⟩
theorem Wrote.kept {x N T : Nat} {a b c : World} (h : Wrote x N T a b) (k : Kept b c) : Wrote x N T a c := by
  have hx : x < b.heap.size := Nat.lt_of_lt_of_le h.bits.lt h.bits.size
  exact ⟨h.bits.kept k, h.fr.kept k, fun j hj => (k.cell (p := ⟨x, j, none⟩) hx).trans (h.far j hj)⟩
theorem Wrote.drewN {x N T : Nat} {a b : World} (h : Wrote x N T a b) (n : Nat) : Wrote x N T a (b.drewN n) := h.kept ((Kept.refl _).drewN n)
theorem number_w (x N T s : Nat) (n : Int) (w : World) (h : BitAt w x N T) (hs : s ≤ 16) (hn0 : 0 ≤ n) (hn1 : n < 4294967296) (hT : T ≤ 1099511627776) :
    Calls Tryd.prog 61 #[.pointer (some ⟨x, 0, none⟩), .int .u32 n, .int .u64 (s : Int)] w fun r w' => r = .returned (.tuple #[]) ∧ Wrote x N (T + s) w w' :=
  (number_any x N T s n w h hs hn0 hn1 hT).mono (fun r w' ⟨h1, h2, h3, h4⟩ => ⟨h1, h2, h3, h4⟩)

set_option maxRecDepth 100000 in
set_option maxHeartbeats 3200000 in
theorem code_any (x N T s : Nat) (n : Int) (w : World) (h : BitAt w x N T) (hs : s ≤ 15) (hn0 : 0 ≤ n) (hn1 : n < 4294967296) (hT : T ≤ 549755813888) :
    Calls Tryd.prog 75 #[.pointer (some ⟨x, 0, none⟩), .int .u32 n, .int .u64 (s : Int)] w fun r w' => r = .returned (.tuple #[]) ∧ Wrote x N (T + s) w w' := by
  have H0 : Hid (BitAt w x N T) := h
  clear h
  go_enter Tryd.func75, Tryd.ntmps75
  go_wp2
  go_loopw [2] (fun v W => ∃ k : Nat, k ≤ s ∧ v = .int .u64 (k : Int) ∧ Wrote x N (T + (s - k)) w W) (fun v _ => (intOf v).toNat)
  case atStart => exact ⟨s, by omega, rfl, by rw [Nat.sub_self]; exact Wrote.refl H0.out⟩
  case round =>
    obtain ⟨k, hk, rfl, hW⟩ := hrel
    by_cases h0 : 0 < k
    · have h0' : (0 : Int) ≤ (k : Int) - 1 := by omega
      have h1' : (k : Int) - 1 ≤ 32 := by omega
      have h2' : (0 : Int) < (k : Int) := by omega
      have q0 : 0 ≤ n / 2 ^ ((k : Int) - 1).toNat := Int.ediv_nonneg hn0 (by exact Int.le_of_lt (Int.pow_pos (by omega)))
      have q1 : n / 2 ^ ((k : Int) - 1).toNat < 4294967296 := Int.lt_of_le_of_lt (Int.ediv_le_self _ hn0) hn1
      have F : Hid (Calls Tryd.prog 61 #[.pointer (some ⟨x, 0, none⟩), .int .u32 (n / 2 ^ ((k : Int) - 1).toNat), .int .u64 1] wr fun r w' => r = .returned (.tuple #[]) ∧ Wrote x N (T + (s - k) + 1) wr w') := number_w x N (T + (s - k)) 1 _ wr hW.bits (by omega) q0 q1 (by omega)
      replace hW : Hid (Wrote x N (T + (s - k)) w wr) := hW
      clear q0 q1
      go_wp2_with fail
      rw [show n / 2 ^ (k - 1) = n / 2 ^ ((k : Int) - 1).toNat by congr 2; omega]
      refine F.out.mono ?_
      rintro r w1 ⟨rfl, hw1⟩
      have HW1 : Hid (Wrote x N (T + (s - k) + 1) w w1) := hW.out.trans hw1
      clear hw1
      go_wp2
      exact ⟨⟨k - 1, by omega, val_int (by omega), by rw [show T + (s - (k - 1)) = T + (s - k) + 1 by omega]; exact HW1.out⟩, by simp [intOf]; omega⟩
    · have hk0 : k = 0 := by omega
      subst hk0
      go_wp2
      go_end0
      exact ⟨rfl, hW⟩

set_option maxRecDepth 100000 in
set_option maxHeartbeats 3200000 in
theorem fill_any (x N T : Nat) (w : World) (h : BitAt w x N T) (hT : T ≤ 549755813888) :
    Calls Tryd.prog 50 #[.pointer (some ⟨x, 0, none⟩)] w fun r w' => r = .returned (.tuple #[]) ∧ Wrote x N (8 * ((T + 7) / 8)) w w' := by
  have h2 := h.sz
  have hm : T % 8 < 8 := Nat.mod_lt _ (by omega)
  by_cases h0 : T % 8 = 0
  · have H0 : Hid (BitAt w x N T) := h
    rw [h0] at h2
    clear h hm
    have HE : Hid (8 * ((T + 7) / 8) = T) := by show 8 * ((T + 7) / 8) = T; omega
    clear h0
    go_enter Tryd.func50, Tryd.ntmps50
    go_wp2
    go_end0
    exact ⟨rfl, by rw [HE.out]; exact Wrote.refl H0.out⟩
  · obtain ⟨m, hme⟩ : ∃ m, m = T % 8 := ⟨_, rfl⟩
    rw [← hme] at h2 hm h0
    have HE : Hid (8 * ((T + 7) / 8) = T + (8 - m)) := by show 8 * ((T + 7) / 8) = T + (8 - m); omega
    clear hme
    have F : Hid (∀ W, Kept w W → Calls Tryd.prog 61 #[.pointer (some ⟨x, 0, none⟩), .int .u32 0, .int .u64 ((8 - m : Nat) : Int)] W fun r w' => r = .returned (.tuple #[]) ∧ Wrote x N (T + (8 - m)) W w') := fun W hK => number_w x N T (8 - m) 0 W (h.kept hK) (by omega) (by omega) (by omega) (by omega)
    have H0 : Hid (BitAt w x N T) := h
    clear h
    have e8 : ((8 - m : Nat) : Int) = 8 - (m : Int) := by omega
    rw [e8] at F
    have hm0 : (0 : Int) < (m : Int) := by omega
    have hm8 : (m : Int) < 8 := by omega
    clear e8 h0
    go_enter Tryd.func50, Tryd.ntmps50
    go_wp2_with fail
    refine (F.out _ (Kept.refl _)).mono ?_
    rintro r w1 ⟨rfl, hw1⟩
    go_wp2
    go_end0
    exact ⟨rfl, by rw [HE.out]; exact hw1⟩

/-- The codes of the symbols. -/
def BookAt (W : World) (x o : Nat) : Prop := ∀ i, i < 288 → ∃ c z : Int, 0 ≤ c ∧ c < 4294967296 ∧ 0 ≤ z ∧ z < 16 ∧ W.cell? ⟨x, o + i, none⟩ = some (.int .u32 c) ∧ W.cell? ⟨x, o + 288 + i, none⟩ = some (.int .u8 z)
theorem BookAt.far {x : Nat} {w W : World} (h : BookAt w x 3) (k : ∀ j, 3 ≤ j → W.cell? ⟨x, j, none⟩ = w.cell? ⟨x, j, none⟩) : BookAt W x 3 := by
  intro i hi
  obtain ⟨c, z, a, b, d, e, f, g⟩ := h i hi
  exact ⟨c, z, a, b, d, e, by rw [k _ (by omega)]; exact f, by rw [k _ (by omega)]; exact g⟩
set_option maxRecDepth 100000 in
set_option maxHeartbeats 3200000 in
theorem bcode_any (x i : Nat) (c z : Int) (w : World) (hi : i < 288) (hc0 : 0 ≤ c) (hc1 : c < 4294967296) (hz0 : 0 ≤ z) (hz1 : z < 16) (h1 : w.cell? ⟨x, 3 + i, none⟩ = some (.int .u32 c)) (h2 : w.cell? ⟨x, 3 + 288 + i, none⟩ = some (.int .u8 z)) :
    Calls Tryd.prog 74 #[.pointer (some ⟨x, 3, none⟩), .int .i64 (i : Int)] w fun r w' => r = .returned (.tuple #[.int .u32 c, .int .u64 z]) ∧ Kept w w' := by
  have i0 : (0 : Int) ≤ (i : Int) := by omega
  have i1 : (i : Int) < 288 := by omega
  go_enter Tryd.func74, Tryd.ntmps74
  go_wp2
  go_quiet (fail)
  go_wp2
  go_ret2
  exact ⟨rfl, (Kept.refl _).drewN _⟩
end Go.Proofs.YtjljchacohhhgaaDoor
