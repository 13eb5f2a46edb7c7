import Derived.Test.YtmbmecfodigciaaGreatDoorRd01
import Derived.Test.YtmbmecfodigciaaGreatDoorRd04
import Derived.Test.YtmbmecfodigciaaGreatDoorRd07
import Derived.Test.YtmbmecfodigciaaGreatDoorRd05
import Derived.Test.YtmbmecfodigciaaGreatDoorRd02
set_option maxRecDepth 100000
set_option maxHeartbeats 6400000
namespace Go.Proofs.YtmbmecfodigciaaGreatDoor
open Go.RowKit
set_option linter.unusedSimpArgs false
set_option linter.unusedVariables false
theorem count_any (L : Nat) (w : World) (h : L ≤ 1) :
  Calls Tryz.prog 94 #[.int .i64 (L : Int)] w fun r w' => r = .returned (.int .i64 ((if L = 1 then 7 else 1 : Nat) : Int)) ∧ w' = w := by
 have : L = 0 ∨ L = 1 := by omega
 rcases this with rfl | rfl
 all_goals
  go_enter Tryz.func94, Tryz.ntmps94
  go_wp2
  go_ret
  exact ⟨rfl, rfl⟩
def gridL : List Int := [0, 0, 8, 8, 8, 8, 4, 0, 8, 8, 4, 8, 0, 4, 4, 8, 4, 4, 2, 0, 4, 4, 2, 4, 0, 2, 2, 4, 2, 2, 1, 0, 2, 2, 1, 2, 0, 1, 1, 2, 1, 1]
def GridAt (w : World) : Prop := ∀ j, j < 42 → w.cell? ⟨0, j, none⟩ = some (.int .i64 (gridL.getD j 0))
theorem GridAt.kept {w w' : World} (h : GridAt w) (k : Kept w w') : GridAt w' := fun j hj => (k.cell (p := ⟨0, j, none⟩) (World.block_lt_of_cell? _ _ (h j hj))).trans (h j hj)
theorem GridAt.fr {S : Nat → Prop} {w w' : World} (h : GridAt w) (k : Fr S w w') (h0 : ¬ S 0) : GridAt w' := fun j hj => (k.cell (World.block_lt_of_cell? _ _ (h j hj)) h0).trans (h j hj)
theorem zero263 : Tryz.zeroCells142 = #[.int .i64 0, .int .i64 0, .int .i64 0, .int .i64 0, .int .i64 0, .slice none 0 0, .int .i64 0] ++ Array.replicate 256 (.int .u8 0) := by kernel_rfl
theorem size263 : (Tryz.zeroCells142).toList.length = 263 := by rw [zero263, Array.toList_append, Array.toList_replicate, List.length_append, List.length_replicate]; rfl
theorem lay_lines (W H D K L : Nat) : ∃ A : List Value, (((((Tryz.zeroCells142.toList.set 0 (.int .i64 (W : Int))).set 1 (.int .i64 (H : Int))).set 2 (.int .i64 (D : Int))).set 3 (.int .i64 (K : Int))).set 4 (.int .i64 (L : Int))) = A ∧ A.length = 263 ∧ A[0]? = some (.int .i64 (W : Int)) ∧ A[1]? = some (.int .i64 (H : Int)) ∧ A[2]? = some (.int .i64 (D : Int)) ∧ A[3]? = some (.int .i64 (K : Int)) ∧ A[4]? = some (.int .i64 (L : Int)) ∧ A[5]? = some (.slice none 0 0) ∧ A[6]? = some (.int .i64 0) ∧ (∀ j, j < 256 → A[7 + j]? = some (.int .u8 0)) ∧ (∀ v ∈ A, v.oneCell' = true) := by
 have e : (((((Tryz.zeroCells142.toList.set 0 (.int .i64 (W : Int))).set 1 (.int .i64 (H : Int))).set 2 (.int .i64 (D : Int))).set 3 (.int .i64 (K : Int))).set 4 (.int .i64 (L : Int))) = [.int .i64 (W : Int), .int .i64 (H : Int), .int .i64 (D : Int), .int .i64 (K : Int), .int .i64 (L : Int), .slice none 0 0, .int .i64 0] ++ List.replicate 256 (.int .u8 0) := by
  rw [zero263, Array.toList_append, Array.toList_replicate]
  rfl
 refine ⟨_, e, by rw [List.length_append, List.length_replicate]; rfl, rfl, rfl, rfl, rfl, rfl, rfl, rfl, ?_, ?_⟩
 ·intro j hj
  rw [List.getElem?_append_right (by simp)]
  rw [show 7 + j - [Value.int .i64 (W : Int), .int .i64 (H : Int), .int .i64 (D : Int), .int .i64 (K : Int), .int .i64 (L : Int), .slice none 0 0, .int .i64 0].length = j by simp, List.getElem?_replicate, if_pos hj]
 ·intro v hv
  rcases List.mem_append.1 hv with h | h
  ·simp at h
   rcases h with rfl | rfl | rfl | rfl | rfl | rfl | rfl <;> rfl
  ·rw [(List.mem_replicate.1 h).2]; rfl
structure OkCh (L P V : Nat) (fl kl cl : List Int) : Prop where
 l : L ≤ 1
 p1 : 1 ≤ P
 p2 : P ≤ 4000
 v : V ≤ 7
 f0 : 0 < fl.length
 f1 : fl.length ≤ 64
 fb : ∀ y ∈ fl, 0 ≤ y ∧ y ≤ 4
 k0 : 0 < kl.length
 k1 : kl.length ≤ 64
 kb : ∀ y ∈ kl, 0 ≤ y ∧ y ≤ 2
 c0 : 0 < cl.length
 c1 : cl.length ≤ 64
 cb : ∀ y ∈ cl, 0 ≤ y ∧ y ≤ 65536
 cf : 1 ≤ cl.getD 0 0
theorem Own8.cap {w : World} {N : Nat} {v : Value} {n : Nat} (h : Own8 w N v n) (h0 : 0 < n) : ∃ g c, v = .slice (some ⟨g, 0, none⟩) n c ∧ n ≤ c ∧ N ≤ g := by
 obtain ⟨l, _, _, h1, h2⟩ := h
 rcases h2 with ⟨_, e⟩ | ⟨g, cap, cur, hv, hg, hh, hnc, r⟩
 ·omega
 ·exact ⟨g, cap, hv, hnc, hg⟩
theorem legal.k6 {K D : Nat} (h : legal K D) : K ≤ 6 ∧ D ≤ 16 := by have := h.k; have := h.d; omega
theorem newEnc_any (w : World) : Calls Tryz.prog 37 #[] w fun r w' => (∃ a, r = .returned (.pointer (some a))) ∧ Kept w w' := by
 go_enter Tryz.func37, Tryz.ntmps37
 go_wp2
 go_ret
 exact ⟨⟨_, rfl⟩, Below.alloc (Below.refl _ _) (Nat.le_refl _) _⟩
theorem pick_any (c : Int) (n : Nat) (w : World) (h1 : -9223372036854775808 ≤ c) (h2 : c < 9223372036854775808) (hn : 1 ≤ n) (hn2 : n ≤ 1099511627776) :
  Calls Tryz.prog 17 #[.int .i64 c, .int .i64 (n : Int)] w fun r w' => (∃ k : Nat, k < n ∧ r = .returned (.int .i64 (k : Int))) ∧ w' = w := by
 by_cases hc : c < 0
 ·go_enter Tryz.func17, Tryz.ntmps17
  go_wp2
  go_ret
  have e : -(c + 1).tmod (n : Int) = (-(c + 1)) % (n : Int) := by rw [← Int.neg_tmod, Int.tmod_eq_emod_of_nonneg (by omega)]
  have p0 := Int.emod_nonneg (-(c + 1)) (show (n : Int) ≠ 0 by omega)
  have p1 := Int.emod_lt_of_pos (-(c + 1)) (show (0 : Int) < (n : Int) by omega)
  exact ⟨⟨((-(c + 1)) % (n : Int)).toNat, by omega, ret_int (by rw [e]; omega)⟩, rfl⟩
 ·go_enter Tryz.func17, Tryz.ntmps17
  go_wp2
  go_ret
  have p0 := Int.emod_nonneg c (show (n : Int) ≠ 0 by omega)
  have p1 := Int.emod_lt_of_pos c (show (0 : Int) < (n : Int) by omega)
  exact ⟨⟨(c % (n : Int)).toNat, by omega, ret_int (by omega)⟩, rfl⟩
theorem channels_any (K : Nat) (w : World) (h : K = 0 ∨ K = 2 ∨ K = 3 ∨ K = 4 ∨ K = 6) :
  Calls Tryz.prog 35 #[.int .i64 (K : Int)] w fun r w' => r = .returned (.int .i64 (chan K : Int)) ∧ w' = w := by
 rcases h with rfl | rfl | rfl | rfl | rfl
 all_goals
  go_enter Tryz.func35, Tryz.ntmps35
  go_wp2
  go_ret
  exact ⟨rfl, rfl⟩
theorem at_any (s : ByteArray) (k : Nat) (w : World) (hs : s.size ≤ 65536) (hk : k ≤ 1048576) :
  Calls Tryz.prog 34 #[.string s, .int .i64 (k : Int)] w fun r w' => (∃ v : Nat, v < 256 ∧ r = .returned (.int .i64 (v : Int))) ∧ Kept w w' := by
 by_cases h0 : s.size = 0
 ·have h0' : ((s.size : Int) == 0) = true := by rw [h0]; rfl
  have h0'' : (s.size : Int) = 0 := by omega
  go_enter Tryz.func34, Tryz.ntmps34
  go_wp2
  go_ret
  exact ⟨⟨0, by omega, rfl⟩, Kept.refl _⟩
 ·have h0' : ((s.size : Int) == 0) = false := by rw [beq_eq_false_iff_ne]; omega
  have hm : k % s.size < s.size := Nat.mod_lt _ (by omega)
  have e : (k : Int).tmod (s.size : Int) = ((k % s.size : Nat) : Int) := by rw [Int.tmod_eq_emod_of_nonneg (by omega)]; exact Int.natCast_emod k s.size
  have e2 : (k : Int) % (s.size : Int) = ((k % s.size : Nat) : Int) := (Int.natCast_emod k s.size).symm
  have i1 : ((k % s.size : Nat) : Int) < (s.size : Int) := by omega
  have n1 : ¬ ((s.size : Int) = 0) := by omega
  generalize k % s.size = M at *
  have i0 : (0 : Int) ≤ (M : Int) := by omega
  go_enter Tryz.func34, Tryz.ntmps34
  go_wp2
  go_ret
  have hb : s[M].toNat < 256 := UInt8.toNat_lt _
  refine ⟨⟨s[M].toNat, hb, ret_int ?_⟩, Kept.refl _⟩
  unfold wrap64
  omega
theorem far_any (s t u v : ByteArray) (w : World) (hs : s.size < 9223372036854775808) (ht : t.size < 9223372036854775808) (hu : u.size < 9223372036854775808) (hv : v.size < 9223372036854775808) :
  Calls Tryz.prog 10 #[.string s, .string t, .string u, .string v] w fun r w' => r = .returned (.bool (decide (65536 < s.size ∨ 65536 < t.size ∨ 65536 < u.size ∨ 65536 < v.size))) ∧ w' = w := by
 by_cases h1 : 65536 < s.size
 ·have h1' : (65536 : Int) < (s.size : Int) := by omega
  go_enter Tryz.func10, Tryz.ntmps10
  go_wp2
  go_ret
  exact ⟨ret_bool (by simp [h1]), rfl⟩
 ·have h1' : ¬ (65536 : Int) < (s.size : Int) := by omega
  by_cases h2 : 65536 < t.size
  ·have h2' : (65536 : Int) < (t.size : Int) := by omega
   go_enter Tryz.func10, Tryz.ntmps10
   go_wp2
   go_ret
   exact ⟨ret_bool (by simp [h2]), rfl⟩
  ·have h2' : ¬ (65536 : Int) < (t.size : Int) := by omega
   by_cases h3 : 65536 < u.size
   ·have h3' : (65536 : Int) < (u.size : Int) := by omega
    go_enter Tryz.func10, Tryz.ntmps10
    go_wp2
    go_ret
    exact ⟨ret_bool (by simp [h3]), rfl⟩
   ·have h3' : ¬ (65536 : Int) < (u.size : Int) := by omega
    by_cases h4 : 65536 < v.size
    ·have h4' : (65536 : Int) < (v.size : Int) := by omega
     go_enter Tryz.func10, Tryz.ntmps10
     go_wp2
     go_ret
     exact ⟨ret_bool (by simp [h4]), rfl⟩
    ·have h4' : ¬ (65536 : Int) < (v.size : Int) := by omega
     go_enter Tryz.func10, Tryz.ntmps10
     go_wp2
     go_ret
     exact ⟨ret_bool (by simp [h1, h2, h3, h4]), rfl⟩
theorem infoI : (Tryz.prog.info? 3).map (fun i => (i.zero, i.size, i.bytes)) = some (some (.int .i64 0), 1, 8) := by kernel_rfl
def OwnI (w : World) (N : Nat) (v : Value) (l : List Int) : Prop := w.ownsRow N 3 1 v l.length (l.map (Value.int .i64))
theorem OwnI.slice {w : World} {N : Nat} {v : Value} {l : List Int} (h : OwnI w N v l) : ∃ p c, v = .slice p l.length c := own_slice h
theorem OwnI.kept {w W : World} {N : Nat} {v : Value} {l : List Int} (h : OwnI w N v l) (k : Kept w W) : OwnI W N v l := own_kept h k
theorem OwnI.alloc {w : World} {N : Nat} {v : Value} {l : List Int} (h : OwnI w N v l) (o : Obj) : OwnI (w.alloc o) N v l := h.kept (Below.alloc (Below.refl _ _) (Nat.le_refl _) o)
theorem OwnI.drewN {w : World} {N : Nat} {v : Value} {l : List Int} (h : OwnI w N v l) (k : Nat) : OwnI (w.drewN k) N v l := h.kept ((Kept.refl _).drewN k)
theorem OwnI.set {w : World} {N : Nat} {v : Value} {l : List Int} (h : OwnI w N v l) {b : Nat} (hb : b < N) (k : Nat) (u : Value) : OwnI (w.setCell ⟨b, k, none⟩ u) N v l := ownsRow_setCell_below h hb _
theorem OwnI.ge {w : World} {N : Nat} {v : Value} {l : List Int} (h : OwnI w N v l) : ∀ k, v.ownBlock = some k → N ≤ k := fun k hk => (World.ownsRow.lt h k hk).1
theorem OwnI.nil (w : World) (N : Nat) : OwnI w N (.slice none 0 0) [] := World.ownsRow_nil _ _ _ _
theorem OwnI.lat {w : World} {N : Nat} {v : Value} {l : List Int} (h : OwnI w N v l) : LAt w .i64 v l := own_lat h
theorem appendI (w : World) {ops : Array Oper} {rest : List Oper} {o : Oper} {a : Act} {Q : Exit → Act → World → Prop}
  (hg : o.guard = none) (s x : Operand) (hop : o.op = Op.call { callee := Callee.builtin Builtin.append, args := #[s, x], argTypes := #[31, 31] })
  (N : Nat) (v : Value) (l : List Int) (hs : a.eval s = v) (hown : OwnI w N v l)
  (g c : Nat) (e : Int) (hx : a.eval x = .slice (some ⟨g, 0, none⟩) 1 c) (hc : w.cell? ⟨g, 0, none⟩ = some (.int .i64 e)) (hb : l.length + 1 ≤ 1048576) (hbase : N ≤ w.heap.size)
  (hK : ∀ v' w', OwnI w' N v' (l ++ [e]) → Fr (fun k => v.ownBlock = some k) w w' → (∀ k, v'.ownBlock = some k → v.ownBlock = some k ∨ w.heap.size ≤ k) → wpList Tryz.prog ops Q rest (a.put o.dst v') w') :
  wpList Tryz.prog ops Q (o :: rest) a w := by
 refine append_own w 31 31 3 1 8 (.int .i64 0) Tryz.underlying31 infoI rfl (by omega) hg s x hop N v l.length (l.map (Value.int .i64)) hs hown ⟨g, 0, none⟩ 1 c [.int .i64 e] hx rfl (by omega) ?_ ?_ (by unfold maxLen; omega) (by omega) hbase ?_ rfl
 ·intro j u hj
  match j, hj with
  | 0, hj => simp at hj; subst hj; exact hc
  | j + 1, hj => simp at hj
 ·intro u hu; simp at hu; subst hu; rfl
 ·intro v' w' h1 h2 h3
  refine hK v' w' ?_ ⟨h2.os, h2.tape, h2.output, h2.size, fun k hk hn => h2.block k hk (fun e => hn e.symm)⟩ h3
  show w'.ownsRow N 3 1 v' (l ++ [e]).length ((l ++ [e]).map (Value.int .i64))
  rw [List.length_append, List.map_append]
  exact h1
theorem stepI {w : World} {ops : Array Oper} {o : Oper} {a : Act} {K : Act → World → Prop} {Q : Exit → Act → World → Prop} {E : Prop} (hgd : o.guard = none) (s x : Operand)
  (hop : o.op = Op.call { callee := Callee.builtin Builtin.append, args := #[s, x], argTypes := #[31, 31] })
  (N : Nat) (v : Value) (l : List Int) (hs : a.eval s = v) (hown : OwnI w N v l)
  (g c : Nat) (e : Int) (hx : a.eval x = .slice (some ⟨g, 0, none⟩) 1 c) (hc : w.cell? ⟨g, 0, none⟩ = some (.int .i64 e)) (hb : l.length + 1 ≤ 1048576) (hbase : N ≤ w.heap.size)
  (hK : ∀ g' cap w', OwnI w' N (.slice (some ⟨g', 0, none⟩) (l.length + 1) cap) (l ++ [e]) → Fr (fun k => v.ownBlock = some k) w w' → (v.ownBlock = some g' ∨ w.heap.size ≤ g') → K (a.put o.dst (.slice (some ⟨g', 0, none⟩) (l.length + 1) cap)) w') :
  if Region.wanted o (yielded ops a.tmps) = true then Oper.wp Tryz.prog o a w K Q else E := by
 obtain ⟨i0, hi, hz0, hz1, hz2⟩ := info_parts' infoI
 refine step_append_lies w hgd s x 31 hop N 3 i0 (.int .i64 0) 1 8 Tryz.underlying31 hi hz0 hz1 hz2 rfl (by omega) v l.length (l.map (Value.int .i64)) hs hown ⟨g, 0, none⟩ 1 c [.int .i64 e] hx rfl ?_ ?_ (by omega) (by unfold maxLen; omega) (by omega) hbase w.heap.size rfl ?_
 ·intro j u hj
  match j, hj with
  | 0, hj => simp at hj; subst hj; exact hc
  | j + 1, hj => simp at hj
 ·intro u hu; simp at hu; subst hu; rfl
 ·intro g' cap w' h1 h2 h3 h4
  refine hK g' cap w' ?_ ⟨h2.os, h2.tape, h2.output, h2.size, fun k hk hn => h2.block k hk (fun e => hn e.symm)⟩ (match h3 with|.inl a=>.inl a|.inr e=>.inr (by omega))
  show w'.ownsRow N 3 1 _ (l ++ [e]).length ((l ++ [e]).map (Value.int .i64))
  rw [List.length_append, List.map_append]
  exact h1
structure ChAt (w W : World) (x N so : Nat) (s t : ByteArray) (P V Z : Int) (fv kv cv : Value) (fl kl cl : List Int) : Prop where
 lt : x < N
 sN : so < N
 sx : so ≠ x
 size : N ≤ W.heap.size
 fz : ∀ k, W.frozen? ⟨x, k, none⟩ = false
 c8 : W.cell? ⟨x, 8, none⟩ = some fv
 c9 : W.cell? ⟨x, 9, none⟩ = some kv
 c11 : W.cell? ⟨x, 11, none⟩ = some cv
 c10 : W.cell? ⟨x, 10, none⟩ = some (.int .i64 P)
 c12 : W.cell? ⟨x, 12, none⟩ = some (.int .i64 V)
 c13 : W.cell? ⟨x, 13, none⟩ = some (.int .i64 Z)
 of : OwnI W N fv fl
 ok : OwnI W N kv kl
 oc : OwnI W N cv cl
 fk : ∀ g, fv.ownBlock = some g → kv.ownBlock ≠ some g
 fc : ∀ g, fv.ownBlock = some g → cv.ownBlock ≠ some g
 kc : ∀ g, kv.ownBlock = some g → cv.ownBlock ≠ some g
 o3 : W.cell? ⟨so, 3, none⟩ = some (.string s)
 o4 : W.cell? ⟨so, 4, none⟩ = some (.string t)
 rest : ∀ j, j < 8 ∨ 13 < j → W.cell? ⟨x, j, none⟩ = w.cell? ⟨x, j, none⟩
 fr : Fr1 x w W
 wN : w.heap.size ≤ N
theorem own_fr {S : Nat → Prop} {w W : World} {N : Nat} {v : Value} {l : List Int} (h : OwnI w N v l) (k : Fr S w W) (hS : ∀ g, v.ownBlock = some g → ¬ S g) : OwnI W N v l := by
 refine ⟨h.1, ?_⟩
 rcases h.2 with e | ⟨g, cap, cur, hv, hg, hh, r⟩
 ·exact Or.inl e
 ·refine Or.inr ⟨g, cap, cur, hv, hg, ?_, r⟩
  have hlt : g < w.heap.size := (Array.getElem?_eq_some_iff.1 hh).1
  rw [k.block g hlt (hS g (by rw [hv]; rfl))]; exact hh
theorem ChAt.grow_f {w W W2 : World} {x N so : Nat} {s t : ByteArray} {P V Z : Int} {fv kv cv : Value} {fl kl cl : List Int} (h : ChAt w W x N so s t P V Z fv kv cv fl kl cl) (v' : Value) (l' : List Int) (fk : Fr (fun g => fv.ownBlock = some g) W W2) (ho : OwnI W2 N v' l') (hn : ∀ g, v'.ownBlock = some g → fv.ownBlock = some g ∨ W.heap.size ≤ g) : ChAt w (W2.setCell ⟨x, 8, none⟩ v') x N so s t P V Z v' kv cv l' kl cl := by
 have hx : x < W.heap.size := Nat.lt_of_lt_of_le h.lt h.size
 have hs : so < W.heap.size := Nat.lt_of_lt_of_le h.sN h.size
 have hlt := h.lt
 have hsx := h.sx
 have hge : ∀ g, fv.ownBlock = some g → N ≤ g := h.of.ge
 have hnx : ¬ fv.ownBlock = some x := fun e => by have := hge x e; omega
 have hns : ¬ fv.ownBlock = some so := fun e => by have := hge so e; have := h.sN; omega
 have e : ∀ j, j ≠ 8 → (W2.setCell ⟨x, 8, none⟩ v').cell? ⟨x, j, none⟩ = W.cell? ⟨x, j, none⟩ := fun j hj => (cell_set_other _ _ _ _ _ (fun q => hj q.symm)).trans (fk.cell hx hnx)
 have eo : ∀ j, (W2.setCell ⟨x, 8, none⟩ v').cell? ⟨so, j, none⟩ = W.cell? ⟨so, j, none⟩ := fun j => (World.cell?_setCell_other _ _ _ _ (by intro q; injection q; omega)).trans (fk.cell hs hns)
 have hse : (W2.setCell ⟨x, 8, none⟩ v').heap.size = W2.heap.size := by simp [World.setCell]
 have lt_of : ∀ (v : Value) (l : List Int), OwnI W N v l → ∀ g, v.ownBlock = some g → g < W.heap.size := fun v l q g hg => (World.ownsRow.lt q g hg).2
 exact ⟨h.lt, h.sN, h.sx, by rw [hse]; exact Nat.le_trans h.size fk.size, fun k => by rw [World.frozen?_setCell]; exact (fk.frozen hx hnx).trans (h.fz k), cell_set_same ((fk.cell (k := 8) hx hnx).trans h.c8) _, (e 9 (by omega)).trans h.c9, (e 11 (by omega)).trans h.c11, (e 10 (by omega)).trans h.c10, (e 12 (by omega)).trans h.c12, (e 13 (by omega)).trans h.c13, ho.set hlt _ _, (own_fr h.ok fk (fun g hg q => h.fk g q hg)).set hlt _ _, (own_fr h.oc fk (fun g hg q => h.fc g q hg)).set hlt _ _, fun g hg q => by rcases hn g hg with r | r; exact h.fk g r q; have := lt_of _ _ h.ok g q; omega, fun g hg q => by rcases hn g hg with r | r; exact h.fc g r q; have := lt_of _ _ h.oc g q; omega, h.kc, (eo 3).trans h.o3, (eo 4).trans h.o4, fun j hj => (e j (by omega)).trans (h.rest j hj), Fr.setCell (S := fun g => g = x) (Fr.trans' h.fr fk (fun g hg q => by have := hge g q; have := h.wN; omega)) (Or.inl rfl) _ _, h.wN⟩
theorem ChAt.grow_k {w W W2 : World} {x N so : Nat} {s t : ByteArray} {P V Z : Int} {fv kv cv : Value} {fl kl cl : List Int} (h : ChAt w W x N so s t P V Z fv kv cv fl kl cl) (v' : Value) (l' : List Int) (fk : Fr (fun g => kv.ownBlock = some g) W W2) (ho : OwnI W2 N v' l') (hn : ∀ g, v'.ownBlock = some g → kv.ownBlock = some g ∨ W.heap.size ≤ g) : ChAt w (W2.setCell ⟨x, 9, none⟩ v') x N so s t P V Z fv v' cv fl l' cl := by
 have hx : x < W.heap.size := Nat.lt_of_lt_of_le h.lt h.size
 have hs : so < W.heap.size := Nat.lt_of_lt_of_le h.sN h.size
 have hlt := h.lt
 have hsx := h.sx
 have hge : ∀ g, kv.ownBlock = some g → N ≤ g := h.ok.ge
 have hnx : ¬ kv.ownBlock = some x := fun e => by have := hge x e; omega
 have hns : ¬ kv.ownBlock = some so := fun e => by have := hge so e; have := h.sN; omega
 have e : ∀ j, j ≠ 9 → (W2.setCell ⟨x, 9, none⟩ v').cell? ⟨x, j, none⟩ = W.cell? ⟨x, j, none⟩ := fun j hj => (cell_set_other _ _ _ _ _ (fun q => hj q.symm)).trans (fk.cell hx hnx)
 have eo : ∀ j, (W2.setCell ⟨x, 9, none⟩ v').cell? ⟨so, j, none⟩ = W.cell? ⟨so, j, none⟩ := fun j => (World.cell?_setCell_other _ _ _ _ (by intro q; injection q; omega)).trans (fk.cell hs hns)
 have hse : (W2.setCell ⟨x, 9, none⟩ v').heap.size = W2.heap.size := by simp [World.setCell]
 have lt_of : ∀ (v : Value) (l : List Int), OwnI W N v l → ∀ g, v.ownBlock = some g → g < W.heap.size := fun v l q g hg => (World.ownsRow.lt q g hg).2
 exact ⟨h.lt, h.sN, h.sx, by rw [hse]; exact Nat.le_trans h.size fk.size, fun k => by rw [World.frozen?_setCell]; exact (fk.frozen hx hnx).trans (h.fz k), (e 8 (by omega)).trans h.c8, cell_set_same ((fk.cell (k := 9) hx hnx).trans h.c9) _, (e 11 (by omega)).trans h.c11, (e 10 (by omega)).trans h.c10, (e 12 (by omega)).trans h.c12, (e 13 (by omega)).trans h.c13, (own_fr h.of fk (fun g hg q => h.fk g hg q)).set hlt _ _, ho.set hlt _ _, (own_fr h.oc fk (fun g hg q => h.kc g q hg)).set hlt _ _, fun g hg q => by rcases hn g q with r | r; exact h.fk g hg r; have := lt_of _ _ h.of g hg; omega, h.fc, fun g hg q => by rcases hn g hg with r | r; exact h.kc g r q; have := lt_of _ _ h.oc g q; omega, (eo 3).trans h.o3, (eo 4).trans h.o4, fun j hj => (e j (by omega)).trans (h.rest j hj), Fr.setCell (S := fun g => g = x) (Fr.trans' h.fr fk (fun g hg q => by have := hge g q; have := h.wN; omega)) (Or.inl rfl) _ _, h.wN⟩
theorem ChAt.grow_c {w W W2 : World} {x N so : Nat} {s t : ByteArray} {P V Z : Int} {fv kv cv : Value} {fl kl cl : List Int} (h : ChAt w W x N so s t P V Z fv kv cv fl kl cl) (v' : Value) (l' : List Int) (fk : Fr (fun g => cv.ownBlock = some g) W W2) (ho : OwnI W2 N v' l') (hn : ∀ g, v'.ownBlock = some g → cv.ownBlock = some g ∨ W.heap.size ≤ g) : ChAt w (W2.setCell ⟨x, 11, none⟩ v') x N so s t P V Z fv kv v' fl kl l' := by
 have hx : x < W.heap.size := Nat.lt_of_lt_of_le h.lt h.size
 have hs : so < W.heap.size := Nat.lt_of_lt_of_le h.sN h.size
 have hlt := h.lt
 have hsx := h.sx
 have hge : ∀ g, cv.ownBlock = some g → N ≤ g := h.oc.ge
 have hnx : ¬ cv.ownBlock = some x := fun e => by have := hge x e; omega
 have hns : ¬ cv.ownBlock = some so := fun e => by have := hge so e; have := h.sN; omega
 have e : ∀ j, j ≠ 11 → (W2.setCell ⟨x, 11, none⟩ v').cell? ⟨x, j, none⟩ = W.cell? ⟨x, j, none⟩ := fun j hj => (cell_set_other _ _ _ _ _ (fun q => hj q.symm)).trans (fk.cell hx hnx)
 have eo : ∀ j, (W2.setCell ⟨x, 11, none⟩ v').cell? ⟨so, j, none⟩ = W.cell? ⟨so, j, none⟩ := fun j => (World.cell?_setCell_other _ _ _ _ (by intro q; injection q; omega)).trans (fk.cell hs hns)
 have hse : (W2.setCell ⟨x, 11, none⟩ v').heap.size = W2.heap.size := by simp [World.setCell]
 have lt_of : ∀ (v : Value) (l : List Int), OwnI W N v l → ∀ g, v.ownBlock = some g → g < W.heap.size := fun v l q g hg => (World.ownsRow.lt q g hg).2
 exact ⟨h.lt, h.sN, h.sx, by rw [hse]; exact Nat.le_trans h.size fk.size, fun k => by rw [World.frozen?_setCell]; exact (fk.frozen hx hnx).trans (h.fz k), (e 8 (by omega)).trans h.c8, (e 9 (by omega)).trans h.c9, cell_set_same ((fk.cell (k := 11) hx hnx).trans h.c11) _, (e 10 (by omega)).trans h.c10, (e 12 (by omega)).trans h.c12, (e 13 (by omega)).trans h.c13, (own_fr h.of fk (fun g hg q => h.fc g hg q)).set hlt _ _, (own_fr h.ok fk (fun g hg q => h.kc g hg q)).set hlt _ _, ho.set hlt _ _, h.fk, fun g hg q => by rcases hn g q with r | r; exact h.fc g hg r; have := lt_of _ _ h.of g hg; omega, fun g hg q => by rcases hn g q with r | r; exact h.kc g hg r; have := lt_of _ _ h.ok g hg; omega, (eo 3).trans h.o3, (eo 4).trans h.o4, fun j hj => (e j (by omega)).trans (h.rest j hj), Fr.setCell (S := fun g => g = x) (Fr.trans' h.fr fk (fun g hg q => by have := hge g q; have := h.wN; omega)) (Or.inl rfl) _ _, h.wN⟩
theorem some_own (N : Nat) (p : Option Addr) (c : Nat) (l : List Int) (e : Int) (w : World) (h : OwnI w N (.slice p l.length c) l) (hN : N ≤ w.heap.size) (hl : l.length ≤ 65536) :
  Calls Tryz.prog 36 #[.slice p l.length c, .int .i64 e] w fun r w' => ∃ g cap l', r = .returned (.slice (some ⟨g, 0, none⟩) (List.length l') cap) ∧ OwnI w' N (.slice (some ⟨g, 0, none⟩) l'.length cap) l' ∧ 0 < l'.length ∧ (l' = [e] ∨ l' = l) ∧ ((Value.slice p l.length c).ownBlock = some g ∨ w.heap.size ≤ g) ∧ Kept w w' := by
 by_cases h0 : l.length = 0
 ·have h0' : ((l.length : Int) == 0) = true := by rw [h0]; rfl
  have h0'' : (l.length : Int) = 0 := by omega
  have hh : Hid (OwnI w N (.slice p l.length c) l) := h
  clear h
  go_enter Tryz.func36, Tryz.ntmps36
  go_wp2
  go_ret
  refine ⟨_, _, [e], rfl, ?_, by simp, Or.inl rfl, Or.inr (Nat.le_refl _), Below.alloc (Below.refl _ _) (Nat.le_refl _) _⟩
  exact World.ownsRow_lit w _ 1 hN (by unfold maxLen; omega) rfl
 ·have h0' : ((l.length : Int) == 0) = false := by rw [beq_eq_false_iff_ne]; omega
  have hh : Hid (OwnI w N (.slice p l.length c) l) := h
  clear h
  obtain ⟨g, c', rfl, rfl⟩ : ∃ g c', p = some ⟨g, 0, none⟩ ∧ c = c' := by
   rcases hh.out.2 with ⟨hv, h1⟩ | ⟨g, cap, cur, hv, _⟩
   ·omega
   ·injection hv with e1 e2 e3
    exact ⟨g, cap, e1, e3⟩
  go_enter Tryz.func36, Tryz.ntmps36
  go_wp2
  go_ret
  exact ⟨g, _, l, rfl, hh.out, by omega, Or.inr rfl, Or.inl rfl, Kept.refl _⟩
theorem own_hn {g1 n d m : Nat} {A : Option Nat} (h : A = some g1 ∨ m ≤ g1) : ∀ g, (Value.slice (some ⟨g1, 0, none⟩) n d).ownBlock = some g → A = some g ∨ m ≤ g := by
 intro g hg
 have e : g1 = g := by injection hg
 subst e
 exact h
theorem OwnI.cell0 {w : World} {N g cap : Nat} {l : List Int} (h : OwnI w N (.slice (some ⟨g, 0, none⟩) l.length cap) l) (j : Nat) (hj : j < l.length) : w.cell? ⟨g, j, none⟩ = some (.int .i64 (l.getD j 0)) := by
 have := World.ownsRow.cellAt h j (by omega)
 rw [this, List.getElem?_map, List.getElem?_eq_getElem hj]
 simp [List.getD_eq_getElem?_getD, List.getElem?_eq_getElem hj]
theorem OwnI.stored {w : World} {N g cap : Nat} {l : List Int} (h : OwnI w N (.slice (some ⟨g, 0, none⟩) l.length cap) l) (j : Nat) (e : Int) : OwnI (w.setCell ⟨g, j, none⟩ (.int .i64 e)) N (.slice (some ⟨g, 0, none⟩) l.length cap) (l.set j e) := by
 have := (World.ownsRow.stored h j (.int .i64 e)).1
 unfold OwnI
 rw [List.length_set, List.map_set]
 exact this
theorem ChAt.first {w W : World} {x N so g cap : Nat} {s t : ByteArray} {P V Z : Int} {fv kv : Value} {fl kl cl : List Int} (h : ChAt w W x N so s t P V Z fv kv (.slice (some ⟨g, 0, none⟩) cl.length cap) fl kl cl) (e : Int) : ChAt w (W.setCell ⟨g, 0, none⟩ (.int .i64 e)) x N so s t P V Z fv kv (.slice (some ⟨g, 0, none⟩) cl.length cap) fl kl (cl.set 0 e) := by
 have hg : N ≤ g := h.oc.ge g rfl
 have hlt := h.lt
 have hsN := h.sN
 have f : Fr (fun k => k = g) W (W.setCell ⟨g, 0, none⟩ (.int .i64 e)) := Fr.setCell (S := fun k => k = g) (Fr.refl _ _) (Or.inl rfl) _ _
 have hx : x < W.heap.size := Nat.lt_of_lt_of_le h.lt h.size
 have hs : so < W.heap.size := Nat.lt_of_lt_of_le h.sN h.size
 have hnx : ¬ x = g := by omega
 have hns : ¬ so = g := by omega
 have e0 : ∀ j, (W.setCell ⟨g, 0, none⟩ (.int .i64 e)).cell? ⟨x, j, none⟩ = W.cell? ⟨x, j, none⟩ := fun j => f.cell hx hnx
 have eo : ∀ j, (W.setCell ⟨g, 0, none⟩ (.int .i64 e)).cell? ⟨so, j, none⟩ = W.cell? ⟨so, j, none⟩ := fun j => f.cell hs hns
 exact ⟨h.lt, h.sN, h.sx, Nat.le_trans h.size f.size, fun k => (f.frozen hx hnx).trans (h.fz k), (e0 8).trans h.c8, (e0 9).trans h.c9, (e0 11).trans h.c11, (e0 10).trans h.c10, (e0 12).trans h.c12, (e0 13).trans h.c13, own_fr h.of f (fun k hk q => by subst q; exact h.fc _ hk rfl), own_fr h.ok f (fun k hk q => by subst q; exact h.kc _ hk rfl), h.oc.stored 0 e, h.fk, h.fc, h.kc, (eo 3).trans h.o3, (eo 4).trans h.o4, fun j hj => (e0 j).trans (h.rest j hj), Fr.setCell (S := fun k => k = x) h.fr (Or.inr (by have := h.wN; omega)) _ _, h.wN⟩
structure ChR (w W : World) (x P V Z : Nat) (fp kp cp : Option Addr) (fc kc cc : Nat) (fl kl cl : List Int) : Prop where
 ok : ∀ L, L ≤ 1 → OkCh L P V fl kl cl
 z : Z ≤ 64
 fz : ∀ k, W.frozen? ⟨x, k, none⟩ = false
 c8 : W.cell? ⟨x, 8, none⟩ = some (.slice fp fl.length fc)
 c9 : W.cell? ⟨x, 9, none⟩ = some (.slice kp kl.length kc)
 c10 : W.cell? ⟨x, 10, none⟩ = some (.int .i64 (P : Int))
 c11 : W.cell? ⟨x, 11, none⟩ = some (.slice cp cl.length cc)
 c12 : W.cell? ⟨x, 12, none⟩ = some (.int .i64 (V : Int))
 c13 : W.cell? ⟨x, 13, none⟩ = some (.int .i64 (Z : Int))
 lf : LAt W .i64 (.slice fp fl.length fc) fl
 lk : LAt W .i64 (.slice kp kl.length kc) kl
 lc : LAt W .i64 (.slice cp cl.length cc) cl
 bf : ∀ g, sliceBlock (.slice fp fl.length fc) = some g → w.heap.size ≤ g ∧ g < W.heap.size
 bk : ∀ g, sliceBlock (.slice kp kl.length kc) = some g → w.heap.size ≤ g ∧ g < W.heap.size
 bc : ∀ g, sliceBlock (.slice cp cl.length cc) = some g → w.heap.size ≤ g ∧ g < W.heap.size
 rest : ∀ j, j < 8 ∨ 13 < j → W.cell? ⟨x, j, none⟩ = w.cell? ⟨x, j, none⟩
 fr : Fr1 x w W
theorem ChAt.done {w W : World} {x so P V Z : Nat} {s t : ByteArray} {fp kp cp : Option Addr} {fc kc cc : Nat} {fl kl cl : List Int} (h : ChAt w W x (w.heap.size + 1) so s t ((P : Int) + 1) (V : Int) (Z : Int) (.slice fp fl.length fc) (.slice kp kl.length kc) (.slice cp cl.length cc) fl kl cl) (hP : P < 4000) (hV : V < 8) (hZ : Z < 65) (f0 : 0 < fl.length) (f1 : fl.length ≤ 64) (fb : ∀ y ∈ fl, 0 ≤ y ∧ y ≤ 4) (k0 : 0 < kl.length) (k1 : kl.length ≤ 64) (kb : ∀ y ∈ kl, 0 ≤ y ∧ y ≤ 2) (c0 : 0 < cl.length) (c1 : cl.length ≤ 64) (cb : ∀ y ∈ cl, 0 ≤ y ∧ y ≤ 255) (cf : cl.getD 0 0 ≠ 0) : ChR w W x (P + 1) V Z fp kp cp fc kc cc fl kl cl := by
 have b : ∀ (p : Option Addr) (c : Nat) (l : List Int), OwnI W (w.heap.size + 1) (.slice p l.length c) l → ∀ g, sliceBlock (.slice p l.length c) = some g → w.heap.size ≤ g ∧ g < W.heap.size := fun p c l q g hg => by
  have e : (Value.slice p l.length c).ownBlock = some g := by rw [← sliceBlock_own _ q]; exact hg
  have := World.ownsRow.lt q g e
  omega
 exact ⟨fun L hL => ⟨hL, by omega, by omega, by omega, f0, f1, fb, k0, k1, kb, c0, c1, fun y hy => by have := cb y hy; omega, by have := cb _ (getD_mem c0); omega⟩, by omega, h.fz, h.c8, h.c9, h.c10, h.c11, h.c12, h.c13, h.of.lat, h.ok.lat, h.oc.lat, b _ _ _ h.of, b _ _ _ h.ok, b _ _ _ h.oc, h.rest, h.fr⟩
theorem some_mem {l' l : List Int} {e lo hi : Int} (h : l' = [e] ∨ l' = l) (he : lo ≤ e ∧ e ≤ hi) (hl : ∀ y ∈ l, lo ≤ y ∧ y ≤ hi) : ∀ y ∈ l', lo ≤ y ∧ y ≤ hi := by
 intro y hy
 rcases h with rfl | rfl
 ·simp at hy; subst hy; exact he
 ·exact hl y hy
theorem some_len {l' l : List Int} {e : Int} (h : l' = [e] ∨ l' = l) (hl : l.length ≤ 64) : l'.length ≤ 64 := by
 rcases h with rfl | rfl
 ·simp
 ·exact hl
end Go.Proofs.YtmbmecfodigciaaGreatDoor
