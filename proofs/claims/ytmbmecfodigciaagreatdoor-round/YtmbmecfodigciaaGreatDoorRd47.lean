import Derived.Test.YtmbmecfodigciaaGreatDoorRd39
import Derived.Test.YtmbmecfodigciaaGreatDoorRd45
import Derived.Test.YtmbmecfodigciaaGreatDoorRd46
import Derived.Test.YtmbmecfodigciaaGreatDoorRd10
import Derived.Test.YtmbmecfodigciaaGreatDoorRd23
import Derived.Test.YtmbmecfodigciaaGreatDoorRd01
set_option maxRecDepth 100000
set_option maxHeartbeats 6400000
namespace Go.Proofs.YtmbmecfodigciaaGreatDoor
open Go.RowKit Px
set_option linter.unusedSimpArgs false
set_option linter.unusedVariables false
theorem grd_x {W : World} (h : GridAt W) : GrdAt W := by
 intro j hj
 rw [h j hj]
 have : ∀ j, j < 42 → gridL.getD j 0 = (grdN j : Int) := by decide
 rw [this j hj]
def FileT (W H D K L P V : Nat) (pal clr pix fl kl : List Int) (s : ByteArray) : Prop := ∃ PL, s = strOfNums (fileX W H D K L pal clr PL) ∧ FileOk W H D K L P V pal clr pix fl kl PL
theorem fileT_size {W H D K L P V : Nat} {pal clr pix fl kl : List Int} {s : ByteArray} (h : FileT W H D K L P V pal clr pix fl kl s) : 57 < s.size ∧ s.size ≤ 90000000 := by
 obtain ⟨PL, rfl, ok⟩ := h
 rw [strOfNums_size]
 refine ⟨?_, ok.all⟩
 have h1 := congrArg List.length ok.str
 rw [flat8_len, nl_len] at h1
 have h2 := strB_pos V (blL P kl (allB ⟨W, H, D, K, L⟩ pix fl (cntP L)).length 0 (allB ⟨W, H, D, K, L⟩ pix fl (cntP L)))
 have h3 := chL_len PL
 have h4 : 0 < PL.length := List.length_pos_iff.2 ok.ne
 unfold fileX
 rw [List.length_append, List.length_append, List.length_append, List.length_append, List.length_append, chB_len, chB_len, h3, signI_len]
 have h5 : (hdI W H D K L).length = 13 := rfl
 have h6 : ([] : List Int).length = 0 := rfl
 omega
theorem bsOf_strx {l : List Int} (h : isBytes l) : bsOf (strOfNums l) = nl l := by
 unfold bsOf nl
 rw [strOfNums_data, List.map_map]
 apply List.map_congr_left
 intro x hx
 have := h x hx
 show (UInt8.ofNat x.toNat).toNat = x.toNat
 exact UInt8.toNat_ofNat_of_lt' (show x.toNat < 256 by omega)
theorem chB_bytes (T : Nat) {l : List Int} (h : isBytes l) : isBytes (chB T l) := by
 unfold chB
 intro y hy
 simp only [List.mem_append] at hy
 rcases hy with hy | hy | hy | hy
 ·exact beB_ok _ y hy
 ·exact beB_ok _ y hy
 ·exact h y hy
 ·exact beB_ok _ y hy
theorem deskWrite_x (x wd H K D L P V Z : Nat) (pp qp xp fp kp cp : Option Addr) (pc qc xc fc kc cc : Nat) (pal clr pix fl kl cl : List Int) (w : World) (h : Dk w x wd H K D L P V Z pp qp xp fp kp cp pc qc xc fc kc cc pal clr pix fl kl cl) (hx0 : x ≠ 0) :
  Calls Tryz.prog 20 #[.pointer (some ⟨x, 0, none⟩)] w fun r w' => r = .returned (.bool true) ∧ Dk w' x wd H K D L P V Z pp qp xp fp kp cp pc qc xc fc kc cc pal clr pix fl kl cl ∧ (∃ s, FileT wd H D K L P V pal clr pix fl kl s ∧ w'.cell? ⟨x, 14, none⟩ = some (.string s)) ∧ Fr1 x w w' := by
 have FN : Hid (∀ W' : World, Calls Tryz.prog 37 #[] W' fun r w' => (∃ a, r = .returned (.pointer (some a))) ∧ Kept W' w') := fun W' => newEnc_any W'
 have FE : Hid (∀ (W' : World) (a : Option Addr), Kept w W' → Calls Tryz.prog 38 #[.pointer a, .agg #[.int .i64 (wd : Int), .int .i64 (H : Int), .int .i64 (K : Int), .int .i64 (D : Int), .slice pp pal.length pc, .slice qp clr.length qc, .slice xp pix.length xc], .agg #[.int .i64 (L : Int), .slice fp fl.length fc, .slice kp kl.length kc, .int .i64 (P : Int), .slice cp cl.length cc, .int .i64 (V : Int), .int .i64 (Z : Int)]] W' fun r w' => ∃ s : ByteArray, r = .returned (.tuple #[.string s, .int .i64 0]) ∧ 57 < s.size ∧ FileT wd H D K L P V pal clr pix fl kl s ∧ Kept W' w') := by
  intro W' a k
  have hk := h.kept k
  have hc : OkChB L P V fl kl cl := ⟨hk.ch.l, hk.ch.p1, by have := hk.ch.p2; omega, hk.ch.v, hk.ch.f0, hk.ch.f1, hk.ch.fb, hk.ch.k0, hk.ch.k1, hk.ch.kb, hk.ch.c0, hk.ch.c1, hk.ch.cb, hk.ch.cf⟩
  exact (encode_x a wd H K D L P V Z pp qp xp fp kp cp pc qc xc fc kc cc pal clr pix fl kl cl W' hk.im hc hk.z (grd_x hk.grid) hk.lp hk.lq hk.lx hk.lf hk.lk hk.lc (fun g hg => (hk.bx g hg).2) (fun g hg => (hk.bf g hg).2) (fun g hg => (hk.bc g hg).2)).mono (fun r w' ⟨PL, h1, h2, h3⟩ => ⟨_, h1, (fileT_size ⟨PL, rfl, h2⟩).1, ⟨PL, rfl, h2⟩, h3⟩)
 have hpix : (0 : Int) < (pix.length : Int) := by
  have h1 := h.im.pixL
  have h2 : 0 < wd * H * chan K := Nat.mul_pos (Nat.mul_pos (by have := h.im.w1; omega) (by have := h.im.h1; omega)) (by rcases legal_K h.im.lg with rfl | rfl | rfl | rfl | rfl <;> decide)
  omega
 have hcl : (0 : Int) < (cl.length : Int) := by have := h.ch.c0; omega
 have p1 : ((pix.length : Int) == 0) = false := by rw [beq_eq_false_iff_ne]; omega
 have p2 : ((cl.length : Int) == 0) = false := by rw [beq_eq_false_iff_ne]; omega
 have k6 := h.c6
 have k11 := h.c11
 have HD : Hid (Dk w x wd H K D L P V Z pp qp xp fp kp cp pc qc xc fc kc cc pal clr pix fl kl cl) := h
 clear h
 go_enter Tryz.func20, Tryz.ntmps20
 go_wp2_with fail
 refine (FN.out _).mono ?_
 rintro r w1 ⟨⟨a, rfl⟩, hk1⟩
 have HK1 : Hid (Kept w w1) := hk1
 clear hk1 k6 k11
 have D1 : Hid (Dk w1 x wd H K D L P V Z pp qp xp fp kp cp pc qc xc fc kc cc pal clr pix fl kl cl) := HD.out.kept HK1.out
 clear HD
 go_wp2_with fail
 go_region_held3 (fun W' => W'.cell? ⟨x, 0, none⟩ = some (.int .i64 (wd : Int)) ∧ W'.cell? ⟨x, 1, none⟩ = some (.int .i64 (H : Int)) ∧ W'.cell? ⟨x, 2, none⟩ = some (.int .i64 (K : Int)) ∧ W'.cell? ⟨x, 3, none⟩ = some (.int .i64 (D : Int)) ∧ W'.cell? ⟨x, 4, none⟩ = some (.slice pp pal.length pc) ∧ W'.cell? ⟨x, 5, none⟩ = some (.slice qp clr.length qc) ∧ W'.cell? ⟨x, 6, none⟩ = some (.slice xp pix.length xc) ∧ W'.cell? ⟨x, 7, none⟩ = some (.int .i64 (L : Int)) ∧ W'.cell? ⟨x, 8, none⟩ = some (.slice fp fl.length fc) ∧ W'.cell? ⟨x, 9, none⟩ = some (.slice kp kl.length kc) ∧ W'.cell? ⟨x, 10, none⟩ = some (.int .i64 (P : Int)) ∧ W'.cell? ⟨x, 11, none⟩ = some (.slice cp cl.length cc) ∧ W'.cell? ⟨x, 12, none⟩ = some (.int .i64 (V : Int)) ∧ W'.cell? ⟨x, 13, none⟩ = some (.int .i64 (Z : Int))) (first | exact Dk.s D1.out | exact Dk.s (D1.out.kept ((Kept.refl _).drewN 1)) | exact hS2.out | go_keep) ((go_at_call 38; refine (FE.out _ _ (by exact HK1.out.drewN 1)).mono ?_; rintro r w2 ⟨s, rfl, h57, hfT, hk2⟩; have hk2' : Kept w1 w2 := ((Kept.refl _).drewN 1).trans hk2; have hS2 : Hid (w2.cell? ⟨x, 0, none⟩ = some (.int .i64 (wd : Int)) ∧ w2.cell? ⟨x, 1, none⟩ = some (.int .i64 (H : Int)) ∧ w2.cell? ⟨x, 2, none⟩ = some (.int .i64 (K : Int)) ∧ w2.cell? ⟨x, 3, none⟩ = some (.int .i64 (D : Int)) ∧ w2.cell? ⟨x, 4, none⟩ = some (.slice pp pal.length pc) ∧ w2.cell? ⟨x, 5, none⟩ = some (.slice qp clr.length qc) ∧ w2.cell? ⟨x, 6, none⟩ = some (.slice xp pix.length xc) ∧ w2.cell? ⟨x, 7, none⟩ = some (.int .i64 (L : Int)) ∧ w2.cell? ⟨x, 8, none⟩ = some (.slice fp fl.length fc) ∧ w2.cell? ⟨x, 9, none⟩ = some (.slice kp kl.length kc) ∧ w2.cell? ⟨x, 10, none⟩ = some (.int .i64 (P : Int)) ∧ w2.cell? ⟨x, 11, none⟩ = some (.slice cp cl.length cc) ∧ w2.cell? ⟨x, 12, none⟩ = some (.int .i64 (V : Int)) ∧ w2.cell? ⟨x, 13, none⟩ = some (.int .i64 (Z : Int))) := Dk.s (D1.out.kept hk2')))
 have D2 : Hid (Dk w2 x wd H K D L P V Z pp qp xp fp kp cp pc qc xc fc kc cc pal clr pix fl kl cl) := D1.out.kept hk2'
 have HK2 : Hid (Kept w w2) := Kept.trans HK1.out hk2'
 obtain ⟨u14, hu14⟩ := D2.out.c14
 replace hfT : Hid (FileT wd H D K L P V pal clr pix fl kl s) := hfT
 have z14 := D2.out.fz 14
 have h57' : (57 : Int) < (s.size : Int) := by omega
 clear hS2 hk2 hk2' D1
 go_wp2
 go_ret
 exact ⟨by first | rfl | simp, D2.out.set14 hx0 _, ⟨s, hfT.out, cell_set_same hu14 _⟩, Fr1.set (Fr.of_kept HK2.out) _ _⟩
theorem bsOf_extr (t : ByteArray) (a b : Nat) : bsOf (t.extract a b) = ((bsOf t).drop a).take (b - a) := by
 unfold bsOf
 rw [ByteArray.data_extract, Array.toList_extract, List.extract_eq_take_drop, List.map_take, List.map_drop]
theorem isBytes.app' {a b : List Int} (h : isBytes a) (k : isBytes b) : isBytes (a ++ b) := fun y hy => by
 rw [List.mem_append] at hy
 rcases hy with hy | hy
 ·exact h y hy
 ·exact k y hy
theorem fileX_ok {W H K D L : Nat} {pal clr pix : List Int} {PL : List (List Int)} (ok : OkIm W H K D pal clr pix) (hL : L ≤ 1) (hP : isBytes PL.flatten) : isBytes (fileX W H D K L pal clr PL) := by
 have hK := ok.lg.k6
 have e1 : isBytes (palB pal) := by
  unfold palB; split
  ·exact isBytes.nil
  ·exact chB_bytes _ ok.palB
 have e2 : isBytes (clrB K clr) := by
  unfold clrB; split
  ·exact isBytes.nil
  ·rename_i hc
   apply chB_bytes
   rcases ok.clr with h0 | ⟨k02, l2, y2⟩ | ⟨k3, l1, l2, y2⟩
   ·rw [h0] at hc; simp at hc
   ·have hp := pow_le ok.lg.d
    rw [if_neg (by omega)]
    exact two_ok (fun y hy => by have := y2 y hy; omega)
   ·rw [if_pos (by omega)]; exact y2
 have e3 : ∀ PL : List (List Int), isBytes PL.flatten → isBytes (chL PL) := fun PL => by
  induction PL with
  | nil => intro _; exact isBytes.nil
  | cons d t ih =>
   intro h
   have : chL (d :: t) = chB idat d ++ chL t := rfl
   rw [this]
   rw [List.flatten_cons] at h
   exact isBytes.app' (chB_bytes _ (fun y hy => h y (List.mem_append.2 (Or.inl hy)))) (ih (fun y hy => h y (List.mem_append.2 (Or.inr hy))))
 unfold fileX
 exact isBytes.app' (isBytes.app' (isBytes.app' (isBytes.app' (isBytes.app' signI_ok (chB_bytes _ (hdI_ok _ _ _ _ _ ok.w2 ok.h2 hK.2 hK.1 hL))) e1) e2) (e3 PL hP)) (chB_bytes _ isBytes.nil)
def DeskX (w W : World) (r : Ending) : Prop := ∃ x wd H K D L P V Z : Nat, ∃ pp qp xp fp kp cp : Option Addr, ∃ pc qc xc fc kc cc : Nat, ∃ pal clr pix fl kl cl : List Int, ∃ ff : ByteArray, r = .returned (.pointer (some ⟨x, 0, none⟩)) ∧ x ≠ 0 ∧ w.heap.size ≤ x ∧ Dk W x wd H K D L P V Z pp qp xp fp kp cp pc qc xc fc kc cc pal clr pix fl kl cl ∧ FileT wd H D K L P V pal clr pix fl kl ff ∧ W.cell? ⟨x, 14, none⟩ = some (.string ff)
theorem desked_x (a b : Int) (s t u v : ByteArray) (w : World) (ha1 : -9223372036854775808 ≤ a) (ha2 : a < 9223372036854775808) (hb1 : -9223372036854775808 ≤ b) (hb2 : b < 9223372036854775808) (hs : s.size < 9223372036854775808) (ht : t.size < 9223372036854775808) (hu : u.size < 9223372036854775808) (hv : v.size < 9223372036854775808) (hG : GridAt w) :
  Calls Tryz.prog 9 #[.int .i64 a, .string s, .string t, .int .i64 b, .string u, .string v] w fun r w' => (decide (65536 < s.size ∨ 65536 < t.size ∨ 65536 < u.size ∨ 65536 < v.size) = true ∧ r = .returned (.pointer none) ∨ decide (65536 < s.size ∨ 65536 < t.size ∨ 65536 < u.size ∨ 65536 < v.size) = false ∧ DeskX w w' r) ∧ Kept w w' := by
 have FF : Hid (∀ W' : World, Calls Tryz.prog 10 #[.string s, .string t, .string u, .string v] W' fun r w' => r = .returned (.bool (decide (65536 < s.size ∨ 65536 < t.size ∨ 65536 < u.size ∨ 65536 < v.size))) ∧ w' = W') := fun W' => far_any s t u v W' hs ht hu hv
 by_cases hfar : 65536 < s.size ∨ 65536 < t.size ∨ 65536 < u.size ∨ 65536 < v.size
 ·have hd : decide (65536 < s.size ∨ 65536 < t.size ∨ 65536 < u.size ∨ 65536 < v.size) = true := decide_eq_true hfar
  rw [hd]
  rw [hd] at FF
  clear hfar hd
  replace hG : Hid _ := hG
  go_enter Tryz.func9, Tryz.ntmps9
  go_wp2_with fail
  refine (FF.out _).mono ?_
  rintro r w1 ⟨rfl, hw⟩
  subst w1
  go_wp2
  go_ret
  exact ⟨Or.inl ⟨by first | trivial | rfl, rfl⟩, Kept.refl _⟩
 ·have hd : decide (65536 < s.size ∨ 65536 < t.size ∨ 65536 < u.size ∨ 65536 < v.size) = false := decide_eq_false hfar
  have hs' : s.size ≤ 65536 := by omega
  have ht' : t.size ≤ 65536 := by omega
  have hu' : u.size ≤ 65536 := by omega
  have hv' : v.size ≤ 65536 := by omega
  rw [hd]
  rw [hd] at FF
  clear hfar hd hs ht hu hv
  replace hG : Hid (GridAt w) := hG
  have FP : Hid (∀ (W' : World) (c : Int), -9223372036854775808 ≤ c → c < 9223372036854775808 → Calls Tryz.prog 17 #[.int .i64 c, .int .i64 1099511627776] W' fun r w' => (∃ k : Nat, k < 1099511627776 ∧ r = .returned (.int .i64 (k : Int))) ∧ w' = W') := fun W' c h1 h2 => pick_any c 1099511627776 W' h1 h2 (by omega) (by omega)
  go_enter Tryz.func9, Tryz.ntmps9
  go_wp2_with fail
  refine (FF.out _).mono ?_
  rintro r w1 ⟨rfl, hw⟩
  subst w1
  go_wp2_with fail
  refine (FP.out _ a ha1 ha2).mono ?_
  rintro r w1 ⟨⟨n, hn, rfl⟩, hw⟩
  subst w1
  go_wp2_with fail
  refine (FP.out _ b hb1 hb2).mono ?_
  rintro r w1 ⟨⟨m, hm, rfl⟩, hw⟩
  subst w1
  go_wp2_with fail
  have hk0 : Kept w (w.alloc (Obj.cells #[.int .i64 0, .int .i64 0, .int .i64 0, .int .i64 0, .slice none 0 0, .slice none 0 0, .slice none 0 0, .int .i64 0, .slice none 0 0, .slice none 0 0, .int .i64 0, .slice none 0 0, .int .i64 0, .int .i64 0, .string ⟨#[]⟩] 37)) := Below.alloc (Below.refl _ _) (Nat.le_refl _) _
  have hs0 : w.heap.size < (w.alloc (Obj.cells #[.int .i64 0, .int .i64 0, .int .i64 0, .int .i64 0, .slice none 0 0, .slice none 0 0, .slice none 0 0, .int .i64 0, .slice none 0 0, .slice none 0 0, .int .i64 0, .slice none 0 0, .int .i64 0, .int .i64 0, .string ⟨#[]⟩] 37)).heap.size := by simp
  have hf0 : ∀ k, (w.alloc (Obj.cells #[.int .i64 0, .int .i64 0, .int .i64 0, .int .i64 0, .slice none 0 0, .slice none 0 0, .slice none 0 0, .int .i64 0, .slice none 0 0, .slice none 0 0, .int .i64 0, .slice none 0 0, .int .i64 0, .int .i64 0, .string ⟨#[]⟩] 37)).frozen? ⟨w.heap.size, k, none⟩ = false := fun k => World.frozen?_alloc_at _ _ _ _ rfl
  have hc0 : ∀ j, j < 15 → ((w.alloc (Obj.cells #[.int .i64 0, .int .i64 0, .int .i64 0, .int .i64 0, .slice none 0 0, .slice none 0 0, .slice none 0 0, .int .i64 0, .slice none 0 0, .slice none 0 0, .int .i64 0, .slice none 0 0, .int .i64 0, .int .i64 0, .string ⟨#[]⟩] 37)).cell? ⟨w.heap.size, j, none⟩).isSome = true := fun j hj => by
   rw [World.cell?_alloc_at _ _ _ _ rfl]
   match j, hj with
   | 0, _ => rfl
   | 1, _ => rfl
   | 2, _ => rfl
   | 3, _ => rfl
   | 4, _ => rfl
   | 5, _ => rfl
   | 6, _ => rfl
   | 7, _ => rfl
   | 8, _ => rfl
   | 9, _ => rfl
   | 10, _ => rfl
   | 11, _ => rfl
   | 12, _ => rfl
   | 13, _ => rfl
   | 14, _ => rfl
  generalize (w.alloc (Obj.cells #[.int .i64 0, .int .i64 0, .int .i64 0, .int .i64 0, .slice none 0 0, .slice none 0 0, .slice none 0 0, .int .i64 0, .slice none 0 0, .slice none 0 0, .int .i64 0, .slice none 0 0, .int .i64 0, .int .i64 0, .string ⟨#[]⟩] 37)) = w0 at *
  have e1 : (n : Int) % 256 = ((n % 256 : Nat) : Int) := by omega
  have e2 : (n : Int) / 256 % 15 = ((n / 256 % 15 : Nat) : Int) := by omega
  have e3 : (n : Int) / 3840 = ((n / 3840 : Nat) : Int) := by omega
  rw [e1, e2, e3]
  clear e1 e2 e3
  refine (deskImage_any w.heap.size (n % 256) (n / 256 % 15) (n / 3840) s t w0 hs0 hf0 hc0 (by omega) (by omega) (by omega) hs' ht').mono ?_
  rintro r W1 ⟨rfl, wd, H, K, D, L, pp, qp, xp, pc, qc, xc, pal, clr, pix, hI⟩
  have HI : Hid (ImR w0 W1 w.heap.size wd H K D L pp qp xp pc qc xc pal clr pix) := hI
  have HF : Hid (∀ k, W1.frozen? ⟨w.heap.size, k, none⟩ = false) := hI.fz
  have HC : Hid (∀ j, j < 15 → (W1.cell? ⟨w.heap.size, j, none⟩).isSome = true) := fun j hj => by
   rcases (by omega : j = 0 ∨ j = 1 ∨ j = 2 ∨ j = 3 ∨ j = 4 ∨ j = 5 ∨ j = 6 ∨ j = 7 ∨ 7 < j) with rfl | rfl | rfl | rfl | rfl | rfl | rfl | rfl | q
   ·rw [hI.c0]; rfl
   ·rw [hI.c1]; rfl
   ·rw [hI.c2]; rfl
   ·rw [hI.c3]; rfl
   ·rw [hI.c4]; rfl
   ·rw [hI.c5]; rfl
   ·rw [hI.c6]; rfl
   ·rw [hI.c7]; rfl
   ·rw [hI.rest j q]; exact hc0 j hj
  have hs1 : w.heap.size < W1.heap.size := Nat.lt_of_lt_of_le hs0 hI.fr.size
  clear hI hc0 hf0
  replace hk0 : Hid _ := hk0
  go_wp2_with fail
  have e1 : (m : Int) % 4000 = ((m % 4000 : Nat) : Int) := by omega
  have e2 : (m : Int) / 4000 % 8 = ((m / 4000 % 8 : Nat) : Int) := by omega
  have e3 : (m : Int) / 32000 = ((m / 32000 : Nat) : Int) := by omega
  rw [e1, e2, e3]
  clear e1 e2 e3
  refine (deskChoice_any w.heap.size (m % 4000) (m / 4000 % 8) (m / 32000) u v W1 hs1 HF.out HC.out (by omega) (by omega) (by omega) hu' hv').mono ?_
  rintro r W2 ⟨rfl, P, V, Z, fp, kp, cp, fc, kc, cc, fl, kl, cl, hR⟩
  have hG2 : GridAt W2 := by
   have g0 : GridAt w0 := hG.out.kept hk0.out
   have hw0 : 0 < w.heap.size := World.block_lt_of_cell? w ⟨0, 0, none⟩ (hG.out 0 (by omega))
   exact (g0.fr HI.out.fr (by omega)).fr hR.fr (by omega)
  have hw0 : w.heap.size ≠ 0 := by
   have : 0 < w.heap.size := World.block_lt_of_cell? w ⟨0, 0, none⟩ (hG.out 0 (by omega))
   omega
  have HD : Hid (Dk W2 w.heap.size wd H K D L P V Z pp qp xp fp kp cp pc qc xc fc kc cc pal clr pix fl kl cl) := Dk.make hs0 HI.out hR (Option.isSome_iff_exists.1 (HC.out 14 (by omega))) hG2
  have HK : Hid (Kept w W2) := Fr.to_kept (Fr.to_kept hk0.out HI.out.fr (fun i hi => by omega)) hR.fr (fun i hi => by omega)
  clear hR hG2 HC HF HI hG hk0
  go_wp2_with fail
  refine (deskWrite_x w.heap.size wd H K D L P V Z pp qp xp fp kp cp pc qc xc fc kc cc pal clr pix fl kl cl W2 HD.out hw0).mono ?_
  rintro r W3 ⟨rfl, hd3, ⟨ff, hff1, hff2⟩, hf3⟩
  replace hff1 : Hid _ := hff1
  replace hff2 : Hid _ := hff2
  have HD3 : Hid (Dk W3 w.heap.size wd H K D L P V Z pp qp xp fp kp cp pc qc xc fc kc cc pal clr pix fl kl cl) := hd3
  have HK3 : Hid (Kept w W3) := Fr.to_kept HK.out hf3 (fun i hi => by omega)
  clear hd3 hf3 HD HK
  go_wp2
  go_ret
  exact ⟨Or.inr ⟨by first | trivial | rfl, w.heap.size, wd, H, K, D, L, P, V, Z, pp, qp, xp, fp, kp, cp, pc, qc, xc, fc, kc, cc, pal, clr, pix, fl, kl, cl, ff, rfl, hw0, Nat.le_refl _, HD3.out, hff1.out, hff2.out⟩, HK3.out⟩
theorem npGo_smp : ∀ (k : Nat) (r : Rw), (npGo k r).smp = r.smp
 | 0, _ => rfl
 | k + 1, r => by
  unfold npGo
  split
  ·split
   ·rfl
   ·exact npGo_smp k _
  ·rfl
theorem next_smp (r : Rw) : r.next.smp = r.smp := npGo_smp 8 _
theorem start_smp (h : Hd) (k j : Nat) : (Rw.start h k).smp j < 65536 := by
 show (rw0 h k).next.smp j < 65536
 rw [next_smp]
 show 0 < 65536
 omega
theorem take_smp {r : Rw} (hg : RwGood r) (h : ∀ j, r.smp j < 65536) (x j : Nat) : (r.take x).1.smp j < 65536 := by
 unfold Rw.take
 split
 ·exact h j
 ·split
  ·unfold Rw.takeF
   split
   ·exact h j
   ·exact h j
  ·split
   ·exact h j
   ·have hi : RwIn (({ r with taken := r.taken + 1 } : Rw).lay (r.taken - 1) x) := (hg.in'.taken' (by have := hg.tk; omega)).lay _ _
    have hq : ∀ j, (({ r with taken := r.taken + 1 } : Rw).lay (r.taken - 1) x).smp j < 65536 := h
    generalize ({ r with taken := r.taken + 1 } : Rw).lay (r.taken - 1) x = q at *
    unfold Rw.endRow
    split
    ·exact hq j
    ·have hl : ∀ j, q.laid.smp j < 65536 := fun j => layPx_sm q hi.ok hq q.columns j
     show (if q.lines ≤ q.line + 1 then q.laid.next else q.laid).smp j < 65536
     split
     ·rw [next_smp]; exact hl j
     ·exact hl j
theorem giveP_smp {s : St} {r : Rw} {x : Nat} (hg : RwGood r) (h : ∀ j, r.smp j < 65536) (j : Nat) : (giveP s r x).2.1.smp j < 65536 := by
 have := take_smp hg h x j
 unfold giveP
 split
 ·split
  ·exact this
  ·exact this
 ·exact this
theorem numP_smp {s : St} {r : Rw} {v : Nat} (k : NumOk s r v) (h : ∀ j, r.smp j < 65536) (j : Nat) : (numP s r v).2.1.smp j < 65536 := by
 unfold numP
 split
 ·exact h j
 ·split
  ·exact h j
  ·split
   ·exact h j
   ·split
    ·rename_i h3
     have := giveP_smp (s := s) (x := v) (k.good h3) h j
     unfold storedP
     split
     ·exact this
     ·exact this
    ·exact h j
theorem symP_smp {s : St} {r : Rw} {t : Nat} (k : SymOk s r t) (h : ∀ j, r.smp j < 65536) (j : Nat) : (symP s r t).2.1.smp j < 65536 := by
 unfold symP
 split
 ·exact h j
 ·split
  ·exact h j
  ·exact giveP_smp k.good h j
theorem bitP_smp {s : St} {r : Rw} {t : Nat} (k : BitOk s r t) (h : ∀ j, r.smp j < 65536) (j : Nat) : (bitP s r t).2.1.smp j < 65536 := by
 unfold bitP
 split
 ·rename_i h12
  exact symP_smp (k.sym h12) h j
 ·rename_i h12
  split
  ·exact h j
  ·rename_i hw
   exact numP_smp (k.num h12 hw) h j
theorem bitsGo_smp (x : Nat) : ∀ (n i : Nat) (s : St) (r : Rw), BitsOk n i s r x → (∀ j, r.smp j < 65536) → ∀ j, (bitsGo n i s r x).2.1.smp j < 65536
 | 0, _, _, _, _, h, j => h j
 | n + 1, i, s, r, k, h, j => by
  unfold bitsGo
  split
  ·exact h j
  ·rename_i hs
   rcases k with q | ⟨k1, k2⟩
   ·exact absurd q hs
   ·have h1 := bitP_smp k1 h
    split
    ·rename_i he
     exact bitsGo_smp x n (i + 1) _ _ (k2 he) h1 j
    ·exact h1 j
def SmI (s : Rd) : Prop := (∀ j, s.rw.smp j < 65536) ∧ (s.hd.W = 0 ∨ 1 ≤ s.hd.H)
theorem SmI.begin {s : Rd} (h : SmI s) : SmI s.begin := by
 unfold Rd.begin
 split
 ·exact h
 ·exact ⟨fun j => start_smp _ _ j, h.2⟩
theorem SmI.note {s : Rd} (h : SmI s) : SmI s.note := by
 have h1 : SmI s.note1 := by
  unfold Rd.note1
  split
  ·exact h
  ·split
   ·exact h
   ·split
    ·exact h.begin
    ·exact h
 show SmI s.note1.note2
 unfold Rd.note2
 split
 ·exact h1
 ·exact h1
theorem headOf_ok (d : Nat → Nat) (h : (headOf d).1 = 0) : (headOf d).2.W = 0 ∨ 1 ≤ (headOf d).2.H := by
 rw [headOf_eq] at h ⊢
 split
 ·exact Or.inl rfl
 ·rename_i q
  split
  ·exact Or.inl rfl
  ·split
   ·exact Or.inl rfl
   ·right
    show 1 ≤ hN d
    have : hN d ≠ 0 := fun e => q (Or.inr (Or.inl e))
    omega
theorem SmI.accept {s : Rd} (h : SmI s) : SmI s.accept.1 := by
 unfold Rd.accept
 split
 ·unfold Rd.acceptHead
  split
  ·exact h
  ·rename_i q
   exact ⟨h.1, headOf_ok s.raw (by omega)⟩
 ·split
  ·exact h
  ·exact h
theorem SmI.keep {s : Rd} {x : Nat} (h : SmI s) (k : KeepOk s x) : SmI (s.keep x).1 := by
 unfold Rd.keep
 split
 ·exact h
 ·split
  ·exact h
  ·split
   ·exact h
   ·split
    ·rename_i hi
     have hb := bitsGo_smp x 8 0 _ s.rw (k.bits hi) h.1
     have ht : SmI (s.streamed x) := ⟨hb, h.2⟩
     unfold Rd.takeStream
     split
     ·exact ht
     ·split
      ·exact ht
      ·exact ht
    ·exact h
theorem SmI.take {s : Rd} {x : Nat} (h : SmI s) (k : TakeOk s x) : SmI (s.take x).1 := by
 unfold Rd.take
 split
 ·unfold Rd.takeSign
  split
  ·exact h
  ·split
   ·exact h
   ·exact h
 ·split
  ·unfold Rd.takeLength
   split
   ·exact h
   ·split
    ·exact h
    ·exact h
  ·split
   ·unfold Rd.takeType
    have ht : SmI (s.typed x) := h
    split
    ·exact h
    ·split
     ·exact ht
     ·split
      ·exact ht.note
      ·exact ht.note
   ·split
    ·rename_i h3
     have hk := SmI.keep (s := s.summed x) (x := x) h (k.keep h3)
     unfold Rd.takeData
     split
     ·exact hk
     ·show SmI ((s.summed x).keep x).1.dataEnd
      unfold Rd.dataEnd
      split
      ·exact hk
      ·exact hk
    ·split
     ·unfold Rd.takeSum
      have ha : SmI (s.num x).accept.1 := SmI.accept (s := s.num x) h
      split
      ·exact h
      ·split
       ·exact h
       ·split
        ·exact ha
        ·split
         ·exact ha
         ·exact ha
     ·exact h
theorem Rn.smI : ∀ {l : List Nat} {s b : Rd}, Rn s l b → SmI s → SmI b
 | [], s, b, h, k => by cases h; exact k
 | x :: l, s, b, h, k => Rn.smI h.2.2 (k.take h.1)
theorem smI0 : SmI rd0 := ⟨fun _ => by show 0 < 65536; omega, Or.inl rfl⟩
theorem npGo_known : ∀ (k : Nat) (r : Rw), (npGo k r).known = r.known
 | 0, _ => rfl
 | k + 1, r => by
  unfold npGo
  split
  ·split
   ·rfl
   ·exact npGo_known k _
  ·rfl
theorem next_known (r : Rw) : r.next.known = r.known := npGo_known 8 _
theorem start_known (h : Hd) (k : Nat) : (Rw.start h k).known = fun _ => false := by
 show (rw0 h k).next.known = _
 rw [next_known]; rfl
theorem laySm_at (q : Rw) (a : Nat) (f : Nat → Nat) : ∀ k c, c < k → (laySm q a f k).smp (4 * a + c) = f c
 | 0, c, h => by omega
 | k + 1, c, h => by
  show upd (laySm q a f k).smp (4 * a + k) (f k) (4 * a + c) = _
  by_cases e : c = k
  ·subst e; rw [upd_same]
  ·rw [upd_ne _ _ _ (by omega)]; exact laySm_at q a f k c (by omega)
theorem laySm_out (q : Rw) (a : Nat) (f : Nat → Nat) (j : Nat) (hj : j < 4 * a ∨ 4 * a + 4 ≤ j) : ∀ k, k ≤ 4 → (laySm q a f k).smp j = q.smp j
 | 0, _ => rfl
 | k + 1, h => by
  show upd (laySm q a f k).smp (4 * a + k) (f k) j = _
  rw [upd_ne _ _ _ (by omega)]; exact laySm_out q a f j hj k (by omega)
theorem layPx_at (r : Rw) (h4 : chn r.hd.K ≤ 4) (hp : ∀ i j, i < j → r.pt i < r.pt j) : ∀ m, (∀ i c, i < m → c < chn r.hd.K → (layPx r m).smp (4 * r.pt i + c) = smpO r (i * chn r.hd.K + c)) ∧ (∀ i, i < m → (layPx r m).known (r.pt i) = true) ∧ (∀ a, (∀ i, i < m → a ≠ r.pt i) → (layPx r m).known a = r.known a ∧ ∀ c, c < 4 → (layPx r m).smp (4 * a + c) = r.smp (4 * a + c))
 | 0 => ⟨fun i c h => by omega, fun i h => by omega, fun a _ => ⟨rfl, fun c _ => rfl⟩⟩
 | m + 1 => by
  obtain ⟨h1, h2, h3⟩ := layPx_at r h4 hp m
  have es : (layPx r (m + 1)).smp = (laySm (layPx r m) (r.pt m) (fun k => smpO r (m * chn r.hd.K + k)) (chn r.hd.K)).smp := rfl
  have ek : (layPx r (m + 1)).known = upd (laySm (layPx r m) (r.pt m) (fun k => smpO r (m * chn r.hd.K + k)) (chn r.hd.K)).known (r.pt m) true := rfl
  refine ⟨fun i c hi hc => ?_, fun i hi => ?_, fun a ha => ⟨?_, fun c hc => ?_⟩⟩
  ·rw [es]
   by_cases e : i = m
   ·subst e; exact laySm_at _ _ _ _ _ hc
   ·have := hp i m (by omega)
    rw [laySm_out _ _ _ _ (by omega) _ h4]; exact h1 i c (by omega) hc
  ·rw [ek]
   by_cases e : i = m
   ·subst e; rw [upd_same]
   ·have := hp i m (by omega)
    rw [upd_ne _ _ _ (by omega), laySm_known]; exact h2 i (by omega)
  ·rw [ek, upd_ne _ _ _ (ha m (by omega)), laySm_known]; exact (h3 a (fun i hi => ha i (by omega))).1
  ·have := ha m (by omega)
   rw [es, laySm_out _ _ _ _ (by omega) _ h4]; exact (h3 a (fun i hi => ha i (by omega))).2 c hc
theorem take_mid {r : Rw} {x : Nat} (h : r.taken < r.size) : (r.take x).1.known = r.known ∧ (r.take x).1.smp = r.smp := by
 unfold Rw.take
 split
 ·exact ⟨rfl, rfl⟩
 ·split
  ·unfold Rw.takeF
   split
   ·exact ⟨rfl, rfl⟩
   ·exact ⟨rfl, rfl⟩
  ·rw [if_pos (by omega)]; exact ⟨rfl, rfl⟩
theorem take_last {r : Rw} {x : Nat} (hw : wholeP r = false) (h1 : r.taken ≠ 0) (h : r.taken = r.size) (he : (r.take x).2 = 0) (q : Rw) (hq : q = ({ r with taken := r.taken + 1 } : Rw).lay (r.taken - 1) x) : (r.take x).1.known = (layPx q r.columns).known ∧ (r.take x).1.smp = (layPx q r.columns).smp := by
 have et : r.take x = q.endRow := by
  rw [hq]
  unfold Rw.take
  rw [hw, if_neg (by decide), if_neg h1, if_neg (by omega)]
 have ec : q.columns = r.columns := by rw [hq]; rfl
 rw [et] at he ⊢
 rw [← ec]
 clear hq et ec
 unfold Rw.endRow at he ⊢
 by_cases hb : q.bad = true
 ·rw [if_pos hb] at he
  exact absurd (show (16 : Nat) = 0 from he) (by decide)
 ·rw [if_neg hb]
  show (if q.lines ≤ q.line + 1 then q.laid.next else q.laid).known = _ ∧ (if q.lines ≤ q.line + 1 then q.laid.next else q.laid).smp = _
  split
  ·exact ⟨next_known _, next_smp _⟩
  ·exact ⟨rfl, rfl⟩
def ptP (h : Hd) (q l i : Nat) : Nat := ((psOf h.L q).rf + l * (psOf h.L q).rs) * 16 + ((psOf h.L q).cf + i * (psOf h.L q).cs)
def CnP (h : Hd) (pl : List Int) (r : Rw) : Prop := ∀ x y, x < 16 → y < 16 → r.known (y * 16 + x) = true → x < h.W ∧ y < h.H ∧ ∀ c, c < chan h.K → r.smp (4 * (y * 16 + x) + c) = (pl.getD ((y * h.W + x) * chan h.K + c) 0).toNat
def CvP (h : Hd) (r : Rw) (p k : Nat) : Prop := ∀ q l i, (q < p ∨ q = p ∧ l < k) → l < linesP h q → i < colsP h q → r.known (ptP h q l i) = true
def KpP (h : Hd) (pl : List Int) (r : Rw) (p k : Nat) : Prop := CnP h pl r ∧ CvP h r p k
theorem KpP.same {h : Hd} {pl : List Int} {r r' : Rw} {p k : Nat} (c : KpP h pl r p k) (e1 : r'.known = r.known) (e2 : r'.smp = r.smp) : KpP h pl r' p k := by
 unfold KpP CnP CvP at *
 rw [e1, e2]; exact c
theorem smp_row {h : Hd} {pl : List Int} (hk : legal h.K h.D) (hb : ∀ y ∈ pl, 0 ≤ y ∧ y < ((2 ^ h.D : Nat) : Int)) {q : Rw} {p k : Nat} (hq : q.hd = h) (hr : ∀ i, i < sizeP h p → q.row i = rvX h pl p k i) {i c : Nat} (hi : i < colsP h p) (hc : c < chan h.K) : smpO q (i * chan h.K + c) = (pl.getD (posX h p k i + c) 0).toNat := by
 have hbp : bitsP h = chan h.K * h.D := by show chn h.K * h.D = _; rw [chn_ch hk]
 obtain ⟨j, hj⟩ : ∃ j, j = i * chan h.K + c := ⟨_, rfl⟩
 obtain ⟨N, hN⟩ : ∃ N, N = colsP h p * chan h.K := ⟨_, rfl⟩
 have hjn : j < N := by
  have : (i + 1) * chan h.K ≤ colsP h p * chan h.K := Nat.mul_le_mul_right _ hi
  rw [Nat.add_mul, Nat.one_mul] at this
  omega
 have hdiv : j / chan h.K = i ∧ j % chan h.K = c := by
  rw [hj, Nat.mul_comm i]
  exact ⟨by rw [Nat.mul_add_div (by omega), Nat.div_eq_of_lt hc, Nat.add_zero], by rw [Nat.mul_add_mod, Nat.mod_eq_of_lt hc]⟩
 have hg := rv_gather h pl p k hk
 have hsz : sizeP h p = (N * h.D + 7) / 8 := by unfold sizeP; rw [hbp, hN, Nat.mul_assoc]
 have hjD : (j + 1) * h.D ≤ N * h.D := Nat.mul_le_mul_right _ hjn
 rw [Nat.add_mul, Nat.one_mul] at hjD
 rw [← hj]
 unfold smpO
 rw [hq]
 have hgl := glL_get pl (posX h p k) (chan h.K) N j hjn
 rw [hdiv.1, hdiv.2] at hgl
 rw [← hN] at hg
 have h0 : (0 : Int) ≤ 0 ∧ (0 : Int) < ((2 ^ h.D : Nat) : Int) := by have := Nat.two_pow_pos h.D; omega
 by_cases h16 : h.D < 16
 ·have hd : h.D = 1 ∨ h.D = 2 ∨ h.D = 4 ∨ h.D = 8 := by have := hk.d; omega
  have hd8 : 1 ≤ h.D := by omega
  rw [if_pos h16, hr _ (by rw [hsz]; omega), hg, lay_bits hd _ (glL_all (P := fun y => 0 ≤ y ∧ y < ((2 ^ h.D : Nat) : Int)) hb h0 _ _ _) 0 _ j hjn, Nat.zero_add, hgl]
 ·have hd : h.D = 16 := by have := hk.d; omega
  rw [hd] at hsz hg
  rw [if_neg h16, hd, show j * 16 / 8 = 2 * j from by omega, hr _ (by omega), hr _ (by omega), hg, layK_16, layK_16, if_pos (by omega), if_pos (by omega), if_pos (by omega), if_neg (by omega), Nat.zero_add, Nat.zero_add, show 2 * j / 2 = j from by omega, show (2 * j + 1) / 2 = j from by omega, hgl]
  omega
theorem sizeP_pos {h : Hd} {p : Nat} (hk : legal h.K h.D) (hf : fullP h p) : 1 ≤ sizeP h p := by
 unfold sizeP
 have := bitsP_b hk
 have : 1 * 1 ≤ colsP h p * bitsP h := Nat.mul_le_mul hf.1 this.1
 omega
theorem kp_row {h : Hd} {pl fl : List Int} {C : Nat} (e : QEnv h C (rvX h pl) (ffX h fl)) (hb : ∀ y ∈ pl, 0 ≤ y ∧ y < ((2 ^ h.D : Nat) : Int)) {r : Rw} {p k x : Nat} (s : RwP h C (rvX h pl) (ffX h fl) r p k (sizeP h p)) (hp : p < cntP h.L) (hf : fullP h p) (hk : k < linesP h p) (hx : x = bytP h (rvX h pl) (ffX h fl) p k (sizeP h p)) (he : (r.take x).2 = 0) (kp : KpP h pl r p k) : KpP h pl (r.take x).1 p (k + 1) := by
 have hb1 := sizeP_pos e.lg hf
 have hu := undo_p e s hb1 (Nat.le_refl _)
 rw [← hx] at hu
 obtain ⟨q, hq⟩ : ∃ q, q = ({ r with taken := r.taken + 1 } : Rw).lay (r.taken - 1) x := ⟨_, rfl⟩
 obtain ⟨e1, e2⟩ := take_last (s.nw hp) (by rw [s.taken]; omega) (by rw [s.taken, s.size]) he q hq
 have ht := s.taken
 rw [s.columns] at e1 e2
 have hu2 : undo { r with taken := r.taken + 1 } (r.taken - 1) x = rvX h pl p k (sizeP h p - 1) := by rw [ht]; exact hu
 have eq : q = { r with taken := sizeP h p + 1, row := upd r.row (sizeP h p - 1) (rvX h pl p k (sizeP h p - 1)) } := by
  rw [hq]; unfold Rw.lay; rw [hu2, ht]
 have qr : ∀ i, i < sizeP h p → q.row i = rvX h pl p k i := fun i hi => by
  rw [eq]
  show upd r.row (sizeP h p - 1) (rvX h pl p k (sizeP h p - 1)) i = _
  by_cases h2 : i = sizeP h p - 1
  ·rw [h2, upd_same]
  ·rw [upd_ne _ _ _ h2]; exact s.row i (by omega)
 have q1 : q.hd = h := by rw [eq]; exact s.hd
 have q4 : q.line = k := by rw [eq]; exact s.line
 have q6 : q.ps = psOf h.L p := by
  have : q.ps = r.ps := by rw [eq]; rfl
  rw [this]; exact s.ps
 have qk : q.known = r.known := by rw [eq]
 have qs : q.smp = r.smp := by rw [eq]
 have hpt : ∀ i, q.pt i = ptP h p k i := fun i => by unfold Rw.pt Rw.py Rw.px ptP; rw [q6, q4]
 have po := psOf_ok h.L p
 have hcn : chn q.hd.K = chan h.K := by rw [q1]; exact chn_ch e.lg
 have hc4 := chan_le (K := h.K)
 obtain ⟨y1, y2, y3⟩ := layPx_at q (by rw [hcn]; exact hc4.2) (fun i j hij => by
  rw [hpt, hpt]
  unfold ptP
  have : i * (psOf h.L p).cs < j * (psOf h.L p).cs := Nat.mul_lt_mul_of_pos_right hij (by omega)
  omega) (colsP h p)
 rw [hcn] at y1
 refine ⟨fun X Y hX hY hk2 => ?_, fun a l i hal hl hi => ?_⟩
 ·rw [e1] at hk2
  rw [e2]
  by_cases hin : ∃ i, i < colsP h p ∧ Y * 16 + X = q.pt i
  ·obtain ⟨i, hi, hi2⟩ := hin
   have w1 := wthn_in po.2.1 hi
   have w2 := wthn_in po.2.2.2.2.2.1 hk
   have hw := e.W2
   have hh := e.H2
   have hi3 := hi2
   rw [hpt] at hi3
   unfold ptP at hi3
   have eX : X = (psOf h.L p).cf + i * (psOf h.L p).cs := by omega
   have eY : Y = (psOf h.L p).rf + k * (psOf h.L p).rs := by omega
   refine ⟨by omega, by omega, fun c hc => ?_⟩
   rw [hi2, y1 i c hi hc, smp_row e.lg hb q1 qr hi hc]
   unfold posX
   rw [← eX, ← eY]
  ·obtain ⟨z1, z2⟩ := y3 (Y * 16 + X) (fun i hi q => hin ⟨i, hi, q⟩)
   rw [z1, qk] at hk2
   obtain ⟨c1, c2, c3⟩ := kp.1 X Y hX hY hk2
   refine ⟨c1, c2, fun c hc => ?_⟩
   rw [z2 c (by omega), qs]; exact c3 c hc
 ·rw [e1]
  by_cases hin : ∃ i', i' < colsP h p ∧ ptP h a l i = q.pt i'
  ·obtain ⟨i', hi', hi2⟩ := hin
   rw [hi2]; exact y2 i' hi'
  ·rw [(y3 (ptP h a l i) (fun i hi q => hin ⟨i, hi, q⟩)).1, qk]
   refine kp.2 a l i ?_ hl hi
   rcases hal with h1 | ⟨h1, h2⟩
   ·exact Or.inl h1
   ·refine Or.inr ⟨h1, ?_⟩
    by_cases hlk : l = k
    ·exfalso
     subst h1; subst hlk
     exact hin ⟨i, hi, (hpt i).symm⟩
    ·omega
theorem row_in_c {h : Hd} {pl fl : List Int} {C : Nat} {r : Rw} {p k : Nat} (e : QEnv h C (rvX h pl) (ffX h fl)) (s : RwP h C (rvX h pl) (ffX h fl) r p k 0) (hp : p < cntP h.L) (hf : fullP h p) (hk : k < linesP h p) (kp : KpP h pl r p k) : ∀ m, m ≤ sizeP h p → ∃ r', RWL r (rowN h (rvX h pl) (ffX h fl) p k m) r' ∧ RwP h C (rvX h pl) (ffX h fl) r' p k m ∧ KpP h pl r' p k
 | 0, _ => ⟨r, rfl, s, kp⟩
 | m + 1, hm => by
  obtain ⟨a, h1, h2, h3⟩ := row_in_c e s hp hf hk kp m (by omega)
  obtain ⟨b, h4, h5⟩ := take_in e h2 hp hf (by omega)
  have hs := take_mid (r := a) (x := bytP h (rvX h pl) (ffX h fl) p k m) (by rw [h2.taken, h2.size]; omega)
  rw [h4] at hs
  refine ⟨b, ?_, h5, h3.same hs.1 hs.2⟩
  unfold rowN
  rw [List.range_succ, List.map_append]
  exact h1.append ⟨h2.good e hp hk (by omega), by rw [h4], by rw [h4]; rfl⟩
theorem row_all_c {h : Hd} {pl fl : List Int} {C : Nat} {r : Rw} {p k : Nat} (e : QEnv h C (rvX h pl) (ffX h fl)) (hb : ∀ y ∈ pl, 0 ≤ y ∧ y < ((2 ^ h.D : Nat) : Int)) (s : RwP h C (rvX h pl) (ffX h fl) r p k 0) (hp : p < cntP h.L) (hf : fullP h p) (hk : k < linesP h p) (kp : KpP h pl r p k) : ∃ r', RWL r (rowN h (rvX h pl) (ffX h fl) p k (sizeP h p + 1)) r' ∧ (k + 1 < linesP h p → RwP h C (rvX h pl) (ffX h fl) r' p (k + 1) 0) ∧ (k + 1 = linesP h p → AtP h C (rvX h pl) (ffX h fl) r' (p + 1)) ∧ KpP h pl r' p (k + 1) := by
 obtain ⟨a, h1, h2, h0⟩ := row_in_c e s hp hf hk kp (sizeP h p) (Nat.le_refl _)
 obtain ⟨b, h3, h4, h5⟩ := take_end e h2 hp hf hk
 have h6 := kp_row e hb h2 hp hf hk rfl (by rw [h3]) h0
 rw [h3] at h6
 refine ⟨b, ?_, h4, h5, h6⟩
 unfold rowN
 rw [List.range_succ, List.map_append]
 exact h1.append ⟨h2.good e hp hk (Nat.le_refl _), by rw [h3], by rw [h3]; rfl⟩
theorem pass_in_c {h : Hd} {pl fl : List Int} {C : Nat} {r : Rw} {p : Nat} (e : QEnv h C (rvX h pl) (ffX h fl)) (hb : ∀ y ∈ pl, 0 ≤ y ∧ y < ((2 ^ h.D : Nat) : Int)) (s : RwP h C (rvX h pl) (ffX h fl) r p 0 0) (hp : p < cntP h.L) (hf : fullP h p) (kp : KpP h pl r p 0) : ∀ k, k ≤ linesP h p → ∃ r', RWL r (passN h (rvX h pl) (ffX h fl) p k) r' ∧ (k < linesP h p → RwP h C (rvX h pl) (ffX h fl) r' p k 0) ∧ (k = linesP h p → AtP h C (rvX h pl) (ffX h fl) r' (p + 1)) ∧ KpP h pl r' p k
 | 0, _ => ⟨r, rfl, fun _ => s, fun q => by have := hf.2; omega, kp⟩
 | k + 1, hk => by
  obtain ⟨a, h1, h2, _, h0⟩ := pass_in_c e hb s hp hf kp k (by omega)
  obtain ⟨b, h3, h4, h5, h6⟩ := row_all_c e hb (h2 (by omega)) hp hf (by omega) h0
  refine ⟨b, ?_, h4, h5, h6⟩
  unfold passN
  rw [List.range_succ, List.flatMap_append]
  refine h1.append ?_
  rw [List.flatMap_cons, List.flatMap_nil, List.append_nil]
  exact h3
theorem KpP.up {h : Hd} {pl : List Int} {r : Rw} {p : Nat} (c : KpP h pl r p (linesP h p)) : KpP h pl r (p + 1) 0 := by
 refine ⟨c.1, fun q l i hq hl hi => c.2 q l i ?_ hl hi⟩
 by_cases e : q = p
 ·subst e; exact Or.inr ⟨rfl, hl⟩
 ·exact Or.inl (by omega)
theorem KpP.over {h : Hd} {pl : List Int} {r : Rw} {p : Nat} (c : KpP h pl r p 0) (hf : ¬ fullP h p) : KpP h pl r (p + 1) 0 := by
 refine ⟨c.1, fun q l i hq hl hi => ?_⟩
 by_cases e : q = p
 ·subst e; exact absurd ⟨by omega, by omega⟩ hf
 ·exact c.2 q l i (Or.inl (by omega)) hl hi
theorem passes_run_c {h : Hd} {pl fl : List Int} {C : Nat} (e : QEnv h C (rvX h pl) (ffX h fl)) (hb : ∀ y ∈ pl, 0 ≤ y ∧ y < ((2 ^ h.D : Nat) : Int)) : ∀ (n p : Nat) (r : Rw), p + n = cntP h.L → AtP h C (rvX h pl) (ffX h fl) r p → KpP h pl r p 0 → ∃ r', RWL r ((List.range' p n).flatMap (fpN h (rvX h pl) (ffX h fl))) r' ∧ KpP h pl r' (cntP h.L) 0
 | 0, p, r, hn, ha, kp => ⟨r, rfl, by rw [← hn]; exact kp⟩
 | n + 1, p, r, hn, ha, kp => by
  rw [List.range'_succ, List.flatMap_cons]
  by_cases hf : fullP h p
  ·have s : RwP h C (rvX h pl) (ffX h fl) r p 0 0 := by
    rcases ha with ⟨q, q1, q2, q3, q4, q5⟩ | ⟨q1, _⟩
    ·by_cases hq : q = p
     ·rw [hq] at q5; exact q5
     ·exact absurd hf (q4 p (Nat.le_refl _) (by omega))
    ·exact absurd hf (q1 p (Nat.le_refl _) (by omega))
   obtain ⟨a, h1, _, h3, h0⟩ := pass_in_c e hb s (by omega) hf kp (linesP h p) (Nat.le_refl _)
   obtain ⟨b, h4, h5⟩ := passes_run_c e hb n (p + 1) a (by omega) (h3 rfl) h0.up
   have e1 : fpN h (rvX h pl) (ffX h fl) p = passN h (rvX h pl) (ffX h fl) p (linesP h p) := by unfold fpN; rw [if_neg (by have := hf.1; omega)]
   rw [e1]
   exact ⟨b, h1.append h4, h5⟩
  ·have e1 : fpN h (rvX h pl) (ffX h fl) p = [] := by
    unfold fpN
    by_cases hc : colsP h p = 0
    ·rw [if_pos hc]
    ·rw [if_neg hc]
     have : linesP h p = 0 := by
      by_cases h0 : linesP h p = 0
      ·exact h0
      ·exact absurd ⟨by omega, by omega⟩ hf
     rw [this]; rfl
   rw [e1, List.nil_append]
   refine passes_run_c e hb n (p + 1) r (by omega) ?_ (kp.over hf)
   rcases ha with ⟨q, q1, q2, q3, q4, q5⟩ | ⟨q1, q2⟩
   ·by_cases hq : q = p
    ·rw [hq] at q3; exact absurd q3 hf
    ·exact Or.inl ⟨q, by omega, q2, q3, fun t t1 t2 => q4 t (by omega) t2, q5⟩
   ·exact Or.inr ⟨fun t t1 t2 => q1 t (by omega) t2, q2⟩
theorem RWL.det : ∀ {l : List Nat} {r a b : Rw}, RWL r l a → RWL r l b → a = b
 | [], r, a, b, h, k => h.symm.trans k
 | x :: l, r, a, b, h, k => RWL.det h.2.2 k.2.2
theorem in_grid : ∀ x, x < 16 → ∀ y, y < 16 → ∃ q, q < 7 ∧ (psOf 1 q).cf ≤ x ∧ (x - (psOf 1 q).cf) % (psOf 1 q).cs = 0 ∧ (psOf 1 q).rf ≤ y ∧ (y - (psOf 1 q).rf) % (psOf 1 q).rs = 0 := by decide +kernel
theorem wthn_ok {f s n x : Nat} (h1 : f ≤ x) (h2 : x < n) : (x - f) / s < wthn f s n := by
 unfold wthn
 rw [if_neg (by omega)]
 have := Nat.div_le_div_right (c := s) (show x - f ≤ n - f - 1 by omega)
 omega
theorem div_back {a s : Nat} (h : a % s = 0) : a / s * s = a := Nat.div_mul_cancel (Nat.dvd_of_mod_eq_zero h)
theorem all_known {h : Hd} {r : Rw} (hL : h.L ≤ 1) (hW : h.W ≤ 16) (hH : h.H ≤ 16) (cv : CvP h r (cntP h.L) 0) {x y : Nat} (hx : x < h.W) (hy : y < h.H) : r.known (y * 16 + x) = true := by
 have key : ∃ q, q < cntP h.L ∧ (psOf h.L q).cf ≤ x ∧ (x - (psOf h.L q).cf) % (psOf h.L q).cs = 0 ∧ (psOf h.L q).rf ≤ y ∧ (y - (psOf h.L q).rf) % (psOf h.L q).rs = 0 := by
  by_cases e : h.L = 1
  ·rw [e]
   exact in_grid x (by omega) y (by omega)
  ·refine ⟨0, by unfold cntP; rw [if_neg e]; omega, ?_⟩
   have : psOf h.L 0 = ⟨0, 1, 1, 0, 1, 1⟩ := by unfold psOf; rw [if_neg (fun q => e q.1)]
   rw [this]
   exact ⟨Nat.zero_le _, Nat.mod_one _, Nat.zero_le _, Nat.mod_one _⟩
 obtain ⟨q, h1, h2, h3, h4, h5⟩ := key
 have := cv q ((y - (psOf h.L q).rf) / (psOf h.L q).rs) ((x - (psOf h.L q).cf) / (psOf h.L q).cs) (Or.inl h1) (wthn_ok h4 hy) (wthn_ok h2 hx)
 unfold ptP at this
 rw [div_back h3, div_back h5, Nat.add_sub_cancel' h2, Nat.add_sub_cancel' h4] at this
 exact this
def SeenP (h : Hd) (pl : List Int) (r : Rw) : Prop := CnP h pl r ∧ ∀ x y, x < h.W → y < h.H → r.known (y * 16 + x) = true
theorem rows_seen {W H K D L : Nat} {pal clr pix fl : List Int} (ok : OkIm W H K D pal clr pix) (hL : L ≤ 1) (hf : ∀ y ∈ fl, 0 ≤ y ∧ y ≤ 4) {r' : Rw} (g : RWL (Rw.start ⟨W, H, D, K, L⟩ (colN K pal)) ((List.range' 0 (cntP L)).flatMap (fpN ⟨W, H, D, K, L⟩ (rvX ⟨W, H, D, K, L⟩ pix) (ffX ⟨W, H, D, K, L⟩ fl))) r') : SeenP ⟨W, H, D, K, L⟩ pix r' := by
 have e := env_x (fl := fl) ok hL hf
 obtain ⟨r1, g1, k1⟩ := passes_run_c e (pix_lt ok) (cntP L) 0 _ (by show 0 + cntP L = cntP L; omega) (start_at e) ⟨fun x y _ _ q => by rw [start_known] at q; exact absurd (show false = true from q) (by decide), fun q l i hq => by omega⟩
 rw [g.det g1]
 exact ⟨k1.1, fun x y hx hy => all_known (h := ⟨W, H, D, K, L⟩) hL ok.w2 ok.h2 k1.2 hx hy⟩
theorem fileT_seen {W H D K L P V : Nat} {pal clr pix fl kl cl : List Int} {s : ByteArray} (h : FileT W H D K L P V pal clr pix fl kl s) (ok : OkIm W H K D pal clr pix) (hc : OkCh L P V fl kl cl) : ∃ s', Rn rd0 (bsOf s) s' ∧ s'.part = 5 ∧ s'.hd = ⟨W, H, D, K, L⟩ ∧ FinP s'.rw ∧ RdInv s' ∧ TabO K pal clr s'.tl ∧ SeenP ⟨W, H, D, K, L⟩ pix s'.rw := by
 obtain ⟨PL, rfl, fo⟩ := h
 rw [bsOf_strx (fileX_ok ok hc.l fo.byte)]
 obtain ⟨s', a, b, c, d, e, f, g⟩ := file_taken_t ok hc.l hc.v hc.p1 hc.fb (allB_bytes (Or.inr trivial) hc.fb _) fo.ne fo.byte fo.len fo.str
 exact ⟨s', a, b, c, d, e, f, rows_seen ok hc.l hc.fb g⟩
theorem scl_wd {D v : Nat} (hD : D = 1 ∨ D = 2 ∨ D = 4 ∨ D = 8 ∨ D = 16) : v * sclN D = wdN D v := by
 unfold wdN sclN
 rcases hD with rfl | rfl | rfl | rfl | rfl
 ·show v * 65535 = v * 65535 / 1; omega
 ·show v * 21845 = v * 65535 / 3; omega
 ·show v * 4369 = v * 65535 / 15; omega
 ·show v * 257 = v * 65535 / 255; omega
 ·show v * 1 = v * 65535 / 65535; omega
def SmK (K : Nat) (pix : List Int) (k s0 s1 s2 s3 : Nat) : Prop := ∀ c, c < chan K → pick4 (s0 : Int) s1 s2 s3 c = pix.getD (k * chan K + c) 0
theorem al_tab {wd H K D k s0 s1 s2 s3 : Nat} {pal clr pix : List Int} {t : Tl} (ok : OkIm wd H K D pal clr pix) (ht : TabO K pal clr t) (hK : K = 0 ∨ K = 2) (hk : k < wd * H) (hs : SmK K pix k s0 s1 s2 s3) : alP t (chn K) (pick4 s0 s1 s2 s3) = if decide ((pix.drop (k * chan K)).take (chan K) = clr) then 0 else 65535 := by
 have hc := chan_le (K := K)
 have hcc : chn K = chan K := chn_ch ok.lg
 have hin : k * chan K + chan K ≤ pix.length := by
  rw [ok.pixL]
  have : (k + 1) * chan K ≤ wd * H * chan K := Nat.mul_le_mul_right _ hk
  rw [Nat.add_mul, Nat.one_mul] at this
  exact this
 have hl : ((pix.drop (k * chan K)).take (chan K)).length = chan K := by rw [List.length_take, List.length_drop]; omega
 have hcl := ht.clears
 rw [if_neg (by omega)] at hcl
 rcases ok.clr with h0 | ⟨_, l2, y2⟩ | ⟨k3, _⟩
 ·subst h0
  rw [alP_none (by rw [hcl]; rfl), decide_eq_false (fun e => by rw [e] at hl; simp at hl; omega)]; rfl
 ·have hn0 : ¬ t.clears = 0 := by omega
  have hg : ∀ c, c < chan K → ((pix.drop (k * chan K)).take (chan K)).getD c 0 = pix.getD (k * chan K + c) 0 := fun c hc => by
   rw [List.getD_eq_getElem?_getD, List.getElem?_take_of_lt hc, List.getElem?_drop, ← List.getD_eq_getElem?_getD]
  have hq : ∀ c, c < chan K → (t.smp c : Int) = clr.getD c 0 := fun c hc => by
   rw [ht.clrN (by omega) c (by omega)]
   have := y2 _ (getD_mem (show c < clr.length by omega))
   omega
  by_cases e : (pix.drop (k * chan K)).take (chan K) = clr
  ·rw [decide_eq_true e, alP_all hn0 (fun c hc => by
    rw [hcc] at hc
    rw [hs c hc, hq c hc, ← e, hg c hc])]; rfl
  ·rw [decide_eq_false e]
   have hx : ∃ c, c < chan K ∧ pick4 (s0 : Int) s1 s2 s3 c ≠ (t.smp c : Int) := by
    apply Classical.byContradiction
    intro q
    apply e
    refine list_ext_getD (by rw [hl, l2]) (fun j hj => ?_)
    rw [hl] at hj
    apply Classical.byContradiction
    intro z
    refine q ⟨j, hj, fun y => z ?_⟩
    rw [hg j hj, ← hs j hj, y, hq j hj]
   obtain ⟨c, hc1, hc2⟩ := hx
   rw [alP_not hn0 c (by rw [hcc]; exact hc1) hc2]; rfl
 ·omega
theorem dcolour_x (x wd H K D L P V Z k s0 s1 s2 s3 : Nat) (pp qp xp fp kp cp : Option Addr) (pc qc xc fc kc cc : Nat) (pal clr pix fl kl cl : List Int) (t : Tl) (w : World) (h : Dk w x wd H K D L P V Z pp qp xp fp kp cp pc qc xc fc kc cc pal clr pix fl kl cl) (ht : TabO K pal clr t) (hk : k < wd * H) (hs : SmK K pix k s0 s1 s2 s3) :
  Calls Tryz.prog 29 #[.pointer (some ⟨x, 0, none⟩), .int .i64 (k : Int)] w fun e w' => Four4 w (colP t ⟨wd, H, D, K, L⟩ s0 s1 s2 s3 0) (colP t ⟨wd, H, D, K, L⟩ s0 s1 s2 s3 1) (colP t ⟨wd, H, D, K, L⟩ s0 s1 s2 s3 2) (colP t ⟨wd, H, D, K, L⟩ s0 s1 s2 s3 3) e w' := by
 have ok := h.im
 have hc := chan_le (K := K)
 have hD := ok.lg.d
 have hwh : wd * H ≤ 16 * 16 := Nat.mul_le_mul ok.w2 ok.h2
 have hin : k * chan K + chan K ≤ pix.length := by
  rw [ok.pixL]
  have : (k + 1) * chan K ≤ wd * H * chan K := Nat.mul_le_mul_right _ hk
  rw [Nat.add_mul, Nat.one_mul] at this
  exact this
 have hkx := h.kx
 obtain ⟨gx, ox, hxp, _⟩ := h.lx.cellAt (k * chan K) (by omega)
 have hcell : ∀ c, c < chan K → w.cell? ⟨gx, ox + (k * chan K + c), none⟩ = some (.int .i64 (pix.getD (k * chan K + c) 0)) := fun c hc => by
  obtain ⟨g', o', e, q⟩ := h.lx.cellAt (k * chan K + c) (by omega)
  rw [hxp] at e
  injection e with e
  injection e with e1 e2
  subst e1; subst e2
  exact q
 have hlt := pix_lt ok
 have hpw := pow_le hD
 have hb : ∀ c, c < chan K → 0 ≤ pix.getD (k * chan K + c) 0 ∧ pix.getD (k * chan K + c) 0 < 65536 := fun c hc => by
  have := hlt _ (getD_mem (show k * chan K + c < pix.length by omega))
  omega
 have c6 := h.c6
 rw [hxp] at c6
 rcases legal_K ok.lg with rfl | rfl | rfl | rfl | rfl
 ·have ev : chan 0 = 1 := rfl
  rw [ev] at hin hcell hb
  have q0 := hs 0 (by decide)
  have f0 := hcell 0 (by omega)
  have z0 := hb 0 (by omega)
  rw [ev] at q0
  replace q0 : (s0 : Int) = pix.getD (k * 1 + 0) 0 := q0
  rw [← q0] at f0 z0
  have FJ : ∀ W, Kept w W → Calls Tryz.prog 27 #[.slice (some ⟨gx, ox + k * 1, none⟩) 1 (xc - k * 1), .slice qp clr.length qc] W fun e w' => e = .returned (.bool (decide ((pix.drop (k * 1)).take 1 = clr))) ∧ Kept W w' := fun W kW => by
   have l1 := h.lx
   rw [hxp] at l1
   have lp := (l1.kept kW).part (k * 1) 1 (xc - k * 1) (by omega)
   have ll : ((pix.drop (k * 1)).take 1).length = 1 := by rw [List.length_take, List.length_drop]; omega
   refine sameInts_x _ _ 1 clr.length _ _ _ clr W ll.symm rfl (by rw [ll]; exact lp) (h.lq.kept kW) (by omega) ?_
   rcases ok.clr with e | ⟨_, e, _⟩ | ⟨e, _⟩
   ·rw [e]; exact Nat.zero_le _
   ·omega
   ·omega
  have := dcol0_x x k D pix.length xc gx ox clr.length qc s0 qp _ w h.c2 h.c3 h.c5 c6 (by omega) (by omega) hD f0 (by omega) FJ
  rw [colP_0 rfl, al_tab ok ht (by omega) hk hs]
  refine this.mono (fun e w' q => q.of ?_ ?_ ?_ rfl) <;> (show ((wdN D s0 : Nat) : Int) = ((s0 * sclN D : Nat) : Int)) <;> rw [scl_wd hD]
 ·have ev : chan 2 = 3 := rfl
  rw [ev] at hin hcell hb
  have q0 := hs 0 (by decide)
  have q1 := hs 1 (by decide)
  have q2 := hs 2 (by decide)
  have f0 := hcell 0 (by omega)
  have f1 := hcell 1 (by omega)
  have f2 := hcell 2 (by omega)
  have z0 := hb 0 (by omega)
  have z1 := hb 1 (by omega)
  have z2 := hb 2 (by omega)
  rw [ev] at q0 q1 q2
  replace q0 : (s0 : Int) = pix.getD (k * 3 + 0) 0 := q0
  replace q1 : (s1 : Int) = pix.getD (k * 3 + 1) 0 := q1
  replace q2 : (s2 : Int) = pix.getD (k * 3 + 2) 0 := q2
  rw [← q0] at f0 z0
  rw [← q1] at f1 z1
  rw [← q2] at f2 z2
  have FJ : ∀ W, Kept w W → Calls Tryz.prog 27 #[.slice (some ⟨gx, ox + k * 3, none⟩) 3 (xc - k * 3), .slice qp clr.length qc] W fun e w' => e = .returned (.bool (decide ((pix.drop (k * 3)).take 3 = clr))) ∧ Kept W w' := fun W kW => by
   have l1 := h.lx
   rw [hxp] at l1
   have lp := (l1.kept kW).part (k * 3) 3 (xc - k * 3) (by omega)
   have ll : ((pix.drop (k * 3)).take 3).length = 3 := by rw [List.length_take, List.length_drop]; omega
   refine sameInts_x _ _ 3 clr.length _ _ _ clr W ll.symm rfl (by rw [ll]; exact lp) (h.lq.kept kW) (by omega) ?_
   rcases ok.clr with e | ⟨_, e, _⟩ | ⟨e, _⟩
   ·rw [e]; exact Nat.zero_le _
   ·omega
   ·omega
  have := dcol2_x x k D pix.length xc gx ox clr.length qc s0 s1 s2 qp _ w h.c2 h.c3 h.c5 c6 (by omega) (by omega) hD f0 (by omega) f1 (by omega) f2 (by omega) FJ
  rw [colP_2 rfl, al_tab ok ht (by omega) hk hs]
  refine this.mono (fun e w' q => q.of ?_ ?_ ?_ rfl)
  ·show ((wdN D s0 : Nat) : Int) = ((s0 * sclN D : Nat) : Int); rw [scl_wd hD]
  ·show ((wdN D s1 : Nat) : Int) = ((s1 * sclN D : Nat) : Int); rw [scl_wd hD]
  ·show ((wdN D s2 : Nat) : Int) = ((s2 * sclN D : Nat) : Int); rw [scl_wd hD]
 ·have ev : chan 3 = 1 := rfl
  rw [ev] at hin hcell hb
  have q0 := hs 0 (by decide)
  have f0 := hcell 0 (by omega)
  rw [ev] at q0
  replace q0 : (s0 : Int) = pix.getD (k * 1 + 0) 0 := q0
  rw [← q0, Nat.mul_one, Nat.add_zero] at f0
  obtain ⟨m, a1, a2, a3⟩ := ok.pal3 rfl
  have hd8 : D = 1 ∨ D = 2 ∨ D = 4 ∨ D = 8 := by have := ok.lg; unfold legal at this; omega
  have hm8 := pow8_le hd8
  have hv : s0 < m := by
   have := ok.pixB _ (getD_mem (show k * 1 + 0 < pix.length by omega))
   rw [if_pos rfl, ← q0] at this
   omega
  obtain ⟨gp, op, hpp, _⟩ := h.lp.cellAt 0 (by omega)
  have pcell : ∀ c, c < pal.length → w.cell? ⟨gp, op + c, none⟩ = some (.int .i64 ((t.pal c : Nat) : Int)) := fun c hc => by
   obtain ⟨g', o', e, q⟩ := h.lp.cellAt c hc
   rw [hpp] at e
   injection e with e
   injection e with e1 e2
   subst e1; subst e2
   have := ok.palB _ (getD_mem hc)
   rw [q, ht.pal c hc]
   congr 2; omega
  have hpl : ∀ c, c < pal.length → t.pal c < 256 := fun c hc => by
   have := ok.palB _ (getD_mem hc)
   rw [ht.pal c hc]; omega
  have c4 := h.c4
  rw [hpp] at c4
  have hkp := h.kp
  obtain ⟨A, hA, hA2⟩ : ∃ A : Nat, A < 256 ∧ (s0 < clr.length → t.clear s0 = A ∧ clr.getD s0 0 = (A : Int)) := by
   by_cases q : s0 < clr.length
   ·rcases ok.clr with e | ⟨e, _⟩ | ⟨_, _, _, y2⟩
    ·rw [e] at q; simp at q
    ·omega
    ·have := y2 _ (getD_mem q)
     exact ⟨(clr.getD s0 0).toNat, by omega, fun _ => ⟨ht.clr3 rfl s0 q, by omega⟩⟩
   ·exact ⟨0, by omega, fun z => absurd z q⟩
  have hcl := ht.clears
  rw [if_pos rfl] at hcl
  have := dcol3_x x k D s0 clr.length pix.length pal.length xc pc qc gx ox gp op (t.pal (3 * s0)) (t.pal (3 * s0 + 1)) (t.pal (3 * s0 + 2)) A qp w h.c2 c4 h.c5 c6 (by omega) (by omega) (by omega) (by omega) f0 (pcell _ (by omega)) (pcell (3 * s0 + 1) (by omega)) (pcell (3 * s0 + 2) (by omega)) (hpl _ (by omega)) (hpl _ (by omega)) (hpl _ (by omega)) hA (fun q => by
   obtain ⟨g, o, e, z⟩ := h.lq.cellAt s0 q
   exact ⟨g, o, e, by rw [z, (hA2 q).2]⟩)
  have he : entP t s0 = pick4 ((t.pal (3 * s0) * 257 : Nat) : Int) ((t.pal (3 * s0 + 1) * 257 : Nat) : Int) ((t.pal (3 * s0 + 2) * 257 : Nat) : Int) ((if s0 < clr.length then A * 257 else 65535 : Nat) : Int) := by
   unfold entP
   rw [if_pos (by omega), hcl]
   by_cases q : s0 < clr.length
   ·rw [if_pos q, if_pos q, (hA2 q).1]
   ·rw [if_neg q, if_neg q]
  rw [colP_3 rfl, he]
  exact this
 ·have ev : chan 4 = 2 := rfl
  rw [ev] at hin hcell hb
  have q0 := hs 0 (by decide)
  have q1 := hs 1 (by decide)
  have f0 := hcell 0 (by omega)
  have f1 := hcell 1 (by omega)
  have z0 := hb 0 (by omega)
  have z1 := hb 1 (by omega)
  rw [ev] at q0 q1
  replace q0 : (s0 : Int) = pix.getD (k * 2 + 0) 0 := q0
  replace q1 : (s1 : Int) = pix.getD (k * 2 + 1) 0 := q1
  rw [← q0] at f0 z0
  rw [← q1] at f1 z1
  have := dcol4_x x k D pix.length xc gx ox s0 s1 w h.c2 h.c3 c6 (by omega) (by omega) hD f0 (by omega) f1 (by omega)
  rw [colP_4 rfl]
  refine this.mono (fun e w' q => q.of ?_ ?_ ?_ ?_)
  ·show ((wdN D s0 : Nat) : Int) = ((s0 * sclN D : Nat) : Int); rw [scl_wd hD]
  ·show ((wdN D s0 : Nat) : Int) = ((s0 * sclN D : Nat) : Int); rw [scl_wd hD]
  ·show ((wdN D s0 : Nat) : Int) = ((s0 * sclN D : Nat) : Int); rw [scl_wd hD]
  ·show ((wdN D s1 : Nat) : Int) = ((s1 * sclN D : Nat) : Int); rw [scl_wd hD]
 ·have ev : chan 6 = 4 := rfl
  rw [ev] at hin hcell hb
  have q0 := hs 0 (by decide)
  have q1 := hs 1 (by decide)
  have q2 := hs 2 (by decide)
  have q3 := hs 3 (by decide)
  have f0 := hcell 0 (by omega)
  have f1 := hcell 1 (by omega)
  have f2 := hcell 2 (by omega)
  have f3 := hcell 3 (by omega)
  have z0 := hb 0 (by omega)
  have z1 := hb 1 (by omega)
  have z2 := hb 2 (by omega)
  have z3 := hb 3 (by omega)
  rw [ev] at q0 q1 q2 q3
  replace q0 : (s0 : Int) = pix.getD (k * 4 + 0) 0 := q0
  replace q1 : (s1 : Int) = pix.getD (k * 4 + 1) 0 := q1
  replace q2 : (s2 : Int) = pix.getD (k * 4 + 2) 0 := q2
  replace q3 : (s3 : Int) = pix.getD (k * 4 + 3) 0 := q3
  rw [← q0] at f0 z0
  rw [← q1] at f1 z1
  rw [← q2] at f2 z2
  rw [← q3] at f3 z3
  have := dcol6_x x k D pix.length xc gx ox s0 s1 s2 s3 w h.c2 h.c3 c6 (by omega) (by omega) hD f0 (by omega) f1 (by omega) f2 (by omega) f3 (by omega)
  rw [colP_6 (show (6 : Nat) ≠ 3 by decide) (show (6 : Nat) ≠ 0 by decide) (show (6 : Nat) ≠ 4 by decide) (show (6 : Nat) ≠ 2 by decide)]
  refine this.mono (fun e w' q => q.of ?_ ?_ ?_ ?_)
  ·show ((wdN D s0 : Nat) : Int) = ((s0 * sclN D : Nat) : Int); rw [scl_wd hD]
  ·show ((wdN D s1 : Nat) : Int) = ((s1 * sclN D : Nat) : Int); rw [scl_wd hD]
  ·show ((wdN D s2 : Nat) : Int) = ((s2 * sclN D : Nat) : Int); rw [scl_wd hD]
  ·show ((wdN D s3 : Nat) : Int) = ((s3 * sclN D : Nat) : Int); rw [scl_wd hD]
end Go.Proofs.YtmbmecfodigciaaGreatDoor
