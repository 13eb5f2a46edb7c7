import Derived.Test.YtmbmecfodigciaaGreatDoorM32
import Derived.Test.YtmbmecfodigciaaGreatDoorM39
import Derived.Test.YtmbmecfodigciaaGreatDoorM42
import Derived.Test.YtmbmecfodigciaaGreatDoorM41
set_option maxRecDepth 100000
set_option maxHeartbeats 6400000
namespace Go.Proofs.YtmbmecfodigciaaGreatDoor
open Go.RowKit Px
set_option linter.unusedSimpArgs false
set_option linter.unusedVariables false
theorem grd_x {W : World} (h : GridAt W) : GrdAt W := by
  intro j hj
  rw [h j hj]
  have : ∀ j, j < 42 → gridL.getD j 0 = (grdN j : Int) := by decide
  rw [this j hj]
/-- The text is the file of this picture, as the choice has it. -/
def FileT (W H D K L P V : Nat) (pal clr pix fl kl : List Int) (s : ByteArray) : Prop := ∃ PL, s = strOfNums (fileX W H D K L pal clr PL) ∧ FileOk W H D K L P V pal clr pix fl kl PL
theorem fileT_size {W H D K L P V : Nat} {pal clr pix fl kl : List Int} {s : ByteArray} (h : FileT W H D K L P V pal clr pix fl kl s) : 57 < s.size ∧ s.size ≤ 90000000 := by
  obtain ⟨PL, rfl, ok⟩ := h
  rw [strOfNums_size]
  refine ⟨?_, ok.all⟩
  have h1 := congrArg List.length ok.str
  rw [flat8_len, nl_len] at h1
  have h2 := strB_pos V (blL P kl (allB ⟨W, H, D, K, L⟩ pix fl (cntP L)).length 0 (allB ⟨W, H, D, K, L⟩ pix fl (cntP L)))
  have h3 := chL_len PL
  have h4 : 0 < PL.length := List.length_pos_iff.2 ok.ne
  unfold fileX
  rw [List.length_append, List.length_append, List.length_append, List.length_append, List.length_append, chB_len, chB_len, h3, signI_len]
  have h5 : (hdI W H D K L).length = 13 := rfl
  have h6 : ([] : List Int).length = 0 := rfl
  omega
theorem bsOf_strx {l : List Int} (h : isBytes l) : bsOf (strOfNums l) = nl l := by
  unfold bsOf nl
  rw [strOfNums_data, List.map_map]
  apply List.map_congr_left
  intro x hx
  have := h x hx
  show (UInt8.ofNat x.toNat).toNat = x.toNat
  exact UInt8.toNat_ofNat_of_lt' (show x.toNat < 256 by omega)
theorem chB_bytes (T : Nat) {l : List Int} (h : isBytes l) : isBytes (chB T l) := by
  unfold chB
  intro y hy
  simp only [List.mem_append] at hy
  rcases hy with hy | hy | hy | hy
  · exact beB_ok _ y hy
  · exact beB_ok _ y hy
  · exact h y hy
  · exact beB_ok _ y hy
theorem deskWrite_x (x wd H K D L P V Z : Nat) (pp qp xp fp kp cp : Option Addr) (pc qc xc fc kc cc : Nat) (pal clr pix fl kl cl : List Int) (w : World) (h : Dk w x wd H K D L P V Z pp qp xp fp kp cp pc qc xc fc kc cc pal clr pix fl kl cl) (hx0 : x ≠ 0) :
    Calls Tryz.prog 20 #[.pointer (some ⟨x, 0, none⟩)] w fun r w' => r = .returned (.bool true) ∧ Dk w' x wd H K D L P V Z pp qp xp fp kp cp pc qc xc fc kc cc pal clr pix fl kl cl ∧ (∃ s, FileT wd H D K L P V pal clr pix fl kl s ∧ w'.cell? ⟨x, 14, none⟩ = some (.string s)) ∧ Fr1 x w w' := by
  have FN : Hid (∀ W' : World, Calls Tryz.prog 37 #[] W' fun r w' => (∃ a, r = .returned (.pointer (some a))) ∧ Kept W' w') := fun W' => newEnc_any W'
  have FE : Hid (∀ (W' : World) (a : Option Addr), Kept w W' → Calls Tryz.prog 38 #[.pointer a, .agg #[.int .i64 (wd : Int), .int .i64 (H : Int), .int .i64 (K : Int), .int .i64 (D : Int), .slice pp pal.length pc, .slice qp clr.length qc, .slice xp pix.length xc], .agg #[.int .i64 (L : Int), .slice fp fl.length fc, .slice kp kl.length kc, .int .i64 (P : Int), .slice cp cl.length cc, .int .i64 (V : Int), .int .i64 (Z : Int)]] W' fun r w' => ∃ s : ByteArray, r = .returned (.tuple #[.string s, .int .i64 0]) ∧ 57 < s.size ∧ FileT wd H D K L P V pal clr pix fl kl s ∧ Kept W' w') := by
    intro W' a k
    have hk := h.kept k
    have hc : OkChB L P V fl kl cl := ⟨hk.ch.l, hk.ch.p1, by have := hk.ch.p2; omega, hk.ch.v, hk.ch.f0, hk.ch.f1, hk.ch.fb, hk.ch.k0, hk.ch.k1, hk.ch.kb, hk.ch.c0, hk.ch.c1, hk.ch.cb, hk.ch.cf⟩
    exact (encode_x a wd H K D L P V Z pp qp xp fp kp cp pc qc xc fc kc cc pal clr pix fl kl cl W' hk.im hc hk.z (grd_x hk.grid) hk.lp hk.lq hk.lx hk.lf hk.lk hk.lc (fun g hg => (hk.bx g hg).2) (fun g hg => (hk.bf g hg).2) (fun g hg => (hk.bc g hg).2)).mono (fun r w' ⟨PL, h1, h2, h3⟩ => ⟨_, h1, (fileT_size ⟨PL, rfl, h2⟩).1, ⟨PL, rfl, h2⟩, h3⟩)
  have hpix : (0 : Int) < (pix.length : Int) := by
    have h1 := h.im.pixL
    have h2 : 0 < wd * H * chan K := Nat.mul_pos (Nat.mul_pos (by have := h.im.w1; omega) (by have := h.im.h1; omega)) (by rcases legal_K h.im.lg with rfl | rfl | rfl | rfl | rfl <;> decide)
    omega
  have hcl : (0 : Int) < (cl.length : Int) := by have := h.ch.c0; omega
  have p1 : ((pix.length : Int) == 0) = false := by rw [beq_eq_false_iff_ne]; omega
  have p2 : ((cl.length : Int) == 0) = false := by rw [beq_eq_false_iff_ne]; omega
  have k6 := h.c6
  have k11 := h.c11
  have HD : Hid (Dk w x wd H K D L P V Z pp qp xp fp kp cp pc qc xc fc kc cc pal clr pix fl kl cl) := h
  clear h
  go_enter Tryz.func20, Tryz.ntmps20
  go_wp2_with fail
  refine (FN.out _).mono ?_
  rintro r w1 ⟨⟨a, rfl⟩, hk1⟩
  have HK1 : Hid (Kept w w1) := hk1
  clear hk1 k6 k11
  have D1 : Hid (Dk w1 x wd H K D L P V Z pp qp xp fp kp cp pc qc xc fc kc cc pal clr pix fl kl cl) := HD.out.kept HK1.out
  clear HD
  go_wp2_with fail
  go_region_held3 (fun W' => W'.cell? ⟨x, 0, none⟩ = some (.int .i64 (wd : Int)) ∧ W'.cell? ⟨x, 1, none⟩ = some (.int .i64 (H : Int)) ∧ W'.cell? ⟨x, 2, none⟩ = some (.int .i64 (K : Int)) ∧ W'.cell? ⟨x, 3, none⟩ = some (.int .i64 (D : Int)) ∧ W'.cell? ⟨x, 4, none⟩ = some (.slice pp pal.length pc) ∧ W'.cell? ⟨x, 5, none⟩ = some (.slice qp clr.length qc) ∧ W'.cell? ⟨x, 6, none⟩ = some (.slice xp pix.length xc) ∧ W'.cell? ⟨x, 7, none⟩ = some (.int .i64 (L : Int)) ∧ W'.cell? ⟨x, 8, none⟩ = some (.slice fp fl.length fc) ∧ W'.cell? ⟨x, 9, none⟩ = some (.slice kp kl.length kc) ∧ W'.cell? ⟨x, 10, none⟩ = some (.int .i64 (P : Int)) ∧ W'.cell? ⟨x, 11, none⟩ = some (.slice cp cl.length cc) ∧ W'.cell? ⟨x, 12, none⟩ = some (.int .i64 (V : Int)) ∧ W'.cell? ⟨x, 13, none⟩ = some (.int .i64 (Z : Int))) (first | exact Dk.s D1.out | exact Dk.s (D1.out.kept ((Kept.refl _).drewN 1)) | exact hS2.out | go_keep) ((go_at_call 38; refine (FE.out _ _ (by exact HK1.out.drewN 1)).mono ?_; rintro r w2 ⟨s, rfl, h57, hfT, hk2⟩; have hk2' : Kept w1 w2 := ((Kept.refl _).drewN 1).trans hk2; have hS2 : Hid (w2.cell? ⟨x, 0, none⟩ = some (.int .i64 (wd : Int)) ∧ w2.cell? ⟨x, 1, none⟩ = some (.int .i64 (H : Int)) ∧ w2.cell? ⟨x, 2, none⟩ = some (.int .i64 (K : Int)) ∧ w2.cell? ⟨x, 3, none⟩ = some (.int .i64 (D : Int)) ∧ w2.cell? ⟨x, 4, none⟩ = some (.slice pp pal.length pc) ∧ w2.cell? ⟨x, 5, none⟩ = some (.slice qp clr.length qc) ∧ w2.cell? ⟨x, 6, none⟩ = some (.slice xp pix.length xc) ∧ w2.cell? ⟨x, 7, none⟩ = some (.int .i64 (L : Int)) ∧ w2.cell? ⟨x, 8, none⟩ = some (.slice fp fl.length fc) ∧ w2.cell? ⟨x, 9, none⟩ = some (.slice kp kl.length kc) ∧ w2.cell? ⟨x, 10, none⟩ = some (.int .i64 (P : Int)) ∧ w2.cell? ⟨x, 11, none⟩ = some (.slice cp cl.length cc) ∧ w2.cell? ⟨x, 12, none⟩ = some (.int .i64 (V : Int)) ∧ w2.cell? ⟨x, 13, none⟩ = some (.int .i64 (Z : Int))) := Dk.s (D1.out.kept hk2')))
  have D2 : Hid (Dk w2 x wd H K D L P V Z pp qp xp fp kp cp pc qc xc fc kc cc pal clr pix fl kl cl) := D1.out.kept hk2'
  have HK2 : Hid (Kept w w2) := Kept.trans HK1.out hk2'
  obtain ⟨u14, hu14⟩ := D2.out.c14
  replace hfT : Hid (FileT wd H D K L P V pal clr pix fl kl s) := hfT
  have z14 := D2.out.fz 14
  have h57' : (57 : Int) < (s.size : Int) := by omega
  clear hS2 hk2 hk2' D1
  go_wp2
  go_ret
  exact ⟨by first | rfl | simp, D2.out.set14 hx0 _, ⟨s, hfT.out, cell_set_same hu14 _⟩, Fr1.set (Fr.of_kept HK2.out) _ _⟩
theorem bsOf_extr (t : ByteArray) (a b : Nat) : bsOf (t.extract a b) = ((bsOf t).drop a).take (b - a) := by
  unfold bsOf
  rw [ByteArray.data_extract, Array.toList_extract, List.extract_eq_take_drop, List.map_take, List.map_drop]
theorem isBytes.app' {a b : List Int} (h : isBytes a) (k : isBytes b) : isBytes (a ++ b) := fun y hy => by
  rw [List.mem_append] at hy
  rcases hy with hy | hy
  · exact h y hy
  · exact k y hy
theorem fileX_ok {W H K D L : Nat} {pal clr pix : List Int} {PL : List (List Int)} (ok : OkIm W H K D pal clr pix) (hL : L ≤ 1) (hP : isBytes PL.flatten) : isBytes (fileX W H D K L pal clr PL) := by
  have hK := ok.lg.k6
  have e1 : isBytes (palB pal) := by
    unfold palB; split
    · exact isBytes.nil
    · exact chB_bytes _ ok.palB
  have e2 : isBytes (clrB K clr) := by
    unfold clrB; split
    · exact isBytes.nil
    · rename_i hc
      apply chB_bytes
      rcases ok.clr with h0 | ⟨k02, l2, y2⟩ | ⟨k3, l1, l2, y2⟩
      · rw [h0] at hc; simp at hc
      · have hp := pow_le ok.lg.d
        rw [if_neg (by omega)]
        exact two_ok (fun y hy => by have := y2 y hy; omega)
      · rw [if_pos (by omega)]; exact y2
  have e3 : ∀ PL : List (List Int), isBytes PL.flatten → isBytes (chL PL) := fun PL => by
    induction PL with
    | nil => intro _; exact isBytes.nil
    | cons d t ih =>
      intro h
      have : chL (d :: t) = chB idat d ++ chL t := rfl
      rw [this]
      rw [List.flatten_cons] at h
      exact isBytes.app' (chB_bytes _ (fun y hy => h y (List.mem_append.2 (Or.inl hy)))) (ih (fun y hy => h y (List.mem_append.2 (Or.inr hy))))
  unfold fileX
  exact isBytes.app' (isBytes.app' (isBytes.app' (isBytes.app' (isBytes.app' signI_ok (chB_bytes _ (hdI_ok _ _ _ _ _ ok.w2 ok.h2 hK.2 hK.1 hL))) e1) e2) (e3 PL hP)) (chB_bytes _ isBytes.nil)
/-- THE FILE'S TEXT IS TAKEN. -/
theorem fileT_taken {W H D K L P V : Nat} {pal clr pix fl kl cl : List Int} {s : ByteArray} (h : FileT W H D K L P V pal clr pix fl kl s) (ok : OkIm W H K D pal clr pix) (hc : OkCh L P V fl kl cl) : ∃ s', Rn rd0 (bsOf s) s' ∧ s'.part = 5 ∧ s'.hd = ⟨W, H, D, K, L⟩ ∧ FinP s'.rw ∧ RdInv s' := by
  obtain ⟨PL, rfl, fo⟩ := h
  rw [bsOf_strx (fileX_ok ok hc.l fo.byte)]
  exact file_taken ok hc.l hc.v hc.p1 hc.fb (allB_bytes (Or.inr trivial) hc.fb _) fo.ne fo.byte fo.len fo.str
def DeskX (w W : World) (r : Ending) : Prop := ∃ x wd H K D L P V Z : Nat, ∃ pp qp xp fp kp cp : Option Addr, ∃ pc qc xc fc kc cc : Nat, ∃ pal clr pix fl kl cl : List Int, ∃ ff : ByteArray, r = .returned (.pointer (some ⟨x, 0, none⟩)) ∧ x ≠ 0 ∧ w.heap.size ≤ x ∧ Dk W x wd H K D L P V Z pp qp xp fp kp cp pc qc xc fc kc cc pal clr pix fl kl cl ∧ FileT wd H D K L P V pal clr pix fl kl ff ∧ W.cell? ⟨x, 14, none⟩ = some (.string ff)
theorem desked_x (a b : Int) (s t u v : ByteArray) (w : World) (ha1 : -9223372036854775808 ≤ a) (ha2 : a < 9223372036854775808) (hb1 : -9223372036854775808 ≤ b) (hb2 : b < 9223372036854775808) (hs : s.size < 9223372036854775808) (ht : t.size < 9223372036854775808) (hu : u.size < 9223372036854775808) (hv : v.size < 9223372036854775808) (hG : GridAt w) :
    Calls Tryz.prog 9 #[.int .i64 a, .string s, .string t, .int .i64 b, .string u, .string v] w fun r w' => (decide (65536 < s.size ∨ 65536 < t.size ∨ 65536 < u.size ∨ 65536 < v.size) = true ∧ r = .returned (.pointer none) ∨ decide (65536 < s.size ∨ 65536 < t.size ∨ 65536 < u.size ∨ 65536 < v.size) = false ∧ DeskX w w' r) ∧ Kept w w' := by
  have FF : Hid (∀ W' : World, Calls Tryz.prog 10 #[.string s, .string t, .string u, .string v] W' fun r w' => r = .returned (.bool (decide (65536 < s.size ∨ 65536 < t.size ∨ 65536 < u.size ∨ 65536 < v.size))) ∧ w' = W') := fun W' => far_any s t u v W' hs ht hu hv
  by_cases hfar : 65536 < s.size ∨ 65536 < t.size ∨ 65536 < u.size ∨ 65536 < v.size
  · have hd : decide (65536 < s.size ∨ 65536 < t.size ∨ 65536 < u.size ∨ 65536 < v.size) = true := decide_eq_true hfar
    rw [hd]
    rw [hd] at FF
    clear hfar hd
    replace hG : Hid _ := hG
    go_enter Tryz.func9, Tryz.ntmps9
    go_wp2_with fail
    refine (FF.out _).mono ?_
    rintro r w1 ⟨rfl, hw⟩
    subst w1
    go_wp2
    go_ret
    exact ⟨Or.inl ⟨by first | trivial | rfl, rfl⟩, Kept.refl _⟩
  · have hd : decide (65536 < s.size ∨ 65536 < t.size ∨ 65536 < u.size ∨ 65536 < v.size) = false := decide_eq_false hfar
    have hs' : s.size ≤ 65536 := by omega
    have ht' : t.size ≤ 65536 := by omega
    have hu' : u.size ≤ 65536 := by omega
    have hv' : v.size ≤ 65536 := by omega
    rw [hd]
    rw [hd] at FF
    clear hfar hd hs ht hu hv
    replace hG : Hid (GridAt w) := hG
    have FP : Hid (∀ (W' : World) (c : Int), -9223372036854775808 ≤ c → c < 9223372036854775808 → Calls Tryz.prog 17 #[.int .i64 c, .int .i64 1099511627776] W' fun r w' => (∃ k : Nat, k < 1099511627776 ∧ r = .returned (.int .i64 (k : Int))) ∧ w' = W') := fun W' c h1 h2 => pick_any c 1099511627776 W' h1 h2 (by omega) (by omega)
    go_enter Tryz.func9, Tryz.ntmps9
    go_wp2_with fail
    refine (FF.out _).mono ?_
    rintro r w1 ⟨rfl, hw⟩
    subst w1
    go_wp2_with fail
    refine (FP.out _ a ha1 ha2).mono ?_
    rintro r w1 ⟨⟨n, hn, rfl⟩, hw⟩
    subst w1
    go_wp2_with fail
    refine (FP.out _ b hb1 hb2).mono ?_
    rintro r w1 ⟨⟨m, hm, rfl⟩, hw⟩
    subst w1
    go_wp2_with fail
    have hk0 : Kept w (w.alloc (Obj.cells #[.int .i64 0, .int .i64 0, .int .i64 0, .int .i64 0, .slice none 0 0, .slice none 0 0, .slice none 0 0, .int .i64 0, .slice none 0 0, .slice none 0 0, .int .i64 0, .slice none 0 0, .int .i64 0, .int .i64 0, .string ⟨#[]⟩] 37)) := Below.alloc (Below.refl _ _) (Nat.le_refl _) _
    have hs0 : w.heap.size < (w.alloc (Obj.cells #[.int .i64 0, .int .i64 0, .int .i64 0, .int .i64 0, .slice none 0 0, .slice none 0 0, .slice none 0 0, .int .i64 0, .slice none 0 0, .slice none 0 0, .int .i64 0, .slice none 0 0, .int .i64 0, .int .i64 0, .string ⟨#[]⟩] 37)).heap.size := by simp
    have hf0 : ∀ k, (w.alloc (Obj.cells #[.int .i64 0, .int .i64 0, .int .i64 0, .int .i64 0, .slice none 0 0, .slice none 0 0, .slice none 0 0, .int .i64 0, .slice none 0 0, .slice none 0 0, .int .i64 0, .slice none 0 0, .int .i64 0, .int .i64 0, .string ⟨#[]⟩] 37)).frozen? ⟨w.heap.size, k, none⟩ = false := fun k => World.frozen?_alloc_at _ _ _ _ rfl
    have hc0 : ∀ j, j < 15 → ((w.alloc (Obj.cells #[.int .i64 0, .int .i64 0, .int .i64 0, .int .i64 0, .slice none 0 0, .slice none 0 0, .slice none 0 0, .int .i64 0, .slice none 0 0, .slice none 0 0, .int .i64 0, .slice none 0 0, .int .i64 0, .int .i64 0, .string ⟨#[]⟩] 37)).cell? ⟨w.heap.size, j, none⟩).isSome = true := fun j hj => by
      rw [World.cell?_alloc_at _ _ _ _ rfl]
      match j, hj with
      | 0, _ => rfl
      | 1, _ => rfl
      | 2, _ => rfl
      | 3, _ => rfl
      | 4, _ => rfl
      | 5, _ => rfl
      | 6, _ => rfl
      | 7, _ => rfl
      | 8, _ => rfl
      | 9, _ => rfl
      | 10, _ => rfl
      | 11, _ => rfl
      | 12, _ => rfl
      | 13, _ => rfl
      | 14, _ => rfl
    generalize (w.alloc (Obj.cells #[.int .i64 0, .int .i64 0, .int .i64 0, .int .i64 0, .slice none 0 0, .slice none 0 0, .slice none 0 0, .int .i64 0, .slice none 0 0, .slice none 0 0, .int .i64 0, .slice none 0 0, .int .i64 0, .int .i64 0, .string ⟨#[]⟩] 37)) = w0 at *
    have e1 : (n : Int) % 256 = ((n % 256 : Nat) : Int) := by omega
    have e2 : (n : Int) / 256 % 15 = ((n / 256 % 15 : Nat) : Int) := by omega
    have e3 : (n : Int) / 3840 = ((n / 3840 : Nat) : Int) := by omega
    rw [e1, e2, e3]
    clear e1 e2 e3
    refine (deskImage_any w.heap.size (n % 256) (n / 256 % 15) (n / 3840) s t w0 hs0 hf0 hc0 (by omega) (by omega) (by omega) hs' ht').mono ?_
    rintro r W1 ⟨rfl, wd, H, K, D, L, pp, qp, xp, pc, qc, xc, pal, clr, pix, hI⟩
    have HI : Hid (ImR w0 W1 w.heap.size wd H K D L pp qp xp pc qc xc pal clr pix) := hI
    have HF : Hid (∀ k, W1.frozen? ⟨w.heap.size, k, none⟩ = false) := hI.fz
    have HC : Hid (∀ j, j < 15 → (W1.cell? ⟨w.heap.size, j, none⟩).isSome = true) := fun j hj => by
      rcases (by omega : j = 0 ∨ j = 1 ∨ j = 2 ∨ j = 3 ∨ j = 4 ∨ j = 5 ∨ j = 6 ∨ j = 7 ∨ 7 < j) with rfl | rfl | rfl | rfl | rfl | rfl | rfl | rfl | q
      · rw [hI.c0]; rfl
      · rw [hI.c1]; rfl
      · rw [hI.c2]; rfl
      · rw [hI.c3]; rfl
      · rw [hI.c4]; rfl
      · rw [hI.c5]; rfl
      · rw [hI.c6]; rfl
      · rw [hI.c7]; rfl
      · rw [hI.rest j q]; exact hc0 j hj
    have hs1 : w.heap.size < W1.heap.size := Nat.lt_of_lt_of_le hs0 hI.fr.size
    clear hI hc0 hf0
    replace hk0 : Hid _ := hk0
    go_wp2_with fail
    have e1 : (m : Int) % 4000 = ((m % 4000 : Nat) : Int) := by omega
    have e2 : (m : Int) / 4000 % 8 = ((m / 4000 % 8 : Nat) : Int) := by omega
    have e3 : (m : Int) / 32000 = ((m / 32000 : Nat) : Int) := by omega
    rw [e1, e2, e3]
    clear e1 e2 e3
    refine (deskChoice_any w.heap.size (m % 4000) (m / 4000 % 8) (m / 32000) u v W1 hs1 HF.out HC.out (by omega) (by omega) (by omega) hu' hv').mono ?_
    rintro r W2 ⟨rfl, P, V, Z, fp, kp, cp, fc, kc, cc, fl, kl, cl, hR⟩
    have hG2 : GridAt W2 := by
      have g0 : GridAt w0 := hG.out.kept hk0.out
      have hw0 : 0 < w.heap.size := World.block_lt_of_cell? w ⟨0, 0, none⟩ (hG.out 0 (by omega))
      exact (g0.fr HI.out.fr (by omega)).fr hR.fr (by omega)
    have hw0 : w.heap.size ≠ 0 := by
      have : 0 < w.heap.size := World.block_lt_of_cell? w ⟨0, 0, none⟩ (hG.out 0 (by omega))
      omega
    have HD : Hid (Dk W2 w.heap.size wd H K D L P V Z pp qp xp fp kp cp pc qc xc fc kc cc pal clr pix fl kl cl) := Dk.make hs0 HI.out hR (Option.isSome_iff_exists.1 (HC.out 14 (by omega))) hG2
    have HK : Hid (Kept w W2) := Fr.to_kept (Fr.to_kept hk0.out HI.out.fr (fun i hi => by omega)) hR.fr (fun i hi => by omega)
    clear hR hG2 HC HF HI hG hk0
    go_wp2_with fail
    refine (deskWrite_x w.heap.size wd H K D L P V Z pp qp xp fp kp cp pc qc xc fc kc cc pal clr pix fl kl cl W2 HD.out hw0).mono ?_
    rintro r W3 ⟨rfl, hd3, ⟨ff, hff1, hff2⟩, hf3⟩
    replace hff1 : Hid _ := hff1
    replace hff2 : Hid _ := hff2
    have HD3 : Hid (Dk W3 w.heap.size wd H K D L P V Z pp qp xp fp kp cp pc qc xc fc kc cc pal clr pix fl kl cl) := hd3
    have HK3 : Hid (Kept w W3) := Fr.to_kept HK.out hf3 (fun i hi => by omega)
    clear hd3 hf3 HD HK
    go_wp2
    go_ret
    exact ⟨Or.inr ⟨by first | trivial | rfl, w.heap.size, wd, H, K, D, L, P, V, Z, pp, qp, xp, fp, kp, cp, pc, qc, xc, fc, kc, cc, pal, clr, pix, fl, kl, cl, ff, rfl, hw0, Nat.le_refl _, HD3.out, hff1.out, hff2.out⟩, HK3.out⟩
theorem npGo_smp : ∀ (k : Nat) (r : Rw), (npGo k r).smp = r.smp
  | 0, _ => rfl
  | k + 1, r => by
    unfold npGo
    split
    · split
      · rfl
      · exact npGo_smp k _
    · rfl
theorem next_smp (r : Rw) : r.next.smp = r.smp := npGo_smp 8 _
theorem start_smp (h : Hd) (k j : Nat) : (Rw.start h k).smp j < 65536 := by
  show (rw0 h k).next.smp j < 65536
  rw [next_smp]
  show 0 < 65536
  omega
theorem take_smp {r : Rw} (hg : RwGood r) (h : ∀ j, r.smp j < 65536) (x j : Nat) : (r.take x).1.smp j < 65536 := by
  unfold Rw.take
  split
  · exact h j
  · split
    · unfold Rw.takeF
      split
      · exact h j
      · exact h j
    · split
      · exact h j
      · have hi : RwIn (({ r with taken := r.taken + 1 } : Rw).lay (r.taken - 1) x) := (hg.in'.taken' (by have := hg.tk; omega)).lay _ _
        have hq : ∀ j, (({ r with taken := r.taken + 1 } : Rw).lay (r.taken - 1) x).smp j < 65536 := h
        generalize ({ r with taken := r.taken + 1 } : Rw).lay (r.taken - 1) x = q at *
        unfold Rw.endRow
        split
        · exact hq j
        · have hl : ∀ j, q.laid.smp j < 65536 := fun j => layPx_sm q hi.ok hq q.columns j
          show (if q.lines ≤ q.line + 1 then q.laid.next else q.laid).smp j < 65536
          split
          · rw [next_smp]; exact hl j
          · exact hl j
theorem giveP_smp {s : St} {r : Rw} {x : Nat} (hg : RwGood r) (h : ∀ j, r.smp j < 65536) (j : Nat) : (giveP s r x).2.1.smp j < 65536 := by
  have := take_smp hg h x j
  unfold giveP
  split
  · split
    · exact this
    · exact this
  · exact this
theorem numP_smp {s : St} {r : Rw} {v : Nat} (k : NumOk s r v) (h : ∀ j, r.smp j < 65536) (j : Nat) : (numP s r v).2.1.smp j < 65536 := by
  unfold numP
  split
  · exact h j
  · split
    · exact h j
    · split
      · exact h j
      · split
        · rename_i h3
          have := giveP_smp (s := s) (x := v) (k.good h3) h j
          unfold storedP
          split
          · exact this
          · exact this
        · exact h j
theorem symP_smp {s : St} {r : Rw} {t : Nat} (k : SymOk s r t) (h : ∀ j, r.smp j < 65536) (j : Nat) : (symP s r t).2.1.smp j < 65536 := by
  unfold symP
  split
  · exact h j
  · split
    · exact h j
    · exact giveP_smp k.good h j
theorem bitP_smp {s : St} {r : Rw} {t : Nat} (k : BitOk s r t) (h : ∀ j, r.smp j < 65536) (j : Nat) : (bitP s r t).2.1.smp j < 65536 := by
  unfold bitP
  split
  · rename_i h12
    exact symP_smp (k.sym h12) h j
  · rename_i h12
    split
    · exact h j
    · rename_i hw
      exact numP_smp (k.num h12 hw) h j
theorem bitsGo_smp (x : Nat) : ∀ (n i : Nat) (s : St) (r : Rw), BitsOk n i s r x → (∀ j, r.smp j < 65536) → ∀ j, (bitsGo n i s r x).2.1.smp j < 65536
  | 0, _, _, _, _, h, j => h j
  | n + 1, i, s, r, k, h, j => by
    unfold bitsGo
    split
    · exact h j
    · rename_i hs
      rcases k with q | ⟨k1, k2⟩
      · exact absurd q hs
      · have h1 := bitP_smp k1 h
        split
        · rename_i he
          exact bitsGo_smp x n (i + 1) _ _ (k2 he) h1 j
        · exact h1 j
/-- What holds of the reader all along. -/
def SmI (s : Rd) : Prop := (∀ j, s.rw.smp j < 65536) ∧ (s.hd.W = 0 ∨ 1 ≤ s.hd.H)
theorem SmI.begin {s : Rd} (h : SmI s) : SmI s.begin := by
  unfold Rd.begin
  split
  · exact h
  · exact ⟨fun j => start_smp _ _ j, h.2⟩
theorem SmI.note {s : Rd} (h : SmI s) : SmI s.note := by
  have h1 : SmI s.note1 := by
    unfold Rd.note1
    split
    · exact h
    · split
      · exact h
      · split
        · exact h.begin
        · exact h
  show SmI s.note1.note2
  unfold Rd.note2
  split
  · exact h1
  · exact h1
theorem headOf_ok (d : Nat → Nat) (h : (headOf d).1 = 0) : (headOf d).2.W = 0 ∨ 1 ≤ (headOf d).2.H := by
  rw [headOf_eq] at h ⊢
  split
  · exact Or.inl rfl
  · rename_i q
    split
    · exact Or.inl rfl
    · split
      · exact Or.inl rfl
      · right
        show 1 ≤ hN d
        have : hN d ≠ 0 := fun e => q (Or.inr (Or.inl e))
        omega
theorem SmI.accept {s : Rd} (h : SmI s) : SmI s.accept.1 := by
  unfold Rd.accept
  split
  · unfold Rd.acceptHead
    split
    · exact h
    · rename_i q
      exact ⟨h.1, headOf_ok s.raw (by omega)⟩
  · split
    · exact h
    · exact h
theorem SmI.keep {s : Rd} {x : Nat} (h : SmI s) (k : KeepOk s x) : SmI (s.keep x).1 := by
  unfold Rd.keep
  split
  · exact h
  · split
    · exact h
    · split
      · exact h
      · split
        · rename_i hi
          have hb := bitsGo_smp x 8 0 _ s.rw (k.bits hi) h.1
          have ht : SmI (s.streamed x) := ⟨hb, h.2⟩
          unfold Rd.takeStream
          split
          · exact ht
          · split
            · exact ht
            · exact ht
        · exact h
theorem SmI.take {s : Rd} {x : Nat} (h : SmI s) (k : TakeOk s x) : SmI (s.take x).1 := by
  unfold Rd.take
  split
  · unfold Rd.takeSign
    split
    · exact h
    · split
      · exact h
      · exact h
  · split
    · unfold Rd.takeLength
      split
      · exact h
      · split
        · exact h
        · exact h
    · split
      · unfold Rd.takeType
        have ht : SmI (s.typed x) := h
        split
        · exact h
        · split
          · exact ht
          · split
            · exact ht.note
            · exact ht.note
      · split
        · rename_i h3
          have hk := SmI.keep (s := s.summed x) (x := x) h (k.keep h3)
          unfold Rd.takeData
          split
          · exact hk
          · show SmI ((s.summed x).keep x).1.dataEnd
            unfold Rd.dataEnd
            split
            · exact hk
            · exact hk
        · split
          · unfold Rd.takeSum
            have ha : SmI (s.num x).accept.1 := SmI.accept (s := s.num x) h
            split
            · exact h
            · split
              · exact h
              · split
                · exact ha
                · split
                  · exact ha
                  · exact ha
          · exact h
theorem Rn.smI : ∀ {l : List Nat} {s b : Rd}, Rn s l b → SmI s → SmI b
  | [], s, b, h, k => by cases h; exact k
  | x :: l, s, b, h, k => Rn.smI h.2.2 (k.take h.1)
theorem smI0 : SmI rd0 := ⟨fun _ => by show 0 < 65536; omega, Or.inl rfl⟩
theorem Rn.at : ∀ {l : List Nat} {s b : Rd}, Rn s l b → ∀ (k x : Nat), l[k]? = some x → ∃ a, Rn s (l.take k) a ∧ TakeOk a x ∧ (a.take x).2 = 0 ∧ Rn (a.take x).1 (l.drop (k + 1)) b
  | [], s, b, h, k, x, e => by simp at e
  | y :: l, s, b, h, 0, x, e => by
    simp at e; subst e
    exact ⟨s, rfl, h.1, h.2.1, h.2.2⟩
  | y :: l, s, b, h, k + 1, x, e => by
    obtain ⟨a, h1, h2⟩ := Rn.at h.2.2 k x (by simpa using e)
    exact ⟨a, ⟨h.1, h.2.1, h1⟩, h2⟩
theorem part5 {s : Rd} {x : Nat} (h : (s.take x).2 = 0) : s.part ≠ 5 := by
  intro e
  unfold Rd.take at h
  rw [if_neg (by omega), if_neg (by omega), if_neg (by omega), if_neg (by omega), if_neg (by omega)] at h
  exact absurd (show (22 : Nat) = 0 from h) (by decide)
/-- The state ahead of a byte of a file that is taken. -/
theorem pre_state {l : List Nat} {b : Rd} (h : Rn rd0 l b) (k : Nat) (hk : k < l.length) : ∃ a, Rn rd0 (l.take k) a ∧ a.part ≠ 5 ∧ TakeOk a l[k] ∧ SmI a := by
  obtain ⟨a, h1, h2, h3, _⟩ := h.at k l[k] (List.getElem?_eq_getElem hk)
  exact ⟨a, h1, part5 h3, h2, h1.smI smI0⟩
/-- Close ahead of the end. -/
theorem close_cut (b n : Nat) (c : Nat → Value) (d : Dc) (w : World) (hB : Blk w b n c) (hV : DcV c 0 d) (hn : 5957 ≤ n) (he : d.err = 0) (hp : d.file.part ≠ 5) :
    Calls Tryz.prog 23 #[.pointer (some ⟨b, 0, none⟩)] w fun e w' => e = .returned (.tuple #[.int .i64 23, .int .i64 (d.count : Int)]) ∧ DcStep b n { d with err := 23, at1 := d.count } w w' := by
  have k1 := hB.at (i := 5955) (by omega) hV.err
  rw [he] at k1
  have FE : Hid (Calls Tryz.prog 41 #[.pointer (some ⟨b, 0, none⟩)] w fun e w' => e = .returned (.bool false) ∧ w' = w) := by
    have := rdEnded_x b 0 n c d.file w hB hV.file (by omega)
    rw [decide_eq_false hp] at this
    exact this
  have FF : Hid (Calls Tryz.prog 40 #[.pointer (some ⟨b, 0, none⟩), .int .i64 23] w fun e w' => e = .returned (.tuple #[]) ∧ DcStep b n { d with err := 23, at1 := d.count } w w') := fail_x b n 23 c d w hB hV hn
  clear hB hV
  go_enter Tryz.func23, Tryz.ntmps23
  go_wp2_with fail
  refine FE.out.mono ?_
  rintro e w1 ⟨rfl, hw⟩
  subst w1
  go_wp2_with fail
  refine FF.out.mono ?_
  rintro e w2 ⟨rfl, c2, hB2, hV2, hF2⟩
  have j1 := hB2.at (i := 5955) (by omega) hV2.err
  have j2 := hB2.at (i := 5956) (by omega) hV2.at1
  replace j1 : w2.cell? ⟨b, 5955, none⟩ = some (.int .i64 23) := j1
  replace j2 : w2.cell? ⟨b, 5956, none⟩ = some (.int .i64 (d.count : Int)) := j2
  have HB2 : Hid (Blk w2 b n c2) := hB2
  have HV2 : Hid (DcV c2 0 { d with err := 23, at1 := d.count }) := hV2
  have HF2 : Hid (Fr1 b w w2) := hF2
  clear hB2 hV2 hF2 k1
  go_wp2_with fail
  go_quiet (fail)
  go_wp2
  go_ret2
  exact ⟨rfl, c2, HB2.out.kept ((Kept.refl _).drewN _), HV2.out, HF2.out.kept ((Kept.refl _).drewN _)⟩
end Go.Proofs.YtmbmecfodigciaaGreatDoor
