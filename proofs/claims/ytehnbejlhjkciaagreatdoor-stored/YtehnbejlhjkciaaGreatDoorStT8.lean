import Derived.Test.YtehnbejlhjkciaaGreatDoorStT7
namespace Go.Proofs.YtehnbejlhjkciaaGreatDoor
open Go.RowKit
set_option linter.unusedSimpArgs false
set_option linter.unusedVariables false
theorem Dk.make {w W1 W2 : World} {x wd H K D L P V Z : Nat} {pp qp xp fp kp cp : Option Addr} {pc qc xc fc kc cc : Nat} {pal clr pix fl kl cl : List Int} (hx : x < w.heap.size) (hi : ImR w W1 x wd H K D L pp qp xp pc qc xc pal clr pix) (hc : ChR W1 W2 x P V Z fp kp cp fc kc cc fl kl cl) (h14 : ∃ u, W1.cell? ⟨x, 14, none⟩ = some u) (hG : GridAt W2) : Dk W2 x wd H K D L P V Z pp qp xp fp kp cp pc qc xc fc kc cc pal clr pix fl kl cl := by
  have h1 : w.heap.size ≤ W1.heap.size := hi.fr.size
  have h2 : W1.heap.size ≤ W2.heap.size := hc.fr.size
  have b1 : ∀ {v : Value}, (∀ g, sliceBlock v = some g → w.heap.size ≤ g ∧ g < W1.heap.size) → ∀ g, sliceBlock v = some g → g ≠ x ∧ g < W2.heap.size := fun q g hg => by have := q g hg; omega
  have b2 : ∀ {v : Value}, (∀ g, sliceBlock v = some g → W1.heap.size ≤ g ∧ g < W2.heap.size) → ∀ g, sliceBlock v = some g → g ≠ x ∧ g < W2.heap.size := fun q g hg => by have := q g hg; omega
  obtain ⟨u, hu⟩ := h14
  exact ⟨by omega, hi.ok, hc.ok L hi.l, hc.z, hc.fz, (hc.rest 0 (by omega)).trans hi.c0, (hc.rest 1 (by omega)).trans hi.c1, (hc.rest 2 (by omega)).trans hi.c2, (hc.rest 3 (by omega)).trans hi.c3, (hc.rest 4 (by omega)).trans hi.c4, (hc.rest 5 (by omega)).trans hi.c5, (hc.rest 6 (by omega)).trans hi.c6, (hc.rest 7 (by omega)).trans hi.c7, hc.c8, hc.c9, hc.c10, hc.c11, hc.c12, hc.c13, ⟨u, (hc.rest 14 (by omega)).trans hu⟩, hi.lp.fr hc.fr (fun g hg => (b1 hi.bp g hg).1), hi.lq.fr hc.fr (fun g hg => (b1 hi.bq g hg).1), hi.lx.fr hc.fr (fun g hg => (b1 hi.bx g hg).1), hc.lf, hc.lk, hc.lc, b1 hi.bp, b1 hi.bq, b1 hi.bx, b2 hc.bf, b2 hc.bk, b2 hc.bc, hG, hi.kp, hi.kx⟩
/-- The desk is there. -/
def Desked (w W : World) (r : Ending) : Prop := ∃ x wd H K D L P V Z : Nat, ∃ pp qp xp fp kp cp : Option Addr, ∃ pc qc xc fc kc cc : Nat, ∃ pal clr pix fl kl cl : List Int, r = .returned (.pointer (some ⟨x, 0, none⟩)) ∧ 4 < x ∧ w.heap.size ≤ x ∧ Dk W x wd H K D L P V Z pp qp xp fp kp cp pc qc xc fc kc cc pal clr pix fl kl cl
set_option maxRecDepth 100000 in
set_option maxHeartbeats 3200000 in
theorem desked_any (a b : Int) (s t u v : ByteArray) (w : World) (ha1 : -9223372036854775808 ≤ a) (ha2 : a < 9223372036854775808) (hb1 : -9223372036854775808 ≤ b) (hb2 : b < 9223372036854775808) (hs : s.size < 9223372036854775808) (ht : t.size < 9223372036854775808) (hu : u.size < 9223372036854775808) (hv : v.size < 9223372036854775808) (hG : GridAt w) :
    Calls Tryz.prog 4 #[.int .i64 a, .string s, .string t, .int .i64 b, .string u, .string v] w fun r w' => (decide (65536 < s.size ∨ 65536 < t.size ∨ 65536 < u.size ∨ 65536 < v.size) = true ∧ r = .returned (.pointer none) ∨ decide (65536 < s.size ∨ 65536 < t.size ∨ 65536 < u.size ∨ 65536 < v.size) = false ∧ Desked w w' r) ∧ Kept w w' := by
  have FF : Hid (∀ W' : World, Calls Tryz.prog 5 #[.string s, .string t, .string u, .string v] W' fun r w' => r = .returned (.bool (decide (65536 < s.size ∨ 65536 < t.size ∨ 65536 < u.size ∨ 65536 < v.size))) ∧ w' = W') := fun W' => far_any s t u v W' hs ht hu hv
  by_cases hfar : 65536 < s.size ∨ 65536 < t.size ∨ 65536 < u.size ∨ 65536 < v.size
  · have hd : decide (65536 < s.size ∨ 65536 < t.size ∨ 65536 < u.size ∨ 65536 < v.size) = true := decide_eq_true hfar
    rw [hd]
    rw [hd] at FF
    clear hfar hd
    replace hG : Hid _ := hG
    go_enter Tryz.func4, Tryz.ntmps4
    go_wp2_with fail
    refine (FF.out _).mono ?_
    rintro r w1 ⟨rfl, hw⟩
    subst w1
    go_wp2
    go_ret
    exact ⟨Or.inl ⟨by first | trivial | rfl, rfl⟩, Kept.refl _⟩
  · have hd : decide (65536 < s.size ∨ 65536 < t.size ∨ 65536 < u.size ∨ 65536 < v.size) = false := decide_eq_false hfar
    have hs' : s.size ≤ 65536 := by omega
    have ht' : t.size ≤ 65536 := by omega
    have hu' : u.size ≤ 65536 := by omega
    have hv' : v.size ≤ 65536 := by omega
    rw [hd]
    rw [hd] at FF
    clear hfar hd hs ht hu hv
    replace hG : Hid (GridAt w) := hG
    have FP : Hid (∀ (W' : World) (c : Int), -9223372036854775808 ≤ c → c < 9223372036854775808 → Calls Tryz.prog 7 #[.int .i64 c, .int .i64 1099511627776] W' fun r w' => (∃ k : Nat, k < 1099511627776 ∧ r = .returned (.int .i64 (k : Int))) ∧ w' = W') := fun W' c h1 h2 => pick_any c 1099511627776 W' h1 h2 (by omega) (by omega)
    go_enter Tryz.func4, Tryz.ntmps4
    go_wp2_with fail
    refine (FF.out _).mono ?_
    rintro r w1 ⟨rfl, hw⟩
    subst w1
    go_wp2_with fail
    refine (FP.out _ a ha1 ha2).mono ?_
    rintro r w1 ⟨⟨n, hn, rfl⟩, hw⟩
    subst w1
    go_wp2_with fail
    refine (FP.out _ b hb1 hb2).mono ?_
    rintro r w1 ⟨⟨m, hm, rfl⟩, hw⟩
    subst w1
    go_wp2_with fail
    have hk0 : Kept w (w.alloc (Obj.cells #[.int .i64 0, .int .i64 0, .int .i64 0, .int .i64 0, .slice none 0 0, .slice none 0 0, .slice none 0 0, .int .i64 0, .slice none 0 0, .slice none 0 0, .int .i64 0, .slice none 0 0, .int .i64 0, .int .i64 0, .string ⟨#[]⟩] 33)) := Below.alloc (Below.refl _ _) (Nat.le_refl _) _
    have hs0 : w.heap.size < (w.alloc (Obj.cells #[.int .i64 0, .int .i64 0, .int .i64 0, .int .i64 0, .slice none 0 0, .slice none 0 0, .slice none 0 0, .int .i64 0, .slice none 0 0, .slice none 0 0, .int .i64 0, .slice none 0 0, .int .i64 0, .int .i64 0, .string ⟨#[]⟩] 33)).heap.size := by simp
    have hf0 : ∀ k, (w.alloc (Obj.cells #[.int .i64 0, .int .i64 0, .int .i64 0, .int .i64 0, .slice none 0 0, .slice none 0 0, .slice none 0 0, .int .i64 0, .slice none 0 0, .slice none 0 0, .int .i64 0, .slice none 0 0, .int .i64 0, .int .i64 0, .string ⟨#[]⟩] 33)).frozen? ⟨w.heap.size, k, none⟩ = false := fun k => World.frozen?_alloc_at _ _ _ _ rfl
    have hc0 : ∀ j, j < 15 → ((w.alloc (Obj.cells #[.int .i64 0, .int .i64 0, .int .i64 0, .int .i64 0, .slice none 0 0, .slice none 0 0, .slice none 0 0, .int .i64 0, .slice none 0 0, .slice none 0 0, .int .i64 0, .slice none 0 0, .int .i64 0, .int .i64 0, .string ⟨#[]⟩] 33)).cell? ⟨w.heap.size, j, none⟩).isSome = true := fun j hj => by
      rw [World.cell?_alloc_at _ _ _ _ rfl]
      match j, hj with
      | 0, _ => rfl
      | 1, _ => rfl
      | 2, _ => rfl
      | 3, _ => rfl
      | 4, _ => rfl
      | 5, _ => rfl
      | 6, _ => rfl
      | 7, _ => rfl
      | 8, _ => rfl
      | 9, _ => rfl
      | 10, _ => rfl
      | 11, _ => rfl
      | 12, _ => rfl
      | 13, _ => rfl
      | 14, _ => rfl
    generalize (w.alloc (Obj.cells #[.int .i64 0, .int .i64 0, .int .i64 0, .int .i64 0, .slice none 0 0, .slice none 0 0, .slice none 0 0, .int .i64 0, .slice none 0 0, .slice none 0 0, .int .i64 0, .slice none 0 0, .int .i64 0, .int .i64 0, .string ⟨#[]⟩] 33)) = w0 at *
    have e1 : (n : Int) % 256 = ((n % 256 : Nat) : Int) := by omega
    have e2 : (n : Int) / 256 % 15 = ((n / 256 % 15 : Nat) : Int) := by omega
    have e3 : (n : Int) / 3840 = ((n / 3840 : Nat) : Int) := by omega
    rw [e1, e2, e3]
    clear e1 e2 e3
    refine (deskImage_any w.heap.size (n % 256) (n / 256 % 15) (n / 3840) s t w0 hs0 hf0 hc0 (by omega) (by omega) (by omega) hs' ht').mono ?_
    rintro r W1 ⟨rfl, wd, H, K, D, L, pp, qp, xp, pc, qc, xc, pal, clr, pix, hI⟩
    have HI : Hid (ImR w0 W1 w.heap.size wd H K D L pp qp xp pc qc xc pal clr pix) := hI
    have HF : Hid (∀ k, W1.frozen? ⟨w.heap.size, k, none⟩ = false) := hI.fz
    have HC : Hid (∀ j, j < 15 → (W1.cell? ⟨w.heap.size, j, none⟩).isSome = true) := fun j hj => by
      rcases (by omega : j = 0 ∨ j = 1 ∨ j = 2 ∨ j = 3 ∨ j = 4 ∨ j = 5 ∨ j = 6 ∨ j = 7 ∨ 7 < j) with rfl | rfl | rfl | rfl | rfl | rfl | rfl | rfl | q
      · rw [hI.c0]; rfl
      · rw [hI.c1]; rfl
      · rw [hI.c2]; rfl
      · rw [hI.c3]; rfl
      · rw [hI.c4]; rfl
      · rw [hI.c5]; rfl
      · rw [hI.c6]; rfl
      · rw [hI.c7]; rfl
      · rw [hI.rest j q]; exact hc0 j hj
    have hs1 : w.heap.size < W1.heap.size := Nat.lt_of_lt_of_le hs0 hI.fr.size
    clear hI hc0 hf0
    replace hk0 : Hid _ := hk0
    go_wp2_with fail
    have e1 : (m : Int) % 4000 = ((m % 4000 : Nat) : Int) := by omega
    have e2 : (m : Int) / 4000 % 8 = ((m / 4000 % 8 : Nat) : Int) := by omega
    have e3 : (m : Int) / 32000 = ((m / 32000 : Nat) : Int) := by omega
    rw [e1, e2, e3]
    clear e1 e2 e3
    refine (deskChoice_any w.heap.size (m % 4000) (m / 4000 % 8) (m / 32000) u v W1 hs1 HF.out HC.out (by omega) (by omega) (by omega) hu' hv').mono ?_
    rintro r W2 ⟨rfl, P, V, Z, fp, kp, cp, fc, kc, cc, fl, kl, cl, hR⟩
    have hG2 : GridAt W2 := by
      have g0 : GridAt w0 := hG.out.kept hk0.out
      have hw0 : 4 < w.heap.size := hG.out.lt
      exact (g0.fr HI.out.fr (fun i hi => by omega)).fr hR.fr (fun i hi => by omega)
    have hw0 : 4 < w.heap.size := hG.out.lt
    have HD : Hid (Dk W2 w.heap.size wd H K D L P V Z pp qp xp fp kp cp pc qc xc fc kc cc pal clr pix fl kl cl) := Dk.make hs0 HI.out hR (Option.isSome_iff_exists.1 (HC.out 14 (by omega))) hG2
    have HK : Hid (Kept w W2) := Fr.to_kept (Fr.to_kept hk0.out HI.out.fr (fun i hi => by omega)) hR.fr (fun i hi => by omega)
    clear hR hG2 HC HF HI hG hk0
    go_wp2_with fail
    refine (deskWrite_any w.heap.size wd H K D L P V Z pp qp xp fp kp cp pc qc xc fc kc cc pal clr pix fl kl cl W2 HD.out hw0).mono ?_
    rintro r W3 ⟨rfl, hd3, hf3⟩
    have HD3 : Hid (Dk W3 w.heap.size wd H K D L P V Z pp qp xp fp kp cp pc qc xc fc kc cc pal clr pix fl kl cl) := hd3
    have HK3 : Hid (Kept w W3) := Fr.to_kept HK.out hf3 (fun i hi => by omega)
    clear hd3 hf3 HD HK
    go_wp2
    go_ret
    exact ⟨Or.inr ⟨by first | trivial | rfl, w.heap.size, wd, H, K, D, L, P, V, Z, pp, qp, xp, fp, kp, cp, pc, qc, xc, fc, kc, cc, pal, clr, pix, fl, kl, cl, rfl, hw0, Nat.le_refl _, HD3.out⟩, HK3.out⟩
end Go.Proofs.YtehnbejlhjkciaaGreatDoor
namespace Go.Proofs.YtehnbejlhjkciaaGreatDoor
open Go.RowKit
set_option linter.unusedSimpArgs false
set_option linter.unusedVariables false
set_option maxRecDepth 100000 in
set_option maxHeartbeats 3200000 in
theorem storedLaw_any (a b : Int) (s t u v : ByteArray) (w : World) (ha1 : -9223372036854775808 ≤ a) (ha2 : a < 9223372036854775808) (hb1 : -9223372036854775808 ≤ b) (hb2 : b < 9223372036854775808) (hs : s.size < 9223372036854775808) (ht : t.size < 9223372036854775808) (hu : u.size < 9223372036854775808) (hv : v.size < 9223372036854775808) (hG : GridAt w) :
    Calls Tryz.prog 3 #[.int .i64 a, .string s, .string t, .int .i64 b, .string u, .string v] w fun r w' => r = .returned (.bool true) ∧ Kept w w' := by
  have FF : Hid (∀ W' : World, Calls Tryz.prog 5 #[.string s, .string t, .string u, .string v] W' fun r w' => r = .returned (.bool (decide (65536 < s.size ∨ 65536 < t.size ∨ 65536 < u.size ∨ 65536 < v.size))) ∧ w' = W') := fun W' => far_any s t u v W' hs ht hu hv
  have FD : Hid (Calls Tryz.prog 4 #[.int .i64 a, .string s, .string t, .int .i64 b, .string u, .string v] w fun r w' => (decide (65536 < s.size ∨ 65536 < t.size ∨ 65536 < u.size ∨ 65536 < v.size) = true ∧ r = .returned (.pointer none) ∨ decide (65536 < s.size ∨ 65536 < t.size ∨ 65536 < u.size ∨ 65536 < v.size) = false ∧ Desked w w' r) ∧ Kept w w') := desked_any a b s t u v w ha1 ha2 hb1 hb2 hs ht hu hv hG
  generalize decide (65536 < s.size ∨ 65536 < t.size ∨ 65536 < u.size ∨ 65536 < v.size) = far at *
  clear hG
  go_enter Tryz.func3, Tryz.ntmps3
  go_wp2_with fail
  refine FD.out.mono ?_
  rintro r w1 ⟨h | ⟨_, x, wd, H, K, D, L, P, V, Z, pp, qp, xp, fp, kp, cp, pc, qc, xc, fc, kc, cc, pal, clr, pix, fl, kl, cl, rfl, hx0, hx1, hD⟩, hk1⟩
  · obtain ⟨rfl, rfl⟩ := h
    have HK : Hid (Kept w w1) := hk1
    clear hk1
    go_wp2_with fail
    refine (FF.out _).mono ?_
    rintro r w2 ⟨rfl, hw⟩
    subst w2
    go_wp2
    go_ret
    exact ⟨rfl, HK.out⟩
  · have HK : Hid (Kept w w1) := hk1
    have HD : Hid (Dk w1 x wd H K D L P V Z pp qp xp fp kp cp pc qc xc fc kc cc pal clr pix fl kl cl) := hD
    clear hk1 hD
    go_wp2_with fail
    refine (deskStored_any x wd H K D L P V Z pp qp xp fp kp cp pc qc xc fc kc cc pal clr pix fl kl cl w1 HD.out hx0).mono ?_
    rintro r w2 ⟨rfl, hk2⟩
    have HK2 : Hid (Kept w w2) := HK.out.trans hk2
    clear hk2
    go_wp2
    go_ret
    exact ⟨rfl, HK2.out⟩
end Go.Proofs.YtehnbejlhjkciaaGreatDoor
