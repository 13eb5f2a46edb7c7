import Derived.Test.YtdnpefabcholbaaGreatR25
import Derived.Test.YtdnpefabcholbaaGreatR20
namespace Go.Proofs.YtdnpefabcholbaaGreat
open Go.RowKit
set_option linter.unusedSimpArgs false
set_option linter.unusedVariables false

/-- A list of n noughts. -/
def ZL (w : World) (base n : Nat) (v : Value) : Prop := w.ownsRow base 3 1 v n (List.replicate n (.int .i64 0))

def hdR (f : Px.Fl) : Px.Hd := if f.on = true then f.hd else ⟨0, 0, 0, 0, 0⟩

set_option maxRecDepth 100000 in
set_option maxHeartbeats 3200000 in
theorem snapR_off (b : Nat) (t : ByteArray) (c : Bool) (w : World) (h : RefAt w b t c) (hon : (Px.walk (bsOf t)).1.on = false) :
    Calls Tryz.prog 15 #[.pointer (some ⟨b, 0, none⟩)] w fun r w' => r = .returned (snapV (refE t c) (refA t c) false ⟨0, 0, 0, 0, 0⟩ (.slice none 0 0) (.slice none 0 0) (.slice none 0 0)) ∧ Kept w w' := by
  have c4 := h.c4
  have c5 := h.c5
  have hbl := h.lt
  obtain ⟨fb, sb, mb, c2, c3, hst⟩ := h.st
  have f0 := hst.fl.c0
  have f14 := hst.fl.c14
  have hfl := hst.fl.lt
  rw [hon] at f0
  clear h hst hon
  go_enter Tryz.func15, Tryz.ntmps15
  go_wp2
  go_region
  go_wp2
  refine bodyPost_ret (v := snapV (refE t c) (refA t c) false ⟨0, 0, 0, 0, 0⟩ (.slice none 0 0) (.slice none 0 0) (.slice none 0 0)) (by simp [results, Tryz.results15, go_sem]) rfl ⟨rfl, ?_⟩
  go_grown

end Go.Proofs.YtdnpefabcholbaaGreat
namespace Go.Proofs.YtdnpefabcholbaaGreat
open Go.RowKit
set_option linter.unusedSimpArgs false
set_option linter.unusedVariables false

def pcv (E A : Nat) (G : Px.Hd) (j : Nat) : Value :=
  match j with
  | 0 => .int .i64 (E : Int)
  | 1 => .int .i64 (A : Int)
  | 2 => .bool false
  | 3 => .int .i64 (G.W : Int)
  | 4 => .int .i64 (G.H : Int)
  | 5 => .int .i64 (G.K : Int)
  | 6 => .int .i64 (G.D : Int)
  | _ => .int .i64 (G.L : Int)
theorem tri0 (w1 : World) (P E A : Nat) (G : Px.Hd) (hP : P = w1.heap.size) : Tri w1 ((w1.alloc (.cells #[.int .i64 (E : Int), .int .i64 (A : Int), .bool false, .int .i64 (G.W : Int), .int .i64 (G.H : Int), .int .i64 (G.K : Int), .int .i64 (G.D : Int), .int .i64 (G.L : Int), .slice none 0 0, .slice none 0 0, .slice none 0 0] 32)).drew) P (.slice none 0 0) (.slice none 0 0) (.slice none 0 0) 0 0 0 (pcv E A G) := by
  subst hP
  have cl : ∀ k, ((w1.alloc (.cells #[.int .i64 (E : Int), .int .i64 (A : Int), .bool false, .int .i64 (G.W : Int), .int .i64 (G.H : Int), .int .i64 (G.K : Int), .int .i64 (G.D : Int), .int .i64 (G.L : Int), .slice none 0 0, .slice none 0 0, .slice none 0 0] 32)).drew).cell? ⟨w1.heap.size, k, none⟩ = (#[.int .i64 (E : Int), .int .i64 (A : Int), .bool false, .int .i64 (G.W : Int), .int .i64 (G.H : Int), .int .i64 (G.K : Int), .int .i64 (G.D : Int), .int .i64 (G.L : Int), .slice none 0 0, .slice none 0 0, .slice none 0 0] : Array Value)[k]? := fun k => by
    show (w1.alloc _).cell? _ = _
    rw [World.cell?_alloc_at _ _ _ _ rfl]
  refine ⟨((Below.refl _ _).alloc (Nat.le_refl _) _).drew, Nat.le_refl _, by rw [cl]; rfl, by rw [cl]; rfl, by rw [cl]; rfl, fun k => World.frozen?_alloc_at _ _ _ _ rfl, World.ownsRow_nil _ _ _ _, World.ownsRow_nil _ _ _ _, World.ownsRow_nil _ _ _ _, (fun k h => by cases h), (fun k h => by cases h), (fun k h => by cases h), fun j hj => ?_⟩
  rw [cl]
  match j, hj with
  | 0, _ => rfl
  | 1, _ => rfl
  | 2, _ => rfl
  | 3, _ => rfl
  | 4, _ => rfl
  | 5, _ => rfl
  | 6, _ => rfl
  | 7, _ => rfl
theorem own_sets {W : World} {base P : Nat} {v : Value} {n : Nat} {xs : List Value} (h : W.ownsRow base 3 1 v n xs) (hb : P < base) (u0 u1 u2 u3 u4 u5 u6 u7 u8 u9 u10 : Value) :
    (((((((((((W.setCell ⟨P, 0, none⟩ u0).setCell ⟨P, 1, none⟩ u1).setCell ⟨P, 2, none⟩ u2).setCell ⟨P, 3, none⟩ u3).setCell ⟨P, 4, none⟩ u4).setCell ⟨P, 5, none⟩ u5).setCell ⟨P, 6, none⟩ u6).setCell ⟨P, 7, none⟩ u7).setCell ⟨P, 8, none⟩ u8).setCell ⟨P, 9, none⟩ u9).setCell ⟨P, 10, none⟩ u10).ownsRow base 3 1 v n xs :=
  own_set (own_set (own_set (own_set (own_set (own_set (own_set (own_set (own_set (own_set (own_set h hb) hb) hb) hb) hb) hb) hb) hb) hb) hb) hb
theorem zl_of {W : World} {B P : Nat} {v : Value} {n : Nat} {u0 u1 u2 u3 u4 u5 u6 u7 u8 u9 u10 : Value} (h : W.ownsRow (B + 1 + 1) 3 1 v n (List.replicate n (.int .i64 0))) (hb : P < B + 1 + 1) :
    ZL (((((((((((W.setCell ⟨P, 0, none⟩ u0).setCell ⟨P, 1, none⟩ u1).setCell ⟨P, 2, none⟩ u2).setCell ⟨P, 3, none⟩ u3).setCell ⟨P, 4, none⟩ u4).setCell ⟨P, 5, none⟩ u5).setCell ⟨P, 6, none⟩ u6).setCell ⟨P, 7, none⟩ u7).setCell ⟨P, 8, none⟩ u8).setCell ⟨P, 9, none⟩ u9).setCell ⟨P, 10, none⟩ u10) B n v :=
  own_base (own_sets h hb u0 u1 u2 u3 u4 u5 u6 u7 u8 u9 u10) (by omega)
theorem res_some (j : Nat) (hj : j < 11) : ∃ v, (#[.int .i64 0, .int .i64 0, .bool false, .int .i64 0, .int .i64 0, .int .i64 0, .int .i64 0, .int .i64 0, .slice none 0 0, .slice none 0 0, .slice none 0 0] : Array Value)[j]? = some v :=
  ⟨_, Array.getElem?_eq_getElem (by simpa using hj)⟩

theorem own_slice {w : World} {base : Nat} {e : TypeId} {size : Nat} {v : Value} {n : Nat} {xs : List Value} (h : w.ownsRow base e size v n xs) : ∃ p m c, v = .slice p m c := by
  rcases h.2 with ⟨h2, _⟩ | ⟨g, cap, cur, hv, _⟩
  · exact ⟨_, _, _, h2⟩
  · exact ⟨_, _, _, hv⟩

set_option maxRecDepth 100000 in
set_option maxHeartbeats 3200000 in
theorem snapR_on (b : Nat) (t : ByteArray) (c : Bool) (w : World) (h : RefAt w b t c) (hon : (Px.walk (bsOf t)).1.on = true) :
    Calls Tryz.prog 15 #[.pointer (some ⟨b, 0, none⟩)] w fun r w' => (∃ vk vp vs, r = .returned (snapV (refE t c) (refA t c) false (Px.walk (bsOf t)).1.hd vk vp vs)
      ∧ ZL w' w.heap.size ((Px.walk (bsOf t)).1.hd.W * (Px.walk (bsOf t)).1.hd.H) vk ∧ ZL w' w.heap.size (4 * ((Px.walk (bsOf t)).1.hd.W * (Px.walk (bsOf t)).1.hd.H)) vp ∧ ZL w' w.heap.size (4 * ((Px.walk (bsOf t)).1.hd.W * (Px.walk (bsOf t)).1.hd.H)) vs) ∧ Kept w w' := by
  have c4 := h.c4
  have c5 := h.c5
  have hbl := h.lt
  obtain ⟨fb, sb, mb, c2, c3, hst⟩ := h.st
  have f0 := hst.fl.c0
  have f1 := hst.fl.c1
  have f2 := hst.fl.c2
  have f3 := hst.fl.c3
  have f4 := hst.fl.c4
  have f5 := hst.fl.c5
  have f14 := hst.fl.c14
  have hfl := hst.fl.lt
  have hok := hst.ok
  obtain ⟨g, hgb, him⟩ := hst.im hon
  rw [hon] at f0
  have hW := hok.W
  have hH := hok.H
  have HI : Hid (∀ W, Kept w W → ImAt W mb g (Px.walk (bsOf t)).1.hd.L) := fun W hW => him.kept hW
  generalize hG : (Px.walk (bsOf t)).1.hd = G at *
  generalize refE t c = E at *
  generalize refA t c = A at *
  clear h hst hon him hG hok
  obtain ⟨w1, hw1⟩ : ∃ w1, w1 = w.alloc (.cells #[.int .i64 0, .int .i64 0, .bool false, .int .i64 0, .int .i64 0, .int .i64 0, .int .i64 0, .int .i64 0, .slice none 0 0, .slice none 0 0, .slice none 0 0] 32) := ⟨_, rfl⟩
  have HT0 : Hid (Tri w1 ((w1.alloc (.cells #[.int .i64 (E : Int), .int .i64 (A : Int), .bool false, .int .i64 (G.W : Int), .int .i64 (G.H : Int), .int .i64 (G.K : Int), .int .i64 (G.D : Int), .int .i64 (G.L : Int), .slice none 0 0, .slice none 0 0, .slice none 0 0] 32)).drew) (w.heap.size + 1) (.slice none 0 0) (.slice none 0 0) (.slice none 0 0) 0 0 0 (pcv E A G)) := tri0 w1 (w.heap.size + 1) E A G (by rw [hw1]; simp)
  have HK1 : Hid (Kept w w1) := by rw [hw1]; exact (Below.refl _ _).alloc (Nat.le_refl _) _
  have HR : Hid (∀ W, Kept w1 W → (∀ j, j < 11 → ∃ v, W.cell? ⟨w.heap.size, j, none⟩ = some v) ∧ (∀ j, W.frozen? ⟨w.heap.size, j, none⟩ = false)) := by
    intro W hW
    have hlt : w.heap.size < w1.heap.size := by rw [hw1]; simp
    refine ⟨fun j hj => ?_, fun j => ?_⟩
    · rw [hW.cell (p := ⟨w.heap.size, j, none⟩) hlt, hw1, World.cell?_alloc_at _ _ _ _ rfl]
      exact res_some j hj
    · rw [hW.frozen (p := ⟨w.heap.size, j, none⟩) hlt, hw1]
      exact World.frozen?_alloc_at _ _ _ _ rfl
  have HC : Hid (∀ W, Kept w1 W → W.cell? ⟨b, 3, none⟩ = some (.pointer (some ⟨mb, 0, none⟩)) ∧ ImAt W mb g G.L) := fun W hW =>
    ⟨((HK1.out.trans hW).cell (p := ⟨b, 3, none⟩) hbl).trans c3, HI.out W (HK1.out.trans hW)⟩
  go_enter Tryz.func15, Tryz.ntmps15
  go_wp2
  go_region
  go_wp2
  rw [← hw1]
  have HW1 : Hid (w1 = _) := hw1
  clear hw1 c2 c4 c5 f0 f1 f2 f3 f4 f5 f14 c3
  go_loopw [4] (fun j W => ∃ (y : Nat) (va vb vc : Value), y ≤ G.H ∧ j = .int .i64 (y : Int) ∧ Tri w1 W (w.heap.size + 1) va vb vc (y * G.W) (4 * (y * G.W)) (4 * (y * G.W)) (pcv E A G)) (fun j _ => G.H - (intOf j).toNat)
  case atStart => exact ⟨0, _, _, _, by omega, rfl, by simpa using HT0.out⟩
  case round =>
    obtain ⟨y, va, vb, vc, hy, rfl, T⟩ := hrel
    have k4 : wr.cell? ⟨w.heap.size + 1, 4, none⟩ = some (.int .i64 (G.H : Int)) := T.rest 4 (by omega)
    by_cases hlt : y < G.H
    · go_wp2
      go_loopw [5] (fun j W => ∃ (x : Nat) (va vb vc : Value), x ≤ G.W ∧ j = .int .i64 (x : Int) ∧ Tri w1 W (w.heap.size + 1) va vb vc (y * G.W + x) (4 * (y * G.W + x)) (4 * (y * G.W + x)) (pcv E A G)) (fun j _ => G.W - (intOf j).toNat)
      case atStart => exact ⟨0, va, vb, vc, by omega, rfl, T⟩
      case round =>
        clear T
        obtain ⟨x, ua, ub, uc, hx, rfl, T⟩ := hrel
        have k3 : wr.cell? ⟨w.heap.size + 1, 3, none⟩ = some (.int .i64 (G.W : Int)) := T.rest 3 (by omega)
        by_cases hlx : x < G.W
        · have hc := HC.out _ T.kept
          have b3 := hc.1
          have hT := T.lt
          have hn : y * G.W + x < 256 := by
            have h1 : (y + 1) * G.W ≤ 16 * 16 := Nat.mul_le_mul (by omega) hW
            rw [Nat.add_mul, Nat.one_mul] at h1
            omega
          have him := hc.2
          clear hc
          go_wp2_with fail
          refine (known_any mb g G.L x y _ him (by omega) (by omega)).mono ?_
          rintro r w2 ⟨rfl, hk2⟩
          have T2 := T.keep hk2
          have k8 := T2.c8
          have kf := T2.fz
          clear b3 k3 k4 him
          have hw2 : w.heap.size + 1 < w2.heap.size := T2.lt
          have T3 : Tri w1 (w2.alloc (.cells #[.int .i64 0] 3)) (w.heap.size + 1) ua ub uc (y * G.W + x) (4 * (y * G.W + x)) (4 * (y * G.W + x)) (pcv E A G) := T2.keep ((Below.refl _ _).alloc (Nat.le_refl _) _)
          have T3' : Hid (Tri w1 (w2.alloc (.cells #[.int .i64 0] 3)) (w.heap.size + 1) ua ub uc (y * G.W + x) (4 * (y * G.W + x)) (4 * (y * G.W + x)) (pcv E A G)) := T3
          clear T2 T3
          go_wp2_with (at_builtin; (refine append_strong _ rfl (.tmp 111) (.tmp 112) rfl (w.heap.size + 1 + 1) _ _ _ rfl T3'.out.oa ⟨_, 0, none⟩ 1 1 [.int .i64 0] rfl rfl (by omega) ?c1 ?c2 ?c3 ?c4 ?_))
          case c1 =>
            intro j u hj
            match j, hj with
            | 0, hj => cases hj; show (w2.alloc _).cell? ⟨_, 0 + 0 * 1, none⟩ = _; rw [World.cell?_alloc_at _ _ _ _ rfl]; rfl
          case c2 => intro u hu; simp at hu; subst hu; rfl
          case c3 => omega
          case c4 => simp; omega
          intro v1 w3 o1 g1 n1
          obtain ⟨p1, m1, q1, rfl⟩ := own_slice o1
          have T4 : Tri w1 (w3.setCell ⟨w.heap.size + 1, 8, none⟩ (.slice p1 m1 q1)) (w.heap.size + 1) (.slice p1 m1 q1) ub uc (y * G.W + x + 1) (4 * (y * G.W + x)) (4 * (y * G.W + x)) (pcv E A G) := T3'.out.appA o1 g1 (fun k hk => (n1 k hk).imp_right (fun h => by simp; omega))
          have hP3 : w3.cell? ⟨w.heap.size + 1, 8, none⟩ = some ua := by
            have e := g1.block (w.heap.size + 1) T3'.out.lt (fun e => by have := (T3'.out.oa.lt _ e.symm).1; omega)
            exact (World.cell?_of_block e).trans T3'.out.c8
          have hF3 : w3.frozen? ⟨w.heap.size + 1, 8, none⟩ = false := by
            have e := g1.block (w.heap.size + 1) T3'.out.lt (fun e => by have := (T3'.out.oa.lt _ e.symm).1; omega)
            exact (World.frozen?_of_block e).trans (T3'.out.fz 8)
          have hP9 : w3.cell? ⟨w.heap.size + 1, 9, none⟩ = some ub := by
            have e := g1.block (w.heap.size + 1) T3'.out.lt (fun e => by have := (T3'.out.oa.lt _ e.symm).1; omega)
            exact (World.cell?_of_block e).trans T3'.out.c9
          have hsz : w.heap.size + 1 < w3.heap.size := World.block_lt_of_cell? _ _ hP9
          have T5 : Hid (Tri w1 ((w3.setCell ⟨w.heap.size + 1, 8, none⟩ (.slice p1 m1 q1)).alloc (.cells #[.int .i64 0, .int .i64 0, .int .i64 0, .int .i64 0] 3)) (w.heap.size + 1) (.slice p1 m1 q1) ub uc (y * G.W + x + 1) (4 * (y * G.W + x)) (4 * (y * G.W + x)) (pcv E A G)) := T4.keep ((Below.refl _ _).alloc (Nat.le_refl _) _)
          clear k8 kf o1 g1 n1 T3' T4
          go_wp2_with (at_builtin; (refine append_strong _ rfl (.tmp 117) (.tmp 118) rfl (w.heap.size + 1 + 1) _ _ _ rfl T5.out.ob ⟨_, 0, none⟩ 4 4 (List.replicate 4 (.int .i64 0)) rfl rfl (by omega) ?d1 ?d2 ?d3 ?d4 ?_))
          case d1 =>
            intro j u hj
            have hj4 : j < 4 := by have := (List.getElem?_eq_some_iff.1 hj).1; simpa using this
            match j, hj4 with
            | 0, _ => show (World.alloc _ _).cell? ⟨w3.heap.size, 0, none⟩ = _; rw [World.cell?_alloc_at _ _ _ _ (by simp)]; exact hj
            | 1, _ => show (World.alloc _ _).cell? ⟨w3.heap.size, 1, none⟩ = _; rw [World.cell?_alloc_at _ _ _ _ (by simp)]; exact hj
            | 2, _ => show (World.alloc _ _).cell? ⟨w3.heap.size, 2, none⟩ = _; rw [World.cell?_alloc_at _ _ _ _ (by simp)]; exact hj
            | 3, _ => show (World.alloc _ _).cell? ⟨w3.heap.size, 3, none⟩ = _; rw [World.cell?_alloc_at _ _ _ _ (by simp)]; exact hj
          case d2 => intro u hu; rw [(List.mem_replicate.1 hu).2]; rfl
          case d3 => omega
          case d4 => simp; omega
          intro v2 w4 o2 g2 n2
          obtain ⟨p2, m2, q2, rfl⟩ := own_slice o2
          have bl2 := g2.block (w.heap.size + 1) T5.out.lt (fun e => by have := (T5.out.ob.lt _ e.symm).1; omega)
          have T6 : Hid (Tri w1 (w4.setCell ⟨w.heap.size + 1, 9, none⟩ (.slice p2 m2 q2)) (w.heap.size + 1) (.slice p1 m1 q1) (.slice p2 m2 q2) uc (y * G.W + x + 1) (4 * (y * G.W + x) + 4) (4 * (y * G.W + x)) (pcv E A G)) := T5.out.appB o2 g2 (fun k hk => (n2 k hk).imp_right (fun h => by simp; omega))
          have r9 : w4.cell? ⟨w.heap.size + 1, 9, none⟩ = some ub := (World.cell?_of_block bl2).trans T5.out.c9
          have rf9 : w4.frozen? ⟨w.heap.size + 1, 9, none⟩ = false := (World.frozen?_of_block bl2).trans (T5.out.fz 9)
          have hsz4 : w.heap.size + 1 < w4.heap.size := World.block_lt_of_cell? _ _ r9
          have hc6 := HC.out _ T6.out.kept
          have b3 : w4.cell? ⟨b, 3, none⟩ = some (.pointer (some ⟨mb, 0, none⟩)) := by
            rw [← hc6.1]; exact (World.cell?_setCell_other _ _ _ _ (by intro e; injection e; omega)).symm
          have him := hc6.2
          clear hc6 hP3 hF3 hP9 hsz T5 o2 g2 n2 bl2
          go_wp2_with fail
          refine (shown_any mb g G.L x y _ him (by omega) (by omega)).mono ?_
          rintro r w5 ⟨⟨gb, rfl, hz⟩, hk5⟩
          have T7 : Hid (Tri w1 w5 (w.heap.size + 1) (.slice p1 m1 q1) (.slice p2 m2 q2) uc (y * G.W + x + 1) (4 * (y * G.W + x) + 4) (4 * (y * G.W + x)) (pcv E A G)) := T6.out.keep hk5
          have s10 := T7.out.c10
          have hsz5 := T7.out.lt
          have HZ : Hid (∀ i, i < 4 → w5.cell? ⟨gb, i, none⟩ = some (.int .i64 0)) := hz
          clear hk5 T6 him b3 rf9 r9 hz
          go_wp2_with (at_builtin; (refine append_strong _ rfl (.tmp 129) (.tmp 130) rfl (w.heap.size + 1 + 1) _ _ _ rfl T7.out.oc ⟨gb, 0, none⟩ 4 4 (List.replicate 4 (.int .i64 0)) rfl rfl (by omega) ?f1 ?f2 ?f3 ?f4 ?_))
          case f1 =>
            intro j u hj
            have hj4 : j < 4 := by have := (List.getElem?_eq_some_iff.1 hj).1; simpa using this
            rw [List.getElem?_replicate, if_pos hj4] at hj
            cases hj
            match j, hj4 with
            | 0, _ => exact HZ.out 0 (by omega)
            | 1, _ => exact HZ.out 1 (by omega)
            | 2, _ => exact HZ.out 2 (by omega)
            | 3, _ => exact HZ.out 3 (by omega)
          case f2 => intro u hu; rw [(List.mem_replicate.1 hu).2]; rfl
          case f3 => omega
          case f4 => omega
          intro v3 w6 o3 g3 n3
          obtain ⟨p3, m3, q3, rfl⟩ := own_slice o3
          have bl3 := g3.block (w.heap.size + 1) T7.out.lt (fun e => by have := (T7.out.oc.lt _ e.symm).1; omega)
          have T8 : Hid (Tri w1 (w6.setCell ⟨w.heap.size + 1, 10, none⟩ (.slice p3 m3 q3)) (w.heap.size + 1) (.slice p1 m1 q1) (.slice p2 m2 q2) (.slice p3 m3 q3) (y * G.W + x + 1) (4 * (y * G.W + x) + 4) (4 * (y * G.W + x) + 4) (pcv E A G)) := T7.out.appC o3 g3 n3
          have r10 : w6.cell? ⟨w.heap.size + 1, 10, none⟩ = some uc := (World.cell?_of_block bl3).trans T7.out.c10
          have rf10 : w6.frozen? ⟨w.heap.size + 1, 10, none⟩ = false := (World.frozen?_of_block bl3).trans (T7.out.fz 10)
          have hsz6 : w.heap.size + 1 < w6.heap.size := World.block_lt_of_cell? _ _ r10
          clear T7 o3 g3 n3 bl3 HZ s10
          go_wp2
          exact ⟨⟨x + 1, _, _, _, by omega, by go_num, T8.out⟩, by simp [intOf]; omega⟩
        · go_wp2
          have hxe : x = G.W := by omega
          have T' : Tri w1 wr (w.heap.size + 1) ua ub uc ((y + 1) * G.W) (4 * ((y + 1) * G.W)) (4 * ((y + 1) * G.W)) (pcv E A G) := by
            rw [show (y + 1) * G.W = y * G.W + x from by rw [Nat.add_mul, Nat.one_mul, hxe]]; exact T
          exact ⟨⟨y + 1, ua, ub, uc, by omega, by go_num, T'⟩, by simp [intOf]; omega⟩
    · have r := HR.out _ T.kept
      have rf := r.2
      obtain ⟨v0, e0⟩ := r.1 0 (by omega)
      obtain ⟨v1, e1⟩ := r.1 1 (by omega)
      obtain ⟨v2, e2⟩ := r.1 2 (by omega)
      obtain ⟨v3, e3⟩ := r.1 3 (by omega)
      obtain ⟨v4, e4⟩ := r.1 4 (by omega)
      obtain ⟨v5, e5⟩ := r.1 5 (by omega)
      obtain ⟨v6, e6⟩ := r.1 6 (by omega)
      obtain ⟨v7, e7⟩ := r.1 7 (by omega)
      obtain ⟨v8, e8⟩ := r.1 8 (by omega)
      obtain ⟨v9, e9⟩ := r.1 9 (by omega)
      obtain ⟨v10, e10⟩ := r.1 10 (by omega)
      have k0 : wr.cell? ⟨w.heap.size + 1, 0, none⟩ = some (.int .i64 (E : Int)) := T.rest 0 (by omega)
      have k1 : wr.cell? ⟨w.heap.size + 1, 1, none⟩ = some (.int .i64 (A : Int)) := T.rest 1 (by omega)
      have k2 : wr.cell? ⟨w.heap.size + 1, 2, none⟩ = some (.bool false) := T.rest 2 (by omega)
      have k3 : wr.cell? ⟨w.heap.size + 1, 3, none⟩ = some (.int .i64 (G.W : Int)) := T.rest 3 (by omega)
      have k5 : wr.cell? ⟨w.heap.size + 1, 5, none⟩ = some (.int .i64 (G.K : Int)) := T.rest 5 (by omega)
      have k6 : wr.cell? ⟨w.heap.size + 1, 6, none⟩ = some (.int .i64 (G.D : Int)) := T.rest 6 (by omega)
      have k7 : wr.cell? ⟨w.heap.size + 1, 7, none⟩ = some (.int .i64 (G.L : Int)) := T.rest 7 (by omega)
      have k8 := T.c8
      have k9 := T.c9
      have k10 := T.c10
      have hye : y = G.H := by omega
      have HY : Hid (y = G.H) := hye
      clear r hye
      obtain ⟨pa, ma, ca, rfl⟩ := own_slice T.oa
      obtain ⟨pb, mb', cb, rfl⟩ := own_slice T.ob
      obtain ⟨pc', mc, cc, rfl⟩ := own_slice T.oc
      have hT := T.lt
      have HTT : Hid (Tri w1 wr (w.heap.size + 1) _ _ _ _ _ _ _) := T
      clear T
      go_wp2
      have hmul : y * G.W = G.W * G.H := by rw [HY.out, Nat.mul_comm]
      refine bodyPost_ret (v := snapV E A false G (.slice pa ma ca) (.slice pb mb' cb) (.slice pc' mc cc)) (by simp [results, Tryz.results15, go_sem, e0, e1, e2, e3, e4, e5, e6, e7, e8, e9, e10]) rfl ⟨⟨_, _, _, rfl, ?_, ?_, ?_⟩, ?_⟩
      · rw [← hmul]; exact zl_of HTT.out.oa (by omega)
      · rw [← hmul]; exact zl_of HTT.out.ob (by omega)
      · rw [← hmul]; exact zl_of HTT.out.oc (by omega)
      · have hk : Kept w wr := HK1.out.trans HTT.out.kept
        exact hk.own (b := w.heap.size) (((((((((((((Oth.refl _ _).setCell _ _).setCell _ _).setCell _ _).setCell _ _).setCell _ _).setCell _ _).setCell _ _).setCell _ _).setCell _ _).setCell _ _).setCell _ _)) (Nat.le_refl _)
end Go.Proofs.YtdnpefabcholbaaGreat
namespace Go.Proofs.YtdnpefabcholbaaGreat
open Go.RowKit
theorem ofSpec : OfSpec := fun fb sb f e a w h hs ho hL => of_any fb sb f e a w h hs ho hL
end Go.Proofs.YtdnpefabcholbaaGreat
