import Derived.Test.YtehnbejlhjkciaaGreatDoorStT6a
import Derived.Test.YtehnbejlhjkciaaGreatDoorStT2
import Derived.Deep.CutBlock
import Derived.Deep.CutRange
namespace Go.Proofs.YtehnbejlhjkciaaGreatDoor
open Go.RowKit
set_option linter.unusedSimpArgs false
set_option linter.unusedVariables false
def lastOf : Code → Code
  | .seq _ b => lastOf b
  | c => c
set_option maxRecDepth 1000000 in
set_option maxHeartbeats 0 in
theorem image_loop4 (u1 u2 u4 u5 u6 u7 u9 u10 u11 u12 u14 u15 u16 u18 u19 u20 u21 u22 u23 u24 u25 u26 u27 u28 u29 u30 u31 u32 u33 u34 u35 u36 u37 u38 u39 u40 u41 u42 u43 u44 u45 u46 u47 u48 u49 u50 u51 u52 u53 u54 u55 u56 u57 u58 u59 u60 u61 u62 u63 u64 u65 u66 u67 u68 u69 u70 u71 u72 u73 u74 u75 u76 u77 u78 u79 u80 u81 u82 u83 u84 u85 u86 u87 u88 u89 u90 u91 u92 u93 u94 u95 u96 u97 u98 u99 u100 u101 u102 u103 u104 u105 u106 u107 u108 u109 u110 u111 u112 u113 u114 u115 u116 u117 u118 u119 u120 u121 u122 u123 u124 u125 u126 u127 u128 u129 u130 u131 u132 u133 u134 u135 u136 u137 u138 u139 u140 u141 u142 u143 u144 u145 u146 u147 u148 u149 u150 u151 u152 u153 u154 u155 u156 u157 u158 u159 u160 u161 u162 u163 u164 u165 u166 u167 u168 u169 u170 u171 u172 u173 u174 u175 u176 u177 u178 u179 u180 u181 u182 u183 u184 u185 u186 u187 u188 u189 u190 u191 u192 u193 u194 u195 u196 u197 u198 u199 u200 u201 u202 u203 u204 u205 u206 u207 u208 u209 : Value) (x wd H K D L M C1 T0 T : Nat) (pv qv : Value) (pl ql : List Int) (s t : ByteArray) (w wc : World) (hx : x < w.heap.size) (hs : s.size ≤ 65536) (hlg : Hid (legal K D)) (hG : Hid (ImG2 K D M pl ql)) (hL : L < 2) (hwd1 : 1 ≤ wd) (hwd2 : wd ≤ 16) (hH1 : 1 ≤ H) (hH2 : H ≤ 16) (hm1 : 1 ≤ M) (hm2 : M ≤ 65536) (hC1 : Hid (C1 = chan K)) (hC12 : 1 ≤ C1 ∧ C1 ≤ 4) (hT01 : T0 ≤ 256) (hT1 : T ≤ 1024) (eT0 : (wd : Int) * (H : Int) = (T0 : Int)) (eT : (T0 : Int) * (C1 : Int) = (T : Int)) (hT0 : Hid (T0 = wd * H)) (hT : Hid (T = T0 * C1))
    (hI : Hid (ImAt w wc x (w.heap.size + 1) w.heap.size s t (imU w x wd H K D L) pv qv (.slice none 0 0) pl ql [])) :
    Code.wp Tryz.prog ((Tryz.f8.body.map lastOf).getD .skip) (bodyPost Tryz.prog Tryz.f8 fun r w' => r = .returned (.tuple #[]) ∧ ∃ wd H K D L : Nat, ∃ pp qp xp : Option Addr, ∃ pc qc xc : Nat, ∃ pal clr pix : List Int, ImR w w' x wd H K D L pp qp xp pc qc xc pal clr pix) ⟨#[.pointer (some ⟨x, 0, none⟩), u1, u2, .pointer (some ⟨w.heap.size, 0, none⟩), u4, u5, u6, u7, .int .i64 (M : Int), u9, u10, u11, u12, .int .i64 (C1 : Int), u14, u15, u16, .int .i64 0, u18, u19, u20, u21, u22, u23, u24, u25, u26, u27, u28, u29, u30, u31, u32, u33, u34, u35, u36, u37, u38, u39, u40, u41, u42, u43, u44, u45, u46, u47, u48, u49, u50, u51, u52, u53, u54, u55, u56, u57, u58, u59, u60, u61, u62, u63, u64, u65, u66, u67, u68, u69, u70, u71, u72, u73, u74, u75, u76, u77, u78, u79, u80, u81, u82, u83, u84, u85, u86, u87, u88, u89, u90, u91, u92, u93, u94, u95, u96, u97, u98, u99, u100, u101, u102, u103, u104, u105, u106, u107, u108, u109, u110, u111, u112, u113, u114, u115, u116, u117, u118, u119, u120, u121, u122, u123, u124, u125, u126, u127, u128, u129, u130, u131, u132, u133, u134, u135, u136, u137, u138, u139, u140, u141, u142, u143, u144, u145, u146, u147, u148, u149, u150, u151, u152, u153, u154, u155, u156, u157, u158, u159, u160, u161, u162, u163, u164, u165, u166, u167, u168, u169, u170, u171, u172, u173, u174, u175, u176, u177, u178, u179, u180, u181, u182, u183, u184, u185, u186, u187, u188, u189, u190, u191, u192, u193, u194, u195, u196, u197, u198, u199, u200, u201, u202, u203, u204, u205, u206, u207, u208, u209], []⟩ wc := by
  conv => arg 2; whnf
  have FA : Hid (∀ (W' : World) (k : Nat), k ≤ 1048576 → Calls Tryz.prog 15 #[.string s, .int .i64 (k : Int)] W' fun r w' => (∃ v : Nat, v < 256 ∧ r = .returned (.int .i64 (v : Int))) ∧ Kept W' w') := fun W' k hk => at_any s k W' hs hk
  go_wp2_with fail
  go_loopg [17] T (fun k v W => ∃ i : Nat, ∃ xv : Value, ∃ xl : List Int, v = .int .i64 (i : Int) ∧ i ≤ T ∧ k = T - i ∧ xl.length = i ∧ (∀ y ∈ xl, 0 ≤ y ∧ y < (M : Int)) ∧ ImAt w W x (w.heap.size + 1) w.heap.size s t (imU w x wd H K D L) pv qv xv pl ql xl)
  case atStart => exact ⟨0, _, [], rfl, by omega, by omega, rfl, fun y hy => by simp at hy, hI.out⟩
  case round =>
    obtain ⟨i, xv, xl, rfl, hi1, hgk, hxl, hxb, hI2⟩ := hrel
    clear hI
    have k0 : wr.cell? ⟨x, 0, none⟩ = some (.int .i64 (wd : Int)) := (hI2.rest 0 (by omega)).trans rfl
    have k1 : wr.cell? ⟨x, 1, none⟩ = some (.int .i64 (H : Int)) := (hI2.rest 1 (by omega)).trans rfl
    have k3 := hI2.o3
    replace hxl : Hid _ := hxl
    replace hxb : Hid _ := hxb
    replace hgk : Hid _ := hgk
    obtain ⟨px, cx, rfl⟩ := hI2.ox.slice
    replace hI2 : Hid (ImAt w wr x (w.heap.size + 1) w.heap.size s t (imU w x wd H K D L) pv qv (.slice px xl.length cx) pl ql xl) := hI2
    by_cases hlt : i < T
    · have l1 : (i : Int) < (T : Int) := by omega
      have e2i : (2 : Int) * (i : Int) = ((2 * i : Nat) : Int) := by omega
      have e2j : (2 : Int) * (i : Int) + 1 = ((2 * i + 1 : Nat) : Int) := by omega
      replace e2i : Hid _ := e2i
      replace e2j : Hid _ := e2j
      go_wp2_with fail
      go_quiet (fail)
      have Iq : Hid (ImAt w (wr.drewN nq) x (w.heap.size + 1) w.heap.size s t (imU w x wd H K D L) pv qv (.slice px xl.length cx) pl ql xl) := hI2.out.kept ((Kept.refl _).drewN _)
      clear hI2 k0 k1 k3
      generalize wr.drewN nq = wq at *
      have k3 := Iq.out.o3
      go_upto_block 7 with fail
      go_cut [] from 165 to 209 (fun W => ∃ xv : Value, ∃ xl : List Int, xl.length = i + 1 ∧ (∀ y ∈ xl, 0 ≤ y ∧ y < (M : Int)) ∧ ImAt w W x (w.heap.size + 1) w.heap.size s t (imU w x wd H K D L) pv qv xv pl ql xl)
      case first =>
        --<D0
        go_wp2_with fail
        rw [e2i.out]
        refine (FA.out _ (2 * i) (by omega)).mono ?_
        rintro r wa ⟨⟨v, hv, rfl⟩, hka⟩
        have I3 : Hid (ImAt w wa x (w.heap.size + 1) w.heap.size s t (imU w x wd H K D L) pv qv (.slice px xl.length cx) pl ql xl) := Iq.out.kept hka
        clear Iq hka k3
        have k3 := I3.out.o3
        go_wp2_with fail
        rw [e2j.out]
        refine (FA.out _ (2 * i + 1) (by omega)).mono ?_
        rintro r wb ⟨⟨v2, hv2, rfl⟩, hka⟩
        have I4 : Hid (ImAt w wb x (w.heap.size + 1) w.heap.size s t (imU w x wd H K D L) pv qv (.slice px xl.length cx) pl ql xl) := I3.out.kept hka
        clear I3 hka k3
        have c6 := I4.out.c6
        have f6 := I4.out.fz 6
        have hszr := I4.out.size
        have hxr : x < wb.heap.size := by omega
        have HO : Hid (OwnI wb (w.heap.size + 1) (.slice px xl.length cx) xl) := I4.out.ox
        have hnx : ¬ (Value.slice px xl.length cx).ownBlock = some x := fun e => by have := HO.out.ge x e; omega
        have hxlb : xl.length ≤ 1024 := by have := hxl.out; omega
        have n1 : ¬ ((M : Int) = 0) := by omega
        have n2 : ¬ (M = 0) := by omega
        obtain ⟨E1, hE1⟩ : ∃ E1 : Int, E1 = (IntKind.i64.wrap (IntKind.i64.wrap (256 * (v : Int)) + (v2 : Int))).tmod (M : Int) := ⟨_, rfl⟩
        have hE1b : 0 ≤ E1 ∧ E1 < (M : Int) := by
          rw [hE1, wrapZ (256 * (v : Int)) (by omega) (by omega), wrapZ _ (by omega) (by omega), Int.tmod_eq_emod_of_nonneg (by omega)]
          exact ⟨Int.emod_nonneg _ n1, Int.emod_lt_of_pos _ (by omega)⟩
        replace hE1 : Hid _ := hE1
        go_wp2_with fail
        go_region_law ((refine stepI (by rfl) _ _ (by rfl) (w.heap.size + 1) (.slice px xl.length cx) xl (by rfl) (by exact (HO.out.alloc _).drewN 1) wb.heap.size 1 E1 (by rfl) (by rw [hE1.out]; simp) (by omega) (by simp; omega) ?_; intro g' cap w2 ho2 hf2 hn2; have fk : Fr (fun k => (Value.slice px xl.length cx).ownBlock = some k) wb w2 := (((Fr.refl _ wb).alloc _).drewN 1).trans hf2; have k6 := (fk.cell (k := 6) hxr hnx).trans c6; have g6 := (fk.frozen (k := 6) hxr hnx).trans f6))
        all_goals
          have C2 : Hid (ImAt w (w2.setCell ⟨x, 6, none⟩ (Value.slice (some ⟨g', 0, none⟩) (xl.length + 1) cap)) x (w.heap.size + 1) w.heap.size s t (imU w x wd H K D L) pv qv (Value.slice (some ⟨g', 0, none⟩) (xl.length + 1) cap) pl ql (xl ++ [E1])) := ImAt.grow_x I4.out _ _ fk ho2 (own_hn2 hn2)
          clear fk hf2 ho2 hn2 k6 g6
          go_wp2_with fail
          go_meet
          case rel =>
            exact ⟨_, xl ++ [E1], app_len hxl.out, app_mem hxb.out hE1b, C2.out⟩
        -->D0
      case rest =>
        clear k3 Iq
        obtain ⟨qv3, ql3, hl3, hb3, hI3⟩ := hcut
        replace hl3 : Hid _ := hl3
        replace hb3 : Hid _ := hb3
        replace hI3 : Hid _ := hI3
        go_wp2_with fail
        go_roundg (T - (i + 1))
        case measure => rw [hgk.out]; omega
        case rel => exact ⟨i + 1, qv3, ql3, by go_num, by omega, rfl, hl3.out, hb3.out, hI3.out⟩
    · have l1 : ¬ (i : Int) < (T : Int) := by omega
      have hi : i = T := by omega
      have HX : Hid (ImAt w (wr.drewN 1) x (w.heap.size + 1) w.heap.size s t (imU w x wd H K D L) pv qv (.slice px xl.length cx) pl ql xl) := hI2.out.kept ((Kept.refl _).drewN _)
      go_wp2_with fail
      go_quiet (fail)
      go_wp2_with fail
      go_end0
      obtain ⟨pp, pc, rfl⟩ := hI2.out.op.slice
      obtain ⟨qp, qc, rfl⟩ := hI2.out.oq.slice
      have hIq : ImAt w (wr.drewN nq) x (w.heap.size + 1) w.heap.size s t (imU w x wd H K D L) (.slice pp pl.length pc) (.slice qp ql.length qc) (.slice px xl.length cx) pl ql xl := hI2.out.kept ((Kept.refl _).drewN _)
      exact ⟨rfl, wd, H, K, D, L, pp, qp, px, pc, qc, cx, pl, ql, xl, hIq.done (M := M) (ImG2.ok hG.out hlg.out hwd1 hwd2 hH1 hH2 (by rw [hxl.out, hi, hT.out, hT0.out, hC1.out]) hxb.out) (by omega)⟩
end Go.Proofs.YtehnbejlhjkciaaGreatDoor
