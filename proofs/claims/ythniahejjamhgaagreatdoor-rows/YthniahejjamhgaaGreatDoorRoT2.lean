import Derived.Test.YthniahejjamhgaaGreatDoorRoF1
set_option maxRecDepth 100000
set_option maxHeartbeats 6400000
namespace Go.Proofs.YthniahejjamhgaaGreatDoor
open Go.RowKit
set_option linter.unusedSimpArgs false
set_option linter.unusedVariables false
theorem kind_0 (w:World):Calls Tryz.prog 19 #[.int .i64 0] w fun r w'=>r = .returned (.tuple #[.int .i64 0,.int .i64 1])/\Kept w w':=by
 go_enter Tryz.func19,Tryz.ntmps19;go_wp2;go_quiet (fail);go_wp2;go_ret2;exact ⟨rfl,Kept.drewN (Below.alloc (Below.alloc (Below.refl _ _) (Nat.le_refl _) _) (by simp) _) _⟩
theorem kind_1 (w:World):Calls Tryz.prog 19 #[.int .i64 1] w fun r w'=>r = .returned (.tuple #[.int .i64 0,.int .i64 2])/\Kept w w':=by
 go_enter Tryz.func19,Tryz.ntmps19;go_wp2;go_quiet (fail);go_wp2;go_ret2;exact ⟨rfl,Kept.drewN (Below.alloc (Below.alloc (Below.refl _ _) (Nat.le_refl _) _) (by simp) _) _⟩
theorem kind_2 (w:World):Calls Tryz.prog 19 #[.int .i64 2] w fun r w'=>r = .returned (.tuple #[.int .i64 0,.int .i64 4])/\Kept w w':=by
 go_enter Tryz.func19,Tryz.ntmps19;go_wp2;go_quiet (fail);go_wp2;go_ret2;exact ⟨rfl,Kept.drewN (Below.alloc (Below.alloc (Below.refl _ _) (Nat.le_refl _) _) (by simp) _) _⟩
theorem kind_3 (w:World):Calls Tryz.prog 19 #[.int .i64 3] w fun r w'=>r = .returned (.tuple #[.int .i64 0,.int .i64 8])/\Kept w w':=by
 go_enter Tryz.func19,Tryz.ntmps19;go_wp2;go_quiet (fail);go_wp2;go_ret2;exact ⟨rfl,Kept.drewN (Below.alloc (Below.alloc (Below.refl _ _) (Nat.le_refl _) _) (by simp) _) _⟩
theorem kind_4 (w:World):Calls Tryz.prog 19 #[.int .i64 4] w fun r w'=>r = .returned (.tuple #[.int .i64 0,.int .i64 16])/\Kept w w':=by
 go_enter Tryz.func19,Tryz.ntmps19;go_wp2;go_quiet (fail);go_wp2;go_ret2;exact ⟨rfl,Kept.drewN (Below.alloc (Below.alloc (Below.refl _ _) (Nat.le_refl _) _) (by simp) _) _⟩
theorem kind_5 (w:World):Calls Tryz.prog 19 #[.int .i64 5] w fun r w'=>r = .returned (.tuple #[.int .i64 2,.int .i64 8])/\Kept w w':=by
 go_enter Tryz.func19,Tryz.ntmps19;go_wp2;go_quiet (fail);go_wp2;go_ret2;exact ⟨rfl,Kept.drewN (Below.alloc (Below.alloc (Below.refl _ _) (Nat.le_refl _) _) (by simp) _) _⟩
theorem kind_6 (w:World):Calls Tryz.prog 19 #[.int .i64 6] w fun r w'=>r = .returned (.tuple #[.int .i64 2,.int .i64 16])/\Kept w w':=by
 go_enter Tryz.func19,Tryz.ntmps19;go_wp2;go_quiet (fail);go_wp2;go_ret2;exact ⟨rfl,Kept.drewN (Below.alloc (Below.alloc (Below.refl _ _) (Nat.le_refl _) _) (by simp) _) _⟩
theorem kind_7 (w:World):Calls Tryz.prog 19 #[.int .i64 7] w fun r w'=>r = .returned (.tuple #[.int .i64 3,.int .i64 1])/\Kept w w':=by
 go_enter Tryz.func19,Tryz.ntmps19;go_wp2;go_quiet (fail);go_wp2;go_ret2;exact ⟨rfl,Kept.drewN (Below.alloc (Below.alloc (Below.refl _ _) (Nat.le_refl _) _) (by simp) _) _⟩
theorem kind_8 (w:World):Calls Tryz.prog 19 #[.int .i64 8] w fun r w'=>r = .returned (.tuple #[.int .i64 3,.int .i64 2])/\Kept w w':=by
 go_enter Tryz.func19,Tryz.ntmps19;go_wp2;go_quiet (fail);go_wp2;go_ret2;exact ⟨rfl,Kept.drewN (Below.alloc (Below.alloc (Below.refl _ _) (Nat.le_refl _) _) (by simp) _) _⟩
theorem kind_9 (w:World):Calls Tryz.prog 19 #[.int .i64 9] w fun r w'=>r = .returned (.tuple #[.int .i64 3,.int .i64 4])/\Kept w w':=by
 go_enter Tryz.func19,Tryz.ntmps19;go_wp2;go_quiet (fail);go_wp2;go_ret2;exact ⟨rfl,Kept.drewN (Below.alloc (Below.alloc (Below.refl _ _) (Nat.le_refl _) _) (by simp) _) _⟩
theorem kind_10 (w:World):Calls Tryz.prog 19 #[.int .i64 10] w fun r w'=>r = .returned (.tuple #[.int .i64 3,.int .i64 8])/\Kept w w':=by
 go_enter Tryz.func19,Tryz.ntmps19;go_wp2;go_quiet (fail);go_wp2;go_ret2;exact ⟨rfl,Kept.drewN (Below.alloc (Below.alloc (Below.refl _ _) (Nat.le_refl _) _) (by simp) _) _⟩
theorem kind_11 (w:World):Calls Tryz.prog 19 #[.int .i64 11] w fun r w'=>r = .returned (.tuple #[.int .i64 4,.int .i64 8])/\Kept w w':=by
 go_enter Tryz.func19,Tryz.ntmps19;go_wp2;go_quiet (fail);go_wp2;go_ret2;exact ⟨rfl,Kept.drewN (Below.alloc (Below.alloc (Below.refl _ _) (Nat.le_refl _) _) (by simp) _) _⟩
theorem kind_12 (w:World):Calls Tryz.prog 19 #[.int .i64 12] w fun r w'=>r = .returned (.tuple #[.int .i64 4,.int .i64 16])/\Kept w w':=by
 go_enter Tryz.func19,Tryz.ntmps19;go_wp2;go_quiet (fail);go_wp2;go_ret2;exact ⟨rfl,Kept.drewN (Below.alloc (Below.alloc (Below.refl _ _) (Nat.le_refl _) _) (by simp) _) _⟩
theorem kind_13 (w:World):Calls Tryz.prog 19 #[.int .i64 13] w fun r w'=>r = .returned (.tuple #[.int .i64 6,.int .i64 8])/\Kept w w':=by
 go_enter Tryz.func19,Tryz.ntmps19;go_wp2;go_quiet (fail);go_wp2;go_ret2;exact ⟨rfl,Kept.drewN (Below.alloc (Below.alloc (Below.refl _ _) (Nat.le_refl _) _) (by simp) _) _⟩
theorem kind_14 (w:World):Calls Tryz.prog 19 #[.int .i64 14] w fun r w'=>r = .returned (.tuple #[.int .i64 6,.int .i64 16])/\Kept w w':=by
 go_enter Tryz.func19,Tryz.ntmps19;go_wp2;go_quiet (fail);go_wp2;go_ret2;exact ⟨rfl,Kept.drewN (Below.alloc (Below.alloc (Below.refl _ _) (Nat.le_refl _) _) (by simp) _) _⟩
theorem kind_any (k:Nat) (w:World) (hk:k<15):Calls Tryz.prog 19 #[.int .i64 (k:Int)] w fun r w'=>(∃ K D:Nat,legal K D/\r = .returned (.tuple #[.int .i64 (K:Int),.int .i64 (D:Int)]))/\Kept w w':=by
 have:k=0\/k=1\/k=2\/k=3\/k=4\/k=5\/k=6\/k=7\/k=8\/k=9\/k=10\/k=11\/k=12\/k=13\/k=14:=by omega
 rcases this with rfl | rfl | rfl | rfl | rfl | rfl | rfl | rfl | rfl | rfl | rfl | rfl | rfl | rfl | rfl
 ·exact (kind_0 w).mono (fun r w' ⟨h1,h2⟩=>⟨⟨0,1,by unfold legal;omega,h1⟩,h2⟩)
 ·exact (kind_1 w).mono (fun r w' ⟨h1,h2⟩=>⟨⟨0,2,by unfold legal;omega,h1⟩,h2⟩)
 ·exact (kind_2 w).mono (fun r w' ⟨h1,h2⟩=>⟨⟨0,4,by unfold legal;omega,h1⟩,h2⟩)
 ·exact (kind_3 w).mono (fun r w' ⟨h1,h2⟩=>⟨⟨0,8,by unfold legal;omega,h1⟩,h2⟩)
 ·exact (kind_4 w).mono (fun r w' ⟨h1,h2⟩=>⟨⟨0,16,by unfold legal;omega,h1⟩,h2⟩)
 ·exact (kind_5 w).mono (fun r w' ⟨h1,h2⟩=>⟨⟨2,8,by unfold legal;omega,h1⟩,h2⟩)
 ·exact (kind_6 w).mono (fun r w' ⟨h1,h2⟩=>⟨⟨2,16,by unfold legal;omega,h1⟩,h2⟩)
 ·exact (kind_7 w).mono (fun r w' ⟨h1,h2⟩=>⟨⟨3,1,by unfold legal;omega,h1⟩,h2⟩)
 ·exact (kind_8 w).mono (fun r w' ⟨h1,h2⟩=>⟨⟨3,2,by unfold legal;omega,h1⟩,h2⟩)
 ·exact (kind_9 w).mono (fun r w' ⟨h1,h2⟩=>⟨⟨3,4,by unfold legal;omega,h1⟩,h2⟩)
 ·exact (kind_10 w).mono (fun r w' ⟨h1,h2⟩=>⟨⟨3,8,by unfold legal;omega,h1⟩,h2⟩)
 ·exact (kind_11 w).mono (fun r w' ⟨h1,h2⟩=>⟨⟨4,8,by unfold legal;omega,h1⟩,h2⟩)
 ·exact (kind_12 w).mono (fun r w' ⟨h1,h2⟩=>⟨⟨4,16,by unfold legal;omega,h1⟩,h2⟩)
 ·exact (kind_13 w).mono (fun r w' ⟨h1,h2⟩=>⟨⟨6,8,by unfold legal;omega,h1⟩,h2⟩)
 ·exact (kind_14 w).mono (fun r w' ⟨h1,h2⟩=>⟨⟨6,16,by unfold legal;omega,h1⟩,h2⟩)
