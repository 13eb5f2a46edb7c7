import Derived.Test.YthniahejjamhgaaGreatDoorRoGT
import Derived.Test.YthniahejjamhgaaGreatDoorRoL1
import Derived.Test.YthniahejjamhgaaGreatDoorRoG6b
import Derived.Test.YthniahejjamhgaaGreatDoorRoG8
import Derived.Test.YthniahejjamhgaaGreatDoorRoL6
set_option maxRecDepth 100000
set_option maxHeartbeats 6400000
namespace Go.Proofs.YthniahejjamhgaaGreatDoor
open Go.RowKit
set_option linter.unusedSimpArgs false
set_option linter.unusedVariables false
theorem count_any (L:Nat) (w:World) (h:L<=1) :
  Calls Tryz.prog 65 #[.int .i64 (L:Int)] w fun r w'=>r = .returned (.int .i64 ((if L=1 then 7 else 1:Nat):Int))/\w'=w:=by
 have:L=0\/L=1:=by omega
 rcases this with rfl | rfl
 all_goals
  go_enter Tryz.func65,Tryz.ntmps65;go_wp2;go_ret;exact ⟨rfl,rfl⟩
def gridL:List Int:=[0,0,8,8,8,8,4,0,8,8,4,8,0,4,4,8,4,4,2,0,4,4,2,4,0,2,2,4,2,2,1,0,2,2,1,2,0,1,1,2,1,1]
def GridAt (w:World):Prop:=(∀ j,j<42->w.cell? ⟨0,j,none⟩=some (.int .i64 (gridL.getD j 0)))/\TbsAt w
theorem GridAt.kept {w w':World} (h:GridAt w) (k:Kept w w'):GridAt w':=⟨fun j hj=>(k.cell (p:=⟨0,j,none⟩) (World.block_lt_of_cell? _ _ (h.1 j hj))).trans (h.1 j hj),h.2.kept k⟩
theorem GridAt.fr {S:Nat->Prop} {w w':World} (h:GridAt w) (k:Fr S w w') (h0:∀ i,i<5->¬ S i):GridAt w':=⟨fun j hj=>(k.cell (World.block_lt_of_cell? _ _ (h.1 j hj)) (h0 0 (by decide))).trans (h.1 j hj),h.2.fr k (h0 1 (by decide)) (h0 4 (by decide)) (h0 2 (by decide)) (h0 3 (by decide))⟩
theorem GridAt.lt {w:World} (h:GridAt w):4<w.heap.size:=by
 have h0:=World.block_lt_of_cell? _ _ (h.1 0 (by omega));have h1:=World.block_lt_of_cell? _ _ (h.2.len 0 (by omega));have h2:=World.block_lt_of_cell? _ _ (h.2.lbt 0 (by omega));have h3:=World.block_lt_of_cell? _ _ (h.2.dis 0 (by omega));have h4:=World.block_lt_of_cell? _ _ (h.2.ord 0 (by omega));simp at h0 h1 h2 h3 h4;omega
def PassV (v:Value) (f1 s1 f2 s2:Nat):Prop:=∃ b1 b2:Int,v = .agg #[.int .i64 (f1:Int),.int .i64 (s1:Int),.int .i64 b1,.int .i64 (f2:Int),.int .i64 (s2:Int),.int .i64 b2]
theorem of0_any (k:Nat) (w:World) (hk:k<=7) :
  Calls Tryz.prog 66 #[.int .i64 0,.int .i64 (k:Int)] w fun r w'=>∃ v,r = .returned v/\PassV v 0 1 0 1/\Kept w w':=by
 have hi:(Tryz.prog.info? 129).map (·.size)=some 6:=by kernel_rfl
 go_enter Tryz.func66,Tryz.ntmps66;go_wp2;refine bodyPost_ret (v := .agg #[.int .i64 0,.int .i64 1,.int .i64 1,.int .i64 0,.int .i64 1,.int .i64 1]) (results_cell1 rfl _ _ w.heap.size 0 _ rfl ?_) rfl ?_
 ·refine run_loadVar_row _ _ 129 129 _ (0,0) _ ?_ Tryz.underlying129 rfl hi
  exact heap_alloc_new _ _
 ·exact ⟨_,rfl,⟨1,1,rfl⟩,Below.alloc (Below.refl _ _) (Nat.le_refl _) _⟩
theorem of1_0 (w:World) (hG:GridAt w) :
  Calls Tryz.prog 66 #[.int .i64 1,.int .i64 0] w fun r w'=>∃ v,r = .returned v/\PassV v 0 8 0 8/\Kept w w':=by
 have hc:∀ (j:Nat) (z:Int),w.cell? ⟨0,j,none⟩=some (.int .i64 z)->(∀ o,(w.alloc o).cell? ⟨0,j,none⟩=some (.int .i64 z))/\(∀ o o',((w.alloc o).alloc o').cell? ⟨0,j,none⟩=some (.int .i64 z)):=by
  intro j z h;have hb:=World.block_lt_of_cell? _ _ h;have h1:∀ o,(w.alloc o).cell? ⟨0,j,none⟩=some (.int .i64 z):=fun o=>by rw[World.cell?_alloc_lt _ _ _ hb];exact h
  exact ⟨h1,fun o o'=>by rw[World.cell?_alloc_lt _ _ _ (World.block_lt_of_cell? _ _ (h1 o))];exact h1 o⟩
 have c0:=hc 0 (0) (hG.1 0 (by omega));have c1:=hc 1 (0) (hG.1 1 (by omega));have c2:=hc 2 (8) (hG.1 2 (by omega));have c3:=hc 3 (8) (hG.1 3 (by omega));have c4:=hc 4 (8) (hG.1 4 (by omega));have c5:=hc 5 (8) (hG.1 5 (by omega));obtain ⟨d0,e0⟩:=c0;obtain ⟨d1,e1⟩:=c1;obtain ⟨d2,e2⟩:=c2;obtain ⟨d3,e3⟩:=c3;obtain ⟨d4,e4⟩:=c4;obtain ⟨d5,e5⟩:=c5;have hi:(Tryz.prog.info? 129).map (·.size)=some 6:=by kernel_rfl
 clear hc hG;go_enter Tryz.func66,Tryz.ntmps66;go_wp2;refine bodyPost_ret (v := .agg #[.int .i64 0,.int .i64 8,.int .i64 8,.int .i64 0,.int .i64 8,.int .i64 8]) (results_cell1 rfl _ _ w.heap.size 0 _ rfl ?_) rfl ?_
 ·refine run_loadVar_row _ _ 129 129 _ (0,0) _ ?_ Tryz.underlying129 rfl hi
  rw[heap_alloc_old _ _ (by simp)];exact heap_alloc_new _ _
 ·exact ⟨_,rfl,⟨8,8,rfl⟩,Below.alloc (Below.alloc (Below.refl _ _) (Nat.le_refl _) _) (by simp) _⟩
theorem of1_1 (w:World) (hG:GridAt w) :
  Calls Tryz.prog 66 #[.int .i64 1,.int .i64 1] w fun r w'=>∃ v,r = .returned v/\PassV v 4 8 0 8/\Kept w w':=by
 have hc:∀ (j:Nat) (z:Int),w.cell? ⟨0,j,none⟩=some (.int .i64 z)->(∀ o,(w.alloc o).cell? ⟨0,j,none⟩=some (.int .i64 z))/\(∀ o o',((w.alloc o).alloc o').cell? ⟨0,j,none⟩=some (.int .i64 z)):=by
  intro j z h;have hb:=World.block_lt_of_cell? _ _ h;have h1:∀ o,(w.alloc o).cell? ⟨0,j,none⟩=some (.int .i64 z):=fun o=>by rw[World.cell?_alloc_lt _ _ _ hb];exact h
  exact ⟨h1,fun o o'=>by rw[World.cell?_alloc_lt _ _ _ (World.block_lt_of_cell? _ _ (h1 o))];exact h1 o⟩
 have c0:=hc 6 (4) (hG.1 6 (by omega));have c1:=hc 7 (0) (hG.1 7 (by omega));have c2:=hc 8 (8) (hG.1 8 (by omega));have c3:=hc 9 (8) (hG.1 9 (by omega));have c4:=hc 10 (4) (hG.1 10 (by omega));have c5:=hc 11 (8) (hG.1 11 (by omega));obtain ⟨d0,e0⟩:=c0;obtain ⟨d1,e1⟩:=c1;obtain ⟨d2,e2⟩:=c2;obtain ⟨d3,e3⟩:=c3;obtain ⟨d4,e4⟩:=c4;obtain ⟨d5,e5⟩:=c5;have hi:(Tryz.prog.info? 129).map (·.size)=some 6:=by kernel_rfl
 clear hc hG;go_enter Tryz.func66,Tryz.ntmps66;go_wp2;refine bodyPost_ret (v := .agg #[.int .i64 4,.int .i64 8,.int .i64 4,.int .i64 0,.int .i64 8,.int .i64 8]) (results_cell1 rfl _ _ w.heap.size 0 _ rfl ?_) rfl ?_
 ·refine run_loadVar_row _ _ 129 129 _ (0,0) _ ?_ Tryz.underlying129 rfl hi
  rw[heap_alloc_old _ _ (by simp)];exact heap_alloc_new _ _
 ·exact ⟨_,rfl,⟨4,8,rfl⟩,Below.alloc (Below.alloc (Below.refl _ _) (Nat.le_refl _) _) (by simp) _⟩
theorem of1_2 (w:World) (hG:GridAt w) :
  Calls Tryz.prog 66 #[.int .i64 1,.int .i64 2] w fun r w'=>∃ v,r = .returned v/\PassV v 0 4 4 8/\Kept w w':=by
 have hc:∀ (j:Nat) (z:Int),w.cell? ⟨0,j,none⟩=some (.int .i64 z)->(∀ o,(w.alloc o).cell? ⟨0,j,none⟩=some (.int .i64 z))/\(∀ o o',((w.alloc o).alloc o').cell? ⟨0,j,none⟩=some (.int .i64 z)):=by
  intro j z h;have hb:=World.block_lt_of_cell? _ _ h;have h1:∀ o,(w.alloc o).cell? ⟨0,j,none⟩=some (.int .i64 z):=fun o=>by rw[World.cell?_alloc_lt _ _ _ hb];exact h
  exact ⟨h1,fun o o'=>by rw[World.cell?_alloc_lt _ _ _ (World.block_lt_of_cell? _ _ (h1 o))];exact h1 o⟩
 have c0:=hc 12 (0) (hG.1 12 (by omega));have c1:=hc 13 (4) (hG.1 13 (by omega));have c2:=hc 14 (4) (hG.1 14 (by omega));have c3:=hc 15 (8) (hG.1 15 (by omega));have c4:=hc 16 (4) (hG.1 16 (by omega));have c5:=hc 17 (4) (hG.1 17 (by omega));obtain ⟨d0,e0⟩:=c0;obtain ⟨d1,e1⟩:=c1;obtain ⟨d2,e2⟩:=c2;obtain ⟨d3,e3⟩:=c3;obtain ⟨d4,e4⟩:=c4;obtain ⟨d5,e5⟩:=c5;have hi:(Tryz.prog.info? 129).map (·.size)=some 6:=by kernel_rfl
 clear hc hG;go_enter Tryz.func66,Tryz.ntmps66;go_wp2;refine bodyPost_ret (v := .agg #[.int .i64 0,.int .i64 4,.int .i64 4,.int .i64 4,.int .i64 8,.int .i64 4]) (results_cell1 rfl _ _ w.heap.size 0 _ rfl ?_) rfl ?_
 ·refine run_loadVar_row _ _ 129 129 _ (0,0) _ ?_ Tryz.underlying129 rfl hi
  rw[heap_alloc_old _ _ (by simp)];exact heap_alloc_new _ _
 ·exact ⟨_,rfl,⟨4,4,rfl⟩,Below.alloc (Below.alloc (Below.refl _ _) (Nat.le_refl _) _) (by simp) _⟩
theorem of1_3 (w:World) (hG:GridAt w) :
  Calls Tryz.prog 66 #[.int .i64 1,.int .i64 3] w fun r w'=>∃ v,r = .returned v/\PassV v 2 4 0 4/\Kept w w':=by
 have hc:∀ (j:Nat) (z:Int),w.cell? ⟨0,j,none⟩=some (.int .i64 z)->(∀ o,(w.alloc o).cell? ⟨0,j,none⟩=some (.int .i64 z))/\(∀ o o',((w.alloc o).alloc o').cell? ⟨0,j,none⟩=some (.int .i64 z)):=by
  intro j z h;have hb:=World.block_lt_of_cell? _ _ h;have h1:∀ o,(w.alloc o).cell? ⟨0,j,none⟩=some (.int .i64 z):=fun o=>by rw[World.cell?_alloc_lt _ _ _ hb];exact h
  exact ⟨h1,fun o o'=>by rw[World.cell?_alloc_lt _ _ _ (World.block_lt_of_cell? _ _ (h1 o))];exact h1 o⟩
 have c0:=hc 18 (2) (hG.1 18 (by omega));have c1:=hc 19 (0) (hG.1 19 (by omega));have c2:=hc 20 (4) (hG.1 20 (by omega));have c3:=hc 21 (4) (hG.1 21 (by omega));have c4:=hc 22 (2) (hG.1 22 (by omega));have c5:=hc 23 (4) (hG.1 23 (by omega));obtain ⟨d0,e0⟩:=c0;obtain ⟨d1,e1⟩:=c1;obtain ⟨d2,e2⟩:=c2;obtain ⟨d3,e3⟩:=c3;obtain ⟨d4,e4⟩:=c4;obtain ⟨d5,e5⟩:=c5;have hi:(Tryz.prog.info? 129).map (·.size)=some 6:=by kernel_rfl
 clear hc hG;go_enter Tryz.func66,Tryz.ntmps66;go_wp2;refine bodyPost_ret (v := .agg #[.int .i64 2,.int .i64 4,.int .i64 2,.int .i64 0,.int .i64 4,.int .i64 4]) (results_cell1 rfl _ _ w.heap.size 0 _ rfl ?_) rfl ?_
 ·refine run_loadVar_row _ _ 129 129 _ (0,0) _ ?_ Tryz.underlying129 rfl hi
  rw[heap_alloc_old _ _ (by simp)];exact heap_alloc_new _ _
 ·exact ⟨_,rfl,⟨2,4,rfl⟩,Below.alloc (Below.alloc (Below.refl _ _) (Nat.le_refl _) _) (by simp) _⟩
theorem of1_4 (w:World) (hG:GridAt w) :
  Calls Tryz.prog 66 #[.int .i64 1,.int .i64 4] w fun r w'=>∃ v,r = .returned v/\PassV v 0 2 2 4/\Kept w w':=by
 have hc:∀ (j:Nat) (z:Int),w.cell? ⟨0,j,none⟩=some (.int .i64 z)->(∀ o,(w.alloc o).cell? ⟨0,j,none⟩=some (.int .i64 z))/\(∀ o o',((w.alloc o).alloc o').cell? ⟨0,j,none⟩=some (.int .i64 z)):=by
  intro j z h;have hb:=World.block_lt_of_cell? _ _ h;have h1:∀ o,(w.alloc o).cell? ⟨0,j,none⟩=some (.int .i64 z):=fun o=>by rw[World.cell?_alloc_lt _ _ _ hb];exact h
  exact ⟨h1,fun o o'=>by rw[World.cell?_alloc_lt _ _ _ (World.block_lt_of_cell? _ _ (h1 o))];exact h1 o⟩
 have c0:=hc 24 (0) (hG.1 24 (by omega));have c1:=hc 25 (2) (hG.1 25 (by omega));have c2:=hc 26 (2) (hG.1 26 (by omega));have c3:=hc 27 (4) (hG.1 27 (by omega));have c4:=hc 28 (2) (hG.1 28 (by omega));have c5:=hc 29 (2) (hG.1 29 (by omega));obtain ⟨d0,e0⟩:=c0;obtain ⟨d1,e1⟩:=c1;obtain ⟨d2,e2⟩:=c2;obtain ⟨d3,e3⟩:=c3;obtain ⟨d4,e4⟩:=c4;obtain ⟨d5,e5⟩:=c5;have hi:(Tryz.prog.info? 129).map (·.size)=some 6:=by kernel_rfl
 clear hc hG;go_enter Tryz.func66,Tryz.ntmps66;go_wp2;refine bodyPost_ret (v := .agg #[.int .i64 0,.int .i64 2,.int .i64 2,.int .i64 2,.int .i64 4,.int .i64 2]) (results_cell1 rfl _ _ w.heap.size 0 _ rfl ?_) rfl ?_
 ·refine run_loadVar_row _ _ 129 129 _ (0,0) _ ?_ Tryz.underlying129 rfl hi
  rw[heap_alloc_old _ _ (by simp)];exact heap_alloc_new _ _
 ·exact ⟨_,rfl,⟨2,2,rfl⟩,Below.alloc (Below.alloc (Below.refl _ _) (Nat.le_refl _) _) (by simp) _⟩
theorem of1_5 (w:World) (hG:GridAt w) :
  Calls Tryz.prog 66 #[.int .i64 1,.int .i64 5] w fun r w'=>∃ v,r = .returned v/\PassV v 1 2 0 2/\Kept w w':=by
 have hc:∀ (j:Nat) (z:Int),w.cell? ⟨0,j,none⟩=some (.int .i64 z)->(∀ o,(w.alloc o).cell? ⟨0,j,none⟩=some (.int .i64 z))/\(∀ o o',((w.alloc o).alloc o').cell? ⟨0,j,none⟩=some (.int .i64 z)):=by
  intro j z h;have hb:=World.block_lt_of_cell? _ _ h;have h1:∀ o,(w.alloc o).cell? ⟨0,j,none⟩=some (.int .i64 z):=fun o=>by rw[World.cell?_alloc_lt _ _ _ hb];exact h
  exact ⟨h1,fun o o'=>by rw[World.cell?_alloc_lt _ _ _ (World.block_lt_of_cell? _ _ (h1 o))];exact h1 o⟩
 have c0:=hc 30 (1) (hG.1 30 (by omega));have c1:=hc 31 (0) (hG.1 31 (by omega));have c2:=hc 32 (2) (hG.1 32 (by omega));have c3:=hc 33 (2) (hG.1 33 (by omega));have c4:=hc 34 (1) (hG.1 34 (by omega));have c5:=hc 35 (2) (hG.1 35 (by omega));obtain ⟨d0,e0⟩:=c0;obtain ⟨d1,e1⟩:=c1;obtain ⟨d2,e2⟩:=c2;obtain ⟨d3,e3⟩:=c3;obtain ⟨d4,e4⟩:=c4;obtain ⟨d5,e5⟩:=c5;have hi:(Tryz.prog.info? 129).map (·.size)=some 6:=by kernel_rfl
 clear hc hG;go_enter Tryz.func66,Tryz.ntmps66;go_wp2;refine bodyPost_ret (v := .agg #[.int .i64 1,.int .i64 2,.int .i64 1,.int .i64 0,.int .i64 2,.int .i64 2]) (results_cell1 rfl _ _ w.heap.size 0 _ rfl ?_) rfl ?_
 ·refine run_loadVar_row _ _ 129 129 _ (0,0) _ ?_ Tryz.underlying129 rfl hi
  rw[heap_alloc_old _ _ (by simp)];exact heap_alloc_new _ _
 ·exact ⟨_,rfl,⟨1,2,rfl⟩,Below.alloc (Below.alloc (Below.refl _ _) (Nat.le_refl _) _) (by simp) _⟩
theorem of1_6 (w:World) (hG:GridAt w) :
  Calls Tryz.prog 66 #[.int .i64 1,.int .i64 6] w fun r w'=>∃ v,r = .returned v/\PassV v 0 1 1 2/\Kept w w':=by
 have hc:∀ (j:Nat) (z:Int),w.cell? ⟨0,j,none⟩=some (.int .i64 z)->(∀ o,(w.alloc o).cell? ⟨0,j,none⟩=some (.int .i64 z))/\(∀ o o',((w.alloc o).alloc o').cell? ⟨0,j,none⟩=some (.int .i64 z)):=by
  intro j z h;have hb:=World.block_lt_of_cell? _ _ h;have h1:∀ o,(w.alloc o).cell? ⟨0,j,none⟩=some (.int .i64 z):=fun o=>by rw[World.cell?_alloc_lt _ _ _ hb];exact h
  exact ⟨h1,fun o o'=>by rw[World.cell?_alloc_lt _ _ _ (World.block_lt_of_cell? _ _ (h1 o))];exact h1 o⟩
 have c0:=hc 36 (0) (hG.1 36 (by omega));have c1:=hc 37 (1) (hG.1 37 (by omega));have c2:=hc 38 (1) (hG.1 38 (by omega));have c3:=hc 39 (2) (hG.1 39 (by omega));have c4:=hc 40 (1) (hG.1 40 (by omega));have c5:=hc 41 (1) (hG.1 41 (by omega));obtain ⟨d0,e0⟩:=c0;obtain ⟨d1,e1⟩:=c1;obtain ⟨d2,e2⟩:=c2;obtain ⟨d3,e3⟩:=c3;obtain ⟨d4,e4⟩:=c4;obtain ⟨d5,e5⟩:=c5;have hi:(Tryz.prog.info? 129).map (·.size)=some 6:=by kernel_rfl
 clear hc hG;go_enter Tryz.func66,Tryz.ntmps66;go_wp2;refine bodyPost_ret (v := .agg #[.int .i64 0,.int .i64 1,.int .i64 1,.int .i64 1,.int .i64 2,.int .i64 1]) (results_cell1 rfl _ _ w.heap.size 0 _ rfl ?_) rfl ?_
 ·refine run_loadVar_row _ _ 129 129 _ (0,0) _ ?_ Tryz.underlying129 rfl hi
  rw[heap_alloc_old _ _ (by simp)];exact heap_alloc_new _ _
 ·exact ⟨_,rfl,⟨1,1,rfl⟩,Below.alloc (Below.alloc (Below.refl _ _) (Nat.le_refl _) _) (by simp) _⟩
theorem of_any (L k:Nat) (w:World) (hL:L<=1) (hk:k<if L=1 then 7 else 1) (hG:GridAt w) :
  Calls Tryz.prog 66 #[.int .i64 (L:Int),.int .i64 (k:Int)] w fun r w'=>∃ v f1 s1 f2 s2,r = .returned v/\PassV v f1 s1 f2 s2/\f1<=8/\1<=s1/\s1<=8/\f2<=8/\1<=s2/\s2<=8/\(L=0->f1=0/\s1=1/\f2=0/\s2=1)/\(k=0->f1=0/\f2=0)/\Kept w w':=by
 have hLL:L=0\/L=1:=by omega
 rcases hLL with rfl | rfl
 ·exact (of0_any k w (by simp at hk;omega)).mono (fun r w' ⟨v,h1,h2,h3⟩=>⟨v,0,1,0,1,h1,h2,by omega,by omega,by omega,by omega,by omega,by omega,fun _=>⟨rfl,rfl,rfl,rfl⟩,fun _=>⟨rfl,rfl⟩,h3⟩)
 ·simp at hk
  have:k=0\/k=1\/k=2\/k=3\/k=4\/k=5\/k=6:=by omega
  rcases this with rfl | rfl | rfl | rfl | rfl | rfl | rfl
  ·exact (of1_0 w hG).mono (fun r w' ⟨v,h1,h2,h3⟩=>⟨v,_,_,_,_,h1,h2,by omega,by omega,by omega,by omega,by omega,by omega,fun h=>by omega,fun _=>⟨rfl,rfl⟩,h3⟩)
  ·exact (of1_1 w hG).mono (fun r w' ⟨v,h1,h2,h3⟩=>⟨v,_,_,_,_,h1,h2,by omega,by omega,by omega,by omega,by omega,by omega,fun h=>by omega,fun h=>by omega,h3⟩)
  ·exact (of1_2 w hG).mono (fun r w' ⟨v,h1,h2,h3⟩=>⟨v,_,_,_,_,h1,h2,by omega,by omega,by omega,by omega,by omega,by omega,fun h=>by omega,fun h=>by omega,h3⟩)
  ·exact (of1_3 w hG).mono (fun r w' ⟨v,h1,h2,h3⟩=>⟨v,_,_,_,_,h1,h2,by omega,by omega,by omega,by omega,by omega,by omega,fun h=>by omega,fun h=>by omega,h3⟩)
  ·exact (of1_4 w hG).mono (fun r w' ⟨v,h1,h2,h3⟩=>⟨v,_,_,_,_,h1,h2,by omega,by omega,by omega,by omega,by omega,by omega,fun h=>by omega,fun h=>by omega,h3⟩)
  ·exact (of1_5 w hG).mono (fun r w' ⟨v,h1,h2,h3⟩=>⟨v,_,_,_,_,h1,h2,by omega,by omega,by omega,by omega,by omega,by omega,fun h=>by omega,fun h=>by omega,h3⟩)
  ·exact (of1_6 w hG).mono (fun r w' ⟨v,h1,h2,h3⟩=>⟨v,_,_,_,_,h1,h2,by omega,by omega,by omega,by omega,by omega,by omega,fun h=>by omega,fun h=>by omega,h3⟩)
theorem zero263:Tryz.zeroCells125=#[.int .i64 0,.int .i64 0,.int .i64 0,.int .i64 0,.int .i64 0,.slice none 0 0,.int .i64 0]++Array.replicate 256 (.int .u8 0):=by kernel_rfl
theorem size263:(Tryz.zeroCells125).toList.length=263:=by rw[zero263,Array.toList_append,Array.toList_replicate,List.length_append,List.length_replicate];rfl
theorem lay_lines (W H D K L:Nat):∃ A:List Value,(((((Tryz.zeroCells125.toList.set 0 (.int .i64 (W:Int))).set 1 (.int .i64 (H:Int))).set 2 (.int .i64 (D:Int))).set 3 (.int .i64 (K:Int))).set 4 (.int .i64 (L:Int)))=A/\A.length=263/\A[0]? = some (.int .i64 (W:Int))/\A[1]? = some (.int .i64 (H:Int))/\A[2]? = some (.int .i64 (D:Int))/\A[3]? = some (.int .i64 (K:Int))/\A[4]? = some (.int .i64 (L:Int))/\A[5]? = some (.slice none 0 0)/\A[6]? = some (.int .i64 0)/\(∀ j,j<256->A[7+j]? = some (.int .u8 0))/\(∀ v ∈ A,v.oneCell'=true):=by
 have e:(((((Tryz.zeroCells125.toList.set 0 (.int .i64 (W:Int))).set 1 (.int .i64 (H:Int))).set 2 (.int .i64 (D:Int))).set 3 (.int .i64 (K:Int))).set 4 (.int .i64 (L:Int)))=[.int .i64 (W:Int),.int .i64 (H:Int),.int .i64 (D:Int),.int .i64 (K:Int),.int .i64 (L:Int),.slice none 0 0,.int .i64 0]++List.replicate 256 (.int .u8 0):=by
  rw[zero263,Array.toList_append,Array.toList_replicate];rfl
 refine ⟨_,e,by rw[List.length_append,List.length_replicate];rfl,rfl,rfl,rfl,rfl,rfl,rfl,rfl,?_,?_⟩
 ·intro j hj
  rw[List.getElem?_append_right (by simp)];rw[show 7+j - [Value.int .i64 (W:Int),.int .i64 (H:Int),.int .i64 (D:Int),.int .i64 (K:Int),.int .i64 (L:Int),.slice none 0 0,.int .i64 0].length=j by simp,List.getElem?_replicate,if_pos hj]
 ·intro v hv
  rcases List.mem_append.1 hv with h | h
  ·simp at h
   rcases h with rfl | rfl | rfl | rfl | rfl | rfl | rfl<;>rfl
  ·rw[(List.mem_replicate.1 h).2];rfl
theorem passLen_pos (W H C D s1 s2:Nat) (hW:1<=W) (hH:1<=H):0<passLen W H C D 0 s1 0 s2:=by
 unfold passLen;have h1:within 0 s1 W≠0:=by unfold within;rw[if_neg (by omega)];exact Nat.succ_ne_zero _
 have h2:0<within 0 s2 H:=by unfold within;rw[if_neg (by omega)];exact Nat.succ_pos _
 rw[if_neg h1];exact Nat.mul_pos h2 (by omega)
theorem passLen_le (W H C D f1 s1 f2 s2:Nat) (hW:W<=16) (hH:H<=16) (hC:C*D<=64):passLen W H C D f1 s1 f2 s2<=2064:=by
 unfold passLen;split
 ·omega
 ·have h1:within f1 s1 W*(C*D)<=1024:=Nat.le_trans (Nat.mul_le_mul (within_le hW) hC) (by decide)
  exact Nat.le_trans (Nat.mul_le_mul (within_le hH) (show 1+(within f1 s1 W*(C*D)+7) / 8<=129 by omega)) (by decide)
theorem bytes_any (W H D K L:Nat) (pv cv:Value) (pl cl:List Int) (w:World) (hk:legal K D) (hW1:1<=W) (hH1:1<=H) (hW:W<=16) (hH:H<=16) (hL:L<=1) (hG:GridAt w) (hp:LAt w .i64 pv pl) (hpb:∀ g,sliceBlock pv=some g->g<w.heap.size) (hpl:pl.length<=65536) (hpv:∀ y ∈ pl,0<=y/\y<65536) (hc:LAt w .i64 cv cl) (hcb:∀ g,sliceBlock cv=some g->g<w.heap.size) (hcl0:0<cl.length) (hcl:cl.length<=64) (hcv:∀ y ∈ cl,0<=y/\y<=4) :
  Calls Tryz.prog 43 #[.agg #[.int .i64 (W:Int),.int .i64 (H:Int),.int .i64 (D:Int),.int .i64 (K:Int),.int .i64 (L:Int)],pv,cv] w fun r w'=>∃ ov n,r = .returned ov/\Own8 w' w.heap.size ov n/\0<n/\n<=16384/\(L=0->n=passLen W H (chan K) D 0 1 0 1)/\Kept w w':=by
 obtain ⟨pp,pc,rfl⟩:=hp.form;obtain ⟨cp,cc,rfl⟩:=hc.form;obtain ⟨A,hAe,hAl,a0,a1,a2,a3,a4,a5,a6,a7,aone⟩:=lay_lines W H D K L;have hT:Hid (((w.alloc (Obj.cells #[.int .i64 (W:Int),.int .i64 (H:Int),.int .i64 (D:Int),.int .i64 (K:Int),.int .i64 (L:Int)] 66)).alloc (Obj.cells Tryz.zeroCells125 125)).there (w.heap.size+1) 0 A.length):=by
  intro j hj;refine ⟨?_,World.frozen?_alloc_at _ _ _ _ (by simp)⟩;rw[World.cell?_alloc_at _ _ _ _ (by simp)]
  have:j<(Tryz.zeroCells125).size:=by have:=size263;rw[Array.length_toList] at this;omega
  show ((Tryz.zeroCells125)[0+j]?).isSome=true
  rw[Nat.zero_add,Array.getElem?_eq_getElem this];rfl
 have hsc:(storeCells ⟨w.heap.size+1,0,none⟩ A).run Tryz.prog ((w.alloc (Obj.cells #[.int .i64 (W:Int),.int .i64 (H:Int),.int .i64 (D:Int),.int .i64 (K:Int),.int .i64 (L:Int)] 66)).alloc (Obj.cells Tryz.zeroCells125 125)) = .ok () (((w.alloc (Obj.cells #[.int .i64 (W:Int),.int .i64 (H:Int),.int .i64 (D:Int),.int .i64 (K:Int),.int .i64 (L:Int)] 66)).alloc (Obj.cells Tryz.zeroCells125 125)).setCells (w.heap.size+1) 0 A):=store_there hT.out aone;have hR:Hid ((((w.alloc (Obj.cells #[.int .i64 (W:Int),.int .i64 (H:Int),.int .i64 (D:Int),.int .i64 (K:Int),.int .i64 (L:Int)] 66)).alloc (Obj.cells Tryz.zeroCells125 125)).setCells (w.heap.size+1) 0 A).rangeAt (w.heap.size+1) 0 A):=World.rangeAt_setCells_same _ _ _ _ hT.out;have hF:Hid (∀ k,(((w.alloc (Obj.cells #[.int .i64 (W:Int),.int .i64 (H:Int),.int .i64 (D:Int),.int .i64 (K:Int),.int .i64 (L:Int)] 66)).alloc (Obj.cells Tryz.zeroCells125 125)).setCells (w.heap.size+1) 0 A).frozen? ⟨w.heap.size+1,k,none⟩=false):=fun k=>by rw[World.frozen?_setCells];exact World.frozen?_alloc_at _ _ _ _ (by simp)
 have hK:Hid (Kept w (((w.alloc (Obj.cells #[.int .i64 (W:Int),.int .i64 (H:Int),.int .i64 (D:Int),.int .i64 (K:Int),.int .i64 (L:Int)] 66)).alloc (Obj.cells Tryz.zeroCells125 125)).setCells (w.heap.size+1) 0 A)):=Kept.setCells (by omega) _ _ (Below.alloc (Below.alloc (Below.refl _ _) (Nat.le_refl _) _) (by simp) _);have hsz:Hid ((((w.alloc (Obj.cells #[.int .i64 (W:Int),.int .i64 (H:Int),.int .i64 (D:Int),.int .i64 (K:Int),.int .i64 (L:Int)] 66)).alloc (Obj.cells Tryz.zeroCells125 125)).setCells (w.heap.size+1) 0 A).heap.size=w.heap.size+2):=by show _=_;rw[setCells_size];simp
 have hh4:(((w.alloc (Obj.cells #[.int .i64 (W:Int),.int .i64 (H:Int),.int .i64 (D:Int),.int .i64 (K:Int),.int .i64 (L:Int)] 66)).alloc (Obj.cells Tryz.zeroCells125 125)).setCells (w.heap.size+1) 0 A).cell? ⟨w.heap.size,4,none⟩=some (.int .i64 (L:Int)):=by
  rw[World.cell?_setCells_out _ _ _ _ ⟨w.heap.size,4,none⟩ (fun e _=>by simp at e),World.cell?_alloc_lt _ _ _ (by simp),World.cell?_alloc_at _ _ _ _ rfl];rfl
 have FC:Hid (∀ W':World,Calls Tryz.prog 65 #[.int .i64 (L:Int)] W' fun r w'=>r = .returned (.int .i64 ((if L=1 then 7 else 1:Nat):Int))/\w'=W'):=fun W'=>count_any L W' hL
 obtain ⟨Cn,hCn⟩:∃ Cn,Cn=(if L=1 then 7 else 1:Nat):=⟨_,rfl⟩;rw[<- hCn] at FC;have hCb:Cn<=7:=by rw[hCn];split<;>omega
 replace hCn:Hid _:=hCn;replace a0:Hid _:=a0;replace a1:Hid _:=a1;replace a2:Hid _:=a2;replace a3:Hid _:=a3;replace a4:Hid _:=a4;replace a5:Hid _:=a5;replace a6:Hid _:=a6;replace a7:Hid _:=a7;clear aone;go_enter Tryz.func43,Tryz.ntmps43;go_wp2;generalize ((w.alloc (Obj.cells #[.int .i64 (W:Int),.int .i64 (H:Int),.int .i64 (D:Int),.int .i64 (K:Int),.int .i64 (L:Int)] 66)).alloc (Obj.cells Tryz.zeroCells125 125)).setCells (w.heap.size+1) 0 A=w2 at *;clear hsc hT hAe;have H2:Hid (LwAt w2 (w.heap.size+1) (w.heap.size+2) 0 0 W H D K L):=by
  have r:=hR.out;refine ⟨by omega,by rw[hsz.out];omega,hF.out,r 0 _ a0.out,r 1 _ a1.out,r 2 _ a2.out,r 3 _ a3.out,r 4 _ a4.out,⟨_,r 5 _ a5.out,Own8.nil _ _⟩,r 6 _ a6.out,?_,?_⟩
  ·intro j hj
   refine ⟨0,by omega,by omega,?_⟩
   have:=r (7+j) _ (a7.out j (by omega))
   rw[Nat.zero_add] at this;exact this
  ·intro j hj
   refine ⟨0,by omega,by omega,?_⟩
   have:=r (7+(128+j)) _ (a7.out (128+j) (by omega))
   rw[Nat.zero_add,show 7+(128+j)=135+j by omega] at this;exact this
 clear a0 a1 a2 a3 a4 a5 a6 a7 hR hF hAl;have hs2:w.heap.size<w2.heap.size:=by rw[hsz.out];omega
 have hPB:chan K*D<=64:=Nat.le_trans (Nat.mul_le_mul (@chan_le K).2 (show D<=16 by have:=hk.d;omega)) (by decide);have FO:Hid (∀ (W':World) (k:Nat),k<Cn->Lw (w.heap.size+1) (w.heap.size+2) 0 0 W H D K L w2 W'\/(∃ n c,Lw (w.heap.size+1) (w.heap.size+2) n c W H D K L w2 W')->Calls Tryz.prog 66 #[.int .i64 (L:Int),.int .i64 (k:Int)] W' fun r w'=>∃ v f1 s1 f2 s2,r = .returned v/\PassV v f1 s1 f2 s2/\f1<=8/\1<=s1/\s1<=8/\f2<=8/\1<=s2/\s2<=8/\(L=0->f1=0/\s1=1/\f2=0/\s2=1)/\(k=0->f1=0/\f2=0)/\Kept W' w'):=by
  intro W' k hk' hW';have hf:FrN (w.heap.size+1) (w.heap.size+2) w2 W':=by rcases hW' with h | ⟨n,c,h⟩<;>exact h.fr
  have hg0:4<w.heap.size:=hG.lt;exact of_any L k W' hL (by rw[<- hCn.out];exact hk') ((hG.kept hK.out).fr hf (fun i hi=>by omega))
 have FP:Hid (∀ (W':World) (n c f1 s1 f2 s2:Nat) (b1 b2:Int),Lw (w.heap.size+1) (w.heap.size+2) n c W H D K L w2 W'->n<=65536->c<=65536->f1<=8->1<=s1->s1<=8->f2<=8->1<=s2->s2<=8->Calls Tryz.prog 67 #[.pointer (some ⟨w.heap.size+1,0,none⟩),.agg #[.int .i64 (f1:Int),.int .i64 (s1:Int),.int .i64 b1,.int .i64 (f2:Int),.int .i64 (s2:Int),.int .i64 b2],.slice pp pl.length pc,.slice cp cl.length cc] W' fun r w'=>r = .returned (.tuple #[])/\∃ cnt',cnt'<=c+16/\Lw (w.heap.size+1) (w.heap.size+2) (n+passLen W H (chan K) D f1 s1 f2 s2) cnt' W H D K L W' w'):=by
  intro W' n c f1 s1 f2 s2 b1 b2 hW' h1 h2 h3 h4 h5 h6 h7 h8;exact writePass_any _ _ n c W H D K L f1 s1 f2 s2 b1 b2 _ _ pl cl W' hW'.at' hk hW hH h3 h4 h5 h6 h7 h8 ((hp.kept hK.out).fr hW'.fr (fun g hg=>by have:=hpb g hg;omega)) (fun g hg=>by have:=hpb g hg;omega) hpl hpv ((hc.kept hK.out).fr hW'.fr (fun g hg=>by have:=hcb g hg;omega)) (fun g hg=>by have:=hcb g hg;omega) hcl0 hcl hcv h1 h2
 have HPL:=fun f1 s1 f2 s2=>passLen_le W H (chan K) D f1 s1 f2 s2 hW hH hPB
 replace HPL:Hid _:=HPL;clear hp hc hpb hcb hcv hpv hG;go_loopw [8] (fun v W'=>∃ k n c:Nat,k<=Cn/\v = .int .i64 (k:Int)/\n<=2064*k/\c<=16*k/\(0<k->0<n)/\(L=0->n=k*passLen W H (chan K) D 0 1 0 1)/\Lw (w.heap.size+1) (w.heap.size+2) n c W H D K L w2 W') (fun v _=>Cn - (intOf v).toNat)
 case atStart=>exact ⟨0,0,0,by omega,rfl,by omega,by omega,fun h=>by omega,fun _=>by omega,Lw.refl H2.out⟩
 case round=>
  obtain ⟨k,n,c,hkC,rfl,hn,hcn,hpos,hL0,hW'⟩:=hrel;have h4:=(hW'.fr.cell hs2 (by omega)).trans hh4;replace hL0:Hid _:=hL0;clear H2;by_cases hlt:k<Cn
  ·have hlt':(k:Int)<(Cn:Int):=by omega
   have F1:=FO.out wr k hlt (Or.inr ⟨n,c,hW'⟩);replace F1:Hid _:=F1;replace hW':Hid (Lw (w.heap.size+1) (w.heap.size+2) n c W H D K L w2 wr):=hW';go_wp2_with fail;refine (FC.out _).mono ?_;rintro r wr ⟨rfl,rfl⟩;go_wp2_with fail;refine Calls.mono F1.out ?_;rintro r w5 ⟨v,f1,s1,f2,s2,rfl,⟨b1,b2,rfl⟩,g1,g2,g3,g4,g5,g6,g7,g8,hk5⟩;have H5:Hid (Lw (w.heap.size+1) (w.heap.size+2) n c W H D K L w2 (w5.alloc (Obj.cells #[.int .i64 (f1:Int),.int .i64 (s1:Int),.int .i64 b1,.int .i64 (f2:Int),.int .i64 (s2:Int),.int .i64 b2] 129))):=(hW'.out.kept hk5).kept (Below.alloc (Below.refl _ _) (Nat.le_refl _) _);have F2:=FP.out _ n c f1 s1 f2 s2 b1 b2 H5.out (by omega) (by omega) g1 g2 g3 g4 g5 g6;replace F2:Hid _:=F2;replace g7:Hid _:=g7;clear hk5;go_wp2_with fail;refine Calls.mono F2.out ?_;rintro r w6 ⟨rfl,c',hc',hw6⟩;have H6:Hid (Lw (w.heap.size+1) (w.heap.size+2) (n+passLen W H (chan K) D f1 s1 f2 s2) c' W H D K L w2 w6):=H5.out.trans hw6;have hb6:=HPL.out f1 s1 f2 s2;have HL0:Hid (L=0->n+passLen W H (chan K) D f1 s1 f2 s2=(k+1)*passLen W H (chan K) D 0 1 0 1):=by
    intro e;obtain ⟨q1,q2,q3,q4⟩:=g7.out e;rw[q1,q2,q3,q4,hL0.out e,Nat.succ_mul]
   have HPos:Hid (0<n+passLen W H (chan K) D f1 s1 f2 s2):=by
    rcases Nat.eq_zero_or_pos k with e | e
    ·obtain ⟨q1,q2⟩:=g8 e
     have:=passLen_pos W H (chan K) D s1 s2 hW1 hH1
     rw[q1,q2];show 0<_;omega
    ·have:=hpos e;show 0<_;omega
   clear g8;generalize passLen W H (chan K) D f1 s1 f2 s2=PL at *;clear hw6;go_wp2;exact ⟨⟨k+1,n+PL,c',by omega,by go_num,by omega,by omega,fun _=>HPos.out,HL0.out,H6.out⟩,by simp [intOf];omega⟩
  ·have hlt':¬ (k:Int)<(Cn:Int):=by omega
   have hke:k=Cn:=by omega
   obtain ⟨ov,h5,ho⟩:=hW'.at'.out;replace ho:Hid _:=ho;replace hW':Hid (Lw (w.heap.size+1) (w.heap.size+2) n c W H D K L w2 wr):=hW';go_wp2_with fail;refine (FC.out _).mono ?_;rintro r wr ⟨rfl,rfl⟩;go_wp2;go_ret;have hCpos:0<Cn:=by have:=hCn.out;split at this<;>omega
   refine ⟨ov,n,rfl,?_,hpos (by omega),by omega,fun e => ?_,Fr.to_kept hK.out hW'.out.fr (fun i hi=>by omega)⟩
   ·obtain ⟨l,q1,q2,q3⟩:=ho.out
    exact ⟨l,q1,q2,own_base q3 (by omega)⟩
   ·have:=hL0.out e
    rw[this,hke,hCn.out,e];simp
