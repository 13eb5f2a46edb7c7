import Derived.Test.YtmbmecfodigciaaGreatDoorTu24
namespace Go.Proofs.YtmbmecfodigciaaGreatDoor
open Go.RowKit Px
set_option linter.unusedSimpArgs false
set_option linter.unusedVariables false
structure ClA (w W:World) (h:Hd) (s0 s1 s2 s3:Int):Prop where
 K:Kept w W
 D:W.cell? ⟨w.heap.size,2,none⟩=some (.int .i64 (h.D:Int))
 Kd:W.cell? ⟨w.heap.size,3,none⟩=some (.int .i64 (h.K:Int))
 cW:W.cell? ⟨w.heap.size,0,none⟩=some (.int .i64 (h.W:Int))
 cH:W.cell? ⟨w.heap.size,1,none⟩=some (.int .i64 (h.H:Int))
 cL:W.cell? ⟨w.heap.size,4,none⟩=some (.int .i64 (h.L:Int))
 S:FourAt W (w.heap.size+1) (pick4 s0 s1 s2 s3)
 R:∃ f,FourAt W (w.heap.size+2) f
 Z:∀ j,W.frozen? ⟨w.heap.size+2,j,none⟩=false
theorem ClA.kept {w W W':World} {h:Hd} {s0 s1 s2 s3:Int} (a:ClA w W h s0 s1 s2 s3) (k:Kept W W'):ClA w W' h s0 s1 s2 s3:=by
 have l0:w.heap.size<W.heap.size:=World.block_lt_of_cell? W ⟨w.heap.size,0,none⟩ a.cW
 obtain ⟨f,hf⟩:=a.R
 have l2:w.heap.size+2<W.heap.size:=World.block_lt_of_cell? W ⟨w.heap.size+2,0,none⟩ hf.1
 exact ⟨a.K.trans k,(k.cell (p:=⟨w.heap.size,2,none⟩) l0).trans a.D,(k.cell (p:=⟨w.heap.size,3,none⟩) l0).trans a.Kd,(k.cell (p:=⟨w.heap.size,0,none⟩) l0).trans a.cW,(k.cell (p:=⟨w.heap.size,1,none⟩) l0).trans a.cH,(k.cell (p:=⟨w.heap.size,4,none⟩) l0).trans a.cL,a.S.kept k,⟨f,hf.kept k⟩,fun j=>(k.frozen (p:=⟨w.heap.size+2,j,none⟩) l2).trans (a.Z j)⟩
theorem ClA.fr {w W W':World} {h:Hd} {s0 s1 s2 s3:Int} {g:Nat} (a:ClA w W h s0 s1 s2 s3) (k:Fr1 g W W') (hg:w.heap.size+2<g):ClA w W' h s0 s1 s2 s3:=by
 have l0:w.heap.size<W.heap.size:=World.block_lt_of_cell? W ⟨w.heap.size,0,none⟩ a.cW
 obtain ⟨f,hf⟩:=a.R
 have l2:w.heap.size+2<W.heap.size:=World.block_lt_of_cell? W ⟨w.heap.size+2,0,none⟩ hf.1
 exact ⟨Fr.to_kept a.K k (fun i hi q=>by omega),(k.cell l0 (by omega)).trans a.D,(k.cell l0 (by omega)).trans a.Kd,(k.cell l0 (by omega)).trans a.cW,(k.cell l0 (by omega)).trans a.cH,(k.cell l0 (by omega)).trans a.cL,a.S.fr k (by omega),⟨f,hf.fr k (by omega)⟩,fun j=>(k.frozen l2 (by omega)).trans (a.Z j)⟩
theorem ClA.done {w W:World} {h:Hd} {s0 s1 s2 s3:Int} (a:ClA w W h s0 s1 s2 s3) (x0 x1 x2 x3:Int):FourAt ((((W.setCell ⟨w.heap.size+2,0,none⟩ (.int .i64 x0)).setCell ⟨w.heap.size+2,1,none⟩ (.int .i64 x1)).setCell ⟨w.heap.size+2,2,none⟩ (.int .i64 x2)).setCell ⟨w.heap.size+2,3,none⟩ (.int .i64 x3)) (w.heap.size+2) (pick4 x0 x1 x2 x3)/\Kept w ((((W.setCell ⟨w.heap.size+2,0,none⟩ (.int .i64 x0)).setCell ⟨w.heap.size+2,1,none⟩ (.int .i64 x1)).setCell ⟨w.heap.size+2,2,none⟩ (.int .i64 x2)).setCell ⟨w.heap.size+2,3,none⟩ (.int .i64 x3)):=by
 obtain ⟨f,hf⟩:=a.R
 exact ⟨hf.put x0 x1 x2 x3,(((a.K.setCell (Nat.le_add_right _ _) _).setCell (Nat.le_add_right _ _) _).setCell (Nat.le_add_right _ _) _).setCell (Nat.le_add_right _ _) _⟩
theorem four_other (W:World) {g q:Nat} (h:q≠g) (j:Nat) (x0 x1 x2 x3:Value):((((W.setCell ⟨g,0,none⟩ x0).setCell ⟨g,1,none⟩ x1).setCell ⟨g,2,none⟩ x2).setCell ⟨g,3,none⟩ x3).cell? ⟨q,j,none⟩=W.cell? ⟨q,j,none⟩:=by
 rw[cell_set_blk _ _ _ _ h,cell_set_blk _ _ _ _ h,cell_set_blk _ _ _ _ h,cell_set_blk _ _ _ _ h]
