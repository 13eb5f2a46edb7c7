import Derived.Test.YtgooinallljbpaaGreatDoorSh00
import Derived.Test.YtgooinallljbpaaGreatDoorSh25
set_option linter.all false
namespace Go.Proofs.YtgooinallljbpaaGreatDoor
open Go.RowKit Px Tryz
structure ClA (w W:World) (h:Hd) (s0 s1 s2 s3:Int):Prop where
 K:Kept w W
 D:W.cell? ⟨w.heap.size,2,none⟩=some (.int .i64 (h.D:Int))
 Kd:W.cell? ⟨w.heap.size,3,none⟩=some (.int .i64 (h.K:Int))
 cW:W.cell? ⟨w.heap.size,0,none⟩=some (.int .i64 (h.W:Int))
 cH:W.cell? ⟨w.heap.size,1,none⟩=some (.int .i64 (h.H:Int))
 cL:W.cell? ⟨w.heap.size,4,none⟩=some (.int .i64 (h.L:Int))
 S:aS W (w.heap.size+1) (aP s0 s1 s2 s3)
 R:∃f,aS W (w.heap.size+2) f
 Z:∀j,W.frozen? ⟨w.heap.size+2,j,none⟩=false
theorem ClA.kept{w W W' h s0 s1 s2 s3}(a:ClA w W h s0 s1 s2 s3)(k:Kept W W'):ClA w W' h s0 s1 s2 s3:=by
 have b:=B W ⟨w.heap.size,0,none⟩ a.cW;obtain⟨e,c⟩:=a.R;have f:=B W ⟨w.heap.size+2,0,none⟩ c.1;exact⟨a.K.trans k,(k.cell (p:=⟨w.heap.size,2,none⟩) b).trans a.D,(k.cell (p:=⟨w.heap.size,3,none⟩) b).trans a.Kd,(k.cell (p:=⟨w.heap.size,0,none⟩) b).trans a.cW,(k.cell (p:=⟨w.heap.size,1,none⟩) b).trans a.cH,(k.cell (p:=⟨w.heap.size,4,none⟩) b).trans a.cL,a.S.kept k,⟨e,c.kept k⟩,λd=>(k.frozen (p:=⟨w.heap.size+2,d,none⟩) f).trans (a.Z d)⟩
theorem ClA.fr{w W W' h s0 s1 s2 s3 g}(a:ClA w W h s0 s1 s2 s3)(k:Fr1 g W W')(i:w.heap.size+2<g):ClA w W' h s0 s1 s2 s3:=by
 have b:w.heap.size<W.heap.size:=B W ⟨w.heap.size,0,none⟩ a.cW;obtain⟨d,c⟩:=a.R;have e:w.heap.size+2<W.heap.size:=B W ⟨w.heap.size+2,0,none⟩ c.1;exact⟨Fr.to_kept a.K k (λj l m=>O),(k.cell b O).trans a.D,(k.cell b O).trans a.Kd,(k.cell b O).trans a.cW,(k.cell b O).trans a.cH,(k.cell b O).trans a.cL,a.S.fr k O,⟨d,c.fr k O⟩,λf=>(k.frozen e O).trans (a.Z f)⟩
theorem ClA.done{w W h s0 s1 s2 s3}(a:ClA w W h s0 s1 s2 s3)x0 x1 x2 x3:aS ((((W.setCell ⟨w.heap.size+2,0,none⟩ (.int .i64 x0)).setCell ⟨w.heap.size+2,1,none⟩ (.int .i64 x1)).setCell ⟨w.heap.size+2,2,none⟩ (.int .i64 x2)).setCell ⟨w.heap.size+2,3,none⟩ (.int .i64 x3)) (w.heap.size+2) (aP x0 x1 x2 x3)/\Kept w ((((W.setCell ⟨w.heap.size+2,0,none⟩ (.int .i64 x0)).setCell ⟨w.heap.size+2,1,none⟩ (.int .i64 x1)).setCell ⟨w.heap.size+2,2,none⟩ (.int .i64 x2)).setCell ⟨w.heap.size+2,3,none⟩ (.int .i64 x3)):=by
 obtain⟨c,b⟩:=a.R;exact⟨b.put x0 x1 x2 x3,(((a.K.setCell (XG _ _) _).setCell (XG _ _) _).setCell (XG _ _) _).setCell (XG _ _) _⟩
theorem aZ(W:World){g q}(h:q≠g)j x0 x1 x2 x3:((((W.setCell ⟨g,0,none⟩ x0).setCell ⟨g,1,none⟩ x1).setCell ⟨g,2,none⟩ x2).setCell ⟨g,3,none⟩ x3).cell? ⟨q,j,none⟩=W.cell? ⟨q,j,none⟩:=by
 rw[aO _ _ _ _ h,aO _ _ _ _ h,aO _ _ _ _ h,aO _ _ _ _ h]
structure qs (c:Nat->Value) (o1 o2 n:Nat) (r:Rw) (t:Tl) (h:Hd):Prop where
 V:RwV c o1 r
 T:TlV c o2 t
 n1:o1+1549<=n
 n2:o2+1026<=n
 cl:∀j,t.clear j<256
 sm:∀j,r.smp j<65536
 K:h.K<=6
 W1:1<=h.W
 W2:h.W<=16
 H1:1<=h.H
 H2:h.H<=16
 L:h.L<=1
