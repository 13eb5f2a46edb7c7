import Derived.Test.YtmbmecfodigciaaGreatDoorGr02
import Derived.Test.YtmbmecfodigciaaGreatDoorGr03
import Derived.Test.YtmbmecfodigciaaGreatDoorGr01
import Derived.Deep.RegionHeld3
import Derived.Lib.SmallJoins
import Derived.Laws.BytesArg
set_option maxRecDepth 100000
set_option maxHeartbeats 6400000
namespace Go.Proofs.YtmbmecfodigciaaGreatDoor
open Go.RowKit
set_option linter.unusedSimpArgs false
set_option linter.unusedVariables false
theorem image_any (W H K D:Nat) (pp qp xp:Option Addr) (pc qc xc:Nat) (pal clr pix:List Int) (w:World) (h:OkIm W H K D pal clr pix) (hp:LAt w .i64 (.slice pp pal.length pc) pal) (hq:LAt w .i64 (.slice qp clr.length qc) clr) (hx:LAt w .i64 (.slice xp pix.length xc) pix) :
  Calls Tryz.prog 48 #[.agg #[.int .i64 (W:Int),.int .i64 (H:Int),.int .i64 (K:Int),.int .i64 (D:Int),.slice pp pal.length pc,.slice qp clr.length qc,.slice xp pix.length xc]] w fun r w'=>r = .returned (.int .i64 0)∧Kept w w':=by
 have hk0:Kept w (w.alloc (Obj.cells #[.int .i64 (W:Int),.int .i64 (H:Int),.int .i64 (K:Int),.int .i64 (D:Int),.slice pp pal.length pc,.slice qp clr.length qc,.slice xp pix.length xc] 33)):=Below.alloc (Below.refl _ _) (Nat.le_refl _) _
 have hch:∀ k u,#[Value.int .i64 (W:Int),.int .i64 (H:Int),.int .i64 (K:Int),.int .i64 (D:Int),.slice pp pal.length pc,.slice qp clr.length qc,.slice xp pix.length xc][k]? = some u→(w.alloc (Obj.cells #[.int .i64 (W:Int),.int .i64 (H:Int),.int .i64 (K:Int),.int .i64 (D:Int),.slice pp pal.length pc,.slice qp clr.length qc,.slice xp pix.length xc] 33)).cell? ⟨w.heap.size,k,none⟩=some u:=by
  intro k u hu
  rw[World.cell?_alloc_at _ _ _ _ rfl];exact hu
 have hs0:w.heap.size<(w.alloc (Obj.cells #[.int .i64 (W:Int),.int .i64 (H:Int),.int .i64 (K:Int),.int .i64 (D:Int),.slice pp pal.length pc,.slice qp clr.length qc,.slice xp pix.length xc] 33)).heap.size:=by simp
 have HC:Hid (∀ W':World,Kept (w.alloc (Obj.cells #[.int .i64 (W:Int),.int .i64 (H:Int),.int .i64 (K:Int),.int .i64 (D:Int),.slice pp pal.length pc,.slice qp clr.length qc,.slice xp pix.length xc] 33)) W'→(W'.cell? ⟨w.heap.size,0,none⟩=some (.int .i64 (W:Int))∧W'.cell? ⟨w.heap.size,1,none⟩=some (.int .i64 (H:Int))∧W'.cell? ⟨w.heap.size,2,none⟩=some (.int .i64 (K:Int))∧W'.cell? ⟨w.heap.size,3,none⟩=some (.int .i64 (D:Int))∧W'.cell? ⟨w.heap.size,4,none⟩=some (.slice pp pal.length pc)∧W'.cell? ⟨w.heap.size,5,none⟩=some (.slice qp clr.length qc)∧W'.cell? ⟨w.heap.size,6,none⟩=some (.slice xp pix.length xc))):=fun W' k=>⟨(k.cell (p:=⟨w.heap.size,0,none⟩) hs0).trans (hch 0 _ rfl),(k.cell (p:=⟨w.heap.size,1,none⟩) hs0).trans (hch 1 _ rfl),(k.cell (p:=⟨w.heap.size,2,none⟩) hs0).trans (hch 2 _ rfl),(k.cell (p:=⟨w.heap.size,3,none⟩) hs0).trans (hch 3 _ rfl),(k.cell (p:=⟨w.heap.size,4,none⟩) hs0).trans (hch 4 _ rfl),(k.cell (p:=⟨w.heap.size,5,none⟩) hs0).trans (hch 5 _ rfl),(k.cell (p:=⟨w.heap.size,6,none⟩) hs0).trans (hch 6 _ rfl)⟩
 have F1:Hid (∀ (W':World),Calls Tryz.prog 59 #[.int .i64 (W:Int)] W' fun r w'=>r = .returned (.bool true)∧w'=W'):=fun W'=>isSide_any W W' h.w1 h.w2
 have F2:Hid (∀ (W':World),Calls Tryz.prog 59 #[.int .i64 (H:Int)] W' fun r w'=>r = .returned (.bool true)∧w'=W'):=fun W'=>isSide_any H W' h.h1 h.h2
 have F3:Hid (∀ (W':World),Calls Tryz.prog 60 #[.int .i64 (K:Int),.int .i64 (D:Int)] W' fun r w'=>r = .returned (.bool true)∧w'=W'):=fun W'=>fits_any K D W' h.lg
 have F4:Hid (∀ W',Kept (w.alloc (Obj.cells #[.int .i64 (W:Int),.int .i64 (H:Int),.int .i64 (K:Int),.int .i64 (D:Int),.slice pp pal.length pc,.slice qp clr.length qc,.slice xp pix.length xc] 33)) W'→Calls Tryz.prog 61 #[.agg #[.int .i64 (W:Int),.int .i64 (H:Int),.int .i64 (K:Int),.int .i64 (D:Int),.slice pp pal.length pc,.slice qp clr.length qc,.slice xp pix.length xc]] W' fun r w'=>r = .returned (.bool true)∧Kept W' w'):=fun W' k=>isPal_any W H K D _ _ _ pal clr pix W' h ((hp.kept hk0).kept k)
 have F5:Hid (∀ W',Kept (w.alloc (Obj.cells #[.int .i64 (W:Int),.int .i64 (H:Int),.int .i64 (K:Int),.int .i64 (D:Int),.slice pp pal.length pc,.slice qp clr.length qc,.slice xp pix.length xc] 33)) W'→Calls Tryz.prog 62 #[.agg #[.int .i64 (W:Int),.int .i64 (H:Int),.int .i64 (K:Int),.int .i64 (D:Int),.slice pp pal.length pc,.slice qp clr.length qc,.slice xp pix.length xc]] W' fun r w'=>r = .returned (.bool true)∧Kept W' w'):=fun W' k=>isClr_any W H K D pp qp xp pc qc xc pal clr pix W' h ((hp.kept hk0).kept k) ((hq.kept hk0).kept k) ((hx.kept hk0).kept k)
 have F6:Hid (∀ W',Kept (w.alloc (Obj.cells #[.int .i64 (W:Int),.int .i64 (H:Int),.int .i64 (K:Int),.int .i64 (D:Int),.slice pp pal.length pc,.slice qp clr.length qc,.slice xp pix.length xc] 33)) W'→Calls Tryz.prog 63 #[.agg #[.int .i64 (W:Int),.int .i64 (H:Int),.int .i64 (K:Int),.int .i64 (D:Int),.slice pp pal.length pc,.slice qp clr.length qc,.slice xp pix.length xc]] W' fun r w'=>r = .returned (.bool true)∧Kept W' w'):=fun W' k=>isPix_any W H K D pp qp xp pc qc xc pal clr pix W' h ((hp.kept hk0).kept k) ((hq.kept hk0).kept k) ((hx.kept hk0).kept k)
 clear h hp hq hx
 replace hk0:Hid _:=hk0
 replace hch:Hid _:=hch
 go_enter Tryz.func48,Tryz.ntmps48
 go_wp2_with fail
 generalize (w.alloc (Obj.cells #[.int .i64 (W:Int),.int .i64 (H:Int),.int .i64 (K:Int),.int .i64 (D:Int),.slice pp pal.length pc,.slice qp clr.length qc,.slice xp pix.length xc] 33))=w0 at *
 obtain ⟨z0,z1,z2,z3,z4,z5,z6⟩:=HC.out w0 (Kept.refl _)
 refine (F1.out _).mono ?_
 rintro r w0 ⟨rfl,rfl⟩
 go_wp2_with fail
 refine (F2.out _).mono ?_
 rintro r w0 ⟨rfl,rfl⟩
 go_wp2_with fail
 refine (F3.out _).mono ?_
 rintro r w0 ⟨rfl,rfl⟩
 go_wp2_with fail
 refine (F4.out _ (Kept.refl _)).mono ?_
 rintro r w1 ⟨rfl,hk1⟩
 clear z0 z1 z2 z3 z4 z5 z6
 obtain ⟨z0,z1,z2,z3,z4,z5,z6⟩:=HC.out w1 hk1
 replace hk1:Hid (Kept w0 w1):=hk1
 go_wp2_with fail
 refine (F5.out _ hk1.out).mono ?_
 rintro r w2 ⟨rfl,hk2⟩
 clear z0 z1 z2 z3 z4 z5 z6
 have HK2:Hid (Kept w0 w2):=hk1.out.trans hk2
 obtain ⟨z0,z1,z2,z3,z4,z5,z6⟩:=HC.out w2 HK2.out
 clear hk2
 go_wp2_with fail
 refine (F6.out _ HK2.out).mono ?_
 rintro r w3 ⟨rfl,hk3⟩
 go_wp2
 go_ret
 exact ⟨rfl,Kept.trans hk0.out (HK2.out.trans hk3)⟩
theorem heap_alloc_at (w:World) (o:Obj) (n:Nat) (hn:n=w.heap.size):(w.alloc o).heap[n]? = some o:=by subst hn;exact heap_alloc_new w o
def S0 (x N:Nat):Nat→Prop:=fun g=>g=x∨N≤g
def S1 (x N d:Nat):Nat→Prop:=fun g=>(g=x∨N≤g)∧g≠d
theorem made8 (n j:Nat) (h:j<n):(madeCells #[Value.int .u8 0] n).toList[j]? = some (.int .u8 0):=by
 simp [madeCells,h,Nat.mod_one]
end Go.Proofs.YtmbmecfodigciaaGreatDoor
