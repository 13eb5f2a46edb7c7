import Derived.Test.YtmbmecfodigciaaGreatDoorTu44
set_option maxRecDepth 100000
set_option maxHeartbeats 6400000
namespace Go.Proofs.YtmbmecfodigciaaGreatDoor
open Go.RowKit Px
set_option linter.unusedSimpArgs false
set_option linter.unusedVariables false
theorem rdHead_x (b o n:Nat) (c:Nat->Value) (s:Rd) (w:World) (hB:Blk w b n c) (hV:RdV c o s) (hn:o+5954<=n) :
  Calls Tryz.prog 42 #[.pointer (some ⟨b,o,none⟩)] w fun e w'=>e = .returned (.agg #[.int .i64 (s.hd.W:Int),.int .i64 (s.hd.H:Int),.int .i64 (s.hd.D:Int),.int .i64 (s.hd.K:Int),.int .i64 (s.hd.L:Int)])/\Kept w w':=by
 have hbw:=hB.lt
 have K0:Hid (Kept w (w.alloc (Obj.cells #[.int .i64 0,.int .i64 0,.int .i64 0,.int .i64 0,.int .i64 0] 71))):=Below.alloc (Below.refl _ _) (Nat.le_refl _) _
 obtain ⟨h0,h1,h2,h3,h4⟩:=hdS_of (hB.kept K0.out) hV.hd (by omega)
 clear hB hV
 go_enter Tryz.func42,Tryz.ntmps42
 go_wp2
 refine bodyPost_ret (v := .agg #[.int .i64 (s.hd.W:Int),.int .i64 (s.hd.H:Int),.int .i64 (s.hd.D:Int),.int .i64 (s.hd.K:Int),.int .i64 (s.hd.L:Int)]) (results_cell1 rfl _ _ w.heap.size 0 _ rfl ?_) rfl ?_
 ·refine run_loadVar_row _ _ 71 71 _ (0,0) _ ?_ Tryz.underlying71 rfl info5
  exact heap_alloc_new _ _
 ·exact ⟨rfl,Below.alloc (Below.refl _ _) (Nat.le_refl _) _⟩
def snZ:Array Value:=#[.int .i64 0,.int .i64 0,.bool false,.int .i64 0,.int .i64 0,.int .i64 0,.int .i64 0,.int .i64 0,.slice none 0 0,.slice none 0 0,.slice none 0 0]
theorem info11:(Tryz.prog.info? 50).map (·.size)=some 11:=by kernel_rfl
