import Derived.Test.YtmbmecfodigciaaGreatDoorMo41
set_option maxRecDepth 100000
set_option maxHeartbeats 6400000
namespace Go.Proofs.YtmbmecfodigciaaGreatDoor
open Go.RowKit Px
set_option linter.unusedSimpArgs false
set_option linter.unusedVariables false
structure PicOk (c:Nat→Value) (o1 o2 n:Nat) (r:Rw) (t:Tl) (h:Hd):Prop where
 V:RwV c o1 r
 T:TlV c o2 t
 n1:o1+1549≤n
 n2:o2+1026≤n
 cl:∀ j,t.clear j<256
 sm:∀ j,r.smp j<65536
 K:h.K≤6
 W1:1≤h.W
 W2:h.W≤16
 H1:1≤h.H
 H2:h.H≤16
 L:h.L≤1
def hdS (W:World) (b o:Nat) (h:Hd):Prop:=W.cell? ⟨b,o,none⟩=some (.int .i64 (h.W:Int))∧W.cell? ⟨b,o+1,none⟩=some (.int .i64 (h.H:Int))∧W.cell? ⟨b,o+2,none⟩=some (.int .i64 (h.D:Int))∧W.cell? ⟨b,o+3,none⟩=some (.int .i64 (h.K:Int))∧W.cell? ⟨b,o+4,none⟩=some (.int .i64 (h.L:Int))
theorem hdS_of {W:World} {b o n:Nat} {c:Nat→Value} {h:Hd} (hB:Blk W b n c) (hV:HdV c o h) (hn:o+5≤n):hdS W b o h:=⟨hB.at (by omega) hV.W,hB.at (by omega) hV.H,hB.at (by omega) hV.D,hB.at (by omega) hV.K,hB.at (by omega) hV.L⟩
def KnEx (w:World) (r:Rw) (h:Hd) (e:Ending) (w':World):Prop:=∃ g,e = .returned (.slice (some ⟨g,0,none⟩) (h.W*h.H) (h.W*h.H))∧w.heap.size≤g∧g<w'.heap.size∧(∀ j,j<h.W*h.H→w'.cell? ⟨g,j,none⟩=some (.int .i64 (if r.known (j / h.W*16+j % h.W) then 1 else 0)))
theorem rdKnown_x (b o n:Nat) (c:Nat→Value) (s:Rd) (w:World) (hB:Blk w b n c) (hV:RdV c o s) (hn:o+5954≤n) (hW:1≤s.hd.W) (hW2:s.hd.W≤16) (hH:1≤s.hd.H) (hH2:s.hd.H≤16) :
  Calls Tryz.prog 43 #[.pointer (some ⟨b,o,none⟩)] w fun e w'=>KnEx w s.rw s.hd e w'∧Kept w w':=by
 have HS:Hid (∀ W,Kept w W→hdS W b (o+6) s.hd):=fun W k=>hdS_of (hB.kept k) hV.hd (by omega)
 have F:Hid (∀ W,Kept w W→Calls Tryz.prog 56 #[.agg #[.int .i64 (s.hd.W:Int),.int .i64 (s.hd.H:Int),.int .i64 (s.hd.D:Int),.int .i64 (s.hd.K:Int),.int .i64 (s.hd.L:Int)],.pointer (some ⟨b,o+4401,none⟩)] W fun e w'=>∃ g,e = .returned (.slice (some ⟨g,0,none⟩) (s.hd.W*s.hd.H) (s.hd.W*s.hd.H))∧W.heap.size≤g∧(∀ j,j<s.hd.W*s.hd.H→w'.cell? ⟨g,j,none⟩=some (.int .i64 (if s.rw.known (j / s.hd.W*16+j % s.hd.W) then 1 else 0)))∧Kept W w'):=fun W k=>pknown_x b (o+4401) n c s.rw s.hd W (hB.kept k) hV.rw (by omega) hW hW2 hH hH2
 have hpos:0<s.hd.W*s.hd.H:=Nat.mul_pos hW hH
 clear hB hV
 unfold hdS at HS
 go_enter Tryz.func43,Tryz.ntmps43
 go_wp2_with fail
 go_region_held3 (fun W=>W.cell? ⟨b,o+6,none⟩=some (.int .i64 (s.hd.W:Int))∧W.cell? ⟨b,o+6+1,none⟩=some (.int .i64 (s.hd.H:Int))∧W.cell? ⟨b,o+6+2,none⟩=some (.int .i64 (s.hd.D:Int))∧W.cell? ⟨b,o+6+3,none⟩=some (.int .i64 (s.hd.K:Int))∧W.cell? ⟨b,o+6+4,none⟩=some (.int .i64 (s.hd.L:Int))) (first | exact HS.out _ ((Kept.refl _).drewN 1) | exact HS.out _ hk2 | go_keep) ((go_at_call 56;refine (F.out _ ((Kept.refl _).drewN 1)).mono ?_;rintro e w2 ⟨g,rfl,hg,hce,hk2'⟩;have hk2:Kept w w2:=((Kept.refl _).drewN 1).trans hk2'))
 replace hce:Hid _:=hce
 replace hg:Hid _:=hg
 go_wp2_with fail
 go_ret
 exact ⟨⟨g,rfl,hg.out,World.block_lt_of_cell? w2 ⟨g,0,none⟩ (hce.out 0 hpos),hce.out⟩,hk2⟩
theorem info5:(Tryz.prog.info? 71).map (·.size)=some 5:=by kernel_rfl
theorem rdEnded_x (b o n:Nat) (c:Nat→Value) (s:Rd) (w:World) (hB:Blk w b n c) (hV:RdV c o s) (hn:o+5954≤n) :
  Calls Tryz.prog 41 #[.pointer (some ⟨b,o,none⟩)] w fun e w'=>e = .returned (.bool (decide (s.part=5)))∧w'=w:=by
 have k0:=hB.at (i:=o) (by omega) hV.part
 clear hB hV
 go_enter Tryz.func41,Tryz.ntmps41
 go_wp2
 go_ret
 exact ⟨ret_bool (by rw[Bool.eq_iff_iff,beq_iff_eq,decide_eq_true_iff];omega),rfl⟩
end Go.Proofs.YtmbmecfodigciaaGreatDoor
