import Derived.Test.YtmbmecfodigciaaGreatDoorTu39
import Derived.Test.YtmbmecfodigciaaGreatDoorTu43
import Derived.Deep.RegionHeld3
import Derived.Test.YtmbmecfodigciaaGreatDoorTu25
set_option maxRecDepth 100000
set_option maxHeartbeats 6400000
namespace Go.Proofs.YtmbmecfodigciaaGreatDoor
open Go.RowKit
set_option linter.unusedSimpArgs false
set_option linter.unusedVariables false
structure Dk (W:World) (x wd H K D L P V Z:Nat) (pp qp xp fp kp cp:Option Addr) (pc qc xc fc kc cc:Nat) (pal clr pix fl kl cl:List Int):Prop where
 xs:x<W.heap.size
 im:OkIm wd H K D pal clr pix
 ch:OkCh L P V fl kl cl
 z:Z<=64
 fz:∀ k,W.frozen? ⟨x,k,none⟩=false
 c0:W.cell? ⟨x,0,none⟩=some (.int .i64 (wd:Int))
 c1:W.cell? ⟨x,1,none⟩=some (.int .i64 (H:Int))
 c2:W.cell? ⟨x,2,none⟩=some (.int .i64 (K:Int))
 c3:W.cell? ⟨x,3,none⟩=some (.int .i64 (D:Int))
 c4:W.cell? ⟨x,4,none⟩=some (.slice pp pal.length pc)
 c5:W.cell? ⟨x,5,none⟩=some (.slice qp clr.length qc)
 c6:W.cell? ⟨x,6,none⟩=some (.slice xp pix.length xc)
 c7:W.cell? ⟨x,7,none⟩=some (.int .i64 (L:Int))
 c8:W.cell? ⟨x,8,none⟩=some (.slice fp fl.length fc)
 c9:W.cell? ⟨x,9,none⟩=some (.slice kp kl.length kc)
 c10:W.cell? ⟨x,10,none⟩=some (.int .i64 (P:Int))
 c11:W.cell? ⟨x,11,none⟩=some (.slice cp cl.length cc)
 c12:W.cell? ⟨x,12,none⟩=some (.int .i64 (V:Int))
 c13:W.cell? ⟨x,13,none⟩=some (.int .i64 (Z:Int))
 c14:∃ u,W.cell? ⟨x,14,none⟩=some u
 lp:LAt W .i64 (.slice pp pal.length pc) pal
 lq:LAt W .i64 (.slice qp clr.length qc) clr
 lx:LAt W .i64 (.slice xp pix.length xc) pix
 lf:LAt W .i64 (.slice fp fl.length fc) fl
 lk:LAt W .i64 (.slice kp kl.length kc) kl
 lc:LAt W .i64 (.slice cp cl.length cc) cl
 bp:∀ g,sliceBlock (.slice pp pal.length pc)=some g->g≠x/\g<W.heap.size
 bq:∀ g,sliceBlock (.slice qp clr.length qc)=some g->g≠x/\g<W.heap.size
 bx:∀ g,sliceBlock (.slice xp pix.length xc)=some g->g≠x/\g<W.heap.size
 bf:∀ g,sliceBlock (.slice fp fl.length fc)=some g->g≠x/\g<W.heap.size
 bk:∀ g,sliceBlock (.slice kp kl.length kc)=some g->g≠x/\g<W.heap.size
 bc:∀ g,sliceBlock (.slice cp cl.length cc)=some g->g≠x/\g<W.heap.size
 grid:GridAt W
 kp:pal.length<=pc
 kx:pix.length<=xc
theorem Dk.kept {W W':World} {x wd H K D L P V Z:Nat} {pp qp xp fp kp cp:Option Addr} {pc qc xc fc kc cc:Nat} {pal clr pix fl kl cl:List Int} (h:Dk W x wd H K D L P V Z pp qp xp fp kp cp pc qc xc fc kc cc pal clr pix fl kl cl) (k:Kept W W'):Dk W' x wd H K D L P V Z pp qp xp fp kp cp pc qc xc fc kc cc pal clr pix fl kl cl:=by
 have e:∀ j,W'.cell? ⟨x,j,none⟩=W.cell? ⟨x,j,none⟩:=fun j=>k.cell (p:=⟨x,j,none⟩) h.xs
 have b:∀ {v:Value},(∀ g,sliceBlock v=some g->g≠x/\g<W.heap.size)->∀ g,sliceBlock v=some g->g≠x/\g<W'.heap.size:=fun q g hg=>⟨(q g hg).1,Nat.lt_of_lt_of_le (q g hg).2 k.size⟩
 exact ⟨Nat.lt_of_lt_of_le h.xs k.size,h.im,h.ch,h.z,fun j=>(k.frozen (p:=⟨x,j,none⟩) h.xs).trans (h.fz j),(e 0).trans h.c0,(e 1).trans h.c1,(e 2).trans h.c2,(e 3).trans h.c3,(e 4).trans h.c4,(e 5).trans h.c5,(e 6).trans h.c6,(e 7).trans h.c7,(e 8).trans h.c8,(e 9).trans h.c9,(e 10).trans h.c10,(e 11).trans h.c11,(e 12).trans h.c12,(e 13).trans h.c13,by obtain ⟨u,hu⟩:=h.c14;exact ⟨u,(e 14).trans hu⟩,h.lp.kept k,h.lq.kept k,h.lx.kept k,h.lf.kept k,h.lk.kept k,h.lc.kept k,b h.bp,b h.bq,b h.bx,b h.bf,b h.bk,b h.bc,h.grid.kept k,h.kp,h.kx⟩
theorem grid_set {W:World} (h:GridAt W) {x:Nat} (hx:x≠0) (j:Nat) (u:Value):GridAt (W.setCell ⟨x,j,none⟩ u):=h.fr (S:=fun k=>k=x) (Fr.setCell (S:=fun k=>k=x) (Fr.refl _ _) (Or.inl rfl) _ _) (fun e=>hx e.symm)
theorem Dk.set14 {W:World} {x wd H K D L P V Z:Nat} {pp qp xp fp kp cp:Option Addr} {pc qc xc fc kc cc:Nat} {pal clr pix fl kl cl:List Int} (h:Dk W x wd H K D L P V Z pp qp xp fp kp cp pc qc xc fc kc cc pal clr pix fl kl cl) (hx0:x≠0) (v:Value):Dk (W.setCell ⟨x,14,none⟩ v) x wd H K D L P V Z pp qp xp fp kp cp pc qc xc fc kc cc pal clr pix fl kl cl:=by
 have f:Fr (fun k=>k=x) W (W.setCell ⟨x,14,none⟩ v):=Fr.setCell (S:=fun k=>k=x) (Fr.refl _ _) (Or.inl rfl) _ _
 have e:∀ j,j≠14->(W.setCell ⟨x,14,none⟩ v).cell? ⟨x,j,none⟩=W.cell? ⟨x,j,none⟩:=fun j hj=>cell_set_other _ _ _ _ _ (fun q=>hj q.symm)
 have b:∀ {u:Value},(∀ g,sliceBlock u=some g->g≠x/\g<W.heap.size)->∀ g,sliceBlock u=some g->g≠x/\g<(W.setCell ⟨x,14,none⟩ v).heap.size:=fun q g hg=>⟨(q g hg).1,Nat.lt_of_lt_of_le (q g hg).2 f.size⟩
 obtain ⟨u,hu⟩:=h.c14
 exact ⟨Nat.lt_of_lt_of_le h.xs f.size,h.im,h.ch,h.z,fun j=>by rw[World.frozen?_setCell];exact h.fz j,(e 0 (by omega)).trans h.c0,(e 1 (by omega)).trans h.c1,(e 2 (by omega)).trans h.c2,(e 3 (by omega)).trans h.c3,(e 4 (by omega)).trans h.c4,(e 5 (by omega)).trans h.c5,(e 6 (by omega)).trans h.c6,(e 7 (by omega)).trans h.c7,(e 8 (by omega)).trans h.c8,(e 9 (by omega)).trans h.c9,(e 10 (by omega)).trans h.c10,(e 11 (by omega)).trans h.c11,(e 12 (by omega)).trans h.c12,(e 13 (by omega)).trans h.c13,⟨v,cell_set_same hu _⟩,h.lp.fr f (fun g hg=>(h.bp g hg).1),h.lq.fr f (fun g hg=>(h.bq g hg).1),h.lx.fr f (fun g hg=>(h.bx g hg).1),h.lf.fr f (fun g hg=>(h.bf g hg).1),h.lk.fr f (fun g hg=>(h.bk g hg).1),h.lc.fr f (fun g hg=>(h.bc g hg).1),b h.bp,b h.bq,b h.bx,b h.bf,b h.bk,b h.bc,grid_set h.grid hx0 _ _,h.kp,h.kx⟩
theorem Dk.s {W:World} {x wd H K D L P V Z:Nat} {pp qp xp fp kp cp:Option Addr} {pc qc xc fc kc cc:Nat} {pal clr pix fl kl cl:List Int} (h:Dk W x wd H K D L P V Z pp qp xp fp kp cp pc qc xc fc kc cc pal clr pix fl kl cl):W.cell? ⟨x,0,none⟩=some (.int .i64 (wd:Int))/\W.cell? ⟨x,1,none⟩=some (.int .i64 (H:Int))/\W.cell? ⟨x,2,none⟩=some (.int .i64 (K:Int))/\W.cell? ⟨x,3,none⟩=some (.int .i64 (D:Int))/\W.cell? ⟨x,4,none⟩=some (.slice pp pal.length pc)/\W.cell? ⟨x,5,none⟩=some (.slice qp clr.length qc)/\W.cell? ⟨x,6,none⟩=some (.slice xp pix.length xc)/\W.cell? ⟨x,7,none⟩=some (.int .i64 (L:Int))/\W.cell? ⟨x,8,none⟩=some (.slice fp fl.length fc)/\W.cell? ⟨x,9,none⟩=some (.slice kp kl.length kc)/\W.cell? ⟨x,10,none⟩=some (.int .i64 (P:Int))/\W.cell? ⟨x,11,none⟩=some (.slice cp cl.length cc)/\W.cell? ⟨x,12,none⟩=some (.int .i64 (V:Int))/\W.cell? ⟨x,13,none⟩=some (.int .i64 (Z:Int)):=⟨h.c0,h.c1,h.c2,h.c3,h.c4,h.c5,h.c6,h.c7,h.c8,h.c9,h.c10,h.c11,h.c12,h.c13⟩
theorem Dk.make {w W1 W2:World} {x wd H K D L P V Z:Nat} {pp qp xp fp kp cp:Option Addr} {pc qc xc fc kc cc:Nat} {pal clr pix fl kl cl:List Int} (hx:x<w.heap.size) (hi:ImR w W1 x wd H K D L pp qp xp pc qc xc pal clr pix) (hc:ChR W1 W2 x P V Z fp kp cp fc kc cc fl kl cl) (h14:∃ u,W1.cell? ⟨x,14,none⟩=some u) (hG:GridAt W2):Dk W2 x wd H K D L P V Z pp qp xp fp kp cp pc qc xc fc kc cc pal clr pix fl kl cl:=by
 have h1:w.heap.size<=W1.heap.size:=hi.fr.size
 have h2:W1.heap.size<=W2.heap.size:=hc.fr.size
 have b1:∀ {v:Value},(∀ g,sliceBlock v=some g->w.heap.size<=g/\g<W1.heap.size)->∀ g,sliceBlock v=some g->g≠x/\g<W2.heap.size:=fun q g hg=>by have:=q g hg;omega
 have b2:∀ {v:Value},(∀ g,sliceBlock v=some g->W1.heap.size<=g/\g<W2.heap.size)->∀ g,sliceBlock v=some g->g≠x/\g<W2.heap.size:=fun q g hg=>by have:=q g hg;omega
 obtain ⟨u,hu⟩:=h14
 exact ⟨by omega,hi.ok,hc.ok L hi.l,hc.z,hc.fz,(hc.rest 0 (by omega)).trans hi.c0,(hc.rest 1 (by omega)).trans hi.c1,(hc.rest 2 (by omega)).trans hi.c2,(hc.rest 3 (by omega)).trans hi.c3,(hc.rest 4 (by omega)).trans hi.c4,(hc.rest 5 (by omega)).trans hi.c5,(hc.rest 6 (by omega)).trans hi.c6,(hc.rest 7 (by omega)).trans hi.c7,hc.c8,hc.c9,hc.c10,hc.c11,hc.c12,hc.c13,⟨u,(hc.rest 14 (by omega)).trans hu⟩,hi.lp.fr hc.fr (fun g hg=>(b1 hi.bp g hg).1),hi.lq.fr hc.fr (fun g hg=>(b1 hi.bq g hg).1),hi.lx.fr hc.fr (fun g hg=>(b1 hi.bx g hg).1),hc.lf,hc.lk,hc.lc,b1 hi.bp,b1 hi.bq,b1 hi.bx,b2 hc.bf,b2 hc.bk,b2 hc.bc,hG,hi.kp,hi.kx⟩
end Go.Proofs.YtmbmecfodigciaaGreatDoor
namespace Go.Proofs.YtmbmecfodigciaaGreatDoor
open Go.RowKit Px
set_option linter.unusedSimpArgs false
set_option linter.unusedVariables false
structure PicOk (c:Nat->Value) (o1 o2 n:Nat) (r:Rw) (t:Tl) (h:Hd):Prop where
 V:RwV c o1 r
 T:TlV c o2 t
 n1:o1+1549<=n
 n2:o2+1026<=n
 cl:∀ j,t.clear j<256
 sm:∀ j,r.smp j<65536
 K:h.K<=6
 W1:1<=h.W
 W2:h.W<=16
 H1:1<=h.H
 H2:h.H<=16
 L:h.L<=1
def hdS (W:World) (b o:Nat) (h:Hd):Prop:=W.cell? ⟨b,o,none⟩=some (.int .i64 (h.W:Int))/\W.cell? ⟨b,o+1,none⟩=some (.int .i64 (h.H:Int))/\W.cell? ⟨b,o+2,none⟩=some (.int .i64 (h.D:Int))/\W.cell? ⟨b,o+3,none⟩=some (.int .i64 (h.K:Int))/\W.cell? ⟨b,o+4,none⟩=some (.int .i64 (h.L:Int))
theorem hdS_of {W:World} {b o n:Nat} {c:Nat->Value} {h:Hd} (hB:Blk W b n c) (hV:HdV c o h) (hn:o+5<=n):hdS W b o h:=⟨hB.at (by omega) hV.W,hB.at (by omega) hV.H,hB.at (by omega) hV.D,hB.at (by omega) hV.K,hB.at (by omega) hV.L⟩
def KnEx (w:World) (r:Rw) (h:Hd) (e:Ending) (w':World):Prop:=∃ g,e = .returned (.slice (some ⟨g,0,none⟩) (h.W*h.H) (h.W*h.H))/\w.heap.size<=g/\g<w'.heap.size/\(∀ j,j<h.W*h.H->w'.cell? ⟨g,j,none⟩=some (.int .i64 (if r.known (j / h.W*16+j % h.W) then 1 else 0)))
theorem rdKnown_x (b o n:Nat) (c:Nat->Value) (s:Rd) (w:World) (hB:Blk w b n c) (hV:RdV c o s) (hn:o+5954<=n) (hW:1<=s.hd.W) (hW2:s.hd.W<=16) (hH:1<=s.hd.H) (hH2:s.hd.H<=16) :
  Calls Tryz.prog 43 #[.pointer (some ⟨b,o,none⟩)] w fun e w'=>KnEx w s.rw s.hd e w'/\Kept w w':=by
 have HS:Hid (∀ W,Kept w W->hdS W b (o+6) s.hd):=fun W k=>hdS_of (hB.kept k) hV.hd (by omega)
 have F:Hid (∀ W,Kept w W->Calls Tryz.prog 56 #[.agg #[.int .i64 (s.hd.W:Int),.int .i64 (s.hd.H:Int),.int .i64 (s.hd.D:Int),.int .i64 (s.hd.K:Int),.int .i64 (s.hd.L:Int)],.pointer (some ⟨b,o+4401,none⟩)] W fun e w'=>∃ g,e = .returned (.slice (some ⟨g,0,none⟩) (s.hd.W*s.hd.H) (s.hd.W*s.hd.H))/\W.heap.size<=g/\(∀ j,j<s.hd.W*s.hd.H->w'.cell? ⟨g,j,none⟩=some (.int .i64 (if s.rw.known (j / s.hd.W*16+j % s.hd.W) then 1 else 0)))/\Kept W w'):=fun W k=>pknown_x b (o+4401) n c s.rw s.hd W (hB.kept k) hV.rw (by omega) hW hW2 hH hH2
 have hpos:0<s.hd.W*s.hd.H:=Nat.mul_pos hW hH
 clear hB hV
 unfold hdS at HS
 go_enter Tryz.func43,Tryz.ntmps43
 go_wp2_with fail
 go_region_held3 (fun W=>W.cell? ⟨b,o+6,none⟩=some (.int .i64 (s.hd.W:Int))/\W.cell? ⟨b,o+6+1,none⟩=some (.int .i64 (s.hd.H:Int))/\W.cell? ⟨b,o+6+2,none⟩=some (.int .i64 (s.hd.D:Int))/\W.cell? ⟨b,o+6+3,none⟩=some (.int .i64 (s.hd.K:Int))/\W.cell? ⟨b,o+6+4,none⟩=some (.int .i64 (s.hd.L:Int))) (first | exact HS.out _ ((Kept.refl _).drewN 1) | exact HS.out _ hk2 | go_keep) ((go_at_call 56;refine (F.out _ ((Kept.refl _).drewN 1)).mono ?_;rintro e w2 ⟨g,rfl,hg,hce,hk2'⟩;have hk2:Kept w w2:=((Kept.refl _).drewN 1).trans hk2'))
 replace hce:Hid _:=hce
 replace hg:Hid _:=hg
 go_wp2_with fail
 go_ret
 exact ⟨⟨g,rfl,hg.out,World.block_lt_of_cell? w2 ⟨g,0,none⟩ (hce.out 0 hpos),hce.out⟩,hk2⟩
theorem info5:(Tryz.prog.info? 71).map (·.size)=some 5:=by kernel_rfl
theorem rdEnded_x (b o n:Nat) (c:Nat->Value) (s:Rd) (w:World) (hB:Blk w b n c) (hV:RdV c o s) (hn:o+5954<=n) :
  Calls Tryz.prog 41 #[.pointer (some ⟨b,o,none⟩)] w fun e w'=>e = .returned (.bool (decide (s.part=5)))/\w'=w:=by
 have k0:=hB.at (i:=o) (by omega) hV.part
 clear hB hV
 go_enter Tryz.func41,Tryz.ntmps41
 go_wp2
 go_ret
 exact ⟨ret_bool (by rw[Bool.eq_iff_iff,beq_iff_eq,decide_eq_true_iff];omega),rfl⟩
