import Derived.Test.YtmbmecfodigciaaGreatDoorMo34
import Derived.Test.YtmbmecfodigciaaGreatDoorMo39
import Derived.Deep.RegionHeld3
import Derived.Test.YtmbmecfodigciaaGreatDoorMo19
set_option maxRecDepth 100000
set_option maxHeartbeats 6400000
namespace Go.Proofs.YtmbmecfodigciaaGreatDoor
open Go.RowKit
set_option linter.unusedSimpArgs false
set_option linter.unusedVariables false
structure Dk (W:World) (x wd H K D L P V Z:Nat) (pp qp xp fp kp cp:Option Addr) (pc qc xc fc kc cc:Nat) (pal clr pix fl kl cl:List Int):Prop where
 xs:x<W.heap.size
 im:OkIm wd H K D pal clr pix
 ch:OkCh L P V fl kl cl
 z:Z≤64
 fz:∀ k,W.frozen? ⟨x,k,none⟩=false
 c0:W.cell? ⟨x,0,none⟩=some (.int .i64 (wd:Int))
 c1:W.cell? ⟨x,1,none⟩=some (.int .i64 (H:Int))
 c2:W.cell? ⟨x,2,none⟩=some (.int .i64 (K:Int))
 c3:W.cell? ⟨x,3,none⟩=some (.int .i64 (D:Int))
 c4:W.cell? ⟨x,4,none⟩=some (.slice pp pal.length pc)
 c5:W.cell? ⟨x,5,none⟩=some (.slice qp clr.length qc)
 c6:W.cell? ⟨x,6,none⟩=some (.slice xp pix.length xc)
 c7:W.cell? ⟨x,7,none⟩=some (.int .i64 (L:Int))
 c8:W.cell? ⟨x,8,none⟩=some (.slice fp fl.length fc)
 c9:W.cell? ⟨x,9,none⟩=some (.slice kp kl.length kc)
 c10:W.cell? ⟨x,10,none⟩=some (.int .i64 (P:Int))
 c11:W.cell? ⟨x,11,none⟩=some (.slice cp cl.length cc)
 c12:W.cell? ⟨x,12,none⟩=some (.int .i64 (V:Int))
 c13:W.cell? ⟨x,13,none⟩=some (.int .i64 (Z:Int))
 c14:∃ u,W.cell? ⟨x,14,none⟩=some u
 lp:LAt W .i64 (.slice pp pal.length pc) pal
 lq:LAt W .i64 (.slice qp clr.length qc) clr
 lx:LAt W .i64 (.slice xp pix.length xc) pix
 lf:LAt W .i64 (.slice fp fl.length fc) fl
 lk:LAt W .i64 (.slice kp kl.length kc) kl
 lc:LAt W .i64 (.slice cp cl.length cc) cl
 bp:∀ g,sliceBlock (.slice pp pal.length pc)=some g→g≠x∧g<W.heap.size
 bq:∀ g,sliceBlock (.slice qp clr.length qc)=some g→g≠x∧g<W.heap.size
 bx:∀ g,sliceBlock (.slice xp pix.length xc)=some g→g≠x∧g<W.heap.size
 bf:∀ g,sliceBlock (.slice fp fl.length fc)=some g→g≠x∧g<W.heap.size
 bk:∀ g,sliceBlock (.slice kp kl.length kc)=some g→g≠x∧g<W.heap.size
 bc:∀ g,sliceBlock (.slice cp cl.length cc)=some g→g≠x∧g<W.heap.size
 grid:GridAt W
 kp:pal.length≤pc
 kx:pix.length≤xc
theorem Dk.kept {W W':World} {x wd H K D L P V Z:Nat} {pp qp xp fp kp cp:Option Addr} {pc qc xc fc kc cc:Nat} {pal clr pix fl kl cl:List Int} (h:Dk W x wd H K D L P V Z pp qp xp fp kp cp pc qc xc fc kc cc pal clr pix fl kl cl) (k:Kept W W'):Dk W' x wd H K D L P V Z pp qp xp fp kp cp pc qc xc fc kc cc pal clr pix fl kl cl:=by
 have e:∀ j,W'.cell? ⟨x,j,none⟩=W.cell? ⟨x,j,none⟩:=fun j=>k.cell (p:=⟨x,j,none⟩) h.xs
 have b:∀ {v:Value},(∀ g,sliceBlock v=some g→g≠x∧g<W.heap.size)→∀ g,sliceBlock v=some g→g≠x∧g<W'.heap.size:=fun q g hg=>⟨(q g hg).1,Nat.lt_of_lt_of_le (q g hg).2 k.size⟩
 exact ⟨Nat.lt_of_lt_of_le h.xs k.size,h.im,h.ch,h.z,fun j=>(k.frozen (p:=⟨x,j,none⟩) h.xs).trans (h.fz j),(e 0).trans h.c0,(e 1).trans h.c1,(e 2).trans h.c2,(e 3).trans h.c3,(e 4).trans h.c4,(e 5).trans h.c5,(e 6).trans h.c6,(e 7).trans h.c7,(e 8).trans h.c8,(e 9).trans h.c9,(e 10).trans h.c10,(e 11).trans h.c11,(e 12).trans h.c12,(e 13).trans h.c13,by obtain ⟨u,hu⟩:=h.c14;exact ⟨u,(e 14).trans hu⟩,h.lp.kept k,h.lq.kept k,h.lx.kept k,h.lf.kept k,h.lk.kept k,h.lc.kept k,b h.bp,b h.bq,b h.bx,b h.bf,b h.bk,b h.bc,h.grid.kept k,h.kp,h.kx⟩
theorem grid_set {W:World} (h:GridAt W) {x:Nat} (hx:x≠0) (j:Nat) (u:Value):GridAt (W.setCell ⟨x,j,none⟩ u):=h.fr (S:=fun k=>k=x) (Fr.setCell (S:=fun k=>k=x) (Fr.refl _ _) (Or.inl rfl) _ _) (fun e=>hx e.symm)
theorem Dk.set14 {W:World} {x wd H K D L P V Z:Nat} {pp qp xp fp kp cp:Option Addr} {pc qc xc fc kc cc:Nat} {pal clr pix fl kl cl:List Int} (h:Dk W x wd H K D L P V Z pp qp xp fp kp cp pc qc xc fc kc cc pal clr pix fl kl cl) (hx0:x≠0) (v:Value):Dk (W.setCell ⟨x,14,none⟩ v) x wd H K D L P V Z pp qp xp fp kp cp pc qc xc fc kc cc pal clr pix fl kl cl:=by
 have f:Fr (fun k=>k=x) W (W.setCell ⟨x,14,none⟩ v):=Fr.setCell (S:=fun k=>k=x) (Fr.refl _ _) (Or.inl rfl) _ _
 have e:∀ j,j≠14→(W.setCell ⟨x,14,none⟩ v).cell? ⟨x,j,none⟩=W.cell? ⟨x,j,none⟩:=fun j hj=>cell_set_other _ _ _ _ _ (fun q=>hj q.symm)
 have b:∀ {u:Value},(∀ g,sliceBlock u=some g→g≠x∧g<W.heap.size)→∀ g,sliceBlock u=some g→g≠x∧g<(W.setCell ⟨x,14,none⟩ v).heap.size:=fun q g hg=>⟨(q g hg).1,Nat.lt_of_lt_of_le (q g hg).2 f.size⟩
 obtain ⟨u,hu⟩:=h.c14
 exact ⟨Nat.lt_of_lt_of_le h.xs f.size,h.im,h.ch,h.z,fun j=>by rw[World.frozen?_setCell];exact h.fz j,(e 0 (by omega)).trans h.c0,(e 1 (by omega)).trans h.c1,(e 2 (by omega)).trans h.c2,(e 3 (by omega)).trans h.c3,(e 4 (by omega)).trans h.c4,(e 5 (by omega)).trans h.c5,(e 6 (by omega)).trans h.c6,(e 7 (by omega)).trans h.c7,(e 8 (by omega)).trans h.c8,(e 9 (by omega)).trans h.c9,(e 10 (by omega)).trans h.c10,(e 11 (by omega)).trans h.c11,(e 12 (by omega)).trans h.c12,(e 13 (by omega)).trans h.c13,⟨v,cell_set_same hu _⟩,h.lp.fr f (fun g hg=>(h.bp g hg).1),h.lq.fr f (fun g hg=>(h.bq g hg).1),h.lx.fr f (fun g hg=>(h.bx g hg).1),h.lf.fr f (fun g hg=>(h.bf g hg).1),h.lk.fr f (fun g hg=>(h.bk g hg).1),h.lc.fr f (fun g hg=>(h.bc g hg).1),b h.bp,b h.bq,b h.bx,b h.bf,b h.bk,b h.bc,grid_set h.grid hx0 _ _,h.kp,h.kx⟩
theorem Dk.s {W:World} {x wd H K D L P V Z:Nat} {pp qp xp fp kp cp:Option Addr} {pc qc xc fc kc cc:Nat} {pal clr pix fl kl cl:List Int} (h:Dk W x wd H K D L P V Z pp qp xp fp kp cp pc qc xc fc kc cc pal clr pix fl kl cl):W.cell? ⟨x,0,none⟩=some (.int .i64 (wd:Int))∧W.cell? ⟨x,1,none⟩=some (.int .i64 (H:Int))∧W.cell? ⟨x,2,none⟩=some (.int .i64 (K:Int))∧W.cell? ⟨x,3,none⟩=some (.int .i64 (D:Int))∧W.cell? ⟨x,4,none⟩=some (.slice pp pal.length pc)∧W.cell? ⟨x,5,none⟩=some (.slice qp clr.length qc)∧W.cell? ⟨x,6,none⟩=some (.slice xp pix.length xc)∧W.cell? ⟨x,7,none⟩=some (.int .i64 (L:Int))∧W.cell? ⟨x,8,none⟩=some (.slice fp fl.length fc)∧W.cell? ⟨x,9,none⟩=some (.slice kp kl.length kc)∧W.cell? ⟨x,10,none⟩=some (.int .i64 (P:Int))∧W.cell? ⟨x,11,none⟩=some (.slice cp cl.length cc)∧W.cell? ⟨x,12,none⟩=some (.int .i64 (V:Int))∧W.cell? ⟨x,13,none⟩=some (.int .i64 (Z:Int)):=⟨h.c0,h.c1,h.c2,h.c3,h.c4,h.c5,h.c6,h.c7,h.c8,h.c9,h.c10,h.c11,h.c12,h.c13⟩
theorem Dk.make {w W1 W2:World} {x wd H K D L P V Z:Nat} {pp qp xp fp kp cp:Option Addr} {pc qc xc fc kc cc:Nat} {pal clr pix fl kl cl:List Int} (hx:x<w.heap.size) (hi:ImR w W1 x wd H K D L pp qp xp pc qc xc pal clr pix) (hc:ChR W1 W2 x P V Z fp kp cp fc kc cc fl kl cl) (h14:∃ u,W1.cell? ⟨x,14,none⟩=some u) (hG:GridAt W2):Dk W2 x wd H K D L P V Z pp qp xp fp kp cp pc qc xc fc kc cc pal clr pix fl kl cl:=by
 have h1:w.heap.size≤W1.heap.size:=hi.fr.size
 have h2:W1.heap.size≤W2.heap.size:=hc.fr.size
 have b1:∀ {v:Value},(∀ g,sliceBlock v=some g→w.heap.size≤g∧g<W1.heap.size)→∀ g,sliceBlock v=some g→g≠x∧g<W2.heap.size:=fun q g hg=>by have:=q g hg;omega
 have b2:∀ {v:Value},(∀ g,sliceBlock v=some g→W1.heap.size≤g∧g<W2.heap.size)→∀ g,sliceBlock v=some g→g≠x∧g<W2.heap.size:=fun q g hg=>by have:=q g hg;omega
 obtain ⟨u,hu⟩:=h14
 exact ⟨by omega,hi.ok,hc.ok L hi.l,hc.z,hc.fz,(hc.rest 0 (by omega)).trans hi.c0,(hc.rest 1 (by omega)).trans hi.c1,(hc.rest 2 (by omega)).trans hi.c2,(hc.rest 3 (by omega)).trans hi.c3,(hc.rest 4 (by omega)).trans hi.c4,(hc.rest 5 (by omega)).trans hi.c5,(hc.rest 6 (by omega)).trans hi.c6,(hc.rest 7 (by omega)).trans hi.c7,hc.c8,hc.c9,hc.c10,hc.c11,hc.c12,hc.c13,⟨u,(hc.rest 14 (by omega)).trans hu⟩,hi.lp.fr hc.fr (fun g hg=>(b1 hi.bp g hg).1),hi.lq.fr hc.fr (fun g hg=>(b1 hi.bq g hg).1),hi.lx.fr hc.fr (fun g hg=>(b1 hi.bx g hg).1),hc.lf,hc.lk,hc.lc,b1 hi.bp,b1 hi.bq,b1 hi.bx,b2 hc.bf,b2 hc.bk,b2 hc.bc,hG,hi.kp,hi.kx⟩
end Go.Proofs.YtmbmecfodigciaaGreatDoor
namespace Go.Proofs.YtmbmecfodigciaaGreatDoor
open Go.RowKit Px
set_option linter.unusedSimpArgs false
set_option linter.unusedVariables false
theorem rknown_x (b o n x y:Nat) (c:Nat→Value) (r:Rw) (w:World) (hB:Blk w b n c) (hV:RwV c o r) (hn:o+1549≤n) (hx:x<16) (hy:y<16) :
  Calls Tryz.prog 88 #[.pointer (some ⟨b,o,none⟩),.int .i64 (x:Int),.int .i64 (y:Int)] w fun e w'=>e = .returned (.bool (r.known (y*16+x)))∧∃ q,w'=w.drewN q:=by
 have FI:Hid (∀ W,Calls Tryz.prog 124 #[.int .i64 (x:Int),.int .i64 (y:Int)] W fun e w'=>e = .returned (.tuple #[.int .i64 ((y*16+x:Nat):Int),.bool true])∧w'=W):=fun W=>by
  have:=index_x x y W (by omega) (by omega)
  rw[if_pos ⟨hx,hy⟩,decide_eq_true (⟨hx,hy⟩:x<16∧y<16)] at this
  exact this
 obtain ⟨P,hP⟩:∃ P,P=y*16+x:=⟨_,rfl⟩
 rw[← hP] at FI ⊢
 have hP6:P<256:=by omega
 have k:=hB.at (i:=o+269+P) (by omega) (hV.known P hP6)
 have p0:(0:Int)≤(P:Int):=by omega
 have p1:(P:Int)<256:=by omega
 generalize r.known P=KK at *
 clear hB hV hP
 go_enter Tryz.func88,Tryz.ntmps88
 go_wp2_with fail
 refine (FI.out _).mono ?_
 rintro e w1 ⟨rfl,hw1⟩
 subst w1
 go_wp2_with fail
 go_ret
 exact ⟨rfl,0,rfl⟩
theorem psize_x (h:Hd) (w:World) (hW:1≤h.W) (hW2:h.W≤16) (hH:1≤h.H) (hH2:h.H≤16) :
  Calls Tryz.prog 87 #[hdV h] w fun e w'=>e = .returned (.int .i64 ((h.W*h.H:Nat):Int))∧Kept w w':=by
 unfold hdV
 have g1:¬ (h.W:Int)<1:=by omega
 have g2:¬ (h.H:Int)<1:=by omega
 obtain ⟨T,hT⟩:∃ T,T=h.W*h.H:=⟨_,rfl⟩
 have eT:(h.W:Int)*(h.H:Int)=(T:Int):=by rw[hT];simp
 have hT6:T≤256:=by rw[hT];exact Nat.mul_le_mul hW2 hH2
 rw[← hT]
 clear hT
 go_enter Tryz.func87,Tryz.ntmps87
 go_wp2
 go_ret
 exact ⟨rfl,Below.alloc (Below.refl _ _) (Nat.le_refl _) _⟩
theorem infoIntV:∃ i,Tryz.prog.info? 3=some i∧i.zero=some (.int .i64 0)∧i.size=1∧i.bytes=8:=by
 have h:(Tryz.prog.info? 3).map (fun i=>(i.zero,i.size,i.bytes))=some (some (.int .i64 0),1,8):=by kernel_rfl
 cases hi:Tryz.prog.info? 3 with
 | none=>rw[hi] at h;simp at h
 | some i=>
  rw[hi] at h
  simp at h
  exact ⟨i,rfl,h.1,h.2.1,h.2.2⟩
theorem made_ints (n j:Nat) (h:j<n):(madeCells #[Value.int .i64 0] n)[j]? = some (.int .i64 0):=by
 unfold madeCells
 rw[Array.getElem?_map,Array.getElem?_range,if_pos h]
 show some (#[Value.int .i64 0][j % 1]!)=_
 rw[Nat.mod_one]
 rfl
theorem make_ints (w:World) (n:Nat) (hn:n≤1000000):(Instr.makeSlice 31 (.int .i64 (n:Int)) (.int .i64 (n:Int))).run Tryz.prog w = .ok (.slice (some ⟨w.heap.size,0,none⟩) n n) (w.alloc (.cells (madeCells #[Value.int .i64 0] n) 3)):=by
 obtain ⟨i,hi,hz,hs,hb⟩:=infoIntV
 have:=run_make (P:=Tryz.prog) w 31 3 i (.int .i64 0) Tryz.underlying31 hi hz .i64 .i64 n n (by omega) (by omega) (by rw[hb];omega) (by omega)
 rw[hs,Nat.mul_one,Int.toNat_natCast] at this
 exact this
theorem pknown_x (b o n:Nat) (c:Nat→Value) (r:Rw) (h:Hd) (w:World) (hB:Blk w b n c) (hV:RwV c o r) (hn:o+1549≤n) (hW:1≤h.W) (hW2:h.W≤16) (hH:1≤h.H) (hH2:h.H≤16) :
  Calls Tryz.prog 56 #[hdV h,.pointer (some ⟨b,o,none⟩)] w fun e w'=>∃ g,e = .returned (.slice (some ⟨g,0,none⟩) (h.W*h.H) (h.W*h.H))∧w.heap.size≤g∧(∀ j,j<h.W*h.H→w'.cell? ⟨g,j,none⟩=some (.int .i64 (if r.known (j / h.W*16+j % h.W) then 1 else 0)))∧Kept w w':=by
 have FJ:Hid (∀ W,Calls Tryz.prog 87 #[hdV h] W fun e w'=>e = .returned (.int .i64 ((h.W*h.H:Nat):Int))∧Kept W w'):=fun W=>psize_x h W hW hW2 hH hH2
 obtain ⟨T,hT⟩:∃ T,T=h.W*h.H:=⟨_,rfl⟩
 rw[← hT] at FJ ⊢
 have hT6:T≤256:=by rw[hT];exact Nat.mul_le_mul hW2 hH2
 have HT:Hid (T=h.W*h.H):=hT
 clear hT
 unfold hdV at *
 go_enter Tryz.func56,Tryz.ntmps56
 go_wp2_with fail
 refine (FJ.out _).mono ?_
 rintro e w1 ⟨rfl,hk1⟩
 have hmk:=make_ints w1 T (by omega)
 have K1:Hid (Kept w w1):=Kept.trans (Below.alloc (Below.refl _ _) (Nat.le_refl _) _) hk1
 have hw0:w1.cell? ⟨w.heap.size,0,none⟩=some (.int .i64 (h.W:Int)):=(hk1.cell (p:=⟨w.heap.size,0,none⟩) (by simp)).trans ((World.cell?_alloc_at _ _ _ _ rfl).trans rfl)
 have hws:w.heap.size<w1.heap.size:=World.block_lt_of_cell? _ _ hw0
 have K2:Hid (Kept w1 (w1.alloc (.cells (madeCells #[Value.int .i64 0] T) 3))):=Below.alloc (Below.refl _ _) (Nat.le_refl _) _
 have HC:Hid (∀ j,j<T→(w1.alloc (.cells (madeCells #[Value.int .i64 0] T) 3)).cell? ⟨w1.heap.size,j,none⟩=some (.int .i64 0)):=fun j hj=>(World.cell?_alloc_at _ _ _ _ rfl).trans (made_ints T j hj)
 have HZ:Hid (∀ j,(w1.alloc (.cells (madeCells #[Value.int .i64 0] T) 3)).frozen? ⟨w1.heap.size,j,none⟩=false):=fun j=>World.frozen?_alloc_at _ _ _ _ rfl
 have HB2:Hid (Blk (w1.alloc (.cells (madeCells #[Value.int .i64 0] T) 3)) b n c):=(hB.kept K1.out).kept K2.out
 have HV:Hid (RwV c o r):=hV
 have hw2:(w1.alloc (.cells (madeCells #[Value.int .i64 0] T) 3)).cell? ⟨w.heap.size,0,none⟩=some (.int .i64 (h.W:Int)):=(K2.out.cell (p:=⟨w.heap.size,0,none⟩) hws).trans hw0
 have hsz:w1.heap.size<(w1.alloc (.cells (madeCells #[Value.int .i64 0] T) 3)).heap.size:=by simp
 have hbw:=hB.lt
 clear hB hV hk1
 go_wp2_with fail
 generalize w1.alloc (.cells (madeCells #[Value.int .i64 0] T) 3)=w2 at *
 clear hmk
 obtain ⟨g,hg⟩:∃ g,g=w1.heap.size:=⟨_,rfl⟩
 rw[← hg] at HC HZ hws hsz ⊢
 replace hg:Hid _:=hg
 go_loopg [6] T (fun m v W=>∃ k:Nat,m=T - k∧k≤T∧v = .int .i64 (k:Int)∧Fr1 g w2 W∧(∀ j,W.frozen? ⟨g,j,none⟩=false)∧(∀ j,j<T→W.cell? ⟨g,j,none⟩=some (.int .i64 (if j<k∧r.known (j / h.W*16+j % h.W)=true then 1 else 0))))
 case atStart=>exact ⟨0,by omega,by omega,rfl,Fr.refl _ _,HZ.out,fun j hj=>by rw[if_neg (by omega)];exact HC.out j hj⟩
 case round=>
  obtain ⟨k,hgk,hkT,rfl,hfr,hfz,hce⟩:=hrel
  replace hgk:Hid _:=hgk
  have HF:Hid (Fr1 g w2 wr):=hfr
  have HFz:Hid (∀ j,wr.frozen? ⟨g,j,none⟩=false):=hfz
  have HCe:Hid (∀ j,j<T→wr.cell? ⟨g,j,none⟩=some (.int .i64 (if j<k∧r.known (j / h.W*16+j % h.W)=true then 1 else 0))):=hce
  clear hfr hfz hce
  have hwc:=(HF.out.cell (k:=0) (Nat.lt_trans hws hsz) (by omega)).trans hw2
  have g1:(0:Int)<(h.W:Int):=by omega
  have g0:¬ ((h.W:Int)=0):=by omega
  by_cases hlt:k<T
  ·have hlt':(k:Int)<(T:Int):=by omega
   obtain ⟨X,hX⟩:∃ X,X=k % h.W:=⟨_,rfl⟩
   obtain ⟨Y,hY⟩:∃ Y,Y=k / h.W:=⟨_,rfl⟩
   have eX:(k:Int) % (h.W:Int)=(X:Int):=by rw[hX];exact (Int.natCast_emod _ _).symm
   have eY:(k:Int) / (h.W:Int)=(Y:Int):=by rw[hY];exact (Int.natCast_ediv _ _).symm
   have hX16:X<16:=by rw[hX];exact Nat.lt_of_lt_of_le (Nat.mod_lt _ (by omega)) hW2
   have hY16:Y<16:=by
    rw[hY]
    refine Nat.lt_of_lt_of_le (Nat.div_lt_of_lt_mul (by rw[← HT.out];exact hlt)) hH2
   have hbg:b≠g:=by have:=hg.out;have:=K1.out.size;omega
   have FK:Hid (∀ q,Calls Tryz.prog 88 #[.pointer (some ⟨b,o,none⟩),.int .i64 (X:Int),.int .i64 (Y:Int)] (wr.drewN q) fun e w'=>e = .returned (.bool (r.known (Y*16+X)))∧∃ m,w'=(wr.drewN q).drewN m):=fun q=>rknown_x b o n X Y c r (wr.drewN q) (((HB2.out.fr HF.out hbg)).kept ((Kept.refl _).drewN q)) HV.out hn hX16 hY16
   have HKK:Hid (r.known (k / h.W*16+k % h.W)=r.known (Y*16+X)):=by show r.known (k / h.W*16+k % h.W)=_;rw[hX,hY]
   generalize hKN:r.known (Y*16+X)=KN at *
   clear hKN
   replace hX:Hid _:=hX
   replace hY:Hid _:=hY
   have kg:=HCe.out k hlt
   rw[if_neg (by omega)] at kg
   have zg:=HFz.out k
   have k0:(0:Int)≤(k:Int):=by omega
   have tm:(k:Int).tmod (h.W:Int)=(X:Int):=by rw[Int.tmod_eq_emod_of_nonneg (by omega)];exact eX
   have td:(k:Int).tdiv (h.W:Int)=(Y:Int):=by rw[Int.tdiv_eq_ediv_of_nonneg (by omega)];exact eY
   cases KN with
   | false=>
    go_wp2_with fail
    go_quiet ((go_at_call 88;exact Calls.quiet_of (FK.out _)))
    go_wp2_with fail
    go_roundg (T - (k+1))
    case measure=>rw[hgk.out];omega
    case rel=>
     refine ⟨k+1,rfl,by omega,by go_num,HF.out.kept ((Kept.refl _).drewN _),fun j=>HFz.out j,fun j hj => ?_⟩
     refine (HCe.out j hj).trans ?_
     by_cases e:j=k
     ·subst e
      rw[if_neg (by omega),if_neg (fun q=>by rw[HKK.out] at q;exact absurd q.2 (by simp))]
     ·by_cases e2:j<k∧r.known (j / h.W*16+j % h.W)=true
      ·rw[if_pos e2,if_pos ⟨by omega,e2.2⟩]
      ·rw[if_neg e2,if_neg (fun q=>e2 ⟨by omega,q.2⟩)]
   | true=>
    go_wp2_with fail
    go_quiet ((go_at_call 88;exact Calls.quiet_of (FK.out _)))
    go_wp2_with fail
    go_roundg (T - (k+1))
    case measure=>rw[hgk.out];omega
    case rel=>
     refine ⟨k+1,rfl,by omega,by go_num,Fr1.set (HF.out.kept ((Kept.refl _).drewN _)) _ _,fun j=>by rw[World.frozen?_setCell];exact HFz.out j,fun j hj => ?_⟩
     by_cases e:j=k
     ·subst e
      rw[if_pos ⟨by omega,HKK.out⟩]
      exact cell_set_same kg _
     ·rw[cell_set_other _ _ _ _ _ (fun q=>e q.symm)]
      refine (HCe.out j hj).trans ?_
      by_cases e2:j<k∧r.known (j / h.W*16+j % h.W)=true
      ·rw[if_pos e2,if_pos ⟨by omega,e2.2⟩]
      ·rw[if_neg e2,if_neg (fun q=>e2 ⟨by omega,q.2⟩)]
  ·have hlt':¬ (k:Int)<(T:Int):=by omega
   have hkT':k=T:=by omega
   replace hkT':Hid _:=hkT'
   go_wp2_with fail
   go_ret
   refine ⟨g,rfl,by have:=hg.out;have:=K1.out.size;omega,fun j hj => ?_,?_⟩
   ·refine (HCe.out j hj).trans ?_
    by_cases e2:r.known (j / h.W*16+j % h.W)=true
    ·rw[if_pos ⟨by rw[hkT'.out];exact hj,e2⟩,if_pos e2]
    ·rw[if_neg (fun q=>e2 q.2),if_neg e2]
   ·exact Fr.to_kept (K1.out.trans (by rw[hg.out] at *;exact K2.out)) HF.out (fun i hi q=>by have:=hg.out;have:=K1.out.size;omega)
def four (a b c d:Int):Value := .agg #[.int .i64 a,.int .i64 b,.int .i64 c,.int .i64 d]
theorem info4:(Tryz.prog.info? 138).map (·.size)=some 4:=by kernel_rfl
def FourAt (W:World) (g:Nat) (f:Nat→Int):Prop:=W.cell? ⟨g,0,none⟩=some (.int .i64 (f 0))∧W.cell? ⟨g,1,none⟩=some (.int .i64 (f 1))∧W.cell? ⟨g,2,none⟩=some (.int .i64 (f 2))∧W.cell? ⟨g,3,none⟩=some (.int .i64 (f 3))
theorem FourAt.fr {W W':World} {g:Nat} {f:Nat→Int} {S:Nat→Prop} (h:FourAt W g f) (k:Fr S W W') (hS:¬ S g):FourAt W' g f:=by
 have hg:=World.block_lt_of_cell? _ _ h.1
 exact ⟨(k.cell hg hS).trans h.1,(k.cell hg hS).trans h.2.1,(k.cell hg hS).trans h.2.2.1,(k.cell hg hS).trans h.2.2.2⟩
theorem FourAt.kept {W W':World} {g:Nat} {f:Nat→Int} (h:FourAt W g f) (k:Kept W W'):FourAt W' g f:=h.fr (S:=fun _=>False) (Fr.of_kept k) (fun q=>q)
theorem FourAt.get {W:World} {g:Nat} {f:Nat→Int} (h:FourAt W g f) (k:Nat) (hk:k<4):W.cell? ⟨g,k,none⟩=some (.int .i64 (f k)):=by
 match k,hk with
 | 0,_=>exact h.1
 | 1,_=>exact h.2.1
 | 2,_=>exact h.2.2.1
 | 3,_=>exact h.2.2.2
theorem FourAt.of {W:World} {g:Nat} {f:Nat→Int} (h:∀ k,k<4→W.cell? ⟨g,k,none⟩=some (.int .i64 (f k))):FourAt W g f:=⟨h 0 (by omega),h 1 (by omega),h 2 (by omega),h 3 (by omega)⟩
theorem FourAt.set {W:World} {g:Nat} {f f':Nat→Int} (h:FourAt W g f) (k:Nat) (v:Int) (h1:f' k=v) (h2:∀ j,j≠k→j<4→f' j=f j):FourAt (W.setCell ⟨g,k,none⟩ (.int .i64 v)) g f':=FourAt.of (fun j hj=>by
 by_cases e:j=k
 ·subst e;rw[h1];exact cell_set_same (h.get j hj) _
 ·rw[cell_set_other _ _ _ _ _ (fun q=>e q.symm),h2 j e hj];exact h.get j hj)
def pick4 (a b c d:Int):Nat→Int:=fun j=>if j=0 then a else if j=1 then b else if j=2 then c else d
theorem FourAt.put {W:World} {g:Nat} {f:Nat→Int} (h:FourAt W g f) (a b c d:Int):FourAt ((((W.setCell ⟨g,0,none⟩ (.int .i64 a)).setCell ⟨g,1,none⟩ (.int .i64 b)).setCell ⟨g,2,none⟩ (.int .i64 c)).setCell ⟨g,3,none⟩ (.int .i64 d)) g (pick4 a b c d):=by
 have h1:=h.set (f':=fun j=>if j=0 then a else f j) 0 a rfl (fun j hj _=>if_neg hj)
 have h2:=h1.set (f':=fun j=>if j=1 then b else if j=0 then a else f j) 1 b rfl (fun j hj _=>if_neg hj)
 have h3:=h2.set (f':=fun j=>if j=2 then c else if j=1 then b else if j=0 then a else f j) 2 c rfl (fun j hj _=>if_neg hj)
 have h4:=h3.set (f':=fun j=>if j=3 then d else if j=2 then c else if j=1 then b else if j=0 then a else f j) 3 d rfl (fun j hj _=>if_neg hj)
 exact ⟨h4.1,h4.2.1,h4.2.2.1,h4.2.2.2⟩
theorem load4 {W:World} {g:Nat} {f:Nat→Int} (h:FourAt W g f):(loadVar 138 ⟨g,0,none⟩).run Tryz.prog W = .ok (four (f 0) (f 1) (f 2) (f 3)) W:=by
 have:=run_loadVar_mid (P:=Tryz.prog) W g 0 138 [.int .i64 (f 0),.int .i64 (f 1),.int .i64 (f 2),.int .i64 (f 3)] _ (fun j v hv=>by
  match j with
  | 0=>injection hv with hv;rw[← hv];exact h.1
  | 1=>injection hv with hv;rw[← hv];exact h.2.1
  | 2=>injection hv with hv;rw[← hv];exact h.2.2.1
  | 3=>injection hv with hv;rw[← hv];exact h.2.2.2
  | j+4=>simp at hv) Tryz.underlying138 rfl info4
 exact this
theorem rsamples_x (b o n x y:Nat) (c:Nat→Value) (r:Rw) (w:World) (hB:Blk w b n c) (hV:RwV c o r) (hn:o+1549≤n) (hx:x<16) (hy:y<16) (hs:∀ j,r.smp j<65536) :
  Calls Tryz.prog 126 #[.pointer (some ⟨b,o,none⟩),.int .i64 (x:Int),.int .i64 (y:Int)] w fun e w'=>e = .returned (four (r.smp (4*(y*16+x)):Int) (r.smp (4*(y*16+x)+1):Int) (r.smp (4*(y*16+x)+2):Int) (r.smp (4*(y*16+x)+3):Int))∧Kept w w':=by
 have FI:Hid (∀ W,Calls Tryz.prog 124 #[.int .i64 (x:Int),.int .i64 (y:Int)] W fun e w'=>e = .returned (.tuple #[.int .i64 ((y*16+x:Nat):Int),.bool true])∧w'=W):=fun W=>by
  have:=index_x x y W (by omega) (by omega)
  rw[if_pos ⟨hx,hy⟩,decide_eq_true (⟨hx,hy⟩:x<16∧y<16)] at this
  exact this
 obtain ⟨P,hP⟩:∃ P,P=y*16+x:=⟨_,rfl⟩
 rw[← hP] at FI ⊢
 have hP6:P<256:=by omega
 have p0:(0:Int)≤(P:Int):=by omega
 have p1:(P:Int)<256:=by omega
 have HB:Hid (Blk w b n c):=hB
 have HV:Hid (RwV c o r):=hV
 have HSm:Hid (∀ j,r.smp j<65536):=hs
 have hbw:=hB.lt
 clear hB hV hP hs
 have K0:Hid (Kept w ((w.alloc (Obj.cells #[.int .i64 0,.int .i64 0,.int .i64 0,.int .i64 0] 138)).alloc (Obj.cells #[.int .i64 0,.int .i64 0,.int .i64 0,.int .i64 0] 138))):=Below.alloc (Below.alloc (Below.refl _ _) (Nat.le_refl _) _) (by simp) _
 have L0:Hid (FourAt ((w.alloc (Obj.cells #[.int .i64 0,.int .i64 0,.int .i64 0,.int .i64 0] 138)).alloc (Obj.cells #[.int .i64 0,.int .i64 0,.int .i64 0,.int .i64 0] 138)) (w.heap.size+1) (fun _=>0)):=by
  refine ⟨?_,?_,?_,?_⟩<;>exact (World.cell?_alloc_at _ _ _ _ (by simp)).trans rfl
 have R0:Hid (FourAt ((w.alloc (Obj.cells #[.int .i64 0,.int .i64 0,.int .i64 0,.int .i64 0] 138)).alloc (Obj.cells #[.int .i64 0,.int .i64 0,.int .i64 0,.int .i64 0] 138)) w.heap.size (fun _=>0)):=by
  refine ⟨?_,?_,?_,?_⟩<;>exact (World.cell?_alloc_lt _ _ _ (by simp)).trans ((World.cell?_alloc_at _ _ _ _ rfl).trans rfl)
 have Z0:Hid (∀ j,((w.alloc (Obj.cells #[.int .i64 0,.int .i64 0,.int .i64 0,.int .i64 0] 138)).alloc (Obj.cells #[.int .i64 0,.int .i64 0,.int .i64 0,.int .i64 0] 138)).frozen? ⟨w.heap.size+1,j,none⟩=false∧((w.alloc (Obj.cells #[.int .i64 0,.int .i64 0,.int .i64 0,.int .i64 0] 138)).alloc (Obj.cells #[.int .i64 0,.int .i64 0,.int .i64 0,.int .i64 0] 138)).frozen? ⟨w.heap.size,j,none⟩=false):=fun j=>⟨World.frozen?_alloc_at _ _ _ _ (by simp),(Below.frozen (Below.alloc (Below.refl _ _) (Nat.le_refl _) _) (p:=⟨w.heap.size,j,none⟩) (by simp)).trans (World.frozen?_alloc_at _ _ _ _ rfl)⟩
 go_enter Tryz.func126,Tryz.ntmps126
 go_wp2_with fail
 refine (FI.out _).mono ?_
 rintro e w1 ⟨rfl,hw1⟩
 subst w1
 go_wp2_with fail
 generalize (w.alloc (Obj.cells #[.int .i64 0,.int .i64 0,.int .i64 0,.int .i64 0] 138)).alloc (Obj.cells #[.int .i64 0,.int .i64 0,.int .i64 0,.int .i64 0] 138)=w1 at *
 go_loopg [10] 4 (fun m v W=>∃ k:Nat,m=4 - k∧k≤4∧v = .int .i64 (k:Int)∧Fr1 (w.heap.size+1) w1 W∧(∀ j,W.frozen? ⟨w.heap.size+1,j,none⟩=false)∧FourAt W (w.heap.size+1) (fun j=>if j<k then (r.smp (4*P+j):Int) else 0))
 case atStart=>exact ⟨0,by omega,by omega,rfl,Fr.refl _ _,fun j=>(Z0.out j).1,L0.out⟩
 case round=>
  obtain ⟨k,hgk,hk4,rfl,hfr,hfz,hfo⟩:=hrel
  replace hgk:Hid _:=hgk
  have HF:Hid (Fr1 (w.heap.size+1) w1 wr):=hfr
  have HFz:Hid (∀ j,wr.frozen? ⟨w.heap.size+1,j,none⟩=false):=hfz
  have HFo:Hid (FourAt wr (w.heap.size+1) (fun j=>if j<k then (r.smp (4*P+j):Int) else 0)):=hfo
  clear hfr hfz hfo
  have HBr:Hid (Blk wr b n c):=(HB.out.kept K0.out).fr HF.out (by omega)
  have a0:(0:Int)≤(k:Int):=by omega
  by_cases hlt:k<4
  ·have hlt':(k:Int)<4:=by omega
   have kg:=HFo.out.get k hlt
   obtain ⟨OV,kg⟩:∃ OV,wr.cell? ⟨w.heap.size+1,k,none⟩=some OV:=⟨_,kg⟩
   have zg:=HFz.out k
   have ks:=HBr.out.at (i:=o+525+(4*P+k)) (by omega) (HV.out.smp (4*P+k) (by omega))
   rw[show o+525+(4*P+k)=o+525+P*4+k from by omega] at ks
   have hsl:=HSm.out (4*P+k)
   generalize hSS:r.smp (4*P+k)=SS at *
   replace hSS:Hid _:=hSS
   go_wp2_with fail
   go_roundg (4 - (k+1))
   case measure=>rw[hgk.out];omega
   case rel=>
    refine ⟨k+1,rfl,by omega,by go_num,Fr1.set HF.out _ _,fun j=>by rw[World.frozen?_setCell];exact HFz.out j,HFo.out.set k _ ?_ ?_⟩
    ·show (if k<k+1 then (r.smp (4*P+k):Int) else 0)=_
     rw[if_pos (by omega),hSS.out]
    ·intro j hj _
     show (if j<k+1 then (r.smp (4*P+j):Int) else 0)=if j<k then (r.smp (4*P+j):Int) else 0
     by_cases q:j<k
     ·rw[if_pos q,if_pos (by omega)]
     ·rw[if_neg q,if_neg (by omega)]
  ·have hlt':¬ (k:Int)<4:=by omega
   have hk:k=4:=by omega
   subst hk
   obtain ⟨l0,l1,l2,l3⟩:=HFo.out
   replace l0:wr.cell? ⟨w.heap.size+1,0,none⟩=some (.int .i64 (r.smp (4*P):Int)):=l0
   replace l1:wr.cell? ⟨w.heap.size+1,1,none⟩=some (.int .i64 (r.smp (4*P+1):Int)):=l1
   replace l2:wr.cell? ⟨w.heap.size+1,2,none⟩=some (.int .i64 (r.smp (4*P+2):Int)):=l2
   replace l3:wr.cell? ⟨w.heap.size+1,3,none⟩=some (.int .i64 (r.smp (4*P+3):Int)):=l3
   have RR:=R0.out.fr HF.out (by omega)
   obtain ⟨t0,t1,t2,t3⟩:=RR
   have hg:=World.block_lt_of_cell? _ _ R0.out.1
   have zr:∀ j,wr.frozen? ⟨w.heap.size,j,none⟩=false:=fun j=>(HF.out.frozen (c:=w.heap.size) (k:=j) hg (by omega)).trans (Z0.out j).2
   have RR:=R0.out.fr HF.out (show ¬ (w.heap.size=w.heap.size+1) by omega)
   have HR4:Hid _:=RR.put (r.smp (4*P):Int) (r.smp (4*P+1):Int) (r.smp (4*P+2):Int) (r.smp (4*P+3):Int)
   clear RR
   go_wp2_with fail
   refine bodyPost_ret (results_cell1 rfl _ _ _ _ _ rfl (load4 HR4.out)) rfl ⟨rfl,?_⟩
   exact (((((Fr.to_kept (S:=fun j=>j=w.heap.size+1) K0.out HF.out (fun i hi q=>by omega)).setCell (Nat.le_refl _) _).setCell (Nat.le_refl _) _).setCell (Nat.le_refl _) _).setCell (Nat.le_refl _) _)
def sclN (D:Nat):Nat:=if D=1 then 65535 else if D=2 then 21845 else if D=4 then 4369 else if D=8 then 257 else 1
theorem sclN_le (D:Nat):sclN D≤65535:=by unfold sclN;(repeat' split)<;>omega
theorem scale_x (D:Nat) (w:World):Calls Tryz.prog 148 #[.int .i64 (D:Int)] w fun e w'=>e = .returned (.int .i64 (sclN D:Int))∧w'=w:=by
 have hcs:D=1∨D=2∨D=4∨D=8∨(D≠1∧D≠2∧D≠4∧D≠8):=by omega
 rcases hcs with rfl | rfl | rfl | rfl | ⟨h1,h2,h4,h8⟩
 case' inr.inr.inr.inr=>
  have HE:Hid (sclN D=1):=by show sclN D=1;unfold sclN;rw[if_neg h1,if_neg h2,if_neg h4,if_neg h8]
  have g1:((D:Int) == 1)=false:=beq_eq_false_iff_ne.2 (by omega)
  have g2:((D:Int) == 2)=false:=beq_eq_false_iff_ne.2 (by omega)
  have g4:((D:Int) == 4)=false:=beq_eq_false_iff_ne.2 (by omega)
  have g8:((D:Int) == 8)=false:=beq_eq_false_iff_ne.2 (by omega)
  clear h1 h2 h4 h8
 all_goals
  go_enter Tryz.func148,Tryz.ntmps148
  go_wp2
  go_ret
  first | exact ⟨rfl,rfl⟩ | exact ⟨ret_int (by rw[HE.out];rfl),rfl⟩
end Go.Proofs.YtmbmecfodigciaaGreatDoor
