import Derived.Test.YthniahejjamhgaaGreatDoorRoT5
import Derived.Test.YthniahejjamhgaaGreatDoorRoT6
import Derived.Deep.RegionHeld3
set_option maxRecDepth 100000
set_option maxHeartbeats 6400000
namespace Go.Proofs.YthniahejjamhgaaGreatDoor
open Go.RowKit
set_option linter.unusedSimpArgs false
set_option linter.unusedVariables false
structure Dk (W:World) (x wd H K D L P V Z:Nat) (pp qp xp fp kp cp:Option Addr) (pc qc xc fc kc cc:Nat) (pal clr pix fl kl cl:List Int):Prop where
 xs:x<W.heap.size
 im:OkIm wd H K D pal clr pix
 ch:OkCh L P V fl kl cl
 z:Z<=64
 fz:∀ k,W.frozen? ⟨x,k,none⟩=false
 c0:W.cell? ⟨x,0,none⟩=some (.int .i64 (wd:Int))
 c1:W.cell? ⟨x,1,none⟩=some (.int .i64 (H:Int))
 c2:W.cell? ⟨x,2,none⟩=some (.int .i64 (K:Int))
 c3:W.cell? ⟨x,3,none⟩=some (.int .i64 (D:Int))
 c4:W.cell? ⟨x,4,none⟩=some (.slice pp pal.length pc)
 c5:W.cell? ⟨x,5,none⟩=some (.slice qp clr.length qc)
 c6:W.cell? ⟨x,6,none⟩=some (.slice xp pix.length xc)
 c7:W.cell? ⟨x,7,none⟩=some (.int .i64 (L:Int))
 c8:W.cell? ⟨x,8,none⟩=some (.slice fp fl.length fc)
 c9:W.cell? ⟨x,9,none⟩=some (.slice kp kl.length kc)
 c10:W.cell? ⟨x,10,none⟩=some (.int .i64 (P:Int))
 c11:W.cell? ⟨x,11,none⟩=some (.slice cp cl.length cc)
 c12:W.cell? ⟨x,12,none⟩=some (.int .i64 (V:Int))
 c13:W.cell? ⟨x,13,none⟩=some (.int .i64 (Z:Int))
 c14:∃ u,W.cell? ⟨x,14,none⟩=some u
 lp:LAt W .i64 (.slice pp pal.length pc) pal
 lq:LAt W .i64 (.slice qp clr.length qc) clr
 lx:LAt W .i64 (.slice xp pix.length xc) pix
 lf:LAt W .i64 (.slice fp fl.length fc) fl
 lk:LAt W .i64 (.slice kp kl.length kc) kl
 lc:LAt W .i64 (.slice cp cl.length cc) cl
 bp:∀ g,sliceBlock (.slice pp pal.length pc)=some g->g≠x/\g<W.heap.size
 bq:∀ g,sliceBlock (.slice qp clr.length qc)=some g->g≠x/\g<W.heap.size
 bx:∀ g,sliceBlock (.slice xp pix.length xc)=some g->g≠x/\g<W.heap.size
 bf:∀ g,sliceBlock (.slice fp fl.length fc)=some g->g≠x/\g<W.heap.size
 bk:∀ g,sliceBlock (.slice kp kl.length kc)=some g->g≠x/\g<W.heap.size
 bc:∀ g,sliceBlock (.slice cp cl.length cc)=some g->g≠x/\g<W.heap.size
 grid:GridAt W
 kp:pal.length<=pc
 kx:pix.length<=xc
theorem Dk.kept {W W':World} {x wd H K D L P V Z:Nat} {pp qp xp fp kp cp:Option Addr} {pc qc xc fc kc cc:Nat} {pal clr pix fl kl cl:List Int} (h:Dk W x wd H K D L P V Z pp qp xp fp kp cp pc qc xc fc kc cc pal clr pix fl kl cl) (k:Kept W W'):Dk W' x wd H K D L P V Z pp qp xp fp kp cp pc qc xc fc kc cc pal clr pix fl kl cl:=by
 have e:∀ j,W'.cell? ⟨x,j,none⟩=W.cell? ⟨x,j,none⟩:=fun j=>k.cell (p:=⟨x,j,none⟩) h.xs
 have b:∀ {v:Value},(∀ g,sliceBlock v=some g->g≠x/\g<W.heap.size)->∀ g,sliceBlock v=some g->g≠x/\g<W'.heap.size:=fun q g hg=>⟨(q g hg).1,Nat.lt_of_lt_of_le (q g hg).2 k.size⟩
 exact ⟨Nat.lt_of_lt_of_le h.xs k.size,h.im,h.ch,h.z,fun j=>(k.frozen (p:=⟨x,j,none⟩) h.xs).trans (h.fz j),(e 0).trans h.c0,(e 1).trans h.c1,(e 2).trans h.c2,(e 3).trans h.c3,(e 4).trans h.c4,(e 5).trans h.c5,(e 6).trans h.c6,(e 7).trans h.c7,(e 8).trans h.c8,(e 9).trans h.c9,(e 10).trans h.c10,(e 11).trans h.c11,(e 12).trans h.c12,(e 13).trans h.c13,by obtain ⟨u,hu⟩:=h.c14;exact ⟨u,(e 14).trans hu⟩,h.lp.kept k,h.lq.kept k,h.lx.kept k,h.lf.kept k,h.lk.kept k,h.lc.kept k,b h.bp,b h.bq,b h.bx,b h.bf,b h.bk,b h.bc,h.grid.kept k,h.kp,h.kx⟩
theorem grid_set {W:World} (h:GridAt W) {x:Nat} (hx:4<x) (j:Nat) (u:Value):GridAt (W.setCell ⟨x,j,none⟩ u):=h.fr (S:=fun k=>k=x) (Fr.setCell (S:=fun k=>k=x) (Fr.refl _ _) (Or.inl rfl) _ _) (fun i hi e=>by omega)
theorem Dk.set14 {W:World} {x wd H K D L P V Z:Nat} {pp qp xp fp kp cp:Option Addr} {pc qc xc fc kc cc:Nat} {pal clr pix fl kl cl:List Int} (h:Dk W x wd H K D L P V Z pp qp xp fp kp cp pc qc xc fc kc cc pal clr pix fl kl cl) (hx0:4<x) (v:Value):Dk (W.setCell ⟨x,14,none⟩ v) x wd H K D L P V Z pp qp xp fp kp cp pc qc xc fc kc cc pal clr pix fl kl cl:=by
 have f:Fr (fun k=>k=x) W (W.setCell ⟨x,14,none⟩ v):=Fr.setCell (S:=fun k=>k=x) (Fr.refl _ _) (Or.inl rfl) _ _;have e:∀ j,j≠14->(W.setCell ⟨x,14,none⟩ v).cell? ⟨x,j,none⟩=W.cell? ⟨x,j,none⟩:=fun j hj=>cell_set_other _ _ _ _ _ (fun q=>hj q.symm)
 have b:∀ {u:Value},(∀ g,sliceBlock u=some g->g≠x/\g<W.heap.size)->∀ g,sliceBlock u=some g->g≠x/\g<(W.setCell ⟨x,14,none⟩ v).heap.size:=fun q g hg=>⟨(q g hg).1,Nat.lt_of_lt_of_le (q g hg).2 f.size⟩
 obtain ⟨u,hu⟩:=h.c14;exact ⟨Nat.lt_of_lt_of_le h.xs f.size,h.im,h.ch,h.z,fun j=>by rw[World.frozen?_setCell];exact h.fz j,(e 0 (by omega)).trans h.c0,(e 1 (by omega)).trans h.c1,(e 2 (by omega)).trans h.c2,(e 3 (by omega)).trans h.c3,(e 4 (by omega)).trans h.c4,(e 5 (by omega)).trans h.c5,(e 6 (by omega)).trans h.c6,(e 7 (by omega)).trans h.c7,(e 8 (by omega)).trans h.c8,(e 9 (by omega)).trans h.c9,(e 10 (by omega)).trans h.c10,(e 11 (by omega)).trans h.c11,(e 12 (by omega)).trans h.c12,(e 13 (by omega)).trans h.c13,⟨v,cell_set_same hu _⟩,h.lp.fr f (fun g hg=>(h.bp g hg).1),h.lq.fr f (fun g hg=>(h.bq g hg).1),h.lx.fr f (fun g hg=>(h.bx g hg).1),h.lf.fr f (fun g hg=>(h.bf g hg).1),h.lk.fr f (fun g hg=>(h.bk g hg).1),h.lc.fr f (fun g hg=>(h.bc g hg).1),b h.bp,b h.bq,b h.bx,b h.bf,b h.bk,b h.bc,grid_set h.grid hx0 _ _,h.kp,h.kx⟩
theorem Dk.s {W:World} {x wd H K D L P V Z:Nat} {pp qp xp fp kp cp:Option Addr} {pc qc xc fc kc cc:Nat} {pal clr pix fl kl cl:List Int} (h:Dk W x wd H K D L P V Z pp qp xp fp kp cp pc qc xc fc kc cc pal clr pix fl kl cl):W.cell? ⟨x,0,none⟩=some (.int .i64 (wd:Int))/\W.cell? ⟨x,1,none⟩=some (.int .i64 (H:Int))/\W.cell? ⟨x,2,none⟩=some (.int .i64 (K:Int))/\W.cell? ⟨x,3,none⟩=some (.int .i64 (D:Int))/\W.cell? ⟨x,4,none⟩=some (.slice pp pal.length pc)/\W.cell? ⟨x,5,none⟩=some (.slice qp clr.length qc)/\W.cell? ⟨x,6,none⟩=some (.slice xp pix.length xc)/\W.cell? ⟨x,7,none⟩=some (.int .i64 (L:Int))/\W.cell? ⟨x,8,none⟩=some (.slice fp fl.length fc)/\W.cell? ⟨x,9,none⟩=some (.slice kp kl.length kc)/\W.cell? ⟨x,10,none⟩=some (.int .i64 (P:Int))/\W.cell? ⟨x,11,none⟩=some (.slice cp cl.length cc)/\W.cell? ⟨x,12,none⟩=some (.int .i64 (V:Int))/\W.cell? ⟨x,13,none⟩=some (.int .i64 (Z:Int)):=⟨h.c0,h.c1,h.c2,h.c3,h.c4,h.c5,h.c6,h.c7,h.c8,h.c9,h.c10,h.c11,h.c12,h.c13⟩
theorem deskWrite_any (x wd H K D L P V Z:Nat) (pp qp xp fp kp cp:Option Addr) (pc qc xc fc kc cc:Nat) (pal clr pix fl kl cl:List Int) (w:World) (h:Dk w x wd H K D L P V Z pp qp xp fp kp cp pc qc xc fc kc cc pal clr pix fl kl cl) (hx0:4<x) :
  Calls Tryz.prog 10 #[.pointer (some ⟨x,0,none⟩)] w fun r w'=>r = .returned (.bool true)/\Dk w' x wd H K D L P V Z pp qp xp fp kp cp pc qc xc fc kc cc pal clr pix fl kl cl/\Fr1 x w w':=by
 have FN:Hid (∀ W':World,Calls Tryz.prog 11 #[] W' fun r w'=>(∃ a,r = .returned (.pointer (some a)))/\Kept W' w'):=fun W'=>newEnc_any W'
 have FE:Hid (∀ (W':World) (a:Option Addr),Kept w W'->Calls Tryz.prog 12 #[.pointer a,.agg #[.int .i64 (wd:Int),.int .i64 (H:Int),.int .i64 (K:Int),.int .i64 (D:Int),.slice pp pal.length pc,.slice qp clr.length qc,.slice xp pix.length xc],.agg #[.int .i64 (L:Int),.slice fp fl.length fc,.slice kp kl.length kc,.int .i64 (P:Int),.slice cp cl.length cc,.int .i64 (V:Int),.int .i64 (Z:Int)]] W' fun r w'=>∃ s:ByteArray,r = .returned (.tuple #[.string s,.int .i64 0])/\57<s.size/\Kept W' w'):=fun W' a k=>by
  have hk:=h.kept k;exact (encode_any a wd H K D L P V Z pp qp xp fp kp cp pc qc xc fc kc cc pal clr pix fl kl cl W' hk.im hk.ch hk.z hk.grid hk.lp hk.lq hk.lx hk.lf hk.lk hk.lc (fun g hg=>(hk.bx g hg).2) (fun g hg=>(hk.bf g hg).2) (fun g hg=>(hk.bc g hg).2)).mono (fun r w' ⟨s,h1,h2,_,h4⟩=>⟨s,h1,h2,h4⟩)
 have hpix:(0:Int)<(pix.length:Int):=by
  have h1:=h.im.pixL;have h2:0<wd*H*chan K:=Nat.mul_pos (Nat.mul_pos (by have:=h.im.w1;omega) (by have:=h.im.h1;omega)) (by rcases legal_K h.im.lg with rfl | rfl | rfl | rfl | rfl<;>decide);omega
 have hcl:(0:Int)<(cl.length:Int):=by have:=h.ch.c0;omega
 have p1:((pix.length:Int) == 0)=false:=by rw[beq_eq_false_iff_ne];omega
 have p2:((cl.length:Int) == 0)=false:=by rw[beq_eq_false_iff_ne];omega
 have k6:=h.c6;have k11:=h.c11;have HD:Hid (Dk w x wd H K D L P V Z pp qp xp fp kp cp pc qc xc fc kc cc pal clr pix fl kl cl):=h;clear h;go_enter Tryz.func10,Tryz.ntmps10;go_wp2_with fail;refine (FN.out _).mono ?_;rintro r w1 ⟨⟨a,rfl⟩,hk1⟩;have HK1:Hid (Kept w w1):=hk1;clear hk1 k6 k11;have D1:Hid (Dk w1 x wd H K D L P V Z pp qp xp fp kp cp pc qc xc fc kc cc pal clr pix fl kl cl):=HD.out.kept HK1.out;clear HD;go_wp2_with fail;go_region_held3 (fun W'=>W'.cell? ⟨x,0,none⟩=some (.int .i64 (wd:Int))/\W'.cell? ⟨x,1,none⟩=some (.int .i64 (H:Int))/\W'.cell? ⟨x,2,none⟩=some (.int .i64 (K:Int))/\W'.cell? ⟨x,3,none⟩=some (.int .i64 (D:Int))/\W'.cell? ⟨x,4,none⟩=some (.slice pp pal.length pc)/\W'.cell? ⟨x,5,none⟩=some (.slice qp clr.length qc)/\W'.cell? ⟨x,6,none⟩=some (.slice xp pix.length xc)/\W'.cell? ⟨x,7,none⟩=some (.int .i64 (L:Int))/\W'.cell? ⟨x,8,none⟩=some (.slice fp fl.length fc)/\W'.cell? ⟨x,9,none⟩=some (.slice kp kl.length kc)/\W'.cell? ⟨x,10,none⟩=some (.int .i64 (P:Int))/\W'.cell? ⟨x,11,none⟩=some (.slice cp cl.length cc)/\W'.cell? ⟨x,12,none⟩=some (.int .i64 (V:Int))/\W'.cell? ⟨x,13,none⟩=some (.int .i64 (Z:Int))) (first | exact Dk.s D1.out | exact Dk.s (D1.out.kept ((Kept.refl _).drewN 1)) | exact hS2.out | go_keep) ((go_at_call 12;refine (FE.out _ _ (by exact HK1.out.drewN 1)).mono ?_;rintro r w2 ⟨s,rfl,h57,hk2⟩;have hk2':Kept w1 w2:=((Kept.refl _).drewN 1).trans hk2;have hS2:Hid (w2.cell? ⟨x,0,none⟩=some (.int .i64 (wd:Int))/\w2.cell? ⟨x,1,none⟩=some (.int .i64 (H:Int))/\w2.cell? ⟨x,2,none⟩=some (.int .i64 (K:Int))/\w2.cell? ⟨x,3,none⟩=some (.int .i64 (D:Int))/\w2.cell? ⟨x,4,none⟩=some (.slice pp pal.length pc)/\w2.cell? ⟨x,5,none⟩=some (.slice qp clr.length qc)/\w2.cell? ⟨x,6,none⟩=some (.slice xp pix.length xc)/\w2.cell? ⟨x,7,none⟩=some (.int .i64 (L:Int))/\w2.cell? ⟨x,8,none⟩=some (.slice fp fl.length fc)/\w2.cell? ⟨x,9,none⟩=some (.slice kp kl.length kc)/\w2.cell? ⟨x,10,none⟩=some (.int .i64 (P:Int))/\w2.cell? ⟨x,11,none⟩=some (.slice cp cl.length cc)/\w2.cell? ⟨x,12,none⟩=some (.int .i64 (V:Int))/\w2.cell? ⟨x,13,none⟩=some (.int .i64 (Z:Int))):=Dk.s (D1.out.kept hk2')))
 have D2:Hid (Dk w2 x wd H K D L P V Z pp qp xp fp kp cp pc qc xc fc kc cc pal clr pix fl kl cl):=D1.out.kept hk2';have HK2:Hid (Kept w w2):=Kept.trans HK1.out hk2';obtain ⟨u14,hu14⟩:=D2.out.c14;have z14:=D2.out.fz 14;have h57':(57:Int)<(s.size:Int):=by omega
 clear hS2 hk2 hk2' D1;go_wp2;go_ret;exact ⟨by first | rfl | simp,D2.out.set14 hx0 _,Fr1.set (Fr.of_kept HK2.out) _ _⟩
theorem Dk.make {w W1 W2:World} {x wd H K D L P V Z:Nat} {pp qp xp fp kp cp:Option Addr} {pc qc xc fc kc cc:Nat} {pal clr pix fl kl cl:List Int} (hx:x<w.heap.size) (hi:ImR w W1 x wd H K D L pp qp xp pc qc xc pal clr pix) (hc:ChR W1 W2 x P V Z fp kp cp fc kc cc fl kl cl) (h14:∃ u,W1.cell? ⟨x,14,none⟩=some u) (hG:GridAt W2):Dk W2 x wd H K D L P V Z pp qp xp fp kp cp pc qc xc fc kc cc pal clr pix fl kl cl:=by
 have h1:w.heap.size<=W1.heap.size:=hi.fr.size;have h2:W1.heap.size<=W2.heap.size:=hc.fr.size;have b1:∀ {v:Value},(∀ g,sliceBlock v=some g->w.heap.size<=g/\g<W1.heap.size)->∀ g,sliceBlock v=some g->g≠x/\g<W2.heap.size:=fun q g hg=>by have:=q g hg;omega
 have b2:∀ {v:Value},(∀ g,sliceBlock v=some g->W1.heap.size<=g/\g<W2.heap.size)->∀ g,sliceBlock v=some g->g≠x/\g<W2.heap.size:=fun q g hg=>by have:=q g hg;omega
 obtain ⟨u,hu⟩:=h14;exact ⟨by omega,hi.ok,hc.ok L hi.l,hc.z,hc.fz,(hc.rest 0 (by omega)).trans hi.c0,(hc.rest 1 (by omega)).trans hi.c1,(hc.rest 2 (by omega)).trans hi.c2,(hc.rest 3 (by omega)).trans hi.c3,(hc.rest 4 (by omega)).trans hi.c4,(hc.rest 5 (by omega)).trans hi.c5,(hc.rest 6 (by omega)).trans hi.c6,(hc.rest 7 (by omega)).trans hi.c7,hc.c8,hc.c9,hc.c10,hc.c11,hc.c12,hc.c13,⟨u,(hc.rest 14 (by omega)).trans hu⟩,hi.lp.fr hc.fr (fun g hg=>(b1 hi.bp g hg).1),hi.lq.fr hc.fr (fun g hg=>(b1 hi.bq g hg).1),hi.lx.fr hc.fr (fun g hg=>(b1 hi.bx g hg).1),hc.lf,hc.lk,hc.lc,b1 hi.bp,b1 hi.bq,b1 hi.bx,b2 hc.bf,b2 hc.bk,b2 hc.bc,hG,hi.kp,hi.kx⟩
def Desked (w W:World) (r:Ending):Prop:=∃ x wd H K D L P V Z:Nat,∃ pp qp xp fp kp cp:Option Addr,∃ pc qc xc fc kc cc:Nat,∃ pal clr pix fl kl cl:List Int,r = .returned (.pointer (some ⟨x,0,none⟩))/\4<x/\w.heap.size<=x/\Dk W x wd H K D L P V Z pp qp xp fp kp cp pc qc xc fc kc cc pal clr pix fl kl cl
theorem desked_any (a b:Int) (s t u v:ByteArray) (w:World) (ha1 : -9223372036854775808<=a) (ha2:a<9223372036854775808) (hb1 : -9223372036854775808<=b) (hb2:b<9223372036854775808) (hs:s.size<9223372036854775808) (ht:t.size<9223372036854775808) (hu:u.size<9223372036854775808) (hv:v.size<9223372036854775808) (hG:GridAt w) :
  Calls Tryz.prog 4 #[.int .i64 a,.string s,.string t,.int .i64 b,.string u,.string v] w fun r w'=>(decide (65536<s.size\/65536<t.size\/65536<u.size\/65536<v.size)=true/\r = .returned (.pointer none)\/decide (65536<s.size\/65536<t.size\/65536<u.size\/65536<v.size)=false/\Desked w w' r)/\Kept w w':=by
 have FF:Hid (∀ W':World,Calls Tryz.prog 5 #[.string s,.string t,.string u,.string v] W' fun r w'=>r = .returned (.bool (decide (65536<s.size\/65536<t.size\/65536<u.size\/65536<v.size)))/\w'=W'):=fun W'=>far_any s t u v W' hs ht hu hv
 by_cases hfar:65536<s.size\/65536<t.size\/65536<u.size\/65536<v.size
 ·have hd:decide (65536<s.size\/65536<t.size\/65536<u.size\/65536<v.size)=true:=decide_eq_true hfar
  rw[hd];rw[hd] at FF;clear hfar hd;replace hG:Hid _:=hG;go_enter Tryz.func4,Tryz.ntmps4;go_wp2_with fail;refine (FF.out _).mono ?_;rintro r w1 ⟨rfl,hw⟩;subst w1;go_wp2;go_ret;exact ⟨Or.inl ⟨by first | trivial | rfl,rfl⟩,Kept.refl _⟩
 ·have hd:decide (65536<s.size\/65536<t.size\/65536<u.size\/65536<v.size)=false:=decide_eq_false hfar
  have hs':s.size<=65536:=by omega
  have ht':t.size<=65536:=by omega
  have hu':u.size<=65536:=by omega
  have hv':v.size<=65536:=by omega
  rw[hd];rw[hd] at FF;clear hfar hd hs ht hu hv;replace hG:Hid (GridAt w):=hG;have FP:Hid (∀ (W':World) (c:Int),-9223372036854775808<=c->c<9223372036854775808->Calls Tryz.prog 7 #[.int .i64 c,.int .i64 1099511627776] W' fun r w'=>(∃ k:Nat,k<1099511627776/\r = .returned (.int .i64 (k:Int)))/\w'=W'):=fun W' c h1 h2=>pick_any c 1099511627776 W' h1 h2 (by omega) (by omega)
  go_enter Tryz.func4,Tryz.ntmps4;go_wp2_with fail;refine (FF.out _).mono ?_;rintro r w1 ⟨rfl,hw⟩;subst w1;go_wp2_with fail;refine (FP.out _ a ha1 ha2).mono ?_;rintro r w1 ⟨⟨n,hn,rfl⟩,hw⟩;subst w1;go_wp2_with fail;refine (FP.out _ b hb1 hb2).mono ?_;rintro r w1 ⟨⟨m,hm,rfl⟩,hw⟩;subst w1;go_wp2_with fail;have hk0:Kept w (w.alloc (Obj.cells #[.int .i64 0,.int .i64 0,.int .i64 0,.int .i64 0,.slice none 0 0,.slice none 0 0,.slice none 0 0,.int .i64 0,.slice none 0 0,.slice none 0 0,.int .i64 0,.slice none 0 0,.int .i64 0,.int .i64 0,.string ⟨#[]⟩] 33)):=Below.alloc (Below.refl _ _) (Nat.le_refl _) _;have hs0:w.heap.size<(w.alloc (Obj.cells #[.int .i64 0,.int .i64 0,.int .i64 0,.int .i64 0,.slice none 0 0,.slice none 0 0,.slice none 0 0,.int .i64 0,.slice none 0 0,.slice none 0 0,.int .i64 0,.slice none 0 0,.int .i64 0,.int .i64 0,.string ⟨#[]⟩] 33)).heap.size:=by simp
  have hf0:∀ k,(w.alloc (Obj.cells #[.int .i64 0,.int .i64 0,.int .i64 0,.int .i64 0,.slice none 0 0,.slice none 0 0,.slice none 0 0,.int .i64 0,.slice none 0 0,.slice none 0 0,.int .i64 0,.slice none 0 0,.int .i64 0,.int .i64 0,.string ⟨#[]⟩] 33)).frozen? ⟨w.heap.size,k,none⟩=false:=fun k=>World.frozen?_alloc_at _ _ _ _ rfl
  have hc0:∀ j,j<15->((w.alloc (Obj.cells #[.int .i64 0,.int .i64 0,.int .i64 0,.int .i64 0,.slice none 0 0,.slice none 0 0,.slice none 0 0,.int .i64 0,.slice none 0 0,.slice none 0 0,.int .i64 0,.slice none 0 0,.int .i64 0,.int .i64 0,.string ⟨#[]⟩] 33)).cell? ⟨w.heap.size,j,none⟩).isSome=true:=fun j hj=>by
   rw[World.cell?_alloc_at _ _ _ _ rfl]
   match j,hj with
   | 0,_=>rfl
   | 1,_=>rfl
   | 2,_=>rfl
   | 3,_=>rfl
   | 4,_=>rfl
   | 5,_=>rfl
   | 6,_=>rfl
   | 7,_=>rfl
   | 8,_=>rfl
   | 9,_=>rfl
   | 10,_=>rfl
   | 11,_=>rfl
   | 12,_=>rfl
   | 13,_=>rfl
   | 14,_=>rfl
  generalize (w.alloc (Obj.cells #[.int .i64 0,.int .i64 0,.int .i64 0,.int .i64 0,.slice none 0 0,.slice none 0 0,.slice none 0 0,.int .i64 0,.slice none 0 0,.slice none 0 0,.int .i64 0,.slice none 0 0,.int .i64 0,.int .i64 0,.string ⟨#[]⟩] 33))=w0 at *;have e1:(n:Int) % 256=((n % 256:Nat):Int):=by omega
  have e2:(n:Int) / 256 % 15=((n / 256 % 15:Nat):Int):=by omega
  have e3:(n:Int) / 3840=((n / 3840:Nat):Int):=by omega
  rw[e1,e2,e3];clear e1 e2 e3;refine (deskImage_any w.heap.size (n % 256) (n / 256 % 15) (n / 3840) s t w0 hs0 hf0 hc0 (by omega) (by omega) (by omega) hs' ht').mono ?_;rintro r W1 ⟨rfl,wd,H,K,D,L,pp,qp,xp,pc,qc,xc,pal,clr,pix,hI⟩;have HI:Hid (ImR w0 W1 w.heap.size wd H K D L pp qp xp pc qc xc pal clr pix):=hI;have HF:Hid (∀ k,W1.frozen? ⟨w.heap.size,k,none⟩=false):=hI.fz;have HC:Hid (∀ j,j<15->(W1.cell? ⟨w.heap.size,j,none⟩).isSome=true):=fun j hj=>by
   rcases (by omega:j=0\/j=1\/j=2\/j=3\/j=4\/j=5\/j=6\/j=7\/7<j) with rfl | rfl | rfl | rfl | rfl | rfl | rfl | rfl | q
   ·rw[hI.c0];rfl
   ·rw[hI.c1];rfl
   ·rw[hI.c2];rfl
   ·rw[hI.c3];rfl
   ·rw[hI.c4];rfl
   ·rw[hI.c5];rfl
   ·rw[hI.c6];rfl
   ·rw[hI.c7];rfl
   ·rw[hI.rest j q];exact hc0 j hj
  have hs1:w.heap.size<W1.heap.size:=Nat.lt_of_lt_of_le hs0 hI.fr.size;clear hI hc0 hf0;replace hk0:Hid _:=hk0;go_wp2_with fail;have e1:(m:Int) % 4000=((m % 4000:Nat):Int):=by omega
  have e2:(m:Int) / 4000 % 8=((m / 4000 % 8:Nat):Int):=by omega
  have e3:(m:Int) / 32000=((m / 32000:Nat):Int):=by omega
  rw[e1,e2,e3];clear e1 e2 e3;refine (deskChoice_any w.heap.size (m % 4000) (m / 4000 % 8) (m / 32000) u v W1 hs1 HF.out HC.out (by omega) (by omega) (by omega) hu' hv').mono ?_;rintro r W2 ⟨rfl,P,V,Z,fp,kp,cp,fc,kc,cc,fl,kl,cl,hR⟩;have hG2:GridAt W2:=by
   have g0:GridAt w0:=hG.out.kept hk0.out;have hw0:4<w.heap.size:=hG.out.lt;exact (g0.fr HI.out.fr (fun i hi=>by omega)).fr hR.fr (fun i hi=>by omega)
  have hw0:4<w.heap.size:=hG.out.lt;have HD:Hid (Dk W2 w.heap.size wd H K D L P V Z pp qp xp fp kp cp pc qc xc fc kc cc pal clr pix fl kl cl):=Dk.make hs0 HI.out hR (Option.isSome_iff_exists.1 (HC.out 14 (by omega))) hG2;have HK:Hid (Kept w W2):=Fr.to_kept (Fr.to_kept hk0.out HI.out.fr (fun i hi=>by omega)) hR.fr (fun i hi=>by omega);clear hR hG2 HC HF HI hG hk0;go_wp2_with fail;refine (deskWrite_any w.heap.size wd H K D L P V Z pp qp xp fp kp cp pc qc xc fc kc cc pal clr pix fl kl cl W2 HD.out hw0).mono ?_;rintro r W3 ⟨rfl,hd3,hf3⟩;have HD3:Hid (Dk W3 w.heap.size wd H K D L P V Z pp qp xp fp kp cp pc qc xc fc kc cc pal clr pix fl kl cl):=hd3;have HK3:Hid (Kept w W3):=Fr.to_kept HK.out hf3 (fun i hi=>by omega);clear hd3 hf3 HD HK;go_wp2;go_ret;exact ⟨Or.inr ⟨by first | trivial | rfl,w.heap.size,wd,H,K,D,L,P,V,Z,pp,qp,xp,fp,kp,cp,pc,qc,xc,fc,kc,cc,pal,clr,pix,fl,kl,cl,rfl,hw0,Nat.le_refl _,HD3.out⟩,HK3.out⟩
