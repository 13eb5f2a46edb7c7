import Derived.Test.YtmbmecfodigciaaGreatDoorTu22
import Derived.KernelRfl
namespace Go.Proofs.YtmbmecfodigciaaGreatDoor
open Go.RowKit
set_option linter.unusedSimpArgs false
set_option linter.unusedVariables false
structure ImAt (w W:World) (x N so:Nat) (s t:ByteArray) (u:Nat->Option Value) (pv qv xv:Value) (pl ql xl:List Int):Prop where
 lt:x<N
 sN:so<N
 sx:so≠x
 size:N<=W.heap.size
 fz:∀ k,W.frozen? ⟨x,k,none⟩=false
 c4:W.cell? ⟨x,4,none⟩=some pv
 c5:W.cell? ⟨x,5,none⟩=some qv
 c6:W.cell? ⟨x,6,none⟩=some xv
 op:OwnI W N pv pl
 oq:OwnI W N qv ql
 ox:OwnI W N xv xl
 pq:∀ g,pv.ownBlock=some g->qv.ownBlock≠some g
 px:∀ g,pv.ownBlock=some g->xv.ownBlock≠some g
 qx:∀ g,qv.ownBlock=some g->xv.ownBlock≠some g
 o3:W.cell? ⟨so,3,none⟩=some (.string s)
 o4:W.cell? ⟨so,4,none⟩=some (.string t)
 rest:∀ j,j<4\/6<j->W.cell? ⟨x,j,none⟩=u j
 fr:Fr1 x w W
 wN:w.heap.size<=N
theorem ImAt.kept {w W W':World} {x N so:Nat} {s t:ByteArray} {u:Nat->Option Value} {pv qv xv:Value} {pl ql xl:List Int} (h:ImAt w W x N so s t u pv qv xv pl ql xl) (k:Kept W W'):ImAt w W' x N so s t u pv qv xv pl ql xl:=by
 have hx:x<W.heap.size:=Nat.lt_of_lt_of_le h.lt h.size
 have hs:so<W.heap.size:=Nat.lt_of_lt_of_le h.sN h.size
 have e:∀ j,W'.cell? ⟨x,j,none⟩=W.cell? ⟨x,j,none⟩:=fun j=>k.cell (p:=⟨x,j,none⟩) hx
 exact ⟨h.lt,h.sN,h.sx,Nat.le_trans h.size k.size,fun j=>(k.frozen (p:=⟨x,j,none⟩) hx).trans (h.fz j),(e 4).trans h.c4,(e 5).trans h.c5,(e 6).trans h.c6,h.op.kept k,h.oq.kept k,h.ox.kept k,h.pq,h.px,h.qx,(k.cell (p:=⟨so,3,none⟩) hs).trans h.o3,(k.cell (p:=⟨so,4,none⟩) hs).trans h.o4,fun j hj=>(e j).trans (h.rest j hj),h.fr.kept k,h.wN⟩
theorem ImAt.grow_p {w W W2:World} {x N so:Nat} {s t:ByteArray} {u:Nat->Option Value} {pv qv xv:Value} {pl ql xl:List Int} (h:ImAt w W x N so s t u pv qv xv pl ql xl) (v':Value) (l':List Int) (fk:Fr (fun g=>pv.ownBlock=some g) W W2) (ho:OwnI W2 N v' l') (hn:∀ g,v'.ownBlock=some g->pv.ownBlock=some g\/W.heap.size<=g):ImAt w (W2.setCell ⟨x,4,none⟩ v') x N so s t u v' qv xv l' ql xl:=by
 have hx:x<W.heap.size:=Nat.lt_of_lt_of_le h.lt h.size
 have hs:so<W.heap.size:=Nat.lt_of_lt_of_le h.sN h.size
 have hlt:=h.lt
 have hsx:=h.sx
 have hge:∀ g,pv.ownBlock=some g->N<=g:=h.op.ge
 have hnx:¬ pv.ownBlock=some x:=fun e=>by have:=hge x e;omega
 have hns:¬ pv.ownBlock=some so:=fun e=>by have:=hge so e;have:=h.sN;omega
 have e:∀ j,j≠4->(W2.setCell ⟨x,4,none⟩ v').cell? ⟨x,j,none⟩=W.cell? ⟨x,j,none⟩:=fun j hj=>(cell_set_other _ _ _ _ _ (fun q=>hj q.symm)).trans (fk.cell hx hnx)
 have eo:∀ j,(W2.setCell ⟨x,4,none⟩ v').cell? ⟨so,j,none⟩=W.cell? ⟨so,j,none⟩:=fun j=>(World.cell?_setCell_other _ _ _ _ (by intro q;injection q;omega)).trans (fk.cell hs hns)
 have hse:(W2.setCell ⟨x,4,none⟩ v').heap.size=W2.heap.size:=by simp [World.setCell]
 have lt_of:∀ (v:Value) (l:List Int),OwnI W N v l->∀ g,v.ownBlock=some g->g<W.heap.size:=fun v l q g hg=>(World.ownsRow.lt q g hg).2
 exact ⟨h.lt,h.sN,h.sx,by rw[hse];exact Nat.le_trans h.size fk.size,fun k=>by rw[World.frozen?_setCell];exact (fk.frozen hx hnx).trans (h.fz k),cell_set_same ((fk.cell (k:=4) hx hnx).trans h.c4) _,(e 5 (by omega)).trans h.c5,(e 6 (by omega)).trans h.c6,ho.set hlt _ _,(own_fr h.oq fk (fun g hg q=>h.pq g q hg)).set hlt _ _,(own_fr h.ox fk (fun g hg q=>h.px g q hg)).set hlt _ _,fun g hg q=>by rcases hn g hg with r | r;exact h.pq g r q;have:=lt_of _ _ h.oq g q;omega,fun g hg q=>by rcases hn g hg with r | r;exact h.px g r q;have:=lt_of _ _ h.ox g q;omega,h.qx,(eo 3).trans h.o3,(eo 4).trans h.o4,fun j hj=>(e j (by omega)).trans (h.rest j hj),Fr.setCell (S:=fun g=>g=x) (Fr.trans' h.fr fk (fun g hg q=>by have:=hge g q;have:=h.wN;omega)) (Or.inl rfl) _ _,h.wN⟩
theorem ImAt.grow_q {w W W2:World} {x N so:Nat} {s t:ByteArray} {u:Nat->Option Value} {pv qv xv:Value} {pl ql xl:List Int} (h:ImAt w W x N so s t u pv qv xv pl ql xl) (v':Value) (l':List Int) (fk:Fr (fun g=>qv.ownBlock=some g) W W2) (ho:OwnI W2 N v' l') (hn:∀ g,v'.ownBlock=some g->qv.ownBlock=some g\/W.heap.size<=g):ImAt w (W2.setCell ⟨x,5,none⟩ v') x N so s t u pv v' xv pl l' xl:=by
 have hx:x<W.heap.size:=Nat.lt_of_lt_of_le h.lt h.size
 have hs:so<W.heap.size:=Nat.lt_of_lt_of_le h.sN h.size
 have hlt:=h.lt
 have hsx:=h.sx
 have hge:∀ g,qv.ownBlock=some g->N<=g:=h.oq.ge
 have hnx:¬ qv.ownBlock=some x:=fun e=>by have:=hge x e;omega
 have hns:¬ qv.ownBlock=some so:=fun e=>by have:=hge so e;have:=h.sN;omega
 have e:∀ j,j≠5->(W2.setCell ⟨x,5,none⟩ v').cell? ⟨x,j,none⟩=W.cell? ⟨x,j,none⟩:=fun j hj=>(cell_set_other _ _ _ _ _ (fun q=>hj q.symm)).trans (fk.cell hx hnx)
 have eo:∀ j,(W2.setCell ⟨x,5,none⟩ v').cell? ⟨so,j,none⟩=W.cell? ⟨so,j,none⟩:=fun j=>(World.cell?_setCell_other _ _ _ _ (by intro q;injection q;omega)).trans (fk.cell hs hns)
 have hse:(W2.setCell ⟨x,5,none⟩ v').heap.size=W2.heap.size:=by simp [World.setCell]
 have lt_of:∀ (v:Value) (l:List Int),OwnI W N v l->∀ g,v.ownBlock=some g->g<W.heap.size:=fun v l q g hg=>(World.ownsRow.lt q g hg).2
 exact ⟨h.lt,h.sN,h.sx,by rw[hse];exact Nat.le_trans h.size fk.size,fun k=>by rw[World.frozen?_setCell];exact (fk.frozen hx hnx).trans (h.fz k),(e 4 (by omega)).trans h.c4,cell_set_same ((fk.cell (k:=5) hx hnx).trans h.c5) _,(e 6 (by omega)).trans h.c6,(own_fr h.op fk (fun g hg q=>h.pq g hg q)).set hlt _ _,ho.set hlt _ _,(own_fr h.ox fk (fun g hg q=>h.qx g q hg)).set hlt _ _,fun g hg q=>by rcases hn g q with r | r;exact h.pq g hg r;have:=lt_of _ _ h.op g hg;omega,h.px,fun g hg q=>by rcases hn g hg with r | r;exact h.qx g r q;have:=lt_of _ _ h.ox g q;omega,(eo 3).trans h.o3,(eo 4).trans h.o4,fun j hj=>(e j (by omega)).trans (h.rest j hj),Fr.setCell (S:=fun g=>g=x) (Fr.trans' h.fr fk (fun g hg q=>by have:=hge g q;have:=h.wN;omega)) (Or.inl rfl) _ _,h.wN⟩
theorem ImAt.grow_x {w W W2:World} {x N so:Nat} {s t:ByteArray} {u:Nat->Option Value} {pv qv xv:Value} {pl ql xl:List Int} (h:ImAt w W x N so s t u pv qv xv pl ql xl) (v':Value) (l':List Int) (fk:Fr (fun g=>xv.ownBlock=some g) W W2) (ho:OwnI W2 N v' l') (hn:∀ g,v'.ownBlock=some g->xv.ownBlock=some g\/W.heap.size<=g):ImAt w (W2.setCell ⟨x,6,none⟩ v') x N so s t u pv qv v' pl ql l':=by
 have hx:x<W.heap.size:=Nat.lt_of_lt_of_le h.lt h.size
 have hs:so<W.heap.size:=Nat.lt_of_lt_of_le h.sN h.size
 have hlt:=h.lt
 have hsx:=h.sx
 have hge:∀ g,xv.ownBlock=some g->N<=g:=h.ox.ge
 have hnx:¬ xv.ownBlock=some x:=fun e=>by have:=hge x e;omega
 have hns:¬ xv.ownBlock=some so:=fun e=>by have:=hge so e;have:=h.sN;omega
 have e:∀ j,j≠6->(W2.setCell ⟨x,6,none⟩ v').cell? ⟨x,j,none⟩=W.cell? ⟨x,j,none⟩:=fun j hj=>(cell_set_other _ _ _ _ _ (fun q=>hj q.symm)).trans (fk.cell hx hnx)
 have eo:∀ j,(W2.setCell ⟨x,6,none⟩ v').cell? ⟨so,j,none⟩=W.cell? ⟨so,j,none⟩:=fun j=>(World.cell?_setCell_other _ _ _ _ (by intro q;injection q;omega)).trans (fk.cell hs hns)
 have hse:(W2.setCell ⟨x,6,none⟩ v').heap.size=W2.heap.size:=by simp [World.setCell]
 have lt_of:∀ (v:Value) (l:List Int),OwnI W N v l->∀ g,v.ownBlock=some g->g<W.heap.size:=fun v l q g hg=>(World.ownsRow.lt q g hg).2
 exact ⟨h.lt,h.sN,h.sx,by rw[hse];exact Nat.le_trans h.size fk.size,fun k=>by rw[World.frozen?_setCell];exact (fk.frozen hx hnx).trans (h.fz k),(e 4 (by omega)).trans h.c4,(e 5 (by omega)).trans h.c5,cell_set_same ((fk.cell (k:=6) hx hnx).trans h.c6) _,(own_fr h.op fk (fun g hg q=>h.px g hg q)).set hlt _ _,(own_fr h.oq fk (fun g hg q=>h.qx g hg q)).set hlt _ _,ho.set hlt _ _,h.pq,fun g hg q=>by rcases hn g q with r | r;exact h.px g hg r;have:=lt_of _ _ h.op g hg;omega,fun g hg q=>by rcases hn g q with r | r;exact h.qx g hg r;have:=lt_of _ _ h.oq g hg;omega,(eo 3).trans h.o3,(eo 4).trans h.o4,fun j hj=>(e j (by omega)).trans (h.rest j hj),Fr.setCell (S:=fun g=>g=x) (Fr.trans' h.fr fk (fun g hg q=>by have:=hge g q;have:=h.wN;omega)) (Or.inl rfl) _ _,h.wN⟩
structure ImR (w W:World) (x wd H K D L:Nat) (pp qp xp:Option Addr) (pc qc xc:Nat) (pal clr pix:List Int):Prop where
 ok:OkIm wd H K D pal clr pix
 l:L<=1
 fz:∀ k,W.frozen? ⟨x,k,none⟩=false
 c0:W.cell? ⟨x,0,none⟩=some (.int .i64 (wd:Int))
 c1:W.cell? ⟨x,1,none⟩=some (.int .i64 (H:Int))
 c2:W.cell? ⟨x,2,none⟩=some (.int .i64 (K:Int))
 c3:W.cell? ⟨x,3,none⟩=some (.int .i64 (D:Int))
 c4:W.cell? ⟨x,4,none⟩=some (.slice pp pal.length pc)
 c5:W.cell? ⟨x,5,none⟩=some (.slice qp clr.length qc)
 c6:W.cell? ⟨x,6,none⟩=some (.slice xp pix.length xc)
 c7:W.cell? ⟨x,7,none⟩=some (.int .i64 (L:Int))
 lp:LAt W .i64 (.slice pp pal.length pc) pal
 lq:LAt W .i64 (.slice qp clr.length qc) clr
 lx:LAt W .i64 (.slice xp pix.length xc) pix
 bp:∀ g,sliceBlock (.slice pp pal.length pc)=some g->w.heap.size<=g/\g<W.heap.size
 bq:∀ g,sliceBlock (.slice qp clr.length qc)=some g->w.heap.size<=g/\g<W.heap.size
 bx:∀ g,sliceBlock (.slice xp pix.length xc)=some g->w.heap.size<=g/\g<W.heap.size
 rest:∀ j,7<j->W.cell? ⟨x,j,none⟩=w.cell? ⟨x,j,none⟩
 fr:Fr1 x w W
 kp:pal.length<=pc
 kx:pix.length<=xc
theorem own_hn2 {g1 n d m:Nat} {A:Option Nat} {w:World} {o:Obj} (h:A=some g1\/((w.alloc o).drewN m).heap.size<=g1):∀ g,(Value.slice (some ⟨g1,0,none⟩) n d).ownBlock=some g->A=some g\/w.heap.size<=g:=by
 refine own_hn (match h with | Or.inl q => Or.inl q | Or.inr q => Or.inr ?_)
 simp at q
 omega
theorem app_len {l:List Int} {e:Int} {n:Nat} (h:l.length=n):(l++[e]).length=n+1:=by simp [h]
theorem app_mem {l:List Int} {e lo hi:Int} (h:∀ y ∈ l,lo<=y/\y<hi) (he:lo<=e/\e<hi):∀ y ∈ l++[e],lo<=y/\y<hi:=by
 intro y hy
 rcases List.mem_append.1 hy with q | q
 ·exact h y q
 ·simp at q;subst q;exact he
def imU (w:World) (x wd H K D L:Nat):Nat->Option Value:=fun j=>if j=0 then some (.int .i64 (wd:Int)) else if j=1 then some (.int .i64 (H:Int)) else if j=2 then some (.int .i64 (K:Int)) else if j=3 then some (.int .i64 (D:Int)) else if j=7 then some (.int .i64 (L:Int)) else w.cell? ⟨x,j,none⟩
def ImG1 (K D M:Nat) (pl ql:List Int):Prop:=(K=3/\1<=M/\M<=2^D/\pl.length=3*M/\ql.length<=M/\(∀ y ∈ pl,0<=y/\y<256)/\(∀ y ∈ ql,0<=y/\y<256))\/(K≠3/\M=2^D/\pl=[]/\ql=[])
def ImG2 (K D M:Nat) (pl ql:List Int):Prop:=(K=3/\1<=M/\M<=2^D/\pl.length=3*M/\ql.length<=M/\(∀ y ∈ pl,0<=y/\y<256)/\(∀ y ∈ ql,0<=y/\y<256))\/(K≠3/\M=2^D/\pl=[]/\(ql=[]\/((K=0\/K=2)/\ql.length=chan K/\∀ y ∈ ql,0<=y/\y<((2^D:Nat):Int))))
theorem legal_D {K D:Nat} (h:legal K D):D=1\/D=2\/D=4\/D=8\/D=16:=by unfold legal at h;omega
theorem legal_pal {D:Nat} (h:legal 3 D):D=1\/D=2\/D=4\/D=8:=by unfold legal at h;omega
theorem legal_K {K D:Nat} (h:legal K D):K=0\/K=2\/K=3\/K=4\/K=6:=by unfold legal at h;omega
theorem most_eq {D:Nat} (h:D=1\/D=2\/D=4\/D=8\/D=16):wrap64 (2^min (IntKind.u64.wrap (D:Int)).toNat 64)=((2^D:Nat):Int):=by
 rcases h with rfl | rfl | rfl | rfl | rfl<;>kernel_rfl
theorem ImG2.ok {wd H K D M:Nat} {pl ql xl:List Int} (h:ImG2 K D M pl ql) (hl:legal K D) (h1:1<=wd) (h2:wd<=16) (h3:1<=H) (h4:H<=16) (hx:xl.length=wd*H*chan K) (hb:∀ y ∈ xl,0<=y/\y<(M:Int)):OkIm wd H K D pl ql xl:=by
 rcases h with ⟨rfl,a1,a2,a3,a4,a5,a6⟩ | ⟨hK,rfl,rfl,hq⟩
 ·refine ⟨h1,h2,h3,h4,hl,fun _=>⟨M,a1,a3,a2⟩,fun h=>absurd rfl h,a5,?_,hx,?_⟩
  ·by_cases q:ql=[]
   ·exact Or.inl q
   ·refine Or.inr (Or.inr ⟨rfl,?_,?_,a6⟩)
    ·have:=List.length_pos_iff.2 q;omega
    ·rw[a3];omega
  ·intro y hy
   have:=hb y hy
   rw[if_pos rfl,a3];omega
 ·refine ⟨h1,h2,h3,h4,hl,fun h=>absurd h hK,fun _=>rfl,(fun y hy=>by simp at hy),?_,hx,?_⟩
  ·rcases hq with q | q
   ·exact Or.inl q
   ·exact Or.inr (Or.inl q)
  ·intro y hy
   rw[if_neg hK];exact hb y hy
theorem OwnI.cap {W:World} {N:Nat} {p:Option Addr} {c:Nat} {l:List Int} (h:OwnI W N (.slice p l.length c) l):l.length<=c:=by
 rcases Nat.eq_zero_or_pos l.length with q | q
 ·rw[q];exact Nat.zero_le _
 ·rcases h.2 with ⟨e,_⟩ | ⟨g,cap,cur,e,_,_,hnc,_⟩
  ·injection e with _ e2 _;omega
  ·injection e with _ _ e3;rw[e3];exact hnc
theorem ImAt.done {w W:World} {x so wd H K D M L:Nat} {s t:ByteArray} {pp qp xp:Option Addr} {pc qc xc:Nat} {pl ql xl:List Int} (h:ImAt w W x (w.heap.size+1) so s t (imU w x wd H K D L) (.slice pp pl.length pc) (.slice qp ql.length qc) (.slice xp xl.length xc) pl ql xl) (ho:OkIm wd H K D pl ql xl) (hL:L<=1):ImR w W x wd H K D L pp qp xp pc qc xc pl ql xl:=by
 have b:∀ (p:Option Addr) (c:Nat) (l:List Int),OwnI W (w.heap.size+1) (.slice p l.length c) l->∀ g,sliceBlock (.slice p l.length c)=some g->w.heap.size<=g/\g<W.heap.size:=fun p c l q g hg=>by
  have e:(Value.slice p l.length c).ownBlock=some g:=by rw[<- sliceBlock_own _ q];exact hg
  have:=World.ownsRow.lt q g e
  omega
 exact ⟨ho,hL,h.fz,(h.rest 0 (by omega)).trans rfl,(h.rest 1 (by omega)).trans rfl,(h.rest 2 (by omega)).trans rfl,(h.rest 3 (by omega)).trans rfl,h.c4,h.c5,h.c6,(h.rest 7 (by omega)).trans rfl,h.op.lat,h.oq.lat,h.ox.lat,b _ _ _ h.op,b _ _ _ h.oq,b _ _ _ h.ox,fun j hj=>by
  rw[h.rest j (by omega)];unfold imU;rw[if_neg (by omega),if_neg (by omega),if_neg (by omega),if_neg (by omega),if_neg (by omega)],h.fr,h.op.cap,h.ox.cap⟩
