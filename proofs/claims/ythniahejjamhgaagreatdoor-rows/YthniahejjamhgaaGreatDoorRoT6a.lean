import Derived.Test.YthniahejjamhgaaGreatDoorRoT5a
import Derived.KernelRfl
import Derived.Test.YthniahejjamhgaaGreatDoorRoT2
import Derived.Deep.CutBlock
import Derived.Deep.CutRange
set_option maxRecDepth 100000
set_option maxHeartbeats 6400000
namespace Go.Proofs.YthniahejjamhgaaGreatDoor
open Go.RowKit
set_option linter.unusedSimpArgs false
set_option linter.unusedVariables false
structure ImAt (w W:World) (x N so:Nat) (s t:ByteArray) (u:Nat->Option Value) (pv qv xv:Value) (pl ql xl:List Int):Prop where
 lt:x<N
 sN:so<N
 sx:so≠x
 size:N<=W.heap.size
 fz:∀ k,W.frozen? ⟨x,k,none⟩=false
 c4:W.cell? ⟨x,4,none⟩=some pv
 c5:W.cell? ⟨x,5,none⟩=some qv
 c6:W.cell? ⟨x,6,none⟩=some xv
 op:OwnI W N pv pl
 oq:OwnI W N qv ql
 ox:OwnI W N xv xl
 pq:∀ g,pv.ownBlock=some g->qv.ownBlock≠some g
 px:∀ g,pv.ownBlock=some g->xv.ownBlock≠some g
 qx:∀ g,qv.ownBlock=some g->xv.ownBlock≠some g
 o3:W.cell? ⟨so,3,none⟩=some (.string s)
 o4:W.cell? ⟨so,4,none⟩=some (.string t)
 rest:∀ j,j<4\/6<j->W.cell? ⟨x,j,none⟩=u j
 fr:Fr1 x w W
 wN:w.heap.size<=N
theorem ImAt.kept {w W W':World} {x N so:Nat} {s t:ByteArray} {u:Nat->Option Value} {pv qv xv:Value} {pl ql xl:List Int} (h:ImAt w W x N so s t u pv qv xv pl ql xl) (k:Kept W W'):ImAt w W' x N so s t u pv qv xv pl ql xl:=by
 have hx:x<W.heap.size:=Nat.lt_of_lt_of_le h.lt h.size;have hs:so<W.heap.size:=Nat.lt_of_lt_of_le h.sN h.size;have e:∀ j,W'.cell? ⟨x,j,none⟩=W.cell? ⟨x,j,none⟩:=fun j=>k.cell (p:=⟨x,j,none⟩) hx
 exact ⟨h.lt,h.sN,h.sx,Nat.le_trans h.size k.size,fun j=>(k.frozen (p:=⟨x,j,none⟩) hx).trans (h.fz j),(e 4).trans h.c4,(e 5).trans h.c5,(e 6).trans h.c6,h.op.kept k,h.oq.kept k,h.ox.kept k,h.pq,h.px,h.qx,(k.cell (p:=⟨so,3,none⟩) hs).trans h.o3,(k.cell (p:=⟨so,4,none⟩) hs).trans h.o4,fun j hj=>(e j).trans (h.rest j hj),h.fr.kept k,h.wN⟩
theorem ImAt.grow_p {w W W2:World} {x N so:Nat} {s t:ByteArray} {u:Nat->Option Value} {pv qv xv:Value} {pl ql xl:List Int} (h:ImAt w W x N so s t u pv qv xv pl ql xl) (v':Value) (l':List Int) (fk:Fr (fun g=>pv.ownBlock=some g) W W2) (ho:OwnI W2 N v' l') (hn:∀ g,v'.ownBlock=some g->pv.ownBlock=some g\/W.heap.size<=g):ImAt w (W2.setCell ⟨x,4,none⟩ v') x N so s t u v' qv xv l' ql xl:=by
 have hx:x<W.heap.size:=Nat.lt_of_lt_of_le h.lt h.size;have hs:so<W.heap.size:=Nat.lt_of_lt_of_le h.sN h.size;have hlt:=h.lt;have hsx:=h.sx;have hge:∀ g,pv.ownBlock=some g->N<=g:=h.op.ge;have hnx:¬ pv.ownBlock=some x:=fun e=>by have:=hge x e;omega
 have hns:¬ pv.ownBlock=some so:=fun e=>by have:=hge so e;have:=h.sN;omega
 have e:∀ j,j≠4->(W2.setCell ⟨x,4,none⟩ v').cell? ⟨x,j,none⟩=W.cell? ⟨x,j,none⟩:=fun j hj=>(cell_set_other _ _ _ _ _ (fun q=>hj q.symm)).trans (fk.cell hx hnx)
 have eo:∀ j,(W2.setCell ⟨x,4,none⟩ v').cell? ⟨so,j,none⟩=W.cell? ⟨so,j,none⟩:=fun j=>(World.cell?_setCell_other _ _ _ _ (by intro q;injection q;omega)).trans (fk.cell hs hns)
 have hse:(W2.setCell ⟨x,4,none⟩ v').heap.size=W2.heap.size:=by simp [World.setCell]
 have lt_of:∀ (v:Value) (l:List Int),OwnI W N v l->∀ g,v.ownBlock=some g->g<W.heap.size:=fun v l q g hg=>(World.ownsRow.lt q g hg).2
 exact ⟨h.lt,h.sN,h.sx,by rw[hse];exact Nat.le_trans h.size fk.size,fun k=>by rw[World.frozen?_setCell];exact (fk.frozen hx hnx).trans (h.fz k),cell_set_same ((fk.cell (k:=4) hx hnx).trans h.c4) _,(e 5 (by omega)).trans h.c5,(e 6 (by omega)).trans h.c6,ho.set hlt _ _,(own_fr h.oq fk (fun g hg q=>h.pq g q hg)).set hlt _ _,(own_fr h.ox fk (fun g hg q=>h.px g q hg)).set hlt _ _,fun g hg q=>by rcases hn g hg with r | r;exact h.pq g r q;have:=lt_of _ _ h.oq g q;omega,fun g hg q=>by rcases hn g hg with r | r;exact h.px g r q;have:=lt_of _ _ h.ox g q;omega,h.qx,(eo 3).trans h.o3,(eo 4).trans h.o4,fun j hj=>(e j (by omega)).trans (h.rest j hj),Fr.setCell (S:=fun g=>g=x) (Fr.trans' h.fr fk (fun g hg q=>by have:=hge g q;have:=h.wN;omega)) (Or.inl rfl) _ _,h.wN⟩
theorem ImAt.grow_q {w W W2:World} {x N so:Nat} {s t:ByteArray} {u:Nat->Option Value} {pv qv xv:Value} {pl ql xl:List Int} (h:ImAt w W x N so s t u pv qv xv pl ql xl) (v':Value) (l':List Int) (fk:Fr (fun g=>qv.ownBlock=some g) W W2) (ho:OwnI W2 N v' l') (hn:∀ g,v'.ownBlock=some g->qv.ownBlock=some g\/W.heap.size<=g):ImAt w (W2.setCell ⟨x,5,none⟩ v') x N so s t u pv v' xv pl l' xl:=by
 have hx:x<W.heap.size:=Nat.lt_of_lt_of_le h.lt h.size;have hs:so<W.heap.size:=Nat.lt_of_lt_of_le h.sN h.size;have hlt:=h.lt;have hsx:=h.sx;have hge:∀ g,qv.ownBlock=some g->N<=g:=h.oq.ge;have hnx:¬ qv.ownBlock=some x:=fun e=>by have:=hge x e;omega
 have hns:¬ qv.ownBlock=some so:=fun e=>by have:=hge so e;have:=h.sN;omega
 have e:∀ j,j≠5->(W2.setCell ⟨x,5,none⟩ v').cell? ⟨x,j,none⟩=W.cell? ⟨x,j,none⟩:=fun j hj=>(cell_set_other _ _ _ _ _ (fun q=>hj q.symm)).trans (fk.cell hx hnx)
 have eo:∀ j,(W2.setCell ⟨x,5,none⟩ v').cell? ⟨so,j,none⟩=W.cell? ⟨so,j,none⟩:=fun j=>(World.cell?_setCell_other _ _ _ _ (by intro q;injection q;omega)).trans (fk.cell hs hns)
 have hse:(W2.setCell ⟨x,5,none⟩ v').heap.size=W2.heap.size:=by simp [World.setCell]
 have lt_of:∀ (v:Value) (l:List Int),OwnI W N v l->∀ g,v.ownBlock=some g->g<W.heap.size:=fun v l q g hg=>(World.ownsRow.lt q g hg).2
 exact ⟨h.lt,h.sN,h.sx,by rw[hse];exact Nat.le_trans h.size fk.size,fun k=>by rw[World.frozen?_setCell];exact (fk.frozen hx hnx).trans (h.fz k),(e 4 (by omega)).trans h.c4,cell_set_same ((fk.cell (k:=5) hx hnx).trans h.c5) _,(e 6 (by omega)).trans h.c6,(own_fr h.op fk (fun g hg q=>h.pq g hg q)).set hlt _ _,ho.set hlt _ _,(own_fr h.ox fk (fun g hg q=>h.qx g q hg)).set hlt _ _,fun g hg q=>by rcases hn g q with r | r;exact h.pq g hg r;have:=lt_of _ _ h.op g hg;omega,h.px,fun g hg q=>by rcases hn g hg with r | r;exact h.qx g r q;have:=lt_of _ _ h.ox g q;omega,(eo 3).trans h.o3,(eo 4).trans h.o4,fun j hj=>(e j (by omega)).trans (h.rest j hj),Fr.setCell (S:=fun g=>g=x) (Fr.trans' h.fr fk (fun g hg q=>by have:=hge g q;have:=h.wN;omega)) (Or.inl rfl) _ _,h.wN⟩
theorem ImAt.grow_x {w W W2:World} {x N so:Nat} {s t:ByteArray} {u:Nat->Option Value} {pv qv xv:Value} {pl ql xl:List Int} (h:ImAt w W x N so s t u pv qv xv pl ql xl) (v':Value) (l':List Int) (fk:Fr (fun g=>xv.ownBlock=some g) W W2) (ho:OwnI W2 N v' l') (hn:∀ g,v'.ownBlock=some g->xv.ownBlock=some g\/W.heap.size<=g):ImAt w (W2.setCell ⟨x,6,none⟩ v') x N so s t u pv qv v' pl ql l':=by
 have hx:x<W.heap.size:=Nat.lt_of_lt_of_le h.lt h.size;have hs:so<W.heap.size:=Nat.lt_of_lt_of_le h.sN h.size;have hlt:=h.lt;have hsx:=h.sx;have hge:∀ g,xv.ownBlock=some g->N<=g:=h.ox.ge;have hnx:¬ xv.ownBlock=some x:=fun e=>by have:=hge x e;omega
 have hns:¬ xv.ownBlock=some so:=fun e=>by have:=hge so e;have:=h.sN;omega
 have e:∀ j,j≠6->(W2.setCell ⟨x,6,none⟩ v').cell? ⟨x,j,none⟩=W.cell? ⟨x,j,none⟩:=fun j hj=>(cell_set_other _ _ _ _ _ (fun q=>hj q.symm)).trans (fk.cell hx hnx)
 have eo:∀ j,(W2.setCell ⟨x,6,none⟩ v').cell? ⟨so,j,none⟩=W.cell? ⟨so,j,none⟩:=fun j=>(World.cell?_setCell_other _ _ _ _ (by intro q;injection q;omega)).trans (fk.cell hs hns)
 have hse:(W2.setCell ⟨x,6,none⟩ v').heap.size=W2.heap.size:=by simp [World.setCell]
 have lt_of:∀ (v:Value) (l:List Int),OwnI W N v l->∀ g,v.ownBlock=some g->g<W.heap.size:=fun v l q g hg=>(World.ownsRow.lt q g hg).2
 exact ⟨h.lt,h.sN,h.sx,by rw[hse];exact Nat.le_trans h.size fk.size,fun k=>by rw[World.frozen?_setCell];exact (fk.frozen hx hnx).trans (h.fz k),(e 4 (by omega)).trans h.c4,(e 5 (by omega)).trans h.c5,cell_set_same ((fk.cell (k:=6) hx hnx).trans h.c6) _,(own_fr h.op fk (fun g hg q=>h.px g hg q)).set hlt _ _,(own_fr h.oq fk (fun g hg q=>h.qx g hg q)).set hlt _ _,ho.set hlt _ _,h.pq,fun g hg q=>by rcases hn g q with r | r;exact h.px g hg r;have:=lt_of _ _ h.op g hg;omega,fun g hg q=>by rcases hn g q with r | r;exact h.qx g hg r;have:=lt_of _ _ h.oq g hg;omega,(eo 3).trans h.o3,(eo 4).trans h.o4,fun j hj=>(e j (by omega)).trans (h.rest j hj),Fr.setCell (S:=fun g=>g=x) (Fr.trans' h.fr fk (fun g hg q=>by have:=hge g q;have:=h.wN;omega)) (Or.inl rfl) _ _,h.wN⟩
structure ImR (w W:World) (x wd H K D L:Nat) (pp qp xp:Option Addr) (pc qc xc:Nat) (pal clr pix:List Int):Prop where
 ok:OkIm wd H K D pal clr pix
 l:L<=1
 fz:∀ k,W.frozen? ⟨x,k,none⟩=false
 c0:W.cell? ⟨x,0,none⟩=some (.int .i64 (wd:Int))
 c1:W.cell? ⟨x,1,none⟩=some (.int .i64 (H:Int))
 c2:W.cell? ⟨x,2,none⟩=some (.int .i64 (K:Int))
 c3:W.cell? ⟨x,3,none⟩=some (.int .i64 (D:Int))
 c4:W.cell? ⟨x,4,none⟩=some (.slice pp pal.length pc)
 c5:W.cell? ⟨x,5,none⟩=some (.slice qp clr.length qc)
 c6:W.cell? ⟨x,6,none⟩=some (.slice xp pix.length xc)
 c7:W.cell? ⟨x,7,none⟩=some (.int .i64 (L:Int))
 lp:LAt W .i64 (.slice pp pal.length pc) pal
 lq:LAt W .i64 (.slice qp clr.length qc) clr
 lx:LAt W .i64 (.slice xp pix.length xc) pix
 bp:∀ g,sliceBlock (.slice pp pal.length pc)=some g->w.heap.size<=g/\g<W.heap.size
 bq:∀ g,sliceBlock (.slice qp clr.length qc)=some g->w.heap.size<=g/\g<W.heap.size
 bx:∀ g,sliceBlock (.slice xp pix.length xc)=some g->w.heap.size<=g/\g<W.heap.size
 rest:∀ j,7<j->W.cell? ⟨x,j,none⟩=w.cell? ⟨x,j,none⟩
 fr:Fr1 x w W
 kp:pal.length<=pc
 kx:pix.length<=xc
theorem own_hn2 {g1 n d m:Nat} {A:Option Nat} {w:World} {o:Obj} (h:A=some g1\/((w.alloc o).drewN m).heap.size<=g1):∀ g,(Value.slice (some ⟨g1,0,none⟩) n d).ownBlock=some g->A=some g\/w.heap.size<=g:=by
 refine own_hn (match h with | Or.inl q=>Or.inl q | Or.inr q=>Or.inr ?_);simp at q;omega
theorem app_len {l:List Int} {e:Int} {n:Nat} (h:l.length=n):(l++[e]).length=n+1:=by simp [h]
theorem app_mem {l:List Int} {e lo hi:Int} (h:∀ y ∈ l,lo<=y/\y<hi) (he:lo<=e/\e<hi):∀ y ∈ l++[e],lo<=y/\y<hi:=by
 intro y hy;rcases List.mem_append.1 hy with q | q
 ·exact h y q
 ·simp at q;subst q;exact he
def imU (w:World) (x wd H K D L:Nat):Nat->Option Value:=fun j=>if j=0 then some (.int .i64 (wd:Int)) else if j=1 then some (.int .i64 (H:Int)) else if j=2 then some (.int .i64 (K:Int)) else if j=3 then some (.int .i64 (D:Int)) else if j=7 then some (.int .i64 (L:Int)) else w.cell? ⟨x,j,none⟩
def ImG1 (K D M:Nat) (pl ql:List Int):Prop:=(K=3/\1<=M/\M<=2^D/\pl.length=3*M/\ql.length<=M/\(∀ y ∈ pl,0<=y/\y<256)/\(∀ y ∈ ql,0<=y/\y<256))\/(K≠3/\M=2^D/\pl=[]/\ql=[])
def ImG2 (K D M:Nat) (pl ql:List Int):Prop:=(K=3/\1<=M/\M<=2^D/\pl.length=3*M/\ql.length<=M/\(∀ y ∈ pl,0<=y/\y<256)/\(∀ y ∈ ql,0<=y/\y<256))\/(K≠3/\M=2^D/\pl=[]/\(ql=[]\/((K=0\/K=2)/\ql.length=chan K/\∀ y ∈ ql,0<=y/\y<((2^D:Nat):Int))))
theorem legal_D {K D:Nat} (h:legal K D):D=1\/D=2\/D=4\/D=8\/D=16:=by unfold legal at h;omega
theorem legal_pal {D:Nat} (h:legal 3 D):D=1\/D=2\/D=4\/D=8:=by unfold legal at h;omega
theorem legal_K {K D:Nat} (h:legal K D):K=0\/K=2\/K=3\/K=4\/K=6:=by unfold legal at h;omega
theorem most_eq {D:Nat} (h:D=1\/D=2\/D=4\/D=8\/D=16):wrap64 (2^min (IntKind.u64.wrap (D:Int)).toNat 64)=((2^D:Nat):Int):=by
 rcases h with rfl | rfl | rfl | rfl | rfl<;>kernel_rfl
theorem ImG2.ok {wd H K D M:Nat} {pl ql xl:List Int} (h:ImG2 K D M pl ql) (hl:legal K D) (h1:1<=wd) (h2:wd<=16) (h3:1<=H) (h4:H<=16) (hx:xl.length=wd*H*chan K) (hb:∀ y ∈ xl,0<=y/\y<(M:Int)):OkIm wd H K D pl ql xl:=by
 rcases h with ⟨rfl,a1,a2,a3,a4,a5,a6⟩ | ⟨hK,rfl,rfl,hq⟩
 ·refine ⟨h1,h2,h3,h4,hl,fun _=>⟨M,a1,a3,a2⟩,fun h=>absurd rfl h,a5,?_,hx,?_⟩
  ·by_cases q:ql=[]
   ·exact Or.inl q
   ·refine Or.inr (Or.inr ⟨rfl,?_,?_,a6⟩)
    ·have:=List.length_pos_iff.2 q;omega
    ·rw[a3];omega
  ·intro y hy
   have:=hb y hy
   rw[if_pos rfl,a3];omega
 ·refine ⟨h1,h2,h3,h4,hl,fun h=>absurd h hK,fun _=>rfl,(fun y hy=>by simp at hy),?_,hx,?_⟩
  ·rcases hq with q | q
   ·exact Or.inl q
   ·exact Or.inr (Or.inl q)
  ·intro y hy
   rw[if_neg hK];exact hb y hy
theorem OwnI.cap {W:World} {N:Nat} {p:Option Addr} {c:Nat} {l:List Int} (h:OwnI W N (.slice p l.length c) l):l.length<=c:=by
 rcases Nat.eq_zero_or_pos l.length with q | q
 ·rw[q];exact Nat.zero_le _
 ·rcases h.2 with ⟨e,_⟩ | ⟨g,cap,cur,e,_,_,hnc,_⟩
  ·injection e with _ e2 _;omega
  ·injection e with _ _ e3;rw[e3];exact hnc
theorem ImAt.done {w W:World} {x so wd H K D M L:Nat} {s t:ByteArray} {pp qp xp:Option Addr} {pc qc xc:Nat} {pl ql xl:List Int} (h:ImAt w W x (w.heap.size+1) so s t (imU w x wd H K D L) (.slice pp pl.length pc) (.slice qp ql.length qc) (.slice xp xl.length xc) pl ql xl) (ho:OkIm wd H K D pl ql xl) (hL:L<=1):ImR w W x wd H K D L pp qp xp pc qc xc pl ql xl:=by
 have b:∀ (p:Option Addr) (c:Nat) (l:List Int),OwnI W (w.heap.size+1) (.slice p l.length c) l->∀ g,sliceBlock (.slice p l.length c)=some g->w.heap.size<=g/\g<W.heap.size:=fun p c l q g hg=>by
  have e:(Value.slice p l.length c).ownBlock=some g:=by rw[<- sliceBlock_own _ q];exact hg
  have:=World.ownsRow.lt q g e
  omega
 exact ⟨ho,hL,h.fz,(h.rest 0 (by omega)).trans rfl,(h.rest 1 (by omega)).trans rfl,(h.rest 2 (by omega)).trans rfl,(h.rest 3 (by omega)).trans rfl,h.c4,h.c5,h.c6,(h.rest 7 (by omega)).trans rfl,h.op.lat,h.oq.lat,h.ox.lat,b _ _ _ h.op,b _ _ _ h.oq,b _ _ _ h.ox,fun j hj=>by
  rw[h.rest j (by omega)];unfold imU;rw[if_neg (by omega),if_neg (by omega),if_neg (by omega),if_neg (by omega),if_neg (by omega)],h.fr,h.op.cap,h.ox.cap⟩
def lastOf:Code->Code
 | .seq _ b=>lastOf b
 | c=>c
theorem image_loop4 (u1 u2 u4 u5 u6 u7 u9 u10 u11 u12 u14 u15 u16 u18 u19 u20 u21 u22 u23 u24 u25 u26 u27 u28 u29 u30 u31 u32 u33 u34 u35 u36 u37 u38 u39 u40 u41 u42 u43 u44 u45 u46 u47 u48 u49 u50 u51 u52 u53 u54 u55 u56 u57 u58 u59 u60 u61 u62 u63 u64 u65 u66 u67 u68 u69 u70 u71 u72 u73 u74 u75 u76 u77 u78 u79 u80 u81 u82 u83 u84 u85 u86 u87 u88 u89 u90 u91 u92 u93 u94 u95 u96 u97 u98 u99 u100 u101 u102 u103 u104 u105 u106 u107 u108 u109 u110 u111 u112 u113 u114 u115 u116 u117 u118 u119 u120 u121 u122 u123 u124 u125 u126 u127 u128 u129 u130 u131 u132 u133 u134 u135 u136 u137 u138 u139 u140 u141 u142 u143 u144 u145 u146 u147 u148 u149 u150 u151 u152 u153 u154 u155 u156 u157 u158 u159 u160 u161 u162 u163 u164 u165 u166 u167 u168 u169 u170 u171 u172 u173 u174 u175 u176 u177 u178 u179 u180 u181 u182 u183 u184 u185 u186 u187 u188 u189 u190 u191 u192 u193 u194 u195 u196 u197 u198 u199 u200 u201 u202 u203 u204 u205 u206 u207 u208 u209:Value) (x wd H K D L M C1 T0 T:Nat) (pv qv:Value) (pl ql:List Int) (s t:ByteArray) (w wc:World) (hx:x<w.heap.size) (hs:s.size<=65536) (hlg:Hid (legal K D)) (hG:Hid (ImG2 K D M pl ql)) (hL:L<2) (hwd1:1<=wd) (hwd2:wd<=16) (hH1:1<=H) (hH2:H<=16) (hm1:1<=M) (hm2:M<=65536) (hC1:Hid (C1=chan K)) (hC12:1<=C1/\C1<=4) (hT01:T0<=256) (hT1:T<=1024) (eT0:(wd:Int)*(H:Int)=(T0:Int)) (eT:(T0:Int)*(C1:Int)=(T:Int)) (hT0:Hid (T0=wd*H)) (hT:Hid (T=T0*C1))
  (hI:Hid (ImAt w wc x (w.heap.size+1) w.heap.size s t (imU w x wd H K D L) pv qv (.slice none 0 0) pl ql [])) :
  Code.wp Tryz.prog ((Tryz.f8.body.map lastOf).getD .skip) (bodyPost Tryz.prog Tryz.f8 fun r w'=>r = .returned (.tuple #[])/\∃ wd H K D L:Nat,∃ pp qp xp:Option Addr,∃ pc qc xc:Nat,∃ pal clr pix:List Int,ImR w w' x wd H K D L pp qp xp pc qc xc pal clr pix) ⟨#[.pointer (some ⟨x,0,none⟩),u1,u2,.pointer (some ⟨w.heap.size,0,none⟩),u4,u5,u6,u7,.int .i64 (M:Int),u9,u10,u11,u12,.int .i64 (C1:Int),u14,u15,u16,.int .i64 0,u18,u19,u20,u21,u22,u23,u24,u25,u26,u27,u28,u29,u30,u31,u32,u33,u34,u35,u36,u37,u38,u39,u40,u41,u42,u43,u44,u45,u46,u47,u48,u49,u50,u51,u52,u53,u54,u55,u56,u57,u58,u59,u60,u61,u62,u63,u64,u65,u66,u67,u68,u69,u70,u71,u72,u73,u74,u75,u76,u77,u78,u79,u80,u81,u82,u83,u84,u85,u86,u87,u88,u89,u90,u91,u92,u93,u94,u95,u96,u97,u98,u99,u100,u101,u102,u103,u104,u105,u106,u107,u108,u109,u110,u111,u112,u113,u114,u115,u116,u117,u118,u119,u120,u121,u122,u123,u124,u125,u126,u127,u128,u129,u130,u131,u132,u133,u134,u135,u136,u137,u138,u139,u140,u141,u142,u143,u144,u145,u146,u147,u148,u149,u150,u151,u152,u153,u154,u155,u156,u157,u158,u159,u160,u161,u162,u163,u164,u165,u166,u167,u168,u169,u170,u171,u172,u173,u174,u175,u176,u177,u178,u179,u180,u181,u182,u183,u184,u185,u186,u187,u188,u189,u190,u191,u192,u193,u194,u195,u196,u197,u198,u199,u200,u201,u202,u203,u204,u205,u206,u207,u208,u209],[]⟩ wc:=by
 conv=>arg 2;whnf
 have FA:Hid (∀ (W':World) (k:Nat),k<=1048576->Calls Tryz.prog 20 #[.string s,.int .i64 (k:Int)] W' fun r w'=>(∃ v:Nat,v<256/\r = .returned (.int .i64 (v:Int)))/\Kept W' w'):=fun W' k hk=>at_any s k W' hs hk
 go_wp2_with fail;go_loopg [17] T (fun k v W=>∃ i:Nat,∃ xv:Value,∃ xl:List Int,v = .int .i64 (i:Int)/\i<=T/\k=T - i/\xl.length=i/\(∀ y ∈ xl,0<=y/\y<(M:Int))/\ImAt w W x (w.heap.size+1) w.heap.size s t (imU w x wd H K D L) pv qv xv pl ql xl)
 case atStart=>exact ⟨0,_,[],rfl,by omega,by omega,rfl,fun y hy=>by simp at hy,hI.out⟩
 case round=>
  obtain ⟨i,xv,xl,rfl,hi1,hgk,hxl,hxb,hI2⟩:=hrel;clear hI;have k0:wr.cell? ⟨x,0,none⟩=some (.int .i64 (wd:Int)):=(hI2.rest 0 (by omega)).trans rfl;have k1:wr.cell? ⟨x,1,none⟩=some (.int .i64 (H:Int)):=(hI2.rest 1 (by omega)).trans rfl;have k3:=hI2.o3;replace hxl:Hid _:=hxl;replace hxb:Hid _:=hxb;replace hgk:Hid _:=hgk;obtain ⟨px,cx,rfl⟩:=hI2.ox.slice;replace hI2:Hid (ImAt w wr x (w.heap.size+1) w.heap.size s t (imU w x wd H K D L) pv qv (.slice px xl.length cx) pl ql xl):=hI2;by_cases hlt:i<T
  ·have l1:(i:Int)<(T:Int):=by omega
   have e2i:(2:Int)*(i:Int)=((2*i:Nat):Int):=by omega
   have e2j:(2:Int)*(i:Int)+1=((2*i+1:Nat):Int):=by omega
   replace e2i:Hid _:=e2i;replace e2j:Hid _:=e2j;go_wp2_with fail;go_quiet (fail);have Iq:Hid (ImAt w (wr.drewN nq) x (w.heap.size+1) w.heap.size s t (imU w x wd H K D L) pv qv (.slice px xl.length cx) pl ql xl):=hI2.out.kept ((Kept.refl _).drewN _);clear hI2 k0 k1 k3;generalize wr.drewN nq=wq at *;have k3:=Iq.out.o3;go_upto_block 7 with fail
   go_cut [] from 165 to 209 (fun W=>∃ xv:Value,∃ xl:List Int,xl.length=i+1/\(∀ y ∈ xl,0<=y/\y<(M:Int))/\ImAt w W x (w.heap.size+1) w.heap.size s t (imU w x wd H K D L) pv qv xv pl ql xl)
   case first=>
    --<D0
    go_wp2_with fail;rw[e2i.out];refine (FA.out _ (2*i) (by omega)).mono ?_;rintro r wa ⟨⟨v,hv,rfl⟩,hka⟩;have I3:Hid (ImAt w wa x (w.heap.size+1) w.heap.size s t (imU w x wd H K D L) pv qv (.slice px xl.length cx) pl ql xl):=Iq.out.kept hka;clear Iq hka k3;have k3:=I3.out.o3;go_wp2_with fail;rw[e2j.out];refine (FA.out _ (2*i+1) (by omega)).mono ?_;rintro r wb ⟨⟨v2,hv2,rfl⟩,hka⟩;have I4:Hid (ImAt w wb x (w.heap.size+1) w.heap.size s t (imU w x wd H K D L) pv qv (.slice px xl.length cx) pl ql xl):=I3.out.kept hka;clear I3 hka k3;have c6:=I4.out.c6;have f6:=I4.out.fz 6;have hszr:=I4.out.size;have hxr:x<wb.heap.size:=by omega
    have HO:Hid (OwnI wb (w.heap.size+1) (.slice px xl.length cx) xl):=I4.out.ox;have hnx:¬ (Value.slice px xl.length cx).ownBlock=some x:=fun e=>by have:=HO.out.ge x e;omega
    have hxlb:xl.length<=1024:=by have:=hxl.out;omega
    have n1:¬ ((M:Int)=0):=by omega
    have n2:¬ (M=0):=by omega
    obtain ⟨E1,hE1⟩:∃ E1:Int,E1=(IntKind.i64.wrap (IntKind.i64.wrap (256*(v:Int))+(v2:Int))).tmod (M:Int):=⟨_,rfl⟩;have hE1b:0<=E1/\E1<(M:Int):=by
     rw[hE1,wrapZ (256*(v:Int)) (by omega) (by omega),wrapZ _ (by omega) (by omega),Int.tmod_eq_emod_of_nonneg (by omega)];exact ⟨Int.emod_nonneg _ n1,Int.emod_lt_of_pos _ (by omega)⟩
    replace hE1:Hid _:=hE1;go_wp2_with fail;go_region_law ((refine stepI (by rfl) _ _ (by rfl) (w.heap.size+1) (.slice px xl.length cx) xl (by rfl) (by exact (HO.out.alloc _).drewN 1) wb.heap.size 1 E1 (by rfl) (by rw[hE1.out];simp) (by omega) (by simp;omega) ?_;intro g' cap w2 ho2 hf2 hn2;have fk:Fr (fun k=>(Value.slice px xl.length cx).ownBlock=some k) wb w2:=(((Fr.refl _ wb).alloc _).drewN 1).trans hf2;have k6:=(fk.cell (k:=6) hxr hnx).trans c6;have g6:=(fk.frozen (k:=6) hxr hnx).trans f6))
    all_goals
     have C2:Hid (ImAt w (w2.setCell ⟨x,6,none⟩ (Value.slice (some ⟨g',0,none⟩) (xl.length+1) cap)) x (w.heap.size+1) w.heap.size s t (imU w x wd H K D L) pv qv (Value.slice (some ⟨g',0,none⟩) (xl.length+1) cap) pl ql (xl++[E1])):=ImAt.grow_x I4.out _ _ fk ho2 (own_hn2 hn2);clear fk hf2 ho2 hn2 k6 g6;go_wp2_with fail;go_meet
     case rel=>
      exact ⟨_,xl++[E1],app_len hxl.out,app_mem hxb.out hE1b,C2.out⟩
    -->D0
   case rest=>
    clear k3 Iq;obtain ⟨qv3,ql3,hl3,hb3,hI3⟩:=hcut;replace hl3:Hid _:=hl3;replace hb3:Hid _:=hb3;replace hI3:Hid _:=hI3;go_wp2_with fail;go_roundg (T - (i+1))
    case measure=>rw[hgk.out];omega
    case rel=>exact ⟨i+1,qv3,ql3,by go_num,by omega,rfl,hl3.out,hb3.out,hI3.out⟩
  ·have l1:¬ (i:Int)<(T:Int):=by omega
   have hi:i=T:=by omega
   have HX:Hid (ImAt w (wr.drewN 1) x (w.heap.size+1) w.heap.size s t (imU w x wd H K D L) pv qv (.slice px xl.length cx) pl ql xl):=hI2.out.kept ((Kept.refl _).drewN _);go_wp2_with fail;go_quiet (fail);go_wp2_with fail;go_end0
   obtain ⟨pp,pc,rfl⟩:=hI2.out.op.slice;obtain ⟨qp,qc,rfl⟩:=hI2.out.oq.slice;have hIq:ImAt w (wr.drewN nq) x (w.heap.size+1) w.heap.size s t (imU w x wd H K D L) (.slice pp pl.length pc) (.slice qp ql.length qc) (.slice px xl.length cx) pl ql xl:=hI2.out.kept ((Kept.refl _).drewN _);exact ⟨rfl,wd,H,K,D,L,pp,qp,px,pc,qc,cx,pl,ql,xl,hIq.done (M:=M) (ImG2.ok hG.out hlg.out hwd1 hwd2 hH1 hH2 (by rw[hxl.out,hi,hT.out,hT0.out,hC1.out]) hxb.out) (by omega)⟩
