import Derived.Test.YthniahejjamhgaaGreatDoorRoD0
import Derived.Deep.RegionHeld3
import Derived.Test.YthniahejjamhgaaGreatDoorRoG6b
import Derived.Lib.SmallJoins
import Derived.Laws.BytesArg
set_option maxRecDepth 100000
set_option maxHeartbeats 6400000
namespace Go.Proofs.YthniahejjamhgaaGreatDoor
open Go.RowKit
set_option linter.unusedSimpArgs false
set_option linter.unusedVariables false
theorem append8' (w:World) {ops:Array Oper} {rest:List Oper} {o:Oper} {a:Act} {Q:Exit->Act->World->Prop}
  (hg:o.guard=none) (s x:Operand) (hop:o.op=Op.call { callee:=Callee.builtin Builtin.append,args:=#[s,x],argTypes:=#[105,105] })
  (N:Nat) (v:Value) (n:Nat) (hs:a.eval s=v) (hown:Own8 w N v n)
  (g o':Nat) (m c:Nat) (es:List Int) (hx:a.eval x = .slice (some ⟨g,o',none⟩) m c) (hm:m=es.length) (h0:0<m) (hE:isBytes es) (hc:∀ j,j<m->w.cell? ⟨g,o'+j,none⟩=some (.int .u8 (es.getD j 0))) (hb:n+m<=1099511627776) (hbase:N<=w.heap.size)
  (hK:∀ v' w',Own8 w' N v' (n+m)->Fr (fun k=>v.ownBlock=some k) w w'->(∀ k,v'.ownBlock=some k->v.ownBlock=some k\/w.heap.size<=k)->wpList Tryz.prog ops Q rest (a.put o.dst v') w') :
  wpList Tryz.prog ops Q (o::rest) a w:=by
 obtain ⟨l,hl,hB,ho⟩:=hown;subst hm;refine append_own w 105 105 5 1 1 (.int .u8 0) Tryz.underlying105 infoU8 rfl (by omega) hg s x hop N v n (u8s l) hs ho ⟨g,o',none⟩ es.length c (u8s es) hx (by simp [u8s]) h0 ?_ ?_ (by unfold maxLen;omega) (by omega) hbase ?_ rfl
 ·intro j u hj
  have hlt:j<es.length:=by
   have:=(List.getElem?_eq_some_iff.1 hj).1
   simpa [u8s] using this
  rw[Addr.add_mid,hc j hlt];simp [u8s,List.getElem?_map,List.getElem?_eq_getElem hlt] at hj
  rw[<- hj];simp [List.getD_eq_getElem?_getD,List.getElem?_eq_getElem hlt]
 ·intro u hu;simp [u8s] at hu;obtain ⟨y,_,rfl⟩:=hu;rfl
 ·intro v' w' h1 h2 h3
  exact hK v' w' ⟨l++es,by simp [hl],hB.app hE,by simpa [u8s] using h1⟩ ⟨h2.os,h2.tape,h2.output,h2.size,fun k hk hn=>h2.block k hk (fun e=>hn e.symm)⟩ h3
structure WrAt (W:World) (x N n:Nat) (S:Nat->Prop):Prop where
 lt:x<N
 size:N<=W.heap.size
 fz:∀ k,W.frozen? ⟨x,k,none⟩=false
 sx:S x
 new:∀ g,W.heap.size<=g->S g
 out:∃ ov,W.cell? ⟨x,0,none⟩=some ov/\Own8 W N ov n/\∀ g,ov.ownBlock=some g->S g
theorem WrAt.kept {W W':World} {x N n:Nat} {S:Nat->Prop} (h:WrAt W x N n S) (k:Kept W W'):WrAt W' x N n S:=by
 obtain ⟨h1,h2,h3,sx,nw,ov,h4,h5,h6⟩:=h;have hx:x<W.heap.size:=by omega
 exact ⟨h1,Nat.le_trans h2 k.size,fun j=>(k.frozen (p:=⟨x,j,none⟩) hx).trans (h3 j),sx,fun g hg=>nw g (Nat.le_trans k.size hg),ov,(k.cell (p:=⟨x,0,none⟩) hx).trans h4,h5.kept k,h6⟩
theorem WrAt.turn {W:World} {x N n:Nat} {S S':Nat->Prop} (h:WrAt W x N n S) (hS:∀ g,g<W.heap.size->S g->S' g) (hn:∀ g,W.heap.size<=g->S' g):WrAt W x N n S':=by
 obtain ⟨h1,h2,h3,sx,nw,ov,h4,h5,h6⟩:=h;refine ⟨h1,h2,h3,hS x (by omega) sx,hn,ov,h4,h5,fun g hg => ?_⟩;obtain ⟨l,_,_,h7⟩:=h5;exact hS g (h7.lt g hg).2 (h6 g hg)
structure Put (x N n:Nat) (S:Nat->Prop) (w w':World):Prop where
 at':WrAt w' x N n S
 fr:Fr S w w'
theorem Put.trans {x N n m:Nat} {S:Nat->Prop} {a b c:World} (h:Put x N n S a b) (k:Put x N m S b c):Put x N m S a c:=⟨k.at',h.fr.trans k.fr⟩
theorem Put.refl {x N n:Nat} {S:Nat->Prop} {a:World} (h:WrAt a x N n S):Put x N n S a a:=⟨h,Fr.refl _ _⟩
theorem Put.kept {x N n:Nat} {S:Nat->Prop} {a b c:World} (h:Put x N n S a b) (k:Kept b c):Put x N n S a c:=⟨h.at'.kept k,h.fr.kept k⟩
theorem crc_any (s b:Int) (w:World) (hs0:0<=s) (hs1:s<4294967296) (hb0:0<=b) (hb1:b<256) :
  Calls Tryz.prog 82 #[.int .u32 s,.int .u8 b] w fun r w'=>(∃ q:Int,0<=q/\q<4294967296/\r = .returned (.int .u32 q))/\Kept w w':=by
 go_enter Tryz.func82,Tryz.ntmps82;go_wp2;go_loopw [0,5] (fun u v W=>∃ k:Nat,∃ q:Int,k<=8/\v = .int .i64 (k:Int)/\u = .int .u32 q/\0<=q/\q<4294967296/\Kept w W) (fun _ v _=>8 - (intOf v).toNat)
 case atStart=>exact ⟨0,_,by omega,rfl,rfl,(bounds_u32 (wf_bits _ _ _ _)).1,Int.lt_of_le_of_lt (bounds_u32 (wf_bits _ _ _ _)).2 (by omega),Kept.refl _⟩
 case round=>
  obtain ⟨k,q,hk,rfl,rfl,hq0,hq1,hK⟩:=hrel;by_cases hlt:k<8
  ·have i1:(k:Int)<8:=by omega
   obtain ⟨L,hL⟩:∃ L,bits BinOp.and IntKind.u32 q 1=L:=⟨_,rfl⟩;replace hK:Hid (Kept w wr):=hK;by_cases h1:L=1
   ·subst h1
    go_wp2;refine ⟨⟨k+1,_,by omega,by go_num,rfl,(bounds_u32 (wf_bits _ _ _ _)).1,Int.lt_of_le_of_lt (bounds_u32 (wf_bits _ _ _ _)).2 (by omega),hK.out⟩,by simp [intOf];omega⟩
   ·have h1':(L == 1)=false:=by rw[beq_eq_false_iff_ne];exact h1
    go_wp2;exact ⟨⟨k+1,_,by omega,by go_num,rfl,by omega,by omega,hK.out⟩,by simp [intOf];omega⟩
  ·have i1:¬ (k:Int)<8:=by omega
   go_wp2;go_ret;exact ⟨⟨q,hq0,hq1,rfl⟩,hK⟩
theorem crcend_any (s:Int) (w:World) (hs0:0<=s) (hs1:s<4294967296) :
  Calls Tryz.prog 86 #[.int .u32 s] w fun r w'=>(∃ q:Int,0<=q/\q<4294967296/\r = .returned (.int .u32 q))/\w'=w:=by
 go_enter Tryz.func86,Tryz.ntmps86;go_wp2;go_ret;exact ⟨⟨_,(bounds_u32 (wf_bits _ _ _ _)).1,Int.lt_of_le_of_lt (bounds_u32 (wf_bits _ _ _ _)).2 (by omega),rfl⟩,rfl⟩
theorem num4_any (x N m:Nat) (n:Int) (w:World) (S:Nat->Prop) (h:WrAt w x N m S) (hn0:0<=n) (hn1:n<4294967296) (hm:m<=549755813888) :
  Calls Tryz.prog 107 #[.pointer (some ⟨x,0,none⟩),.int .u32 n] w fun r w'=>r = .returned (.tuple #[])/\Put x N (m+4) S w w':=by
 obtain ⟨hlt,hsz,hfz,hSx,hSn,ov,h0,hown,hSo⟩:=h;obtain ⟨p,c,rfl⟩:=hown.slice;have hfa:=hfz 0;have HO:Hid (Own8 w N (.slice p m c) m):=hown;replace hfz:Hid (∀ k,w.frozen? ⟨x,k,none⟩=false):=hfz;have hne:¬ (Value.slice p m c).ownBlock=some x:=fun e=>by have:=HO.out.ge x e;omega
 have hxs:x<w.heap.size:=by omega
 replace hSo:Hid _:=hSo;replace hSn:Hid (∀ g,w.heap.size<=g->S g):=hSn;clear hown;go_enter Tryz.func107,Tryz.ntmps107;have HE:Hid (isBytes [n / 16777216,n / 65536 % 256,n / 256 % 256,n % 256]):=by
  intro y hy;simp at hy;rcases hy with rfl | rfl | rfl | rfl<;>omega
 have HC:Hid (∀ j,j<4->(w.alloc (Obj.cells #[Value.int IntKind.u8 (n / 16777216),Value.int IntKind.u8 (n / 65536 % 256),Value.int IntKind.u8 (n / 256 % 256),Value.int IntKind.u8 (n % 256)] 5)).cell? ⟨w.heap.size,0+j,none⟩=some (.int .u8 ([n / 16777216,n / 65536 % 256,n / 256 % 256,n % 256].getD j 0))):=by
  intro j hj;rw[Nat.zero_add];rw[World.cell?_alloc_at _ _ _ _ rfl]
  have:j=0\/j=1\/j=2\/j=3:=by omega
  rcases this with rfl | rfl | rfl | rfl<;>rfl
 go_wp2_with (at_builtin;refine append8' _ rfl _ _ rfl N (.slice p m c) m rfl (HO.out.alloc _) w.heap.size 0 4 4 [n / 16777216,n / 65536 % 256,n / 256 % 256,n % 256] rfl rfl (by omega) HE.out HC.out (by omega) (by simp;omega) ?_)
 intro v' w2 ho2 hf2 hn2;obtain ⟨p',c',rfl⟩:=ho2.slice;have fk:Fr (fun k=>(Value.slice p m c).ownBlock=some k) w w2:=((Fr.refl _ w).alloc _).trans hf2;have k0:=(fk.cell (k:=0) hxs hne).trans h0;have g0:=(fk.frozen (k:=0) hxs hne).trans hfa;have HO2:Hid (Own8 w2 N (.slice p' (m+4) c') (m+4)):=ho2;have HF2:Hid (Fr S w w2):=fk.mono (fun i _ e=>hSo.out i e);have HN2:Hid (∀ k,(Value.slice p' (m+4) c').ownBlock=some k->S k):=fun k hk=>by
  rcases hn2 k hk with h | h
  ·exact hSo.out k h
  ·exact hSn.out k (by first | omega | (simp at h;omega))
 have HG2:Hid (∀ k,w2.frozen? ⟨x,k,none⟩=false):=fun k=>(fk.frozen hxs hne).trans (hfz.out k)
 clear hf2 ho2 fk hn2;go_wp2;go_end0
 have hse:(w2.setCell ⟨x,0,none⟩ (Value.slice p' (m+4) c')).heap.size=w2.heap.size:=by simp [World.setCell]
 exact ⟨rfl,⟨hlt,by rw[hse];exact Nat.le_trans hsz HF2.out.size,fun k=>by rw[World.frozen?_setCell];exact HG2.out k,hSx,fun g hg=>hSn.out g (by rw[hse] at hg;have:=HF2.out.size;omega),⟨_,cell_set_same k0 _,HO2.out.set hlt _ _,HN2.out⟩⟩,HF2.out.setCell (Or.inl hSx) _ _⟩
theorem Own8.lat {w:World} {N:Nat} {v:Value} {n:Nat} (h:Own8 w N v n):∃ l:List Int,l.length=n/\isBytes l/\LAt w .u8 v l:=by
 obtain ⟨l,h1,h2,h3⟩:=h;subst h1;exact ⟨l,rfl,h2,own_lat h3⟩
theorem append8A (w:World) {ops:Array Oper} {rest:List Oper} {o:Oper} {a:Act} {Q:Exit->Act->World->Prop}
  (hg:o.guard=none) (s x:Operand) (hop:o.op=Op.call { callee:=Callee.builtin Builtin.append,args:=#[s,x],argTypes:=#[105,105] })
  (N:Nat) (v:Value) (n:Nat) (hs:a.eval s=v) (hown:Own8 w N v n) (h0:0<n)
  (p:Option Addr) (c:Nat) (l:List Int) (hx:a.eval x = .slice p l.length c) (hl:LAt w .u8 (.slice p l.length c) l) (hE:isBytes l) (hpc:p=none->c=0) (hb:n+l.length<=1099511627776) (hbase:N<=w.heap.size)
  (hK:∀ v' w',Own8 w' N v' (n+l.length)->Fr (fun k=>v.ownBlock=some k) w w'->(∀ k,v'.ownBlock=some k->v.ownBlock=some k\/w.heap.size<=k)->wpList Tryz.prog ops Q rest (a.put o.dst v') w') :
  wpList Tryz.prog ops Q (o::rest) a w:=by
 by_cases hl0:l.length=0
 ·obtain ⟨xs,hxl,hxb,ho⟩:=hown
  have ho':=ho;rcases ho.2 with ⟨hv,hz⟩ | ⟨g,cap,cur,hv,hgb,hh,hnc,hcm,hcs,htk⟩
  ·omega
  ·subst hv
   obtain ⟨i0,hi,hz0,hz1,hz2⟩:=info_parts' infoU8;refine wpList_append_fits_any w hg s x 105 hop N 5 i0 1 Tryz.underlying105 hi hz1 g n cap (u8s xs) hs ho' p l.length c [] hx (by simp [hl0]) (fun e=>⟨hl0,hpc e⟩) (fun ad _ j u hj=>by simp at hj) (fun u hu=>by simp at hu) (by omega) ?_;intro w' h1 h2;refine hK _ w' ⟨xs,by omega,hxb,by simpa using h1⟩ ⟨h2.os,h2.tape,h2.output,h2.size,fun k hk hn=>h2.block k hk (fun e=>hn e.symm)⟩ (fun k hk=>Or.inl hk)
 ·obtain ⟨g,o',c',e,hc⟩:=hl.addr (by omega)
  injection e with e _ _
  subst e;exact append8' w hg s x hop N v n hs hown g o' l.length c l hx rfl (by omega) hE hc hb hbase hK
theorem add_core (x N m T:Nat) (S:Nat->Prop) (v:Value) (l:List Int) (w:World) (h:∀ q:Int,0<=q->q<4294967296->Calls Tryz.prog 107 #[.pointer (some ⟨x,0,none⟩),.int .u32 q] w fun r w'=>r = .returned (.tuple #[])/\Put x N (m+4) S w w') (hm0:0<m) (hl:LAt w .u8 v l) (hB:isBytes l) (hpc:∀ n c,v = .slice none n c->c=0) (hS:∀ g,sliceBlock v=some g->¬ S g) (hm:m<=274877906944) (hn:l.length<=1048576) (hT:T<4294967296) :
  Calls Tryz.prog 77 #[.pointer (some ⟨x,0,none⟩),.int .u32 (T:Int),v] w fun r w'=>r = .returned (.tuple #[])/\Put x N (m+12+l.length) S w w':=by
 obtain ⟨p,c,rfl⟩:=hl.form;have F1:Hid (∀ (W:World) (k:Nat) (q:Int),k<=549755813888->0<=q->q<4294967296->WrAt W x N k S->Calls Tryz.prog 107 #[.pointer (some ⟨x,0,none⟩),.int .u32 q] W fun r w'=>r = .returned (.tuple #[])/\Put x N (k+4) S W w'):=fun W k q hk h0 h1 hW=>num4_any x N k q W S hW h0 h1 hk
 have F2:Hid (∀ (W:World) (s b:Int),0<=s->s<4294967296->0<=b->b<256->Calls Tryz.prog 82 #[.int .u32 s,.int .u8 b] W fun r w'=>(∃ q:Int,0<=q/\q<4294967296/\r = .returned (.int .u32 q))/\Kept W w'):=fun W s b h0 h1 h2 h3=>crc_any s b W h0 h1 h2 h3
 have F3:Hid (∀ (W:World) (s:Int),0<=s->s<4294967296->Calls Tryz.prog 86 #[.int .u32 s] W fun r w'=>(∃ q:Int,0<=q/\q<4294967296/\r = .returned (.int .u32 q))/\w'=W):=fun W s h0 h1=>crcend_any s W h0 h1
 have H0:Hid (∀ q:Int,0<=q->q<4294967296->Calls Tryz.prog 107 #[.pointer (some ⟨x,0,none⟩),.int .u32 q] w fun r w'=>r = .returned (.tuple #[])/\Put x N (m+4) S w w'):=h;have HL:Hid (LAt w .u8 (.slice p l.length c) l):=hl;have HS:Hid (∀ g,sliceBlock (.slice p l.length c)=some g->¬ S g):=hS;have HB:Hid (isBytes l):=hB;clear h hl hS hB;go_enter Tryz.func77,Tryz.ntmps77;go_wp2_with fail;refine (H0.out _ (by omega) (by omega)).mono ?_;rintro r w1 ⟨rfl,hw1⟩;obtain ⟨ov1,c01,ho1,hs1⟩:=hw1.at'.out;obtain ⟨p1,cc1,rfl⟩:=ho1.slice;replace hw1:Hid (Put x N (m+4) S w w1):=hw1;clear ho1 hs1;go_wp2_with fail;refine (F1.out _ (m+4) _ (by omega) (by omega) (by omega) hw1.out.at').mono ?_;rintro r w2 ⟨rfl,hw2⟩;replace hw2:Hid (Put x N (m+8) S w w2):=hw1.out.trans hw2;obtain ⟨ov2,c02,ho2,hs2⟩:=hw2.out.at'.out;obtain ⟨p2,cc2,rfl⟩:=ho2.slice;have hf2:=hw2.out.at'.fz 0;have hN2:=hw2.out.at'.size;have hlt:=hw2.out.at'.lt;have hne:¬ (Value.slice p2 (m+8) cc2).ownBlock=some x:=fun e=>by have:=ho2.ge x e;omega
 have hxs:x<w2.heap.size:=by omega
 have HO2:Hid (Own8 w2 N (.slice p2 (m+8) cc2) (m+8)):=ho2;replace hs2:Hid _:=hs2;clear hw1 c01 ho2;have HPC:Hid (p=none->c=0):=fun e=>hpc l.length c (by rw[e])
 have HL2:Hid (LAt w2 .u8 (.slice p l.length c) l):=HL.out.fr hw2.out.fr HS.out;clear hpc HL;go_wp2_with (at_builtin;refine append8A _ rfl _ _ rfl N (.slice p2 (m+8) cc2) (m+8) rfl HO2.out (by omega) p c l rfl HL2.out HB.out HPC.out (by omega) (by omega) ?_)
 intro v' w3 ho3 hf3 hn3;obtain ⟨p3,c3,rfl⟩:=ho3.slice;have k0:=(hf3.cell (k:=0) hxs hne).trans c02;have g0:=(hf3.frozen (k:=0) hxs hne).trans hf2;have HP3:Hid (Put x N (m+8+l.length) S w (w3.setCell ⟨x,0,none⟩ (.slice p3 (m+8+l.length) c3))):=by
  have hse:(w3.setCell ⟨x,0,none⟩ (Value.slice p3 (m+8+l.length) c3)).heap.size=w3.heap.size:=by simp [World.setCell]
  have hA:=hw2.out.at';have hz:=hf3.size;refine ⟨⟨hlt,by rw[hse];omega,fun k=>by rw[World.frozen?_setCell];exact (hf3.frozen hxs hne).trans (hA.fz k),hA.sx,fun g hg=>hA.new g (by rw[hse] at hg;omega),⟨_,cell_set_same k0 _,ho3.set hlt _ _,?_⟩⟩,?_⟩
  ·intro g hg
   rcases hn3 g hg with h | h
   ·exact hs2.out g h
   ·exact hA.new g h
  ·exact (hw2.out.fr.trans (hf3.mono (fun i _ e=>hs2.out i e))).setCell (Or.inl hA.sx) _ _
 have kk:=cell_set_same k0 (.slice p3 (m+8+l.length) c3);clear hf3 ho3 hn3 HL2 hw2 hs2 HO2;go_wp2;generalize w3.setCell ⟨x,0,none⟩ (.slice p3 (m+8+l.length) c3)=w4 at *;go_loopw [7,8] (fun u v W=>∃ k:Nat,∃ q:Int,m+4<=k/\k<=m+8+l.length/\v = .int .i64 (k:Int)/\u = .int .u32 q/\0<=q/\q<4294967296/\Kept w4 W) (fun _ v _=>m+8+l.length - (intOf v).toNat)
 case atStart=>exact ⟨m+4,_,by omega,by omega,by go_num,rfl,by omega,by omega,Kept.refl _⟩
 case round=>
  obtain ⟨k,q,hk0,hk1,rfl,rfl,hq0,hq1,hK⟩:=hrel;have hP:Hid (Put x N (m+8+l.length) S w wr):=HP3.out.kept hK;have kw:wr.cell? ⟨x,0,none⟩=some (.slice p3 (m+8+l.length) c3):=(hK.cell (p:=⟨x,0,none⟩) (World.block_lt_of_cell? _ _ kk)).trans kk;replace hK:Hid (Kept w4 wr):=hK;clear kk HP3;by_cases hlt2:k<m+8+l.length
  ·obtain ⟨ov,e0,ho,_⟩:=hP.out.at'.out
   rw[kw] at e0
   injection e0 with e0
   subst e0;obtain ⟨L,hLl,hLb,hLat⟩:=ho.lat;obtain ⟨g,o,rfl,hc⟩:∃ g o,p3=some ⟨g,o,none⟩/\wr.cell? ⟨g,o+k,none⟩=some (.int .u8 (L.getD k 0)):=by
    obtain ⟨g,o,c',e,hc⟩:=hLat.addr (by omega)
    injection e with e _ _
    exact ⟨g,o,e,hc k (by omega)⟩
   have hb:=hLb _ (getD_mem (show k<L.length by omega));have hb0:=hb.1;have hb1:=hb.2;generalize L.getD k 0=B at *;clear hb ho hLl hLb hLat;have hlt':(k:Int)<(m:Int)+8+(l.length:Int):=by omega
   have hk00:(0:Int)<=(k:Int):=by omega
   go_wp2_with fail;refine (F2.out _ q B hq0 hq1 hb0 hb1).mono ?_;rintro r w5 ⟨⟨q5,hq50,hq51,rfl⟩,hk5⟩;replace hk5:Hid (Kept w4 w5):=hK.out.trans hk5;go_wp2;exact ⟨⟨k+1,q5,by omega,by omega,by go_num,rfl,hq50,hq51,hk5.out⟩,by simp [intOf];omega⟩
  ·have hlt':¬ (k:Int)<(m:Int)+8+(l.length:Int):=by omega
   go_wp2_with fail;refine (F3.out _ q hq0 hq1).mono ?_;rintro r w5 ⟨⟨q5,hq50,hq51,rfl⟩,rfl⟩;go_wp2_with fail;refine (F1.out _ (m+8+l.length) q5 (by omega) hq50 hq51 hP.out.at').mono ?_;rintro r w6 ⟨rfl,hw6⟩;have HP6:Hid (Put x N (m+12+l.length) S w w6):=by
    rw[show m+12+l.length=m+8+l.length+4 by omega];exact hP.out.trans hw6
   go_wp2;go_end0
   exact ⟨rfl,HP6.out⟩
theorem add_any (x N m T:Nat) (S:Nat->Prop) (v:Value) (l:List Int) (w:World) (h:WrAt w x N m S) (hm0:0<m) (hl:LAt w .u8 v l) (hB:isBytes l) (hpc:∀ n c,v = .slice none n c->c=0) (hS:∀ g,sliceBlock v=some g->¬ S g) (hm:m<=274877906944) (hn:l.length<=1048576) (hT:T<4294967296) :
  Calls Tryz.prog 77 #[.pointer (some ⟨x,0,none⟩),.int .u32 (T:Int),v] w fun r w'=>r = .returned (.tuple #[])/\Put x N (m+12+l.length) S w w' :=
 add_core x N m T S v l w (fun q h0 h1=>num4_any x N m q w S h h0 h1 (by omega)) hm0 hl hB hpc hS hm hn hT
theorem palw_any (x N m:Nat) (S:Nat->Prop) (v:Value) (l:List Int) (w:World) (h:WrAt w x N m S) (hm0:0<m) (hl:LAt w .u8 v l) (hB:isBytes l) (hpc:∀ n c,v = .slice none n c->c=0) (hS:∀ g,sliceBlock v=some g->¬ S g) (hm:m<=274877906944) (hn:l.length<=1048576) :
  Calls Tryz.prog 47 #[.pointer (some ⟨x,0,none⟩),v] w fun r w'=>r = .returned (.tuple #[])/\Put x N (m+12+l.length) S w w':=by
 have F:=fun (T:Nat) (hT:T<4294967296)=>add_any x N m T S v l w h hm0 hl hB hpc hS hm hn hT
 replace F:Hid _:=F;obtain ⟨p,c,rfl⟩:=hl.form;clear h hl hB hpc hS;go_enter Tryz.func47,Tryz.ntmps47;go_wp2_with fail;refine (F.out _ ?_).mono ?_
 rotate_left
 ·rintro r w1 ⟨rfl,hw1⟩
  go_wp2;go_end0
  exact ⟨rfl,hw1⟩
 ·decide
theorem clrw_any (x N m:Nat) (S:Nat->Prop) (v:Value) (l:List Int) (w:World) (h:WrAt w x N m S) (hm0:0<m) (hl:LAt w .u8 v l) (hB:isBytes l) (hpc:∀ n c,v = .slice none n c->c=0) (hS:∀ g,sliceBlock v=some g->¬ S g) (hm:m<=274877906944) (hn:l.length<=1048576) :
  Calls Tryz.prog 49 #[.pointer (some ⟨x,0,none⟩),v] w fun r w'=>r = .returned (.tuple #[])/\Put x N (m+12+l.length) S w w':=by
 have F:=fun (T:Nat) (hT:T<4294967296)=>add_any x N m T S v l w h hm0 hl hB hpc hS hm hn hT
 replace F:Hid _:=F;obtain ⟨p,c,rfl⟩:=hl.form;clear h hl hB hpc hS;go_enter Tryz.func49,Tryz.ntmps49;go_wp2_with fail;refine (F.out _ ?_).mono ?_
 rotate_left
 ·rintro r w1 ⟨rfl,hw1⟩
  go_wp2;go_end0
  exact ⟨rfl,hw1⟩
 ·decide
theorem dataw_any (x N m:Nat) (S:Nat->Prop) (v:Value) (l:List Int) (w:World) (h:WrAt w x N m S) (hm0:0<m) (hl:LAt w .u8 v l) (hB:isBytes l) (hpc:∀ n c,v = .slice none n c->c=0) (hS:∀ g,sliceBlock v=some g->¬ S g) (hm:m<=274877906944) (hn:l.length<=1048576) :
  Calls Tryz.prog 79 #[.pointer (some ⟨x,0,none⟩),v] w fun r w'=>r = .returned (.tuple #[])/\Put x N (m+12+l.length) S w w':=by
 have F:=fun (T:Nat) (hT:T<4294967296)=>add_any x N m T S v l w h hm0 hl hB hpc hS hm hn hT
 replace F:Hid _:=F;obtain ⟨p,c,rfl⟩:=hl.form;clear h hl hB hpc hS;go_enter Tryz.func79,Tryz.ntmps79;go_wp2_with fail;refine (F.out _ ?_).mono ?_
 rotate_left
 ·rintro r w1 ⟨rfl,hw1⟩
  go_wp2;go_end0
  exact ⟨rfl,hw1⟩
 ·decide
theorem endw_any (x N m:Nat) (S:Nat->Prop) (w:World) (h:WrAt w x N m S) (hm0:0<m) (hm:m<=274877906944) :
  Calls Tryz.prog 52 #[.pointer (some ⟨x,0,none⟩)] w fun r w'=>r = .returned (.tuple #[])/\Put x N (m+12) S w w':=by
 have F:=fun (T:Nat) (hT:T<4294967296)=>add_any x N m T S (.slice none 0 0) [] w h hm0 LAt.nil isBytes.nil (fun n c e=>by injection e with _ _ e;exact e.symm) (fun g hg=>by cases hg) hm (by simp) hT
 replace F:Hid _:=F;clear h;go_enter Tryz.func52,Tryz.ntmps52;go_wp2_with fail;refine (F.out _ ?_).mono ?_
 rotate_left
 ·rintro r w1 ⟨rfl,hw1⟩
  go_wp2;go_end0
  exact ⟨rfl,hw1⟩
 ·decide
theorem heap_alloc_at (w:World) (o:Obj) (n:Nat) (hn:n=w.heap.size):(w.alloc o).heap[n]? = some o:=by subst hn;exact heap_alloc_new w o
structure WrF (W:World) (x N g:Nat) (S:Nat->Prop):Prop where
 lt:x<N
 size:N<=W.heap.size
 fz:∀ k,W.frozen? ⟨x,k,none⟩=false
 sx:S x
 new:∀ g,W.heap.size<=g->S g
 out:W.cell? ⟨x,0,none⟩=some (.slice (some ⟨g,0,none⟩) 8 8)
 gx:g≠x
 cl:∃ l:List Int,l.length=8/\isBytes l/\∀ j,j<8->W.cell? ⟨g,j,none⟩=some (.int .u8 (l.getD j 0))
theorem append8F (w:World) {ops:Array Oper} {rest:List Oper} {o:Oper} {a:Act} {Q:Exit->Act->World->Prop}
  (hg:o.guard=none) (s x:Operand) (hop:o.op=Op.call { callee:=Callee.builtin Builtin.append,args:=#[s,x],argTypes:=#[105,105] })
  (N g n:Nat) (hs:a.eval s = .slice (some ⟨g,0,none⟩) n n) (ol:List Int) (hol:ol.length=n) (hob:isBytes ol) (hoc:∀ j,j<n->w.cell? ⟨g,j,none⟩=some (.int .u8 (ol.getD j 0)))
  (g2:Nat) (m c:Nat) (es:List Int) (hx:a.eval x = .slice (some ⟨g2,0,none⟩) m c) (hm:m=es.length) (h0:0<m) (hE:isBytes es) (hc:∀ j,j<m->w.cell? ⟨g2,0+j,none⟩=some (.int .u8 (es.getD j 0))) (hb:n+m<=1099511627776) (hbase:N<=w.heap.size)
  (hK:∀ v' w',Own8 w' N v' (n+m)->Kept w w'->(∀ k,v'.ownBlock=some k->w.heap.size<=k)->wpList Tryz.prog ops Q rest (a.put o.dst v') w') :
  wpList Tryz.prog ops Q (o::rest) a w:=by
 subst hm;obtain ⟨i0,hi,hz0,hz1,hz2⟩:=info_parts' infoU8;have get8:∀ (L:List Int) (j:Nat) (u:Value),(u8s L)[j]? = some u->j<L.length/\u = .int .u8 (L.getD j 0):=by
  intro L j u hj;have hlt:j<L.length:=by
   have:=(List.getElem?_eq_some_iff.1 hj).1
   simpa [u8s] using this
  refine ⟨hlt,?_⟩;simp [u8s,List.getElem?_map,List.getElem?_eq_getElem hlt] at hj
  rw[<- hj];simp [List.getD_eq_getElem?_getD,List.getElem?_eq_getElem hlt]
 refine wpList_append_grows w hg s x 105 hop 5 i0 (.int .u8 0) 1 1 Tryz.underlying105 hi hz0 hz1 hz2 rfl (by omega) (some ⟨g,0,none⟩) n n (u8s ol) hs (fun e=>by cases e) (by simp [u8s,hol]) ?_ ⟨g2,0,none⟩ es.length c (u8s es) hx (by simp [u8s]) ?_ ?_ (by omega) (by unfold maxLen;omega) (by omega) ?_
 ·intro b hb j u hj
  cases hb
  obtain ⟨h1,rfl⟩:=get8 ol j u hj;rw[Addr.add_mid,Nat.zero_add];exact hoc j (by omega)
 ·intro j u hj
  obtain ⟨h1,rfl⟩:=get8 es j u hj;rw[Addr.add_mid];exact hc j h1
 ·intro u hu;simp [u8s] at hu;obtain ⟨y,_,rfl⟩:=hu;rfl
 ·intro v' w' h1 h2
  have h1':Own8 w' w.heap.size v' (n+es.length):=⟨ol++es,by simp [hol],hob.app hE,by simpa [u8s] using h1⟩;refine hK v' w' ?_ ⟨h2.os,h2.tape,h2.output,h2.size,fun k hk=>h2.block k hk (by simp)⟩ h1'.ge;obtain ⟨l,a1,a2,a3⟩:=h1';exact ⟨l,a1,a2,own_base a3 hbase⟩
theorem num4_full (x N g:Nat) (n:Int) (w:World) (S:Nat->Prop) (h:WrF w x N g S) (hn0:0<=n) (hn1:n<4294967296) :
  Calls Tryz.prog 107 #[.pointer (some ⟨x,0,none⟩),.int .u32 n] w fun r w'=>r = .returned (.tuple #[])/\Put x N (8+4) S w w':=by
 obtain ⟨hlt,hsz,hfz,hSx,hSn,h0,hgx,ol,hol,hob,hoc⟩:=h;have hfa:=hfz 0;replace hfz:Hid (∀ k,w.frozen? ⟨x,k,none⟩=false):=hfz;replace hSn:Hid (∀ g,w.heap.size<=g->S g):=hSn;have hxs:x<w.heap.size:=by omega
 have HOC:Hid (∀ j,j<8->(w.alloc (Obj.cells #[Value.int IntKind.u8 (n / 16777216),Value.int IntKind.u8 (n / 65536 % 256),Value.int IntKind.u8 (n / 256 % 256),Value.int IntKind.u8 (n % 256)] 5)).cell? ⟨g,j,none⟩=some (.int .u8 (ol.getD j 0))):=by
  intro j hj;rw[World.cell?_alloc_lt _ _ _ (World.block_lt_of_cell? w _ (hoc j hj))];exact hoc j hj
 clear hoc;have HE:Hid (isBytes [n / 16777216,n / 65536 % 256,n / 256 % 256,n % 256]):=by
  intro y hy;simp at hy;rcases hy with rfl | rfl | rfl | rfl<;>omega
 have HC:Hid (∀ j,j<4->(w.alloc (Obj.cells #[Value.int IntKind.u8 (n / 16777216),Value.int IntKind.u8 (n / 65536 % 256),Value.int IntKind.u8 (n / 256 % 256),Value.int IntKind.u8 (n % 256)] 5)).cell? ⟨w.heap.size,0+j,none⟩=some (.int .u8 ([n / 16777216,n / 65536 % 256,n / 256 % 256,n % 256].getD j 0))):=by
  intro j hj;rw[Nat.zero_add];rw[World.cell?_alloc_at _ _ _ _ rfl]
  have:j=0\/j=1\/j=2\/j=3:=by omega
  rcases this with rfl | rfl | rfl | rfl<;>rfl
 replace hob:Hid _:=hob;replace hol:Hid _:=hol;go_enter Tryz.func107,Tryz.ntmps107;go_wp2_with (at_builtin;refine append8F _ rfl _ _ rfl N g 8 rfl ol hol.out hob.out HOC.out w.heap.size 4 4 [n / 16777216,n / 65536 % 256,n / 256 % 256,n % 256] rfl rfl (by omega) HE.out HC.out (by omega) (by simp;omega) ?_)
 intro v' w2 ho2 hf2 hn2;obtain ⟨p',c',rfl⟩:=ho2.slice;have fk:Kept w w2:=Kept.trans (Below.alloc (Below.refl _ _) (Nat.le_refl _) _) hf2;have k0:=(fk.cell (p:=⟨x,0,none⟩) hxs).trans h0;have g0:=(fk.frozen (p:=⟨x,0,none⟩) hxs).trans hfa;have HO2:Hid (Own8 w2 N (.slice p' (8+4) c') (8+4)):=ho2;have HF2:Hid (Fr S w w2):=Fr.of_kept fk;have HN2:Hid (∀ k,(Value.slice p' (8+4) c').ownBlock=some k->S k):=fun k hk=>hSn.out k (by have:=hn2 k hk;first | omega | (simp at this;omega))
 have HG2:Hid (∀ k,w2.frozen? ⟨x,k,none⟩=false):=fun k=>(fk.frozen (p:=⟨x,k,none⟩) hxs).trans (hfz.out k)
 clear hf2 ho2 fk hn2;go_wp2;go_end0
 have hse:(w2.setCell ⟨x,0,none⟩ (Value.slice p' (8+4) c')).heap.size=w2.heap.size:=by simp [World.setCell]
 exact ⟨rfl,⟨hlt,by rw[hse];exact Nat.le_trans hsz HF2.out.size,fun k=>by rw[World.frozen?_setCell];exact HG2.out k,hSx,fun g hg=>hSn.out g (by rw[hse] at hg;have:=HF2.out.size;omega),⟨_,cell_set_same k0 _,HO2.out.set hlt _ _,HN2.out⟩⟩,HF2.out.setCell (Or.inl hSx) _ _⟩
theorem begin_any (w:World) :
  Calls Tryz.prog 45 #[] w fun r w'=>∃ g,r = .returned (.agg #[.slice (some ⟨g,0,none⟩) 8 8])/\w.heap.size<=g/\(∃ l:List Int,l.length=8/\isBytes l/\∀ j,j<8->w'.cell? ⟨g,j,none⟩=some (.int .u8 (l.getD j 0)))/\Kept w w':=by
 have kc:=fun (w:World) (C:Array Value) (n c g:Nat) (hg:g=w.heap.size)=>Joins.run_convert_bytes_const_at (P:=Tryz.prog) w 105 5 C n c g hg Tryz.underlying105 Tryz.underlying5
 go_enter Tryz.func45,Tryz.ntmps45;have hi:(Tryz.prog.info? 109).map (·.size)=some 1:=by kernel_rfl
 go_wp2;refine bodyPost_ret (v := .agg #[.slice (some ⟨w.heap.size+1,0,none⟩) 8 8]) (results_cell1 rfl _ _ w.heap.size 0 _ rfl ?_) rfl ?_
 ·refine run_loadVar_row _ _ 109 109 _ (0,0) _ ?_ Tryz.underlying109 rfl hi
  rw[heap_alloc_old _ _ (by simp)];exact heap_alloc_at _ _ _ rfl
 ·refine ⟨w.heap.size+1,rfl,by omega,⟨[137,80,78,71,13,10,26,10],rfl,?_,?_⟩,Below.alloc (Below.alloc (Below.refl _ _) (Nat.le_refl _) _) (by simp) _⟩
  ·intro y hy
   simp at hy;rcases hy with rfl | rfl | rfl | rfl | rfl | rfl | rfl | rfl<;>omega
  ·intro j hj
   rw[Joins.cell_alloc_mark_at _ _ _ _ _ _ (by simp)]
   have:j=0\/j=1\/j=2\/j=3\/j=4\/j=5\/j=6\/j=7:=by omega
   rcases this with rfl | rfl | rfl | rfl | rfl | rfl | rfl | rfl<;>rfl
theorem hdata_any (W H D K L:Nat) (w:World) (h1:W<=16) (h2:H<=16) (h3:D<=16) (h4:K<=6) (h5:L<=1) :
  Calls Tryz.prog 76 #[.agg #[.int .i64 (W:Int),.int .i64 (H:Int),.int .i64 (D:Int),.int .i64 (K:Int),.int .i64 (L:Int)]] w fun r w'=>∃ cs:List Value,r = .returned (.agg cs.toArray)/\cs.length=13/\(∀ j,j<13->∃ z:Int,0<=z/\z<256/\cs[j]? = some (.int .u8 z))/\Kept w w':=by
 have hi:(Tryz.prog.info? 67).map (·.size)=some 13:=by kernel_rfl
 go_enter Tryz.func76,Tryz.ntmps76;go_wp2;refine bodyPost_ret (v := .agg #[.int .u8 ((W:Int) / 16777216),.int .u8 ((W:Int) / 65536),.int .u8 ((W:Int) / 256),.int .u8 (W:Int),.int .u8 ((H:Int) / 16777216),.int .u8 ((H:Int) / 65536),.int .u8 ((H:Int) / 256),.int .u8 (H:Int),.int .u8 (D:Int),.int .u8 (K:Int),.int .u8 0,.int .u8 0,.int .u8 (L:Int)]) (results_cell1 rfl _ _ (w.heap.size+1) 0 _ rfl ?_) rfl ?_
 ·refine run_loadVar_row _ _ 67 67 _ (0,0) _ ?_ Tryz.underlying67 rfl hi
  exact heap_alloc_at _ _ _ (by simp)
 ·refine ⟨[.int .u8 ((W:Int) / 16777216),.int .u8 ((W:Int) / 65536),.int .u8 ((W:Int) / 256),.int .u8 (W:Int),.int .u8 ((H:Int) / 16777216),.int .u8 ((H:Int) / 65536),.int .u8 ((H:Int) / 256),.int .u8 (H:Int),.int .u8 (D:Int),.int .u8 (K:Int),.int .u8 0,.int .u8 0,.int .u8 (L:Int)],rfl,rfl,?_,Below.alloc (Below.alloc (Below.refl _ _) (Nat.le_refl _) _) (by simp) _⟩
  intro j hj
  have:j=0\/j=1\/j=2\/j=3\/j=4\/j=5\/j=6\/j=7\/j=8\/j=9\/j=10\/j=11\/j=12:=by omega
  rcases this with rfl | rfl | rfl | rfl | rfl | rfl | rfl | rfl | rfl | rfl | rfl | rfl | rfl
  all_goals exact ⟨_,by omega,by omega,rfl⟩
theorem text_any (x N m:Nat) (S:Nat->Prop) (w:World) (h:WrAt w x N m S) (hm0:0<m) (hm:m<=274877906944) :
  Calls Tryz.prog 53 #[.pointer (some ⟨x,0,none⟩)] w fun r w'=>∃ s:ByteArray,r = .returned (.string s)/\s.size=m/\Kept w w':=by
 obtain ⟨hlt,hsz,hfz,sx,nw,ov,h0,h5,h6⟩:=h;obtain ⟨L,hLl,hLb,hLat⟩:=h5.lat;obtain ⟨g,o,c,rfl,hc⟩:=hLat.addr (by omega);have hcv:=run_convert_bytes_arg (P:=Tryz.prog) w 105 5 Tryz.underlying105 Tryz.underlying5 g o L.length c L rfl hc 9 Tryz.underlying9;clear h5 h6 hLat hc hLb;replace hLl:Hid (L.length=m):=hLl;go_enter Tryz.func53,Tryz.ntmps53;go_wp2;go_ret;exact ⟨_,rfl,by have:=hLl.out;simp [strOfNums,ByteArray.size,this],Kept.refl _⟩
theorem made8 (n j:Nat) (h:j<n):(madeCells #[Value.int .u8 0] n).toList[j]? = some (.int .u8 0):=by
 simp [madeCells,h,Nat.mod_one]
structure Made8 (w w':World) (ov:Value) (n:Nat):Prop where
 ex:∃ L:List Int,L.length=n/\isBytes L/\LAt w' .u8 ov L
 nn:∀ n c,ov = .slice none n c->c=0
 new:∀ g,sliceBlock ov=some g->w.heap.size<=g
 kept:Kept w w'
theorem singles_any (v:Value) (l:List Int) (w:World) (hl:LAt w .i64 v l) (hn:l.length<=65536) :
  Calls Tryz.prog 48 #[v] w fun r w'=>∃ ov:Value,r = .returned ov/\Made8 w w' ov l.length:=by
 obtain ⟨p,c,rfl⟩:=hl.form;have HL:Hid (LAt w .i64 (.slice p l.length c) l):=hl;clear hl;obtain ⟨i0,hi,hz0,hz1,hz2⟩:=info_parts' infoU8;go_enter Tryz.func48,Tryz.ntmps48;go_wp2_with (refine wpList_make_full _ rfl _ _ 105 rfl w.heap.size 5 i0 (.int .u8 0) 1 Tryz.underlying105 hi hz0 hz1 .i64 .i64 (l.length:Int) (l.length:Int) l.length rfl rfl rfl rfl (by rw[hz2];omega) (by unfold maxLen;omega) (Nat.le_refl _) ?_)
 intro w1 ho1 hg1;have hK1:Hid (Kept w w1):=⟨hg1.os,hg1.tape,hg1.output,hg1.size,fun k hk=>hg1.block k hk (by simp)⟩;have hF1:Hid (∀ k,w1.frozen? ⟨w.heap.size,k,none⟩=false):=by
  rcases ho1.2 with ⟨hv,h0⟩ | ⟨g,cap,cur,hv,hg,hh,r⟩
  ·cases hv
  ·injection hv with hv _ _
   injection hv with hv
   injection hv with hv _ _
   rw[<- hv] at hh;exact fun k=>Joins.unfrozen_of_block hh k
 have hR1:Hid (Rng .u8 256 w1 w.heap.size 0 l.length):=by
  intro j hj;refine ⟨0,by omega,by omega,?_⟩
  have:=ho1.cells rfl j _ (made8 l.length j hj)
  rw[Addr.add_mid] at this;exact this
 clear ho1 hg1;go_wp2;go_loopw [4] (fun v W=>∃ k:Nat,k<=l.length/\v = .int .i64 (k:Int)/\Rng .u8 256 W w.heap.size 0 l.length/\(∀ k,W.frozen? ⟨w.heap.size,k,none⟩=false)/\Kept w W) (fun v _=>l.length - (intOf v).toNat)
 case atStart=>exact ⟨0,by omega,rfl,hR1.out,hF1.out,hK1.out⟩
 case round=>
  obtain ⟨k,hk,rfl,hR,hF,hK⟩:=hrel;clear hR1 hF1 hK1;by_cases hlt:k<l.length
  ·obtain ⟨g,o,rfl,hc⟩:=(HL.out.kept hK).cellAt k hlt
   have hgw:g<w.heap.size:=by
    obtain ⟨g',o',e,hc'⟩:=HL.out.cellAt k hlt
    injection e with e
    injection e with e _
    subst e;exact World.block_lt_of_cell? _ _ hc'
   generalize l.getD k 0=B at *;obtain ⟨z,_,_,hz⟩:=hR k hlt;rw[Nat.zero_add] at hz;have hfk:=hF k;have hlt':(k:Int)<(l.length:Int):=by omega
   have hk0:(0:Int)<=(k:Int):=by omega
   replace hR:Hid (Rng .u8 256 wr w.heap.size 0 l.length):=hR;replace hF:Hid (∀ k,wr.frozen? ⟨w.heap.size,k,none⟩=false):=hF;replace hK:Hid (Kept w wr):=hK;go_wp2;exact ⟨⟨k+1,by omega,by go_num,Rng.set hR.out k _ (Int.emod_nonneg _ (by omega)) (Int.emod_lt_of_pos _ (by omega)),fun j=>by rw[World.frozen?_setCell];exact hF.out j,hK.out.setCell (Nat.le_refl _) _⟩,by simp [intOf];omega⟩
  ·have hke:k=l.length:=by omega
   subst hke;replace hR:Hid (Rng .u8 256 wr w.heap.size 0 l.length):=hR;replace hF:Hid (∀ k,wr.frozen? ⟨w.heap.size,k,none⟩=false):=hF;replace hK:Hid (Kept w wr):=hK;go_wp2;go_ret;obtain ⟨L,hLl,hLat,hLb⟩:=Rng.lat hR.out l.length;refine ⟨.slice (some ⟨w.heap.size,0,none⟩) l.length l.length,rfl,⟨L,hLl,hLb,hLat⟩,?_,?_,hK.out⟩
   ·intro n c' e;injection e with e _ _;cases e
   ·intro g hg
    have:w.heap.size=g:=by injection hg
    omega
theorem pairs_any (v:Value) (l:List Int) (w:World) (hl:LAt w .i64 v l) (hn:l.length<=65536) (hB:∀ x ∈ l,0<=x/\x<65536) :
  Calls Tryz.prog 78 #[v] w fun r w'=>∃ ov:Value,r = .returned ov/\Made8 w w' ov (2*l.length):=by
 obtain ⟨p,c,rfl⟩:=hl.form;have HL:Hid (LAt w .i64 (.slice p l.length c) l):=hl;have HB:Hid _:=hB;clear hl hB;go_enter Tryz.func78,Tryz.ntmps78;go_wp2;go_loopw [3,4] (fun u v W=>∃ k:Nat,k<=l.length/\v = .int .i64 (k:Int)/\Own8 W w.heap.size u (2*k)/\Kept w W) (fun _ v _=>l.length - (intOf v).toNat)
 case atStart=>exact ⟨0,by omega,rfl,Own8.nil _ _,Kept.refl _⟩
 case round=>
  obtain ⟨k,hk,rfl,ho,hK⟩:=hrel;obtain ⟨pp,cc,rfl⟩:=ho.slice;have hsz:=hK.size;by_cases hlt:k<l.length
  ·obtain ⟨g,o,rfl,hc⟩:=(HL.out.kept hK).cellAt k hlt
   have hgw:g<w.heap.size:=by
    obtain ⟨g',o',e,hc'⟩:=HL.out.cellAt k hlt
    injection e with e
    injection e with e _
    subst e;exact World.block_lt_of_cell? _ _ hc'
   have hb:=HB.out _ (getD_mem hlt);have hb0:=hb.1;have hb1:=hb.2;clear hb;generalize l.getD k 0=B at *;have hlt':(k:Int)<(l.length:Int):=by omega
   have hk0:(0:Int)<=(k:Int):=by omega
   replace hK:Hid (Kept w wr):=hK;have HO:Hid (Own8 wr w.heap.size (.slice pp (2*k) cc) (2*k)):=ho;clear ho;have HE:Hid (isBytes [IntKind.u8.wrap (B / 256),IntKind.u8.wrap B]):=by
    intro y hy;simp at hy;rcases hy with rfl | rfl
    ·have:=bounds_u8 (wf_wrap .u8 (B / 256));omega
    ·have:=bounds_u8 (wf_wrap .u8 B);omega
   have HC:Hid (∀ j,j<2->((wr.alloc (Obj.cells #[Value.int IntKind.u8 (IntKind.u8.wrap (B / 256)),Value.int IntKind.u8 (IntKind.u8.wrap B)] 5)).drewN 1).cell? ⟨wr.heap.size,j,none⟩=some (.int .u8 ([IntKind.u8.wrap (B / 256),IntKind.u8.wrap B].getD j 0))):=by
    intro j hj;show (wr.alloc _).cell? _=_
    rw[World.cell?_alloc_at _ _ _ _ rfl]
    have:j=0\/j=1:=by omega
    rcases this with rfl | rfl<;>rfl
   go_wp2_with fail;go_region_held3 (fun W=>W.cell? ⟨g,o+k,none⟩=some (.int .i64 B)) (first | exact hc | exact hc5 | go_keep) ((refine step8 (by rfl) _ _ (by rfl) w.heap.size (.slice pp (2*k) cc) (2*k) (by rfl) (by exact (HO.out.alloc _).drewN 1) wr.heap.size 2 2 [IntKind.u8.wrap (B / 256),IntKind.u8.wrap B] (by rfl) rfl (by omega) HE.out (by exact HC.out) (by omega) (by simp;omega) ?_;intro g' cap w2 ho2 hf2;have fk:Fr (fun k'=>(Value.slice pp (2*k) cc).ownBlock=some k') wr w2:=(((Fr.refl _ wr).alloc _).drewN 1).trans hf2;have hc5:w2.cell? ⟨g,o+k,none⟩=some (.int .i64 B):=(fk.cell (World.block_lt_of_cell? _ _ hc) (fun e=>by have:=HO.out.ge g e;omega)).trans hc))
   have HO2:Hid (Own8 w2 w.heap.size (.slice (some ⟨g',0,none⟩) (2*k+2) cap) (2*k+2)):=ho2;have HK2:Hid (Kept w w2):=Fr.to_kept hK.out fk (fun i hi e=>by have:=HO.out.ge i e;omega);clear ho2 hf2 fk;go_wp2;exact ⟨⟨k+1,by omega,by go_num,by rw[show 2*(k+1)=2*k+2 by omega];exact HO2.out,HK2.out⟩,by simp [intOf];omega⟩
  ·have hke:k=l.length:=by omega
   subst hke;have HO:Hid (Own8 wr w.heap.size (.slice pp (2*l.length) cc) (2*l.length)):=ho;replace hK:Hid (Kept w wr):=hK;clear ho;go_wp2;go_ret;obtain ⟨L,hLl,hLb,hLo⟩:=HO.out;have hlat:LAt wr .u8 (.slice pp (2*l.length) cc) L:=by
    have:=hLo
    rw[<- hLl] at this;have h2:=own_lat (k := .u8) this;rw[hLl] at h2;exact h2
   refine ⟨.slice pp (2*l.length) cc,rfl,⟨L,hLl,hLb,hlat⟩,?_,?_,hK.out⟩
   ·intro n c' e
    rcases hLo.2 with ⟨hv,h0⟩ | ⟨g,cap,cur,hv,hg,r⟩
    ·rw[hv] at e;injection e with _ _ e;omega
    ·rw[hv] at e;injection e with e _ _;cases e
   ·intro g hg
    rw[sliceBlock_own _ hLo] at hg;exact (hLo.lt g hg).1
theorem wdata_any (x N m g o c:Nat) (S:Nat->Prop) (cv:Value) (l cl:List Int) (w:World) (h:WrAt w x N m S) (hm0:0<m) (hm:m<=1073741824) (hl:LAt w .u8 (.slice (some ⟨g,o,none⟩) l.length c) l) (hB:isBytes l) (hcap:l.length<=c) (h0:0<l.length) (hn:l.length<=16777216) (hgS:¬ S g) (hcl:LAt w .i64 cv cl) (hc0:0<cl.length) (hc1:cl.length<=64) (hcS:∀ b,sliceBlock cv=some b->¬ S b) (hcc:∀ y ∈ cl,0<=y/\y<=65536) (hcf:1<=cl.getD 0 0) :
  Calls Tryz.prog 51 #[.pointer (some ⟨x,0,none⟩),.slice (some ⟨g,o,none⟩) l.length c,cv] w fun r w'=>r = .returned (.tuple #[])/\∃ k f,1<=k/\1<=f/\f<=l.length/\k<=1073741824/\(cl=[32768]->l.length<=32768->k=1/\f=l.length)/\Put x N (m+12*k+f) S w w':=by
 obtain ⟨cp,cc,rfl⟩:=hcl.form;have F1:Hid (∀ (W:World) (k f:Nat),k<=1073741824->Put x N (m+12*k+f) S w W->Calls Tryz.prog 71 #[.slice cp cl.length cc,.int .i64 (k:Int)] W fun r w'=>r = .returned (.int .i64 (cl.getD (k % cl.length) 0))/\Kept W w'):=fun W k f hk hP=>turns_any _ cl k W (hcl.fr hP.fr hcS) hc0 (by omega) (by omega)
 have F2:Hid (∀ (W:World) (k f n c':Nat),k<=1073741824->n<=65536->f+n<=l.length->Put x N (m+12*k+f) S w W->Calls Tryz.prog 79 #[.pointer (some ⟨x,0,none⟩),.slice (some ⟨g,o+f,none⟩) n c'] W fun r w'=>r = .returned (.tuple #[])/\Put x N (m+12*k+f+12+n) S W w'):=by
  intro W k f n c' hk hn65 hf hP;have hlen:((l.drop f).take n).length=n:=by simp;omega
  have:=dataw_any x N (m+12*k+f) S (.slice (some ⟨g,o+f,none⟩) n c') _ W hP.at' (by omega) ((hl.fr hP.fr (fun b hb=>by
   have:g=b:=by injection hb
   rw[<- this];exact hgS)).part f n c' hf) (hB.part f n) (fun n' c'' e=>by injection e with e _ _;cases e) (fun b hb=>by
   have:g=b:=by injection hb
   rw[<- this];exact hgS) (by omega) (by rw[hlen];omega)
  rw[hlen] at this;exact this
 have HP0:Hid (Put x N m S w w):=Put.refl h;have HCC:Hid (∀ y ∈ cl,0<=y/\y<=65536):=hcc;have hCn:cl.length*l.length<=1073741824:=Nat.le_trans (Nat.mul_le_mul hc1 hn) (by decide);have hCp:0<cl.length*l.length:=Nat.mul_pos hc0 h0;clear h hl hB hcl hcS hcc;have eM:((cl.length:Int)*(l.length:Int))=((cl.length*l.length:Nat):Int):=by simp
 obtain ⟨Q,hQ⟩:∃ Q,Q=cl.length*l.length:=⟨_,rfl⟩;rw[<- hQ] at eM hCn hCp;have hCl:(cl.length:Int)<=64:=by omega
 have hll:(l.length:Int)<=16777216:=by omega
 clear hQ;go_enter Tryz.func51,Tryz.ntmps51;go_wp2;go_loopw [6,7] (fun u v W=>∃ k f:Nat,u = .int .i64 (k:Int)/\v = .int .i64 (f:Int)/\f<=l.length/\k<=Q/\(0<k->0<f)/\(k=0->f=0)/\(cl=[32768]->l.length<=32768->(k=0/\f=0)\/(k=1/\f=l.length))/\Put x N (m+12*k+f) S w W) (fun u _ _=>Q - (intOf u).toNat)
 case atStart=>exact ⟨0,0,rfl,rfl,by omega,by omega,by omega,by omega,fun _ _=>Or.inl ⟨rfl,rfl⟩,HP0.out⟩
 case round=>
  obtain ⟨k,f,rfl,rfl,hf,hkQ,hkf,hkf0,hone,hP⟩:=hrel;replace hone:Hid _:=hone;by_cases hlt:f<l.length/\k<Q
  ·obtain ⟨hlt1,hlt2⟩:=hlt
   have FT:=F1.out wr k f (by omega) hP;have hcv:=HCC.out _ (getD_mem (Nat.mod_lt k hc0));obtain ⟨V,hV⟩:∃ V:Nat,cl.getD (k % cl.length) 0=(V:Int):=⟨(cl.getD (k % cl.length) 0).toNat,by omega⟩;have hV1:k=0->1<=V:=by
    intro e;subst e;rw[Nat.zero_mod] at hV;omega
   have hV2:Hid (cl=[32768]->V=32768):=by
    intro e;subst e
    have:k % ([32768]:List Int).length=0:=by simp [Nat.mod_one]
    rw[this] at hV;simp at hV;omega
   rw[hV] at FT;have hVb:V<=65536:=by omega
   clear hcv hV;replace FT:Hid (Calls Tryz.prog 71 #[.slice cp cl.length cc,.int .i64 (k:Int)] wr fun r w'=>r = .returned (.int .i64 (V:Int))/\Kept wr w'):=FT;replace hP:Hid (Put x N (m+12*k+f) S w wr):=hP;have hV0:(0:Int)<=(V:Int):=by omega
   have l1:(f:Int)<(l.length:Int):=by omega
   have l2:(k:Int)<(Q:Int):=by omega
   by_cases hm':V<=l.length - f
   ·have hmi:(V:Int)<=(l.length:Int) - (f:Int):=by omega
    go_wp2_with fail;refine FT.out.mono ?_;rintro r w6 ⟨rfl,hk6⟩;replace hk6:Hid (Kept wr w6):=hk6;go_wp2_with fail;refine (F2.out w6 k f (V) (c - f) (by omega) (by omega) (by omega) (hP.out.kept hk6.out)).mono ?_;rintro r w7 ⟨rfl,hw7⟩;have HP7:Hid (Put x N (m+12*(k+1)+(f+V)) S w w7):=by
     have:=(hP.out.kept hk6.out).trans hw7
     rw[show m+12*k+f+12+(V)=m+12*(k+1)+(f+V) by omega] at this;exact this
    clear hw7;go_wp2;refine ⟨⟨k+1,f+V,by go_num,by first | rfl | go_num,by omega,by omega,fun _=>by omega,fun h=>by omega,fun e1 e2 => ?_,HP7.out⟩,by simp [intOf];omega⟩;have h1:=hone.out e1 e2;have h2:=hV2.out e1;omega
   ·have hmi:¬ (V:Int)<=(l.length:Int) - (f:Int):=by omega
    go_wp2_with fail;refine FT.out.mono ?_;rintro r w6 ⟨rfl,hk6⟩;replace hk6:Hid (Kept wr w6):=hk6;go_wp2_with fail;refine (F2.out w6 k f (l.length - f) (c - f) (by omega) (by omega) (by omega) (hP.out.kept hk6.out)).mono ?_;rintro r w7 ⟨rfl,hw7⟩;have HP7:Hid (Put x N (m+12*(k+1)+(l.length)) S w w7):=by
     have:=(hP.out.kept hk6.out).trans hw7
     rw[show m+12*k+f+12+(l.length - f)=m+12*(k+1)+(l.length) by omega] at this;exact this
    clear hw7;go_wp2;refine ⟨⟨k+1,l.length,by go_num,by first | rfl | go_num,by omega,by omega,fun _=>by omega,fun h=>by omega,fun e1 e2 => ?_,HP7.out⟩,by simp [intOf];omega⟩;have h1:=hone.out e1 e2;have h2:=hV2.out e1;omega
  ·have hk1:1<=k:=by
    rcases Nat.eq_zero_or_pos k with e | e
    ·have:=hkf0 e
     exact absurd ⟨by omega,by omega⟩ hlt
    ·exact e
   have hfin:∃ k' f',1<=k'/\1<=f'/\f'<=l.length/\k'<=1073741824/\(cl=[32768]->l.length<=32768->k'=1/\f'=l.length)/\Put x N (m+12*k'+f') S w wr:=by
    refine ⟨k,f,hk1,hkf hk1,hf,by omega,fun e1 e2 => ?_,hP⟩
    have:=hone.out e1 e2
    omega
   replace hfin:Hid _:=hfin;clear hP hone;by_cases hf2:f<l.length
   ·have l1:(f:Int)<(l.length:Int):=by omega
    have l2:¬ (k:Int)<(Q:Int):=by omega
    go_wp2;go_end0
    obtain ⟨k',f',a1,a2,a3,a4,a5,a6⟩:=hfin.out;exact ⟨rfl,k',a1,f',a2,a3,a4,a5,a6⟩
   ·have l1:¬ (f:Int)<(l.length:Int):=by omega
    go_wp2;go_end0
    obtain ⟨k',f',a1,a2,a3,a4,a5,a6⟩:=hfin.out;exact ⟨rfl,k',a1,f',a2,a3,a4,a5,a6⟩
theorem clearOf_any (W H K D:Int) (pv cv xv:Value) (l:List Int) (w:World) (hl:LAt w .i64 cv l) (hn:l.length<=65536) (hB:∀ x ∈ l,0<=x/\x<65536) :
  Calls Tryz.prog 50 #[.agg #[.int .i64 W,.int .i64 H,.int .i64 K,.int .i64 D,pv,cv,xv]] w fun r w'=>∃ ov:Value,r = .returned ov/\Made8 w w' ov (if K=3 then l.length else 2*l.length):=by
 have hk0:Kept w (w.alloc (Obj.cells #[Value.int .i64 W,.int .i64 H,.int .i64 K,.int .i64 D,pv,cv,xv] 29)):=Below.alloc (Below.refl _ _) (Nat.le_refl _) _;have F1:Hid (Calls Tryz.prog 48 #[cv] (w.alloc (Obj.cells #[Value.int .i64 W,.int .i64 H,.int .i64 K,.int .i64 D,pv,cv,xv] 29)) fun r w'=>∃ ov:Value,r = .returned ov/\Made8 (w.alloc (Obj.cells #[Value.int .i64 W,.int .i64 H,.int .i64 K,.int .i64 D,pv,cv,xv] 29)) w' ov l.length):=singles_any cv l _ (hl.kept hk0) hn;have F2:Hid (Calls Tryz.prog 78 #[cv] (w.alloc (Obj.cells #[Value.int .i64 W,.int .i64 H,.int .i64 K,.int .i64 D,pv,cv,xv] 29)) fun r w'=>∃ ov:Value,r = .returned ov/\Made8 (w.alloc (Obj.cells #[Value.int .i64 W,.int .i64 H,.int .i64 K,.int .i64 D,pv,cv,xv] 29)) w' ov (2*l.length)):=pairs_any cv l _ (hl.kept hk0) hn hB;replace hk0:Hid _:=hk0;clear hl hB;by_cases hK:K=3
 ·subst hK
  rw[if_pos rfl];go_enter Tryz.func50,Tryz.ntmps50;go_wp2_with fail;refine F1.out.mono ?_;rintro r w1 ⟨ov,rfl,h⟩;go_wp2;go_ret;exact ⟨ov,rfl,h.ex,h.nn,fun g hg=>Nat.le_trans hk0.out.size (h.new g hg),Kept.trans hk0.out h.kept⟩
 ·rw[if_neg hK]
  have hK':(K == 3)=false:=by rw[beq_eq_false_iff_ne];exact hK
  clear hK;go_enter Tryz.func50,Tryz.ntmps50;go_wp2_with fail;refine F2.out.mono ?_;rintro r w1 ⟨ov,rfl,h⟩;go_wp2;go_ret;exact ⟨ov,rfl,h.ex,h.nn,fun g hg=>Nat.le_trans hk0.out.size (h.new g hg),Kept.trans hk0.out h.kept⟩
def S0 (x N:Nat):Nat->Prop:=fun g=>g=x\/N<=g
def S1 (x N d:Nat):Nat->Prop:=fun g=>(g=x\/N<=g)/\g≠d
theorem Put.widen {x N n:Nat} {S S':Nat->Prop} {w w':World} (h:Put x N n S' w w') (hS:∀ g,S' g->S g) (hn:∀ g,w'.heap.size<=g->S g):Put x N n S w w' :=
 ⟨h.at'.turn (fun g _ e=>hS g e) hn,h.fr.mono (fun g _ e=>hS g e)⟩
theorem WrF.turn {W:World} {x N g:Nat} {S S':Nat->Prop} (h:WrF W x N g S) (hx:S' x) (hn:∀ g,W.heap.size<=g->S' g):WrF W x N g S':=⟨h.lt,h.size,h.fz,hx,hn,h.out,h.gx,h.cl⟩
theorem WrF.kept {W W':World} {x N g:Nat} {S:Nat->Prop} (h:WrF W x N g S) (k:Kept W W'):WrF W' x N g S:=by
 obtain ⟨h1,h2,h3,sx,nw,o,gx,l,a,b,c⟩:=h;have hx:x<W.heap.size:=by omega
 exact ⟨h1,Nat.le_trans h2 k.size,fun j=>(k.frozen (p:=⟨x,j,none⟩) hx).trans (h3 j),sx,fun g hg=>nw g (Nat.le_trans k.size hg),(k.cell (p:=⟨x,0,none⟩) hx).trans o,gx,l,a,b,fun j hj=>(k.cell (p:=⟨g,j,none⟩) (World.block_lt_of_cell? _ _ (c j hj))).trans (c j hj)⟩
theorem headC_any (x N g W H D K L:Nat) (w:World) (h:WrF w x N g (S0 x N)) (h1:W<=16) (h2:H<=16) (h3:D<=16) (h4:K<=6) (h5:L<=1) :
  Calls Tryz.prog 46 #[.pointer (some ⟨x,0,none⟩),.agg #[.int .i64 (W:Int),.int .i64 (H:Int),.int .i64 (D:Int),.int .i64 (K:Int),.int .i64 (L:Int)]] w fun r w'=>r = .returned (.tuple #[])/\Put x N 33 (S0 x N) w w':=by
 have F1:Hid (∀ W':World,Calls Tryz.prog 76 #[.agg #[.int .i64 (W:Int),.int .i64 (H:Int),.int .i64 (D:Int),.int .i64 (K:Int),.int .i64 (L:Int)]] W' fun r w'=>∃ cs:List Value,r = .returned (.agg cs.toArray)/\cs.length=13/\(∀ j,j<13->∃ z:Int,0<=z/\z<256/\cs[j]? = some (.int .u8 z))/\Kept W' w'):=fun W'=>hdata_any W H D K L W' h1 h2 h3 h4 h5
 have hk0:Hid (Kept w (w.alloc (Obj.cells #[.int .i64 (W:Int),.int .i64 (H:Int),.int .i64 (D:Int),.int .i64 (K:Int),.int .i64 (L:Int)] 66))):=Below.alloc (Below.refl _ _) (Nat.le_refl _) _;have H0:Hid (WrF w x N g (S0 x N)):=h;have hlt:=h.lt;have hsz:=h.size;clear h;go_enter Tryz.func46,Tryz.ntmps46;go_wp2_with fail;generalize (w.alloc (Obj.cells #[.int .i64 (W:Int),.int .i64 (H:Int),.int .i64 (D:Int),.int .i64 (K:Int),.int .i64 (L:Int)] 66))=w0 at *;refine (F1.out _).mono ?_;rintro r w1 ⟨cs,rfl,hcl,hcz,hk1⟩;have hone:Hid (∀ v ∈ cs,v.oneCell'=true):=ints_one hcl hcz;have hT:Hid ((w1.alloc (Obj.cells #[Value.int .u8 0,.int .u8 0,.int .u8 0,.int .u8 0,.int .u8 0,.int .u8 0,.int .u8 0,.int .u8 0,.int .u8 0,.int .u8 0,.int .u8 0,.int .u8 0,.int .u8 0] 67)).there w1.heap.size 0 cs.length):=by
  intro j hj;refine ⟨?_,World.frozen?_alloc_at _ _ _ _ rfl⟩;rw[World.cell?_alloc_at _ _ _ _ rfl,Nat.zero_add]
  have:j<13:=by omega
  rw[Array.getElem?_eq_getElem (by simpa using this)];rfl
 have hsc:(storeCells ⟨w1.heap.size,0,none⟩ cs).run Tryz.prog (w1.alloc (Obj.cells #[Value.int .u8 0,.int .u8 0,.int .u8 0,.int .u8 0,.int .u8 0,.int .u8 0,.int .u8 0,.int .u8 0,.int .u8 0,.int .u8 0,.int .u8 0,.int .u8 0,.int .u8 0] 67)) = .ok () ((w1.alloc (Obj.cells #[Value.int .u8 0,.int .u8 0,.int .u8 0,.int .u8 0,.int .u8 0,.int .u8 0,.int .u8 0,.int .u8 0,.int .u8 0,.int .u8 0,.int .u8 0,.int .u8 0,.int .u8 0] 67)).setCells w1.heap.size 0 cs):=store_there hT.out hone.out;have hr2:Hid (Rng .u8 256 ((w1.alloc (Obj.cells #[Value.int .u8 0,.int .u8 0,.int .u8 0,.int .u8 0,.int .u8 0,.int .u8 0,.int .u8 0,.int .u8 0,.int .u8 0,.int .u8 0,.int .u8 0,.int .u8 0,.int .u8 0] 67)).setCells w1.heap.size 0 cs) w1.heap.size 0 13):=Rng.of_range (World.rangeAt_setCells_same _ _ _ _ hT.out) hcz;have hk2:Hid (Kept w1 ((w1.alloc (Obj.cells #[Value.int .u8 0,.int .u8 0,.int .u8 0,.int .u8 0,.int .u8 0,.int .u8 0,.int .u8 0,.int .u8 0,.int .u8 0,.int .u8 0,.int .u8 0,.int .u8 0,.int .u8 0] 67)).setCells w1.heap.size 0 cs)):=Kept.setCells (Nat.le_refl _) _ _ (Below.alloc (Below.refl _ _) (Nat.le_refl _) _);have hsz2:Hid (((w1.alloc (Obj.cells #[Value.int .u8 0,.int .u8 0,.int .u8 0,.int .u8 0,.int .u8 0,.int .u8 0,.int .u8 0,.int .u8 0,.int .u8 0,.int .u8 0,.int .u8 0,.int .u8 0,.int .u8 0] 67)).setCells w1.heap.size 0 cs).heap.size=w1.heap.size+1):=by show _=_;rw[setCells_size];simp
 have HK:Hid (Kept w ((w1.alloc (Obj.cells #[Value.int .u8 0,.int .u8 0,.int .u8 0,.int .u8 0,.int .u8 0,.int .u8 0,.int .u8 0,.int .u8 0,.int .u8 0,.int .u8 0,.int .u8 0,.int .u8 0,.int .u8 0] 67)).setCells w1.heap.size 0 cs)):=(hk0.out.trans hk1).trans hk2.out;have hsw:w.heap.size<=w1.heap.size:=(hk0.out.trans hk1).size;clear hcz hT hone;have hcl':=hcl;go_wp2_with fail;generalize (w1.alloc (Obj.cells #[Value.int .u8 0,.int .u8 0,.int .u8 0,.int .u8 0,.int .u8 0,.int .u8 0,.int .u8 0,.int .u8 0,.int .u8 0,.int .u8 0,.int .u8 0,.int .u8 0,.int .u8 0] 67)).setCells w1.heap.size 0 cs=w2 at *;clear hsc;obtain ⟨ll,hll,hla,hlz⟩:=Rng.lat hr2.out 13;have HF:WrF w2 x N g (S1 x N w1.heap.size):=(H0.out.kept HK.out).turn ⟨Or.inl rfl,by omega⟩ (fun g' hg'=>⟨Or.inr (by rw[hsz2.out] at hg';omega),by rw[hsz2.out] at hg';omega⟩);have FA:=fun (T:Nat) (hT:T<4294967296)=>add_core x N 8 T (S1 x N w1.heap.size) (.slice (some ⟨w1.heap.size,0,none⟩) 13 13) ll w2 (fun q h0 h1=>num4_full x N g q w2 _ HF h0 h1) (by omega) hla (fun x hx=>hlz x hx) (fun n c e=>by injection e with e _ _;cases e) (fun b hb e=>by
  have:w1.heap.size=b:=by injection hb
  exact e.2 this.symm) (by omega) (by omega) hT
 rw[hll] at FA;replace FA:Hid _:=FA;refine Calls.mono (FA.out _ ?_) ?_
 rotate_left
 ·rintro r w3 ⟨rfl,hw3⟩
  have H3:Hid (Put x N 33 (S0 x N) w w3):=by
   have hz:=hw3.fr.size;have hz2:=hsz2.out
   have:=hw3.widen (S:=S0 x N) (fun g e=>e.1) (fun g hg=>Or.inr (by omega))
   exact ⟨this.at',Fr.trans (Fr.of_kept HK.out) this.fr⟩
  go_wp2;go_end0
  exact ⟨rfl,H3.out⟩
 ·decide
