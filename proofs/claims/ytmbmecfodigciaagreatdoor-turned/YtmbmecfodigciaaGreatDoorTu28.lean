import Derived.Test.YtmbmecfodigciaaGreatDoorTu26
import Derived.Test.YtmbmecfodigciaaGreatDoorTu17
import Derived.Test.YtmbmecfodigciaaGreatDoorTu14
set_option maxRecDepth 100000
set_option maxHeartbeats 6400000
namespace Go.Proofs.YtmbmecfodigciaaGreatDoor
open Go.RowKit Px
set_option linter.unusedSimpArgs false
set_option linter.unusedVariables false
theorem LS.lxb {w w':World} {x N cnt W H D K L:Nat} {o:List Int} {row abv:Nat->Nat} {S:Nat->Prop} (h:LS w x S) (k:LxB x N cnt W H D K L o row abv w w'):LS w' x S:=⟨h.sx,fun g hg=>h.new g (Nat.le_trans k.fr.size hg),fun ov g h1 h2=>h.own ov g (k.c5.symm.trans h1) h2⟩
structure LwSB (x N cnt W H D K L:Nat) (o:List Int) (row abv:Nat->Nat) (S:Nat->Prop) (w w':World):Prop where
 lw:LwB w' x N cnt W H D K L o row abv
 fr:Fr S w w'
 ls:LS w' x S
theorem LwSB.trans {x N cnt cnt' W H D K L:Nat} {o o':List Int} {row abv row' abv':Nat->Nat} {S:Nat->Prop} {a b c:World} (h:LwSB x N cnt W H D K L o row abv S a b) (k:LwSB x N cnt' W H D K L o' row' abv' S b c):LwSB x N cnt' W H D K L o' row' abv' S a c:=⟨k.lw,h.fr.trans k.fr,k.ls⟩
theorem LwSB.kept {x N cnt W H D K L:Nat} {o:List Int} {row abv:Nat->Nat} {S:Nat->Prop} {a b c:World} (h:LwSB x N cnt W H D K L o row abv S a b) (k:Kept b c):LwSB x N cnt W H D K L o row abv S a c:=⟨h.lw.kept k,h.fr.kept k,h.ls.kept k (Nat.lt_of_lt_of_le h.lw.lt h.lw.size)⟩
theorem LwSB.drewN {x N cnt W H D K L:Nat} {o:List Int} {row abv:Nat->Nat} {S:Nat->Prop} {a b:World} (h:LwSB x N cnt W H D K L o row abv S a b) (k:Nat):LwSB x N cnt W H D K L o row abv S a (b.drewN k):=h.kept ((Kept.refl _).drewN k)
theorem LwSB.lxb {x N cnt c' W H D K L:Nat} {o o':List Int} {row abv row' abv':Nat->Nat} {S:Nat->Prop} {a b c:World} (h:LwSB x N cnt W H D K L o row abv S a b) (k:LxB x N c' W H D K L o' row' abv' b c):LwSB x N c' W H D K L o' row' abv' S a c:=⟨k.lw,h.fr.trans (k.fr.mono (fun i _ e=>by rw[e];exact h.ls.sx)),h.ls.lxb k⟩
theorem LwB.grow {w w2:World} {x N cnt W H D K L:Nat} {o o':List Int} {row abv:Nat->Nat} {S:Nat->Prop} (h:LwB w x N cnt W H D K L o row abv) (ls:LS w x S) (ov v':Value) (h5:w.cell? ⟨x,5,none⟩=some ov) (ho:OwnB w N ov o) (fk:Fr (fun k=>ov.ownBlock=some k) w w2) (ho2:OwnB w2 N v' o') (hn2:∀ k,v'.ownBlock=some k->ov.ownBlock=some k\/w.heap.size<=k):LwSB x N cnt W H D K L o' row abv S w (w2.setCell ⟨x,5,none⟩ v'):=by
 obtain ⟨h1,h2,h3,a0,a1,a2,a3,a4,_,a6,r1,r2,r3,r4⟩:=h
 have hxs:x<w.heap.size:=by omega
 have hne:¬ ov.ownBlock=some x:=fun e=>by have:=ho.ge x e;omega
 have e:∀ j,j≠5->(w2.setCell ⟨x,5,none⟩ v').cell? ⟨x,j,none⟩=w.cell? ⟨x,j,none⟩:=fun j hj=>(cell_set_other _ _ _ _ _ (fun e=>hj e.symm)).trans (fk.cell hxs hne)
 have k5:=(fk.cell (k:=5) hxs hne).trans h5
 have hse:(w2.setCell ⟨x,5,none⟩ v').heap.size=w2.heap.size:=by simp [World.setCell]
 refine ⟨⟨h1,by rw[hse];exact Nat.le_trans h2 fk.size,fun k=>by rw[World.frozen?_setCell];exact (fk.frozen hxs hne).trans (h3 k),(e 0 (by omega)).trans a0,(e 1 (by omega)).trans a1,(e 2 (by omega)).trans a2,(e 3 (by omega)).trans a3,(e 4 (by omega)).trans a4,⟨v',cell_set_same k5 _,ho2.set h1 _ _⟩,(e 6 (by omega)).trans a6,fun j hj=>(e _ (by omega)).trans (r1 j hj),fun j hj=>(e _ (by omega)).trans (r2 j hj),r3,r4⟩,?_,?_⟩
 ·exact Fr.setCell (S:=S) (fk.mono (fun i _ e=>ls.own ov i h5 e)) (Or.inl ls.sx) _ _
 ·refine ⟨ls.sx,fun g hg=>ls.new g (by rw[hse] at hg;have:=fk.size;omega),fun ov' g q1 q2 => ?_⟩
  rw[cell_set_same k5] at q1
  injection q1 with q1
  subst q1
  rcases hn2 g q2 with q | q
  ·exact ls.own ov g h5 q
  ·exact ls.new g q
def outB (K D f:Nat) (row abv:Nat->Nat) (i:Nat):Int:=(((row i+256 - gssB K D f row abv i) % 256:Nat):Int)
def rowB (K D f size:Nat) (row abv:Nat->Nat):List Int:=(f:Int)::(List.range size).map (outB K D f row abv)
theorem rowB_snoc (K D f i:Nat) (row abv:Nat->Nat):rowB K D f (i+1) row abv=rowB K D f i row abv++[outB K D f row abv i]:=by
 unfold rowB;rw[List.range_succ,List.map_append];rfl
theorem rowB_len (K D f i:Nat) (row abv:Nat->Nat):(rowB K D f i row abv).length=1+i:=by unfold rowB;simp;omega
theorem gssB_lt {K D f i:Nat} {row abv:Nat->Nat} (h1:∀ j,row j<256) (h2:∀ j,abv j<256):gssB K D f row abv i<256:=by
 unfold gssB
 apply gss_lt
 ·split;exact h1 _;omega
 ·exact h2 _
 ·split;exact h2 _;omega
theorem writeRow_b (x N cnt W H D K L f size:Nat) (o:List Int) (row abv:Nat->Nat) (w:World) (h:LwB w x N cnt W H D K L o row abv) (hk:legal K D) (hf:f<=4) (hs:size<=128) (hn:o.length<=1048576) (S:Nat->Prop) (hls:LS w x S) :
  Calls Tryz.prog 132 #[.pointer (some ⟨x,0,none⟩),.int .u8 (f:Int),.int .i64 (size:Int)] w fun r w'=>r = .returned (.tuple #[])/\LwSB x N cnt W H D K L (o++rowB K D f size row abv) row abv S w w':=by
 have F1:Hid (∀ (W':World) (m:List Int) (i:Nat),LwB W' x N cnt W H D K L m row abv->i<128->Calls Tryz.prog 152 #[.pointer (some ⟨x,0,none⟩),.int .u8 (f:Int),.int .i64 (i:Int)] W' fun r w'=>r = .returned (.int .u8 (gssB K D f row abv i:Int))/\Kept W' w'):=fun W' m i hW hi=>guess_b x N cnt W H D K L f i m row abv W' hW hk hf hi
 obtain ⟨n,hnl⟩:∃ n,o.length=n:=⟨_,rfl⟩
 rw[hnl] at hn
 have HNL:Hid (o.length=n):=hnl
 clear hnl
 have HR1:Hid ((o++[(f:Int)]).length=n+1):=by show (o++[(f:Int)]).length=n+1;rw[List.length_append,HNL.out];rfl
 have HRi:Hid (∀ i,(o++rowB K D f i row abv).length=n+1+i):=fun i=>by rw[List.length_append,HNL.out,rowB_len];omega
 have HR0:Hid (o++[(f:Int)]=o++rowB K D f 0 row abv):=rfl
 obtain ⟨ov,h5,ho⟩:=h.out
 obtain ⟨p,c,rfl⟩:=ho.slice' HNL.out
 have hf5:=h.fz 5
 have hlt:=h.lt
 have hsz:=h.size
 have hxs:x<w.heap.size:=by omega
 have H0:Hid (LwB w x N cnt W H D K L o row abv):=h
 have HO:Hid (OwnB w N (.slice p n c) o):=ho
 have hne:¬ (Value.slice p n c).ownBlock=some x:=fun e=>by have:=HO.out.ge x e;omega
 have HLS:Hid (LS w x S):=hls
 clear h ho hls
 have HC:Hid ((w.alloc (Obj.cells #[Value.int .u8 (f:Int)] 5)).cell? ⟨w.heap.size,0,none⟩=some (.int .u8 (f:Int))):=by show _=_;rw[World.cell?_alloc_at _ _ _ _ rfl];rfl
 go_enter Tryz.func132,Tryz.ntmps132
 go_wp2_with (at_builtin;refine appendB' _ rfl _ _ rfl N (.slice p n c) o rfl (HO.out.alloc _) w.heap.size 0 1 1 [(f:Int)] rfl rfl (by omega) (by intro y hy;simp at hy;subst hy;omega) (by intro j hj;match j,hj with | 0,_=>exact HC.out) (by rw[HNL.out];omega) (by simp;omega) ?_)
 intro v' w2 ho2 hf2 hn2
 obtain ⟨p',c',rfl⟩:=ho2.slice' HR1.out
 rw[HR0.out] at ho2
 have fk:Fr (fun k=>(Value.slice p n c).ownBlock=some k) w w2:=((Fr.refl _ w).alloc _).trans hf2
 have k0:=(fk.cell (k:=5) hxs hne).trans h5
 have g0:=(fk.frozen (k:=5) hxs hne).trans hf5
 have H2:Hid (LwSB x N cnt W H D K L (o++rowB K D f 0 row abv) row abv S w (w2.setCell ⟨x,5,none⟩ (.slice p' (n+1) c'))):=H0.out.grow HLS.out _ _ h5 HO.out fk ho2 (fun k hk=>by rcases hn2 k hk with q | q;exact Or.inl q;exact Or.inr (by first | omega | (simp at q;omega)))
 clear hf2 ho2 fk hn2
 go_wp2
 generalize w2.setCell ⟨x,5,none⟩ (.slice p' (n+1) c')=w3 at *
 go_loopw [6] (fun v W'=>∃ i:Nat,i<=size/\v = .int .i64 (i:Int)/\LwSB x N cnt W H D K L (o++rowB K D f i row abv) row abv S w W') (fun v _=>size - (intOf v).toNat)
 case atStart=>exact ⟨0,by omega,rfl,H2.out⟩
 case round=>
  obtain ⟨i,hi,rfl,hW⟩:=hrel
  clear H2 h5 hf5 hne HO H0 HC k0 g0
  by_cases hlt2:i<size
  ·have i0:(0:Int)<=(i:Int):=by omega
   have i1:(i:Int)<(size:Int):=by omega
   have i2:(i:Int)<128:=by omega
   have hz:=hW.lw.rowc i (by omega)
   have z1:=hW.lw.rb i
   have q1:gssB K D f row abv i<256:=gssB_lt hW.lw.rb hW.lw.ab
   have FG:Hid (∀ W',Kept wr W'->Calls Tryz.prog 152 #[.pointer (some ⟨x,0,none⟩),.int .u8 (f:Int),.int .i64 (i:Int)] W' fun r w'=>r = .returned (.int .u8 (gssB K D f row abv i:Int))/\Kept W' w'):=fun W' hK=>F1.out W' _ i (hW.lw.kept hK) (by omega)
   have HOB:Hid (outB K D f row abv i=(((row i+256 - gssB K D f row abv i) % 256:Nat):Int)):=rfl
   have HNx:Hid (o++rowB K D f (i+1) row abv=o++rowB K D f i row abv++[outB K D f row abv i]):=by show o++rowB K D f (i+1) row abv=_;rw[rowB_snoc,List.append_assoc]
   have HLn:Hid ((o++rowB K D f i row abv).length=n+1+i):=HRi.out i
   have HLm:Hid ((o++rowB K D f (i+1) row abv).length=n+1+i+1):=by show (o++rowB K D f (i+1) row abv).length=_;rw[HRi.out (i+1)];omega
   generalize outB K D f row abv i=B0 at *
   generalize gssB K D f row abv i=q at *
   obtain ⟨z,hze⟩:∃ z,z=row i:=⟨_,rfl⟩
   rw[<- hze] at hz z1 HOB
   clear hze
   obtain ⟨A1,hA1⟩:∃ A1,A1=o++rowB K D f (i+1) row abv:=⟨_,rfl⟩
   rw[<- hA1] at HNx HLm
   replace hA1:Hid _:=hA1
   obtain ⟨A0,hA0⟩:∃ A0,A0=o++rowB K D f i row abv:=⟨_,rfl⟩
   rw[<- hA0] at HNx HLn hW
   clear hA0
   have hlt3:x<wr.heap.size:=World.block_lt_of_cell? _ _ hz
   replace hW:Hid (LwSB x N cnt W H D K L A0 row abv S w wr):=hW
   go_wp2_with fail
   go_region_held3 (fun W'=>W'.cell? ⟨x,7+i,none⟩=some (.int .u8 (z:Int))) (first | exact hz | exact hz4 | go_keep) ((go_at_call 152;refine (FG.out _ (by exact (Kept.refl _).drewN 1)).mono ?_;rintro r w4 ⟨rfl,hk4⟩;have hz4:w4.cell? ⟨x,7+i,none⟩=some (.int .u8 (z:Int)):=(hk4.cell (p:=⟨x,7+i,none⟩) hlt3).trans hz))
   have H4:Hid (LwSB x N cnt W H D K L A0 row abv S w w4):=(hW.out.drewN 1).kept hk4
   obtain ⟨ov4,h54,ho4⟩:=H4.out.lw.out
   obtain ⟨p4,c4,rfl⟩:=ho4.slice' HLn.out
   have hf54:=H4.out.lw.fz 5
   have hsz4:=H4.out.lw.size
   have HO4:Hid (OwnB w4 N (.slice p4 (n+1+i) c4) A0):=ho4
   have hne4:¬ (Value.slice p4 (n+1+i) c4).ownBlock=some x:=fun e=>by have:=HO4.out.ge x e;omega
   have hxs4:x<w4.heap.size:=by omega
   clear ho4 hk4 hz4 hW FG
   have hBe:IntKind.u8.wrap ((z:Int) - (q:Int))=B0:=by rw[IntKind.wrap_u8,HOB.out];omega
   have hBb:=bounds_u8 (wf_wrap .u8 ((z:Int) - (q:Int)))
   rw[hBe] at hBb
   rw[hBe]
   clear hBe HOB
   generalize B0=B at *
   have HC4:Hid ((w4.alloc (Obj.cells #[Value.int .u8 B] 5)).cell? ⟨w4.heap.size,0,none⟩=some (.int .u8 B)):=by show _=_;rw[World.cell?_alloc_at _ _ _ _ rfl];rfl
   go_wp2_with (at_builtin;refine appendB' _ rfl _ _ rfl N (.slice p4 (n+1+i) c4) A0 rfl (HO4.out.alloc _) w4.heap.size 0 1 1 [B] rfl rfl (by omega) (by intro y hy;simp at hy;subst hy;omega) (by intro j hj;match j,hj with | 0,_=>exact HC4.out) (by rw[HLn.out];omega) (by simp;omega) ?_)
   intro v5 w5 ho5 hf5 hn5
   rw[<- HNx.out] at ho5
   obtain ⟨p5,c5,rfl⟩:=ho5.slice' HLm.out
   have fk:Fr (fun k=>(Value.slice p4 (n+1+i) c4).ownBlock=some k) w4 w5:=((Fr.refl _ w4).alloc _).trans hf5
   have k0:=(fk.cell (k:=5) hxs4 hne4).trans h54
   have g0:=(fk.frozen (k:=5) hxs4 hne4).trans hf54
   have H5:Hid (LwSB x N cnt W H D K L A1 row abv S w (w5.setCell ⟨x,5,none⟩ (.slice p5 (n+1+i+1) c5))):=H4.out.trans (H4.out.lw.grow H4.out.ls _ _ h54 HO4.out fk ho5 (fun k hk=>by rcases hn5 k hk with q | q;exact Or.inl q;exact Or.inr (by first | omega | (simp at q;omega))))
   rw[hA1.out] at H5
   clear hf5 ho5 fk hn5
   go_wp2
   exact ⟨⟨i+1,by omega,by go_num,H5.out⟩,by simp [intOf];omega⟩
  ·have hie:i=size:=by omega
   subst hie
   have i1:¬ (i:Int)<(i:Int):=by omega
   replace hW:Hid (LwSB x N cnt W H D K L (o++rowB K D f i row abv) row abv S w wr):=hW
   go_wp2
   go_end0
   exact ⟨rfl,hW.out⟩
