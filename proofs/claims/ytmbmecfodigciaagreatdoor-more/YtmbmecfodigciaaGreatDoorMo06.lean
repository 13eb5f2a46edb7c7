import Derived.Test.YtmbmecfodigciaaGreatDoorMo05
import Derived.Test.YtmbmecfodigciaaGreatDoorMo02
set_option maxRecDepth 100000
set_option maxHeartbeats 6400000
namespace Go.Proofs.YtmbmecfodigciaaGreatDoor
open Go.RowKit Px
set_option linter.unusedSimpArgs false
set_option linter.unusedVariables false
theorem u8_or_nat (a b:Nat) (ha:a<256) (hb:b<256):bits .or .u8 (a:Int) (b:Int)=((a ||| b:Nat):Int):=by
 have hx:a ||| b<2^8:=Nat.or_lt_two_pow (by omega) (by omega)
 show IntKind.u8.wrap ((BitVec.ofInt 8 (a:Int) ||| BitVec.ofInt 8 (b:Int)).toNat:Int)=_
 have e1:(BitVec.ofInt 8 (a:Int)).toNat=a:=by rw[BitVec.ofInt_natCast,BitVec.toNat_ofNat];exact Nat.mod_eq_of_lt (by omega)
 have e2:(BitVec.ofInt 8 (b:Int)).toNat=b:=by rw[BitVec.ofInt_natCast,BitVec.toNat_ofNat];exact Nat.mod_eq_of_lt (by omega)
 rw[BitVec.toNat_or,e1,e2,IntKind.wrap_u8]
 omega
structure LwB (w:World) (x N cnt W H D K L:Nat) (o:List Int) (row abv:Nat→Nat):Prop where
 lt:x<N
 size:N≤w.heap.size
 fz:∀ k,w.frozen? ⟨x,k,none⟩=false
 c0:w.cell? ⟨x,0,none⟩=some (.int .i64 (W:Int))
 c1:w.cell? ⟨x,1,none⟩=some (.int .i64 (H:Int))
 c2:w.cell? ⟨x,2,none⟩=some (.int .i64 (D:Int))
 c3:w.cell? ⟨x,3,none⟩=some (.int .i64 (K:Int))
 c4:w.cell? ⟨x,4,none⟩=some (.int .i64 (L:Int))
 out:∃ ov,w.cell? ⟨x,5,none⟩=some ov∧OwnB w N ov o
 cn:w.cell? ⟨x,6,none⟩=some (.int .i64 (cnt:Int))
 rowc:∀ j,j<128→w.cell? ⟨x,7+j,none⟩=some (.int .u8 (row j:Int))
 abvc:∀ j,j<128→w.cell? ⟨x,135+j,none⟩=some (.int .u8 (abv j:Int))
 rb:∀ j,row j<256
 ab:∀ j,abv j<256
theorem LwB.at' {w:World} {x N cnt W H D K L:Nat} {o:List Int} {row abv:Nat→Nat} (h:LwB w x N cnt W H D K L o row abv):LwAt w x N o.length cnt W H D K L:=by
 obtain ⟨h1,h2,h3,a0,a1,a2,a3,a4,⟨ov,b1,b2⟩,a6,r1,r2,r3,r4⟩:=h
 exact ⟨h1,h2,h3,a0,a1,a2,a3,a4,⟨ov,b1,b2.own8⟩,a6,fun j hj=>⟨row j,by omega,by have:=r3 j;omega,r1 j hj⟩,fun j hj=>⟨abv j,by omega,by have:=r4 j;omega,r2 j hj⟩⟩
theorem LwB.kept {w w':World} {x N cnt W H D K L:Nat} {o:List Int} {row abv:Nat→Nat} (h:LwB w x N cnt W H D K L o row abv) (k:Kept w w'):LwB w' x N cnt W H D K L o row abv:=by
 obtain ⟨h1,h2,h3,a0,a1,a2,a3,a4,⟨ov,b1,b2⟩,a6,r1,r2,r3,r4⟩:=h
 have hx:x<w.heap.size:=by omega
 have e:∀ j,w'.cell? ⟨x,j,none⟩=w.cell? ⟨x,j,none⟩:=fun j=>k.cell (p:=⟨x,j,none⟩) hx
 exact ⟨h1,Nat.le_trans h2 k.size,fun j=>(k.frozen (p:=⟨x,j,none⟩) hx).trans (h3 j),(e 0).trans a0,(e 1).trans a1,(e 2).trans a2,(e 3).trans a3,(e 4).trans a4,⟨ov,(e 5).trans b1,b2.kept k⟩,(e 6).trans a6,fun j hj=>(e _).trans (r1 j hj),fun j hj=>(e _).trans (r2 j hj),r3,r4⟩
theorem LwB.setRow {w:World} {x N cnt W H D K L:Nat} {o:List Int} {row abv:Nat→Nat} (h:LwB w x N cnt W H D K L o row abv) (i:Nat) (hi:i<128) (z:Nat) (hz:z<256):LwB (w.setCell ⟨x,7+i,none⟩ (.int .u8 (z:Int))) x N cnt W H D K L o (upd row i z) abv:=by
 obtain ⟨h1',h2,h3,a0,a1,a2,a3,a4,⟨ov,b1,b2⟩,a6,r1,r2,r3,r4⟩:=h
 have e:∀ j,j≠7+i→(w.setCell ⟨x,7+i,none⟩ (.int .u8 (z:Int))).cell? ⟨x,j,none⟩=w.cell? ⟨x,j,none⟩:=fun j hj=>cell_set_other _ _ _ _ _ (by omega)
 refine ⟨h1',by rw[show (w.setCell ⟨x,7+i,none⟩ (.int .u8 (z:Int))).heap.size=w.heap.size by simp [World.setCell]];exact h2,fun k=>by rw[World.frozen?_setCell];exact h3 k,(e 0 (by omega)).trans a0,(e 1 (by omega)).trans a1,(e 2 (by omega)).trans a2,(e 3 (by omega)).trans a3,(e 4 (by omega)).trans a4,⟨ov,(e 5 (by omega)).trans b1,b2.set h1' _ _⟩,(e 6 (by omega)).trans a6,?_,fun j hj=>(e _ (by omega)).trans (r2 j hj),?_,r4⟩
 ·intro j hj
  by_cases hji:j=i
  ·subst hji;rw[upd_same];exact cell_set_same (r1 j hj) _
  ·rw[upd_ne _ _ _ hji];exact (e _ (by omega)).trans (r1 j hj)
 ·intro j
  by_cases hji:j=i
  ·subst hji;rw[upd_same];exact hz
  ·rw[upd_ne _ _ _ hji];exact r3 j
structure LxB (x N cnt W H D K L:Nat) (o:List Int) (row abv:Nat→Nat) (w w':World):Prop where
 lw:LwB w' x N cnt W H D K L o row abv
 fr:Fr1 x w w'
 c5:w'.cell? ⟨x,5,none⟩=w.cell? ⟨x,5,none⟩
theorem LxB.trans {x N cnt cnt' W H D K L:Nat} {o o':List Int} {row abv row' abv':Nat→Nat} {a b c:World} (h:LxB x N cnt W H D K L o row abv a b) (k:LxB x N cnt' W H D K L o' row' abv' b c):LxB x N cnt' W H D K L o' row' abv' a c:=⟨k.lw,h.fr.trans k.fr,k.c5.trans h.c5⟩
theorem LxB.refl {x N cnt W H D K L:Nat} {o:List Int} {row abv:Nat→Nat} {a:World} (h:LwB a x N cnt W H D K L o row abv):LxB x N cnt W H D K L o row abv a a:=⟨h,Fr.refl _ _,rfl⟩
theorem LxB.kept {x N cnt W H D K L:Nat} {o:List Int} {row abv:Nat→Nat} {a b c:World} (h:LxB x N cnt W H D K L o row abv a b) (k:Kept b c):LxB x N cnt W H D K L o row abv a c:=⟨h.lw.kept k,h.fr.kept k,(k.cell (p:=⟨x,5,none⟩) (Nat.lt_of_lt_of_le h.lw.lt h.lw.size)).trans h.c5⟩
theorem LxB.drewN {x N cnt W H D K L:Nat} {o:List Int} {row abv:Nat→Nat} {a b:World} (h:LxB x N cnt W H D K L o row abv a b) (k:Nat):LxB x N cnt W H D K L o row abv a (b.drewN k):=h.kept ((Kept.refl _).drewN k)
theorem shifted_b (v n:Nat) (w:World) (hn:n≤8) (hv:v<65536) :
  Calls Tryz.prog 159 #[.int .i64 (v:Int),.int .i64 (n:Int)] w fun r w'=>r = .returned (.int .u8 ((v*2^n % 256:Nat):Int))∧w'=w:=by
 have hE:Hid (((v:Int) % 256*2^n) % 256=((v*2^n % 256:Nat):Int)):=by
  show ((v:Int) % 256*2^n) % 256=_
  rw[Int.mul_emod,Int.emod_emod,← Int.mul_emod]
  simp
 go_enter Tryz.func159,Tryz.ntmps159
 have hn':(n:Int)≤8:=by omega
 go_wp2
 go_ret
 refine ⟨?_,rfl⟩
 rw[← hE.out]
 rfl
def laySB (D:Nat) (row:Nat→Nat) (i v:Nat):Nat→Nat:=
 if D<16 then upd row (i*D / 8) (row (i*D / 8) ||| v*2^(8 - i*D % 8 - D) % 256) else upd (upd row (i*D / 8) (v / 256)) (i*D / 8+1) (v % 256)
theorem layS_low_b (x N cnt W H D K L i v:Nat) (o:List Int) (row abv:Nat→Nat) (w:World) (h:LwB w x N cnt W H D K L o row abv) (hk:legal K D) (hi:i*D / 8<128) (hv1:v<65536) (hD8:D<16) (hfit:i*D % 8+D≤8) :
  Calls Tryz.prog 151 #[.pointer (some ⟨x,0,none⟩),.int .i64 (i:Int),.int .i64 (v:Int)] w fun r w'=>r = .returned (.tuple #[])∧LxB x N cnt W H D K L o (laySB D row i v) abv w w':=by
 have F:Hid (∀ (W:World) (n:Nat),n≤8→Calls Tryz.prog 159 #[.int .i64 (v:Int),.int .i64 (n:Int)] W fun r w'=>r = .returned (.int .u8 ((v*2^n % 256:Nat):Int))∧w'=W):=fun W n h0=>shifted_b v n W h0 hv1
 have HLB:Hid (laySB D row i v=upd row (i*D / 8) (row (i*D / 8) ||| v*2^(8 - i*D % 8 - D) % 256)):=by show laySB D row i v=_;unfold laySB;rw[if_pos hD8]
 generalize laySB D row i v=RW at *
 have c2:=h.c2
 have H0:Hid (LwB w x N cnt W H D K L o row abv):=h
 have hD:=hk.d
 have hTb:i*D≤65536:=by omega
 have e1:(i:Int)*(D:Int)=((i*D:Nat):Int):=by simp
 generalize i*D=T at *
 obtain ⟨A,hA⟩:∃ A,A=T / 8:=⟨_,rfl⟩
 have e2:(T:Int) / 8=(A:Int):=by omega
 have hAb:A≤8192:=by omega
 have a0:(0:Int)≤(A:Int):=by omega
 have hT0:(0:Int)≤(T:Int):=by omega
 have hlt:A<128:=by omega
 rw[← hA] at HLB
 replace hA:Hid _:=hA
 clear hk
 have a1:(A:Int)<128:=by omega
 have hz:=h.rowc A hlt
 have hz1:=h.rb A
 have hfA:=h.fz (7+A)
 have hD':(D:Int)<16:=by omega
 obtain ⟨M,hM⟩:∃ M,M=T % 8:=⟨_,rfl⟩
 rw[← hM] at HLB hfit
 have e3:(T:Int).tmod 8=(M:Int):=by rw[Int.tmod_eq_emod_of_nonneg hT0];omega
 have hMb:(M:Int)≤7:=by omega
 have w1:IntKind.i64.wrap (8 - (M:Int))=8 - (M:Int):=wrapZ _ (by omega) (by omega)
 have w2:IntKind.i64.wrap (8 - (M:Int) - (D:Int))=((8 - M - D:Nat):Int):=by rw[wrapZ _ (by omega) (by omega)];omega
 have FA:Hid _:=F.out
 have hq1:v*2^(8 - M - D) % 256<256:=Nat.mod_lt _ (by omega)
 have FQ:=fun W'=>F.out W' (8 - M - D) (by omega)
 obtain ⟨q,hq⟩:∃ q,q=v*2^(8 - M - D) % 256:=⟨_,rfl⟩
 rw[← hq] at FQ hq1 HLB
 obtain ⟨E,hE⟩:∃ E,E=8 - M - D:=⟨_,rfl⟩
 rw[← hE] at w2 FQ
 replace FQ:Hid (∀ W:World,Calls Tryz.prog 159 #[.int .i64 (v:Int),.int .i64 (E:Int)] W fun r w'=>r = .returned (.int .u8 (q:Int))∧w'=W):=FQ
 obtain ⟨z,hzz⟩:∃ z,z=row A:=⟨_,rfl⟩
 rw[← hzz] at hz hz1 HLB
 clear h hD hM F FA hq hE hzz
 replace hTb:Hid _:=hTb
 go_enter Tryz.func151,Tryz.ntmps151
 go_wp2
 go_region_with ((go_at_call 159;refine (FQ.out _).mono ?_;rintro r w1 ⟨rfl,rfl⟩))
 all_goals
  go_wp2
  refine bodyPost_ret (results_none rfl _ _ _) rfl ?_
  refine ⟨rfl,⟨?_,(Fr1.set (Fr1.refl x _) _ _).drewN 1,cell_set_other _ _ _ _ _ (by omega)⟩⟩
  rw[HLB.out,u8_or_nat z q hz1 hq1]
  exact (H0.out.setRow A hlt _ (Nat.or_lt_two_pow (n:=8) hz1 hq1)).kept ((Kept.refl _).drewN 1)
theorem layS_high_b (x N cnt W H D K L i v:Nat) (o:List Int) (row abv:Nat→Nat) (w:World) (h:LwB w x N cnt W H D K L o row abv) (hk:legal K D) (hi:i*D / 8<128) (hv1:v<65536) (hD8:¬ D<16) :
  Calls Tryz.prog 151 #[.pointer (some ⟨x,0,none⟩),.int .i64 (i:Int),.int .i64 (v:Int)] w fun r w'=>r = .returned (.tuple #[])∧LxB x N cnt W H D K L o (laySB D row i v) abv w w':=by
 have HLB:Hid (laySB D row i v=upd (upd row (i*D / 8) (v / 256)) (i*D / 8+1) (v % 256)):=by show laySB D row i v=_;unfold laySB;rw[if_neg hD8]
 generalize laySB D row i v=RW at *
 have c2:=h.c2
 have H0:Hid (LwB w x N cnt W H D K L o row abv):=h
 have hD:=hk.d
 have hTb:i*D≤65536:=by omega
 have e1:(i:Int)*(D:Int)=((i*D:Nat):Int):=by simp
 generalize i*D=T at *
 obtain ⟨A,hA⟩:∃ A,A=T / 8:=⟨_,rfl⟩
 have e2:(T:Int) / 8=(A:Int):=by omega
 have hAb:A≤8192:=by omega
 have a0:(0:Int)≤(A:Int):=by omega
 have hT0:(0:Int)≤(T:Int):=by omega
 have hlt:A<128:=by omega
 rw[← hA] at HLB
 clear hA hk
 have hD16:D=16:=by omega
 subst hD16
 have e1':(i:Int)*16=(T:Int):=by omega
 have c2':w.cell? ⟨x,2,none⟩=some (.int .i64 16):=c2
 clear e1 c2 hD hD8
 have a1:(A:Int)<128:=by omega
 have hz:=h.rowc A hlt
 have hfA:=h.fz (7+A)
 have hA1:A+1<128:=by omega
 have a2:(A:Int)+1<128:=by omega
 have hy:=h.rowc (A+1) hA1
 have hfB:=h.fz (7+(A+1))
 generalize row A=z at hz
 generalize row (A+1)=y at hy
 clear h
 go_enter Tryz.func151,Tryz.ntmps151
 go_wp2
 go_end0
 refine ⟨rfl,⟨?_,Fr1.set (Fr1.set (Fr1.refl x _) _ _) _ _,(cell_set_other _ _ _ _ _ (by omega)).trans (cell_set_other _ _ _ _ _ (by omega))⟩⟩
 rw[HLB.out]
 have h5:=(H0.out.setRow A hlt (v / 256) (by omega)).setRow (A+1) hA1 (v % 256) (by omega)
 rw[show ((v / 256:Nat):Int)=(v:Int) / 256 from by omega,show ((v % 256:Nat):Int)=(v:Int) % 256 from by omega] at h5
 exact h5
theorem layS_b (x N cnt W H D K L i v:Nat) (o:List Int) (row abv:Nat→Nat) (w:World) (h:LwB w x N cnt W H D K L o row abv) (hk:legal K D) (hi:i*D / 8<128) (hv1:v<65536) :
  Calls Tryz.prog 151 #[.pointer (some ⟨x,0,none⟩),.int .i64 (i:Int),.int .i64 (v:Int)] w fun r w'=>r = .returned (.tuple #[])∧LxB x N cnt W H D K L o (laySB D row i v) abv w w':=by
 by_cases hD:D<16
 ·refine layS_low_b x N cnt W H D K L i v o row abv w h hk hi hv1 hD ?_
  have:=hk.d
  rcases this with rfl | rfl | rfl | rfl | rfl<;>omega
 ·exact layS_high_b x N cnt W H D K L i v o row abv w h hk hi hv1 hD
end Go.Proofs.YtmbmecfodigciaaGreatDoor
namespace Go.Proofs.YtmbmecfodigciaaGreatDoor
open Go.RowKit
set_option linter.unusedSimpArgs false
set_option linter.unusedVariables false
end Go.Proofs.YtmbmecfodigciaaGreatDoor
namespace Go.Proofs.YtmbmecfodigciaaGreatDoor
open Go.RowKit Px
set_option linter.unusedSimpArgs false
set_option linter.unusedVariables false
def stpB (K D:Nat):Nat:=if 1<chan K*D / 8 then chan K*D / 8 else 1
def gssB (K D f:Nat) (row abv:Nat→Nat) (i:Nat):Nat:=gss f (if stpB K D≤i then row (i - stpB K D) else 0) (abv i) (if stpB K D≤i then abv (i - stpB K D) else 0)
theorem guess_b (x N cnt W H D K L f i:Nat) (o:List Int) (row abv:Nat→Nat) (w:World) (h:LwB w x N cnt W H D K L o row abv) (hk:legal K D) (hf:f≤4) (hi:i<128) :
  Calls Tryz.prog 152 #[.pointer (some ⟨x,0,none⟩),.int .u8 (f:Int),.int .i64 (i:Int)] w fun r w'=>r = .returned (.int .u8 (gssB K D f row abv i:Int))∧Kept w w':=by
 have F1:Hid (∀ W',Kept w W'→Calls Tryz.prog 130 #[.pointer (some ⟨x,0,none⟩)] W' fun r w'=>r = .returned (.int .i64 ((chan K*D:Nat):Int))∧Kept W' w'):=fun W' hK=>pbits_any x N o.length cnt W H D K L W' (h.kept hK).at' hk
 have F2:Hid (∀ (W':World) (l u c:Nat),l<256→u<256→c<256→Calls Tryz.prog 160 #[.int .u8 (f:Int),.int .u8 (l:Int),.int .u8 (u:Int),.int .u8 (c:Int)] W' fun r w'=>r = .returned (.int .u8 (gss f l u c:Int))∧w'=W'):=fun W' l u c hl hu hc=>gss_x f l u c W' (by omega) hl hu hc
 have HG:Hid (gssB K D f row abv i=gss f (if stpB K D≤i then row (i - stpB K D) else 0) (abv i) (if stpB K D≤i then abv (i - stpB K D) else 0)):=rfl
 generalize gssB K D f row abv i=GG at *
 have HS:Hid (stpB K D=if 1<chan K*D / 8 then chan K*D / 8 else 1):=rfl
 generalize stpB K D=st at *
 have hPb:chan K*D≤64:=Nat.le_trans (Nat.mul_le_mul (@chan_le K).2 (show D≤16 by have:=hk.d;omega)) (by decide)
 have H0:Hid (LwB w x N cnt W H D K L o row abv):=h
 have hu:=h.abvc i hi
 have u1:=h.ab i
 generalize abv i=u at hu u1 HG
 generalize chan K*D=P at *
 have i0:(0:Int)≤(i:Int):=by omega
 have i1:(i:Int)<128:=by omega
 have hxs:x<w.heap.size:=World.block_lt_of_cell? _ _ hu
 clear h hk
 obtain ⟨Q,hQ⟩:∃ Q,Q=P / 8:=⟨_,rfl⟩
 have eQ:(P:Int) / 8=(Q:Int):=by omega
 have hQb:(Q:Int)≤8:=by omega
 rw[← hQ] at HS
 clear hQ
 go_enter Tryz.func152,Tryz.ntmps152
 go_wp2_with fail
 refine (F1.out _ (Kept.refl _)).mono ?_
 rintro r w1 ⟨rfl,hk1⟩
 by_cases hq:1<Q
 ·have hq':(1:Int)<(Q:Int):=by omega
  by_cases hb:Q≤i
  ·have hst:st=Q:=by have:=HS.out;simp only [if_pos hq] at this;exact this
   have hl:=H0.out.rowc (i - Q) (by omega)
   have hc:=H0.out.abvc (i - Q) (by omega)
   have l1:=H0.out.rb (i - Q)
   have c1:=H0.out.ab (i - Q)
   have HGE:Hid (GG=gss f (row (i - Q)) u (abv (i - Q))):=by show GG=_;rw[HG.out,hst,if_pos hb,if_pos hb]
   obtain ⟨l,hle⟩:∃ l,l=row (i - Q):=⟨_,rfl⟩
   obtain ⟨c,hce⟩:∃ c,c=abv (i - Q):=⟨_,rfl⟩
   rw[← hle,← hce] at HGE
   rw[← hle] at hl l1
   rw[← hce] at hc c1
   clear hle hce hst
   have hl1:=(hk1.cell (p:=⟨x,7+(i - Q),none⟩) hxs).trans hl
   have hc1:=(hk1.cell (p:=⟨x,135+(i - Q),none⟩) hxs).trans hc
   have hu1:=(hk1.cell (p:=⟨x,135+i,none⟩) hxs).trans hu
   replace hk1:Hid (Kept w w1):=hk1
   clear hl hc hu
   obtain ⟨J,hJ⟩:∃ J,J=i - Q:=⟨_,rfl⟩
   rw[← hJ] at hl1 hc1
   have eS:(i:Int) - (Q:Int)=(J:Int):=by omega
   have j0:(0:Int)≤(J:Int):=by omega
   have j1:(J:Int)<128:=by omega
   clear hJ
   go_wp2_with fail
   refine (F2.out _ l u c l1 u1 c1).mono ?_
   rintro r w2 ⟨rfl,rfl⟩
   rw[← HGE.out]
   go_wp2
   go_ret
   exact ⟨rfl,hk1.out⟩
  ·have hst:st=Q:=by have:=HS.out;simp only [if_pos hq] at this;exact this
   have HGE:Hid (GG=gss f 0 u 0):=by show GG=_;rw[HG.out,hst,if_neg hb,if_neg hb]
   clear hst
   have hu1:=(hk1.cell (p:=⟨x,135+i,none⟩) hxs).trans hu
   replace hk1:Hid (Kept w w1):=hk1
   clear hu
   have hb':¬ (0:Int)≤(i:Int) - (Q:Int):=by omega
   go_wp2_with fail
   refine (F2.out _ 0 u 0 (by omega) u1 (by omega)).mono ?_
   rintro r w2 ⟨rfl,rfl⟩
   rw[← HGE.out]
   go_wp2
   go_ret
   exact ⟨rfl,hk1.out⟩
 ·have hq':(Q:Int)≤1:=by omega
  by_cases hb:1≤i
  ·have hst:st=1:=by have:=HS.out;simp only [if_neg hq] at this;exact this
   have hl:=H0.out.rowc (i - 1) (by omega)
   have hc:=H0.out.abvc (i - 1) (by omega)
   have l1:=H0.out.rb (i - 1)
   have c1:=H0.out.ab (i - 1)
   have HGE:Hid (GG=gss f (row (i - 1)) u (abv (i - 1))):=by show GG=_;rw[HG.out,hst,if_pos hb,if_pos hb]
   obtain ⟨l,hle⟩:∃ l,l=row (i - 1):=⟨_,rfl⟩
   obtain ⟨c,hce⟩:∃ c,c=abv (i - 1):=⟨_,rfl⟩
   rw[← hle,← hce] at HGE
   rw[← hle] at hl l1
   rw[← hce] at hc c1
   clear hle hce hst
   have hl1:=(hk1.cell (p:=⟨x,7+(i - 1),none⟩) hxs).trans hl
   have hc1:=(hk1.cell (p:=⟨x,135+(i - 1),none⟩) hxs).trans hc
   have hu1:=(hk1.cell (p:=⟨x,135+i,none⟩) hxs).trans hu
   replace hk1:Hid (Kept w w1):=hk1
   clear hl hc hu
   obtain ⟨J,hJ⟩:∃ J,J=i - 1:=⟨_,rfl⟩
   rw[← hJ] at hl1 hc1
   have eS:(i:Int) - 1=(J:Int):=by omega
   have j0:(0:Int)≤(J:Int):=by omega
   have j1:(J:Int)<128:=by omega
   clear hJ
   go_wp2_with fail
   refine (F2.out _ l u c l1 u1 c1).mono ?_
   rintro r w2 ⟨rfl,rfl⟩
   rw[← HGE.out]
   go_wp2
   go_ret
   exact ⟨rfl,hk1.out⟩
  ·have hst:st=1:=by have:=HS.out;simp only [if_neg hq] at this;exact this
   have HGE:Hid (GG=gss f 0 u 0):=by show GG=_;rw[HG.out,hst,if_neg hb,if_neg hb]
   clear hst
   have hu1:=(hk1.cell (p:=⟨x,135+i,none⟩) hxs).trans hu
   replace hk1:Hid (Kept w w1):=hk1
   clear hu
   have hb':¬ (0:Int)≤(i:Int) - 1:=by omega
   go_wp2_with fail
   refine (F2.out _ 0 u 0 (by omega) u1 (by omega)).mono ?_
   rintro r w2 ⟨rfl,rfl⟩
   rw[← HGE.out]
   go_wp2
   go_ret
   exact ⟨rfl,hk1.out⟩
end Go.Proofs.YtmbmecfodigciaaGreatDoor
