import Derived.Test.YthniahejjamhgaaGreatDoorRoY1
import Derived.Test.YthniahejjamhgaaGreatDoorRoP1
import Derived.Test.YthniahejjamhgaaGreatDoorRoL1
import Derived.Test.YthniahejjamhgaaGreatDoorRoY7
set_option maxRecDepth 100000
set_option maxHeartbeats 6400000
namespace Go.Proofs.YthniahejjamhgaaGreatDoor
open Go.RowKit Px
set_option linter.unusedSimpArgs false
set_option linter.unusedVariables false
theorem u8_or_nat (a b:Nat) (ha:a<256) (hb:b<256):bits .or .u8 (a:Int) (b:Int)=((a ||| b:Nat):Int):=by
 have hx:a ||| b<2^8:=Nat.or_lt_two_pow (by omega) (by omega)
 show IntKind.u8.wrap ((BitVec.ofInt 8 (a:Int) ||| BitVec.ofInt 8 (b:Int)).toNat:Int)=_
 have e1:(BitVec.ofInt 8 (a:Int)).toNat=a:=by rw[BitVec.ofInt_natCast,BitVec.toNat_ofNat];exact Nat.mod_eq_of_lt (by omega)
 have e2:(BitVec.ofInt 8 (b:Int)).toNat=b:=by rw[BitVec.ofInt_natCast,BitVec.toNat_ofNat];exact Nat.mod_eq_of_lt (by omega)
 rw[BitVec.toNat_or,e1,e2,IntKind.wrap_u8];omega
structure LwB (w:World) (x N cnt W H D K L:Nat) (o:List Int) (row abv:Nat->Nat):Prop where
 lt:x<N
 size:N<=w.heap.size
 fz:∀ k,w.frozen? ⟨x,k,none⟩=false
 c0:w.cell? ⟨x,0,none⟩=some (.int .i64 (W:Int))
 c1:w.cell? ⟨x,1,none⟩=some (.int .i64 (H:Int))
 c2:w.cell? ⟨x,2,none⟩=some (.int .i64 (D:Int))
 c3:w.cell? ⟨x,3,none⟩=some (.int .i64 (K:Int))
 c4:w.cell? ⟨x,4,none⟩=some (.int .i64 (L:Int))
 out:∃ ov,w.cell? ⟨x,5,none⟩=some ov/\OwnB w N ov o
 cn:w.cell? ⟨x,6,none⟩=some (.int .i64 (cnt:Int))
 rowc:∀ j,j<128->w.cell? ⟨x,7+j,none⟩=some (.int .u8 (row j:Int))
 abvc:∀ j,j<128->w.cell? ⟨x,135+j,none⟩=some (.int .u8 (abv j:Int))
 rb:∀ j,row j<256
 ab:∀ j,abv j<256
theorem LwB.at' {w:World} {x N cnt W H D K L:Nat} {o:List Int} {row abv:Nat->Nat} (h:LwB w x N cnt W H D K L o row abv):LwAt w x N o.length cnt W H D K L:=by
 obtain ⟨h1,h2,h3,a0,a1,a2,a3,a4,⟨ov,b1,b2⟩,a6,r1,r2,r3,r4⟩:=h;exact ⟨h1,h2,h3,a0,a1,a2,a3,a4,⟨ov,b1,b2.own8⟩,a6,fun j hj=>⟨row j,by omega,by have:=r3 j;omega,r1 j hj⟩,fun j hj=>⟨abv j,by omega,by have:=r4 j;omega,r2 j hj⟩⟩
theorem LwB.kept {w w':World} {x N cnt W H D K L:Nat} {o:List Int} {row abv:Nat->Nat} (h:LwB w x N cnt W H D K L o row abv) (k:Kept w w'):LwB w' x N cnt W H D K L o row abv:=by
 obtain ⟨h1,h2,h3,a0,a1,a2,a3,a4,⟨ov,b1,b2⟩,a6,r1,r2,r3,r4⟩:=h;have hx:x<w.heap.size:=by omega
 have e:∀ j,w'.cell? ⟨x,j,none⟩=w.cell? ⟨x,j,none⟩:=fun j=>k.cell (p:=⟨x,j,none⟩) hx
 exact ⟨h1,Nat.le_trans h2 k.size,fun j=>(k.frozen (p:=⟨x,j,none⟩) hx).trans (h3 j),(e 0).trans a0,(e 1).trans a1,(e 2).trans a2,(e 3).trans a3,(e 4).trans a4,⟨ov,(e 5).trans b1,b2.kept k⟩,(e 6).trans a6,fun j hj=>(e _).trans (r1 j hj),fun j hj=>(e _).trans (r2 j hj),r3,r4⟩
theorem LwB.setRow {w:World} {x N cnt W H D K L:Nat} {o:List Int} {row abv:Nat->Nat} (h:LwB w x N cnt W H D K L o row abv) (i:Nat) (hi:i<128) (z:Nat) (hz:z<256):LwB (w.setCell ⟨x,7+i,none⟩ (.int .u8 (z:Int))) x N cnt W H D K L o (upd row i z) abv:=by
 obtain ⟨h1',h2,h3,a0,a1,a2,a3,a4,⟨ov,b1,b2⟩,a6,r1,r2,r3,r4⟩:=h;have e:∀ j,j≠7+i->(w.setCell ⟨x,7+i,none⟩ (.int .u8 (z:Int))).cell? ⟨x,j,none⟩=w.cell? ⟨x,j,none⟩:=fun j hj=>cell_set_other _ _ _ _ _ (by omega)
 refine ⟨h1',by rw[show (w.setCell ⟨x,7+i,none⟩ (.int .u8 (z:Int))).heap.size=w.heap.size by simp [World.setCell]];exact h2,fun k=>by rw[World.frozen?_setCell];exact h3 k,(e 0 (by omega)).trans a0,(e 1 (by omega)).trans a1,(e 2 (by omega)).trans a2,(e 3 (by omega)).trans a3,(e 4 (by omega)).trans a4,⟨ov,(e 5 (by omega)).trans b1,b2.set h1' _ _⟩,(e 6 (by omega)).trans a6,?_,fun j hj=>(e _ (by omega)).trans (r2 j hj),?_,r4⟩
 ·intro j hj
  by_cases hji:j=i
  ·subst hji;rw[upd_same];exact cell_set_same (r1 j hj) _
  ·rw[upd_ne _ _ _ hji];exact (e _ (by omega)).trans (r1 j hj)
 ·intro j
  by_cases hji:j=i
  ·subst hji;rw[upd_same];exact hz
  ·rw[upd_ne _ _ _ hji];exact r3 j
structure LxB (x N cnt W H D K L:Nat) (o:List Int) (row abv:Nat->Nat) (w w':World):Prop where
 lw:LwB w' x N cnt W H D K L o row abv
 fr:Fr1 x w w'
 c5:w'.cell? ⟨x,5,none⟩=w.cell? ⟨x,5,none⟩
theorem LxB.trans {x N cnt cnt' W H D K L:Nat} {o o':List Int} {row abv row' abv':Nat->Nat} {a b c:World} (h:LxB x N cnt W H D K L o row abv a b) (k:LxB x N cnt' W H D K L o' row' abv' b c):LxB x N cnt' W H D K L o' row' abv' a c:=⟨k.lw,h.fr.trans k.fr,k.c5.trans h.c5⟩
theorem LxB.refl {x N cnt W H D K L:Nat} {o:List Int} {row abv:Nat->Nat} {a:World} (h:LwB a x N cnt W H D K L o row abv):LxB x N cnt W H D K L o row abv a a:=⟨h,Fr.refl _ _,rfl⟩
theorem LxB.kept {x N cnt W H D K L:Nat} {o:List Int} {row abv:Nat->Nat} {a b c:World} (h:LxB x N cnt W H D K L o row abv a b) (k:Kept b c):LxB x N cnt W H D K L o row abv a c:=⟨h.lw.kept k,h.fr.kept k,(k.cell (p:=⟨x,5,none⟩) (Nat.lt_of_lt_of_le h.lw.lt h.lw.size)).trans h.c5⟩
theorem LxB.drewN {x N cnt W H D K L:Nat} {o:List Int} {row abv:Nat->Nat} {a b:World} (h:LxB x N cnt W H D K L o row abv a b) (k:Nat):LxB x N cnt W H D K L o row abv a (b.drewN k):=h.kept ((Kept.refl _).drewN k)
theorem shifted_b (v n:Nat) (w:World) (hn:n<=8) (hv:v<65536) :
  Calls Tryz.prog 149 #[.int .i64 (v:Int),.int .i64 (n:Int)] w fun r w'=>r = .returned (.int .u8 ((v*2^n % 256:Nat):Int))/\w'=w:=by
 have hE:Hid (((v:Int) % 256*2^n) % 256=((v*2^n % 256:Nat):Int)):=by
  show ((v:Int) % 256*2^n) % 256=_
  rw[Int.mul_emod,Int.emod_emod,<- Int.mul_emod];simp
 go_enter Tryz.func149,Tryz.ntmps149;have hn':(n:Int)<=8:=by omega
 go_wp2;go_ret;refine ⟨?_,rfl⟩;rw[<- hE.out];rfl
def laySB (D:Nat) (row:Nat->Nat) (i v:Nat):Nat->Nat:=
 if D<16 then upd row (i*D / 8) (row (i*D / 8) ||| v*2^(8 - i*D % 8 - D) % 256) else upd (upd row (i*D / 8) (v / 256)) (i*D / 8+1) (v % 256)
theorem layS_low_b (x N cnt W H D K L i v:Nat) (o:List Int) (row abv:Nat->Nat) (w:World) (h:LwB w x N cnt W H D K L o row abv) (hk:legal K D) (hi:i*D / 8<128) (hv1:v<65536) (hD8:D<16) (hfit:i*D % 8+D<=8) :
  Calls Tryz.prog 129 #[.pointer (some ⟨x,0,none⟩),.int .i64 (i:Int),.int .i64 (v:Int)] w fun r w'=>r = .returned (.tuple #[])/\LxB x N cnt W H D K L o (laySB D row i v) abv w w':=by
 have F:Hid (∀ (W:World) (n:Nat),n<=8->Calls Tryz.prog 149 #[.int .i64 (v:Int),.int .i64 (n:Int)] W fun r w'=>r = .returned (.int .u8 ((v*2^n % 256:Nat):Int))/\w'=W):=fun W n h0=>shifted_b v n W h0 hv1
 have HLB:Hid (laySB D row i v=upd row (i*D / 8) (row (i*D / 8) ||| v*2^(8 - i*D % 8 - D) % 256)):=by show laySB D row i v=_;unfold laySB;rw[if_pos hD8]
 generalize laySB D row i v=RW at *;have c2:=h.c2;have H0:Hid (LwB w x N cnt W H D K L o row abv):=h;have hD:=hk.d;have hTb:i*D<=65536:=by omega
 have e1:(i:Int)*(D:Int)=((i*D:Nat):Int):=by simp
 generalize i*D=T at *;obtain ⟨A,hA⟩:∃ A,A=T / 8:=⟨_,rfl⟩;have e2:(T:Int) / 8=(A:Int):=by omega
 have hAb:A<=8192:=by omega
 have a0:(0:Int)<=(A:Int):=by omega
 have hT0:(0:Int)<=(T:Int):=by omega
 have hlt:A<128:=by omega
 rw[<- hA] at HLB;replace hA:Hid _:=hA;clear hk;have a1:(A:Int)<128:=by omega
 have hz:=h.rowc A hlt;have hz1:=h.rb A;have hfA:=h.fz (7+A);have hD':(D:Int)<16:=by omega
 obtain ⟨M,hM⟩:∃ M,M=T % 8:=⟨_,rfl⟩;rw[<- hM] at HLB hfit;have e3:(T:Int).tmod 8=(M:Int):=by rw[Int.tmod_eq_emod_of_nonneg hT0];omega
 have hMb:(M:Int)<=7:=by omega
 have w1:IntKind.i64.wrap (8 - (M:Int))=8 - (M:Int):=wrapZ _ (by omega) (by omega);have w2:IntKind.i64.wrap (8 - (M:Int) - (D:Int))=((8 - M - D:Nat):Int):=by rw[wrapZ _ (by omega) (by omega)];omega
 have FA:Hid _:=F.out;have hq1:v*2^(8 - M - D) % 256<256:=Nat.mod_lt _ (by omega);have FQ:=fun W'=>F.out W' (8 - M - D) (by omega)
 obtain ⟨q,hq⟩:∃ q,q=v*2^(8 - M - D) % 256:=⟨_,rfl⟩;rw[<- hq] at FQ hq1 HLB;obtain ⟨E,hE⟩:∃ E,E=8 - M - D:=⟨_,rfl⟩;rw[<- hE] at w2 FQ;replace FQ:Hid (∀ W:World,Calls Tryz.prog 149 #[.int .i64 (v:Int),.int .i64 (E:Int)] W fun r w'=>r = .returned (.int .u8 (q:Int))/\w'=W):=FQ;obtain ⟨z,hzz⟩:∃ z,z=row A:=⟨_,rfl⟩;rw[<- hzz] at hz hz1 HLB;clear h hD hM F FA hq hE hzz;replace hTb:Hid _:=hTb;go_enter Tryz.func129,Tryz.ntmps129;go_wp2;go_region_with ((go_at_call 149;refine (FQ.out _).mono ?_;rintro r w1 ⟨rfl,rfl⟩))
 all_goals
  go_wp2;refine bodyPost_ret (results_none rfl _ _ _) rfl ?_;refine ⟨rfl,⟨?_,(Fr1.set (Fr1.refl x _) _ _).drewN 1,cell_set_other _ _ _ _ _ (by omega)⟩⟩;rw[HLB.out,u8_or_nat z q hz1 hq1];exact (H0.out.setRow A hlt _ (Nat.or_lt_two_pow (n:=8) hz1 hq1)).kept ((Kept.refl _).drewN 1)
theorem layS_high_b (x N cnt W H D K L i v:Nat) (o:List Int) (row abv:Nat->Nat) (w:World) (h:LwB w x N cnt W H D K L o row abv) (hk:legal K D) (hi:i*D / 8<128) (hv1:v<65536) (hD8:¬ D<16) :
  Calls Tryz.prog 129 #[.pointer (some ⟨x,0,none⟩),.int .i64 (i:Int),.int .i64 (v:Int)] w fun r w'=>r = .returned (.tuple #[])/\LxB x N cnt W H D K L o (laySB D row i v) abv w w':=by
 have HLB:Hid (laySB D row i v=upd (upd row (i*D / 8) (v / 256)) (i*D / 8+1) (v % 256)):=by show laySB D row i v=_;unfold laySB;rw[if_neg hD8]
 generalize laySB D row i v=RW at *;have c2:=h.c2;have H0:Hid (LwB w x N cnt W H D K L o row abv):=h;have hD:=hk.d;have hTb:i*D<=65536:=by omega
 have e1:(i:Int)*(D:Int)=((i*D:Nat):Int):=by simp
 generalize i*D=T at *;obtain ⟨A,hA⟩:∃ A,A=T / 8:=⟨_,rfl⟩;have e2:(T:Int) / 8=(A:Int):=by omega
 have hAb:A<=8192:=by omega
 have a0:(0:Int)<=(A:Int):=by omega
 have hT0:(0:Int)<=(T:Int):=by omega
 have hlt:A<128:=by omega
 rw[<- hA] at HLB;clear hA hk;have hD16:D=16:=by omega
 subst hD16;have e1':(i:Int)*16=(T:Int):=by omega
 have c2':w.cell? ⟨x,2,none⟩=some (.int .i64 16):=c2;clear e1 c2 hD hD8;have a1:(A:Int)<128:=by omega
 have hz:=h.rowc A hlt;have hfA:=h.fz (7+A);have hA1:A+1<128:=by omega
 have a2:(A:Int)+1<128:=by omega
 have hy:=h.rowc (A+1) hA1;have hfB:=h.fz (7+(A+1));generalize row A=z at hz;generalize row (A+1)=y at hy;clear h;go_enter Tryz.func129,Tryz.ntmps129;go_wp2;go_end0
 refine ⟨rfl,⟨?_,Fr1.set (Fr1.set (Fr1.refl x _) _ _) _ _,(cell_set_other _ _ _ _ _ (by omega)).trans (cell_set_other _ _ _ _ _ (by omega))⟩⟩;rw[HLB.out];have h5:=(H0.out.setRow A hlt (v / 256) (by omega)).setRow (A+1) hA1 (v % 256) (by omega);rw[show ((v / 256:Nat):Int)=(v:Int) / 256 from by omega,show ((v % 256:Nat):Int)=(v:Int) % 256 from by omega] at h5;exact h5
theorem layS_b (x N cnt W H D K L i v:Nat) (o:List Int) (row abv:Nat->Nat) (w:World) (h:LwB w x N cnt W H D K L o row abv) (hk:legal K D) (hi:i*D / 8<128) (hv1:v<65536) :
  Calls Tryz.prog 129 #[.pointer (some ⟨x,0,none⟩),.int .i64 (i:Int),.int .i64 (v:Int)] w fun r w'=>r = .returned (.tuple #[])/\LxB x N cnt W H D K L o (laySB D row i v) abv w w':=by
 by_cases hD:D<16
 ·refine layS_low_b x N cnt W H D K L i v o row abv w h hk hi hv1 hD ?_
  have:=hk.d
  rcases this with rfl | rfl | rfl | rfl | rfl<;>omega
 ·exact layS_high_b x N cnt W H D K L i v o row abv w h hk hi hv1 hD
def stpB (K D:Nat):Nat:=if 1<chan K*D / 8 then chan K*D / 8 else 1
def gssB (K D f:Nat) (row abv:Nat->Nat) (i:Nat):Nat:=gss f (if stpB K D<=i then row (i - stpB K D) else 0) (abv i) (if stpB K D<=i then abv (i - stpB K D) else 0)
theorem guess_b (x N cnt W H D K L f i:Nat) (o:List Int) (row abv:Nat->Nat) (w:World) (h:LwB w x N cnt W H D K L o row abv) (hk:legal K D) (hf:f<=4) (hi:i<128) :
  Calls Tryz.prog 130 #[.pointer (some ⟨x,0,none⟩),.int .u8 (f:Int),.int .i64 (i:Int)] w fun r w'=>r = .returned (.int .u8 (gssB K D f row abv i:Int))/\Kept w w':=by
 have F1:Hid (∀ W',Kept w W'->Calls Tryz.prog 95 #[.pointer (some ⟨x,0,none⟩)] W' fun r w'=>r = .returned (.int .i64 ((chan K*D:Nat):Int))/\Kept W' w'):=fun W' hK=>pbits_any x N o.length cnt W H D K L W' (h.kept hK).at' hk
 have F2:Hid (∀ (W':World) (l u c:Nat),l<256->u<256->c<256->Calls Tryz.prog 150 #[.int .u8 (f:Int),.int .u8 (l:Int),.int .u8 (u:Int),.int .u8 (c:Int)] W' fun r w'=>r = .returned (.int .u8 (gss f l u c:Int))/\w'=W'):=fun W' l u c hl hu hc=>gss_x f l u c W' (by omega) hl hu hc
 have HG:Hid (gssB K D f row abv i=gss f (if stpB K D<=i then row (i - stpB K D) else 0) (abv i) (if stpB K D<=i then abv (i - stpB K D) else 0)):=rfl;generalize gssB K D f row abv i=GG at *;have HS:Hid (stpB K D=if 1<chan K*D / 8 then chan K*D / 8 else 1):=rfl;generalize stpB K D=st at *;have hPb:chan K*D<=64:=Nat.le_trans (Nat.mul_le_mul (@chan_le K).2 (show D<=16 by have:=hk.d;omega)) (by decide);have H0:Hid (LwB w x N cnt W H D K L o row abv):=h;have hu:=h.abvc i hi;have u1:=h.ab i;generalize abv i=u at hu u1 HG;generalize chan K*D=P at *;have i0:(0:Int)<=(i:Int):=by omega
 have i1:(i:Int)<128:=by omega
 have hxs:x<w.heap.size:=World.block_lt_of_cell? _ _ hu;clear h hk;obtain ⟨Q,hQ⟩:∃ Q,Q=P / 8:=⟨_,rfl⟩;have eQ:(P:Int) / 8=(Q:Int):=by omega
 have hQb:(Q:Int)<=8:=by omega
 rw[<- hQ] at HS;clear hQ;go_enter Tryz.func130,Tryz.ntmps130;go_wp2_with fail;refine (F1.out _ (Kept.refl _)).mono ?_;rintro r w1 ⟨rfl,hk1⟩;by_cases hq:1<Q
 ·have hq':(1:Int)<(Q:Int):=by omega
  by_cases hb:Q<=i
  ·have hst:st=Q:=by have:=HS.out;simp only [if_pos hq] at this;exact this
   have hl:=H0.out.rowc (i - Q) (by omega);have hc:=H0.out.abvc (i - Q) (by omega);have l1:=H0.out.rb (i - Q);have c1:=H0.out.ab (i - Q);have HGE:Hid (GG=gss f (row (i - Q)) u (abv (i - Q))):=by show GG=_;rw[HG.out,hst,if_pos hb,if_pos hb]
   obtain ⟨l,hle⟩:∃ l,l=row (i - Q):=⟨_,rfl⟩;obtain ⟨c,hce⟩:∃ c,c=abv (i - Q):=⟨_,rfl⟩;rw[<- hle,<- hce] at HGE;rw[<- hle] at hl l1;rw[<- hce] at hc c1;clear hle hce hst;have hl1:=(hk1.cell (p:=⟨x,7+(i - Q),none⟩) hxs).trans hl;have hc1:=(hk1.cell (p:=⟨x,135+(i - Q),none⟩) hxs).trans hc;have hu1:=(hk1.cell (p:=⟨x,135+i,none⟩) hxs).trans hu;replace hk1:Hid (Kept w w1):=hk1;clear hl hc hu;obtain ⟨J,hJ⟩:∃ J,J=i - Q:=⟨_,rfl⟩;rw[<- hJ] at hl1 hc1;have eS:(i:Int) - (Q:Int)=(J:Int):=by omega
   have j0:(0:Int)<=(J:Int):=by omega
   have j1:(J:Int)<128:=by omega
   clear hJ;go_wp2_with fail;refine (F2.out _ l u c l1 u1 c1).mono ?_;rintro r w2 ⟨rfl,rfl⟩;rw[<- HGE.out];go_wp2;go_ret;exact ⟨rfl,hk1.out⟩
  ·have hst:st=Q:=by have:=HS.out;simp only [if_pos hq] at this;exact this
   have HGE:Hid (GG=gss f 0 u 0):=by show GG=_;rw[HG.out,hst,if_neg hb,if_neg hb]
   clear hst;have hu1:=(hk1.cell (p:=⟨x,135+i,none⟩) hxs).trans hu;replace hk1:Hid (Kept w w1):=hk1;clear hu;have hb':¬ (0:Int)<=(i:Int) - (Q:Int):=by omega
   go_wp2_with fail;refine (F2.out _ 0 u 0 (by omega) u1 (by omega)).mono ?_;rintro r w2 ⟨rfl,rfl⟩;rw[<- HGE.out];go_wp2;go_ret;exact ⟨rfl,hk1.out⟩
 ·have hq':(Q:Int)<=1:=by omega
  by_cases hb:1<=i
  ·have hst:st=1:=by have:=HS.out;simp only [if_neg hq] at this;exact this
   have hl:=H0.out.rowc (i - 1) (by omega);have hc:=H0.out.abvc (i - 1) (by omega);have l1:=H0.out.rb (i - 1);have c1:=H0.out.ab (i - 1);have HGE:Hid (GG=gss f (row (i - 1)) u (abv (i - 1))):=by show GG=_;rw[HG.out,hst,if_pos hb,if_pos hb]
   obtain ⟨l,hle⟩:∃ l,l=row (i - 1):=⟨_,rfl⟩;obtain ⟨c,hce⟩:∃ c,c=abv (i - 1):=⟨_,rfl⟩;rw[<- hle,<- hce] at HGE;rw[<- hle] at hl l1;rw[<- hce] at hc c1;clear hle hce hst;have hl1:=(hk1.cell (p:=⟨x,7+(i - 1),none⟩) hxs).trans hl;have hc1:=(hk1.cell (p:=⟨x,135+(i - 1),none⟩) hxs).trans hc;have hu1:=(hk1.cell (p:=⟨x,135+i,none⟩) hxs).trans hu;replace hk1:Hid (Kept w w1):=hk1;clear hl hc hu;obtain ⟨J,hJ⟩:∃ J,J=i - 1:=⟨_,rfl⟩;rw[<- hJ] at hl1 hc1;have eS:(i:Int) - 1=(J:Int):=by omega
   have j0:(0:Int)<=(J:Int):=by omega
   have j1:(J:Int)<128:=by omega
   clear hJ;go_wp2_with fail;refine (F2.out _ l u c l1 u1 c1).mono ?_;rintro r w2 ⟨rfl,rfl⟩;rw[<- HGE.out];go_wp2;go_ret;exact ⟨rfl,hk1.out⟩
  ·have hst:st=1:=by have:=HS.out;simp only [if_neg hq] at this;exact this
   have HGE:Hid (GG=gss f 0 u 0):=by show GG=_;rw[HG.out,hst,if_neg hb,if_neg hb]
   clear hst;have hu1:=(hk1.cell (p:=⟨x,135+i,none⟩) hxs).trans hu;replace hk1:Hid (Kept w w1):=hk1;clear hu;have hb':¬ (0:Int)<=(i:Int) - 1:=by omega
   go_wp2_with fail;refine (F2.out _ 0 u 0 (by omega) u1 (by omega)).mono ?_;rintro r w2 ⟨rfl,rfl⟩;rw[<- HGE.out];go_wp2;go_ret;exact ⟨rfl,hk1.out⟩
theorem setCells_own {w:World} {x N:Nat} {v:Value} {l:List Int} (h:OwnB w N v l) (h1:x<N):∀ (vs:List Value) (o:Nat),OwnB (w.setCells x o vs) N v l:=by
 intro vs
 induction vs generalizing w with
 | nil=>intro o;exact h
 | cons u r ih=>intro o;exact ih (h.set h1 _ _) (o+1)
theorem LwB.lay {w:World} {x N cnt W H D K L:Nat} {o:List Int} {row abv:Nat->Nat} (h:LwB w x N cnt W H D K L o row abv) (cs:List Value) (f:Nat->Nat) (hl:cs.length=128) (hz:∀ j,j<128->cs[j]? = some (.int .u8 (f j:Int))) (hf:∀ j,f j<256):LwB (w.setCells x 7 cs) x N cnt W H D K L o f abv:=by
 obtain ⟨h1,h2,h3,a0,a1,a2,a3,a4,⟨ov,b1,b2⟩,a6,r1,r2,r3,r4⟩:=h;have e:∀ j,(j<7\/7+128<=j)->(w.setCells x 7 cs).cell? ⟨x,j,none⟩=w.cell? ⟨x,j,none⟩:=fun j hj=>World.cell?_setCells_out x cs 7 w ⟨x,j,none⟩ (fun _ _=>by rw[hl];exact hj)
 have hth:w.there x 7 cs.length:=by
  intro j hj;rw[hl] at hj;exact ⟨by rw[r1 j hj];rfl,h3 _⟩
 exact ⟨h1,by rw[setCells_size];exact h2,fun k=>by rw[World.frozen?_setCells];exact h3 k,(e 0 (by omega)).trans a0,(e 1 (by omega)).trans a1,(e 2 (by omega)).trans a2,(e 3 (by omega)).trans a3,(e 4 (by omega)).trans a4,⟨ov,(e 5 (by omega)).trans b1,setCells_own b2 h1 _ _⟩,(e 6 (by omega)).trans a6,fun j hj=>World.rangeAt_setCells_same _ _ _ _ hth j _ (hz j hj),fun j hj=>(e _ (by omega)).trans (r2 j hj),hf,r4⟩
theorem LwB.layA {w:World} {x N cnt W H D K L:Nat} {o:List Int} {row abv:Nat->Nat} (h:LwB w x N cnt W H D K L o row abv) (cs:List Value) (f:Nat->Nat) (hl:cs.length=128) (hz:∀ j,j<128->cs[j]? = some (.int .u8 (f j:Int))) (hf:∀ j,f j<256):LwB (w.setCells x 135 cs) x N cnt W H D K L o row f:=by
 obtain ⟨h1,h2,h3,a0,a1,a2,a3,a4,⟨ov,b1,b2⟩,a6,r1,r2,r3,r4⟩:=h;have e:∀ j,(j<135\/135+128<=j)->(w.setCells x 135 cs).cell? ⟨x,j,none⟩=w.cell? ⟨x,j,none⟩:=fun j hj=>World.cell?_setCells_out x cs 135 w ⟨x,j,none⟩ (fun _ _=>by rw[hl];exact hj)
 have hth:w.there x 135 cs.length:=by
  intro j hj;rw[hl] at hj;exact ⟨by rw[r2 j hj];rfl,h3 _⟩
 exact ⟨h1,by rw[setCells_size];exact h2,fun k=>by rw[World.frozen?_setCells];exact h3 k,(e 0 (by omega)).trans a0,(e 1 (by omega)).trans a1,(e 2 (by omega)).trans a2,(e 3 (by omega)).trans a3,(e 4 (by omega)).trans a4,⟨ov,(e 5 (by omega)).trans b1,setCells_own b2 h1 _ _⟩,(e 6 (by omega)).trans a6,fun j hj=>(e _ (by omega)).trans (r1 j hj),fun j hj=>World.rangeAt_setCells_same _ _ _ _ hth j _ (hz j hj),r3,hf⟩
theorem zeros128b:∀ j,j<128->(Tryz.zeroCells85).toList[j]? = some (.int .u8 ((0:Nat):Int)):=fun j hj=>by rw[zero128,Array.toList_replicate,List.getElem?_replicate,if_pos hj];rfl
def layKB (D:Nat) (pl:List Int) (A B:Nat) (row:Nat->Nat):Nat->(Nat->Nat)
 | 0=>row
 | k+1=>laySB D (layKB D pl A B row k) (B+k) (pl.getD (A+k) 0).toNat
def layCB (D C:Nat) (pl:List Int) (pos:Nat->Nat):Nat->(Nat->Nat)
 | 0=>fun _=>0
 | c+1=>layKB D pl (pos c) (c*C) (layCB D C pl pos c) C
theorem layRow_b (x N cnt W H D K L f1 s1 f2 s2 i cols:Nat) (b1 b2:Int) (pv:Value) (pl o:List Int) (row abv:Nat->Nat) (w:World) (h:LwB w x N cnt W H D K L o row abv) (hk:legal K D) (hW:W<=16) (hf1:f1<=8) (hs1:s1<=8) (hf2:f2<=8) (hs2:s2<=8) (hi:i<=16) (hc:cols<=16) (hp:LAt w .i64 pv pl) (hpS:∀ g,sliceBlock pv=some g->¬ (g=x\/N<=g)) (hpl:pl.length<=65536) (hpv:∀ y ∈ pl,0<=y/\y<65536) (hin:∀ c k,c<cols->k<chan K->((f2+i*s2)*W+(f1+c*s1))*chan K+k<pl.length) :
  Calls Tryz.prog 96 #[.pointer (some ⟨x,0,none⟩),.agg #[.int .i64 (f1:Int),.int .i64 (s1:Int),.int .i64 b1,.int .i64 (f2:Int),.int .i64 (s2:Int),.int .i64 b2],.int .i64 (i:Int),.int .i64 (cols:Int),pv] w fun r w'=>r = .returned (.tuple #[])/\LxB x N cnt W H D K L o (layCB D (chan K) pl (fun c=>((f2+i*s2)*W+(f1+c*s1))*chan K) cols) abv w w':=by
 obtain ⟨pp,pc,rfl⟩:=hp.form;have H0:Hid (LwB w x N cnt W H D K L o row abv):=h;have F1:Hid (∀ (W':World),Calls Tryz.prog 64 #[.int .i64 (K:Int)] W' fun r w'=>r = .returned (.int .i64 (chan K:Int))/\w'=W'):=fun W'=>samples_any K W' hk.k
 have F2:Hid (∀ (W':World) (f s j:Nat) (b:Int),f<=8->s<=8->j<=16->Calls Tryz.prog 128 #[.agg #[.int .i64 (f:Int),.int .i64 (s:Int),.int .i64 b],.int .i64 (j:Int)] W' fun r w'=>r = .returned (.int .i64 ((f+j*s:Nat):Int))/\Kept W' w'):=fun W' f s j b a1 a2 a3=>place_any f s j b W' a1 a2 a3
 have F3:Hid (∀ (W':World) (R:Nat->Nat) (j v:Nat),LwB W' x N cnt W H D K L o R abv->j*D / 8<128->v<65536->Calls Tryz.prog 129 #[.pointer (some ⟨x,0,none⟩),.int .i64 (j:Int),.int .i64 (v:Int)] W' fun r w'=>r = .returned (.tuple #[])/\LxB x N cnt W H D K L o (laySB D R j v) abv W' w'):=fun W' R j v hW a1 a3=>layS_b x N cnt W H D K L j v o R abv W' hW hk a1 a3
 have HD1:Hid (1<=D):=by have:=hk.d;show 1<=D;omega
 have hCD:chan K*D<=64:=Nat.le_trans (Nat.mul_le_mul (@chan_le K).2 (show D<=16 by have:=hk.d;omega)) (by decide);have hkw:Kept w (w.alloc (Obj.cells #[.int .i64 (f1:Int),.int .i64 (s1:Int),.int .i64 b1,.int .i64 (f2:Int),.int .i64 (s2:Int),.int .i64 b2] 129)):=Below.alloc (Below.refl _ _) (Nat.le_refl _) _;have hth:Hid ((w.alloc (Obj.cells #[.int .i64 (f1:Int),.int .i64 (s1:Int),.int .i64 b1,.int .i64 (f2:Int),.int .i64 (s2:Int),.int .i64 b2] 129)).there x 7 (Tryz.zeroCells85).toList.length):=by
  intro j hj;rw[len128] at hj;have hz:=(h.kept hkw).rowc j hj;exact ⟨by rw[hz];rfl,(h.kept hkw).fz _⟩
 have hsc:(storeCells ⟨x,7,none⟩ (Tryz.zeroCells85).toList).run Tryz.prog (w.alloc (Obj.cells #[.int .i64 (f1:Int),.int .i64 (s1:Int),.int .i64 b1,.int .i64 (f2:Int),.int .i64 (s2:Int),.int .i64 b2] 129)) = .ok () ((w.alloc (Obj.cells #[.int .i64 (f1:Int),.int .i64 (s1:Int),.int .i64 b1,.int .i64 (f2:Int),.int .i64 (s2:Int),.int .i64 b2] 129)).setCells x 7 (Tryz.zeroCells85).toList):=store_there hth.out (ints_one len128 zeros128);have H1:Hid (LxB x N cnt W H D K L o (fun _=>0) abv w ((w.alloc (Obj.cells #[.int .i64 (f1:Int),.int .i64 (s1:Int),.int .i64 b1,.int .i64 (f2:Int),.int .i64 (s2:Int),.int .i64 b2] 129)).setCells x 7 (Tryz.zeroCells85).toList)):=⟨(h.kept hkw).lay _ (fun _=>0) len128 zeros128b (fun _=>by omega),Fr.setCells (S:=fun k=>k=x) (Fr.of_kept hkw) (Or.inl rfl) _ _ (Fr.of_kept hkw),(World.cell?_setCells_out x _ 7 _ ⟨x,5,none⟩ (fun _ _=>Or.inl (by show 5<7;omega))).trans (hkw.cell (p:=⟨x,5,none⟩) (Nat.lt_of_lt_of_le h.lt h.size))⟩;have hxs:x<w.heap.size:=Nat.lt_of_lt_of_le h.lt h.size;have hpc:∀ k u,#[Value.int .i64 (f1:Int),.int .i64 (s1:Int),.int .i64 b1,.int .i64 (f2:Int),.int .i64 (s2:Int),.int .i64 b2][k]? = some u->((w.alloc (Obj.cells #[.int .i64 (f1:Int),.int .i64 (s1:Int),.int .i64 b1,.int .i64 (f2:Int),.int .i64 (s2:Int),.int .i64 b2] 129)).setCells x 7 (Tryz.zeroCells85).toList).cell? ⟨w.heap.size,k,none⟩=some u:=by
  intro k u hu;rw[World.cell?_setCells_out x _ 7 _ ⟨w.heap.size,k,none⟩ (fun e _=>by simp at e;omega),World.cell?_alloc_at _ _ _ _ rfl];exact hu
 have p0:=hpc 0 _ rfl;have p1:=hpc 1 _ rfl;have p2:=hpc 2 _ rfl;have p3:=hpc 3 _ rfl;have p4:=hpc 4 _ rfl;have p5:=hpc 5 _ rfl;have q0:=H1.out.lw.c0;have q3:=H1.out.lw.c3;have HPL:Hid (LAt w .i64 (.slice pp pl.length pc) pl):=hp;have HPS:Hid (∀ g,sliceBlock (.slice pp pl.length pc)=some g->¬ (g=x\/N<=g)):=hpS;have HPV:Hid (∀ y ∈ pl,0<=y/\y<65536):=hpv;clear h hp hpS hpv hpc hth;replace hkw:Hid _:=hkw;have hC:=@chan_le K;obtain ⟨C,hCe⟩:∃ C,C=chan K:=⟨_,rfl⟩;rw[<- hCe] at F1 hC hCD hin ⊢;obtain ⟨hC1,hC2⟩:=hC;obtain ⟨pos,hpos⟩:∃ pos:Nat->Nat,pos=fun c=>((f2+i*s2)*W+(f1+c*s1))*C:=⟨_,rfl⟩
 have HPos:Hid (∀ c,((f2+i*s2)*W+(f1+c*s1))*C=pos c):=fun c=>by rw[hpos]
 have HIn:Hid (∀ c k,c<cols->k<C->pos c+k<pl.length):=fun c k h1 h2=>by rw[hpos];exact hin c k h1 h2
 rw[<- hpos];clear hpos hin;have HL0:Hid (layCB D C pl pos 0=fun _=>0):=rfl;have HLs:Hid (∀ c,layCB D C pl pos (c+1)=layKB D pl (pos c) (c*C) (layCB D C pl pos c) C):=fun _=>rfl
 have HKs:Hid (∀ A B R k,layKB D pl A B R (k+1)=laySB D (layKB D pl A B R k) (B+k) (pl.getD (A+k) 0).toNat):=fun _ _ _ _=>rfl
 have HK0:Hid (∀ A B R,layKB D pl A B R 0=R):=fun _ _ _=>rfl
 generalize layCB D C pl pos=LC at *;have HDb:Hid (C*D<=64):=hCD;clear hCD;replace hCe:Hid _:=hCe;go_enter Tryz.func96,Tryz.ntmps96;go_wp2_with fail;generalize ((w.alloc (Obj.cells #[.int .i64 (f1:Int),.int .i64 (s1:Int),.int .i64 b1,.int .i64 (f2:Int),.int .i64 (s2:Int),.int .i64 b2] 129)).setCells x 7 (Tryz.zeroCells85).toList)=w1 at *;refine (F1.out _).mono ?_;rintro r w1 ⟨rfl,rfl⟩;have hRb:f2+i*s2<=136:=by
  have:=Nat.mul_le_mul hi hs2
  omega
 have FP:=fun (W':World)=>F2.out W' f2 s2 i b2 hf2 hs2 hi
 have HPos2:Hid (∀ c,((f2+i*s2)*W+(f1+c*s1))*C=pos c):=HPos.out;generalize f2+i*s2=R at *;replace FP:Hid _:=FP;have hMb:R*W<=2176:=Nat.le_trans (Nat.mul_le_mul hRb hW) (by decide);have eM:(R:Int)*(W:Int)=((R*W:Nat):Int):=by simp
 obtain ⟨M,hM⟩:∃ M,M=R*W:=⟨_,rfl⟩;rw[<- hM] at eM hMb HPos2;clear HPos;have wM:IntKind.i64.wrap ((R:Int)*(W:Int))=(M:Int):=by rw[eM,wrapN M (by omega)]
 replace eM:Hid _:=eM;clear hM;have hs1w:w.heap.size<w1.heap.size:=World.block_lt_of_cell? _ _ p0;have hx1:x<w1.heap.size:=World.block_lt_of_cell? _ _ q0;go_wp2_with fail;go_region_held3 (fun W'=>W'.cell? ⟨w.heap.size,3,none⟩=some (.int .i64 (f2:Int))/\W'.cell? ⟨w.heap.size,4,none⟩=some (.int .i64 (s2:Int))/\W'.cell? ⟨w.heap.size,5,none⟩=some (.int .i64 b2)/\W'.cell? ⟨x,0,none⟩=some (.int .i64 (W:Int))) (first | exact ⟨p3,p4,p5,q0⟩ | exact hq4 | go_keep) ((go_at_call 128;refine Calls.mono (FP.out _) ?_;rintro r w2 ⟨rfl,hk2⟩;have hq4:w2.cell? ⟨w.heap.size,3,none⟩=some (.int .i64 (f2:Int))/\w2.cell? ⟨w.heap.size,4,none⟩=some (.int .i64 (s2:Int))/\w2.cell? ⟨w.heap.size,5,none⟩=some (.int .i64 b2)/\w2.cell? ⟨x,0,none⟩=some (.int .i64 (W:Int)):=⟨(hk2.cell (p:=⟨w.heap.size,3,none⟩) hs1w).trans p3,(hk2.cell (p:=⟨w.heap.size,4,none⟩) hs1w).trans p4,(hk2.cell (p:=⟨w.heap.size,5,none⟩) hs1w).trans p5,(hk2.cell (p:=⟨x,0,none⟩) hx1).trans q0⟩))
 have H2:Hid (LxB x N cnt W H D K L o (LC 0) abv w1 w2):=by rw[HL0.out];exact ((LxB.refl H1.out.lw).drewN 1).kept hk2
 have HPC:Hid (∀ W' R',LxB x N cnt W H D K L o R' abv w1 W'->W'.cell? ⟨w.heap.size,0,none⟩=some (.int .i64 (f1:Int))/\W'.cell? ⟨w.heap.size,1,none⟩=some (.int .i64 (s1:Int))/\W'.cell? ⟨w.heap.size,2,none⟩=some (.int .i64 b1)):=fun W' R' hW'=>⟨(hW'.fr.cell hs1w (by omega)).trans p0,(hW'.fr.cell hs1w (by omega)).trans p1,(hW'.fr.cell hs1w (by omega)).trans p2⟩
 have HPX:Hid (∀ W' R',LxB x N cnt W H D K L o R' abv w1 W'->LAt W' .i64 (.slice pp pl.length pc) pl):=fun W' R' hW'=>HPL.out.fr (H1.out.trans hW').fr (fun g hg e=>HPS.out g hg (Or.inl e))
 clear hk2 hq4 p0 p1 p2 p3 p4 p5 q0 q3 HPL HPS hkw hsc FP F1;go_wp2;go_loopw [12] (fun v W'=>∃ c:Nat,c<=cols/\v = .int .i64 (c:Int)/\LxB x N cnt W H D K L o (LC c) abv w1 W') (fun v _=>cols - (intOf v).toNat)
 case atStart=>exact ⟨0,by omega,rfl,H2.out⟩
 case round=>
  obtain ⟨c,hcc,rfl,hW'⟩:=hrel;clear H2;by_cases hlt:c<cols
  ·have hlt':(c:Int)<(cols:Int):=by omega
   obtain ⟨p0,p1,p2⟩:=HPC.out wr _ hW';have hPb:f1+c*s1<=136:=by
    have:=Nat.mul_le_mul (show c<=16 by omega) hs1
    omega
   have FP:=fun (W':World)=>F2.out W' f1 s1 c b1 hf1 hs1 (by omega)
   have hPc:(M+(f1+c*s1))*C=pos c:=HPos2.out c;have hInc:∀ k,k<C->pos c+k<pl.length:=fun k hk=>HIn.out c k hlt hk
   have hcCD:Hid (∀ k,k<C->(c*C+k)*D / 8<128):=fun k hk=>by
    have h1:c*C+k<16*C:=by
     have:(c+1)*C<=16*C:=Nat.mul_le_mul_right _ (by omega)
     rw[Nat.add_mul] at this;omega
    have h2:(c*C+k)*D<=(16*C - 1)*D:=Nat.mul_le_mul_right _ (by omega);have h3:(16*C - 1)*D=16*(C*D) - D:=by rw[Nat.sub_mul,Nat.mul_assoc,Nat.one_mul]
    have h4:=HDb.out;have hD1:1<=D:=HD1.out;have h6:0<C*D:=Nat.mul_pos (by omega) hD1;omega
   have HLc:Hid (LC (c+1)=layKB D pl (pos c) (c*C) (LC c) C):=HLs.out c;obtain ⟨LC1,hLC1⟩:∃ L1,L1=LC (c+1):=⟨_,rfl⟩;rw[<- hLC1] at HLc;replace hLC1:Hid (LC1=LC (c+1)):=hLC1;generalize LC c=LC0 at *;generalize f1+c*s1=R1 at *;replace FP:Hid _:=FP;replace hW':Hid (LxB x N cnt W H D K L o LC0 abv w1 wr):=hW';have hAb:(M+R1)*C<=9248:=Nat.le_trans (Nat.mul_le_mul (show M+R1<=2312 by omega) hC2) (by decide);have eA:((M:Int)+(R1:Int))*(C:Int)=(((M+R1)*C:Nat):Int):=by simp
   rw[hPc] at hAb eA;clear hPc;generalize pos c=A at *;replace hInc:Hid _:=hInc;have hcC:c*C<=64:=Nat.le_trans (Nat.mul_le_mul (show c<=16 by omega) hC2) (by decide);have eC:(c:Int)*(C:Int)=((c*C:Nat):Int):=by simp
   generalize c*C=B at *;go_wp2_with fail;refine Calls.mono (FP.out _) ?_;rintro r w3 ⟨rfl,hk3⟩;have H3:Hid (LxB x N cnt W H D K L o (layKB D pl A B LC0 0) abv w1 w3):=by rw[HK0.out];exact hW'.out.kept hk3
   clear hk3 p0 p1 p2 hW' FP;go_wp2;go_loopw [14] (fun v W'=>∃ k:Nat,k<=C/\v = .int .i64 (k:Int)/\LxB x N cnt W H D K L o (layKB D pl A B LC0 k) abv w1 W') (fun v _=>C - (intOf v).toNat)
   case atStart=>exact ⟨0,by omega,rfl,H3.out⟩
   case round=>
    obtain ⟨k,hkC,rfl,hW2⟩:=hrel;clear H3;by_cases hlt2:k<C
    ·have hlt2':(k:Int)<(C:Int):=by omega
     have s0:(0:Int)<=(A:Int)+(k:Int):=by omega
     have hin:A+k<pl.length:=hInc.out k hlt2;have hin':(A:Int)+(k:Int)<(pl.length:Int):=by omega
     obtain ⟨g,o',rfl,hcl⟩:=(HPX.out wr _ hW2).cellAt (A+k) hin;have hv:=HPV.out _ (getD_mem hin);have HKk:Hid (layKB D pl A B LC0 (k+1)=laySB D (layKB D pl A B LC0 k) (B+k) (pl.getD (A+k) 0).toNat):=HKs.out A B LC0 k;obtain ⟨V,hV⟩:∃ V:Nat,pl.getD (A+k) 0=(V:Int):=⟨(pl.getD (A+k) 0).toNat,by omega⟩;rw[hV] at hcl hv HKk;rw[Int.toNat_natCast] at HKk;have hv1:V<65536:=by omega
     clear hv hV;have FJ:Hid (Calls Tryz.prog 129 #[.pointer (some ⟨x,0,none⟩),.int .i64 ((B:Int)+(k:Int)),.int .i64 (V:Int)] wr fun r w'=>r = .returned (.tuple #[])/\LxB x N cnt W H D K L o (laySB D (layKB D pl A B LC0 k) (B+k) V) abv wr w'):=by
      have h5:=F3.out wr _ (B+k) V hW2.lw (hcCD.out k hlt2) hv1;rw[show ((B+k:Nat):Int)=(B:Int)+(k:Int) from by omega] at h5;exact h5
     rw[<- HKk.out] at FJ;have H4:Hid (LxB x N cnt W H D K L o (layKB D pl A B LC0 k) abv w1 wr):=hW2;clear hW2 HKk;go_wp2_with fail;refine FJ.out.mono ?_;rintro r w5 ⟨rfl,hw5⟩;have H5:Hid (LxB x N cnt W H D K L o (layKB D pl A B LC0 (k+1)) abv w1 w5):=H4.out.trans hw5;clear hw5;go_wp2;exact ⟨⟨k+1,by omega,by go_num,H5.out⟩,by simp [intOf];omega⟩
    ·have hlt2':¬ (k:Int)<(C:Int):=by omega
     have hke:k=C:=by omega
     have H4:Hid (LxB x N cnt W H D K L o LC1 abv w1 wr):=by rw[HLc.out,<- hke];exact hW2
     clear hW2 hke;go_wp2;exact ⟨⟨c+1,by omega,by go_num,by rw[<- hLC1.out];exact H4.out⟩,by simp [intOf];omega⟩
  ·have hlt':¬ (c:Int)<(cols:Int):=by omega
   have hce:c=cols:=by omega
   subst hce;replace hW':Hid _:=hW';go_wp2;go_end0
   exact ⟨rfl,H1.out.trans hW'.out⟩
theorem LS.lxb {w w':World} {x N cnt W H D K L:Nat} {o:List Int} {row abv:Nat->Nat} {S:Nat->Prop} (h:LS w x S) (k:LxB x N cnt W H D K L o row abv w w'):LS w' x S:=⟨h.sx,fun g hg=>h.new g (Nat.le_trans k.fr.size hg),fun ov g h1 h2=>h.own ov g (k.c5.symm.trans h1) h2⟩
structure LwSB (x N cnt W H D K L:Nat) (o:List Int) (row abv:Nat->Nat) (S:Nat->Prop) (w w':World):Prop where
 lw:LwB w' x N cnt W H D K L o row abv
 fr:Fr S w w'
 ls:LS w' x S
theorem LwSB.trans {x N cnt cnt' W H D K L:Nat} {o o':List Int} {row abv row' abv':Nat->Nat} {S:Nat->Prop} {a b c:World} (h:LwSB x N cnt W H D K L o row abv S a b) (k:LwSB x N cnt' W H D K L o' row' abv' S b c):LwSB x N cnt' W H D K L o' row' abv' S a c:=⟨k.lw,h.fr.trans k.fr,k.ls⟩
theorem LwSB.kept {x N cnt W H D K L:Nat} {o:List Int} {row abv:Nat->Nat} {S:Nat->Prop} {a b c:World} (h:LwSB x N cnt W H D K L o row abv S a b) (k:Kept b c):LwSB x N cnt W H D K L o row abv S a c:=⟨h.lw.kept k,h.fr.kept k,h.ls.kept k (Nat.lt_of_lt_of_le h.lw.lt h.lw.size)⟩
theorem LwSB.drewN {x N cnt W H D K L:Nat} {o:List Int} {row abv:Nat->Nat} {S:Nat->Prop} {a b:World} (h:LwSB x N cnt W H D K L o row abv S a b) (k:Nat):LwSB x N cnt W H D K L o row abv S a (b.drewN k):=h.kept ((Kept.refl _).drewN k)
theorem LwSB.lxb {x N cnt c' W H D K L:Nat} {o o':List Int} {row abv row' abv':Nat->Nat} {S:Nat->Prop} {a b c:World} (h:LwSB x N cnt W H D K L o row abv S a b) (k:LxB x N c' W H D K L o' row' abv' b c):LwSB x N c' W H D K L o' row' abv' S a c:=⟨k.lw,h.fr.trans (k.fr.mono (fun i _ e=>by rw[e];exact h.ls.sx)),h.ls.lxb k⟩
theorem LwB.grow {w w2:World} {x N cnt W H D K L:Nat} {o o':List Int} {row abv:Nat->Nat} {S:Nat->Prop} (h:LwB w x N cnt W H D K L o row abv) (ls:LS w x S) (ov v':Value) (h5:w.cell? ⟨x,5,none⟩=some ov) (ho:OwnB w N ov o) (fk:Fr (fun k=>ov.ownBlock=some k) w w2) (ho2:OwnB w2 N v' o') (hn2:∀ k,v'.ownBlock=some k->ov.ownBlock=some k\/w.heap.size<=k):LwSB x N cnt W H D K L o' row abv S w (w2.setCell ⟨x,5,none⟩ v'):=by
 obtain ⟨h1,h2,h3,a0,a1,a2,a3,a4,_,a6,r1,r2,r3,r4⟩:=h;have hxs:x<w.heap.size:=by omega
 have hne:¬ ov.ownBlock=some x:=fun e=>by have:=ho.ge x e;omega
 have e:∀ j,j≠5->(w2.setCell ⟨x,5,none⟩ v').cell? ⟨x,j,none⟩=w.cell? ⟨x,j,none⟩:=fun j hj=>(cell_set_other _ _ _ _ _ (fun e=>hj e.symm)).trans (fk.cell hxs hne)
 have k5:=(fk.cell (k:=5) hxs hne).trans h5;have hse:(w2.setCell ⟨x,5,none⟩ v').heap.size=w2.heap.size:=by simp [World.setCell]
 refine ⟨⟨h1,by rw[hse];exact Nat.le_trans h2 fk.size,fun k=>by rw[World.frozen?_setCell];exact (fk.frozen hxs hne).trans (h3 k),(e 0 (by omega)).trans a0,(e 1 (by omega)).trans a1,(e 2 (by omega)).trans a2,(e 3 (by omega)).trans a3,(e 4 (by omega)).trans a4,⟨v',cell_set_same k5 _,ho2.set h1 _ _⟩,(e 6 (by omega)).trans a6,fun j hj=>(e _ (by omega)).trans (r1 j hj),fun j hj=>(e _ (by omega)).trans (r2 j hj),r3,r4⟩,?_,?_⟩
 ·exact Fr.setCell (S:=S) (fk.mono (fun i _ e=>ls.own ov i h5 e)) (Or.inl ls.sx) _ _
 ·refine ⟨ls.sx,fun g hg=>ls.new g (by rw[hse] at hg;have:=fk.size;omega),fun ov' g q1 q2 => ?_⟩
  rw[cell_set_same k5] at q1
  injection q1 with q1
  subst q1;rcases hn2 g q2 with q | q
  ·exact ls.own ov g h5 q
  ·exact ls.new g q
def outB (K D f:Nat) (row abv:Nat->Nat) (i:Nat):Int:=(((row i+256 - gssB K D f row abv i) % 256:Nat):Int)
def rowB (K D f size:Nat) (row abv:Nat->Nat):List Int:=(f:Int)::(List.range size).map (outB K D f row abv)
theorem rowB_snoc (K D f i:Nat) (row abv:Nat->Nat):rowB K D f (i+1) row abv=rowB K D f i row abv++[outB K D f row abv i]:=by
 unfold rowB;rw[List.range_succ,List.map_append];rfl
theorem rowB_len (K D f i:Nat) (row abv:Nat->Nat):(rowB K D f i row abv).length=1+i:=by unfold rowB;simp;omega
theorem gssB_lt {K D f i:Nat} {row abv:Nat->Nat} (h1:∀ j,row j<256) (h2:∀ j,abv j<256):gssB K D f row abv i<256:=by
 unfold gssB;apply gss_lt
 ·split;exact h1 _;omega
 ·exact h2 _
 ·split;exact h2 _;omega
theorem writeRow_b (x N cnt W H D K L f size:Nat) (o:List Int) (row abv:Nat->Nat) (w:World) (h:LwB w x N cnt W H D K L o row abv) (hk:legal K D) (hf:f<=4) (hs:size<=128) (hn:o.length<=1048576) (S:Nat->Prop) (hls:LS w x S) :
  Calls Tryz.prog 97 #[.pointer (some ⟨x,0,none⟩),.int .u8 (f:Int),.int .i64 (size:Int)] w fun r w'=>r = .returned (.tuple #[])/\LwSB x N cnt W H D K L (o++rowB K D f size row abv) row abv S w w':=by
 have F1:Hid (∀ (W':World) (m:List Int) (i:Nat),LwB W' x N cnt W H D K L m row abv->i<128->Calls Tryz.prog 130 #[.pointer (some ⟨x,0,none⟩),.int .u8 (f:Int),.int .i64 (i:Int)] W' fun r w'=>r = .returned (.int .u8 (gssB K D f row abv i:Int))/\Kept W' w'):=fun W' m i hW hi=>guess_b x N cnt W H D K L f i m row abv W' hW hk hf hi
 obtain ⟨n,hnl⟩:∃ n,o.length=n:=⟨_,rfl⟩;rw[hnl] at hn;have HNL:Hid (o.length=n):=hnl;clear hnl;have HR1:Hid ((o++[(f:Int)]).length=n+1):=by show (o++[(f:Int)]).length=n+1;rw[List.length_append,HNL.out];rfl
 have HRi:Hid (∀ i,(o++rowB K D f i row abv).length=n+1+i):=fun i=>by rw[List.length_append,HNL.out,rowB_len];omega
 have HR0:Hid (o++[(f:Int)]=o++rowB K D f 0 row abv):=rfl;obtain ⟨ov,h5,ho⟩:=h.out;obtain ⟨p,c,rfl⟩:=ho.slice' HNL.out;have hf5:=h.fz 5;have hlt:=h.lt;have hsz:=h.size;have hxs:x<w.heap.size:=by omega
 have H0:Hid (LwB w x N cnt W H D K L o row abv):=h;have HO:Hid (OwnB w N (.slice p n c) o):=ho;have hne:¬ (Value.slice p n c).ownBlock=some x:=fun e=>by have:=HO.out.ge x e;omega
 have HLS:Hid (LS w x S):=hls;clear h ho hls;have HC:Hid ((w.alloc (Obj.cells #[Value.int .u8 (f:Int)] 5)).cell? ⟨w.heap.size,0,none⟩=some (.int .u8 (f:Int))):=by show _=_;rw[World.cell?_alloc_at _ _ _ _ rfl];rfl
 go_enter Tryz.func97,Tryz.ntmps97;go_wp2_with (at_builtin;refine appendB' _ rfl _ _ rfl N (.slice p n c) o rfl (HO.out.alloc _) w.heap.size 0 1 1 [(f:Int)] rfl rfl (by omega) (by intro y hy;simp at hy;subst hy;omega) (by intro j hj;match j,hj with | 0,_=>exact HC.out) (by rw[HNL.out];omega) (by simp;omega) ?_)
 intro v' w2 ho2 hf2 hn2;obtain ⟨p',c',rfl⟩:=ho2.slice' HR1.out;rw[HR0.out] at ho2;have fk:Fr (fun k=>(Value.slice p n c).ownBlock=some k) w w2:=((Fr.refl _ w).alloc _).trans hf2;have k0:=(fk.cell (k:=5) hxs hne).trans h5;have g0:=(fk.frozen (k:=5) hxs hne).trans hf5;have H2:Hid (LwSB x N cnt W H D K L (o++rowB K D f 0 row abv) row abv S w (w2.setCell ⟨x,5,none⟩ (.slice p' (n+1) c'))):=H0.out.grow HLS.out _ _ h5 HO.out fk ho2 (fun k hk=>by rcases hn2 k hk with q | q;exact Or.inl q;exact Or.inr (by first | omega | (simp at q;omega)));clear hf2 ho2 fk hn2;go_wp2;generalize w2.setCell ⟨x,5,none⟩ (.slice p' (n+1) c')=w3 at *;go_loopw [6] (fun v W'=>∃ i:Nat,i<=size/\v = .int .i64 (i:Int)/\LwSB x N cnt W H D K L (o++rowB K D f i row abv) row abv S w W') (fun v _=>size - (intOf v).toNat)
 case atStart=>exact ⟨0,by omega,rfl,H2.out⟩
 case round=>
  obtain ⟨i,hi,rfl,hW⟩:=hrel;clear H2 h5 hf5 hne HO H0 HC k0 g0;by_cases hlt2:i<size
  ·have i0:(0:Int)<=(i:Int):=by omega
   have i1:(i:Int)<(size:Int):=by omega
   have i2:(i:Int)<128:=by omega
   have hz:=hW.lw.rowc i (by omega);have z1:=hW.lw.rb i;have q1:gssB K D f row abv i<256:=gssB_lt hW.lw.rb hW.lw.ab;have FG:Hid (∀ W',Kept wr W'->Calls Tryz.prog 130 #[.pointer (some ⟨x,0,none⟩),.int .u8 (f:Int),.int .i64 (i:Int)] W' fun r w'=>r = .returned (.int .u8 (gssB K D f row abv i:Int))/\Kept W' w'):=fun W' hK=>F1.out W' _ i (hW.lw.kept hK) (by omega)
   have HOB:Hid (outB K D f row abv i=(((row i+256 - gssB K D f row abv i) % 256:Nat):Int)):=rfl;have HNx:Hid (o++rowB K D f (i+1) row abv=o++rowB K D f i row abv++[outB K D f row abv i]):=by show o++rowB K D f (i+1) row abv=_;rw[rowB_snoc,List.append_assoc]
   have HLn:Hid ((o++rowB K D f i row abv).length=n+1+i):=HRi.out i;have HLm:Hid ((o++rowB K D f (i+1) row abv).length=n+1+i+1):=by show (o++rowB K D f (i+1) row abv).length=_;rw[HRi.out (i+1)];omega
   generalize outB K D f row abv i=B0 at *;generalize gssB K D f row abv i=q at *;obtain ⟨z,hze⟩:∃ z,z=row i:=⟨_,rfl⟩;rw[<- hze] at hz z1 HOB;clear hze;obtain ⟨A1,hA1⟩:∃ A1,A1=o++rowB K D f (i+1) row abv:=⟨_,rfl⟩;rw[<- hA1] at HNx HLm;replace hA1:Hid _:=hA1;obtain ⟨A0,hA0⟩:∃ A0,A0=o++rowB K D f i row abv:=⟨_,rfl⟩;rw[<- hA0] at HNx HLn hW;clear hA0;have hlt3:x<wr.heap.size:=World.block_lt_of_cell? _ _ hz;replace hW:Hid (LwSB x N cnt W H D K L A0 row abv S w wr):=hW;go_wp2_with fail;go_region_held3 (fun W'=>W'.cell? ⟨x,7+i,none⟩=some (.int .u8 (z:Int))) (first | exact hz | exact hz4 | go_keep) ((go_at_call 130;refine (FG.out _ (by exact (Kept.refl _).drewN 1)).mono ?_;rintro r w4 ⟨rfl,hk4⟩;have hz4:w4.cell? ⟨x,7+i,none⟩=some (.int .u8 (z:Int)):=(hk4.cell (p:=⟨x,7+i,none⟩) hlt3).trans hz))
   have H4:Hid (LwSB x N cnt W H D K L A0 row abv S w w4):=(hW.out.drewN 1).kept hk4;obtain ⟨ov4,h54,ho4⟩:=H4.out.lw.out;obtain ⟨p4,c4,rfl⟩:=ho4.slice' HLn.out;have hf54:=H4.out.lw.fz 5;have hsz4:=H4.out.lw.size;have HO4:Hid (OwnB w4 N (.slice p4 (n+1+i) c4) A0):=ho4;have hne4:¬ (Value.slice p4 (n+1+i) c4).ownBlock=some x:=fun e=>by have:=HO4.out.ge x e;omega
   have hxs4:x<w4.heap.size:=by omega
   clear ho4 hk4 hz4 hW FG;have hBe:IntKind.u8.wrap ((z:Int) - (q:Int))=B0:=by rw[IntKind.wrap_u8,HOB.out];omega
   have hBb:=bounds_u8 (wf_wrap .u8 ((z:Int) - (q:Int)));rw[hBe] at hBb;rw[hBe];clear hBe HOB;generalize B0=B at *;have HC4:Hid ((w4.alloc (Obj.cells #[Value.int .u8 B] 5)).cell? ⟨w4.heap.size,0,none⟩=some (.int .u8 B)):=by show _=_;rw[World.cell?_alloc_at _ _ _ _ rfl];rfl
   go_wp2_with (at_builtin;refine appendB' _ rfl _ _ rfl N (.slice p4 (n+1+i) c4) A0 rfl (HO4.out.alloc _) w4.heap.size 0 1 1 [B] rfl rfl (by omega) (by intro y hy;simp at hy;subst hy;omega) (by intro j hj;match j,hj with | 0,_=>exact HC4.out) (by rw[HLn.out];omega) (by simp;omega) ?_)
   intro v5 w5 ho5 hf5 hn5;rw[<- HNx.out] at ho5;obtain ⟨p5,c5,rfl⟩:=ho5.slice' HLm.out;have fk:Fr (fun k=>(Value.slice p4 (n+1+i) c4).ownBlock=some k) w4 w5:=((Fr.refl _ w4).alloc _).trans hf5;have k0:=(fk.cell (k:=5) hxs4 hne4).trans h54;have g0:=(fk.frozen (k:=5) hxs4 hne4).trans hf54;have H5:Hid (LwSB x N cnt W H D K L A1 row abv S w (w5.setCell ⟨x,5,none⟩ (.slice p5 (n+1+i+1) c5))):=H4.out.trans (H4.out.lw.grow H4.out.ls _ _ h54 HO4.out fk ho5 (fun k hk=>by rcases hn5 k hk with q | q;exact Or.inl q;exact Or.inr (by first | omega | (simp at q;omega))));rw[hA1.out] at H5;clear hf5 ho5 fk hn5;go_wp2;exact ⟨⟨i+1,by omega,by go_num,H5.out⟩,by simp [intOf];omega⟩
  ·have hie:i=size:=by omega
   subst hie;have i1:¬ (i:Int)<(i:Int):=by omega
   replace hW:Hid (LwSB x N cnt W H D K L (o++rowB K D f i row abv) row abv S w wr):=hW;go_wp2;go_end0
   exact ⟨rfl,hW.out⟩
