import Derived.Test.YthniahejjamhgaaGreatDoorRoP1
import Derived.Test.YthniahejjamhgaaGreatDoorRoD0
import Derived.Test.YthniahejjamhgaaGreatDoorRoT1
import Derived.Test.YthniahejjamhgaaGreatDoorRoL1
import Derived.Test.YthniahejjamhgaaGreatDoorRoZ5
set_option maxRecDepth 100000
set_option maxHeartbeats 6400000
namespace Go.Proofs.YthniahejjamhgaaGreatDoor
open Go.RowKit Px
set_option linter.unusedSimpArgs false
set_option linter.unusedVariables false
theorem kdist_x (a b:Int) (w:World) (ha0 : -1000<=a) (ha1:a<=1000) (hb0 : -1000<=b) (hb1:b<=1000) :
  Calls Tryz.prog 54 #[.int .i64 a,.int .i64 b] w fun r w'=>r = .returned (.int .i64 (if b<a then a - b else b - a))/\w'=w:=by
 by_cases h:b<a
 ·rw[if_pos h]
  go_enter Tryz.func54,Tryz.ntmps54;go_wp2;go_ret;exact ⟨rfl,rfl⟩
 ·rw[if_neg h]
  go_enter Tryz.func54,Tryz.ntmps54;go_wp2;go_ret;exact ⟨rfl,rfl⟩
theorem near_of (l u c q1 q2 q3:Nat) (h1:q1=dst u c) (h2:q2=dst l c) (h3:q3=dst (l+u) (2*c)):near l u c=if q1<=q2/\q1<=q3 then l else if q2<=q3 then u else c:=by subst h1 h2 h3;rfl
theorem ktaken_x (f l u c:Nat) (w:World) (hf:f<=4) (hl:l<256) (hu:u<256) (hc:c<256) :
  Calls Tryz.prog 26 #[.int .i64 (f:Int),.int .i64 (l:Int),.int .i64 (u:Int),.int .i64 (c:Int)] w fun r w'=>r = .returned (.int .i64 (gss f l u c:Int))/\w'=w:=by
 have:f=0\/f=1\/f=2\/f=3\/f=4:=by omega
 rcases this with rfl | rfl | rfl | rfl | rfl
 ·rw[show gss 0 l u c=0 from rfl]
  go_enter Tryz.func26,Tryz.ntmps26;go_wp2;go_ret;exact ⟨rfl,rfl⟩
 ·rw[show gss 1 l u c=l from rfl]
  go_enter Tryz.func26,Tryz.ntmps26;go_wp2;go_ret;exact ⟨rfl,rfl⟩
 ·rw[show gss 2 l u c=u from rfl]
  go_enter Tryz.func26,Tryz.ntmps26;go_wp2;go_ret;exact ⟨rfl,rfl⟩
 ·rw[show gss 3 l u c=(l+u) / 2 from rfl]
  go_enter Tryz.func26,Tryz.ntmps26;go_wp2;go_ret;exact ⟨ret_int (by first | omega | (rw[Int.tdiv_eq_ediv_of_nonneg (by omega)];omega)),rfl⟩
 ·rw[show gss 4 l u c=near l u c from rfl]
  obtain ⟨q1,h1⟩:∃ q,q=dst u c:=⟨_,rfl⟩;obtain ⟨q2,h2⟩:∃ q,q=dst l c:=⟨_,rfl⟩;obtain ⟨q3,h3⟩:∃ q,q=dst (l+u) (2*c):=⟨_,rfl⟩;rw[near_of l u c q1 q2 q3 h1 h2 h3];have F1:Hid (Calls Tryz.prog 54 #[.int .i64 ((l:Int)+(u:Int) - (c:Int)),.int .i64 (l:Int)] w fun r w'=>r = .returned (.int .i64 (q1:Int))/\w'=w):=by
   have:=kdist_x ((l:Int)+(u:Int) - (c:Int)) (l:Int) w (by omega) (by omega) (by omega) (by omega)
   rw[show (if (l:Int)<(l:Int)+(u:Int) - (c:Int) then (l:Int)+(u:Int) - (c:Int) - (l:Int) else (l:Int) - ((l:Int)+(u:Int) - (c:Int)))=(q1:Int) from by rw[h1];unfold dst;split<;>split<;>omega] at this;exact this
  have F2:Hid (Calls Tryz.prog 54 #[.int .i64 ((l:Int)+(u:Int) - (c:Int)),.int .i64 (u:Int)] w fun r w'=>r = .returned (.int .i64 (q2:Int))/\w'=w):=by
   have:=kdist_x ((l:Int)+(u:Int) - (c:Int)) (u:Int) w (by omega) (by omega) (by omega) (by omega)
   rw[show (if (u:Int)<(l:Int)+(u:Int) - (c:Int) then (l:Int)+(u:Int) - (c:Int) - (u:Int) else (u:Int) - ((l:Int)+(u:Int) - (c:Int)))=(q2:Int) from by rw[h2];unfold dst;split<;>split<;>omega] at this;exact this
  have F3:Hid (Calls Tryz.prog 54 #[.int .i64 ((l:Int)+(u:Int) - (c:Int)),.int .i64 (c:Int)] w fun r w'=>r = .returned (.int .i64 (q3:Int))/\w'=w):=by
   have:=kdist_x ((l:Int)+(u:Int) - (c:Int)) (c:Int) w (by omega) (by omega) (by omega) (by omega)
   rw[show (if (c:Int)<(l:Int)+(u:Int) - (c:Int) then (l:Int)+(u:Int) - (c:Int) - (c:Int) else (c:Int) - ((l:Int)+(u:Int) - (c:Int)))=(q3:Int) from by rw[h3];unfold dst;split<;>split<;>omega] at this;exact this
  clear h1 h2 h3;go_enter Tryz.func26,Tryz.ntmps26;go_wp2_with fail;refine F1.out.mono ?_;rintro r w1 ⟨rfl,rfl⟩;go_wp2_with fail;refine F2.out.mono ?_;rintro r w1 ⟨rfl,rfl⟩;go_wp2_with fail;refine F3.out.mono ?_;rintro r w1 ⟨rfl,rfl⟩;by_cases e1:q2<q1
  ·have e1':(q2:Int)<(q1:Int):=by omega
   by_cases e2:q3<q2
   ·have e2':(q3:Int)<(q2:Int):=by omega
    go_wp2;go_ret;exact ⟨rfl,rfl⟩
   ·have e2':¬ (q3:Int)<(q2:Int):=by omega
    go_wp2;go_ret;exact ⟨rfl,rfl⟩
  ·have e1':¬ (q2:Int)<(q1:Int):=by omega
   by_cases e2:q3<q1
   ·have e2':(q3:Int)<(q1:Int):=by omega
    go_wp2;go_ret;exact ⟨rfl,rfl⟩
   ·have e2':¬ (q3:Int)<(q1:Int):=by omega
    go_wp2;go_ret;exact ⟨rfl,rfl⟩
theorem upTo_x (x wd H k g:Nat) (s0 s1 s2 s3 s4 s5 s6 s7 s9 s10:Value) (w:World) (hx0:w.cell? ⟨x,0,none⟩=some (.int .i64 (wd:Int))) (hx1:w.cell? ⟨x,1,none⟩=some (.int .i64 (H:Int))) (h1:wd<=16) (h2:H<=16) (h3:k<=16)
  (hkn:∀ j,j<wd*H->w.cell? ⟨g,j,none⟩=some (.int .i64 (if j<k*wd then 1 else 0))) :
  Calls Tryz.prog 18 #[.pointer (some ⟨x,0,none⟩),.agg #[s0,s1,s2,s3,s4,s5,s6,s7,.slice (some ⟨g,0,none⟩) (wd*H) (wd*H),s9,s10],.int .i64 (k:Int)] w fun r w'=>r = .returned (.bool true)/\Kept w w':=by
 have hM:wd*H<=256:=Nat.le_trans (Nat.mul_le_mul h1 h2) (by decide);have hT:k*wd<=256:=Nat.le_trans (Nat.mul_le_mul h3 h1) (by decide);have eM:(wd:Int)*(H:Int)=((wd*H:Nat):Int):=by simp
 have eT:(k:Int)*(wd:Int)=((k*wd:Nat):Int):=by simp
 generalize wd*H=M at *;generalize k*wd=T at *;have hxs:x<w.heap.size:=World.block_lt_of_cell? _ _ hx0;have hk0:Kept w (w.alloc (Obj.cells #[s0,s1,s2,s3,s4,s5,s6,s7,.slice (some ⟨g,0,none⟩) M M,s9,s10] 50)):=Below.alloc (Below.refl _ _) (Nat.le_refl _) _;have p0:=(hk0.cell (p:=⟨x,0,none⟩) hxs).trans hx0;have p1:=(hk0.cell (p:=⟨x,1,none⟩) hxs).trans hx1;have p8:(w.alloc (Obj.cells #[s0,s1,s2,s3,s4,s5,s6,s7,.slice (some ⟨g,0,none⟩) M M,s9,s10] 50)).cell? ⟨w.heap.size,8,none⟩=some (.slice (some ⟨g,0,none⟩) M M):=by rw[World.cell?_alloc_at _ _ _ _ rfl];rfl
 have HN:Hid (∀ j,j<M->(w.alloc (Obj.cells #[s0,s1,s2,s3,s4,s5,s6,s7,.slice (some ⟨g,0,none⟩) M M,s9,s10] 50)).cell? ⟨g,j,none⟩=some (.int .i64 (if j<T then 1 else 0))):=fun j hj=>(hk0.cell (p:=⟨g,j,none⟩) (World.block_lt_of_cell? _ _ (hkn j hj))).trans (hkn j hj)
 replace hk0:Hid _:=hk0;clear hkn hx0 hx1;go_enter Tryz.func18,Tryz.ntmps18;go_wp2_with fail;generalize (w.alloc (Obj.cells #[s0,s1,s2,s3,s4,s5,s6,s7,.slice (some ⟨g,0,none⟩) M M,s9,s10] 50))=w0 at *;go_quiet (fail);have HK1:Hid (Kept w (w0.drewN nq)):=Kept.trans hk0.out ((Kept.refl _).drewN nq);have z0:(w0.drewN nq).cell? ⟨x,0,none⟩=some (.int .i64 (wd:Int)):=p0;have z8:(w0.drewN nq).cell? ⟨w.heap.size,8,none⟩=some (.slice (some ⟨g,0,none⟩) M M):=p8;have HN1:Hid (∀ j,j<M->(w0.drewN nq).cell? ⟨g,j,none⟩=some (.int .i64 (if j<T then 1 else 0))):=HN.out;generalize w0.drewN nq=w1 at *;clear p0 p1 p8 HN hk0;go_wp2;go_loopw [7] (fun v W'=>∃ i:Nat,i<=M/\v = .int .i64 (i:Int)/\W'=w1) (fun v _=>M - (intOf v).toNat)
 case atStart=>exact ⟨0,by omega,rfl,rfl⟩
 case round=>
  obtain ⟨i,hi,rfl,rfl⟩:=hrel;by_cases hlt:i<M
  ·have hlt':(i:Int)<(M:Int):=by omega
   have i0:(0:Int)<=(i:Int):=by omega
   have hc:=HN1.out i hlt;by_cases ht:i<T
   ·have ht':(i:Int)<(T:Int):=by omega
    rw[if_pos ht] at hc;go_wp2;exact ⟨⟨i+1,by omega,by go_num,by first | rfl | trivial⟩,by simp [intOf];omega⟩
   ·have ht':¬ (i:Int)<(T:Int):=by omega
    rw[if_neg ht] at hc;go_wp2;exact ⟨⟨i+1,by omega,by go_num,by first | rfl | trivial⟩,by simp [intOf];omega⟩
  ·have hlt':¬ (i:Int)<(M:Int):=by omega
   go_wp2;go_ret;exact ⟨rfl,HK1.out⟩
end Go.Proofs.YthniahejjamhgaaGreatDoor
namespace Go.Proofs.YthniahejjamhgaaGreatDoor
open Go.RowKit
set_option linter.unusedSimpArgs false
set_option linter.unusedVariables false
theorem krow_off (a:Option Addr) (k i:Int) (w:World) (h:k<0\/i<0) :
  Calls Tryz.prog 25 #[.pointer a,.int .i64 k,.int .i64 i] w fun r w'=>r = .returned (.int .i64 0)/\w'=w:=by
 by_cases hk:k<0
 ·clear h
  go_enter Tryz.func25,Tryz.ntmps25;go_wp2;go_ret;exact ⟨rfl,rfl⟩
 ·have hi:i<0:=by omega
  clear h;go_enter Tryz.func25,Tryz.ntmps25;go_wp2;go_ret;exact ⟨rfl,rfl⟩
theorem krow_16 (x wd K k i:Nat) (xp:Option Addr) (xc:Nat) (pix:List Int) (w:World) (hK:K=0\/K=2\/K=3\/K=4\/K=6) (c0:w.cell? ⟨x,0,none⟩=some (.int .i64 (wd:Int))) (c2:w.cell? ⟨x,2,none⟩=some (.int .i64 (K:Int))) (c3:w.cell? ⟨x,3,none⟩=some (.int .i64 16)) (c6:w.cell? ⟨x,6,none⟩=some (.slice xp pix.length xc)) (lx:LAt w .i64 (.slice xp pix.length xc) pix) (h1:wd<=16) (h2:k<=16) (h3:i<=1024) (hin:k*(wd*chan K)+i / 2<pix.length) (hb:∀ y ∈ pix,0<=y/\y<65536) :
  Calls Tryz.prog 25 #[.pointer (some ⟨x,0,none⟩),.int .i64 (k:Int),.int .i64 (i:Int)] w fun r w'=>r = .returned (.int .i64 (if i % 2=0 then pix.getD (k*(wd*chan K)+i / 2) 0 / 256 else pix.getD (k*(wd*chan K)+i / 2) 0 % 256))/\w'=w:=by
 have FC:Hid (Calls Tryz.prog 13 #[.int .i64 (K:Int)] w fun r w'=>r = .returned (.int .i64 (chan K:Int))/\w'=w):=channels_any K w hK;have hC:=(@chan_le K).2;have hpl:=lx;obtain ⟨g,o,rfl,hc⟩:=lx.cellAt _ hin;have hv:=hb _ (getD_mem hin);generalize chan K=C at *;have hM:wd*C<=64:=Nat.le_trans (Nat.mul_le_mul h1 hC) (by decide);have eM:(wd:Int)*(C:Int)=((wd*C:Nat):Int):=by simp
 generalize wd*C=M at *;have hT:k*M<=1024:=Nat.le_trans (Nat.mul_le_mul h2 hM) (by decide);have eT:(k:Int)*(M:Int)=((k*M:Nat):Int):=by simp
 generalize k*M=T at *;obtain ⟨J,hJ⟩:∃ J,J=i / 2:=⟨_,rfl⟩;rw[<- hJ] at hc hin hv ⊢;have eJ:(i:Int) / 2=(J:Int):=by omega
 have hJb:J<=512:=by omega
 generalize pix.getD (T+J) 0=V at *;have hin':(T:Int)+(J:Int)<(pix.length:Int):=by omega
 have i0:(0:Int)<=(i:Int):=by omega
 have k0:(0:Int)<=(k:Int):=by omega
 have t0:(0:Int)<=(T:Int)+(J:Int):=by omega
 obtain ⟨hv0,hv1⟩:=hv;clear hb hpl lx hK hJ;by_cases he:i % 2=0
 ·have he':(i:Int).tmod 2=0:=by rw[Int.tmod_eq_emod_of_nonneg i0];omega
  rw[if_pos he];go_enter Tryz.func25,Tryz.ntmps25;go_wp2_with fail;refine FC.out.mono ?_;rintro r w1 ⟨rfl,rfl⟩;go_wp2;go_ret;exact ⟨ret_int (by first | rfl | omega | (rw[Int.tdiv_eq_ediv_of_nonneg hv0])),rfl⟩
 ·have he':((i:Int).tmod 2 == 0)=false:=by rw[Int.tmod_eq_emod_of_nonneg i0,beq_eq_false_iff_ne];omega
  rw[if_neg he];go_enter Tryz.func25,Tryz.ntmps25;go_wp2_with fail;refine FC.out.mono ?_;rintro r w1 ⟨rfl,rfl⟩;go_wp2;go_ret;exact ⟨ret_int (by first | rfl | omega | (rw[Int.tmod_eq_emod_of_nonneg hv0])),rfl⟩
end Go.Proofs.YthniahejjamhgaaGreatDoor
namespace Px
def rowSm (D n T j0:Nat) (pix:List Int):Nat->Nat
 | 0=>0
 | m+1=>rowSm D n T j0 pix m*2^D+(if j0+m<n then (pix.getD (T+(j0+m)) 0).toNat else 0)
theorem rowSm_lt (D n T j0:Nat) (pix:List Int) (h:∀ y ∈ pix,0<=y/\y<((2^D:Nat):Int)):∀ m,rowSm D n T j0 pix m<2^(D*m)
 | 0=>by show 0<_;exact Nat.two_pow_pos _
 | m+1=>by
  have ih:=rowSm_lt D n T j0 pix h m;have hb:(if j0+m<n then (pix.getD (T+(j0+m)) 0).toNat else 0)<2^D:=by
   split
   ·by_cases hl:T+(j0+m)<pix.length
    ·have:=h (pix.getD (T+(j0+m)) 0) (by rw[List.getD_eq_getElem?_getD,List.getElem?_eq_getElem hl];exact List.getElem_mem hl)
     omega
    ·rw[List.getD_eq_getElem?_getD,List.getElem?_eq_none (by omega)];exact Nat.two_pow_pos _
   ·exact Nat.two_pow_pos _
  show rowSm D n T j0 pix m*2^D+_<_
  have e:2^(D*(m+1))=2^(D*m)*2^D:=by rw[Nat.mul_add,Nat.pow_add,Nat.mul_one]
  rw[e]
  have:(rowSm D n T j0 pix m+1)*2^D<=2^(D*m)*2^D:=Nat.mul_le_mul_right _ ih
  rw[Nat.add_mul,Nat.one_mul] at this;omega
end Px
namespace Go.Proofs.YthniahejjamhgaaGreatDoor
open Go.RowKit Px
set_option linter.unusedSimpArgs false
set_option linter.unusedVariables false
theorem krow_8 (x wd K D per k i:Nat) (xp:Option Addr) (xc:Nat) (pix:List Int) (w:World) (hK:K=0\/K=2\/K=3\/K=4\/K=6) (hD:D=1/\per=8\/D=2/\per=4\/D=4/\per=2\/D=8/\per=1) (c0:w.cell? ⟨x,0,none⟩=some (.int .i64 (wd:Int))) (c2:w.cell? ⟨x,2,none⟩=some (.int .i64 (K:Int))) (c3:w.cell? ⟨x,3,none⟩=some (.int .i64 (D:Int))) (c6:w.cell? ⟨x,6,none⟩=some (.slice xp pix.length xc)) (lx:LAt w .i64 (.slice xp pix.length xc) pix) (h1:wd<=16) (h2:k<=16) (h3:i<=1024) (hin:k*(wd*chan K)+wd*chan K<=pix.length) (hb:∀ y ∈ pix,0<=y/\y<((2^D:Nat):Int)) :
  Calls Tryz.prog 25 #[.pointer (some ⟨x,0,none⟩),.int .i64 (k:Int),.int .i64 (i:Int)] w fun r w'=>r = .returned (.int .i64 (rowSm D (wd*chan K) (k*(wd*chan K)) (per*i) pix per:Int))/\w'=w:=by
 have FC:Hid (Calls Tryz.prog 13 #[.int .i64 (K:Int)] w fun r w'=>r = .returned (.int .i64 (chan K:Int))/\w'=w):=channels_any K w hK;have hC:=(@chan_le K).2;generalize chan K=C at *;have hM:wd*C<=64:=Nat.le_trans (Nat.mul_le_mul h1 hC) (by decide);have eM:(wd:Int)*(C:Int)=((wd*C:Nat):Int):=by simp
 generalize wd*C=M at *;have hT:k*M<=1024:=Nat.le_trans (Nat.mul_le_mul h2 hM) (by decide);have eT:(k:Int)*(M:Int)=((k*M:Nat):Int):=by simp
 generalize k*M=T at *;have hp8:per<=8:=by omega
 have hp1:1<=per:=by omega
 have hd8:D<=8:=by omega
 have hd1:1<=D:=by omega
 have eP:(8:Int) / (D:Int)=(per:Int):=by rcases hD with ⟨rfl,rfl⟩ | ⟨rfl,rfl⟩ | ⟨rfl,rfl⟩ | ⟨rfl,rfl⟩<;>rfl
 have eDP:D*per=8:=by rcases hD with ⟨rfl,rfl⟩ | ⟨rfl,rfl⟩ | ⟨rfl,rfl⟩ | ⟨rfl,rfl⟩<;>rfl
 have hd0:((D:Int) == 0)=false:=by rw[beq_eq_false_iff_ne];omega
 have hd16:((D:Int) == 16)=false:=by rw[beq_eq_false_iff_ne];omega
 have hQ:per*i<=8192:=Nat.le_trans (Nat.mul_le_mul hp8 h3) (by decide);have eQ:(per:Int)*(i:Int)=((per*i:Nat):Int):=by simp
 generalize per*i=Q at *;have HB:Hid (∀ m,m<=per->rowSm D M T Q pix m<256):=fun m hm=>Nat.lt_of_lt_of_le (rowSm_lt D M T Q pix hb m) (by
  have:D*m<=D*per:=Nat.mul_le_mul_left _ hm
  exact Nat.le_trans (Nat.pow_le_pow_right (by omega) (show D*m<=8 by omega)) (by decide))
 have HS:Hid (∀ m,rowSm D M T Q pix (m+1)=rowSm D M T Q pix m*2^D+(if Q+m<M then (pix.getD (T+(Q+m)) 0).toNat else 0)):=fun _=>rfl
 have HPB:Hid (∀ y ∈ pix,0<=y/\y<256):=fun y hy=>by
  have h5:=hb y hy
  have:2^D<=256:=Nat.le_trans (Nat.pow_le_pow_right (by omega) hd8) (by decide)
  omega
 have HLX:Hid (LAt w .i64 (.slice xp pix.length xc) pix):=lx;have i0:(0:Int)<=(i:Int):=by omega
 have k0:(0:Int)<=(k:Int):=by omega
 have hdI:(D:Int)<=8:=by omega
 have hdI1:(1:Int)<=(D:Int):=by omega
 have h0S:rowSm D M T Q pix 0=0:=rfl;obtain ⟨R,hR⟩:∃ R,R=rowSm D M T Q pix:=⟨_,rfl⟩;rw[<- hR] at HB HS h0S ⊢;replace h0S:Hid _:=h0S;clear hR hb lx hD hK eDP;go_enter Tryz.func25,Tryz.ntmps25;go_wp2_with fail;refine FC.out.mono ?_;rintro r w1 ⟨rfl,rfl⟩;go_wp2;go_loopw [11,12] (fun u v W'=>∃ m:Nat,m<=per/\u = .int .i64 (R m:Int)/\v = .int .i64 ((Q+m:Nat):Int)/\W'=w1) (fun _ v _=>Q+per - (intOf v).toNat)
 case atStart=>exact ⟨0,by omega,by rw[h0S.out];rfl,by go_num,rfl⟩
 case round=>
  obtain ⟨m,hm,rfl,rfl,rfl⟩:=hrel;obtain ⟨J,hJ⟩:∃ J,J=Q+m:=⟨_,rfl⟩;have hr:=HB.out m hm;have HSm:=HS.out m;rw[<- hJ] at HSm ⊢;obtain ⟨r,hrr⟩:∃ r,r=R m:=⟨_,rfl⟩;rw[<- hrr] at HSm hr ⊢;replace hrr:Hid (r=R m):=hrr;replace HSm:Hid _:=HSm;have hJe:Hid (J=Q+m):=hJ;have hJ2:J<=8200:=by omega
  by_cases hlt:m<per
  ·have j1:(J:Int)<(Q:Int)+(per:Int):=by omega
   have hs2:r*2^D<65536:=by
    have e:2^D<=256:=Nat.le_trans (Nat.pow_le_pow_right (by omega) hd8) (by decide);exact Nat.lt_of_lt_of_le (Nat.mul_lt_mul_of_lt_of_le hr e (by decide)) (by decide)
   have eS:(r:Int)*2^D=((r*2^D:Nat):Int):=by simp
   obtain ⟨S,hS⟩:∃ S,S=r*2^D:=⟨_,rfl⟩;rw[<- hS] at eS hs2 HSm;have wS:IntKind.i64.wrap ((r:Int)*2^D)=(S:Int):=by rw[eS,IntKind.wrap_i64];omega
   clear hS;by_cases hJM:J<M
   ·have hJM':(J:Int)<(M:Int):=by omega
    have hin2:T+J<pix.length:=by omega
    obtain ⟨g,o,rfl,hc⟩:=HLX.out.cellAt (T+J) hin2;have hv:=HPB.out _ (getD_mem hin2);rw[if_pos hJM] at HSm;obtain ⟨V,hV⟩:∃ V:Nat,pix.getD (T+J) 0=(V:Int):=⟨(pix.getD (T+J) 0).toNat,by omega⟩;rw[hV] at hc hv HSm;rw[Int.toNat_natCast] at HSm;have hv1:V<256:=by omega
    clear hv hV;have a1:(T:Int)+(J:Int)<(pix.length:Int):=by omega
    have a0:(0:Int)<=(T:Int)+(J:Int):=by omega
    clear hJ;go_wp2;refine ⟨⟨m+1,by omega,?_,?_,by first | rfl | trivial⟩,?_⟩
    ·rw[HSm.out];first | rfl | go_num
    ·rw[show Q+(m+1)=J+1 by have:=hJe.out;omega];first | rfl | go_num
    ·simp [intOf];omega
   ·have hJM':¬ (J:Int)<(M:Int):=by omega
    rw[if_neg hJM,Nat.add_zero] at HSm;go_wp2;refine ⟨⟨m+1,by omega,?_,?_,by first | rfl | trivial⟩,?_⟩
    ·rw[HSm.out];first | rfl | (rw[Nat.add_zero])
    ·rw[show Q+(m+1)=J+1 by have:=hJe.out;omega];first | rfl | go_num
    ·simp [intOf];omega
  ·have hme:m=per:=by omega
   have j1:¬ (J:Int)<(Q:Int)+(per:Int):=by omega
   subst hme;go_wp2;go_ret;refine ⟨?_,rfl⟩;rw[<- hrr.out];rfl
theorem layK_flat (D:Nat) (pl:List Int) (A B:Nat) (z:Nat->Nat):∀ k,layKB D pl (A+B) B (layKB D pl A 0 z B) k=layKB D pl A 0 z (B+k)
 | 0=>rfl
 | k+1=>by
  show laySB D (layKB D pl (A+B) B (layKB D pl A 0 z B) k) (B+k) (pl.getD (A+B+k) 0).toNat=laySB D (layKB D pl A 0 z (B+k)) (0+(B+k)) (pl.getD (A+(B+k)) 0).toNat
  rw[layK_flat D pl A B z k,Nat.zero_add,Nat.add_assoc]
theorem layC_flat (D C:Nat) (pl:List Int) (pos:Nat->Nat) (A:Nat) (hp:∀ c,pos c=A+c*C):∀ c,layCB D C pl pos c=layKB D pl A 0 (fun _=>0) (c*C)
 | 0=>by rw[Nat.zero_mul];rfl
 | c+1=>by
  show layKB D pl (pos c) (c*C) (layCB D C pl pos c) C=_
  rw[layC_flat D C pl pos A hp c,hp c,layK_flat,Nat.add_mul,Nat.one_mul]
theorem rowAt_flat (W K D i:Nat) (pl:List Int) (hW:1<=W):rowAtB W K D 0 1 0 1 pl i=layKB D pl (i*(W*chan K)) 0 (fun _=>0) (W*chan K):=by
 unfold rowAtB;have hw:within 0 1 W=W:=by
  unfold within;rw[if_neg (by omega),Nat.div_one];omega
 rw[hw,layC_flat D (chan K) pl _ (i*(W*chan K)) (fun c=>by rw[Nat.zero_add,Nat.mul_one,Nat.zero_add,Nat.mul_one,Nat.add_mul,Nat.mul_assoc])]
theorem layK_16 (pl:List Int) (A:Nat):∀ (n j:Nat),layKB 16 pl A 0 (fun _=>0) n j=if j<2*n then (if j % 2=0 then (pl.getD (A+j / 2) 0).toNat / 256 else (pl.getD (A+j / 2) 0).toNat % 256) else 0
 | 0,j=>by rw[if_neg (by omega)];rfl
 | n+1,j=>by
  show laySB 16 (layKB 16 pl A 0 (fun _=>0) n) (0+n) (pl.getD (A+n) 0).toNat j=_
  unfold laySB;rw[if_neg (by omega),Nat.zero_add,show n*16 / 8=2*n by omega];by_cases h1:j=2*n+1
  ·subst h1
   rw[upd_same,if_pos (by omega),if_neg (by omega),show (2*n+1) / 2=n by omega]
  ·rw[upd_ne _ _ _ h1]
   by_cases h2:j=2*n
   ·subst h2
    rw[upd_same,if_pos (by omega),if_pos (by omega),show 2*n / 2=n by omega]
   ·rw[upd_ne _ _ _ h2,layK_16 pl A n j]
    by_cases h3:j<2*n
    ·rw[if_pos h3,if_pos (show j<2*(n+1) by omega)]
    ·rw[if_neg h3,if_neg (show ¬ j<2*(n+1) by omega)]
theorem out_undo (x g:Nat) (hx:x<256) (hg:g<256):((x+256 - g) % 256+g) % 256=x:=by omega
end Go.Proofs.YthniahejjamhgaaGreatDoor
namespace Px
theorem rowSm_same (D n n' T j0:Nat) (pix:List Int):∀ m,(∀ i,i<m->(j0+i<n ↔ j0+i<n'))->rowSm D n T j0 pix m=rowSm D n' T j0 pix m
 | 0,_=>rfl
 | m+1,h=>by
  show rowSm D n T j0 pix m*2^D+(if j0+m<n then _ else _)=rowSm D n' T j0 pix m*2^D+(if j0+m<n' then _ else _)
  rw[rowSm_same D n n' T j0 pix m (fun i hi=>h i (by omega))]
  have:=h m (by omega)
  by_cases h5:j0+m<n
  ·rw[if_pos h5,if_pos (this.1 h5)]
  ·rw[if_neg h5,if_neg (fun e=>h5 (this.2 e))]
theorem rowSm_none (D n T j0 m:Nat) (pix:List Int) (h:n<=j0+m):∀ t,rowSm D n T j0 pix (m+t)=rowSm D n T j0 pix m*2^(D*t)
 | 0=>by rw[Nat.mul_zero,Nat.pow_zero,Nat.mul_one];rfl
 | t+1=>by
  show rowSm D n T j0 pix (m+t)*2^D+(if j0+(m+t)<n then _ else _)=_
  rw[if_neg (by omega),rowSm_none D n T j0 m pix h t,Nat.add_zero,Nat.mul_assoc,<- Nat.pow_add,Nat.mul_add,Nat.mul_one]
theorem or_add (a v i e:Nat) (h:v*2^e<2^i):a*2^i ||| v*2^e=a*2^i+v*2^e:=by
 have:=Nat.shiftLeft_add_eq_or_of_lt (b:=v*2^e) (i:=i) h a
 rw[Nat.shiftLeft_eq] at this;exact this.symm
end Px
namespace Go.Proofs.YthniahejjamhgaaGreatDoor
open Go.RowKit Px
set_option linter.unusedSimpArgs false
set_option linter.unusedVariables false
theorem lay_at (D per n:Nat) (hD:D=1/\per=8\/D=2/\per=4\/D=4/\per=2\/D=8/\per=1):n*D / 8=n / per/\8 - n*D % 8 - D=D*(per - 1 - n % per)/\n=per*(n / per)+n % per/\n % per<per/\D*(per - 1 - n % per)+D<=8:=by
 rcases hD with ⟨rfl,rfl⟩ | ⟨rfl,rfl⟩ | ⟨rfl,rfl⟩ | ⟨rfl,rfl⟩<;>omega
theorem layK_8 (D per:Nat) (hD:D=1/\per=8\/D=2/\per=4\/D=4/\per=2\/D=8/\per=1) (pl:List Int) (A:Nat) (hb:∀ y ∈ pl,0<=y/\y<((2^D:Nat):Int)):∀ (n j:Nat),layKB D pl A 0 (fun _=>0) n j=rowSm D n A (per*j) pl per
 | 0,j=>by
  have:=rowSm_none D 0 A (per*j) 0 pl (by omega) per
  rw[Nat.zero_add] at this;rw[this];show 0=0*_
  rw[Nat.zero_mul]
 | n+1,j=>by
  have ih:=layK_8 D per hD pl A hb n;obtain ⟨e1,e2,e3,e4,e5⟩:=lay_at D per n hD;show laySB D (layKB D pl A 0 (fun _=>0) n) (0+n) (pl.getD (A+n) 0).toNat j=_
  unfold laySB;rw[if_pos (by omega),Nat.zero_add,e1,e2];have hv:(pl.getD (A+n) 0).toNat<2^D:=by
   by_cases hl:A+n<pl.length
   ·have:=hb (pl.getD (A+n) 0) (by rw[List.getD_eq_getElem?_getD,List.getElem?_eq_getElem hl];exact List.getElem_mem hl)
    omega
   ·rw[List.getD_eq_getElem?_getD,List.getElem?_eq_none (by omega)];exact Nat.two_pow_pos _
  by_cases hj:j=n / per
  ·subst hj
   rw[upd_same,ih];obtain ⟨r,hr⟩:∃ r,r=n % per:=⟨_,rfl⟩;obtain ⟨q,hq⟩:∃ q,q=per*(n / per):=⟨_,rfl⟩;obtain ⟨t,ht⟩:∃ t,t=per - 1 - n % per:=⟨_,rfl⟩;rw[<- hr] at e3 e4;rw[<- hq] at e3 ⊢;rw[<- ht] at e5 ⊢;have hper:per=r+(t+1):=by omega
   have f1:rowSm D n A q pl per=rowSm D n A q pl r*2^(D*(t+1)):=by rw[hper];exact rowSm_none D n A q r pl (by omega) (t+1)
   have f2:rowSm D (n+1) A q pl per=rowSm D (n+1) A q pl (r+1)*2^(D*t):=by rw[hper,show r+(t+1)=r+1+t by omega];exact rowSm_none D (n+1) A q (r+1) pl (by omega) t
   have f3:rowSm D (n+1) A q pl (r+1)=rowSm D n A q pl r*2^D+(pl.getD (A+n) 0).toNat:=by
    show rowSm D (n+1) A q pl r*2^D+(if q+r<n+1 then (pl.getD (A+(q+r)) 0).toNat else 0)=_
    rw[if_pos (by omega),<- e3,rowSm_same D (n+1) n A q pl r (fun i hi=>by omega)]
   generalize (pl.getD (A+n) 0).toNat=v at *;have hp:v*2^(D*t)<2^(D*(t+1)):=by
    rw[Nat.mul_add,Nat.mul_one,Nat.pow_add,Nat.mul_comm (2^(D*t))];exact Nat.mul_lt_mul_of_pos_right hv (Nat.two_pow_pos _)
   have h256:2^(D*(t+1))<=256:=by
    rw[Nat.mul_add,Nat.mul_one];exact Nat.le_trans (Nat.pow_le_pow_right (by omega) e5) (by decide)
   rw[Nat.mod_eq_of_lt (Nat.lt_of_lt_of_le hp h256),f1,f2,f3,or_add _ _ _ _ hp,Nat.add_mul,Nat.mul_assoc,<- Nat.pow_add,show D+D*t=D*(t+1) by rw[Nat.mul_add,Nat.mul_one];omega]
  ·rw[upd_ne _ _ _ hj,ih]
   refine rowSm_same D n (n+1) A (per*j) pl per (fun i hi => ?_)
   have:per*j+i≠n:=by
    intro e;apply hj;rw[<- e,Nat.mul_add_div (by omega),Nat.div_eq_of_lt hi,Nat.add_zero]
   omega
theorem krow_x (x wd H K D k i:Nat) (xp:Option Addr) (xc:Nat) (pix:List Int) (w:World) (hk:legal K D) (c0:w.cell? ⟨x,0,none⟩=some (.int .i64 (wd:Int))) (c2:w.cell? ⟨x,2,none⟩=some (.int .i64 (K:Int))) (c3:w.cell? ⟨x,3,none⟩=some (.int .i64 (D:Int))) (c6:w.cell? ⟨x,6,none⟩=some (.slice xp pix.length xc)) (lx:LAt w .i64 (.slice xp pix.length xc) pix) (h0:1<=wd) (h1:wd<=16) (h2:H<=16) (hkH:k<H) (hi:i<(wd*(chan K*D)+7) / 8) (hpL:pix.length=wd*H*chan K) (hb:∀ y ∈ pix,0<=y/\y<((2^D:Nat):Int)) :
  Calls Tryz.prog 25 #[.pointer (some ⟨x,0,none⟩),.int .i64 (k:Int),.int .i64 (i:Int)] w fun r w'=>r = .returned (.int .i64 (rowAtB wd K D 0 1 0 1 pix k i:Int))/\w'=w:=by
 have hC:=(@chan_le K).2;have hin:k*(wd*chan K)+wd*chan K<=pix.length:=by
  rw[hpL,Nat.mul_comm wd H,Nat.mul_assoc]
  have:=Nat.mul_le_mul_right (wd*chan K) (show k+1<=H by omega)
  rw[Nat.add_mul,Nat.one_mul] at this;exact this
 have hM:wd*chan K<=64:=Nat.le_trans (Nat.mul_le_mul h1 hC) (by decide);rw[<- Nat.mul_assoc] at hi;rw[rowAt_flat wd K D k pix h0];by_cases hD:D=16
 ·subst hD
  have hi2:i<2*(wd*chan K):=by omega
  have h5:=krow_16 x wd K k i xp xc pix w hk.k c0 c2 c3 c6 lx h1 (by omega) (by omega) (by omega) (fun y hy=>hb y hy);have hv:=hb _ (getD_mem (show k*(wd*chan K)+i / 2<pix.length by omega));rw[layK_16,if_pos hi2];refine h5.mono ?_;rintro r w' ⟨e,h6⟩;refine ⟨?_,h6⟩;rw[e];by_cases h7:i % 2=0
  ·rw[if_pos h7,if_pos h7];exact ret_int (by omega)
  ·rw[if_neg h7,if_neg h7];exact ret_int (by omega)
 ·have hd:=hk.d
  obtain ⟨per,hp⟩:∃ per,D=1/\per=8\/D=2/\per=4\/D=4/\per=2\/D=8/\per=1:=by
   rcases hd with rfl | rfl | rfl | rfl | rfl
   ·exact ⟨8,by omega⟩
   ·exact ⟨4,by omega⟩
   ·exact ⟨2,by omega⟩
   ·exact ⟨1,by omega⟩
   ·omega
  rw[layK_8 D per hp pix _ hb];have hib:i<=1024:=by
   have:wd*chan K*D<=64*16:=Nat.mul_le_mul hM (by omega)
   omega
  exact krow_8 x wd K D per k i xp xc pix w hk.k hp c0 c2 c3 c6 lx h1 (by omega) hib hin hb
