import Derived.Test.YtmbmecfodigciaaGreatDoorGr00
import Derived.Laws.IdiomCopy
import Derived.Deep.WholeRow
import Derived.Deep.MidRow
import Derived.Deep.CutBlock
import Derived.Deep.CutRange
import Derived.OpenShut
import Derived.Deep.AppendLies
import Derived.Deep.RegionLaw
import Derived.Deep.RegionHeld3
set_option maxRecDepth 100000
set_option maxHeartbeats 6400000
namespace Go.Proofs.YtmbmecfodigciaaGreatDoor
open Go.RowKit Px
set_option linter.unusedSimpArgs false
set_option linter.unusedVariables false
structure RwOk (r:Rw):Prop where
 W:r.hd.W≤16
 H:r.hd.H≤16
 D:r.hd.D≤16
 K:r.hd.K≤6
 L:r.hd.L≤1
 filter:r.filter<256
 row:∀ i,r.row i<256
 above:∀ i,r.above i<256
theorem Blk.at {w:World} {b n:Nat} {c:Nat→Value} (h:Blk w b n c) {i:Nat} {v:Value} (hi:i<n) (e:c i=v):w.cell? ⟨b,i,none⟩=some v:=by rw[h.cell i hi,e]
def bitsP (h:Hd):Nat:=chn h.K*h.D
def stepP (h:Hd):Nat:=max 1 (bitsP h / 8)
theorem bitsP_le {r:Rw} (h:RwOk r):bitsP r.hd≤64:=Nat.mul_le_mul (chn_le _) h.D
theorem pixelBits_x (b o n:Nat) (c:Nat→Value) (r:Rw) (w:World) (hB:Blk w b n c) (hV:RwV c o r) (hn:o+1549≤n) (hk:RwOk r) :
  Calls Tryz.prog 163 #[.pointer (some ⟨b,o,none⟩)] w fun e w'=>e = .returned (.int .i64 (bitsP r.hd:Int))∧∃ q,w'=w.drewN q:=by
 have k3:=hB.at (i:=o+3) (by omega) hV.hd.K
 have k2:=hB.at (i:=o+2) (by omega) hV.hd.D
 have F:Hid (∀ W':World,Calls Tryz.prog 93 #[.int .i64 (r.hd.K:Int)] W' fun e w'=>e = .returned (.int .i64 (chn r.hd.K:Int))∧w'=W'):=fun W'=>samples_x _ W' (by have:=hk.K;omega)
 have hc:=chn_le r.hd.K
 have hd:=hk.D
 unfold bitsP
 generalize chn r.hd.K=C at *
 generalize r.hd.D=D at *
 generalize r.hd.K=K at *
 have hCD:C*D≤64:=Nat.mul_le_mul hc hd
 obtain ⟨T,hT⟩:∃ T,T=C*D:=⟨_,rfl⟩
 have e:(C:Int)*(D:Int)=(T:Int):=by rw[hT];simp
 rw[← hT] at hCD ⊢
 clear hT
 clear hB hV hk
 go_enter Tryz.func163,Tryz.ntmps163
 go_wp2_with fail
 go_quiet ((go_at_call 93;exact Calls.quiet_of_same (F.out _)))
 go_wp2
 go_ret
 exact ⟨ret_int (by omega),_,rfl⟩
theorem step_x (b o n:Nat) (c:Nat→Value) (r:Rw) (w:World) (hB:Blk w b n c) (hV:RwV c o r) (hn:o+1549≤n) (hk:RwOk r) :
  Calls Tryz.prog 202 #[.pointer (some ⟨b,o,none⟩)] w fun e w'=>e = .returned (.int .i64 (stepP r.hd:Int))∧∃ q,w'=w.drewN q:=by
 have F:Hid (Calls Tryz.prog 163 #[.pointer (some ⟨b,o,none⟩)] w fun e w'=>e = .returned (.int .i64 (bitsP r.hd:Int))∧∃ q,w'=w.drewN q):=pixelBits_x b o n c r w hB hV hn hk
 have hb:=bitsP_le hk
 unfold stepP
 generalize bitsP r.hd=P at *
 clear hB hV hk
 go_enter Tryz.func202,Tryz.ntmps202
 go_wp2_with fail
 refine F.out.mono ?_
 rintro e w1 ⟨rfl,q,hk1⟩
 subst w1
 go_wp2
 all_goals
  go_ret
  exact ⟨ret_int (by omega),q,rfl⟩
def cntP (L:Nat):Nat:=if L=1 then 7 else 1
theorem count_x (L:Nat) (w:World) :
  Calls Tryz.prog 94 #[.int .i64 (L:Int)] w fun e w'=>e = .returned (.int .i64 (cntP L:Int))∧w'=w:=by
 unfold cntP
 by_cases h:L=1
 ·subst h
  rw[if_pos rfl]
  go_enter Tryz.func94,Tryz.ntmps94
  go_wp2
  go_ret
  exact ⟨rfl,rfl⟩
 ·rw[if_neg h]
  have h':((L:Int) == 1)=false:=by rw[beq_eq_false_iff_ne];omega
  go_enter Tryz.func94,Tryz.ntmps94
  go_wp2
  go_ret
  exact ⟨rfl,rfl⟩
def wholeP (r:Rw):Bool:=decide ((cntP r.hd.L:Int)≤r.pass)
theorem whole_x (b o n:Nat) (c:Nat→Value) (r:Rw) (w:World) (hB:Blk w b n c) (hV:RwV c o r) (hn:o+1549≤n) :
  Calls Tryz.prog 144 #[.pointer (some ⟨b,o,none⟩)] w fun e w'=>e = .returned (.bool (wholeP r))∧∃ q,w'=w.drewN q:=by
 have k4:=hB.at (i:=o+4) (by omega) hV.hd.L
 have k6:=hB.at (i:=o+6) (by omega) hV.pass
 have F:Hid (∀ W':World,Calls Tryz.prog 94 #[.int .i64 (r.hd.L:Int)] W' fun e w'=>e = .returned (.int .i64 (cntP r.hd.L:Int))∧w'=W'):=fun W'=>count_x _ W'
 unfold wholeP
 generalize cntP r.hd.L=C at *
 generalize r.hd.L=L at *
 generalize r.pass=P at *
 clear hB hV
 go_enter Tryz.func144,Tryz.ntmps144
 go_wp2_with fail
 go_quiet ((go_at_call 94;exact Calls.quiet_of_same (F.out _)))
 go_wp2
 go_ret
 exact ⟨ret_bool (by simp),_,rfl⟩
theorem index_x (x y:Nat) (w:World) (hx:x≤1000) (hy:y≤1000) :
  Calls Tryz.prog 124 #[.int .i64 (x:Int),.int .i64 (y:Int)] w fun e w'=>e = .returned (.tuple #[.int .i64 (if x<16∧y<16 then (y*16+x:Nat) else 0:Int),.bool (decide (x<16∧y<16))])∧w'=w:=by
 by_cases h:x<16
 ·by_cases h2:y<16
  ·rw[if_pos ⟨h,h2⟩,decide_eq_true (⟨h,h2⟩:x<16∧y<16)]
   have g1:¬ (x:Int)<0:=by omega
   have g2:¬ (y:Int)<0:=by omega
   have g3:¬ (16:Int)≤(x:Int):=by omega
   have g4:¬ (16:Int)≤(y:Int):=by omega
   go_enter Tryz.func124,Tryz.ntmps124
   go_wp2
   go_ret2
   refine ⟨?_,rfl⟩
   have e:(y:Int)*16+(x:Int)=((y*16+x:Nat):Int):=by omega
   rw[e]
   rfl
  ·rw[if_neg (fun q=>h2 q.2),decide_eq_false (fun q:x<16∧y<16=>h2 q.2)]
   have g1:¬ (x:Int)<0:=by omega
   have g2:¬ (y:Int)<0:=by omega
   have g3:¬ (16:Int)≤(x:Int):=by omega
   have g4:(16:Int)≤(y:Int):=by omega
   go_enter Tryz.func124,Tryz.ntmps124
   go_wp2
   go_ret2
   exact ⟨rfl,rfl⟩
 ·rw[if_neg (fun q=>h q.1),decide_eq_false (fun q:x<16∧y<16=>h q.1)]
  have g1:¬ (x:Int)<0:=by omega
  have g3:(16:Int)≤(x:Int):=by omega
  go_enter Tryz.func124,Tryz.ntmps124
  go_wp2
  go_ret2
  exact ⟨rfl,rfl⟩
def bitsO (x a n:Nat):Nat:=x / 2^(8 - a - n) % 2^n
theorem bitsO_lt (x a n:Nat):bitsO x a n<2^n:=Nat.mod_lt _ (Nat.two_pow_pos n)
theorem u16_and (a n:Nat) (h:a<65536) (hn:n≤8):bits .and .u16 (a:Int) ((2^n - 1:Nat):Int)=((a % 2^n:Nat):Int):=by
 have hp:2^n≤256:=Nat.pow_le_pow_right (n:=2) (by omega) hn
 show IntKind.u16.wrap ((BitVec.ofInt 16 (a:Int) &&& BitVec.ofInt 16 ((2^n - 1:Nat):Int)).toNat:Int)=_
 have e1:(BitVec.ofInt 16 (a:Int)).toNat=a:=by rw[BitVec.ofInt_natCast,BitVec.toNat_ofNat];exact Nat.mod_eq_of_lt (by omega)
 have e2:(BitVec.ofInt 16 ((2^n - 1:Nat):Int)).toNat=2^n - 1:=by rw[BitVec.ofInt_natCast,BitVec.toNat_ofNat];exact Nat.mod_eq_of_lt (by omega)
 rw[BitVec.toNat_and,e1,e2,Nat.and_two_pow_sub_one_eq_mod]
 have:a % 2^n<65536:=Nat.lt_of_le_of_lt (Nat.mod_le _ _) h
 rw[IntKind.wrap_u16]
 omega
theorem bitsOf_x (x a n:Nat) (w:World) (hx:x<256) (ha:a+n≤8) :
  Calls Tryz.prog 206 #[.int .u8 (x:Int),.int .i64 (a:Int),.int .i64 (n:Int)] w fun e w'=>e = .returned (.int .u16 (bitsO x a n:Int))∧w'=w:=by
 have g1:¬ (a:Int)<0:=by omega
 have g2:¬ (n:Int)<0:=by omega
 have g3:¬ (8:Int)<(a:Int)+(n:Int):=by omega
 have n8:n≤8:=by omega
 have a8:a≤8:=by omega
 go_enter Tryz.func206,Tryz.ntmps206
 go_wp2
 go_ret
 refine ⟨ret_int ?_,rfl⟩
 have hp:2^n≤256:=Nat.pow_le_pow_right (n:=2) (by omega) n8
 have hp1:1≤2^n:=Nat.one_le_two_pow
 have e0:(2:Int)^n=((2^n:Nat):Int):=by simp
 have e1:(x:Int) / 2^(8 - a - n)=((x / 2^(8 - a - n):Nat):Int):=by simp
 have e2:IntKind.u16.wrap (IntKind.u16.wrap (2^n) - 1)=((2^n - 1:Nat):Int):=by
  rw[e0,IntKind.wrap_u16,IntKind.wrap_u16];omega
 show bits .and .u16 ((x:Int) / 2^(8 - a - n)) (IntKind.u16.wrap (IntKind.u16.wrap (2^n) - 1))=_
 rw[e1,e2,u16_and _ _ (Nat.lt_of_le_of_lt (Nat.div_le_self _ _) (by omega)) n8]
 rfl
def smpO (r:Rw) (i:Nat):Nat:=if r.hd.D<16 then bitsO (r.row (i*r.hd.D / 8)) (i*r.hd.D % 8) r.hd.D else 256*r.row (i*r.hd.D / 8)+r.row (i*r.hd.D / 8+1)
def okD (D:Nat):Prop:=D=1∨D=2∨D=4∨D=8∨D=16
theorem u16_or8 (a c:Nat) (ha:a<256) (hc:c<256):bits .or .u16 ((a:Int)*256) (c:Int)=((256*a+c:Nat):Int):=by
 show IntKind.u16.wrap ((BitVec.ofInt 16 ((a:Int)*256) ||| BitVec.ofInt 16 (c:Int)).toNat:Int)=_
 have q:(a:Int)*256=((a*256:Nat):Int):=by omega
 have e1:(BitVec.ofInt 16 ((a:Int)*256)).toNat=a*256:=by rw[q,BitVec.ofInt_natCast,BitVec.toNat_ofNat];exact Nat.mod_eq_of_lt (by omega)
 have e2:(BitVec.ofInt 16 (c:Int)).toNat=c:=by rw[BitVec.ofInt_natCast,BitVec.toNat_ofNat];exact Nat.mod_eq_of_lt (by omega)
 have e3:a*256 ||| c=256*a+c:=by
  have:=Nat.shiftLeft_add_eq_or_of_lt (b:=c) (i:=8) (by omega) a
  rw[Nat.shiftLeft_eq,show (2^8:Nat)=256 from rfl] at this
  omega
 rw[BitVec.toNat_or,e1,e2,e3,IntKind.wrap_u16]
 omega
theorem sample_x (b o n i:Nat) (c:Nat→Value) (r:Rw) (w:World) (hB:Blk w b n c) (hV:RwV c o r) (hn:o+1549≤n) (hk:RwOk r) (hD:okD r.hd.D) (hi:i*r.hd.D+r.hd.D≤1024) (hi2:i≤1024) :
  Calls Tryz.prog 205 #[.pointer (some ⟨b,o,none⟩),.int .i64 (i:Int)] w fun e w'=>e = .returned (.int .u16 (smpO r i:Int))∧∃ q,w'=w.drewN q:=by
 have k2:=hB.at (i:=o+2) (by omega) hV.hd.D
 have hdd:=hk.D
 unfold smpO
 obtain ⟨D,hD0⟩:∃ D,D=r.hd.D:=⟨_,rfl⟩
 rw[← hD0] at k2 hdd hD hi ⊢
 obtain ⟨T,hT⟩:∃ T,T=i*D:=⟨_,rfl⟩
 have eT:(i:Int)*(D:Int)=(T:Int):=by rw[hT];simp
 rw[← hT] at hi ⊢
 have hr1:r.row (T / 8)<256:=hk.row _
 have hr2:r.row (T / 8+1)<256:=hk.row _
 have hDp:1≤D:=by unfold okD at hD;omega
 have ht8:T / 8<128:=by omega
 have q1:=hB.at (i:=o+13+T / 8) (by omega) (hV.row (T / 8) ht8)
 have eT8:(T:Int) / 8=((T / 8:Nat):Int):=by omega
 have eTm:(T:Int) % 8=((T % 8:Nat):Int):=by omega
 obtain ⟨A,hA⟩:∃ A,A=T / 8:=⟨_,rfl⟩
 obtain ⟨M,hM⟩:∃ M,M=T % 8:=⟨_,rfl⟩
 rw[← hA] at hr1 hr2 ht8 q1 eT8 ⊢
 rw[← hM] at eTm ⊢
 have g1:¬ (A:Int)<0:=by omega
 have g2:¬ (128:Int)≤(A:Int):=by omega
 have g3:(0:Int)≤(A:Int):=by omega
 have g4:(A:Int)<128:=by omega
 by_cases h16:D<16
 ·have hMD:M+D≤8:=by
   rw[hM,hT]
   rcases hD with h | h | h | h | h
   ·omega
   ·rw[h];omega
   ·rw[h];omega
   ·rw[h];omega
   ·omega
  have F:Hid (∀ W':World,Calls Tryz.prog 206 #[.int .u8 (r.row A:Int),.int .i64 (M:Int),.int .i64 (D:Int)] W' fun e w'=>e = .returned (.int .u16 (bitsO (r.row A) M D:Int))∧w'=W'):=fun W'=>bitsOf_x _ _ _ W' hr1 hMD
  rw[if_pos h16]
  generalize r.row A=X at *
  have h16':(D:Int)<16:=by omega
  generalize bitsO X M D=Y at *
  clear hB hV hk hT hA hM hD0
  go_enter Tryz.func205,Tryz.ntmps205
  go_wp2_with fail
  go_quiet ((go_at_call 206;exact Calls.quiet_of_same (F.out _)))
  go_wp2
  go_ret
  exact ⟨rfl,_,rfl⟩
 ·have hD16:D=16:=by omega
  have h16':¬ (D:Int)<16:=by omega
  have hA1:A+1<128:=by omega
  have q2:=hB.at (i:=o+13+(A+1)) (by omega) (hV.row (A+1) hA1)
  have e5:(A:Int)+1=((A+1:Nat):Int):=by omega
  have g5:¬ (128:Int)≤((A+1:Nat):Int):=by omega
  have g6:((A+1:Nat):Int)<128:=by omega
  have g7:(0:Int)≤((A+1:Nat):Int):=by omega
  obtain ⟨A1,hA1'⟩:∃ A1,A1=A+1:=⟨_,rfl⟩
  rw[← hA1'] at q2 e5 g5 g6 g7 hr2 ⊢
  rw[if_neg h16]
  have hY:=u16_or8 (r.row A) (r.row A1) hr1 hr2
  generalize r.row A=X at *
  generalize r.row A1=X1 at *
  replace hY:Hid _:=hY
  clear hB hV hk hT hA hM hD0 hA1' hD16
  go_enter Tryz.func205,Tryz.ntmps205
  go_wp2_with fail
  go_quiet (fail)
  go_wp2
  go_ret
  exact ⟨ret_int (by first | exact hY.out | (rw[← hY.out])),_,rfl⟩
def leftP (r:Rw) (i:Nat):Nat:=if stepP r.hd≤i then r.row (i - stepP r.hd) else 0
def cornP (r:Rw) (i:Nat):Nat:=if stepP r.hd≤i then r.above (i - stepP r.hd) else 0
def undo (r:Rw) (i x:Nat):Nat:=(x+gss r.filter (leftP r i) (r.above i) (cornP r i)) % 256
def Rw.lay (r:Rw) (i x:Nat):Rw:={ r with row:=upd r.row i (undo r i x) }
structure FrC (b lo hi:Nat) (c d:Nat→Value):Prop where
 out:∀ i,¬ (lo≤i∧i<hi)→d i=c i
theorem FrC.refl (b lo hi:Nat) (c:Nat→Value):FrC b lo hi c c:=⟨fun _ _=>rfl⟩
theorem FrC.trans {b lo hi:Nat} {c d e:Nat→Value} (h:FrC b lo hi c d) (k:FrC b lo hi d e):FrC b lo hi c e:=⟨fun i hi=>(k.out i hi).trans (h.out i hi)⟩
theorem FrC.mono {b lo hi lo' hi':Nat} {c d:Nat→Value} (h:FrC b lo hi c d) (h1:lo'≤lo) (h2:hi≤hi'):FrC b lo' hi' c d:=⟨fun i q=>h.out i (fun k=>q ⟨by omega,by omega⟩)⟩
theorem FrC.upd {b lo hi k:Nat} {c:Nat→Value} (v:Value) (h1:lo≤k) (h2:k<hi):FrC b lo hi c (upd c k v):=⟨fun i q=>upd_ne _ _ _ (fun e=>q ⟨by omega,by omega⟩)⟩
def RwStep (b o n:Nat) (c:Nat→Value) (r':Rw) (w w':World):Prop:=∃ d,Blk w' b n d∧RwV d o r'∧FrC b o (o+1549) c d∧Fr1 b w w'
theorem lay_end {b o n i x:Nat} {c:Nat→Value} {r:Rw} {w w1:World} {Z:Int} (hB:Blk w1 b n c) (hV:RwV c o r) (hn:o+1549≤n) (hi:i<128) (hk:Kept w w1) (hZ:Z=(undo r i x:Int)):RwStep b o n c (r.lay i x) w (w1.setCell ⟨b,o+13+i,none⟩ (.int .u8 Z)).drew:=by
 subst hZ
 refine ⟨_,(hB.set (by omega:o+13+i<n) _).kept ((Kept.refl _).drewN 1),hV.set_row i _ hi,FrC.upd _ (by omega) (by omega),?_⟩
 exact Fr1.drewN (Fr1.set (Fr.of_kept hk) _ _) 1
theorem u8_wrap (a:Nat):IntKind.u8.wrap (a:Int)=((a % 256:Nat):Int):=by rw[IntKind.wrap_u8];omega
theorem lay_x (b o n i x:Nat) (c:Nat→Value) (r:Rw) (w:World) (hB:Blk w b n c) (hV:RwV c o r) (hn:o+1549≤n) (hk:RwOk r) (hi:i<128) (hx:x<256) :
  Calls Tryz.prog 198 #[.pointer (some ⟨b,o,none⟩),.int .i64 (i:Int),.int .u8 (x:Int)] w fun e w'=>e = .returned (.tuple #[])∧RwStep b o n c (r.lay i x) w w':=by
 have FJ:Hid (Calls Tryz.prog 202 #[.pointer (some ⟨b,o,none⟩)] w fun e w'=>e = .returned (.int .i64 (stepP r.hd:Int))∧Kept w w'):=(step_x b o n c r w hB hV hn hk).mono (fun e w' ⟨h1,q,h2⟩=>⟨h1,by rw[h2];exact (Kept.refl _).drewN _⟩)
 have HB:Hid (Blk w b n c):=hB
 have HV:Hid (RwV c o r):=hV
 have HK:Hid (RwOk r):=hk
 have hst:1≤stepP r.hd∧stepP r.hd≤8:=by
  have:=bitsP_le hk
  unfold stepP;omega
 have hlf:leftP r i<256:=by unfold leftP;split;exact hk.row _;omega
 have hcf:cornP r i<256:=by unfold cornP;split;exact hk.above _;omega
 have hfl:=hk.filter
 have hab:=hk.above i
 have FG:Hid (∀ W':World,Calls Tryz.prog 160 #[.int .u8 (r.filter:Int),.int .u8 (leftP r i:Int),.int .u8 (r.above i:Int),.int .u8 (cornP r i:Int)] W' fun e w'=>e = .returned (.int .u8 (gss r.filter (leftP r i) (r.above i) (cornP r i):Int))∧w'=W'):=fun W'=>gss_x _ _ _ _ W' hfl hlf hab hcf
 have HU:Hid (undo r i x=(x+gss r.filter (leftP r i) (r.above i) (cornP r i)) % 256):=rfl
 have hg:=gss_lt (f:=r.filter) hlf hab hcf
 obtain ⟨S,hS⟩:∃ S,S=stepP r.hd:=⟨_,rfl⟩
 rw[← hS] at FJ hst
 have g1:¬ (i:Int)<0:=by omega
 have g2:¬ (128:Int)≤(i:Int):=by omega
 have g3:(0:Int)≤(i:Int):=by omega
 have g4:(i:Int)<128:=by omega
 clear hB hV hk
 go_enter Tryz.func198,Tryz.ntmps198
 go_wp2_with fail
 refine FJ.out.mono ?_
 rintro e w1 ⟨rfl,hk1⟩
 have B1:Hid (Blk w1 b n c):=HB.out.kept hk1
 have HK1:Hid (Kept w w1):=hk1
 clear hk1 FJ HB
 have k12:=B1.out.at (i:=o+12) (by omega) HV.out.filter
 have ka:=B1.out.at (i:=o+141+i) (by omega) (HV.out.above i hi)
 have kr:=B1.out.at (i:=o+13+i) (by omega) (HV.out.row i hi)
 have zr:=B1.out.fz (o+13+i)
 generalize hU:undo r i x=U at *
 replace hU:Hid _:=hU
 by_cases hb:S≤i
 ·have kb:=B1.out.at (i:=o+13+(i - S)) (by omega) (HV.out.row (i - S) (by omega))
  have kc:=B1.out.at (i:=o+141+(i - S)) (by omega) (HV.out.above (i - S) (by omega))
  have eL:leftP r i=r.row (i - S):=by unfold leftP;rw[← hS,if_pos hb]
  have eC:cornP r i=r.above (i - S):=by unfold cornP;rw[← hS,if_pos hb]
  have eI:(i:Int) - (S:Int)=((i - S:Nat):Int):=by omega
  rw[eL,eC] at FG HU hg
  rw[eL] at hlf
  rw[eC] at hcf
  clear eL eC
  obtain ⟨J,hJ⟩:∃ J,J=i - S:=⟨_,rfl⟩
  rw[← hJ] at kb kc eI FG HU hg hlf hcf
  have g5:¬ (J:Int)<0:=by omega
  have g6:¬ (128:Int)≤(J:Int):=by omega
  have g7:(0:Int)≤(J:Int):=by omega
  have g8:(J:Int)<128:=by omega
  clear hJ hS
  generalize hX1:r.row J=X1 at *
  generalize hX2:r.above J=X2 at *
  generalize hX3:r.filter=X3 at *
  generalize hX4:r.above i=X4 at *
  generalize hX5:gss X3 X1 X4 X2=G at *
  replace hX1:Hid _:=hX1
  replace hX2:Hid _:=hX2
  replace hX3:Hid _:=hX3
  replace hX4:Hid _:=hX4
  replace hX5:Hid _:=hX5
  go_wp2_with fail
  go_region_held3 (fun W=>W.cell? ⟨b,o+12,none⟩=some (.int .u8 (X3:Int))∧W.cell? ⟨b,o+141+i,none⟩=some (.int .u8 (X4:Int))) (first | exact ⟨k12,ka⟩ | exact ⟨(cell_set_other _ _ _ _ _ (by omega)).trans k12,(cell_set_other _ _ _ _ _ (by omega)).trans ka⟩ | go_keep) ((go_at_call 160;refine (FG.out _).mono ?_;rintro e w2 ⟨rfl,rfl⟩))
  go_wp2_with fail
  go_end0
  refine ⟨rfl,lay_end B1.out HV.out hn hi HK1.out ?_⟩
  rw[hU.out,HU.out,show (x:Int)+(G:Int)=((x+G:Nat):Int) from by omega,u8_wrap]
 ·have eL:leftP r i=0:=by unfold leftP;rw[← hS,if_neg hb]
  have eC:cornP r i=0:=by unfold cornP;rw[← hS,if_neg hb]
  rw[eL,eC] at FG HU hg
  clear eL eC hlf hcf
  have g5:(i:Int) - (S:Int)<0:=by omega
  have g6:¬ (0:Int)≤(i:Int) - (S:Int):=by omega
  clear hS
  generalize hX3:r.filter=X3 at *
  generalize hX4:r.above i=X4 at *
  generalize hX5:gss X3 0 X4 0=G at *
  replace hX3:Hid _:=hX3
  replace hX4:Hid _:=hX4
  replace hX5:Hid _:=hX5
  have FG0:Hid (∀ W':World,Calls Tryz.prog 160 #[.int .u8 (X3:Int),.int .u8 0,.int .u8 (X4:Int),.int .u8 0] W' fun e w'=>e = .returned (.int .u8 (G:Int))∧w'=W'):=FG
  clear FG
  go_wp2_with fail
  go_region_held3 (fun W=>W.cell? ⟨b,o+12,none⟩=some (.int .u8 (X3:Int))∧W.cell? ⟨b,o+141+i,none⟩=some (.int .u8 (X4:Int))) (first | exact ⟨k12,ka⟩ | exact ⟨(cell_set_other _ _ _ _ _ (by omega)).trans k12,(cell_set_other _ _ _ _ _ (by omega)).trans ka⟩ | go_keep) ((go_at_call 160;refine (FG0.out _).mono ?_;rintro e w2 ⟨rfl,rfl⟩))
  go_wp2_with fail
  go_end0
  refine ⟨rfl,lay_end B1.out HV.out hn hi HK1.out ?_⟩
  rw[hU.out,HU.out,show (x:Int)+(G:Int)=((x+G:Nat):Int) from by omega,u8_wrap]
end Go.Proofs.YtmbmecfodigciaaGreatDoor
namespace Go.Proofs.YtmbmecfodigciaaGreatDoor
open Go.RowKit
set_option linter.unusedSimpArgs false
set_option linter.unusedVariables false
def sliceBlock:Value→Option Nat
 | .slice (some a) _ _=>some a.block
 | _=>none
theorem info_parts' {P:Program} {E:TypeId} {z:Value} {s b:Nat} (h:(P.info? E).map (fun i=>(i.zero,i.size,i.bytes))=some (some z,s,b)):∃ i,P.info? E=some i∧i.zero=some z∧i.size=s∧i.bytes=b:=by
 cases hq:P.info? E with
 | none=>simp [hq] at h
 | some i=>simp [hq] at h;exact ⟨i,rfl,h.1,h.2.1,h.2.2⟩
theorem own_base {w:World} {base base':Nat} {e:TypeId} {size:Nat} {v:Value} {n:Nat} {xs:List Value} (h:w.ownsRow base e size v n xs) (hb:base'≤base):w.ownsRow base' e size v n xs:=by
 obtain ⟨h1,h2⟩:=h
 refine ⟨h1,?_⟩
 rcases h2 with h2 | ⟨g,cap,cur,hv,hg,r⟩
 ·exact Or.inl h2
 ·exact Or.inr ⟨g,cap,cur,hv,by omega,r⟩
theorem own_kept {w W:World} {base:Nat} {e:TypeId} {size:Nat} {v:Value} {n:Nat} {xs:List Value} (h:w.ownsRow base e size v n xs) (k:Kept w W):W.ownsRow base e size v n xs:=
 h.kept (row:=none) ⟨k.os,k.tape,k.output,k.size,fun j hj _=>k.block j hj⟩ (by cases hv:v.ownBlock;exact Or.inl rfl;exact Or.inr (by simp))
theorem own_slice {w:World} {base:Nat} {e:TypeId} {size:Nat} {v:Value} {n:Nat} {xs:List Value} (h:w.ownsRow base e size v n xs):∃ p c,v = .slice p n c:=by
 rcases h.2 with ⟨hv,h0⟩ | ⟨g,cap,cur,hv,hg,r⟩
 ·exact ⟨none,0,by rw[hv,h0]⟩
 ·exact ⟨_,_,hv⟩
theorem sliceBlock_own (v:Value) {w:World} {base:Nat} {e:TypeId} {size n:Nat} {xs:List Value} (h:w.ownsRow base e size v n xs):sliceBlock v=v.ownBlock:=by
 rcases h.2 with ⟨hv,h0⟩ | ⟨g',cap,cur,hv,hg',r⟩<;>rw[hv]<;>rfl
theorem append_own (w:World) {ops:Array Oper} {rest:List Oper} {o:Oper} {a:Act} {Q:Exit→Act→World→Prop}
  (T T2 E:TypeId) (size bytes:Nat) (zero:Value) (hT:Tryz.prog.underlying T=some (.slice E)) (hI:(Tryz.prog.info? E).map (fun i=>(i.zero,i.size,i.bytes))=some (some zero,size,bytes)) (hzc:zero.cells.size=size) (hpos:0<size)
  (hg:o.guard=none) (s x:Operand) (hop:o.op=Op.call { callee:=Callee.builtin Builtin.append,args:=#[s,x],argTypes:=#[T,T2] })
  (base:Nat) (v:Value) (n:Nat) (xs:List Value) (hs:a.eval s=v) (hown:w.ownsRow base E size v n xs)
  (ad:Addr) (m c:Nat) (news:List Value) (hx:a.eval x = .slice (some ad) m c) (hn:news.length=m*size) (hm:0<m)
  (hc:∀ j u,news[j]? = some u→w.cell? (ad.add j)=some u) (h1c:∀ u ∈ news,u.oneCell'=true) (hml:n+m≤maxLen) (hb:(n+m)*bytes≤140737488355328) (hbase:base≤w.heap.size)
  (hK:∀ v' w',w'.ownsRow base E size v' (n+m) (xs++news)→w.grownBy w' v.ownBlock→(∀ k,v'.ownBlock=some k→v.ownBlock=some k∨w.heap.size≤k)→wpList Tryz.prog ops Q rest (a.put o.dst v') w') (hTT:T2=T) :
  wpList Tryz.prog ops Q (o::rest) a w:=by
 subst hTT
 obtain ⟨i0,hi,hz0,hz1,hz2⟩:=info_parts' hI
 have fin:∀ v' w',w'.ownsRow w.heap.size E size v' (n+m) (xs++news)→w.grownBy w' none→wpList Tryz.prog ops Q rest (a.put o.dst v') w':=by
  intro v' w' h1 h2
  refine hK v' w' (own_base h1 hbase) ⟨h2.os,h2.tape,h2.output,h2.size,fun k hk _=>h2.block k hk (by simp)⟩ (fun k hk=>Or.inr ((h1.lt k hk).1))
 rcases hown.2 with ⟨rfl,h0⟩ | ⟨g,cap,cur,rfl,hgb,hh,hnc,hcm,hcs,htk⟩
 ·subst h0
  have hx0:xs=[]:=List.eq_nil_of_length_eq_zero (by simpa using hown.1)
  subst hx0
  exact wpList_append_grows w hg s x T2 hop E i0 zero size bytes hT hi hz0 hz1 hz2 hzc hpos none 0 0 [] hs (fun _=>⟨rfl,rfl⟩) (by simp) (fun b hb=>by cases hb) ad m c news hx hn hc h1c (by omega) hml hb fin
 ·by_cases hf:n+m≤cap
  ·refine wpList_append_fits w hg s x T2 hop base E i0 size hT hi hz1 g n cap xs hs hown ad m c news hx hn hc h1c hf ?_
   intro w' h1 h2
   exact hK _ w' h1 h2 (fun k hk=>Or.inl hk)
  ·exact wpList_append_grows w hg s x T2 hop E i0 zero size bytes hT hi hz0 hz1 hz2 hzc hpos (some ⟨g,0,none⟩) n cap xs hs (fun h=>by cases h) hown.1 (fun b hb j u hj=>by cases hb;exact hown.cells rfl j u hj) ad m c news hx hn hc h1c (by omega) hml hb fin
structure LAt (w:World) (k:IntKind) (v:Value) (l:List Int):Prop where
 form:∃ p c,v = .slice p l.length c
 cells:∀ p c,v = .slice p l.length c→∀ i,i<l.length→∃ g o,p=some ⟨g,o,none⟩∧w.cell? ⟨g,o+i,none⟩=some (.int k (l.getD i 0))
theorem LAt.fr {S:Nat→Prop} {w w':World} {k:IntKind} {v:Value} {l:List Int} (h:LAt w k v l) (f:Fr S w w') (hS:∀ g,sliceBlock v=some g→¬ S g):LAt w' k v l:=by
 refine ⟨h.form,?_⟩
 intro p c hv i hi
 obtain ⟨g,o,hp,h1⟩:=h.cells p c hv i hi
 have hg:sliceBlock v=some g:=by rw[hv,hp];rfl
 have hlt:g<w.heap.size:=World.block_lt_of_cell? _ _ h1
 exact ⟨g,o,hp,(f.cell hlt (hS g hg)).trans h1⟩
theorem LAt.kept {w w':World} {k:IntKind} {v:Value} {l:List Int} (h:LAt w k v l) (f:Kept w w'):LAt w' k v l:=h.fr (S:=fun _=>False) ⟨f.os,f.tape,f.output,f.size,fun i hi _=>f.block i hi⟩ (fun _ _ h=>h)
theorem LAt.addr {w:World} {k:IntKind} {v:Value} {l:List Int} (h:LAt w k v l) (h0:0<l.length):∃ g o c,v = .slice (some ⟨g,o,none⟩) l.length c∧∀ i,i<l.length→w.cell? ⟨g,o+i,none⟩=some (.int k (l.getD i 0)):=by
 obtain ⟨p,c,hv⟩:=h.form
 obtain ⟨g,o,hp,_⟩:=h.cells p c hv 0 h0
 refine ⟨g,o,c,by rw[hv,hp],fun i hi => ?_⟩
 obtain ⟨g',o',hp',h1⟩:=h.cells p c hv i hi
 rw[hp] at hp'
 injection hp' with e
 injection e with e1 e2
 subst e1;subst e2
 exact h1
theorem LAt.nil {w:World} {k:IntKind} {p:Option Addr} {c:Nat}:LAt w k (.slice p 0 c) []:=⟨⟨p,c,rfl⟩,fun _ _ _ i hi=>by simp at hi⟩
theorem LAt.cellAt {w:World} {k:IntKind} {p:Option Addr} {c:Nat} {l:List Int} (h:LAt w k (.slice p l.length c) l) (i:Nat) (hi:i<l.length):∃ g o,p=some ⟨g,o,none⟩∧w.cell? ⟨g,o+i,none⟩=some (.int k (l.getD i 0)):=h.cells p c rfl i hi
theorem own_lat {w:World} {base:Nat} {E:TypeId} {k:IntKind} {v:Value} {l:List Int} (h:w.ownsRow base E 1 v l.length (l.map (Value.int k))):LAt w k v l:=by
 rcases h.2 with ⟨hv,h0⟩ | ⟨g,cap,cur,hv,hg,r⟩
 ·refine ⟨⟨none,0,by rw[hv,h0]⟩,?_⟩
  intro p c _ i hi;omega
 ·refine ⟨⟨_,_,hv⟩,?_⟩
  intro p c hp i hi
  rw[hv] at hp
  injection hp with hp _ _
  refine ⟨g,0,hp.symm,?_⟩
  have:=h.cells (by rw[hv];rfl) i (.int k (l.getD i 0)) (by simp [List.getElem?_map,List.getElem?_eq_getElem hi,List.getD_eq_getElem?_getD])
  have e:(Addr.add ⟨g,0,none⟩ i)=⟨g,0+i,none⟩:=by simp [Addr.add];intro h;exact h.symm
  rw[e] at this;exact this
theorem getD_mem {l:List Int} {i:Nat} (h:i<l.length):l.getD i 0 ∈ l:=by simp [List.getD_eq_getElem?_getD,List.getElem?_eq_getElem h]
def Rng (k:IntKind) (m:Int) (W:World) (b o n:Nat):Prop:=∀ j,j<n→∃ z:Int,0≤z∧z<m∧W.cell? ⟨b,o+j,none⟩=some (.int k z)
theorem ints_one {k:IntKind} {m:Int} {cs:List Value} {n:Nat} (hl:cs.length=n) (h:∀ j,j<n→∃ z:Int,0≤z∧z<m∧cs[j]? = some (.int k z)):∀ v ∈ cs,v.oneCell'=true:=by
 intro v hv
 obtain ⟨j,hj,e⟩:=List.getElem_of_mem hv
 obtain ⟨z,_,_,hz⟩:=h j (by omega)
 rw[List.getElem?_eq_getElem hj] at hz
 injection hz with hz
 rw[← e,hz];rfl
theorem there_set {w:World} {b o n:Nat} (h:w.there b o n) {c k:Nat} (u:Value) (hne:c≠b):(w.setCell ⟨c,k,none⟩ u).there b o n:=by
 intro j hj
 obtain ⟨h1,h2⟩:=h j hj
 exact ⟨by rw[World.cell?_setCell_other _ _ _ _ (by intro e;injection e;omega)];exact h1,by rw[World.frozen?_setCell];exact h2⟩
theorem results_cell1 {P:Program} {fn:Func} {p:Tmp} {ty:TypeId} (h:fn.results=#[.cell p ty]) (tmps:Array Value) (w:World) (b o:Nat) (v:Value)
  (hp:tmps.getD p undef = .pointer (some ⟨b,o,none⟩)) (hl:(loadVar ty ⟨b,o,none⟩).run P w = .ok v w):(results fn tmps).run P w = .ok v w:=by
 have hp':tmps[p]?.getD undef = .pointer (some ⟨b,o,none⟩):=by simpa using hp
 simp [results,h,hp',asAddr,Sem.run_bind,Result.andThen,hl]
theorem Fr.setCells {S:Nat→Prop} {x y:World} (h:Fr S x y) {b:Nat} (hb:S b∨x.heap.size≤b):∀ (vs:List Value) (o:Nat) {y:World},Fr S x y→Fr S x (y.setCells b o vs)
 | [],_,_,h=>h
 | v::r,o,_,h=>Fr.setCells (h.setCell hb o v) hb r (o+1) (h.setCell hb o v)
theorem Kept.setCells {x:World} {b:Nat} (hb:x.heap.size≤b):∀ (vs:List Value) (o:Nat) {y:World},Kept x y→Kept x (y.setCells b o vs)
 | [],_,_,h=>h
 | v::r,o,_,h=>Kept.setCells hb r (o+1) (h.setCell hb _)
end Go.Proofs.YtmbmecfodigciaaGreatDoor
namespace Px
def grd:List Nat:=[0,0,8,8,8,8,4,0,8,8,4,8,0,4,4,8,4,4,2,0,4,4,2,4,0,2,2,4,2,2,1,0,2,2,1,2,0,1,1,2,1,1]
def grdN (j:Nat):Nat:=grd.getD j 0
structure Ps where
 cf:Nat
 cs:Nat
 cb:Nat
 rf:Nat
 rs:Nat
 rb:Nat
def psOf (L k:Nat):Ps:=if L=1∧k<7 then ⟨grdN (6*k),grdN (6*k+2),grdN (6*k+4),grdN (6*k+1),grdN (6*k+3),grdN (6*k+5)⟩ else ⟨0,1,1,0,1,1⟩
theorem psOf_ok (L k:Nat):(psOf L k).cf≤4∧1≤(psOf L k).cs∧(psOf L k).cs≤8∧(psOf L k).cb≤8∧(psOf L k).rf≤4∧1≤(psOf L k).rs∧(psOf L k).rs≤8∧(psOf L k).rb≤8:=by
 unfold psOf
 split
 ·rename_i h
  obtain ⟨_,h⟩:=h
  have:∀ k,k<7→(grdN (6*k)≤4∧1≤grdN (6*k+2)∧grdN (6*k+2)≤8∧grdN (6*k+4)≤8∧grdN (6*k+1)≤4∧1≤grdN (6*k+3)∧grdN (6*k+3)≤8∧grdN (6*k+5)≤8):=by decide
  exact this k h
 ·simp
end Px
namespace Go.Proofs.YtmbmecfodigciaaGreatDoor
open Go.RowKit Px
set_option linter.unusedSimpArgs false
set_option linter.unusedVariables false
def GrdAt (w:World):Prop:=∀ j,j<42→w.cell? ⟨0,j,none⟩=some (.int .i64 (grdN j:Int))
theorem GrdAt.kept {w w':World} (h:GrdAt w) (k:Kept w w'):GrdAt w':=fun j hj=>(k.cell (p:=⟨0,j,none⟩) (World.block_lt_of_cell? _ _ (h j hj))).trans (h j hj)
theorem GrdAt.fr {S:Nat→Prop} {w w':World} (h:GrdAt w) (k:Fr S w w') (h0:¬ S 0):GrdAt w':=fun j hj=>(k.cell (World.block_lt_of_cell? _ _ (h j hj)) h0).trans (h j hj)
def psV (p:Ps):Value := .agg #[.int .i64 (p.cf:Int),.int .i64 (p.cs:Int),.int .i64 (p.cb:Int),.int .i64 (p.rf:Int),.int .i64 (p.rs:Int),.int .i64 (p.rb:Int)]
theorem psOf_x (L k:Nat) (w:World) (hL:L≤1) (hk:k≤1000) (hG:GrdAt w) :
  Calls Tryz.prog 95 #[.int .i64 (L:Int),.int .i64 (k:Int)] w fun e w'=>e = .returned (psV (psOf L k))∧Kept w w':=by
 have hi:(Tryz.prog.info? 146).map (·.size)=some 6:=by kernel_rfl
 by_cases h:L=1∧k<7
 ·have hc:∀ (j:Nat),j<6→(∀ o,(w.alloc o).cell? ⟨0,k*6+j,none⟩=some (.int .i64 (grdN (6*k+j):Int)))∧(∀ o o',((w.alloc o).alloc o').cell? ⟨0,k*6+j,none⟩=some (.int .i64 (grdN (6*k+j):Int))):=fun j hj=>by
   have h0:w.cell? ⟨0,k*6+j,none⟩=some (.int .i64 (grdN (6*k+j):Int)):=by
    have:=hG (6*k+j) (by omega)
    rw[show k*6+j=6*k+j from by omega];exact this
   have h1:∀ o,(w.alloc o).cell? ⟨0,k*6+j,none⟩=some (.int .i64 (grdN (6*k+j):Int)):=fun o=>by rw[World.cell?_alloc_lt _ _ _ (World.block_lt_of_cell? _ _ h0)];exact h0
   exact ⟨h1,fun o o'=>by rw[World.cell?_alloc_lt _ _ _ (World.block_lt_of_cell? _ _ (h1 o))];exact h1 o⟩
  obtain ⟨c0,d0⟩:=hc 0 (by omega)
  obtain ⟨c1,d1⟩:=hc 1 (by omega)
  obtain ⟨c2,d2⟩:=hc 2 (by omega)
  obtain ⟨c3,d3⟩:=hc 3 (by omega)
  obtain ⟨c4,d4⟩:=hc 4 (by omega)
  obtain ⟨c5,d5⟩:=hc 5 (by omega)
  have HP:Hid (psOf L k=⟨grdN (6*k),grdN (6*k+2),grdN (6*k+4),grdN (6*k+1),grdN (6*k+3),grdN (6*k+5)⟩):=by unfold psOf;exact if_pos h
  rw[HP.out]
  clear HP
  simp only [Nat.add_zero] at c0 d0
  generalize grdN (6*k)=X0 at *
  generalize grdN (6*k+1)=X1 at *
  generalize grdN (6*k+2)=X2 at *
  generalize grdN (6*k+3)=X3 at *
  generalize grdN (6*k+4)=X4 at *
  generalize grdN (6*k+5)=X5 at *
  obtain ⟨rfl,hk7⟩:=h
  have g1:¬ (k:Int)<0:=by omega
  have g2:¬ (7:Int)≤(k:Int):=by omega
  have g3:(0:Int)≤(k:Int):=by omega
  have g4:(k:Int)<7:=by omega
  clear hc hG
  go_enter Tryz.func95,Tryz.ntmps95
  go_wp2
  refine bodyPost_ret (v := .agg #[.int .i64 (X0:Int),.int .i64 (X2:Int),.int .i64 (X4:Int),.int .i64 (X1:Int),.int .i64 (X3:Int),.int .i64 (X5:Int)]) (results_cell1 rfl _ _ w.heap.size 0 _ rfl ?_) rfl ?_
  ·refine run_loadVar_row _ _ 146 146 _ (0,0) _ ?_ Tryz.underlying146 rfl hi
   rw[heap_alloc_old _ _ (by simp)]
   exact heap_alloc_new _ _
  ·exact ⟨rfl,Below.alloc (Below.alloc (Below.refl _ _) (Nat.le_refl _) _) (by simp) _⟩
 ·have HP:Hid (psOf L k=⟨0,1,1,0,1,1⟩):=by unfold psOf;exact if_neg h
  rw[HP.out]
  clear HP hG
  by_cases h1:L=1
  ·subst h1
   have g2:(7:Int)≤(k:Int):=by omega
   have g1:¬ (k:Int)<0:=by omega
   go_enter Tryz.func95,Tryz.ntmps95
   go_wp2
   refine bodyPost_ret (v := .agg #[.int .i64 0,.int .i64 1,.int .i64 1,.int .i64 0,.int .i64 1,.int .i64 1]) (results_cell1 rfl _ _ w.heap.size 0 _ rfl ?_) rfl ?_
   ·refine run_loadVar_row _ _ 146 146 _ (0,0) _ ?_ Tryz.underlying146 rfl hi
    exact heap_alloc_new _ _
   ·exact ⟨rfl,Below.alloc (Below.refl _ _) (Nat.le_refl _) _⟩
  ·have g0:((L:Int) != 1)=true:=by rw[bne_iff_ne];omega
   go_enter Tryz.func95,Tryz.ntmps95
   go_wp2
   refine bodyPost_ret (v := .agg #[.int .i64 0,.int .i64 1,.int .i64 1,.int .i64 0,.int .i64 1,.int .i64 1]) (results_cell1 rfl _ _ w.heap.size 0 _ rfl ?_) rfl ?_
   ·refine run_loadVar_row _ _ 146 146 _ (0,0) _ ?_ Tryz.underlying146 rfl hi
    exact heap_alloc_new _ _
   ·exact ⟨rfl,Below.alloc (Below.refl _ _) (Nat.le_refl _) _⟩
def wthn (f s n:Nat):Nat:=if n≤f then 0 else (n - f - 1) / s+1
theorem wthn_le {f s n:Nat} (hs:1≤s) (hn:n≤16):wthn f s n≤16:=by
 unfold wthn
 split
 ·omega
 ·have:(n - f - 1) / s≤n - f - 1:=Nat.div_le_self _ _
  omega
theorem wthn_x (f s q n:Nat) (w:World) (hf:f≤8) (hs1:1≤s) (hs2:s≤8) (hn:n≤16) :
  Calls Tryz.prog 129 #[.agg #[.int .i64 (f:Int),.int .i64 (s:Int),.int .i64 (q:Int)],.int .i64 (n:Int)] w fun e w'=>e = .returned (.int .i64 (wthn f s n:Int))∧Kept w w':=by
 have hs:(1:Int)≤(s:Int):=by omega
 have hs0:¬ ((s:Int)=0):=by omega
 have hs3:(s:Int)≤8:=by omega
 by_cases h:n≤f
 ·have h':(n:Int)≤(f:Int):=by omega
  unfold wthn
  rw[if_pos h]
  go_enter Tryz.func129,Tryz.ntmps129
  go_wp2
  go_ret
  exact ⟨rfl,Below.alloc (Below.refl _ _) (Nat.le_refl _) _⟩
 ·have h':¬ (n:Int)≤(f:Int):=by omega
  unfold wthn
  rw[if_neg h]
  have hsN:¬ (s=0):=by omega
  have e:((n:Int) - (f:Int) - 1).tdiv (s:Int)=(((n - f - 1) / s:Nat):Int):=by
   rw[show (n:Int) - (f:Int) - 1=((n - f - 1:Nat):Int) from by omega,Int.tdiv_eq_ediv_of_nonneg (by omega)];exact (Int.natCast_ediv _ _).symm
  have e2:((n:Int) - (f:Int) - 1) / (s:Int)=(((n - f - 1) / s:Nat):Int):=by
   rw[show (n:Int) - (f:Int) - 1=((n - f - 1:Nat):Int) from by omega];exact (Int.natCast_ediv _ _).symm
  have hq:(n - f - 1) / s≤16:=Nat.le_trans (Nat.div_le_self _ _) (by omega)
  generalize (n - f - 1) / s=Q at *
  go_enter Tryz.func129,Tryz.ntmps129
  go_wp2
  go_ret
  exact ⟨ret_int (by omega),Below.alloc (Below.refl _ _) (Nat.le_refl _) _⟩
theorem place_x (f s q i:Nat) (w:World) (hf:f≤8) (hs2:s≤8) (hi:i≤1000) :
  Calls Tryz.prog 150 #[.agg #[.int .i64 (f:Int),.int .i64 (s:Int),.int .i64 (q:Int)],.int .i64 (i:Int)] w fun e w'=>e = .returned (.int .i64 ((f+i*s:Nat):Int))∧Kept w w':=by
 have hT1:i*s≤8000:=Nat.mul_le_mul hi hs2
 obtain ⟨T,hT⟩:∃ T,T=i*s:=⟨_,rfl⟩
 have eT:(i:Int)*(s:Int)=(T:Int):=by rw[hT];simp
 rw[← hT] at hT1 ⊢
 clear hT
 go_enter Tryz.func150,Tryz.ntmps150
 go_wp2
 go_ret
 exact ⟨ret_int (by omega),Below.alloc (Below.refl _ _) (Nat.le_refl _) _⟩
def hasC (r:Rw):Bool:=(List.range r.columns).all (fun i=>decide (smpO r i<r.colours))
theorem hasC_true {r:Rw} (h:∀ i,i<r.columns→smpO r i<r.colours):hasC r=true:=by
 unfold hasC
 rw[List.all_eq_true]
 intro i hi
 exact decide_eq_true (h i (List.mem_range.1 hi))
theorem hasC_false {r:Rw} {i:Nat} (hi:i<r.columns) (h:¬ smpO r i<r.colours):hasC r=false:=by
 unfold hasC
 rw[← Bool.not_eq_true,List.all_eq_true]
 intro q
 exact h (of_decide_eq_true (q i (List.mem_range.2 hi)))
theorem smpO_lt {r:Rw} (hk:RwOk r) (i:Nat):smpO r i<65536:=by
 unfold smpO
 split
 ·have:=bitsO_lt (r.row (i*r.hd.D / 8)) (i*r.hd.D % 8) r.hd.D
  have h2:2^r.hd.D≤2^16:=Nat.pow_le_pow_right (by omega) hk.D
  omega
 ·have:=hk.row (i*r.hd.D / 8)
  have:=hk.row (i*r.hd.D / 8+1)
  omega
structure RwIn (r:Rw):Prop where
 ok:RwOk r
 dd:okD r.hd.D
 col:r.columns≤16
 lns:r.lines≤16
 line:r.line≤16
 fit:r.columns*bitsP r.hd≤1024
 size:r.size≤128
 taken:r.taken≤129
 pass0:0≤r.pass
 pass7:r.pass≤7
 colours:r.colours≤256
theorem hasC_x (b o n:Nat) (c:Nat→Value) (r:Rw) (w:World) (hB:Blk w b n c) (hV:RwV c o r) (hn:o+1549≤n) (hk:RwIn r) :
  Calls Tryz.prog 203 #[.pointer (some ⟨b,o,none⟩)] w fun e w'=>e = .returned (.bool (hasC r))∧Kept w w':=by
 have hc16:=hk.col
 have FJ:Hid (∀ (W':World) (i:Nat),Kept w W'→i<r.columns→Calls Tryz.prog 205 #[.pointer (some ⟨b,o,none⟩),.int .i64 (i:Int)] W' fun e w'=>e = .returned (.int .u16 (smpO r i:Int))∧∃ q,w'=W'.drewN q):=fun W' i k hi=>by
  have h1:(i+1)*r.hd.D≤16*16:=Nat.mul_le_mul (by omega) hk.ok.D
  rw[Nat.add_mul] at h1
  exact sample_x b o n i c r W' (hB.kept k) hV hn hk.ok hk.dd (by omega) (by omega)
 have K9:Hid (∀ W',Kept w W'→W'.cell? ⟨b,o+8,none⟩=some (.int .i64 (r.columns:Int))∧W'.cell? ⟨b,o+5,none⟩=some (.int .i64 (r.colours:Int))):=fun W' k=>⟨(hB.kept k).at (by omega) hV.columns,(hB.kept k).at (by omega) hV.colours⟩
 have HT:Hid (∀ i,smpO r i<65536):=smpO_lt hk.ok
 have hcol:=hk.colours
 clear hB hV hk
 go_enter Tryz.func203,Tryz.ntmps203
 go_wp2_with fail
 go_loopg [3] r.columns (fun k v W=>∃ i:Nat,v = .int .i64 (i:Int)∧i≤r.columns∧k=r.columns - i∧(∀ j,j<i→smpO r j<r.colours)∧Kept w W)
 case atStart=>exact ⟨0,rfl,by omega,by omega,fun j hj=>by omega,Kept.refl _⟩
 case round=>
  obtain ⟨i,rfl,hi1,hgk,hall,hkw⟩:=hrel
  obtain ⟨k8,k5⟩:=K9.out wr hkw
  have HKW:Hid (Kept w wr):=hkw
  replace hall:Hid _:=hall
  replace hgk:Hid _:=hgk
  clear hkw
  by_cases hlt:i<r.columns
  ·have l1:(i:Int)<(r.columns:Int):=by omega
   have FSi:Hid (∀ q,Calls Tryz.prog 205 #[.pointer (some ⟨b,o,none⟩),.int .i64 (i:Int)] (wr.drewN q) fun e w'=>e = .returned (.int .u16 (smpO r i:Int))∧∃ m,w'=(wr.drewN q).drewN m):=fun q=>FJ.out _ i (HKW.out.drewN q) hlt
   have hsi:=HT.out i
   by_cases hs:smpO r i<r.colours
   ·have hs':¬ (r.colours:Int)≤(smpO r i:Int):=by omega
    have HA:Hid (∀ j,j<i+1→smpO r j<r.colours):=fun j hj=>by
     rcases Nat.lt_succ_iff_lt_or_eq.1 hj with q | q
     ·exact hall.out j q
     ·rw[q];exact hs
    generalize smpO r i=X at *
    go_wp2_with fail
    go_quiet ((go_at_call 205;exact Calls.quiet_of (FSi.out _)))
    go_wp2_with fail
    go_roundg (r.columns - (i+1))
    case measure=>rw[hgk.out];omega
    case rel=>exact ⟨i+1,by go_num,by omega,rfl,HA.out,HKW.out.drewN _⟩
   ·have hs':(r.colours:Int)≤(smpO r i:Int):=by omega
    have HF:Hid (hasC r=false):=hasC_false hlt hs
    generalize smpO r i=X at *
    go_wp2_with fail
    go_quiet ((go_at_call 205;exact Calls.quiet_of (FSi.out _)))
    go_wp2_with fail
    go_ret
    exact ⟨ret_bool (by rw[HF.out]),HKW.out.drewN _⟩
  ·have l1:¬ (i:Int)<(r.columns:Int):=by omega
   have HF:Hid (hasC r=true):=hasC_true (fun j hj=>hall.out j (by omega))
   go_wp2_with fail
   go_ret
   exact ⟨ret_bool (by rw[HF.out]),HKW.out⟩
end Go.Proofs.YtmbmecfodigciaaGreatDoor
namespace Go.Proofs.YtmbmecfodigciaaGreatDoor
open Go.RowKit
set_option linter.unusedSimpArgs false
set_option linter.unusedVariables false
theorem infoU8:(Tryz.prog.info? 5).map (fun i=>(i.zero,i.size,i.bytes))=some (some (.int .u8 0),1,1):=by kernel_rfl
def isBytes (l:List Int):Prop:=∀ x ∈ l,0≤x∧x<256
theorem isBytes.nil:isBytes []:=fun _ h=>by simp at h
theorem isBytes.app {l m:List Int} (h:isBytes l) (k:isBytes m):isBytes (l++m):=by
 intro y hy;simp at hy;rcases hy with hy | hy
 ·exact h y hy
 ·exact k y hy
def u8s (l:List Int):List Value:=l.map (Value.int .u8)
def Own8 (w:World) (N:Nat) (v:Value) (n:Nat):Prop:=∃ l:List Int,l.length=n∧isBytes l∧w.ownsRow N 5 1 v n (u8s l)
abbrev FrN (x N:Nat):World→World→Prop:=Fr (fun g=>g=x∨N≤g)
def szOf (W:World) (x:Nat):Nat:=match W.cell? ⟨x,2,none⟩ with | some (.int _ v)=>v.toNat | _=>0
theorem bcode_any (x i:Nat) (c z:Int) (w:World) (hi:i<288) (hc0:0≤c) (hc1:c<4294967296) (hz0:0≤z) (hz1:z<16) (h1:w.cell? ⟨x,3+i,none⟩=some (.int .u32 c)) (h2:w.cell? ⟨x,3+288+i,none⟩=some (.int .u8 z)) :
  Calls Tryz.prog 161 #[.pointer (some ⟨x,3,none⟩),.int .i64 (i:Int)] w fun r w'=>r = .returned (.tuple #[.int .u32 c,.int .u64 z])∧Kept w w':=by
 have i0:(0:Int)≤(i:Int):=by omega
 have i1:(i:Int)<288:=by omega
 go_enter Tryz.func161,Tryz.ntmps161
 go_wp2
 go_quiet (fail)
 go_wp2
 go_ret2
 exact ⟨rfl,(Kept.refl _).drewN _⟩
end Go.Proofs.YtmbmecfodigciaaGreatDoor
namespace Go.Proofs.YtmbmecfodigciaaGreatDoor
open Go.RowKit Px
set_option linter.unusedSimpArgs false
set_option linter.unusedVariables false
theorem list_ext_getD {a b:List Int} (h:a.length=b.length) (k:∀ j,j<a.length→a.getD j 0=b.getD j 0):a=b:=by
 apply List.ext_getElem h
 intro i h1 h2
 have:=k i h1
 rw[List.getD_eq_getElem?_getD,List.getD_eq_getElem?_getD,List.getElem?_eq_getElem h1,List.getElem?_eq_getElem h2] at this
 exact this
theorem sameInts_x (p q:Option Addr) (n m pc qc:Nat) (a b:List Int) (w:World) (hn:n=a.length) (hm:m=b.length) (ha:LAt w .i64 (.slice p a.length pc) a) (hb:LAt w .i64 (.slice q b.length qc) b) (hla:a.length≤100000) (hlb:b.length≤100000) :
  Calls Tryz.prog 27 #[.slice p n pc,.slice q m qc] w fun e w'=>e = .returned (.bool (decide (a=b)))∧Kept w w':=by
 have HA:Hid (∀ W,Kept w W→∀ i,i<n→∃ g o,p=some ⟨g,o,none⟩∧W.cell? ⟨g,o+i,none⟩=some (.int .i64 (a.getD i 0))):=fun W k i hi=>(ha.kept k).cellAt i (by omega)
 have HB:Hid (∀ W,Kept w W→∀ i,i<m→∃ g o,q=some ⟨g,o,none⟩∧W.cell? ⟨g,o+i,none⟩=some (.int .i64 (b.getD i 0))):=fun W k i hi=>(hb.kept k).cellAt i (by omega)
 have R1:Hid (n≠m→decide (a=b)=false):=fun h=>decide_eq_false (fun e=>h (by rw[hn,hm,e]))
 have R2:Hid (∀ j,a.getD j 0≠b.getD j 0→decide (a=b)=false):=fun j h=>decide_eq_false (fun e=>h (by rw[e]))
 have R3:Hid (n=m→(∀ j,j<n→a.getD j 0=b.getD j 0)→decide (a=b)=true):=fun h k=>decide_eq_true (list_ext_getD (by omega) (fun j hj=>k j (by omega)))
 generalize decide (a=b)=R at *
 have hn1:n≤100000:=by omega
 have hm1:m≤100000:=by omega
 clear ha hb hn hm hla hlb
 by_cases hl:n=m
 ·subst hl
  replace R3:Hid _:=R3.out rfl
  go_enter Tryz.func27,Tryz.ntmps27
  go_wp2_with fail
  go_loopg [5] n (fun t v W=>∃ k:Nat,t=n - k∧k≤n∧v = .int .i64 (k:Int)∧Kept w W∧∀ j,j<k→a.getD j 0=b.getD j 0)
  case atStart=>exact ⟨0,by omega,by omega,rfl,Kept.refl _,fun j hj=>by omega⟩
  case round=>
   obtain ⟨k,hgk,hkn,rfl,hkw,hall⟩:=hrel
   replace hgk:Hid _:=hgk
   have HKW:Hid (Kept w wr):=hkw
   replace hall:Hid _:=hall
   clear hkw
   by_cases hlt:k<n
   ·have hlt':(k:Int)<(n:Int):=by omega
    have k0:(0:Int)≤(k:Int):=by omega
    obtain ⟨g,o,rfl,c1⟩:=HA.out wr HKW.out k hlt
    obtain ⟨g',o',rfl,c2⟩:=HB.out wr HKW.out k hlt
    generalize hAK:a.getD k 0=AK at *
    generalize hBK:b.getD k 0=BK at *
    replace hAK:Hid _:=hAK
    replace hBK:Hid _:=hBK
    go_wp2_with fail
    go_quiet (fail)
    cases hne:(AK != BK)
    ·go_wp2_with fail
     go_roundg (n - (k+1))
     case measure=>rw[hgk.out];omega
     case rel=>exact ⟨k+1,rfl,by omega,by go_num,HKW.out.drewN _,fun j hj=>by
      by_cases q:j=k
      ·subst q
       rw[hAK.out,hBK.out]
       simpa using hne
      ·exact hall.out j (by omega)⟩
    ·go_wp2_with fail
     go_ret
     exact ⟨by rw[R2.out k (by rw[hAK.out,hBK.out];simpa using hne)];rfl,HKW.out.drewN _⟩
   ·have hlt':¬ (k:Int)<(n:Int):=by omega
    go_wp2_with fail
    go_ret
    exact ⟨by rw[R3.out (fun j hj=>hall.out j (by omega))];rfl,HKW.out⟩
 ·have hl':((n:Int) != (m:Int))=true:=by rw[bne_iff_ne];omega
  replace R1:Hid _:=R1.out hl
  clear hl
  go_enter Tryz.func27,Tryz.ntmps27
  go_wp2_with fail
  go_ret
  exact ⟨by rw[R1.out];rfl,Kept.refl _⟩
end Go.Proofs.YtmbmecfodigciaaGreatDoor
namespace Go.Proofs.YtmbmecfodigciaaGreatDoor
open Go.RowKit
set_option linter.unusedSimpArgs false
set_option linter.unusedVariables false
def chan (K:Nat):Nat:=if K=2 then 3 else if K=4 then 2 else if K=6 then 4 else 1
def legal (K D:Nat):Prop:=(K=0∧(D=1∨D=2∨D=4∨D=8∨D=16))∨(K=3∧(D=1∨D=2∨D=4∨D=8))∨((K=2∨K=4∨K=6)∧(D=8∨D=16))
theorem legal.k {K D:Nat} (h:legal K D):K=0∨K=2∨K=3∨K=4∨K=6:=by unfold legal at h;omega
theorem legal.d {K D:Nat} (h:legal K D):D=1∨D=2∨D=4∨D=8∨D=16:=by unfold legal at h;omega
theorem chan_le {K:Nat}:1≤chan K∧chan K≤4:=by unfold chan;split<;>(try split)<;>(try split)<;>omega
theorem samples_any (K:Nat) (w:World) (h:K=0∨K=2∨K=3∨K=4∨K=6) :
  Calls Tryz.prog 93 #[.int .i64 (K:Int)] w fun r w'=>r = .returned (.int .i64 (chan K:Int))∧w'=w:=by
 rcases h with rfl | rfl | rfl | rfl | rfl
 all_goals
  go_enter Tryz.func93,Tryz.ntmps93
  go_wp2
  go_ret
  exact ⟨rfl,rfl⟩
def within (f s n:Nat):Nat:=if n≤f then 0 else (n - f - 1) / s+1
theorem within_any (f s n:Nat) (b:Int) (w:World) (hf:f≤8) (hs1:1≤s) (hs2:s≤8) (hn:n≤16) :
  Calls Tryz.prog 129 #[.agg #[.int .i64 (f:Int),.int .i64 (s:Int),.int .i64 b],.int .i64 (n:Int)] w fun r w'=>r = .returned (.int .i64 (within f s n:Int))∧Kept w w':=by
 have hs:(1:Int)≤(s:Int):=by omega
 have hs0:¬ ((s:Int)=0):=by omega
 have hs3:(s:Int)≤8:=by omega
 by_cases h:n≤f
 ·have h':(n:Int)≤(f:Int):=by omega
  unfold within
  rw[if_pos h]
  go_enter Tryz.func129,Tryz.ntmps129
  go_wp2
  go_ret
  exact ⟨rfl,Below.alloc (Below.refl _ _) (Nat.le_refl _) _⟩
 ·have h':¬ (n:Int)≤(f:Int):=by omega
  unfold within
  rw[if_neg h]
  go_enter Tryz.func129,Tryz.ntmps129
  go_wp2
  go_ret
  refine ⟨ret_int ?_,Below.alloc (Below.refl _ _) (Nat.le_refl _) _⟩
  have e:((n:Int) - (f:Int) - 1)=((n - f - 1:Nat):Int):=by omega
  have hq:(n - f - 1) / s≤16:=Nat.le_trans (Nat.div_le_self _ _) (by omega)
  rw[e,← Int.natCast_ediv]
  generalize (n - f - 1) / s=Q at *
  unfold wrap64
  omega
theorem zero288:Tryz.zeroCells149=Array.replicate 288 (.int .u8 0):=by kernel_rfl
theorem zero576:Tryz.zeroCells153=Array.replicate 288 (.int .u32 0)++Array.replicate 288 (.int .u8 0):=by kernel_rfl
theorem size576:(Tryz.prog.info? 153).map (·.size)=some 576:=by kernel_rfl
theorem get576 (j:Nat) (h:j<288):(Array.replicate 288 (Value.int .u32 0)++Array.replicate 288 (Value.int .u8 0))[j]? = some (.int .u32 0):=by
 rw[Array.getElem?_append_left (by simpa using h)];simp [h]
theorem get576' (j:Nat) (h:j<288):(Array.replicate 288 (Value.int .u32 0)++Array.replicate 288 (Value.int .u8 0))[288+j]? = some (.int .u8 0):=by
 rw[Array.getElem?_append_right (by simp)];simp [h]
theorem store_there {P:Program} {W:World} {b o:Nat} {cs:List Value} (h:W.there b o cs.length) (h1:∀ v ∈ cs,v.oneCell'=true):(storeCells ⟨b,o,none⟩ cs).run P W = .ok () (W.setCells b o cs):=by
 have:=run_storeCells_cells (P:=P) b o cs 0 W (fun j hj=>by rw[Nat.add_zero];exact (h j hj).1) (fun j hj=>by rw[Nat.add_zero];exact (h j hj).2) h1
 rw[Nat.add_zero] at this
 exact this
theorem turns_any (v:Value) (l:List Int) (k:Nat) (w:World) (hl:LAt w .i64 v l) (h0:0<l.length) (hn:l.length≤1048576) (hk:k≤4611686018427387904) :
  Calls Tryz.prog 100 #[v,.int .i64 (k:Int)] w fun r w'=>r = .returned (.int .i64 (l.getD (k % l.length) 0))∧Kept w w':=by
 obtain ⟨g,o,c,rfl,hc⟩:=hl.addr h0
 have hm:k % l.length<l.length:=Nat.mod_lt _ h0
 have hcw:=hc _ hm
 have e:(k:Int).tmod (l.length:Int)=((k % l.length:Nat):Int):=by rw[Int.tmod_eq_emod_of_nonneg (by omega)];exact Int.natCast_emod k l.length
 have e2:(k:Int) % (l.length:Int)=((k % l.length:Nat):Int):=(Int.natCast_emod k l.length).symm
 have i0:(0:Int)≤((k % l.length:Nat):Int):=by omega
 have i1:((k % l.length:Nat):Int)<(l.length:Int):=by omega
 have n0:¬ ((l.length:Int)=0):=by omega
 have n1:¬ (l.length=0):=by omega
 have b0:((l.length:Int) == 0)=false:=by rw[beq_eq_false_iff_ne];exact n0
 have b1:¬ ((k:Int)<0):=by omega
 clear hc hl
 generalize l.getD (k % l.length) 0=X at *
 generalize k % l.length=M at *
 go_enter Tryz.func100,Tryz.ntmps100
 go_wp2
 go_ret
 exact ⟨rfl,Kept.refl _⟩
theorem lay_size (o:Nat):∀ (l:List Value) (n:Nat) (z:Array Value),(List.foldl (fun (cs:Array Value) (x:Value × Nat)=>cs.setIfInBounds (o+x.snd) x.fst) z (l.zipIdx n)).size=z.size
 | [],_,_=>rfl
 | v::r,n,z=>by rw[List.zipIdx_cons,List.foldl_cons,lay_size o r (n+1)];simp
theorem lay_out (o:Nat):∀ (l:List Value) (n:Nat) (z:Array Value) (j:Nat),(j<o+n∨o+n+l.length≤j)→(List.foldl (fun (cs:Array Value) (x:Value × Nat)=>cs.setIfInBounds (o+x.snd) x.fst) z (l.zipIdx n))[j]? = z[j]?
 | [],_,_,_,_=>rfl
 | v::r,n,z,j,h=>by
  rw[List.zipIdx_cons,List.foldl_cons,lay_out o r (n+1) _ j (by simp at h;omega)]
  rw[Array.getElem?_setIfInBounds_ne (by simp at h;show o+n≠j;omega)]
theorem lay_in (o:Nat):∀ (l:List Value) (n:Nat) (z:Array Value) (j:Nat) (hj:j<l.length),o+n+l.length≤z.size→(List.foldl (fun (cs:Array Value) (x:Value × Nat)=>cs.setIfInBounds (o+x.snd) x.fst) z (l.zipIdx n))[o+n+j]? = l[j]?
 | [],_,_,_,hj,_=>by simp at hj
 | v::r,n,z,j,hj,hz=>by
  rw[List.zipIdx_cons,List.foldl_cons]
  cases j with
  | zero=>
   rw[lay_out o r (n+1) _ _ (Or.inl (by omega))]
   simp at hz
   rw[Nat.add_zero,Array.getElem?_setIfInBounds_self_of_lt (by omega)]
   rfl
  | succ j=>
   have:=lay_in o r (n+1) (z.setIfInBounds (o+n) v) j (by simpa using hj) (by simp at hz ⊢;omega)
   rw[show o+n+(j+1)=o+(n+1)+j by omega,this]
   rfl
theorem setCells_size (b:Nat):∀ (vs:List Value) (o:Nat) (w:World),(w.setCells b o vs).heap.size=w.heap.size
 | [],_,_=>rfl
 | v::r,o,w=>by rw[World.setCells,setCells_size b r];simp [World.setCell]
theorem LAt.lt {w:World} {k:IntKind} {v:Value} {l:List Int} (h:LAt w k v l) (h0:0<l.length):∀ g,sliceBlock v=some g→g<w.heap.size:=by
 obtain ⟨g,o,c,rfl,hc⟩:=h.addr h0
 intro g' hg
 have:g=g':=by injection hg
 subst this
 exact World.block_lt_of_cell? _ _ (hc 0 h0)
theorem LAt.part {w:World} {k:IntKind} {g o c:Nat} {l:List Int} (h:LAt w k (.slice (some ⟨g,o,none⟩) l.length c) l) (a n c':Nat) (hn:a+n≤l.length):LAt w k (.slice (some ⟨g,o+a,none⟩) n c') ((l.drop a).take n):=by
 have hlen:((l.drop a).take n).length=n:=by simp;omega
 refine ⟨⟨some ⟨g,o+a,none⟩,c',by rw[hlen]⟩,?_⟩
 intro p c2 hv i hi
 rw[hlen] at hi
 injection hv with hp _ _
 refine ⟨g,o+a,hp.symm,?_⟩
 obtain ⟨g1,o1,e1,hc⟩:=h.cells _ _ rfl (a+i) (by omega)
 injection e1 with e1
 injection e1 with e1 e2
 subst e1;subst e2
 rw[show o+a+i=o+(a+i) by omega,hc]
 congr 2
 simp [List.getD_eq_getElem?_getD,List.getElem?_take,hi,List.getElem?_drop]
theorem isBytes.part {l:List Int} (h:isBytes l) (a n:Nat):isBytes ((l.drop a).take n):=fun x hx=>h x (List.mem_of_mem_drop (List.mem_of_mem_take hx))
theorem below_any (n e:Int) (w:World) (h0:0≤n) (h1:n<e) :
  Calls Tryz.prog 64 #[.int .i64 n,.int .i64 e] w fun r w'=>r = .returned (.bool true)∧w'=w:=by
 go_enter Tryz.func64,Tryz.ntmps64
 go_wp2
 go_ret
 exact ⟨rfl,rfl⟩
theorem isSide_any (n:Nat) (w:World) (h0:1≤n) (h1:n≤16) :
  Calls Tryz.prog 59 #[.int .i64 (n:Int)] w fun r w'=>r = .returned (.bool true)∧w'=w:=by
 have a0:(1:Int)≤(n:Int):=by omega
 have a1:(n:Int)≤16:=by omega
 go_enter Tryz.func59,Tryz.ntmps59
 go_wp2
 go_ret
 exact ⟨rfl,rfl⟩
theorem isList_any (p:Option Addr) (n c:Nat) (w:World) (h0:1≤n) (h1:n≤64) :
  Calls Tryz.prog 65 #[.slice p n c] w fun r w'=>r = .returned (.bool true)∧w'=w:=by
 have a0:(1:Int)≤(n:Int):=by omega
 have a1:(n:Int)≤64:=by omega
 go_enter Tryz.func65,Tryz.ntmps65
 go_wp2
 go_ret
 exact ⟨rfl,rfl⟩
theorem allBelow_any (v:Value) (l:List Int) (e:Int) (w:World) (hl:LAt w .i64 v l) (hn:l.length≤1048576) (hB:∀ y ∈ l,0≤y∧y<e) :
  Calls Tryz.prog 66 #[v,.int .i64 e] w fun r w'=>r = .returned (.bool true)∧Kept w w':=by
 obtain ⟨p,c,rfl⟩:=hl.form
 have HL:Hid (LAt w .i64 (.slice p l.length c) l):=hl
 have HB:Hid (∀ y ∈ l,0≤y∧y<e):=hB
 clear hl hB
 go_enter Tryz.func66,Tryz.ntmps66
 go_wp2
 go_loopw [5] (fun v W=>∃ k:Nat,k≤l.length∧v = .int .i64 (k:Int)∧Kept w W) (fun v _=>l.length - (intOf v).toNat)
 case atStart=>exact ⟨0,by omega,rfl,Kept.refl _⟩
 case round=>
  obtain ⟨k,hk,rfl,hK⟩:=hrel
  by_cases hlt:k<l.length
  ·obtain ⟨g,o,rfl,hc⟩:=(HL.out.kept hK).cellAt k hlt
   have hb:=HB.out _ (getD_mem hlt)
   generalize l.getD k 0=B at *
   have F:Hid (∀ W,Calls Tryz.prog 64 #[.int .i64 B,.int .i64 e] W fun r w'=>r = .returned (.bool true)∧w'=W):=fun W=>below_any B e W hb.1 hb.2
   clear hb
   have hlt':(k:Int)<(l.length:Int):=by omega
   replace hK:Hid (Kept w wr):=hK
   go_wp2_with fail
   refine (F.out _).mono ?_
   rintro r w1 ⟨rfl,rfl⟩
   go_wp2
   exact ⟨⟨k+1,by omega,by go_num,hK.out⟩,by simp [intOf];omega⟩
  ·have hlt':¬ (k:Int)<(l.length:Int):=by omega
   go_wp2
   go_ret
   exact ⟨rfl,hK⟩
theorem isCuts_any (v:Value) (l:List Int) (w:World) (hl:LAt w .i64 v l) (h0:0<l.length) (hn:l.length≤1048576) (hB:∀ y ∈ l,0≤y) (h1:1≤l.getD 0 0) :
  Calls Tryz.prog 67 #[v] w fun r w'=>r = .returned (.bool true)∧Kept w w':=by
 obtain ⟨p,c,rfl⟩:=hl.form
 have HL:Hid (LAt w .i64 (.slice p l.length c) l):=hl
 have HB:Hid (∀ y ∈ l,0≤y):=hB
 clear hl hB
 go_enter Tryz.func67,Tryz.ntmps67
 go_wp2
 go_loopw [3,4] (fun u v W=>∃ k:Nat,∃ b:Bool,k≤l.length∧v = .int .i64 (k:Int)∧u = .bool b∧(0<k→b=true)∧Kept w W) (fun _ v _=>l.length - (intOf v).toNat)
 case atStart=>exact ⟨0,false,by omega,rfl,rfl,fun h=>by omega,Kept.refl _⟩
 case round=>
  obtain ⟨k,b,hk,rfl,rfl,hbk,hK⟩:=hrel
  by_cases hlt:k<l.length
  ·obtain ⟨g,o,rfl,hc⟩:=(HL.out.kept hK).cellAt k hlt
   have hb:=HB.out _ (getD_mem hlt)
   have hB1:k=0→1≤l.getD k 0:=fun e=>by rw[e];exact h1
   generalize l.getD k 0=B at *
   have hlt':(k:Int)<(l.length:Int):=by omega
   replace hK:Hid (Kept w wr):=hK
   replace hbk:Hid (0<k→b=true):=hbk
   by_cases hp:0<B
   ·go_wp2
    exact ⟨⟨k+1,true,by omega,by go_num,rfl,fun _=>rfl,hK.out⟩,by simp [intOf];omega⟩
   ·have hk1:0<k:=by
     rcases Nat.eq_zero_or_pos k with e | e
     ·have:=hB1 e;omega
     ·exact e
    have hbt:=hbk.out hk1
    replace hB1:Hid _:=hB1
    go_wp2
    exact ⟨⟨k+1,b,by omega,by go_num,by first | rfl | rw[hbt],fun _=>hbt,hK.out⟩,by simp [intOf];omega⟩
  ·have hbt:b=true:=hbk (by omega)
   subst hbt
   have hlt':¬ (k:Int)<(l.length:Int):=by omega
   go_wp2
   go_ret
   exact ⟨rfl,hK⟩
theorem fits_any (K D:Nat) (w:World) (h:legal K D) :
  Calls Tryz.prog 60 #[.int .i64 (K:Int),.int .i64 (D:Int)] w fun r w'=>r = .returned (.bool true)∧w'=w:=by
 unfold legal at h
 rcases h with ⟨rfl,h⟩ | ⟨rfl,h⟩ | ⟨rfl | rfl | rfl,h⟩
 ·rcases h with rfl | rfl | rfl | rfl | rfl
  all_goals
   go_enter Tryz.func60,Tryz.ntmps60
   go_wp2
   go_ret
   exact ⟨rfl,rfl⟩
 ·rcases h with rfl | rfl | rfl | rfl
  all_goals
   go_enter Tryz.func60,Tryz.ntmps60
   go_wp2
   go_ret
   exact ⟨rfl,rfl⟩
 all_goals
  rcases h with rfl | rfl
  all_goals
   go_enter Tryz.func60,Tryz.ntmps60
   go_wp2
   go_ret
   exact ⟨rfl,rfl⟩
theorem levels0_any (a b c d:Int) (D:Nat) (w:World) (h:D=1∨D=2∨D=4∨D=8∨D=16) :
  Calls Tryz.prog 128 #[.agg #[.int .i64 a,.int .i64 b,.int .i64 (D:Int),.int .i64 c,.int .i64 d]] w fun r w'=>r = .returned (.int .u32 ((2^D:Nat):Int))∧Kept w w':=by
 rcases h with rfl | rfl | rfl | rfl | rfl
 all_goals
  go_enter Tryz.func128,Tryz.ntmps128
  go_wp2
  go_ret
  exact ⟨rfl,Below.alloc (Below.refl _ _) (Nat.le_refl _) _⟩
theorem levels_any (W H K:Int) (D:Nat) (pv cv xv:Value) (w:World) (h:D=1∨D=2∨D=4∨D=8∨D=16) :
  Calls Tryz.prog 92 #[.agg #[.int .i64 W,.int .i64 H,.int .i64 K,.int .i64 (D:Int),pv,cv,xv]] w fun r w'=>r = .returned (.int .i64 ((2^D:Nat):Int))∧Kept w w':=by
 have F:Hid (∀ (W:World) (a b c d:Int),Calls Tryz.prog 128 #[.agg #[.int .i64 a,.int .i64 b,.int .i64 (D:Int),.int .i64 c,.int .i64 d]] W fun r w'=>r = .returned (.int .u32 ((2^D:Nat):Int))∧Kept W w'):=fun W a b c d=>levels0_any a b c d D W h
 have hP:(2^D:Nat)≤65536:=by rcases h with rfl | rfl | rfl | rfl | rfl<;>decide
 generalize (2^D:Nat)=P at *
 clear h
 go_enter Tryz.func92,Tryz.ntmps92
 go_wp2_with fail
 refine (F.out _ _ _ _ _).mono ?_
 rintro r w1 ⟨rfl,hk1⟩
 go_wp2
 go_ret
 refine ⟨rfl,Kept.trans (Below.alloc (Below.alloc (Below.refl _ _) (Nat.le_refl _) _) (by simp) _) hk1⟩
end Go.Proofs.YtmbmecfodigciaaGreatDoor
