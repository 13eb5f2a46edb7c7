import Derived.Test.YtgooinallljbpaaGreatDoorTd10
import Derived.Laws.BitsAllLaws
set_option maxRecDepth 100000
set_option maxHeartbeats 6400000
namespace Px
def cQ (s:Nat):Nat:=if s % 2=1 then (s / 2) ^^^ 3988292384 else s / 2
def cX:Nat->Nat->Nat
 | 0,s=>s
 | k+1,s=>cQ (cX k s)
def cB (s b:Nat):Nat:=cX 8 (s ^^^ b)
def bE (s:Nat) (l:List Nat):Nat:=l.foldl cB s
def au:Nat:=4294967295
def bL (s:Nat):Nat:=s ^^^ 4294967295
def qb (b:Nat):Bool:=decide (65<=b/\b<=90)
def Em (b:Nat):Bool:=decide (97<=b/\b<=122)
def qM (b:Nat):Bool:=qb b || Em b
def tyB (n:Nat):Bool:=qM (n / 16777216 % 256) && qM (n / 65536 % 256) && qb (n / 256 % 256) && qM (n % 256)
def lx (k d:Nat):Bool:=
 if k=0 then decide (d=1\/d=2\/d=4\/d=8\/d=16)
 else if k=3 then decide (d=1\/d=2\/d=4\/d=8)
 else if k=2\/k=4\/k=6 then decide (d=8\/d=16)
 else false
def aY:Nat:=1229472850
def cq:Nat:=1347179589
def bZ:Nat:=1951551059
def aJ:Nat:=1229209940
def cS:Nat:=1229278788
def fP (i:Nat):Nat:=[137,80,78,71,13,10,26,10].getD i 0
end Px
namespace Go.Proofs.YtgooinallljbpaaGreatDoor
open Go.RowKit
set_option linter.unusedSimpArgs false
set_option linter.unusedVariables false
theorem iK (b:Nat) (w:World) :
  Calls Tryz.prog 89 #[.int .u8 (b:Int)] w fun e w'=>e = .returned (.bool (Px.qb b))/\w'=w:=by
 go_enter Tryz.func89,Tryz.ntmps89;go_wp2
 all_goals go_ret
 all_goals exact ⟨bj (by unfold Px.qb;first | (symm;rw[decide_eq_false_iff_not];omega) | (rw[Bool.eq_iff_iff,decide_eq_true_iff,decide_eq_true_iff];omega)),rfl⟩
theorem yi (b:Nat) (w:World) :
  Calls Tryz.prog 119 #[.int .u8 (b:Int)] w fun e w'=>e = .returned (.bool (Px.qM b))/\w'=w:=by
 cases hc:Px.qb b
 ·have hl:Px.qM b=Px.Em b:=by simp [Px.qM,hc]
  have HL:Hid (Px.qM b=Px.Em b):=hl;clear hl;go_enter Tryz.func119,Tryz.ntmps119;go_wp2_with (go_at_call 89;refine (iK _ _).mono ?_;rintro e w' ⟨rfl,rfl⟩)
  all_goals go_ret
  all_goals exact ⟨bj (by rw[HL.out];unfold Px.Em;first | (symm;rw[decide_eq_false_iff_not];omega) | (rw[Bool.eq_iff_iff,decide_eq_true_iff,decide_eq_true_iff];omega)),rfl⟩
 ·have hl:Px.qM b=true:=by simp [Px.qM,hc]
  have HL:Hid (Px.qM b=true):=hl;clear hl;go_enter Tryz.func119,Tryz.ntmps119;go_wp2_with (go_at_call 89;refine (iK _ _).mono ?_;rintro e w' ⟨rfl,rfl⟩)
  all_goals go_ret
  all_goals exact ⟨bj HL.out.symm,rfl⟩
theorem Ap (b:Int) (w:World) (h:0<=b) :
  Calls Tryz.prog 89 #[.int .u8 b] w fun e w'=>e = .returned (.bool (Px.qb b.toNat))/\w'=w:=by
 obtain ⟨n,rfl⟩:=Int.eq_ofNat_of_zero_le h;exact iK n w
theorem Cd (b:Int) (w:World) (h:0<=b) :
  Calls Tryz.prog 119 #[.int .u8 b] w fun e w'=>e = .returned (.bool (Px.qM b.toNat))/\w'=w:=by
 obtain ⟨n,rfl⟩:=Int.eq_ofNat_of_zero_le h;exact yi n w
theorem Lt (n:Nat) (hn:n<4294967296):Px.tyB n=(Px.qM ((n:Int) / 16777216).toNat && Px.qM ((n:Int) / 65536 % 256).toNat && Px.qb ((n:Int) / 256 % 256).toNat && Px.qM (n % 256)):=by
 unfold Px.tyB;rw[show ((n:Int) / 16777216).toNat=n / 16777216 % 256 from by omega,show ((n:Int) / 65536 % 256).toNat=n / 65536 % 256 from by omega,show ((n:Int) / 256 % 256).toNat=n / 256 % 256 from by omega]
theorem Cc (n:Nat) (w:World) (hn:n<4294967296) :
  Calls Tryz.prog 82 #[.int .u32 (n:Int)] w fun e w'=>e = .returned (.bool (Px.tyB n))/\w'=w:=by
 rw[Lt n hn];cases h1:Px.qM ((n:Int) / 16777216).toNat<;>cases h2:Px.qM ((n:Int) / 65536 % 256).toNat<;>cases h3:Px.qb ((n:Int) / 256 % 256).toNat
 all_goals
  go_enter Tryz.func82,Tryz.ntmps82;go_wp2_with (first | (go_at_call 119;refine (Cd _ _ (by omega)).mono ?_;rintro e w' ⟨rfl,rfl⟩) | (go_at_call 89;refine (Ap _ _ (by omega)).mono ?_;rintro e w' ⟨rfl,rfl⟩))
  go_ret;exact ⟨bj (by simp only [Bool.true_and,Bool.false_and,Bool.and_false]),rfl⟩
theorem sK (k s:Nat) (h:s<4294967296):Px.cX k s<4294967296:=by
 induction k with
 | zero=>exact h
 | succ k ih=>
  show Px.cQ _<_
  unfold Px.cQ;split
  ·exact Nat.xor_lt_two_pow (n:=32) (by omega) (by omega)
  ·omega
theorem and1 (n:Nat) (h:n<4294967296):bits BinOp.and IntKind.u32 (n:Int) 1=((n % 2:Nat):Int):=by
 have:=u32_and_nat n 1 h (by omega);rw[show ((1:Int))=((1:Nat):Int) from rfl,this,nat_mask1]
theorem Nv (n:Nat) (h:n<4294967296):bits BinOp.xor IntKind.u32 ((n:Int) / 2) 3988292384=(((n / 2) ^^^ 3988292384:Nat):Int):=by
 have:=u32_xor_nat (n / 2) 3988292384 (by omega) (by omega)
 rw[show ((n:Int) / 2)=((n / 2:Nat):Int) from by omega,show ((3988292384:Int))=((3988292384:Nat):Int) from rfl,this]
theorem ID (k s:Nat) (h:s<4294967296) (c:Nat) (hc:c=Px.cX k s)
  (t:(bits BinOp.and IntKind.u32 (c:Int) 1 == 1)=true):bits BinOp.xor IntKind.u32 ((c:Int) / 2) 3988292384=(Px.cX (k+1) s:Nat):=by
 have hl:=sK k s h;subst hc;rw[and1 _ hl] at t;rw[Nv _ hl]
 have:Px.cX k s % 2=1:=by simp at t;omega
 show _=((Px.cQ (Px.cX k s):Nat):Int)
 unfold Px.cQ;rw[if_pos this]
theorem EZ (k s:Nat) (h:s<4294967296) (c:Nat) (hc:c=Px.cX k s)
  (t:(bits BinOp.and IntKind.u32 (c:Int) 1 == 1)=false):(c:Int) / 2=(Px.cX (k+1) s:Nat):=by
 have hl:=sK k s h;subst hc;rw[and1 _ hl] at t
 have:¬ Px.cX k s % 2=1:=by simp at t;omega
 show _=((Px.cQ (Px.cX k s):Nat):Int)
 unfold Px.cQ;rw[if_neg this];omega
theorem yY (s b:Nat) (hs:s<4294967296) (hb:b<256):s ^^^ b<4294967296:=Nat.xor_lt_two_pow (n:=32) (by omega) (by omega)
theorem xn (s b:Nat) (hs:s<4294967296) (hb:b<256):Px.cB s b<4294967296:=sK _ _ (yY s b hs hb)
theorem wC (s b:Nat) (w:World) (hs:s<4294967296) (hb:b<256) :
  Calls Tryz.prog 50 #[.int .u32 (s:Int),.int .u8 (b:Int)] w fun e w'=>e = .returned (.int .u32 (Px.cB s b:Nat))/\w'=w:=by
 have hx:=yY s b hs hb;go_enter Tryz.func50,Tryz.ntmps50;go_wp2;go_loop [0,5] (fun c i=>∃ k:Nat,k<=8/\i = .int .i64 k/\c = .int .u32 (Px.cX k (s ^^^ b):Nat)) (fun _ i=>8 - (intOf i).toNat)
 case atStart=>exact ⟨0,by omega,rfl,aV (by rw[u32_xor_nat s b hs (by omega)];rfl)⟩
 case round=>
  obtain ⟨k,hk,rfl,rfl⟩:=hrel;go_wp2
  ·exact ⟨⟨k+1,by omega,by go_num,aV (ID k _ hx _ rfl ‹_›)⟩,by simp [intOf];omega⟩
  ·exact ⟨⟨k+1,by omega,by go_num,aV (EZ k _ hx _ rfl ‹_›)⟩,by simp [intOf];omega⟩
  ·go_ret
   exact ⟨ah (by rw[show k=8 from by omega];rfl),rfl⟩
theorem Cu (s:Nat) (w:World) (hs:s<4294967296) :
  Calls Tryz.prog 54 #[.int .u32 (s:Int)] w fun e w'=>e = .returned (.int .u32 (Px.bL s:Nat))/\w'=w:=by
 go_enter Tryz.func54,Tryz.ntmps54;go_wp2;go_ret;exact ⟨ah (by
  have:=u32_xor_nat 4294967295 s (by omega) hs
  rw[show IntKind.u32.max=((4294967295:Nat):Int) from rfl,this,Nat.xor_comm];rfl),rfl⟩
theorem ors (a b c d:Nat) (ha:a<256) (hb:b<256) (hc:c<256) (hd:d<256) :
  bits BinOp.or IntKind.u32 (bits BinOp.or IntKind.u32 (bits BinOp.or IntKind.u32 ((a:Int)*16777216) ((b:Int)*65536)) ((c:Int)*256)) d=((((a*256+b)*256+c)*256+d:Nat):Int):=by
 rw[show (a:Int)*16777216=((a*16777216:Nat):Int) from by omega,show (b:Int)*65536=((b*65536:Nat):Int) from by omega,show (c:Int)*256=((c*256:Nat):Int) from by omega];rw[u32_or_nat _ _ (by omega) (by omega),nat_join 24 (a*16777216) (b*65536) (by omega) (by omega)];rw[u32_or_nat _ _ (by omega) (by omega),nat_join 16 (a*16777216+b*65536) (c*256) (by omega) (by omega)];rw[u32_or_nat _ _ (by omega) (by omega),nat_join 8 (a*16777216+b*65536+c*256) d (by omega) (by omega)];omega
theorem uW (a b c d:Nat) (w:World) (ha:a<256) (hb:b<256) (hc:c<256) (hd:d<256) :
  Calls Tryz.prog 141 #[.int .u8 (a:Int),.int .u8 (b:Int),.int .u8 (c:Int),.int .u8 (d:Int)] w fun e w'=>e = .returned (.int .u32 ((((a*256+b)*256+c)*256+d:Nat):Int))/\w'=w:=by
 go_enter Tryz.func141,Tryz.ntmps141;go_wp2;go_ret;exact ⟨ah (ors a b c d ha hb hc hd),rfl⟩
def qF (n:Nat):Bool:=decide (n≠0/\n<2147483648)
theorem fN (n:Nat) (w:World) :
  Calls Tryz.prog 142 #[.int .u32 (n:Int)] w fun e w'=>e = .returned (.bool (qF n))/\w'=w:=by
 go_enter Tryz.func142,Tryz.ntmps142;go_wp2
 all_goals go_ret
 ·exact ⟨bj (by unfold qF;simp_all),rfl⟩
 ·exact ⟨bj (by unfold qF;rw[Bool.eq_iff_iff];simp;omega),rfl⟩
theorem GL (D:Nat) (h:D<=16):2^D<=65536:=by
 have:=Nat.pow_le_pow_right (n:=2) (by omega) h;simpa using this
theorem pow_mod (D:Nat) (h:D<=16):(2:Int)^D % 4294967296=((2^D:Nat):Int):=by
 have:=GL D h
 rw[show (2:Int)^D=((2^D:Nat):Int) from by simp];generalize 2^D=m at *;omega
theorem uX (W H D K L:Nat) (w:World) (h:D<=16) :
  Calls Tryz.prog 120 #[.agg #[.int .i64 W,.int .i64 H,.int .i64 D,.int .i64 K,.int .i64 L]] w fun e w'=>e = .returned (.int .u32 ((2^D:Nat):Int))/\w'=w.alloc (.cells #[.int .i64 W,.int .i64 H,.int .i64 D,.int .i64 K,.int .i64 L] 44):=by
 go_enter Tryz.func120,Tryz.ntmps120;go_wp2;go_ret;exact ⟨ah (pow_mod D h),rfl⟩
theorem kinds (k:Nat):k=0\/k=2\/k=3\/k=4\/k=6\/(k≠0/\k≠2/\k≠3/\k≠4/\k≠6):=by omega
theorem lL (k d:Nat) (w:World) :
  Calls Tryz.prog 143 #[.int .i64 (k:Int),.int .i64 (d:Int)] w fun e w'=>e = .returned (.bool (Px.lx k d))/\w'=w:=by
 rcases kinds k with rfl | rfl | rfl | rfl | rfl | ⟨h0,h2,h3,h4,h6⟩
 case' inr.inr.inr.inr.inr=>
  have H:Hid (Px.lx k d=false):=by unfold Px.lx Hid;simp [*]
  have g0:((k:Int) == 0)=false:=beq_eq_false_iff_ne.2 (by omega);have g2:((k:Int) == 2)=false:=beq_eq_false_iff_ne.2 (by omega);have g3:((k:Int) == 3)=false:=beq_eq_false_iff_ne.2 (by omega);have g4:((k:Int) == 4)=false:=beq_eq_false_iff_ne.2 (by omega);have g6:((k:Int) == 6)=false:=beq_eq_false_iff_ne.2 (by omega);clear h0 h2 h3 h4 h6
 all_goals
  go_enter Tryz.func143,Tryz.ntmps143;go_wp2
  all_goals go_ret
  all_goals first | exact ⟨bj (by rw[H.out]),rfl⟩ | exact ⟨bj (by unfold Px.lx;rw[Bool.eq_iff_iff];simp;try omega),rfl⟩
end Go.Proofs.YtgooinallljbpaaGreatDoor
namespace Go.Proofs.YtgooinallljbpaaGreatDoor
open Go.RowKit Px
set_option linter.unusedSimpArgs false
set_option linter.unusedVariables false
def aC (b o n:Nat) (c:Nat->Value) (s':Rd) (w w':World):Prop:=∃ d,Blk w' b n d/\RdV d o s'/\FrC b o (o+5954) c d/\Fr1 b w w'
theorem aC.refl {b o n:Nat} {c:Nat->Value} {s:Rd} {w:World} (hB:Blk w b n c) (hV:RdV c o s):aC b o n c s w w:=⟨c,hB,hV,FrC.refl _ _ _ _,Fr.refl _ _⟩
theorem aC.of_kept {b o n:Nat} {c:Nat->Value} {s:Rd} {w w':World} (hB:Blk w b n c) (hV:RdV c o s) (k:Kept w w'):aC b o n c s w w':=⟨c,hB.kept k,hV,FrC.refl _ _ _ _,Fr.of_kept k⟩
theorem aC.next {b o n:Nat} {c d:Nat->Value} {s:Rd} {w w1 w':World} (hC:FrC b o (o+5954) c d) (hF:Fr1 b w w1) (k:aC b o n d s w1 w'):aC b o n c s w w':=by
 obtain ⟨e,h1,h2,h4,h5⟩:=k;exact ⟨e,h1,h2,hC.trans h4,hF.trans h5⟩
def Rd.enter (s:Rd) (p:Nat):Rd:={ s with part:=p,taken:=0,number:=0 }
theorem mE (b o n p:Nat) (c:Nat->Value) (s:Rd) (w:World) (hB:Blk w b n c) (hV:RdV c o s) (hn:o+5954<=n) :
  Calls Tryz.prog 48 #[.pointer (some ⟨b,o,none⟩),.int .i64 (p:Int)] w fun e w'=>e = .returned (.tuple #[])/\aC b o n c (s.enter p) w w':=by
 have k0:=hB.at (i:=o) (by omega) hV.part;have k1:=hB.at (i:=o+1) (by omega) hV.taken;have k2:=hB.at (i:=o+2) (by omega) hV.number;have z:=hB.fz;have HB:Hid (Blk w b n c):=hB;have HV:Hid (RdV c o s):=hV;clear hB hV;go_enter Tryz.func48,Tryz.ntmps48;go_wp2;go_end0
 exact ⟨rfl,_,((HB.out.set (k:=o) (by omega) _).set (k:=o+1) (by omega) _).set (k:=o+2) (by omega) _,((HV.out.set_part p).set_taken 0).set_number 0,((FrC.upd _ (by omega) (by omega)).trans (FrC.upd _ (by omega) (by omega))).trans (FrC.upd _ (by omega) (by omega)),Fr1.set (Fr1.set (Fr1.set (Fr.refl _ _) _ _) _ _) _ _⟩
def Rd.num (s:Rd) (x:Nat):Rd:={ s with number:=s.number*256+x,taken:=s.taken+1 }
theorem u32_or8 (m x:Nat) (hm:m<16777216) (hx:x<256):bits .or .u32 ((m:Int)*256) (x:Int)=((m*256+x:Nat):Int):=by
 rw[show (m:Int)*256=((m*256:Nat):Int) from by omega,u32_or_nat _ _ (by omega) (by omega),nat_join 8 (m*256) x (by omega) (by omega)]
theorem BK (b o n x:Nat) (c:Nat->Value) (s:Rd) (w:World) (hB:Blk w b n c) (hV:RdV c o s) (hn:o+5954<=n) (ht:s.taken<1000) (hm:s.number<16777216) (hx:x<256) :
  Calls Tryz.prog 49 #[.pointer (some ⟨b,o,none⟩),.int .u8 (x:Int)] w fun e w'=>e = .returned (.bool (decide (s.taken+1=4)))/\aC b o n c (s.num x) w w':=by
 have k1:=hB.at (i:=o+1) (by omega) hV.taken;have k2:=hB.at (i:=o+2) (by omega) hV.number;have z:=hB.fz;have eo:=u32_or8 s.number x hm hx;have HB:Hid (Blk w b n c):=hB;have HV:Hid (RdV c o s):=hV;obtain ⟨N,hN⟩:∃ N,N=s.number*256+x:=⟨_,rfl⟩;obtain ⟨T,hT⟩:∃ T,T=s.taken+1:=⟨_,rfl⟩;have eT:(s.taken:Int)+1=(T:Int):=by omega
 rw[<- hN] at eo;have HE:Hid (s.num x={ s with number:=N,taken:=T }):=by show s.num x=_;unfold Rd.num;rw[hN,hT]
 rw[<- hT];have hT2:T<=1000:=by omega
 clear hB hV hN hT;go_enter Tryz.func49,Tryz.ntmps49;go_wp2;go_ret;refine ⟨bj (by rw[Bool.eq_iff_iff,beq_iff_eq,decide_eq_true_iff];omega),?_⟩;rw[HE.out];exact ⟨_,(HB.out.set (k:=o+2) (by omega) _).set (k:=o+1) (by omega) _,(HV.out.set_number N).set_taken T,(FrC.upd _ (by omega) (by omega)).trans (FrC.upd _ (by omega) (by omega)),Fr1.set (Fr1.set (Fr.refl _ _) _ _) _ _⟩
theorem tZ:∀ (i:Nat) (h:i<8) (h':i<(ByteArray.mk #[137,80,78,71,13,10,26,10]).size),((ByteArray.mk #[137,80,78,71,13,10,26,10])[i]'h').toNat=fP i
 | 0,_,_=>rfl
 | 1,_,_=>rfl
 | 2,_,_=>rfl
 | 3,_,_=>rfl
 | 4,_,_=>rfl
 | 5,_,_=>rfl
 | 6,_,_=>rfl
 | 7,_,_=>rfl
def Rd.takeSign (s:Rd) (x:Nat):Rd × Nat:=
 if 8<=s.taken\/x≠fP s.taken then (s,1)
 else if s.taken+1=8 then (({ s with taken:=s.taken+1 }:Rd).enter 1,0) else ({ s with taken:=s.taken+1 },0)
theorem Be (b o n x:Nat) (c:Nat->Value) (s:Rd) (w:World) (hB:Blk w b n c) (hV:RdV c o s) (hn:o+5954<=n) (ht:s.taken<1000) (hx:x<256) :
  Calls Tryz.prog 35 #[.pointer (some ⟨b,o,none⟩),.int .u8 (x:Int)] w fun e w'=>e = .returned (.int .i64 ((s.takeSign x).2:Int))/\aC b o n c (s.takeSign x).1 w w':=by
 have k1:=hB.at (i:=o+1) (by omega) hV.taken;have z:=hB.fz;have HB:Hid (Blk w b n c):=hB;have HV:Hid (RdV c o s):=hV;have HE:Hid (s.takeSign x=if 8<=s.taken\/x≠fP s.taken then (s,1) else if s.taken+1=8 then (({ s with taken:=s.taken+1 }:Rd).enter 1,0) else ({ s with taken:=s.taken+1 },0)):=rfl;clear hB hV;by_cases h8:8<=s.taken
 ·have h8':(8:Int)<=(s.taken:Int):=by omega
  go_enter Tryz.func35,Tryz.ntmps35;go_wp2;go_ret;rw[HE.out,if_pos (Or.inl h8)];exact ⟨rfl,aC.refl HB.out HV.out⟩
 ·have h8':¬ (8:Int)<=(s.taken:Int):=by omega
  have H8:Hid (s.taken<8):=by show s.taken<8;omega
  obtain ⟨T,hT⟩:∃ T,T=s.taken+1:=⟨_,rfl⟩;have eT:(s.taken:Int)+1=(T:Int):=by omega
  rw[<- hT] at HE;have hT8:T<=8:=by omega
  replace hT:Hid _:=hT;have C1:Hid (FrC b o (o+5954) c (upd c (o+1) (.int .u32 (T:Int)))):=FrC.upd _ (by omega) (by omega);go_enter Tryz.func35,Tryz.ntmps35;go_wp2_with fail
  ·go_ret
   rename_i hq
   have hb:=tZ s.taken H8.out (by show _<8;exact H8.out);rw[bne_iff_ne,hb] at hq;rw[HE.out,if_pos (Or.inr (by omega))];exact ⟨rfl,aC.refl HB.out HV.out⟩
  ·refine (mE b o n 1 _ { s with taken:=T } _ (HB.out.set (by omega) _) (HV.out.set_taken T) hn).mono ?_
   rintro e w1 ⟨rfl,h1⟩;go_wp2_with fail;go_ret
   rename_i hq hr
   have hb:=tZ s.taken H8.out (by show _<8;exact H8.out);rw[bne_eq_false_iff_eq,hb] at hq;rw[beq_iff_eq] at hr;rw[HE.out,if_neg (by have:=H8.out;omega),if_pos (by omega)];exact ⟨rfl,aC.next C1.out (Fr1.set (Fr.refl _ _) _ _) h1⟩
  ·go_ret
   rename_i hq hr
   have hb:=tZ s.taken H8.out (by show _<8;exact H8.out);rw[bne_eq_false_iff_eq,hb] at hq;rw[beq_eq_false_iff_ne] at hr;rw[HE.out,if_neg (by have:=H8.out;omega),if_neg (by omega)];exact ⟨rfl,_,HB.out.set (by omega) _,HV.out.set_taken T,C1.out,Fr1.set (Fr.refl _ _) _ _⟩
theorem yD:((au:Nat):Int)=4294967295:=by unfold au;rfl
def Rd.takeLength (s:Rd) (x:Nat):Rd × Nat:=
 if s.taken+1≠4 then (s.num x,0)
 else if 2147483648<=s.number*256+x then (s.num x,2)
 else (({ s.num x with length:=s.number*256+x,sum:=au }:Rd).enter 2,0)
theorem xP (b o n x:Nat) (c:Nat->Value) (s:Rd) (w:World) (hB:Blk w b n c) (hV:RdV c o s) (hn:o+5954<=n) (ht:s.taken<1000) (hm:s.number<16777216) (hx:x<256) :
  Calls Tryz.prog 36 #[.pointer (some ⟨b,o,none⟩),.int .u8 (x:Int)] w fun e w'=>e = .returned (.int .i64 ((s.takeLength x).2:Int))/\aC b o n c (s.takeLength x).1 w w':=by
 have FN:Hid (Calls Tryz.prog 49 #[.pointer (some ⟨b,o,none⟩),.int .u8 (x:Int)] w fun e w'=>e = .returned (.bool (decide (s.taken+1=4)))/\aC b o n c (s.num x) w w'):=BK b o n x c s w hB hV hn ht hm hx;have HE:Hid (s.takeLength x=if s.taken+1≠4 then (s.num x,0) else if 2147483648<=s.number*256+x then (s.num x,2) else (({ s.num x with length:=s.number*256+x,sum:=au }:Rd).enter 2,0)):=rfl;obtain ⟨N,hN⟩:∃ N,N=s.number*256+x:=⟨_,rfl⟩;have HN:Hid ((s.num x).number=N):=hN.symm;rw[<- hN] at HE;have hN2:N<4294967296:=by omega
 obtain ⟨q,hq⟩:∃ q,q=s.num x:=⟨_,rfl⟩;rw[<- hq] at FN HE HN;clear hB hV hN hq;by_cases h4:s.taken+1=4
 ·rw[decide_eq_true h4] at FN
  have HE2:Hid (s.takeLength x=if 2147483648<=N then (q,2) else (({ q with length:=N,sum:=au }:Rd).enter 2,0)):=by show s.takeLength x=_;rw[HE.out,if_neg (fun k=>k h4)]
  clear HE h4;go_enter Tryz.func36,Tryz.ntmps36;go_wp2_with fail;refine FN.out.mono ?_;rintro e w1 ⟨rfl,d,hB1,hV1,hC1,hF1⟩;have k2:=hB1.at (i:=o+2) (by omega) hV1.number;have k3:=hB1.at (i:=o+3) (by omega) hV1.length;have k5:=hB1.at (i:=o+5) (by omega) hV1.sum;have z:=hB1.fz;rw[HN.out] at k2;have B1:Hid (Blk w1 b n d):=hB1;have V1:Hid (RdV d o q):=hV1;have C1:Hid (FrC b o (o+5954) c d):=hC1;have F1:Hid (Fr1 b w w1):=hF1;clear hB1 hV1 hC1 hF1 FN;by_cases h:2147483648<=N
  ·have h':(2147483648:Int)<=(N:Int):=by omega
   go_wp2_with fail;go_ret;rw[HE2.out,if_pos h];exact ⟨rfl,d,B1.out,V1.out,C1.out,F1.out⟩
  ·have h':decide ((2147483648:Int)<=(N:Int))=false:=decide_eq_false (by omega)
   replace h:Hid _:=h;replace hN2:Hid _:=hN2;go_wp2_with fail;have V2:RdV (upd (upd d (o+3) (.int .u32 (N:Int))) (o+5) (.int .u32 4294967295)) o { q with length:=N,sum:=au }:=by
    have:=(V1.out.set_length N).set_sum au
    rw[yD] at this;exact this
   refine (mE b o n 2 _ { q with length:=N,sum:=au } _ ((B1.out.set (k:=o+3) (by omega) (.int .u32 (N:Int))).set (k:=o+5) (by omega) (.int .u32 4294967295)) V2 hn).mono ?_;rintro e w2 ⟨rfl,h2⟩;go_wp2_with fail;go_ret;rw[HE2.out,if_neg h.out];exact ⟨rfl,aC.next ((C1.out.trans (FrC.upd _ (by omega) (by omega))).trans (FrC.upd _ (by omega) (by omega))) (Fr1.set (Fr1.set F1.out _ _) _ _) h2⟩
 ·rw[decide_eq_false h4] at FN
  have HE2:Hid (s.takeLength x=(q,0)):=by show s.takeLength x=_;rw[HE.out,if_pos h4]
  clear HE h4;go_enter Tryz.func36,Tryz.ntmps36;go_wp2_with fail;refine FN.out.mono ?_;rintro e w1 ⟨rfl,h1⟩;go_wp2_with fail;go_ret;rw[HE2.out];exact ⟨rfl,h1⟩
def Rd.checkFirst (s:Rd):Nat:=if s.ctype≠aY then 4 else if s.length≠13 then 5 else 0
def Rd.checkData (s:Rd):Nat:=if s.dov || (decide (s.hd.K=3) && !s.sp) then 4 else 0
def Rd.checkEnd (s:Rd):Nat:=if s.sd=false then 4 else if s.length≠0 then 5 else 0
def Rd.checkAlphas (s:Rd):Nat:=if s.sp=false then 4 else if s.length<1\/s.tl.colours<s.length then 5 else 0
theorem yG (b o n:Nat) (c:Nat->Value) (s:Rd) (w:World) (hB:Blk w b n c) (hV:RdV c o s) (hn:o+5954<=n) :
  Calls Tryz.prog 83 #[.pointer (some ⟨b,o,none⟩)] w fun e w'=>e = .returned (.int .i64 (s.checkFirst:Int))/\w'=w:=by
 have k4:=hB.at (i:=o+4) (by omega) hV.ctype;have k3:=hB.at (i:=o+3) (by omega) hV.length;have HE:Hid (s.checkFirst=if s.ctype≠aY then 4 else if s.length≠13 then 5 else 0):=rfl;clear hB hV;by_cases h1:s.ctype=aY
 ·rw[h1] at k4
  by_cases h2:s.length=13
  ·rw[h2] at k3
   have HE2:Hid (s.checkFirst=0):=by show s.checkFirst=0;rw[HE.out,if_neg (fun k=>k h1),if_neg (fun k=>k h2)]
   clear h1 h2 HE;go_enter Tryz.func83,Tryz.ntmps83;unfold aY at *;go_wp2;go_ret;exact ⟨ah (by rw[HE2.out];rfl),rfl⟩
  ·have h2':((s.length:Int) != 13)=true:=by rw[bne_iff_ne];omega
   have HE2:Hid (s.checkFirst=5):=by show s.checkFirst=5;rw[HE.out,if_neg (fun k=>k h1),if_pos h2]
   clear h1 h2 HE;go_enter Tryz.func83,Tryz.ntmps83;unfold aY at *;go_wp2;go_ret;exact ⟨ah (by rw[HE2.out];rfl),rfl⟩
 ·have h1':((s.ctype:Int) != 1229472850)=true:=by
   rw[bne_iff_ne];intro e;apply h1;unfold aY;omega
  have HE2:Hid (s.checkFirst=4):=by show s.checkFirst=4;rw[HE.out,if_pos h1]
  clear h1 HE;go_enter Tryz.func83,Tryz.ntmps83;go_wp2;go_ret;exact ⟨ah (by rw[HE2.out];rfl),rfl⟩
theorem AN (b o n:Nat) (c:Nat->Value) (s:Rd) (w:World) (hB:Blk w b n c) (hV:RdV c o s) (hn:o+5954<=n) :
  Calls Tryz.prog 87 #[.pointer (some ⟨b,o,none⟩)] w fun e w'=>e = .returned (.int .i64 (s.checkData:Int))/\w'=w:=by
 have kd:=hB.at (i:=o+5953) (by omega) hV.dov;have kk:=hB.at (i:=o+6+3) (by omega) hV.hd.K;have kp:=hB.at (i:=o+5950) (by omega) hV.sp;have HE:Hid (s.checkData=if s.dov || (decide (s.hd.K=3) && !s.sp) then 4 else 0):=rfl;clear hB hV;by_cases h3:s.hd.K=3
 ·rw[h3] at kk
  rw[decide_eq_true h3] at HE;clear h3;cases hd:s.dov<;>cases hp:s.sp
  all_goals
   rw[hd] at kd;rw[hp] at kp;rw[hd,hp] at HE;clear hd hp;go_enter Tryz.func87,Tryz.ntmps87;go_wp2;go_ret;exact ⟨ah (by rw[HE.out];rfl),rfl⟩
 ·have h3':((s.hd.K:Int) == 3)=false:=by rw[beq_eq_false_iff_ne];omega
  rw[decide_eq_false h3] at HE;clear h3;cases hd:s.dov
  all_goals
   rw[hd] at kd;rw[hd] at HE;clear hd;go_enter Tryz.func87,Tryz.ntmps87;go_wp2;go_ret;exact ⟨ah (by rw[HE.out];rfl),rfl⟩
theorem CE (b o n:Nat) (c:Nat->Value) (s:Rd) (w:World) (hB:Blk w b n c) (hV:RdV c o s) (hn:o+5954<=n) :
  Calls Tryz.prog 88 #[.pointer (some ⟨b,o,none⟩)] w fun e w'=>e = .returned (.int .i64 (s.checkEnd:Int))/\w'=w:=by
 have kd:=hB.at (i:=o+5952) (by omega) hV.sd;have k3:=hB.at (i:=o+3) (by omega) hV.length;have HE:Hid (s.checkEnd=if s.sd=false then 4 else if s.length≠0 then 5 else 0):=rfl;clear hB hV;cases hd:s.sd
 ·rw[hd] at kd
  rw[hd] at HE;clear hd;go_enter Tryz.func88,Tryz.ntmps88;go_wp2;go_ret;exact ⟨ah (by rw[HE.out];rfl),rfl⟩
 ·rw[hd] at kd
  rw[hd] at HE;clear hd;by_cases h:s.length=0
  ·have h':((s.length:Int) != 0)=false:=by rw[bne_eq_false_iff_eq];omega
   replace h:Hid _:=h;go_enter Tryz.func88,Tryz.ntmps88;go_wp2;go_ret;exact ⟨ah (by rw[HE.out,h.out];rfl),rfl⟩
  ·have h':((s.length:Int) != 0)=true:=by rw[bne_iff_ne];omega
   go_enter Tryz.func88,Tryz.ntmps88;go_wp2;go_ret;exact ⟨ah (by rw[HE.out,if_neg (by simp),if_pos h];rfl),rfl⟩
theorem xt (b o n:Nat) (c:Nat->Value) (t:Tl) (w:World) (hB:Blk w b n c) (hV:TlV c o t) (hn:o+1026<=n) :
  Calls Tryz.prog 125 #[.pointer (some ⟨b,o,none⟩)] w fun e w'=>e = .returned (.int .i64 (t.colours:Int))/\w'=w:=by
 have k:=hB.at (i:=o+1024) (by omega) hV.colours;clear hB hV;go_enter Tryz.func125,Tryz.ntmps125;go_wp2;go_ret;exact ⟨rfl,rfl⟩
theorem wQ (b o n:Nat) (c:Nat->Value) (s:Rd) (w:World) (hB:Blk w b n c) (hV:RdV c o s) (hn:o+5954<=n) (hc:s.tl.colours<=256) :
  Calls Tryz.prog 122 #[.pointer (some ⟨b,o,none⟩)] w fun e w'=>e = .returned (.int .i64 (s.checkAlphas:Int))/\∃ q,w'=w.drewN q:=by
 have kp:=hB.at (i:=o+5950) (by omega) hV.sp;have k3:=hB.at (i:=o+3) (by omega) hV.length;have HE:Hid (s.checkAlphas=if s.sp=false then 4 else if s.length<1\/s.tl.colours<s.length then 5 else 0):=rfl;have FC:Hid (∀ q,Calls Tryz.prog 125 #[.pointer (some ⟨b,o+24,none⟩)] (w.drewN q) fun e w'=>e = .returned (.int .i64 (s.tl.colours:Int))/\w'=w.drewN q):=fun q=>xt b (o+24) n c s.tl _ (hB.kept ((Kept.refl _).drewN q)) hV.tl (by omega)
 clear hB hV;generalize s.tl.colours=C at *;have eC:IntKind.u32.wrap (C:Int)=(C:Int):=by rw[IntKind.wrap_u32];omega
 cases hp:s.sp
 ·rw[hp] at kp
  rw[hp] at HE;clear hp;go_enter Tryz.func122,Tryz.ntmps122;go_wp2;go_ret;exact ⟨ah (by rw[HE.out];rfl),0,rfl⟩
 ·rw[hp] at kp
  rw[hp] at HE;clear hp;have HE1:Hid (s.checkAlphas=if s.length<1\/C<s.length then 5 else 0):=by show s.checkAlphas=_;rw[HE.out,if_neg (by simp)]
  clear HE;by_cases h1:s.length<1
  ·have h1':(s.length:Int)<1:=by omega
   go_enter Tryz.func122,Tryz.ntmps122;go_wp2_with fail;go_quiet ((go_at_call 125;exact Calls.quiet_of_same (FC.out _)))
   go_wp2;go_ret;exact ⟨ah (by rw[HE1.out,if_pos (Or.inl h1)];rfl),_,rfl⟩
  ·have h1':¬ (s.length:Int)<1:=by omega
   by_cases h2:C<s.length
   ·have h2':(C:Int)<(s.length:Int):=by omega
    go_enter Tryz.func122,Tryz.ntmps122;go_wp2_with fail;go_quiet ((go_at_call 125;exact Calls.quiet_of_same (FC.out _)))
    go_wp2;go_ret;exact ⟨ah (by rw[HE1.out,if_pos (Or.inr h2)];rfl),_,rfl⟩
   ·have h2':¬ (C:Int)<(s.length:Int):=by omega
    go_enter Tryz.func122,Tryz.ntmps122;go_wp2_with fail;go_quiet ((go_at_call 125;exact Calls.quiet_of_same (FC.out _)))
    go_wp2;go_ret;exact ⟨ah (by rw[HE1.out,if_neg (fun k=>by omega)];rfl),_,rfl⟩
