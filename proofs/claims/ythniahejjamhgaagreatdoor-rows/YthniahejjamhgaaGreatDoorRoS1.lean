import Derived.Test.YthniahejjamhgaaGreatDoorRoQ4
import Derived.Test.YthniahejjamhgaaGreatDoorRoQ9
set_option maxRecDepth 100000
set_option maxHeartbeats 6400000
namespace Go.Proofs.YthniahejjamhgaaGreatDoor
open Go.RowKit Px
set_option linter.unusedSimpArgs false
set_option linter.unusedVariables false
def StStep (b o n:Nat) (c:Nat->Value) (s':St) (w w':World):Prop:=∃ d,Blk w' b n d/\StV d o s'/\FrC b o (o+3351) c d/\Fr1 b w w'
def St.enter (s:St) (p k:Nat):St:={ s with part:=p,wanted:=k,got:=0,number:=0,path:=⟨0,0,0⟩ }
theorem senter_x (b o n p k:Nat) (c:Nat->Value) (s:St) (w:World) (hB:Blk w b n c) (hV:StV c o s) (hn:o+3351<=n) :
  Calls Tryz.prog 164 #[.pointer (some ⟨b,o,none⟩),.int .i64 (p:Int),.int .u64 (k:Int)] w fun e w'=>e = .returned (.tuple #[])/\StStep b o n c (s.enter p k) w w':=by
 have k0:=hB.at (i:=o) (by omega) hV.part;have k1:=hB.at (i:=o+1) (by omega) hV.number;have k2:=hB.at (i:=o+2) (by omega) hV.got;have k3:=hB.at (i:=o+3) (by omega) hV.wanted;have k4:=hB.at (i:=o+4) (by omega) hV.path.bits;have k5:=hB.at (i:=o+4+1) (by omega) hV.path.offset;have k6:=hB.at (i:=o+4+2) (by omega) hV.path.ahead;have z:=hB.fz;have HB:Hid (Blk w b n c):=hB;have HV:Hid (StV c o s):=hV;clear hB hV;go_enter Tryz.func164,Tryz.ntmps164;go_wp2;go_end0
 have B:=((((((HB.out.set (k:=o) (by omega) (.int .i64 (p:Int))).set (k:=o+3) (by omega) (.int .u64 (k:Int))).set (k:=o+2) (by omega) (.int .u64 0)).set (k:=o+1) (by omega) (.int .u32 0)).set (k:=o+4) (by omega) (.int .i64 0)).set (k:=o+4+1) (by omega) (.int .i64 0)).set (k:=o+4+2) (by omega) (.int .i64 0);have V1:=(((HV.out.set_part p).set_wanted k).set_got 0).set_number 0;have P1:PtV _ (o+4) ⟨0,0,0⟩:=((V1.path.set_bits 0).set_offset 0).set_ahead 0;refine ⟨rfl,_,B,V1.set_path ⟨0,0,0⟩ P1 (fun i hi => ?_),?_,?_⟩
 ·rw[upd_ne _ _ _ (by omega),upd_ne _ _ _ (by omega),upd_ne _ _ _ (by omega)]
  rfl
 ·exact ⟨fun i hi=>by rw[upd_ne _ _ _ (by omega),upd_ne _ _ _ (by omega),upd_ne _ _ _ (by omega),upd_ne _ _ _ (by omega),upd_ne _ _ _ (by omega),upd_ne _ _ _ (by omega),upd_ne _ _ _ (by omega)]⟩
 ·exact Fr1.set (Fr1.set (Fr1.set (Fr1.set (Fr1.set (Fr1.set (Fr1.set (Fr.refl _ _) _ _) _ _) _ _) _ _) _ _) _ _) _ _
theorem sended_x (b o n:Nat) (c:Nat->Value) (s:St) (w:World) (hB:Blk w b n c) (hV:StV c o s) (hn:o+3351<=n) :
  Calls Tryz.prog 110 #[.pointer (some ⟨b,o,none⟩)] w fun e w'=>e = .returned (.bool (decide (s.part=10)))/\w'=w:=by
 have k0:=hB.at (i:=o) (by omega) hV.part;clear hB hV;go_enter Tryz.func110,Tryz.ntmps110;go_wp2;go_ret;exact ⟨ret_bool (by rw[Bool.eq_iff_iff,beq_iff_eq,decide_eq_true_iff];omega),rfl⟩
def zHead (n:Nat):Bool:=decide (n % 256 % 16=8/\n % 256 / 16<=7/\(256*(n % 256)+n / 256) % 31=0/\n / 256 / 32 % 2=0)
def St.takeHead (s:St) (n:Nat):St × Nat:=if zHead n then (({ s with window:=256*2^(n % 256 / 16) }:St).enter 1 3,0) else (s,10)
theorem u32_and_mask (n k:Nat) (h:n<4294967296) (hk:k<=31):bits .and .u32 (n:Int) ((2^k - 1:Nat):Int)=((n % 2^k:Nat):Int):=by
 have hp:2^k<=2^31:=Nat.pow_le_pow_right (n:=2) (by omega) hk;show IntKind.u32.wrap ((BitVec.ofInt 32 (n:Int) &&& BitVec.ofInt 32 ((2^k - 1:Nat):Int)).toNat:Int)=_
 have e1:(BitVec.ofInt 32 (n:Int)).toNat=n:=by rw[BitVec.ofInt_natCast,BitVec.toNat_ofNat];exact Nat.mod_eq_of_lt (by omega)
 have e2:(BitVec.ofInt 32 ((2^k - 1:Nat):Int)).toNat=2^k - 1:=by rw[BitVec.ofInt_natCast,BitVec.toNat_ofNat];exact Nat.mod_eq_of_lt (by omega)
 have:n % 2^k<=n:=Nat.mod_le _ _
 rw[BitVec.toNat_and,e1,e2,Nat.and_two_pow_sub_one_eq_mod,IntKind.wrap_u32];omega
theorem u32_and_255 (n:Nat) (h:n<4294967296):bits .and .u32 (n:Int) 255=((n % 256:Nat):Int):=u32_and_mask n 8 h (by omega)
theorem u32_and_1 (n:Nat) (h:n<4294967296):bits .and .u32 (n:Int) 1=((n % 2:Nat):Int):=u32_and_mask n 1 h (by omega)
theorem u32_and_65535 (n:Nat) (h:n<4294967296):bits .and .u32 (n:Int) 65535=((n % 65536:Nat):Int):=u32_and_mask n 16 h (by omega)
theorem nat_and_32 (n:Nat) (h:n<256):n &&& 32=n / 32 % 2*32:=by
 have h1:(n &&& 32) % 32=0:=by
  have:(n &&& 32) % 2^5=(n % 2^5) &&& (32 % 2^5):=Nat.and_mod_two_pow
  rw[show (2^5:Nat)=32 from rfl] at this;rw[this];simp
 have h2:(n &&& 32) / 32=n / 32 % 2:=by
  have:(n &&& 32) / 2^5=(n / 2^5) &&& (32 / 2^5):=Nat.and_div_two_pow
  rw[show (2^5:Nat)=32 from rfl] at this;rw[this];exact nat_mask1 _
 omega
theorem u32_and_32 (n:Nat) (h:n<256):bits .and .u32 (n:Int) 32=((n / 32 % 2*32:Nat):Int):=by
 show IntKind.u32.wrap ((BitVec.ofInt 32 (n:Int) &&& BitVec.ofInt 32 32).toNat:Int)=_
 have e1:(BitVec.ofInt 32 (n:Int)).toNat=n:=by rw[BitVec.ofInt_natCast,BitVec.toNat_ofNat];exact Nat.mod_eq_of_lt (by omega)
 have e2:(BitVec.ofInt 32 32).toNat=32:=rfl;rw[BitVec.toNat_and,e1,e2,nat_and_32 n h,IntKind.wrap_u32];omega
theorem takeHead_x (b o n v:Nat) (c:Nat->Value) (s:St) (w:World) (hB:Blk w b n c) (hV:StV c o s) (hn:o+3351<=n) (hv:v<65536) :
  Calls Tryz.prog 193 #[.pointer (some ⟨b,o,none⟩),.int .u32 (v:Int)] w fun e w'=>e = .returned (.int .i64 ((s.takeHead v).2:Int))/\StStep b o n c (s.takeHead v).1 w w':=by
 have ea:=u32_and_255 v (by omega);have k8:=hB.at (i:=o+8) (by omega) hV.window;have z8:=hB.fz (o+8);have HB:Hid (Blk w b n c):=hB;have HV:Hid (StV c o s):=hV;clear hB hV;obtain ⟨C,hC⟩:∃ C,C=v % 256:=⟨_,rfl⟩;obtain ⟨F,hF⟩:∃ F,F=v / 256:=⟨_,rfl⟩;have hC2:C<256:=by omega
 have hF2:F<256:=by omega
 have eF:(v:Int) / 256=(F:Int):=by omega
 have ef:=u32_and_32 F hF2;rw[<- hC] at ea;have HZ:Hid (zHead v=decide (C % 16=8/\C / 16<=7/\(256*C+F) % 31=0/\F / 32 % 2=0)):=by
  show zHead v=decide (C % 16=8/\C / 16<=7/\(256*C+F) % 31=0/\F / 32 % 2=0)
  unfold zHead;rw[hC,hF]
 obtain ⟨E,hE⟩:∃ E,E=F / 32 % 2*32:=⟨_,rfl⟩;rw[<- hE] at ef;have hE1:E=0\/E=32:=by omega
 have HE:Hid (E=0 ↔ F / 32 % 2=0):=by show E=0 ↔ F / 32 % 2=0;omega
 have HS:Hid (s.takeHead v=if zHead v then (({ s with window:=256*2^(C / 16) }:St).enter 1 3,0) else (s,10)):=by
  show s.takeHead v=_
  unfold St.takeHead;rw[hC]
 replace hC:Hid _:=hC;replace hF:Hid _:=hF;replace hE:Hid _:=hE;by_cases h:C % 16=8/\C / 16<=7/\(256*C+F) % 31=0/\E=0
 ·obtain ⟨h1,h2,h3,h4⟩:=h
  have h1':((C:Int) % 16 != 8)=false:=by rw[bne_eq_false_iff_eq];omega
  have h2':¬ (7:Int)<(C:Int) / 16:=by omega
  have h3':((256*(C:Int)+(F:Int)) % 31 != 0)=false:=by rw[bne_eq_false_iff_eq];omega
  subst h4;have e0:s.takeHead v=(({ s with window:=256*2^(C / 16) }:St).enter 1 3,0):=by rw[HS.out,HZ.out,decide_eq_true ⟨h1,h2,h3,HE.out.1 rfl⟩];rfl
  rw[e0];clear e0 HE HS HZ hE1;have hp:2^(C / 16)<=2^7:=Nat.pow_le_pow_right (by omega) h2;obtain ⟨M,hM⟩:∃ M,M=C / 16:=⟨_,rfl⟩;have eM:(C:Int) / 16=(M:Int):=by omega
  rw[<- hM] at hp h2 ⊢;clear hM;go_enter Tryz.func193,Tryz.ntmps193;go_wp2_with fail;have eW:wrap64 (256*2^M)=((256*2^M:Nat):Int):=by
   have e0:(256*2^M:Int)=((256*2^M:Nat):Int):=by simp
   rw[e0];unfold wrap64;omega
  rw[eW];refine (senter_x b o n 1 3 _ { s with window:=256*2^M } _ (HB.out.set (by omega) _) (HV.out.set_window _) hn).mono ?_;rintro e w1 ⟨rfl,d,h1,h2,h3,h4⟩;go_wp2_with fail;go_ret;exact ⟨rfl,d,h1,h2,(FrC.upd _ (by omega) (by omega)).trans h3,(Fr1.set (Fr.refl _ _) _ _).trans h4⟩
 ·have e0:s.takeHead v=(s,10):=by
   rw[HS.out,HZ.out,decide_eq_false (fun q=>h ⟨q.1,q.2.1,q.2.2.1,HE.out.2 q.2.2.2⟩)];rfl
  rw[e0];clear e0 HE HS HZ;by_cases h1:C % 16=8
  ·have h1':((C:Int) % 16 != 8)=false:=by rw[bne_eq_false_iff_eq];omega
   by_cases h2:C / 16<=7
   ·have h2':¬ (7:Int)<(C:Int) / 16:=by omega
    by_cases h3:(256*C+F) % 31=0
    ·have h3':((256*(C:Int)+(F:Int)) % 31 != 0)=false:=by rw[bne_eq_false_iff_eq];omega
     have hE2:E=32:=by
      rcases hE1 with q | q
      ·exact absurd ⟨h1,h2,h3,q⟩ h
      ·exact q
     subst hE2;clear h hE1;go_enter Tryz.func193,Tryz.ntmps193;go_wp2;go_ret;exact ⟨rfl,c,HB.out,HV.out,FrC.refl _ _ _ _,Fr.refl _ _⟩
    ·have h3':((256*(C:Int)+(F:Int)) % 31 != 0)=true:=by rw[bne_iff_ne];omega
     clear h hE1;go_enter Tryz.func193,Tryz.ntmps193;go_wp2
     all_goals
      go_ret;exact ⟨rfl,c,HB.out,HV.out,FrC.refl _ _ _ _,Fr.refl _ _⟩
   ·have h2':(7:Int)<(C:Int) / 16:=by omega
    clear h hE1;go_enter Tryz.func193,Tryz.ntmps193;go_wp2
    all_goals
     go_ret;exact ⟨rfl,c,HB.out,HV.out,FrC.refl _ _ _ _,Fr.refl _ _⟩
  ·have h1':((C:Int) % 16 != 8)=true:=by rw[bne_iff_ne];omega
   clear h hE1;go_enter Tryz.func193,Tryz.ntmps193;go_wp2
   all_goals
    go_ret;exact ⟨rfl,c,HB.out,HV.out,FrC.refl _ _ _ _,Fr.refl _ _⟩
end Go.Proofs.YthniahejjamhgaaGreatDoor
namespace Px
def adl (s x:Nat):Nat:=(s / 65536+(s % 65536+x) % 65521) % 65521*65536+(s % 65536+x) % 65521
theorem adl_lt (s x:Nat):adl s x<4294967296:=by unfold adl;omega
end Px
namespace Go.Proofs.YthniahejjamhgaaGreatDoor
open Go.RowKit Px
set_option linter.unusedSimpArgs false
set_option linter.unusedVariables false
theorem u32_or16 (a c:Nat) (ha:a<65536) (hc:c<65536):bits .or .u32 ((a:Int)*65536) (c:Int)=((a*65536+c:Nat):Int):=by
 show IntKind.u32.wrap ((BitVec.ofInt 32 ((a:Int)*65536) ||| BitVec.ofInt 32 (c:Int)).toNat:Int)=_
 have q:(a:Int)*65536=((a*65536:Nat):Int):=by omega
 have e1:(BitVec.ofInt 32 ((a:Int)*65536)).toNat=a*65536:=by rw[q,BitVec.ofInt_natCast,BitVec.toNat_ofNat];exact Nat.mod_eq_of_lt (by omega)
 have e2:(BitVec.ofInt 32 (c:Int)).toNat=c:=by rw[BitVec.ofInt_natCast,BitVec.toNat_ofNat];exact Nat.mod_eq_of_lt (by omega)
 have e3:a*65536 ||| c=a*65536+c:=by
  have:=Nat.shiftLeft_add_eq_or_of_lt (b:=c) (i:=16) (by omega) a
  rw[Nat.shiftLeft_eq,show (2^16:Nat)=65536 from rfl] at this;omega
 rw[BitVec.toNat_or,e1,e2,e3,IntKind.wrap_u32];omega
theorem adler_x (s x:Nat) (w:World) (hs:s<4294967296) (hx:x<256) :
  Calls Tryz.prog 106 #[.int .u32 (s:Int),.int .u8 (x:Int)] w fun e w'=>e = .returned (.int .u32 (adl s x:Int))/\w'=w:=by
 have ea:=u32_and_65535 s hs;obtain ⟨A,hA⟩:∃ A,A=s % 65536:=⟨_,rfl⟩;obtain ⟨C,hC⟩:∃ C,C=s / 65536:=⟨_,rfl⟩;obtain ⟨L,hL⟩:∃ L,L=(A+x) % 65521:=⟨_,rfl⟩;obtain ⟨H,hH⟩:∃ H,H=(C+L) % 65521:=⟨_,rfl⟩;rw[<- hA] at ea;have hA6:A<65536:=by omega
 have hC6:C<65536:=by omega
 have eC:(s:Int) / 65536=(C:Int):=by omega
 have eL:((A:Int)+(x:Int)) % 65521=(L:Int):=by omega
 have eH:((C:Int)+(L:Int)) % 65521=(H:Int):=by omega
 have hL6:L<65521:=by omega
 have hH6:H<65521:=by omega
 have HE:Hid (adl s x=H*65536+L):=by
  show adl s x=H*65536+L
  unfold adl;rw[<- hA,<- hC,<- hL,<- hH]
 have HO:Hid _:=u32_or16 H L (by omega) (by omega);clear hA hC hL hH;go_enter Tryz.func106,Tryz.ntmps106;go_wp2;go_ret;refine ⟨ret_int ?_,rfl⟩;rw[HE.out,<- HO.out]
def St.endBlock (s:St):St:=if s.last then ({ s with skip:=true }:St).enter 9 32 else s.enter 1 3
theorem endBlock_x (b o n:Nat) (c:Nat->Value) (s:St) (w:World) (hB:Blk w b n c) (hV:StV c o s) (hn:o+3351<=n) :
  Calls Tryz.prog 189 #[.pointer (some ⟨b,o,none⟩)] w fun e w'=>e = .returned (.int .i64 0)/\StStep b o n c s.endBlock w w':=by
 have k9:=hB.at (i:=o+9) (by omega) hV.last;have k7:=hB.at (i:=o+7) (by omega) hV.skip;have z:=hB.fz;have HB:Hid (Blk w b n c):=hB;have HV:Hid (StV c o s):=hV;clear hB hV;cases hl:s.last with
 | true=>
  rw[hl] at k9;have HE:Hid (s.endBlock=({ s with skip:=true }:St).enter 9 32):=by show s.endBlock=_;unfold St.endBlock;rw[hl];rfl
  clear hl;go_enter Tryz.func189,Tryz.ntmps189;go_wp2_with fail;refine (senter_x b o n 9 32 _ { s with skip:=true } _ (HB.out.set (by omega) _) (HV.out.set_skip true) hn).mono ?_;rintro e w1 ⟨rfl,d,h1,h2,h3,h4⟩;go_wp2_with fail;go_ret;rw[HE.out];exact ⟨rfl,d,h1,h2,(FrC.upd _ (by omega) (by omega)).trans h3,(Fr1.set (Fr.refl _ _) _ _).trans h4⟩
 | false=>
  rw[hl] at k9;have HE:Hid (s.endBlock=s.enter 1 3):=by show s.endBlock=_;unfold St.endBlock;rw[hl];rfl
  clear hl;go_enter Tryz.func189,Tryz.ntmps189;go_wp2_with fail;refine (senter_x b o n 1 3 _ s _ HB.out HV.out hn).mono ?_;rintro e w1 ⟨rfl,d,h1,h2,h3,h4⟩;go_wp2_with fail;go_ret;rw[HE.out];exact ⟨rfl,d,h1,h2,h3,h4⟩
def St.takeSize (s:St) (v:Nat):St × Nat:=if v % 65536+v / 65536=65535 then (if v % 65536=0 then ({ s with left:=v % 65536 }:St).endBlock else ({ s with left:=v % 65536 }:St).enter 3 8,0) else (s,11)
theorem takeSize_x (b o n v:Nat) (c:Nat->Value) (s:St) (w:World) (hB:Blk w b n c) (hV:StV c o s) (hn:o+3351<=n) (hv:v<4294967296) :
  Calls Tryz.prog 195 #[.pointer (some ⟨b,o,none⟩),.int .u32 (v:Int)] w fun e w'=>e = .returned (.int .i64 ((s.takeSize v).2:Int))/\StStep b o n c (s.takeSize v).1 w w':=by
 have k10:=hB.at (i:=o+10) (by omega) hV.left;have z:=hB.fz (o+10);have HB:Hid (Blk w b n c):=hB;have HV:Hid (StV c o s):=hV;have ea:=u32_and_65535 v hv;have HE:Hid (s.takeSize v=if v % 65536+v / 65536=65535 then (if v % 65536=0 then ({ s with left:=v % 65536 }:St).endBlock else ({ s with left:=v % 65536 }:St).enter 3 8,0) else (s,11)):=rfl;obtain ⟨A,hA⟩:∃ A,A=v % 65536:=⟨_,rfl⟩;obtain ⟨C,hC⟩:∃ C,C=v / 65536:=⟨_,rfl⟩;rw[<- hA] at ea HE;rw[<- hC] at HE;have hA6:A<65536:=by omega
 have hC6:C<65536:=by omega
 have eC:(v:Int) / 65536=(C:Int):=by omega
 clear hB hV hA hC;by_cases h1:A+C=65535
 ·have h1':(((A:Int)+(C:Int)) != 65535)=false:=by rw[bne_eq_false_iff_eq];omega
  by_cases h2:A=0
  ·have HE2:Hid (s.takeSize v=(({ s with left:=A }:St).endBlock,0)):=by show s.takeSize v=_;rw[HE.out,if_pos h1,if_pos h2]
   have h2':((A:Int) == 0)=true:=by rw[beq_iff_eq];omega
   replace h2:Hid _:=h2;clear h1;go_enter Tryz.func195,Tryz.ntmps195;go_wp2_with fail;refine (endBlock_x b o n _ { s with left:=A } _ (HB.out.set (by omega) _) (HV.out.set_left A) hn).mono ?_;rintro e w1 ⟨rfl,d,h1,h2,h3,h4⟩;go_wp2_with fail;go_ret;rw[HE2.out];exact ⟨rfl,d,h1,h2,(FrC.upd _ (by omega) (by omega)).trans h3,(Fr1.set (Fr.refl _ _) _ _).trans h4⟩
  ·have HE2:Hid (s.takeSize v=(({ s with left:=A }:St).enter 3 8,0)):=by show s.takeSize v=_;rw[HE.out,if_pos h1,if_neg h2]
   have h2':((A:Int) == 0)=false:=by rw[beq_eq_false_iff_ne];omega
   clear h1;go_enter Tryz.func195,Tryz.ntmps195;go_wp2_with fail;refine (senter_x b o n 3 8 _ { s with left:=A } _ (HB.out.set (by omega) _) (HV.out.set_left A) hn).mono ?_;rintro e w1 ⟨rfl,d,h1,h2,h3,h4⟩;go_wp2_with fail;go_ret;rw[HE2.out];exact ⟨rfl,d,h1,h2,(FrC.upd _ (by omega) (by omega)).trans h3,(Fr1.set (Fr.refl _ _) _ _).trans h4⟩
 ·have h1':(((A:Int)+(C:Int)) != 65535)=true:=by rw[bne_iff_ne];omega
  have HE2:Hid (s.takeSize v=(s,11)):=by show s.takeSize v=_;rw[HE.out,if_neg h1]
  go_enter Tryz.func195,Tryz.ntmps195;go_wp2;go_ret;rw[HE2.out];exact ⟨rfl,c,HB.out,HV.out,FrC.refl _ _ _ _,Fr.refl _ _⟩
def St.block0 (s:St) (v:Nat):St:=({ s with last:=decide (v % 2=1),skip:=true }:St).enter 2 32
theorem takeBlock0_x (b o n v:Nat) (c:Nat->Value) (s:St) (w:World) (hB:Blk w b n c) (hV:StV c o s) (hn:o+3351<=n) (hv:v<2) :
  Calls Tryz.prog 194 #[.pointer (some ⟨b,o,none⟩),.int .u32 (v:Int)] w fun e w'=>e = .returned (.int .i64 0)/\StStep b o n c (s.block0 v) w w':=by
 have k9:=hB.at (i:=o+9) (by omega) hV.last;have k7:=hB.at (i:=o+7) (by omega) hV.skip;have z:=hB.fz;have HB:Hid (Blk w b n c):=hB;have HV:Hid (StV c o s):=hV;have ea:=u32_and_1 v (by omega);rw[show v % 2=v from by omega] at ea;have e2:(v:Int) / 2=0:=by omega
 have HL:Hid (((v:Int) == 1)=decide (v % 2=1)):=by show ((v:Int) == 1)=decide (v % 2=1);rw[Bool.eq_iff_iff,beq_iff_eq,decide_eq_true_iff];omega
 have HE:Hid (s.block0 v=({ s with last:=decide (v % 2=1),skip:=true }:St).enter 2 32):=rfl;generalize decide (v % 2=1)=LL at *;clear hB hV;go_enter Tryz.func194,Tryz.ntmps194;go_wp2_with fail;rw[HL.out];refine (senter_x b o n 2 32 _ { s with last:=LL,skip:=true } _ ((HB.out.set (k:=o+9) (by omega) _).set (k:=o+7) (by omega) _) ((HV.out.set_last LL).set_skip true) hn).mono ?_;rintro e w1 ⟨rfl,d,h1,h2,h3,h4⟩;go_wp2_with fail;go_ret;rw[HE.out];exact ⟨rfl,d,h1,h2,((FrC.upd _ (by omega) (by omega)).trans (FrC.upd _ (by omega) (by omega))).trans h3,(Fr1.set (Fr1.set (Fr.refl _ _) _ _) _ _).trans h4⟩
