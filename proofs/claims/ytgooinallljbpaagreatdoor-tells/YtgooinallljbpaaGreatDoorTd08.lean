import Derived.Test.YtgooinallljbpaaGreatDoorTd07
set_option maxRecDepth 100000
set_option maxHeartbeats 6400000
namespace Go.Proofs.YtgooinallljbpaaGreatDoor
open Go.RowKit Px
set_option linter.unusedSimpArgs false
set_option linter.unusedVariables false
def St.setRep (s:St) (σ:Int):St:={ s with tb:={ s.tb with rep:=σ } }
def St.codeLen (s:St) (σ:Int):St × Nat:=
 if σ = -1 then (s.setRep σ,0) else if σ = -2 then (s.setRep σ,13)
 else if σ=16 then (if s.tb.told=0 then (s.setRep σ,12) else ((s.setRep σ).enter 6 2,0))
 else if σ=17 then ((s.setRep σ).enter 6 3,0) else if σ=18 then ((s.setRep σ).enter 6 7,0)
 else (s.setRep σ).lay σ.toNat 1
def St.repeat (s:St) (v:Nat):St × Nat:=
 if s.tb.rep=17 then s.lay 0 (v+3) else if s.tb.rep=18 then s.lay 0 (v+11)
 else if s.tb.told<1 then (s,12) else s.lay (s.tb.ls (s.tb.told - 1)) (v+3)
theorem ai.enterTo {b o n p k:Nat} {c:Nat->Value} {s:St} {w W:World} (h:ai b o n c s w W) (hn:o+3351<=n):Calls Tryz.prog 138 #[.pointer (some ⟨b,o,none⟩),.int .i64 (p:Int),.int .u64 (k:Int)] W fun e w'=>e = .returned (.tuple #[])/\ai b o n c (s.enter p k) w w':=by
 obtain ⟨d,k1,k2,k3,k4⟩:=h;refine (aX b o n p k d s W k1 k2 hn).mono ?_;rintro e w' ⟨rfl,d',m1,m2,m3,m4⟩;exact ⟨rfl,d',m1,m2,k3.trans m3,k4.trans m4⟩
theorem ai.layTo {b o n x k:Nat} {c:Nat->Value} {s:St} {w W:World} (h:ai b o n c s w W) (hn:o+3351<=n) (hx:x<256) (hk:k<=1000) (ht:od s.tb):Calls Tryz.prog 153 #[.pointer (some ⟨b,o,none⟩),.int .u8 (x:Int),.int .i64 (k:Int)] W fun e w'=>e = .returned (.int .i64 ((s.lay x k).2:Int))/\ai b o n c (s.lay x k).1 w w':=by
 obtain ⟨d,k1,k2,k3,k4⟩:=h;refine (En b o n x k d s W k1 k2 hn hx hk ht).mono ?_;rintro e w' ⟨rfl,d',m1,m2,m3,m4⟩;exact ⟨rfl,d',m1,m2,k3.trans m3,k4.trans m4⟩
theorem Fe (b o n:Nat) (σ:Int) (c:Nat->Value) (s:St) (w:World) (hB:Blk w b n c) (hV:StV c o s) (hn:o+3351<=n) (h1 : -2<=σ) (h2:σ<=18) (ht:od s.tb) :
  Calls Tryz.prog 147 #[.pointer (some ⟨b,o,none⟩),.int .i64 σ] w fun e w'=>e = .returned (.int .i64 ((s.codeLen σ).2:Int))/\ai b o n c (s.codeLen σ).1 w w':=by
 have S0:ai b o n c s w w:=ai.refl hB hV;obtain ⟨-,-,-,-,y5,-,-,z⟩:=S0.tbc hn;have S1:ai b o n c (s.setRep σ) w (w.setCell ⟨b,o+623+645,none⟩ (.int .i64 σ)):=S0.rep hn σ;obtain ⟨-,-,-,y4,-,-,-,-⟩:=S1.tbc hn;have T1:(s.setRep σ).tb.told=s.tb.told:=rfl;have T2:Hid (od (s.setRep σ).tb):=⟨ht.l1,ht.l2,ht.d1,ht.d2,ht.td,ht.ls⟩;rw[T1] at y4;have HE:Hid (s.codeLen σ=if σ = -1 then (s.setRep σ,0) else if σ = -2 then (s.setRep σ,13) else if σ=16 then (if s.tb.told=0 then (s.setRep σ,12) else ((s.setRep σ).enter 6 2,0)) else if σ=17 then ((s.setRep σ).enter 6 3,0) else if σ=18 then ((s.setRep σ).enter 6 7,0) else (s.setRep σ).lay σ.toNat 1):=rfl;replace S1:Hid (ai b o n c (s.setRep σ) w (w.setCell ⟨b,o+623+645,none⟩ (.int .i64 σ))):=S1;generalize s.setRep σ=s1 at *;generalize s.codeLen σ=SC at *;have bT:s.tb.told<=316:=by have:=ht.td;have:=ht.l2;have:=ht.d2;omega
 generalize s.tb.told=T at *;clear hB hV S0 ht T1;by_cases q1:σ = -1
 ·have HE2:Hid (SC=(s1,0)):=HE.out.trans (if_pos q1)
  subst q1;go_enter Tryz.func147,Tryz.ntmps147;go_wp2;go_ret;rw[HE2.out];exact ⟨rfl,S1.out⟩
 have q1':(σ == -1)=false:=by rw[beq_eq_false_iff_ne];exact q1
 by_cases q2:σ = -2
 ·have HE2:Hid (SC=(s1,13)):=HE.out.trans ((if_neg q1).trans (if_pos q2))
  subst q2;go_enter Tryz.func147,Tryz.ntmps147;go_wp2;go_ret;rw[HE2.out];exact ⟨rfl,S1.out⟩
 have q2':(σ == -2)=false:=by rw[beq_eq_false_iff_ne];exact q2
 by_cases q3:σ=16
 ·have HE2:Hid (SC=if T=0 then (s1,12) else (s1.enter 6 2,0)):=HE.out.trans ((if_neg q1).trans ((if_neg q2).trans (if_pos q3)))
  subst q3;by_cases q4:T=0
  ·have HE3:Hid (SC=(s1,12)):=HE2.out.trans (if_pos q4)
   subst q4;go_enter Tryz.func147,Tryz.ntmps147;go_wp2;go_ret;rw[HE3.out];exact ⟨rfl,S1.out⟩
  ·have HE3:Hid (SC=(s1.enter 6 2,0)):=HE2.out.trans (if_neg q4)
   have q4':((T:Int) == 0)=false:=by rw[beq_eq_false_iff_ne];omega
   have FE:Hid (Calls Tryz.prog 138 #[.pointer (some ⟨b,o,none⟩),.int .i64 ((6:Nat):Int),.int .u64 ((2:Nat):Int)] _ fun e w'=>e = .returned (.tuple #[])/\ai b o n c (s1.enter 6 2) w w'):=S1.out.enterTo hn;clear q4;go_enter Tryz.func147,Tryz.ntmps147;go_wp2_with fail;refine (BL _).mono ?_;rintro e wr ⟨rfl,hwr⟩;subst wr;go_wp2_with fail;refine FE.out.mono ?_;rintro e w4 ⟨rfl,S4⟩;go_wp2;go_ret;rw[HE3.out];exact ⟨rfl,S4⟩
 have q3':(σ == 16)=false:=by rw[beq_eq_false_iff_ne];exact q3
 by_cases q5:σ=17
 ·have HE3:Hid (SC=(s1.enter 6 3,0)):=HE.out.trans ((if_neg q1).trans ((if_neg q2).trans ((if_neg q3).trans (if_pos q5))))
  subst q5;have FE:Hid (Calls Tryz.prog 138 #[.pointer (some ⟨b,o,none⟩),.int .i64 ((6:Nat):Int),.int .u64 ((3:Nat):Int)] _ fun e w'=>e = .returned (.tuple #[])/\ai b o n c (s1.enter 6 3) w w'):=S1.out.enterTo hn;go_enter Tryz.func147,Tryz.ntmps147;go_wp2_with fail;refine (GE _).mono ?_;rintro e wr ⟨rfl,hwr⟩;subst wr;go_wp2_with fail;refine FE.out.mono ?_;rintro e w4 ⟨rfl,S4⟩;go_wp2;go_ret;rw[HE3.out];exact ⟨rfl,S4⟩
 have q5':(σ == 17)=false:=by rw[beq_eq_false_iff_ne];exact q5
 by_cases q6:σ=18
 ·have HE3:Hid (SC=(s1.enter 6 7,0)):=HE.out.trans ((if_neg q1).trans ((if_neg q2).trans ((if_neg q3).trans ((if_neg q5).trans (if_pos q6)))))
  subst q6;have FE:Hid (Calls Tryz.prog 138 #[.pointer (some ⟨b,o,none⟩),.int .i64 ((6:Nat):Int),.int .u64 ((7:Nat):Int)] _ fun e w'=>e = .returned (.tuple #[])/\ai b o n c (s1.enter 6 7) w w'):=S1.out.enterTo hn;go_enter Tryz.func147,Tryz.ntmps147;go_wp2_with fail;refine (GD _).mono ?_;rintro e wr ⟨rfl,hwr⟩;subst wr;go_wp2_with fail;refine FE.out.mono ?_;rintro e w4 ⟨rfl,S4⟩;go_wp2;go_ret;rw[HE3.out];exact ⟨rfl,S4⟩
 have q6':(σ == 18)=false:=by rw[beq_eq_false_iff_ne];exact q6
 obtain ⟨x,hx⟩:∃ x:Nat,σ=(x:Int):=⟨σ.toNat,by omega⟩;subst hx;have hx2:x<256:=by omega
 have HE3:Hid (SC=s1.lay x 1):=HE.out.trans ((if_neg q1).trans ((if_neg q2).trans ((if_neg q3).trans ((if_neg q5).trans (if_neg q6)))));have FE:Hid (Calls Tryz.prog 153 #[.pointer (some ⟨b,o,none⟩),.int .u8 (x:Int),.int .i64 ((1:Nat):Int)] _ fun e w'=>e = .returned (.int .i64 ((s1.lay x 1).2:Int))/\ai b o n c (s1.lay x 1).1 w w'):=S1.out.layTo hn hx2 (by omega) T2.out;generalize s1.lay x 1=LL at *;have FR:Hid (∀ W,Calls Tryz.prog 152 #[.int .i64 (x:Int)] W fun e w'=>e = .returned (.tuple #[.int .i64 1,.int .i64 0])/\w'=W):=fun W=>MZ x W (by omega) (by omega) (by omega)
 clear q1 q2 q3 q5 q6;go_enter Tryz.func147,Tryz.ntmps147;go_wp2_with fail;refine (FR.out _).mono ?_;rintro e wr ⟨rfl,hwr⟩;subst wr;go_wp2_with fail;refine FE.out.mono ?_;rintro e w4 ⟨rfl,S4⟩;go_wp2;go_ret;rw[HE3.out];exact ⟨rfl,S4⟩
theorem GF (b o n v:Nat) (c:Nat->Value) (s:St) (w:World) (hB:Blk w b n c) (hV:StV c o s) (hn:o+3351<=n) (hv:v<256) (hr:s.tb.rep=16\/s.tb.rep=17\/s.tb.rep=18) (ht:od s.tb) :
  Calls Tryz.prog 165 #[.pointer (some ⟨b,o,none⟩),.int .u32 (v:Int)] w fun e w'=>e = .returned (.int .i64 ((s.repeat v).2:Int))/\ai b o n c (s.repeat v).1 w w':=by
 have S0:ai b o n c s w w:=ai.refl hB hV;obtain ⟨-,-,-,y4,y5,-,y7,z⟩:=S0.tbc hn;have HE:Hid (s.repeat v=if s.tb.rep=17 then s.lay 0 (v+3) else if s.tb.rep=18 then s.lay 0 (v+11) else if s.tb.told<1 then (s,12) else s.lay (s.tb.ls (s.tb.told - 1)) (v+3)):=rfl;generalize s.repeat v=SC at *;have S1:Hid (ai b o n c s w w):=S0;have HT:Hid (od s.tb):=ht;have bT:s.tb.told<=316:=by have:=ht.td;have:=ht.l2;have:=ht.d2;omega
 obtain ⟨V3,hV3⟩:∃ V,V=v+3:=⟨_,rfl⟩;obtain ⟨V11,hV11⟩:∃ V,V=v+11:=⟨_,rfl⟩;have e3:(3:Int)+(v:Int)=(V3:Int):=by omega
 have e11:(11:Int)+(v:Int)=(V11:Int):=by omega
 rw[<- hV3,<- hV11] at HE;have b3:V3<=1000:=by omega
 have b11:V11<=1000:=by omega
 replace hV3:Hid _:=hV3;replace hV11:Hid _:=hV11;clear hB hV S0 ht;by_cases q1:s.tb.rep=17
 ·have HE2:Hid (SC=s.lay 0 V3):=HE.out.trans (if_pos q1)
  rw[q1] at y5;have FE:Hid (Calls Tryz.prog 153 #[.pointer (some ⟨b,o,none⟩),.int .u8 ((0:Nat):Int),.int .i64 (V3:Int)] w fun e w'=>e = .returned (.int .i64 ((s.lay 0 V3).2:Int))/\ai b o n c (s.lay 0 V3).1 w w'):=S1.out.layTo hn (by omega) b3 HT.out;generalize s.lay 0 V3=LL at *;clear q1 hr y7;go_enter Tryz.func165,Tryz.ntmps165;go_wp2_with fail;refine (GE _).mono ?_;rintro e wr ⟨rfl,hwr⟩;subst wr;go_wp2_with fail;refine FE.out.mono ?_;rintro e w4 ⟨rfl,S4⟩;go_wp2;go_ret;rw[HE2.out];exact ⟨rfl,S4⟩
 by_cases q2:s.tb.rep=18
 ·have HE2:Hid (SC=s.lay 0 V11):=HE.out.trans ((if_neg q1).trans (if_pos q2))
  rw[q2] at y5;have FE:Hid (Calls Tryz.prog 153 #[.pointer (some ⟨b,o,none⟩),.int .u8 ((0:Nat):Int),.int .i64 (V11:Int)] w fun e w'=>e = .returned (.int .i64 ((s.lay 0 V11).2:Int))/\ai b o n c (s.lay 0 V11).1 w w'):=S1.out.layTo hn (by omega) b11 HT.out;generalize s.lay 0 V11=LL at *;clear q1 q2 hr y7;go_enter Tryz.func165,Tryz.ntmps165;go_wp2_with fail;refine (GD _).mono ?_;rintro e wr ⟨rfl,hwr⟩;subst wr;go_wp2_with fail;refine FE.out.mono ?_;rintro e w4 ⟨rfl,S4⟩;go_wp2;go_ret;rw[HE2.out];exact ⟨rfl,S4⟩
 have q3:s.tb.rep=16:=by rcases hr with q | q | q;exact q;exact absurd q q1;exact absurd q q2
 rw[q3] at y5;by_cases q4:s.tb.told<1
 ·have HE2:Hid (SC=(s,12)):=HE.out.trans ((if_neg q1).trans ((if_neg q2).trans (if_pos q4)))
  have q4':(s.tb.told:Int)<1:=by omega
  generalize s.tb.told=T at *;clear q1 q2 q3 hr y7 q4;go_enter Tryz.func165,Tryz.ntmps165;go_wp2_with fail;refine (BL _).mono ?_;rintro e wr ⟨rfl,hwr⟩;subst wr;go_wp2;go_ret;rw[HE2.out];exact ⟨rfl,S1.out⟩
 ·have HE2:Hid (SC=s.lay (s.tb.ls (s.tb.told - 1)) V3):=HE.out.trans ((if_neg q1).trans ((if_neg q2).trans (if_neg q4)))
  have q4':¬ (s.tb.told:Int)<1:=by omega
  have q5':¬ (316:Int)<(s.tb.told:Int):=by omega
  have y8:=y7 (s.tb.told - 1) (by omega);have hx:=HT.out.ls (s.tb.told - 1);obtain ⟨X,hX⟩:∃ X,X=s.tb.ls (s.tb.told - 1):=⟨_,rfl⟩;rw[<- hX] at y8 hx HE2;obtain ⟨T1,hT1⟩:∃ T1,T1=s.tb.told - 1:=⟨_,rfl⟩;rw[<- hT1] at y8;have eT:(s.tb.told:Int) - 1=(T1:Int):=by omega
  have t0:(0:Int)<=(T1:Int):=by omega
  have t1:(T1:Int)<316:=by omega
  replace hX:Hid _:=hX;replace hT1:Hid _:=hT1;have FE:Hid (∀ W,Kept w W->Calls Tryz.prog 153 #[.pointer (some ⟨b,o,none⟩),.int .u8 (X:Int),.int .i64 (V3:Int)] W fun e w'=>e = .returned (.int .i64 ((s.lay X V3).2:Int))/\ai b o n c (s.lay X V3).1 w w'):=fun W kW=>(S1.out.kept kW).layTo hn hx b3 HT.out
  generalize s.lay X V3=LL at *;generalize s.tb.told=T at *;clear q1 q2 q3 hr y7 q4;go_enter Tryz.func165,Tryz.ntmps165;go_wp2_with fail;refine (BL _).mono ?_;rintro e wr ⟨rfl,hwr⟩;subst wr;go_wp2_with fail;go_quiet (fail);have K1:Hid (Kept w (w.drewN nq)):=(Kept.refl w).drewN nq;generalize w.drewN nq=w1 at *;go_wp2_with fail;refine (FE.out w1 K1.out).mono ?_;rintro e w4 ⟨rfl,S4⟩;go_wp2;go_ret;rw[HE2.out];exact ⟨rfl,S4⟩
def St.lastIs (s:St) (v:Nat):St:={ s with last:=decide (v % 2=1) }
def St.block (s:St) (v:Nat):St:=if v / 2=0 then s.block0 v else if v / 2=1 then s.block1 v else if v / 2=2 then (s.lastIs v).enter 4 14 else s.lastIs v
def dq (v:Nat):Nat:=if v / 2=3 then 11 else 0
theorem wL (b o n v:Nat) (c:Nat->Value) (s:St) (w:World) (hB:Blk w b n c) (hV:StV c o s) (hn:o+3351<=n) (hv:v / 2=2\/v / 2=3) :
  Calls Tryz.prog 160 #[.pointer (some ⟨b,o,none⟩),.int .u32 (v:Int)] w fun e w'=>e = .returned (.int .i64 (dq v:Int))/\ai b o n c (if v / 2=2 then (s.lastIs v).enter 4 14 else s.lastIs v) w w':=by
 have k9:=hB.at (i:=o+9) (by omega) hV.last;have z:=hB.fz;have ea:=rL v (by omega);obtain ⟨B1,hB1⟩:∃ B1,B1=v % 2:=⟨_,rfl⟩;rw[<- hB1] at ea;have HL:Hid (((B1:Int) == 1)=decide (v % 2=1)):=by show ((B1:Int) == 1)=decide (v % 2=1);rw[Bool.eq_iff_iff,beq_iff_eq,decide_eq_true_iff];omega
 have hE:s.lastIs v={ s with last:=decide (v % 2=1) }:=rfl;have HB:Hid (Blk (w.setCell ⟨b,o+9,none⟩ (.bool (decide (v % 2=1)))) b n (upd c (o+9) (.bool (decide (v % 2=1))))):=hB.set (by omega) _;have HV:Hid (StV (upd c (o+9) (.bool (decide (v % 2=1)))) o (s.lastIs v)):=hV.set_last _;have HF:Hid (Fr1 b w (w.setCell ⟨b,o+9,none⟩ (.bool (decide (v % 2=1))))):=Fr1.set (Fr.refl _ _) _ _;have HC:Hid (FrC b o (o+3351) c (upd c (o+9) (.bool (decide (v % 2=1))))):=FrC.upd _ (by omega) (by omega);generalize s.lastIs v=s1 at *;generalize decide (v % 2=1)=LL at *;generalize upd c (o+9) (.bool LL)=c1 at *;by_cases q:v / 2=2
 ·have e2:(v:Int) / 2=2:=by omega
  have hE0:Hid (dq v=0):=by show dq v=0;unfold dq;rw[if_neg (by omega)]
  rw[if_pos q];replace hB1:Hid _:=hB1;clear hB hV hv hE q;go_enter Tryz.func160,Tryz.ntmps160;go_wp2_with fail;rw[HL.out];generalize w.setCell ⟨b,o+9,none⟩ (.bool LL)=w1 at *;refine (aX b o n 4 14 c1 s1 w1 HB.out HV.out hn).mono ?_;rintro e w2 ⟨rfl,d,h1,h2,h3,h4⟩;go_wp2_with fail;go_ret;rw[hE0.out];exact ⟨rfl,d,h1,h2,HC.out.trans h3,HF.out.trans h4⟩
 ·have e2:(v:Int) / 2=3:=by omega
  have hE0:Hid (dq v=11):=by show dq v=11;unfold dq;rw[if_pos (by omega)]
  rw[if_neg q];replace hB1:Hid _:=hB1;clear hB hV hv hE q;go_enter Tryz.func160,Tryz.ntmps160;go_wp2_with fail;rw[HL.out];generalize w.setCell ⟨b,o+9,none⟩ (.bool LL)=w1 at *;go_ret;rw[hE0.out];exact ⟨rfl,c1,HB.out,HV.out,HC.out,HF.out⟩
theorem zK (b o n v:Nat) (c:Nat->Value) (s:St) (w:World) (hB:Blk w b n c) (hV:StV c o s) (hn:o+3351<=n) (hv:v<8) :
  Calls Tryz.prog 160 #[.pointer (some ⟨b,o,none⟩),.int .u32 (v:Int)] w fun e w'=>e = .returned (.int .i64 (dq v:Int))/\ai b o n c (s.block v) w w':=by
 unfold St.block;by_cases h0:v / 2=0
 ·rw[if_pos h0,show dq v=0 from if_neg (by omega)]
  exact xT b o n v c s w hB hV hn (by omega)
 rw[if_neg h0];by_cases h1:v / 2=1
 ·rw[if_pos h1,show dq v=0 from if_neg (by omega)]
  exact xS b o n v c s w hB hV hn (by omega)
 rw[if_neg h1];exact wL b o n v c s w hB hV hn (by omega)
def fK (s:St) (r:Rw) (σ:Int):St × Rw × Nat:=if σ = -1 then (s,r,0) else if σ<0\/286<=σ then (s,r,13) else if σ=256 then (s.endBlock,r,0) else if 257<=σ then (s.copy (σ.toNat - 257),r,0) else aD (s.enter 12 0) r σ.toNat
theorem xK (b o n:Nat) (σ:Int) (c:Nat->Value) (s:St) (r:Rw) (w:World) (hB:Blk w b n c) (hS:StV c o s) (hR:RwV c (o+3351) r) (hn:o+4900<=n) (hk:rj r) (hG:cJ w) (hb:b≠0) (hT:iI w) (hs:s.sum<4294967296) (hσ1 : -2<=σ) (hσ2:σ<=1000) :
  Calls Tryz.prog 148 #[.pointer (some ⟨b,o,none⟩),.int .i64 σ,.pointer (some ⟨b,o+3351,none⟩)] w fun e w'=>e = .returned (.int .i64 ((fK s r σ).2.2:Int))/\ao b o n c (fK s r σ).1 (fK s r σ).2.1 w w':=by
 by_cases h1:σ = -1
 ·subst h1
  have H0:Hid (ao b o n c s r w w):=ao.refl hB hS hR;have HE:Hid (fK s r (-1)=(s,r,0)):=by show fK s r (-1)=_;unfold fK;rw[if_pos rfl]
  clear hB hS hR hk hG hT;go_enter Tryz.func148,Tryz.ntmps148;go_wp2;go_ret;rw[HE.out];exact ⟨rfl,H0.out⟩
 ·have h1':(σ == -1)=false:=by rw[beq_eq_false_iff_ne];exact h1
  by_cases hbad:σ<0\/286<=σ
  ·have H0:Hid (ao b o n c s r w w):=ao.refl hB hS hR
   have HE:Hid (fK s r σ=(s,r,13)):=by show fK s r σ=_;unfold fK;rw[if_neg h1,if_pos hbad]
   clear hB hS hR hk hG hT;by_cases h3:σ<0
   ·clear hbad
    go_enter Tryz.func148,Tryz.ntmps148;go_wp2;go_ret;rw[HE.out];exact ⟨rfl,H0.out⟩
   ·have h4:(286:Int)<=σ:=by omega
    clear hbad;go_enter Tryz.func148,Tryz.ntmps148;go_wp2;go_ret;rw[HE.out];exact ⟨rfl,H0.out⟩
  have g0:¬ σ<0:=by omega
  have g1:¬ (286:Int)<=σ:=by omega
  by_cases h6:σ=256
  ·subst h6
   have FE:Hid (Calls Tryz.prog 154 #[.pointer (some ⟨b,o,none⟩)] w fun e w'=>e = .returned (.int .i64 0)/\ai b o n c s.endBlock w w'):=sI b o n c s w hB hS (by omega);have HR:Hid (RwV c (o+3351) r):=hR;have HE:Hid (fK s r 256=(s.endBlock,r,0)):=by show fK s r 256=_;unfold fK;rw[if_neg (by decide),if_neg (by decide),if_pos rfl]
   clear hB hS hR hk hG hT;go_enter Tryz.func148,Tryz.ntmps148;go_wp2_with fail;refine FE.out.mono ?_;rintro e w1 ⟨rfl,k1⟩;go_wp2_with fail;go_ret;rw[HE.out];exact ⟨rfl,ao.of_st HR.out k1⟩
  ·have h6':(σ == 256)=false:=by rw[beq_eq_false_iff_ne];exact h6
   by_cases h7:(257:Int)<=σ
   ·obtain ⟨j,hj⟩:∃ j:Nat,σ=((257+j:Nat):Int):=⟨σ.toNat - 257,by omega⟩
    have FC:Hid _:=AU b o n j σ c s w hB hS (by omega) hT hj (by omega);have HR:Hid (RwV c (o+3351) r):=hR;have HE:Hid (fK s r σ=(s.copy j,r,0)):=by show fK s r σ=_;unfold fK;rw[if_neg h1,if_neg hbad,if_neg h6,if_pos h7,show σ.toNat - 257=j by omega]
    generalize s.copy j=SC at *;clear hB hS hR hk hG hT hbad hj;go_enter Tryz.func148,Tryz.ntmps148;go_wp2_with fail;refine Calls.mono FC.out ?_;rintro e w1 ⟨rfl,k1⟩;go_wp2_with fail;go_ret;rw[HE.out];exact ⟨rfl,ao.of_st HR.out k1⟩
   have g2:¬ (257:Int)<=σ:=h7;obtain ⟨x,hx⟩:∃ x:Nat,σ=(x:Int):=⟨σ.toNat,by omega⟩;subst hx;have hx2:x<256:=by omega
   have F1:Hid (Calls Tryz.prog 138 #[.pointer (some ⟨b,o,none⟩),.int .i64 ((12:Nat):Int),.int .u64 ((0:Nat):Int)] w fun e w'=>e = .returned (.tuple #[])/\ai b o n c (s.enter 12 0) w w'):=aX b o n 12 0 c s w hB hS (by omega);have HR:Hid (RwV c (o+3351) r):=hR;have F2:Hid (∀ (W:World) (d:Nat->Value),Blk W b n d->StV d o (s.enter 12 0)->RwV d (o+3351) r->Fr1 b w W->Calls Tryz.prog 156 #[.pointer (some ⟨b,o,none⟩),.int .u8 (x:Int),.pointer (some ⟨b,o+3351,none⟩)] W fun e w'=>e = .returned (.int .i64 ((aD (s.enter 12 0) r x).2.2:Int))/\ao b o n d (aD (s.enter 12 0) r x).1 (aD (s.enter 12 0) r x).2.1 W w'):=fun W d a1 a2 a3 a4=>Ci b o n x d (s.enter 12 0) r W a1 a2 a3 hn hk (hG.fr a4 (fun q=>hb q.symm)) hb hx2 hs
   obtain ⟨GP,hGP⟩:∃ G,G=aD (s.enter 12 0) r x:=⟨_,rfl⟩;rw[<- hGP] at F2;have HGP:Hid (fK s r (x:Int)=GP):=by
    show fK s r (x:Int)=GP
    unfold fK;rw[if_neg h1,if_neg hbad,if_neg h6,if_neg h7,Int.toNat_natCast,hGP]
   clear hB hS hR hk hG hT hGP hbad h7;go_enter Tryz.func148,Tryz.ntmps148;go_wp2_with fail;refine F1.out.mono ?_;rintro e w1 ⟨rfl,d,k1,k2,k3,k4⟩;have R1:RwV d (o+3351) r:=HR.out.congr (fun i h1 h2=>k3.out i (by omega));have C1:Hid (FrC b o (o+4900) c d):=k3.mono (by omega) (by omega);have F3:=F2.out w1 d k1 k2 R1 k4;replace F3:Hid _:=F3;have F4:Hid (Fr1 b w w1):=k4;clear k1 k2 k3 k4 R1 F2;go_wp2_with fail;refine Calls.mono F3.out ?_;rintro e w2 ⟨rfl,k5⟩;go_wp2_with fail;go_ret;rw[HGP.out];exact ⟨rfl,ao.next C1.out F4.out k5⟩
def aI (s:St) (r:Rw) (v:Nat):St × Rw × Nat:=
 if s.part=0 then ((s.takeHead v).1,r,(s.takeHead v).2)
 else if s.part=1 then (s.block v,r,dq v)
 else if s.part=2 then ((s.takeSize v).1,r,(s.takeSize v).2)
 else if s.part=3 then cg s r v
 else if s.part=4 then ((s.counts v).1,r,(s.counts v).2)
 else if s.part=5 then ((s.shortLen v).1,r,(s.shortLen v).2)
 else if s.part=6 then ((s.repeat v).1,r,(s.repeat v).2)
 else if s.part=7 then (s.lengthRest v,r,0)
 else if s.part=8 then cP s r v
 else ((s.takeSum v).1,r,(s.takeSum v).2)
structure FQ (s:St) (v:Nat):Prop where
 vl:v<256
 told:s.tb.told<19
 shorts:s.tb.shorts<=19
 sl:∀ i,i<19->s.tb.sl i<256
structure NV (s:St) (v:Nat):Prop where
 vl:v<256
 rep:s.tb.rep=16\/s.tb.rep=17\/s.tb.rep=18
 tb:od s.tb
structure NW (s:St) (r:Rw) (v:Nat):Prop where
 vl:v<=50000
 base:s.base<=50000
 cnt:s.count<=2078
 win:s.window<=100000
 len:s.length<=100000
 copy:1<=s.base+v->s.base+v<=s.count->s.base+v<=s.window->mH s.length (s.base+v) s r
structure fS (s:St) (r:Rw) (v:Nat):Prop where
 part:s.part<=9
 v0:s.part=0->v<65536
 v1:s.part=1->v<8
 v3:s.part=3->v<256
 v4:s.part=4->v<16384
 v5:s.part=5->FQ s v
 v6:s.part=6->NV s v
 v7:s.part=7->s.length<=100000
 v8:s.part=8->NW s r v
 v:v<4294967296
 l1:s.part=3->1<=s.left
 l2:s.part=3->s.left<=65535
 good:s.part=3->rj r
 sum:s.sum<4294967296
theorem Bo (b o n v:Nat) (c:Nat->Value) (s:St) (r:Rw) (w:World) (hB:Blk w b n c) (hS:StV c o s) (hR:RwV c (o+3351) r) (hn:o+4900<=n) (hk:fS s r v) (h:s.part=0) (hG:bg w) (hb:NT b) :
  Calls Tryz.prog 150 #[.pointer (some ⟨b,o,none⟩),.int .u32 (v:Int),.pointer (some ⟨b,o+3351,none⟩)] w fun e w'=>e = .returned (.int .i64 ((aI s r v).2.2:Int))/\ao b o n c (aI s r v).1 (aI s r v).2.1 w w':=by
 have k0:=hB.at (i:=o) (by omega) hS.part;have HB:Hid (Blk w b n c):=hB;have HS:Hid (StV c o s):=hS;have HR:Hid (RwV c (o+3351) r):=hR;have HK:Hid (fS s r v):=hk;have HG:Hid (bg w):=hG;have hp:=hk.part;clear hB hS hR hG hk;have HE:Hid (aI s r v=((s.takeHead v).1,r,(s.takeHead v).2)):=by show aI s r v=_;unfold aI;rw[if_pos h]
 have FH:Hid (Calls Tryz.prog 159 #[.pointer (some ⟨b,o,none⟩),.int .u32 (v:Int)] w fun e w'=>e = .returned (.int .i64 ((s.takeHead v).2:Int))/\ai b o n c (s.takeHead v).1 w w'):=Bp b o n v c s w HB.out HS.out (by omega) (HK.out.v0 h);rw[h] at k0;clear h hp;go_enter Tryz.func150,Tryz.ntmps150;go_wp2_with fail;refine FH.out.mono ?_;rintro e w1 ⟨rfl,h1⟩;go_wp2_with fail;go_ret;rw[HE.out];exact ⟨rfl,ao.of_st HR.out h1⟩
theorem Bn (b o n v:Nat) (c:Nat->Value) (s:St) (r:Rw) (w:World) (hB:Blk w b n c) (hS:StV c o s) (hR:RwV c (o+3351) r) (hn:o+4900<=n) (hk:fS s r v) (h:s.part=1) (hG:bg w) (hb:NT b) :
  Calls Tryz.prog 150 #[.pointer (some ⟨b,o,none⟩),.int .u32 (v:Int),.pointer (some ⟨b,o+3351,none⟩)] w fun e w'=>e = .returned (.int .i64 ((aI s r v).2.2:Int))/\ao b o n c (aI s r v).1 (aI s r v).2.1 w w':=by
 have k0:=hB.at (i:=o) (by omega) hS.part;have HB:Hid (Blk w b n c):=hB;have HS:Hid (StV c o s):=hS;have HR:Hid (RwV c (o+3351) r):=hR;have HK:Hid (fS s r v):=hk;have HG:Hid (bg w):=hG;have hp:=hk.part;clear hB hS hR hG hk;have HE:Hid (aI s r v=(s.block v,r,dq v)):=by show aI s r v=_;unfold aI;rw[if_neg (by omega),if_pos h]
 have FH:Hid (Calls Tryz.prog 160 #[.pointer (some ⟨b,o,none⟩),.int .u32 (v:Int)] w fun e w'=>e = .returned (.int .i64 (dq v:Int))/\ai b o n c (s.block v) w w'):=zK b o n v c s w HB.out HS.out (by omega) (HK.out.v1 h);generalize dq v=BE at *;generalize s.block v=SB at *;rw[h] at k0;clear h hp;go_enter Tryz.func150,Tryz.ntmps150;go_wp2_with fail;refine FH.out.mono ?_;rintro e w1 ⟨rfl,h1⟩;go_wp2_with fail;go_ret;rw[HE.out];exact ⟨rfl,ao.of_st HR.out h1⟩
theorem Bm (b o n v:Nat) (c:Nat->Value) (s:St) (r:Rw) (w:World) (hB:Blk w b n c) (hS:StV c o s) (hR:RwV c (o+3351) r) (hn:o+4900<=n) (hk:fS s r v) (h:s.part=2) (hG:bg w) (hb:NT b) :
  Calls Tryz.prog 150 #[.pointer (some ⟨b,o,none⟩),.int .u32 (v:Int),.pointer (some ⟨b,o+3351,none⟩)] w fun e w'=>e = .returned (.int .i64 ((aI s r v).2.2:Int))/\ao b o n c (aI s r v).1 (aI s r v).2.1 w w':=by
 have k0:=hB.at (i:=o) (by omega) hS.part;have HB:Hid (Blk w b n c):=hB;have HS:Hid (StV c o s):=hS;have HR:Hid (RwV c (o+3351) r):=hR;have HK:Hid (fS s r v):=hk;have HG:Hid (bg w):=hG;have hp:=hk.part;clear hB hS hR hG hk;have HE:Hid (aI s r v=((s.takeSize v).1,r,(s.takeSize v).2)):=by show aI s r v=_;unfold aI;rw[if_neg (by omega),if_neg (by omega),if_pos h]
 have FH:Hid (Calls Tryz.prog 161 #[.pointer (some ⟨b,o,none⟩),.int .u32 (v:Int)] w fun e w'=>e = .returned (.int .i64 ((s.takeSize v).2:Int))/\ai b o n c (s.takeSize v).1 w w'):=Bd b o n v c s w HB.out HS.out (by omega) HK.out.v;rw[h] at k0;clear h hp;go_enter Tryz.func150,Tryz.ntmps150;go_wp2_with fail;refine FH.out.mono ?_;rintro e w1 ⟨rfl,h1⟩;go_wp2_with fail;go_ret;rw[HE.out];exact ⟨rfl,ao.of_st HR.out h1⟩
theorem Bl (b o n v:Nat) (c:Nat->Value) (s:St) (r:Rw) (w:World) (hB:Blk w b n c) (hS:StV c o s) (hR:RwV c (o+3351) r) (hn:o+4900<=n) (hk:fS s r v) (h:s.part=3) (hG:bg w) (hb:NT b) :
  Calls Tryz.prog 150 #[.pointer (some ⟨b,o,none⟩),.int .u32 (v:Int),.pointer (some ⟨b,o+3351,none⟩)] w fun e w'=>e = .returned (.int .i64 ((aI s r v).2.2:Int))/\ao b o n c (aI s r v).1 (aI s r v).2.1 w w':=by
 have k0:=hB.at (i:=o) (by omega) hS.part;have HB:Hid (Blk w b n c):=hB;have HS:Hid (StV c o s):=hS;have HR:Hid (RwV c (o+3351) r):=hR;have HK:Hid (fS s r v):=hk;have HG:Hid (bg w):=hG;have hp:=hk.part;clear hB hS hR hG hk;have HE:Hid (aI s r v=cg s r v):=by show aI s r v=_;unfold aI;rw[if_neg (by omega),if_neg (by omega),if_neg (by omega),if_pos h]
 have FH:Hid (Calls Tryz.prog 162 #[.pointer (some ⟨b,o,none⟩),.int .u8 (v:Int),.pointer (some ⟨b,o+3351,none⟩)] w fun e w'=>e = .returned (.int .i64 ((cg s r v).2.2:Int))/\ao b o n c (cg s r v).1 (cg s r v).2.1 w w'):=xN b o n v c s r w HB.out HS.out HR.out hn (HK.out.good h) HG.out.grd hb.grd (HK.out.v3 h) HK.out.sum (HK.out.l1 h) (HK.out.l2 h);have hv:=HK.out.v3 h;rw[h] at k0;clear h hp;go_enter Tryz.func150,Tryz.ntmps150;go_wp2_with fail;refine FH.out.mono ?_;rintro e w1 ⟨rfl,h1⟩;go_wp2_with fail;go_ret;rw[HE.out];exact ⟨rfl,h1⟩
theorem Bf (b o n v:Nat) (c:Nat->Value) (s:St) (r:Rw) (w:World) (hB:Blk w b n c) (hS:StV c o s) (hR:RwV c (o+3351) r) (hn:o+4900<=n) (hk:fS s r v) (h:s.part=9) (hG:bg w) (hb:NT b) :
  Calls Tryz.prog 150 #[.pointer (some ⟨b,o,none⟩),.int .u32 (v:Int),.pointer (some ⟨b,o+3351,none⟩)] w fun e w'=>e = .returned (.int .i64 ((aI s r v).2.2:Int))/\ao b o n c (aI s r v).1 (aI s r v).2.1 w w':=by
 have k0:=hB.at (i:=o) (by omega) hS.part;have HB:Hid (Blk w b n c):=hB;have HS:Hid (StV c o s):=hS;have HR:Hid (RwV c (o+3351) r):=hR;have HK:Hid (fS s r v):=hk;have HG:Hid (bg w):=hG;have hp:=hk.part;clear hB hS hR hG hk;have HE:Hid (aI s r v=((s.takeSum v).1,r,(s.takeSum v).2)):=by show aI s r v=_;unfold aI;rw[if_neg (by omega),if_neg (by omega),if_neg (by omega),if_neg (by omega),if_neg (by omega),if_neg (by omega),if_neg (by omega),if_neg (by omega),if_neg (by omega)]
 have FH:Hid (Calls Tryz.prog 168 #[.pointer (some ⟨b,o,none⟩),.int .u32 (v:Int)] w fun e w'=>e = .returned (.int .i64 ((s.takeSum v).2:Int))/\ai b o n c (s.takeSum v).1 w w'):=DY b o n v c s w HB.out HS.out (by omega) HK.out.v;obtain ⟨TS,hTS⟩:∃ TS,TS=s.takeSum v:=⟨_,rfl⟩;rw[<- hTS] at HE FH;clear hTS;have n0:((s.part:Int) == 0)=false:=by rw[beq_eq_false_iff_ne];omega
 have n1:((s.part:Int) == 1)=false:=by rw[beq_eq_false_iff_ne];omega
 have n2:((s.part:Int) == 2)=false:=by rw[beq_eq_false_iff_ne];omega
 have n3:((s.part:Int) == 3)=false:=by rw[beq_eq_false_iff_ne];omega
 have n4:((s.part:Int) == 4)=false:=by rw[beq_eq_false_iff_ne];omega
 have n5:((s.part:Int) == 5)=false:=by rw[beq_eq_false_iff_ne];omega
 have n6:((s.part:Int) == 6)=false:=by rw[beq_eq_false_iff_ne];omega
 have n7:((s.part:Int) == 7)=false:=by rw[beq_eq_false_iff_ne];omega
 have n8:((s.part:Int) == 8)=false:=by rw[beq_eq_false_iff_ne];omega
 clear h hp;go_enter Tryz.func150,Tryz.ntmps150;go_upto_block 0 with fail
 go_cut [] from 7 (fun W=>W=w)
 case first=>
  go_wp2_with fail;go_meet
  case rel=>rfl
 case rest=>
  subst hcut;clear n0 n1 n2 n3 n4 n5 n6 n7 n8;go_wp2_with fail;refine FH.out.mono ?_;rintro e w1 ⟨rfl,h1⟩;go_wp2_with fail;go_ret;rw[HE.out];exact ⟨rfl,ao.of_st HR.out h1⟩
theorem Bk (b o n v:Nat) (c:Nat->Value) (s:St) (r:Rw) (w:World) (hB:Blk w b n c) (hS:StV c o s) (hR:RwV c (o+3351) r) (hn:o+4900<=n) (hk:fS s r v) (h:s.part=4) (hG:bg w) (hb:NT b) :
  Calls Tryz.prog 150 #[.pointer (some ⟨b,o,none⟩),.int .u32 (v:Int),.pointer (some ⟨b,o+3351,none⟩)] w fun e w'=>e = .returned (.int .i64 ((aI s r v).2.2:Int))/\ao b o n c (aI s r v).1 (aI s r v).2.1 w w':=by
 have k0:=hB.at (i:=o) (by omega) hS.part;have HR:Hid (RwV c (o+3351) r):=hR;have hp:=hk.part;have HE:Hid (aI s r v=((s.counts v).1,r,(s.counts v).2)):=by show aI s r v=_;unfold aI;rw[if_neg (by omega),if_neg (by omega),if_neg (by omega),if_neg (by omega),if_pos h]
 have FH:Hid (Calls Tryz.prog 163 #[.pointer (some ⟨b,o,none⟩),.int .u32 (v:Int)] w fun e w'=>e = .returned (.int .i64 ((s.counts v).2:Int))/\ai b o n c (s.counts v).1 w w'):=xR b o n v c s w hB hS (by omega) (hk.v4 h);obtain ⟨TS,hTS⟩:∃ TS,TS=s.counts v:=⟨_,rfl⟩;rw[<- hTS] at HE FH;clear hTS;rw[h] at k0;clear h hp hB hS hR hG hk;go_enter Tryz.func150,Tryz.ntmps150;go_wp2_with fail;refine FH.out.mono ?_;rintro e w1 ⟨rfl,h1⟩;go_wp2_with fail;go_ret;rw[HE.out];exact ⟨rfl,ao.of_st HR.out h1⟩
theorem Bj (b o n v:Nat) (c:Nat->Value) (s:St) (r:Rw) (w:World) (hB:Blk w b n c) (hS:StV c o s) (hR:RwV c (o+3351) r) (hn:o+4900<=n) (hk:fS s r v) (h:s.part=5) (hG:bg w) (hb:NT b) :
  Calls Tryz.prog 150 #[.pointer (some ⟨b,o,none⟩),.int .u32 (v:Int),.pointer (some ⟨b,o+3351,none⟩)] w fun e w'=>e = .returned (.int .i64 ((aI s r v).2.2:Int))/\ao b o n c (aI s r v).1 (aI s r v).2.1 w w':=by
 have k0:=hB.at (i:=o) (by omega) hS.part;have HR:Hid (RwV c (o+3351) r):=hR;have hp:=hk.part;have HE:Hid (aI s r v=((s.shortLen v).1,r,(s.shortLen v).2)):=by show aI s r v=_;unfold aI;rw[if_neg (by omega),if_neg (by omega),if_neg (by omega),if_neg (by omega),if_neg (by omega),if_pos h]
 have FH:Hid (Calls Tryz.prog 164 #[.pointer (some ⟨b,o,none⟩),.int .u32 (v:Int)] w fun e w'=>e = .returned (.int .i64 ((s.shortLen v).2:Int))/\ai b o n c (s.shortLen v).1 w w'):=BG b o n v c s w hB hS (by omega) hG.tabs hb.ord (hk.v5 h).vl (hk.v5 h).told (hk.v5 h).shorts (hk.v5 h).sl;obtain ⟨TS,hTS⟩:∃ TS,TS=s.shortLen v:=⟨_,rfl⟩;rw[<- hTS] at HE FH;clear hTS;rw[h] at k0;clear h hp hB hS hR hG hk;go_enter Tryz.func150,Tryz.ntmps150;go_wp2_with fail;refine FH.out.mono ?_;rintro e w1 ⟨rfl,h1⟩;go_wp2_with fail;go_ret;rw[HE.out];exact ⟨rfl,ao.of_st HR.out h1⟩
theorem Bi (b o n v:Nat) (c:Nat->Value) (s:St) (r:Rw) (w:World) (hB:Blk w b n c) (hS:StV c o s) (hR:RwV c (o+3351) r) (hn:o+4900<=n) (hk:fS s r v) (h:s.part=6) (hG:bg w) (hb:NT b) :
  Calls Tryz.prog 150 #[.pointer (some ⟨b,o,none⟩),.int .u32 (v:Int),.pointer (some ⟨b,o+3351,none⟩)] w fun e w'=>e = .returned (.int .i64 ((aI s r v).2.2:Int))/\ao b o n c (aI s r v).1 (aI s r v).2.1 w w':=by
 have k0:=hB.at (i:=o) (by omega) hS.part;have HR:Hid (RwV c (o+3351) r):=hR;have hp:=hk.part;have HE:Hid (aI s r v=((s.repeat v).1,r,(s.repeat v).2)):=by show aI s r v=_;unfold aI;rw[if_neg (by omega),if_neg (by omega),if_neg (by omega),if_neg (by omega),if_neg (by omega),if_neg (by omega),if_pos h]
 have FH:Hid (Calls Tryz.prog 165 #[.pointer (some ⟨b,o,none⟩),.int .u32 (v:Int)] w fun e w'=>e = .returned (.int .i64 ((s.repeat v).2:Int))/\ai b o n c (s.repeat v).1 w w'):=GF b o n v c s w hB hS (by omega) (hk.v6 h).vl (hk.v6 h).rep (hk.v6 h).tb;obtain ⟨TS,hTS⟩:∃ TS,TS=s.repeat v:=⟨_,rfl⟩;rw[<- hTS] at HE FH;clear hTS;rw[h] at k0;clear h hp hB hS hR hG hk;go_enter Tryz.func150,Tryz.ntmps150;go_wp2_with fail;refine FH.out.mono ?_;rintro e w1 ⟨rfl,h1⟩;go_wp2_with fail;go_ret;rw[HE.out];exact ⟨rfl,ao.of_st HR.out h1⟩
theorem Bh (b o n v:Nat) (c:Nat->Value) (s:St) (r:Rw) (w:World) (hB:Blk w b n c) (hS:StV c o s) (hR:RwV c (o+3351) r) (hn:o+4900<=n) (hk:fS s r v) (h:s.part=7) (hG:bg w) (hb:NT b) :
  Calls Tryz.prog 150 #[.pointer (some ⟨b,o,none⟩),.int .u32 (v:Int),.pointer (some ⟨b,o+3351,none⟩)] w fun e w'=>e = .returned (.int .i64 ((aI s r v).2.2:Int))/\ao b o n c (aI s r v).1 (aI s r v).2.1 w w':=by
 have k0:=hB.at (i:=o) (by omega) hS.part;have HR:Hid (RwV c (o+3351) r):=hR;have hp:=hk.part;have HE:Hid (aI s r v=(s.lengthRest v,r,0)):=by show aI s r v=_;unfold aI;rw[if_neg (by omega),if_neg (by omega),if_neg (by omega),if_neg (by omega),if_neg (by omega),if_neg (by omega),if_neg (by omega),if_pos h]
 have FH:Hid (Calls Tryz.prog 166 #[.pointer (some ⟨b,o,none⟩),.int .u32 (v:Int)] w fun e w'=>e = .returned (.int .i64 0)/\ai b o n c (s.lengthRest v) w w'):=yd b o n v c s w hB hS (by omega) (hk.v7 h) hk.v;generalize s.lengthRest v=TS at *;rw[h] at k0;clear h hp hB hS hR hG hk;go_enter Tryz.func150,Tryz.ntmps150;go_wp2_with fail;refine FH.out.mono ?_;rintro e w1 ⟨rfl,h1⟩;go_wp2_with fail;go_ret;rw[HE.out];exact ⟨rfl,ao.of_st HR.out h1⟩
theorem Bg (b o n v:Nat) (c:Nat->Value) (s:St) (r:Rw) (w:World) (hB:Blk w b n c) (hS:StV c o s) (hR:RwV c (o+3351) r) (hn:o+4900<=n) (hk:fS s r v) (h:s.part=8) (hG:bg w) (hb:NT b) :
  Calls Tryz.prog 150 #[.pointer (some ⟨b,o,none⟩),.int .u32 (v:Int),.pointer (some ⟨b,o+3351,none⟩)] w fun e w'=>e = .returned (.int .i64 ((aI s r v).2.2:Int))/\ao b o n c (aI s r v).1 (aI s r v).2.1 w w':=by
 have k0:=hB.at (i:=o) (by omega) hS.part;have HR:Hid (RwV c (o+3351) r):=hR;have hp:=hk.part;have HE:Hid (aI s r v=cP s r v):=by show aI s r v=_;unfold aI;rw[if_neg (by omega),if_neg (by omega),if_neg (by omega),if_neg (by omega),if_neg (by omega),if_neg (by omega),if_neg (by omega),if_neg (by omega),if_pos h]
 have FH:Hid (Calls Tryz.prog 167 #[.pointer (some ⟨b,o,none⟩),.int .u32 (v:Int),.pointer (some ⟨b,o+3351,none⟩)] w fun e w'=>e = .returned (.int .i64 ((cP s r v).2.2:Int))/\ao b o n c (cP s r v).1 (cP s r v).2.1 w w'):=Cs b o n v c s r w hB hS hR hn hG.grd hb.grd (hk.v8 h).vl (hk.v8 h).base (hk.v8 h).cnt (hk.v8 h).win (hk.v8 h).len (hk.v8 h).copy;obtain ⟨TS,hTS⟩:∃ TS,TS=cP s r v:=⟨_,rfl⟩;rw[<- hTS] at HE FH;clear hTS;rw[h] at k0;clear h hp hB hS hR hG hk;go_enter Tryz.func150,Tryz.ntmps150;go_wp2_with fail;refine FH.out.mono ?_;rintro e w1 ⟨rfl,h1⟩;go_wp2_with fail;go_ret;rw[HE.out];exact ⟨rfl,h1⟩
theorem xO (b o n v:Nat) (c:Nat->Value) (s:St) (r:Rw) (w:World) (hB:Blk w b n c) (hS:StV c o s) (hR:RwV c (o+3351) r) (hn:o+4900<=n) (hk:fS s r v) (hG:bg w) (hb:NT b) :
  Calls Tryz.prog 150 #[.pointer (some ⟨b,o,none⟩),.int .u32 (v:Int),.pointer (some ⟨b,o+3351,none⟩)] w fun e w'=>e = .returned (.int .i64 ((aI s r v).2.2:Int))/\ao b o n c (aI s r v).1 (aI s r v).2.1 w w':=by
 have hp:=hk.part;have hc:s.part=0\/s.part=1\/s.part=2\/s.part=3\/s.part=4\/s.part=5\/s.part=6\/s.part=7\/s.part=8\/s.part=9:=by omega
 rcases hc with h | h | h | h | h | h | h | h | h | h
 ·exact Bo b o n v c s r w hB hS hR hn hk h hG hb
 ·exact Bn b o n v c s r w hB hS hR hn hk h hG hb
 ·exact Bm b o n v c s r w hB hS hR hn hk h hG hb
 ·exact Bl b o n v c s r w hB hS hR hn hk h hG hb
 ·exact Bk b o n v c s r w hB hS hR hn hk h hG hb
 ·exact Bj b o n v c s r w hB hS hR hn hk h hG hb
 ·exact Bi b o n v c s r w hB hS hR hn hk h hG hb
 ·exact Bh b o n v c s r w hB hS hR hn hk h hG hb
 ·exact Bg b o n v c s r w hB hS hR hn hk h hG hb
 ·exact Bf b o n v c s r w hB hS hR hn hk h hG hb
theorem Ba (m g t:Nat) (hm:m<2^g) (hg:g<32) (ht:t<=1):bits .or .u32 (m:Int) (((t*2^g:Nat)):Int)=((m+t*2^g:Nat):Int):=by
 have hp:2^g*2<=2^32:=by rw[<- Nat.pow_succ];exact Nat.pow_le_pow_right (by omega) (by omega)
 have ht2:t*2^g<=1*2^g:=Nat.mul_le_mul_right _ ht;show IntKind.u32.wrap ((BitVec.ofInt 32 (m:Int) ||| BitVec.ofInt 32 ((t*2^g:Nat):Int)).toNat:Int)=_
 have e1:(BitVec.ofInt 32 (m:Int)).toNat=m:=by rw[BitVec.ofInt_natCast,BitVec.toNat_ofNat];exact Nat.mod_eq_of_lt (by omega)
 have e2:(BitVec.ofInt 32 ((t*2^g:Nat):Int)).toNat=t*2^g:=by rw[BitVec.ofInt_natCast,BitVec.toNat_ofNat];exact Nat.mod_eq_of_lt (by omega)
 have e3:m ||| t*2^g=m+t*2^g:=by
  have:=Nat.shiftLeft_add_eq_or_of_lt (b:=m) (i:=g) hm t
  rw[Nat.shiftLeft_eq] at this;rw[Nat.or_comm];omega
 rw[BitVec.toNat_or,e1,e2,e3,IntKind.wrap_u32];omega
def St.oneBit (s:St) (t:Nat):St:={ s with number:=s.number+t*2^s.got,got:=s.got+1 }
def uG (s:St) (r:Rw) (t:Nat):St × Rw × Nat:=fK { s with path:=(s.lit.step s.path t).1 } r (s.lit.step s.path t).2
def clP (s:St) (t:Nat):St × Nat:=({ s with path:=(s.tb.short.step s.path t).1 }:St).codeLen (s.tb.short.step s.path t).2
def dsP (s:St) (r:Rw) (t:Nat):St × Rw × Nat:=eY { s with path:=(s.dist.step s.path t).1 } r (s.dist.step s.path t).2
structure Lo (s:St) (r:Rw) (t:Nat):Prop where
 lit:mI s.lit
 path:Ji s.path
 bit:t<=1
 sym1 : -2<=(s.lit.step s.path t).2
 sym2:(s.lit.step s.path t).2<=1000
 good:rj r
 sum:s.sum<4294967296
structure Nu (s:St) (t:Nat):Prop where
 short:mI s.tb.short
 path:Ji s.path
 bit:t<=1
 sym1 : -2<=(s.tb.short.step s.path t).2
 sym2:(s.tb.short.step s.path t).2<=18
 tb:od s.tb
structure Ns (s:St) (r:Rw) (t:Nat):Prop where
 dist:mI s.dist
 path:Ji s.path
 bit:t<=1
 sym1 : -2<=(s.dist.step s.path t).2
 sym2:(s.dist.step s.path t).2<=1000
 cnt:s.count<=2078
 win:s.window<=100000
 len:s.length<=100000
 copy:∀ D,1<=D->D<=s.count->D<=s.window->mH s.length D { s with path:=(s.dist.step s.path t).1 } r
def aW (s:St) (r:Rw) (t:Nat):St × Rw × Nat:=if s.part=12 then uG s r t else if s.part=11 then ((clP s t).1,r,(clP s t).2) else if s.part=13 then dsP s r t else if s.got+1<s.wanted then (s.oneBit t,r,0) else aI (s.oneBit t) r (s.number+t*2^s.got)
structure xE (s:St) (r:Rw) (t:Nat):Prop where
 part:s.part<=9\/s.part=11\/s.part=12\/s.part=13
 sym:s.part=12->Lo s r t
 cl:s.part=11->Nu s t
 ds:s.part=13->Ns s r t
 got:s.part<=9->s.got<32
 wanted:s.part<=9->s.wanted<=32
 number:s.part<=9->s.number<2^s.got
 bit:t<=1
 num:s.part<=9->¬ s.got+1<s.wanted->fS (s.oneBit t) r (s.number+t*2^s.got)
theorem Gj (s:St) (r:Rw) (t:Nat):uG s r t=fK { s with path:=(s.lit.step s.path t).1 } r (s.lit.step s.path t).2:=rfl
theorem Bu (b o n t:Nat) (c:Nat->Value) (s:St) (r:Rw) (w:World) (hB:Blk w b n c) (hS:StV c o s) (hR:RwV c (o+3351) r) (hn:o+4900<=n) (hk:xE s r t) (h12:s.part<=9) (hG:bg w) (hb:NT b) :
  Calls Tryz.prog 140 #[.pointer (some ⟨b,o,none⟩),.int .u32 (t:Int),.pointer (some ⟨b,o+3351,none⟩)] w fun e w'=>e = .returned (.int .i64 ((aW s r t).2.2:Int))/\ao b o n c (aW s r t).1 (aW s r t).2.1 w w':=by
 have k0:=hB.at (i:=o) (by omega) hS.part;have k1:=hB.at (i:=o+1) (by omega) hS.number;have k2:=hB.at (i:=o+2) (by omega) hS.got;have z:=hB.fz;have HB:Hid (Blk w b n c):=hB;have HS:Hid (StV c o s):=hS;have HR:Hid (RwV c (o+3351) r):=hR;have HK:Hid (xE s r t):=hk;have HG:Hid (∀ W,Fr1 b w W->bg W):=fun W f=>hG.fr f hb
 have hp:=hk.part;have n11:((s.part:Int) == 11)=false:=by rw[beq_eq_false_iff_ne];omega
 have n12:((s.part:Int) == 12)=false:=by rw[beq_eq_false_iff_ne];omega
 have n13:((s.part:Int) == 13)=false:=by rw[beq_eq_false_iff_ne];omega
 have hgot:=hk.got h12;have hwan:=hk.wanted h12;have hbit:=hk.bit;have hnum:=hk.number h12;obtain ⟨G,hGe⟩:∃ G,G=s.got+1:=⟨_,rfl⟩;have eG:(s.got:Int)+1=(G:Int):=by omega
 have HGe:Hid (G=s.got+1):=hGe;obtain ⟨N,hNe⟩:∃ N,N=s.number+t*2^s.got:=⟨_,rfl⟩;have HNe:Hid (N=s.number+t*2^s.got):=hNe;have eOr:bits .or .u32 (s.number:Int) ((t:Int)*2^s.got % 4294967296)=(N:Int):=by
  have hp2:2^s.got<=2^31:=Nat.pow_le_pow_right (by omega) (by omega);have ht2:t*2^s.got<=1*2^31:=Nat.mul_le_mul hbit hp2;have e:(t:Int)*2^s.got=((t*2^s.got:Nat):Int):=by simp
  rw[hNe,<- Ba _ _ _ hnum hgot hbit,e,Int.emod_eq_of_lt (by omega) (by omega)]
 have HE:Hid (aW s r t=if G<s.wanted then ({ s with number:=N,got:=G },r,0) else aI { s with number:=N,got:=G } r N):=by
  show aW s r t=_
  unfold aW St.oneBit;rw[if_neg (by omega),if_neg (by omega),if_neg (by omega),hGe,hNe]
 have HNum:Hid (¬ G<s.wanted->fS { s with number:=N,got:=G } r N):=by
  show ¬ G<s.wanted->fS { s with number:=N,got:=G } r N
  rw[hGe,hNe];exact hk.num h12
 clear hB hS hR hG hk hGe hNe;have hG32:G<=32:=by have:=HGe.out;omega
 have S1:Hid (StV (upd (upd c (o+1) (.int .u32 (N:Int))) (o+2) (.int .u64 (G:Int))) o { s with number:=N,got:=G }):=(HS.out.set_number N).set_got G;have R1:Hid (RwV (upd (upd c (o+1) (.int .u32 (N:Int))) (o+2) (.int .u64 (G:Int))) (o+3351) r):=HR.out.congr (fun i h1 h2=>by rw[upd_ne _ _ _ (by omega),upd_ne _ _ _ (by omega)]);have C1:Hid (FrC b o (o+4900) c (upd (upd c (o+1) (.int .u32 (N:Int))) (o+2) (.int .u64 (G:Int)))):=(FrC.upd _ (by omega) (by omega)).trans (FrC.upd _ (by omega) (by omega));replace hnum:Hid _:=hnum;go_enter Tryz.func140,Tryz.ntmps140;go_wp2_with fail;go_quiet (fail);have B1:Hid (Blk (((w.drewN nq).setCell ⟨b,o+1,none⟩ (.int .u32 (N:Int))).setCell ⟨b,o+2,none⟩ (.int .u64 (G:Int))) b n (upd (upd c (o+1) (.int .u32 (N:Int))) (o+2) (.int .u64 (G:Int)))):=((HB.out.kept ((Kept.refl _).drewN nq)).set (by omega) _).set (by omega) _;have F1:Hid (Fr1 b w (((w.drewN nq).setCell ⟨b,o+1,none⟩ (.int .u32 (N:Int))).setCell ⟨b,o+2,none⟩ (.int .u64 (G:Int)))):=Fr1.set (Fr1.set (Fr1.drewN (Fr.refl _ _) nq) _ _) _ _;go_upto_region 14 with fail
 generalize ((w.drewN nq).setCell ⟨b,o+1,none⟩ (.int .u32 (N:Int))).setCell ⟨b,o+2,none⟩ (.int .u64 (G:Int))=w1 at *;generalize upd (upd c (o+1) (.int .u32 (N:Int))) (o+2) (.int .u64 (G:Int))=c1 at *;clear k0 k1 k2 z HB HS HR;have k2:=B1.out.at (i:=o+2) (by omega) S1.out.got;have k3:=B1.out.at (i:=o+3) (by omega) S1.out.wanted;replace k2:w1.cell? ⟨b,o+2,none⟩=some (.int .u64 (G:Int)):=k2;replace k3:w1.cell? ⟨b,o+3,none⟩=some (.int .u64 (s.wanted:Int)):=k3;by_cases hw:G<s.wanted
 ·have hw':(G:Int)<(s.wanted:Int):=by omega
  go_quiet (fail);go_wp2_with fail;go_ret;rw[HE.out,if_pos hw];exact ⟨rfl,c1,B1.out.kept ((Kept.refl _).drewN _),S1.out,R1.out,C1.out,F1.out.kept ((Kept.refl _).drewN _)⟩
 ·have hw':¬ (G:Int)<(s.wanted:Int):=by omega
  go_quiet (fail);go_wp2_with fail;refine (xO b o n N c1 { s with number:=N,got:=G } r _ (B1.out.kept ((Kept.refl _).drewN _)) S1.out R1.out hn (HNum.out hw) (HG.out _ (F1.out.kept ((Kept.refl _).drewN _))) hb).mono ?_;rintro e w2 ⟨rfl,h2⟩;go_wp2_with fail;go_ret;rw[HE.out,if_neg hw];exact ⟨rfl,ao.next C1.out (F1.out.kept ((Kept.refl _).drewN _)) h2⟩
theorem Br (b o n t:Nat) (c:Nat->Value) (s:St) (r:Rw) (w:World) (hB:Blk w b n c) (hS:StV c o s) (hR:RwV c (o+3351) r) (hn:o+4900<=n) (h12:s.part=12) (hk:Lo s r t) (hG:bg w) (hb:NT b) :
  Calls Tryz.prog 140 #[.pointer (some ⟨b,o,none⟩),.int .u32 (t:Int),.pointer (some ⟨b,o+3351,none⟩)] w fun e w'=>e = .returned (.int .i64 ((uG s r t).2.2:Int))/\ao b o n c (uG s r t).1 (uG s r t).2.1 w w':=by
 have k0:=hB.at (i:=o) (by omega) hS.part;rw[h12] at k0;have hbit:=hk.bit;have F1:Hid (∀ W,Kept w W->Calls Tryz.prog 146 #[.pointer (some ⟨b,o+11,none⟩),.pointer (some ⟨b,o+4,none⟩),.int .i64 (t:Int)] W fun e w'=>e = .returned (.int .i64 (s.lit.step s.path t).2)/\∃ d,Blk w' b n d/\PtV d (o+4) (s.lit.step s.path t).1/\FrC b (o+4) (o+4+3) c d/\Fr1 b W w'):=fun W k=>yC b (o+11) (o+4) n t c s.lit s.path W (hB.kept k) hS.lit hS.path (by omega) (by omega) hk.lit hk.path hbit
 have F2:Hid (∀ (W:World) (d:Nat->Value),Blk W b n d->PtV d (o+4) (s.lit.step s.path t).1->FrC b (o+4) (o+4+3) c d->Fr1 b w W->Calls Tryz.prog 148 #[.pointer (some ⟨b,o,none⟩),.int .i64 (s.lit.step s.path t).2,.pointer (some ⟨b,o+3351,none⟩)] W fun e w'=>e = .returned (.int .i64 ((uG s r t).2.2:Int))/\ao b o n d (uG s r t).1 (uG s r t).2.1 W w'):=fun W d a1 a2 a3 a4=>by
  rw[Gj];exact xK b o n _ d { s with path:=(s.lit.step s.path t).1 } r W a1 (hS.set_path _ a2 (fun i hi=>a3.out i (fun q=>hi ⟨q.1,by omega⟩))) (hR.congr (fun i h1 h2=>a3.out i (by omega))) hn hk.good (hG.fr a4 hb).grd hb.grd (hG.fr a4 hb).tabs hk.sum hk.sym1 hk.sym2
 generalize uG s r t=T at *;generalize (s.lit.step s.path t).2=SY at *;generalize (s.lit.step s.path t).1=PP at *;clear hB hS hR hG hk;have wt:IntKind.i64.wrap (t:Int)=(t:Int):=by rw[IntKind.wrap_i64];omega
 go_enter Tryz.func140,Tryz.ntmps140;go_wp2_with fail;go_region_held3 (fun W=>True) (trivial) ((go_at_call 146;refine (F1.out _ ((Kept.refl _).drewN 1)).mono ?_;rintro e' w1 ⟨rfl,hst⟩))
 obtain ⟨d,d1,d2,d3,d4'⟩:=hst;have d4:Fr1 b w w1:=Fr.trans (Fr1.drewN (Fr.refl _ _) 1) d4';clear d4';have F3:=F2.out w1 d d1 d2 d3 d4;replace F3:Hid _:=F3;have C1:Hid (FrC b o (o+4900) c d):=d3.mono (by omega) (by omega);have F4:Hid (Fr1 b w w1):=d4;clear d1 d2 d3 d4 F1 F2;go_wp2_with fail;refine Calls.mono F3.out ?_;rintro e w2 ⟨rfl,k5⟩;go_wp2_with fail;go_ret;exact ⟨rfl,ao.next C1.out F4.out k5⟩
theorem Bv (b o n t:Nat) (c:Nat->Value) (s:St) (r:Rw) (w:World) (hB:Blk w b n c) (hS:StV c o s) (hR:RwV c (o+3351) r) (hn:o+4900<=n) (h12:s.part=11) (hk:Nu s t) (hG:bg w) (hb:NT b) :
  Calls Tryz.prog 140 #[.pointer (some ⟨b,o,none⟩),.int .u32 (t:Int),.pointer (some ⟨b,o+3351,none⟩)] w fun e w'=>e = .returned (.int .i64 ((clP s t).2:Int))/\ao b o n c (clP s t).1 r w w':=by
 have k0:=hB.at (i:=o) (by omega) hS.part;rw[h12] at k0;have hbit:=hk.bit;have F1:Hid (∀ W,Kept w W->Calls Tryz.prog 146 #[.pointer (some ⟨b,o+623+3,none⟩),.pointer (some ⟨b,o+4,none⟩),.int .i64 (t:Int)] W fun e w'=>e = .returned (.int .i64 (s.tb.short.step s.path t).2)/\∃ d,Blk w' b n d/\PtV d (o+4) (s.tb.short.step s.path t).1/\FrC b (o+4) (o+4+3) c d/\Fr1 b W w'):=fun W k=>yC b (o+623+3) (o+4) n t c s.tb.short s.path W (hB.kept k) hS.tb.short hS.path (by omega) (by omega) hk.short hk.path hbit
 have F2:Hid (∀ (W:World) (d:Nat->Value),Blk W b n d->PtV d (o+4) (s.tb.short.step s.path t).1->FrC b (o+4) (o+4+3) c d->Fr1 b w W->Calls Tryz.prog 147 #[.pointer (some ⟨b,o,none⟩),.int .i64 (s.tb.short.step s.path t).2] W fun e w'=>e = .returned (.int .i64 ((clP s t).2:Int))/\ao b o n d (clP s t).1 r W w'):=fun W d a1 a2 a3 a4=>by
  refine (Fe b o n _ d { s with path:=(s.tb.short.step s.path t).1 } W a1 (hS.set_path _ a2 (fun i hi=>a3.out i (fun q=>hi ⟨q.1,by omega⟩))) (by omega) hk.sym1 hk.sym2 hk.tb).mono ?_;rintro e w' ⟨rfl,h1⟩;exact ⟨rfl,ao.of_st (hR.congr (fun i h1 h2=>a3.out i (by omega))) h1⟩
 generalize clP s t=T at *;generalize (s.tb.short.step s.path t).2=SY at *;generalize (s.tb.short.step s.path t).1=PP at *;clear hB hS hR hG hk;have wt:IntKind.i64.wrap (t:Int)=(t:Int):=by rw[IntKind.wrap_i64];omega
 go_enter Tryz.func140,Tryz.ntmps140;go_wp2_with fail;go_region_held3 (fun W=>True) (trivial) ((go_at_call 146;refine (F1.out _ ((Kept.refl _).drewN 1)).mono ?_;rintro e' w1 ⟨rfl,hst⟩))
 obtain ⟨d,d1,d2,d3,d4'⟩:=hst;have d4:Fr1 b w w1:=Fr.trans (Fr1.drewN (Fr.refl _ _) 1) d4';clear d4';have F3:=F2.out w1 d d1 d2 d3 d4;replace F3:Hid _:=F3;have C1:Hid (FrC b o (o+4900) c d):=d3.mono (by omega) (by omega);have F4:Hid (Fr1 b w w1):=d4;clear d1 d2 d3 d4 F1 F2;go_wp2_with fail;refine Calls.mono F3.out ?_;rintro e w2 ⟨rfl,k5⟩;go_wp2_with fail;go_ret;exact ⟨rfl,ao.next C1.out F4.out k5⟩
theorem Bw (b o n t:Nat) (c:Nat->Value) (s:St) (r:Rw) (w:World) (hB:Blk w b n c) (hS:StV c o s) (hR:RwV c (o+3351) r) (hn:o+4900<=n) (h12:s.part=13) (hk:Ns s r t) (hG:bg w) (hb:NT b) :
  Calls Tryz.prog 140 #[.pointer (some ⟨b,o,none⟩),.int .u32 (t:Int),.pointer (some ⟨b,o+3351,none⟩)] w fun e w'=>e = .returned (.int .i64 ((dsP s r t).2.2:Int))/\ao b o n c (dsP s r t).1 (dsP s r t).2.1 w w':=by
 have k0:=hB.at (i:=o) (by omega) hS.part;rw[h12] at k0;have hbit:=hk.bit;have F1:Hid (∀ W,Kept w W->Calls Tryz.prog 146 #[.pointer (some ⟨b,o+317,none⟩),.pointer (some ⟨b,o+4,none⟩),.int .i64 (t:Int)] W fun e w'=>e = .returned (.int .i64 (s.dist.step s.path t).2)/\∃ d,Blk w' b n d/\PtV d (o+4) (s.dist.step s.path t).1/\FrC b (o+4) (o+4+3) c d/\Fr1 b W w'):=fun W k=>yC b (o+317) (o+4) n t c s.dist s.path W (hB.kept k) hS.dist hS.path (by omega) (by omega) hk.dist hk.path hbit
 have F2:Hid (∀ (W:World) (d:Nat->Value),Blk W b n d->PtV d (o+4) (s.dist.step s.path t).1->FrC b (o+4) (o+4+3) c d->Fr1 b w W->Calls Tryz.prog 149 #[.pointer (some ⟨b,o,none⟩),.int .i64 (s.dist.step s.path t).2,.pointer (some ⟨b,o+3351,none⟩)] W fun e w'=>e = .returned (.int .i64 ((dsP s r t).2.2:Int))/\ao b o n d (dsP s r t).1 (dsP s r t).2.1 W w'):=fun W d a1 a2 a3 a4=>by
  exact Cr b o n _ d { s with path:=(s.dist.step s.path t).1 } r W a1 (hS.set_path _ a2 (fun i hi=>a3.out i (fun q=>hi ⟨q.1,by omega⟩))) (hR.congr (fun i h1 h2=>a3.out i (by omega))) hn (hG.fr a4 hb).grd hb.grd (hG.fr a4 hb).tabs hk.sym1 hk.sym2 hk.cnt hk.win hk.len hk.copy
 generalize dsP s r t=T at *;generalize (s.dist.step s.path t).2=SY at *;generalize (s.dist.step s.path t).1=PP at *;clear hB hS hR hG hk;have wt:IntKind.i64.wrap (t:Int)=(t:Int):=by rw[IntKind.wrap_i64];omega
 go_enter Tryz.func140,Tryz.ntmps140;go_wp2_with fail;go_region_held3 (fun W=>True) (trivial) ((go_at_call 146;refine (F1.out _ ((Kept.refl _).drewN 1)).mono ?_;rintro e' w1 ⟨rfl,hst⟩))
 obtain ⟨d,d1,d2,d3,d4'⟩:=hst;have d4:Fr1 b w w1:=Fr.trans (Fr1.drewN (Fr.refl _ _) 1) d4';clear d4';have F3:=F2.out w1 d d1 d2 d3 d4;replace F3:Hid _:=F3;have C1:Hid (FrC b o (o+4900) c d):=d3.mono (by omega) (by omega);have F4:Hid (Fr1 b w w1):=d4;clear d1 d2 d3 d4 F1 F2;go_wp2_with fail;refine Calls.mono F3.out ?_;rintro e w2 ⟨rfl,k5⟩;go_wp2_with fail;go_ret;exact ⟨rfl,ao.next C1.out F4.out k5⟩
theorem D1 (b o n t:Nat) (c:Nat->Value) (s:St) (r:Rw) (w:World) (hB:Blk w b n c) (hS:StV c o s) (hR:RwV c (o+3351) r) (hn:o+4900<=n) (hk:xE s r t) (hG:bg w) (hb:NT b) :
  Calls Tryz.prog 140 #[.pointer (some ⟨b,o,none⟩),.int .u32 (t:Int),.pointer (some ⟨b,o+3351,none⟩)] w fun e w'=>e = .returned (.int .i64 ((aW s r t).2.2:Int))/\ao b o n c (aW s r t).1 (aW s r t).2.1 w w':=by
 by_cases h12:s.part=12
 ·have e:aW s r t=uG s r t:=by unfold aW;rw[if_pos h12]
  rw[e];exact Br b o n t c s r w hB hS hR hn h12 (hk.sym h12) hG hb
 by_cases h11:s.part=11
 ·have e:aW s r t=((clP s t).1,r,(clP s t).2):=by unfold aW;rw[if_neg h12,if_pos h11]
  rw[e];exact Bv b o n t c s r w hB hS hR hn h11 (hk.cl h11) hG hb
 by_cases h13:s.part=13
 ·have e:aW s r t=dsP s r t:=by unfold aW;rw[if_neg h12,if_neg h11,if_pos h13]
  rw[e];exact Bw b o n t c s r w hB hS hR hn h13 (hk.ds h13) hG hb
 ·exact Bu b o n t c s r w hB hS hR hn hk (by have:=hk.part;omega) hG hb
