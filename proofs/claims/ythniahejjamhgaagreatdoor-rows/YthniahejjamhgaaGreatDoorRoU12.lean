import Derived.Test.YthniahejjamhgaaGreatDoorRoU5
import Derived.Test.YthniahejjamhgaaGreatDoorRoU9
set_option maxRecDepth 100000
set_option maxHeartbeats 6400000
namespace Go.Proofs.YthniahejjamhgaaGreatDoor
open Go.RowKit Px
set_option linter.unusedSimpArgs false
set_option linter.unusedVariables false
def Rd.acceptHead (s:Rd):Rd × Nat:=if (headOf s.raw).1≠0 then (s,(headOf s.raw).1) else ({ s with hd:=(headOf s.raw).2 },0)
theorem HdV.set5 {c:Nat->Value} {o:Nat} {h:Hd} (k:HdV c o h) (g:Hd):HdV (upd (upd (upd (upd (upd c o (.int .i64 (g.W:Int))) (o+1) (.int .i64 (g.H:Int))) (o+2) (.int .i64 (g.D:Int))) (o+3) (.int .i64 (g.K:Int))) (o+4) (.int .i64 (g.L:Int))) o g:=
 ((((k.set_W g.W).set_H g.H).set_D g.D).set_K g.K).set_L g.L
theorem acceptHead_x (b o n:Nat) (c:Nat->Value) (s:Rd) (w:World) (hB:Blk w b n c) (hV:RdV c o s) (hn:o+5954<=n) (hr:∀ i,s.raw i<256) :
  Calls Tryz.prog 122 #[.pointer (some ⟨b,o,none⟩)] w fun e w'=>e = .returned (.int .i64 (s.acceptHead.2:Int))/\RdStep b o n c s.acceptHead.1 w w':=by
 have r0:=hB.at (i:=o+11) (by omega) (hV.raw 0 (by omega));have r1:=hB.at (i:=o+11+1) (by omega) (hV.raw 1 (by omega));have r2:=hB.at (i:=o+11+2) (by omega) (hV.raw 2 (by omega));have r3:=hB.at (i:=o+11+3) (by omega) (hV.raw 3 (by omega));have r4:=hB.at (i:=o+11+4) (by omega) (hV.raw 4 (by omega));have r5:=hB.at (i:=o+11+5) (by omega) (hV.raw 5 (by omega));have r6:=hB.at (i:=o+11+6) (by omega) (hV.raw 6 (by omega));have r7:=hB.at (i:=o+11+7) (by omega) (hV.raw 7 (by omega));have r8:=hB.at (i:=o+11+8) (by omega) (hV.raw 8 (by omega));have r9:=hB.at (i:=o+11+9) (by omega) (hV.raw 9 (by omega));have r10:=hB.at (i:=o+11+10) (by omega) (hV.raw 10 (by omega));have r11:=hB.at (i:=o+11+11) (by omega) (hV.raw 11 (by omega));have r12:=hB.at (i:=o+11+12) (by omega) (hV.raw 12 (by omega));have HB:Hid (Blk w b n c):=hB;have HV:Hid (RdV c o s):=hV;have hbw:=hB.lt;have HE:Hid (s.acceptHead=if (headOf s.raw).1≠0 then (s,(headOf s.raw).1) else ({ s with hd:=(headOf s.raw).2 },0)):=rfl;have F:Hid (Calls Tryz.prog 144 #[.agg #[.int .u8 (s.raw 0:Int),.int .u8 (s.raw 1:Int),.int .u8 (s.raw 2:Int),.int .u8 (s.raw 3:Int),.int .u8 (s.raw 4:Int),.int .u8 (s.raw 5:Int),.int .u8 (s.raw 6:Int),.int .u8 (s.raw 7:Int),.int .u8 (s.raw 8:Int),.int .u8 (s.raw 9:Int),.int .u8 (s.raw 10:Int),.int .u8 (s.raw 11:Int),.int .u8 (s.raw 12:Int)]] w fun e w'=>e = .returned (.tuple #[hdV (headOf s.raw).2,.int .i64 ((headOf s.raw).1:Int)])/\Kept w w'):=headRead_any s.raw w hr;clear hB hV hr;obtain ⟨E,hE⟩:∃ E,E=(headOf s.raw).1:=⟨_,rfl⟩;obtain ⟨G,hG⟩:∃ G,G=(headOf s.raw).2:=⟨_,rfl⟩;rw[<- hE,<- hG] at F HE;clear hE hG;unfold hdV at F;by_cases hz:E=0
 ·have hz':((E:Int) != 0)=false:=by rw[bne_eq_false_iff_eq];omega
  have HE2:Hid (s.acceptHead=({ s with hd:=G },0)):=by show s.acceptHead=_;rw[HE.out,if_neg (fun k=>k hz)]
  replace hz:Hid _:=hz;go_enter Tryz.func122,Tryz.ntmps122;go_wp2_with fail;refine F.out.mono ?_;rintro e w1 ⟨rfl,hk⟩;have B1:Hid (Blk w1 b n c):=HB.out.kept hk;have F1:Hid (Fr1 b w w1):=Fr.of_kept hk;have d0:=B1.out.at (i:=o+6) (by omega) HV.out.hd.W;have d1:=B1.out.at (i:=o+6+1) (by omega) HV.out.hd.H;have d2:=B1.out.at (i:=o+6+2) (by omega) HV.out.hd.D;have d3:=B1.out.at (i:=o+6+3) (by omega) HV.out.hd.K;have d4:=B1.out.at (i:=o+6+4) (by omega) HV.out.hd.L;have z:=B1.out.fz;have hb1:=B1.out.lt;clear r0 r1 r2 r3 r4 r5 r6 r7 r8 r9 r10 r11 r12 hk F HB;go_wp2;go_ret;rw[HE2.out];have hB2:=((((B1.out.set (k:=o+6) (by omega) (.int .i64 (G.W:Int))).set (k:=o+6+1) (by omega) (.int .i64 (G.H:Int))).set (k:=o+6+2) (by omega) (.int .i64 (G.D:Int))).set (k:=o+6+3) (by omega) (.int .i64 (G.K:Int))).set (k:=o+6+4) (by omega) (.int .i64 (G.L:Int));refine ⟨rfl,_,hB2.kept (Below.alloc (Below.refl _ _) (Nat.le_refl _) _),HV.out.set_hd G (HV.out.hd.set5 G) (fun i hi => ?_),⟨fun i hi => ?_⟩,Fr.alloc (Fr1.set (Fr1.set (Fr1.set (Fr1.set (Fr1.set F1.out _ _) _ _) _ _) _ _) _ _) _⟩
  ·rw[upd_ne _ _ _ (by omega),upd_ne _ _ _ (by omega),upd_ne _ _ _ (by omega),upd_ne _ _ _ (by omega),upd_ne _ _ _ (by omega)]
  ·rw[upd_ne _ _ _ (by omega),upd_ne _ _ _ (by omega),upd_ne _ _ _ (by omega),upd_ne _ _ _ (by omega),upd_ne _ _ _ (by omega)]
 ·have hz':((E:Int) != 0)=true:=by rw[bne_iff_ne];omega
  have HE2:Hid (s.acceptHead=(s,E)):=by show s.acceptHead=_;rw[HE.out,if_pos hz]
  go_enter Tryz.func122,Tryz.ntmps122;go_wp2_with fail;refine F.out.mono ?_;rintro e w1 ⟨rfl,hk⟩;clear r0 r1 r2 r3 r4 r5 r6 r7 r8 r9 r10 r11 r12;go_wp2;go_ret;rw[HE2.out];exact ⟨rfl,RdStep.of_kept HB.out HV.out (Below.alloc hk hk.size _)⟩
def Rd.accept (s:Rd):Rd × Nat:=if s.ctype=ihdr then s.acceptHead else if s.ctype=trns then (s,s.acceptClear) else (s,0)
theorem accept_x (b o n:Nat) (c:Nat->Value) (s:Rd) (w:World) (hB:Blk w b n c) (hV:RdV c o s) (hn:o+5954<=n) (hr:∀ i,s.raw i<256) (hD:s.hd.D<=16) (hK:s.hd.K<=6) (hc:∀ j,s.tl.clear j<256) :
  Calls Tryz.prog 87 #[.pointer (some ⟨b,o,none⟩)] w fun e w'=>e = .returned (.int .i64 (s.accept.2:Int))/\RdStep b o n c s.accept.1 w w':=by
 have k4:=hB.at (i:=o+4) (by omega) hV.ctype;have HB:Hid (Blk w b n c):=hB;have HV:Hid (RdV c o s):=hV;have HE:Hid (s.accept=if s.ctype=ihdr then s.acceptHead else if s.ctype=trns then (s,s.acceptClear) else (s,0)):=rfl;by_cases c1:s.ctype=ihdr
 ·have HE1:Hid (s.accept=s.acceptHead):=by show s.accept=_;rw[HE.out,if_pos c1]
  have F:Hid (Calls Tryz.prog 122 #[.pointer (some ⟨b,o,none⟩)] w fun e w'=>e = .returned (.int .i64 (s.acceptHead.2:Int))/\RdStep b o n c s.acceptHead.1 w w'):=acceptHead_x b o n c s w hB hV hn hr;rw[c1] at k4;clear hB hV hr hc c1 HE;unfold ihdr at k4;go_enter Tryz.func87,Tryz.ntmps87;go_wp2_with fail;refine F.out.mono ?_;rintro e w1 ⟨rfl,h1⟩;go_wp2_with fail;go_ret;rw[HE1.out];exact ⟨rfl,h1⟩
 ·by_cases c3:s.ctype=trns
  ·have HE1:Hid (s.accept=(s,s.acceptClear)):=by show s.accept=_;rw[HE.out,if_neg c1,if_pos c3]
   have F:Hid (Calls Tryz.prog 123 #[.pointer (some ⟨b,o,none⟩)] w fun e w'=>e = .returned (.int .i64 (s.acceptClear:Int))/\Kept w w'):=acceptClear_x b o n c s w hB hV hn hD hK hc;rw[c3] at k4;clear hB hV hr hc c1 c3 HE;unfold trns at k4;go_enter Tryz.func87,Tryz.ntmps87;go_wp2_with fail;refine F.out.mono ?_;rintro e w1 ⟨rfl,h1⟩;go_wp2_with fail;go_ret;rw[HE1.out];exact ⟨rfl,RdStep.of_kept HB.out HV.out h1⟩
  ·have HE1:Hid (s.accept=(s,0)):=by show s.accept=_;rw[HE.out,if_neg c1,if_neg c3]
   have g1:=cty s ihdr c1;have g3:=cty s trns c3;clear hB hV hr hc c1 c3 HE;unfold ihdr at g1;unfold trns at g3;go_enter Tryz.func87,Tryz.ntmps87;go_wp2_with fail;go_ret;rw[HE1.out];exact ⟨rfl,RdStep.refl HB.out HV.out⟩
def Rd.summed (s:Rd) (x:Nat):Rd:={ s with sum:=crcAdd s.sum x }
def Rd.dataEnd (s:Rd):Rd:=if s.taken+1=s.length then ({ s with taken:=s.taken+1 }:Rd).enter 4 else { s with taken:=s.taken+1 }
def Rd.takeData (s:Rd) (x:Nat):Rd × Nat:=if ((s.summed x).keep x).2≠0 then (s.summed x).keep x else (((s.summed x).keep x).1.dataEnd,0)
theorem takeData_x (b o n x:Nat) (c:Nat->Value) (s:Rd) (w:World) (hB:Blk w b n c) (hV:RdV c o s) (hn:o+5954<=n) (hx:x<256) (hs:s.sum<4294967296) (hk:KeepOk (s.summed x) x) (ht:((s.summed x).keep x).1.taken<2147483648) (hG:GrdAt w) (hb:b≠0) :
  Calls Tryz.prog 58 #[.pointer (some ⟨b,o,none⟩),.int .u8 (x:Int)] w fun e w'=>e = .returned (.int .i64 ((s.takeData x).2:Int))/\RdStep b o n c (s.takeData x).1 w w':=by
 have k5:=hB.at (i:=o+5) (by omega) hV.sum;have z:=hB.fz;have HG:Hid (∀ W,Fr1 b w W->GrdAt W):=fun W f=>hG.fr f (fun q=>hb q.symm)
 have FC:Hid (∀ W,Calls Tryz.prog 82 #[.int .u32 (s.sum:Int),.int .u8 (x:Int)] W fun e w'=>e = .returned (.int .u32 (crcAdd s.sum x:Nat))/\w'=W):=fun W=>crcAdd_any _ _ W hs hx
 obtain ⟨A,hA⟩:∃ A,A=crcAdd s.sum x:=⟨_,rfl⟩;have B1:Hid (Blk (w.setCell ⟨b,o+5,none⟩ (.int .u32 (A:Int))) b n (upd c (o+5) (.int .u32 (A:Int)))):=hB.set (by omega) _;have V1:Hid (RdV (upd c (o+5) (.int .u32 (A:Int))) o (s.summed x)):=by
  have:=hV.set_sum A
  rw[hA] at this ⊢;exact this
 have C1:Hid (FrC b o (o+5954) c (upd c (o+5) (.int .u32 (A:Int)))):=FrC.upd _ (by omega) (by omega);have F1:Hid (Fr1 b w (w.setCell ⟨b,o+5,none⟩ (.int .u32 (A:Int)))):=Fr1.set (Fr.refl _ _) _ _;rw[<- hA] at FC;have HE:Hid (s.takeData x=if ((s.summed x).keep x).2≠0 then (s.summed x).keep x else (((s.summed x).keep x).1.dataEnd,0)):=rfl;have HK:Hid (KeepOk (s.summed x) x):=hk;clear hB hV hG hA hk;go_enter Tryz.func58,Tryz.ntmps58;go_wp2_with fail;refine (FC.out _).mono ?_;rintro e w1 ⟨rfl,hw1⟩;subst w1;go_wp2_with fail;generalize w.setCell ⟨b,o+5,none⟩ (.int .u32 (A:Int))=w1 at *;generalize upd c (o+5) (.int .u32 (A:Int))=c1 at *;clear k5 z FC;refine (keep_x b o n x c1 (s.summed x) w1 B1.out V1.out hn hx HK.out (HG.out _ F1.out) hb).mono ?_;rintro e w2 ⟨rfl,d,hB2,hV2,hC2,hF2⟩;obtain ⟨E,hE⟩:∃ E,E=((s.summed x).keep x).2:=⟨_,rfl⟩;obtain ⟨q,hq⟩:∃ q,q=((s.summed x).keep x).1:=⟨_,rfl⟩;have hkq:(s.summed x).keep x=(q,E):=by rw[hE,hq]
 rw[hkq] at HE;rw[<- hq] at hV2 ht;rw[<- hE];clear hE hq hkq;have B2:Hid (Blk w2 b n d):=hB2;have V2:Hid (RdV d o q):=hV2;have C2:Hid (FrC b o (o+5954) c d):=C1.out.trans hC2;have F2:Hid (Fr1 b w w2):=F1.out.trans hF2;have k1:=hB2.at (i:=o+1) (by omega) hV2.taken;have z1:=hB2.fz (o+1);clear hB2 hV2 hC2 hF2 B1 V1 C1 F1 HK;by_cases hz:E=0
 ·have hz':((E:Int) != 0)=false:=by rw[bne_eq_false_iff_eq];omega
  obtain ⟨T,hT⟩:∃ T,T=q.taken+1:=⟨_,rfl⟩;have eT:(q.taken:Int)+1=(T:Int):=by omega
  have HE2:Hid (s.takeData x=(if T=q.length then ({ q with taken:=T }:Rd).enter 4 else { q with taken:=T },0)):=by
   show s.takeData x=_
   rw[HE.out,if_neg (fun k=>k hz),hT];rfl
  have hT31:T<=2147483648:=by omega
  replace hz:Hid _:=hz;clear hT HE ht;have B3:Hid (Blk (w2.setCell ⟨b,o+1,none⟩ (.int .u32 (T:Int))) b n (upd d (o+1) (.int .u32 (T:Int)))):=B2.out.set (by omega) _;have V3:Hid (RdV (upd d (o+1) (.int .u32 (T:Int))) o { q with taken:=T }):=V2.out.set_taken T;have C3:Hid (FrC b o (o+5954) c (upd d (o+1) (.int .u32 (T:Int)))):=C2.out.trans (FrC.upd _ (by omega) (by omega));have F3:Hid (Fr1 b w (w2.setCell ⟨b,o+1,none⟩ (.int .u32 (T:Int)))):=Fr1.set F2.out _ _;have eTm:(T:Int) % 4294967296=(T:Int):=by omega
  replace hT31:Hid _:=hT31;go_upto_region 6 with fail
  generalize w2.setCell ⟨b,o+1,none⟩ (.int .u32 (T:Int))=w3 at *;generalize upd d (o+1) (.int .u32 (T:Int))=d3 at *;clear k1 z1 B2 V2 C2 F2;have k1:=B3.out.at (i:=o+1) (by omega) V3.out.taken;have k3:=B3.out.at (i:=o+3) (by omega) V3.out.length;replace k1:w3.cell? ⟨b,o+1,none⟩=some (.int .u32 (T:Int)):=k1;replace k3:w3.cell? ⟨b,o+3,none⟩=some (.int .u32 (q.length:Int)):=k3;by_cases hl:T=q.length
  ·have hl':((T:Int) == (q.length:Int))=true:=by rw[beq_iff_eq];omega
   have HE3:Hid (s.takeData x=(({ q with taken:=T }:Rd).enter 4,0)):=by show s.takeData x=_;rw[HE2.out,if_pos hl]
   replace hl:Hid _:=hl;go_quiet (fail);go_wp2_with fail;refine (renter_x b o n 4 d3 { q with taken:=T } _ (B3.out.kept ((Kept.refl _).drewN _)) V3.out hn).mono ?_;rintro e w4 ⟨rfl,h4⟩;go_wp2_with fail;go_ret;rw[HE3.out];exact ⟨rfl,RdStep.next C3.out (F3.out.kept ((Kept.refl _).drewN _)) h4⟩
  ·have hl':((T:Int) == (q.length:Int))=false:=by rw[beq_eq_false_iff_ne];omega
   have HE3:Hid (s.takeData x=({ q with taken:=T },0)):=by show s.takeData x=_;rw[HE2.out,if_neg hl]
   replace hl:Hid _:=hl;go_quiet (fail);go_wp2_with fail;go_ret;rw[HE3.out];exact ⟨rfl,d3,B3.out.kept ((Kept.refl _).drewN _),V3.out,C3.out,F3.out.kept ((Kept.refl _).drewN _)⟩
 ·have hz':((E:Int) != 0)=true:=by rw[bne_iff_ne];omega
  have HE2:Hid (s.takeData x=(q,E)):=by show s.takeData x=_;rw[HE.out,if_pos hz]
  clear ht;go_wp2_with fail;go_ret;rw[HE2.out];exact ⟨rfl,d,B2.out,V2.out,C2.out,F2.out⟩
def Rd.takeSum (s:Rd) (x:Nat):Rd × Nat:=
 if s.taken+1≠4 then (s.num x,0)
 else if s.number*256+x≠crcEnd s.sum then (s.num x,6)
 else if (s.num x).accept.2≠0 then (s.num x).accept
 else if (s.num x).accept.1.ctype=iend then ((s.num x).accept.1.enter 5,0) else ((s.num x).accept.1.enter 1,0)
theorem takeSum_x (b o n x:Nat) (c:Nat->Value) (s:Rd) (w:World) (hB:Blk w b n c) (hV:RdV c o s) (hn:o+5954<=n) (ht:s.taken<1000) (hm:s.number<16777216) (hx:x<256) (hs:s.sum<4294967296) (hr:∀ i,s.raw i<256) (hD:s.hd.D<=16) (hK:s.hd.K<=6) (hc:∀ j,s.tl.clear j<256) :
  Calls Tryz.prog 59 #[.pointer (some ⟨b,o,none⟩),.int .u8 (x:Int)] w fun e w'=>e = .returned (.int .i64 ((s.takeSum x).2:Int))/\RdStep b o n c (s.takeSum x).1 w w':=by
 have FN:Hid (Calls Tryz.prog 81 #[.pointer (some ⟨b,o,none⟩),.int .u8 (x:Int)] w fun e w'=>e = .returned (.bool (decide (s.taken+1=4)))/\RdStep b o n c (s.num x) w w'):=rnum_x b o n x c s w hB hV hn ht hm hx;have HE:Hid (s.takeSum x=if s.taken+1≠4 then (s.num x,0) else if s.number*256+x≠crcEnd s.sum then (s.num x,6) else if (s.num x).accept.2≠0 then (s.num x).accept else if (s.num x).accept.1.ctype=iend then ((s.num x).accept.1.enter 5,0) else ((s.num x).accept.1.enter 1,0)):=rfl;obtain ⟨N,hN⟩:∃ N,N=s.number*256+x:=⟨_,rfl⟩;have HN:Hid ((s.num x).number=N):=hN.symm;have HSm:Hid ((s.num x).sum=s.sum):=rfl;have HA:Hid (∀ (W:World) (d:Nat->Value),Blk W b n d->RdV d o (s.num x)->Calls Tryz.prog 87 #[.pointer (some ⟨b,o,none⟩)] W fun e w'=>e = .returned (.int .i64 ((s.num x).accept.2:Int))/\RdStep b o n d (s.num x).accept.1 W w'):=fun W d h1 h2=>accept_x b o n d (s.num x) W h1 h2 hn hr hD hK hc
 rw[<- hN] at HE;have FE:Hid (∀ W,Calls Tryz.prog 86 #[.int .u32 (s.sum:Int)] W fun e w'=>e = .returned (.int .u32 (crcEnd s.sum:Nat))/\w'=W):=fun W=>crcEnd_any _ W hs
 obtain ⟨q,hq⟩:∃ q,q=s.num x:=⟨_,rfl⟩;rw[<- hq] at FN HE HN HA HSm;obtain ⟨EN,hEN⟩:∃ EN,EN=crcEnd s.sum:=⟨_,rfl⟩;rw[<- hEN] at FE HE;clear hB hV hN hq hr hc hEN;by_cases h4:s.taken+1=4
 ·rw[decide_eq_true h4] at FN
  have HE2:Hid (s.takeSum x=if N≠EN then (q,6) else if q.accept.2≠0 then q.accept else if q.accept.1.ctype=iend then (q.accept.1.enter 5,0) else (q.accept.1.enter 1,0)):=by show s.takeSum x=_;rw[HE.out,if_neg (fun k=>k h4)]
  clear HE h4;go_enter Tryz.func59,Tryz.ntmps59;go_wp2_with fail;refine FN.out.mono ?_;rintro e w1 ⟨rfl,d,hB1,hV1,hC1,hF1⟩;have k2:=hB1.at (i:=o+2) (by omega) hV1.number;have k5:=hB1.at (i:=o+5) (by omega) hV1.sum;rw[HN.out] at k2;rw[HSm.out] at k5;have B1:Hid (Blk w1 b n d):=hB1;have V1:Hid (RdV d o q):=hV1;have C1:Hid (FrC b o (o+5954) c d):=hC1;have F1:Hid (Fr1 b w w1):=hF1;clear hB1 hV1 hC1 hF1 FN;by_cases h:N=EN
  ·have h':((N:Int) != (EN:Int))=false:=by rw[bne_eq_false_iff_eq];omega
   have HE3:Hid (s.takeSum x=if q.accept.2≠0 then q.accept else if q.accept.1.ctype=iend then (q.accept.1.enter 5,0) else (q.accept.1.enter 1,0)):=by show s.takeSum x=_;rw[HE2.out,if_neg (fun k=>k h)]
   replace h:Hid _:=h;clear HE2;go_wp2_with fail;go_quiet ((go_at_call 86;exact Calls.quiet_of_same (FE.out _)))
   go_wp2_with fail;refine (HA.out _ d (B1.out.kept ((Kept.refl _).drewN _)) V1.out).mono ?_;rintro e w2 ⟨rfl,d2,hB2,hV2,hC2,hF2⟩;have B2:Hid (Blk w2 b n d2):=hB2;have V2:Hid (RdV d2 o q.accept.1):=hV2;have C2:Hid (FrC b o (o+5954) c d2):=C1.out.trans hC2;have F2:Hid (Fr1 b w w2):=(F1.out.kept ((Kept.refl _).drewN _)).trans hF2;have k4:=hB2.at (i:=o+4) (by omega) hV2.ctype;clear hB2 hV2 hC2 hF2 HA B1 V1 C1 F1;obtain ⟨E,hE⟩:∃ E,E=q.accept.2:=⟨_,rfl⟩;obtain ⟨p,hp⟩:∃ p,p=q.accept.1:=⟨_,rfl⟩;have hqp:q.accept=(p,E):=by rw[hE,hp]
   rw[hqp] at HE3;rw[<- hp] at V2 k4;rw[<- hE];clear hE hp hqp;by_cases hz:E=0
   ·have hz':((E:Int) != 0)=false:=by rw[bne_eq_false_iff_eq];omega
    have HE4:Hid (s.takeSum x=if p.ctype=iend then (p.enter 5,0) else (p.enter 1,0)):=by show s.takeSum x=_;rw[HE3.out,if_neg (fun k=>k hz)]
    replace hz:Hid _:=hz;clear HE3;by_cases hi:p.ctype=iend
    ·have HE5:Hid (s.takeSum x=(p.enter 5,0)):=by show s.takeSum x=_;rw[HE4.out,if_pos hi]
     have hi':((p.ctype:Int) == 1229278788)=true:=by rw[beq_iff_eq,hi];rfl
     replace hi:Hid _:=hi;go_wp2_with fail;refine (renter_x b o n 5 d2 p w2 B2.out V2.out hn).mono ?_;rintro e w3 ⟨rfl,h3⟩;go_wp2_with fail;go_ret;rw[HE5.out];exact ⟨rfl,RdStep.next C2.out F2.out h3⟩
    ·have HE5:Hid (s.takeSum x=(p.enter 1,0)):=by show s.takeSum x=_;rw[HE4.out,if_neg hi]
     have hi':=cty p iend hi;clear hi;unfold iend at hi';go_wp2_with fail;refine (renter_x b o n 1 d2 p w2 B2.out V2.out hn).mono ?_;rintro e w3 ⟨rfl,h3⟩;go_wp2_with fail;go_ret;rw[HE5.out];exact ⟨rfl,RdStep.next C2.out F2.out h3⟩
   ·have hz':((E:Int) != 0)=true:=by rw[bne_iff_ne];omega
    have HE4:Hid (s.takeSum x=(p,E)):=by show s.takeSum x=_;rw[HE3.out,if_pos hz]
    go_wp2_with fail;go_ret;rw[HE4.out];exact ⟨rfl,d2,B2.out,V2.out,C2.out,F2.out⟩
  ·have h':((N:Int) != (EN:Int))=true:=by rw[bne_iff_ne];omega
   have HE3:Hid (s.takeSum x=(q,6)):=by show s.takeSum x=_;rw[HE2.out,if_pos h]
   clear h HE2;go_wp2_with fail;go_quiet ((go_at_call 86;exact Calls.quiet_of_same (FE.out _)))
   go_wp2_with fail;go_ret;rw[HE3.out];exact ⟨rfl,d,B1.out.kept ((Kept.refl _).drewN _),V1.out,C1.out,F1.out.kept ((Kept.refl _).drewN _)⟩
 ·rw[decide_eq_false h4] at FN
  have HE2:Hid (s.takeSum x=(q,0)):=by show s.takeSum x=_;rw[HE.out,if_pos h4]
  clear HE h4;go_enter Tryz.func59,Tryz.ntmps59;go_wp2_with fail;refine FN.out.mono ?_;rintro e w1 ⟨rfl,h1⟩;go_wp2_with fail;go_ret;rw[HE2.out];exact ⟨rfl,h1⟩
def Rd.take (s:Rd) (x:Nat):Rd × Nat:=
 if s.part=0 then s.takeSign x
 else if s.part=1 then s.takeLength x
 else if s.part=2 then s.takeType x
 else if s.part=3 then s.takeData x
 else if s.part=4 then s.takeSum x
 else (s,22)
structure TakeOk (s:Rd) (x:Nat):Prop where
 part:s.part<=5
 taken:s.part≠3->s.taken<1000
 number:s.part=1\/s.part=2\/s.part=4->s.number<16777216
 sum:s.sum<4294967296
 typ:s.part=2->RdOkC (s.typed x)
 hd:RdHd s
 keep:s.part=3->KeepOk (s.summed x) x
 tk:s.part=3->((s.summed x).keep x).1.taken<2147483648
 raw:∀ i,s.raw i<256
 clear:∀ j,s.tl.clear j<256
theorem rdtake_x (b o n x:Nat) (c:Nat->Value) (s:Rd) (w:World) (hB:Blk w b n c) (hV:RdV c o s) (hn:o+5954<=n) (hx:x<256) (hk:TakeOk s x) (hG:GrdAt w) (hb:b≠0) :
  Calls Tryz.prog 27 #[.pointer (some ⟨b,o,none⟩),.int .u8 (x:Int)] w fun e w'=>e = .returned (.int .i64 ((s.take x).2:Int))/\RdStep b o n c (s.take x).1 w w':=by
 have k0:=hB.at (i:=o) (by omega) hV.part;have HB:Hid (Blk w b n c):=hB;have HV:Hid (RdV c o s):=hV;have hp:=hk.part;have hcs:s.part=0\/s.part=1\/s.part=2\/s.part=3\/s.part=4\/s.part=5:=by omega
 rcases hcs with h | h | h | h | h | h
 ·have HE:Hid (s.take x=s.takeSign x):=by show s.take x=_;unfold Rd.take;rw[if_pos h]
  have F:Hid (Calls Tryz.prog 55 #[.pointer (some ⟨b,o,none⟩),.int .u8 (x:Int)] w fun e w'=>e = .returned (.int .i64 ((s.takeSign x).2:Int))/\RdStep b o n c (s.takeSign x).1 w w'):=takeSign_x b o n x c s w hB hV hn (hk.taken (by omega)) hx;rw[h] at k0;clear h hp hk hB hV hG;go_enter Tryz.func27,Tryz.ntmps27;go_wp2_with fail;refine F.out.mono ?_;rintro e w1 ⟨rfl,h1⟩;go_wp2_with fail;go_ret;rw[HE.out];exact ⟨rfl,h1⟩
 ·have HE:Hid (s.take x=s.takeLength x):=by show s.take x=_;unfold Rd.take;rw[if_neg (by omega),if_pos h]
  have F:Hid (Calls Tryz.prog 56 #[.pointer (some ⟨b,o,none⟩),.int .u8 (x:Int)] w fun e w'=>e = .returned (.int .i64 ((s.takeLength x).2:Int))/\RdStep b o n c (s.takeLength x).1 w w'):=takeLength_x b o n x c s w hB hV hn (hk.taken (by omega)) (hk.number (by omega)) hx;rw[h] at k0;clear h hp hk hB hV hG;go_enter Tryz.func27,Tryz.ntmps27;go_wp2_with fail;refine F.out.mono ?_;rintro e w1 ⟨rfl,h1⟩;go_wp2_with fail;go_ret;rw[HE.out];exact ⟨rfl,h1⟩
 ·have HE:Hid (s.take x=s.takeType x):=by show s.take x=_;unfold Rd.take;rw[if_neg (by omega),if_neg (by omega),if_pos h]
  have F:Hid (Calls Tryz.prog 57 #[.pointer (some ⟨b,o,none⟩),.int .u8 (x:Int)] w fun e w'=>e = .returned (.int .i64 ((s.takeType x).2:Int))/\RdStep b o n c (s.takeType x).1 w w'):=takeType_x b o n x c s w hB hV hn (hk.taken (by omega)) (hk.number (by omega)) hx hk.sum (hk.typ h) hk.hd hG hb;rw[h] at k0;clear h hp hk hB hV hG;go_enter Tryz.func27,Tryz.ntmps27;go_wp2_with fail;refine F.out.mono ?_;rintro e w1 ⟨rfl,h1⟩;go_wp2_with fail;go_ret;rw[HE.out];exact ⟨rfl,h1⟩
 ·have HE:Hid (s.take x=s.takeData x):=by show s.take x=_;unfold Rd.take;rw[if_neg (by omega),if_neg (by omega),if_neg (by omega),if_pos h]
  have F:Hid (Calls Tryz.prog 58 #[.pointer (some ⟨b,o,none⟩),.int .u8 (x:Int)] w fun e w'=>e = .returned (.int .i64 ((s.takeData x).2:Int))/\RdStep b o n c (s.takeData x).1 w w'):=takeData_x b o n x c s w hB hV hn hx hk.sum (hk.keep h) (hk.tk h) hG hb;rw[h] at k0;clear h hp hk hB hV hG;go_enter Tryz.func27,Tryz.ntmps27;go_wp2_with fail;refine F.out.mono ?_;rintro e w1 ⟨rfl,h1⟩;go_wp2_with fail;go_ret;rw[HE.out];exact ⟨rfl,h1⟩
 ·have HE:Hid (s.take x=s.takeSum x):=by show s.take x=_;unfold Rd.take;rw[if_neg (by omega),if_neg (by omega),if_neg (by omega),if_neg (by omega),if_pos h]
  have F:Hid (Calls Tryz.prog 59 #[.pointer (some ⟨b,o,none⟩),.int .u8 (x:Int)] w fun e w'=>e = .returned (.int .i64 ((s.takeSum x).2:Int))/\RdStep b o n c (s.takeSum x).1 w w'):=takeSum_x b o n x c s w hB hV hn (hk.taken (by omega)) (hk.number (by omega)) hx hk.sum hk.raw hk.hd.D hk.hd.K hk.clear;rw[h] at k0;clear h hp hk hB hV hG;go_enter Tryz.func27,Tryz.ntmps27;go_wp2_with fail;refine F.out.mono ?_;rintro e w1 ⟨rfl,h1⟩;go_wp2_with fail;go_ret;rw[HE.out];exact ⟨rfl,h1⟩
 ·have HE:Hid (s.take x=(s,22)):=by show s.take x=_;unfold Rd.take;rw[if_neg (by omega),if_neg (by omega),if_neg (by omega),if_neg (by omega),if_neg (by omega)]
  rw[h] at k0;clear h hp hk hB hV hG;go_enter Tryz.func27,Tryz.ntmps27;go_wp2_with fail;go_ret;rw[HE.out];exact ⟨rfl,RdStep.refl HB.out HV.out⟩
