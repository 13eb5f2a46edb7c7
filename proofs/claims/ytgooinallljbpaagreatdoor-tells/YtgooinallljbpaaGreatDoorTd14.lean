import Derived.Test.YtgooinallljbpaaGreatDoorTd13
import Derived.Test.YtgooinallljbpaaGreatDoorTd02
import Derived.Test.YtgooinallljbpaaGreatDoorTd00
set_option maxRecDepth 100000
set_option maxHeartbeats 6400000
namespace Go.Proofs.YtgooinallljbpaaGreatDoor
open Go.RowKit Px
set_option linter.unusedSimpArgs false
set_option linter.unusedVariables false
def Tl.smp (t:Tl) (i:Nat):Nat:=t.clear (2*i)*256+t.clear (2*i+1)
theorem Ki (a c:Nat) (ha:a<256) (hc:c<256):bits BinOp.or IntKind.i64 ((a:Int)*256) (c:Int)=((a*256+c:Nat):Int):=by
 show IntKind.i64.wrap ((BitVec.ofInt 64 ((a:Int)*256) ||| BitVec.ofInt 64 (c:Int)).toNat:Int)=_
 rw[show (a:Int)*256=((a*256:Nat):Int) from by omega,BitVec.toNat_or,pS _ (by omega),pS _ (by omega),nat_join 8 (a*256) c (by omega) (by omega),IntKind.wrap_i64];omega
theorem wP (b o n i:Nat) (c:Nat->Value) (t:Tl) (w:World) (hB:Blk w b n c) (hV:TlV c o t) (hn:o+1026<=n) (hi:i<4) (hc:∀ j,t.clear j<256) :
  Calls Tryz.prog 129 #[.pointer (some ⟨b,o,none⟩),.int .i64 (i:Int)] w fun e w'=>e = .returned (.int .i64 (t.smp i:Int))/\∃ q,w'=w.drewN q:=by
 have r0:=hB.at (i:=o+768+2*i) (by omega) (hV.clear (2*i) (by omega));have r1:=hB.at (i:=o+768+(2*i+1)) (by omega) (hV.clear (2*i+1) (by omega));have k0:=hc (2*i);have k1:=hc (2*i+1);have e5:Hid (_=_):=Ki _ _ k0 k1;have HS:Hid (t.smp i=t.clear (2*i)*256+t.clear (2*i+1)):=rfl;obtain ⟨A,hA⟩:∃ A,A=2*i:=⟨_,rfl⟩;have eA:2*(i:Int)=(A:Int):=by omega
 rw[<- hA] at r0 r1 k0 k1 e5 HS;obtain ⟨C,hC⟩:∃ C,C=A+1:=⟨_,rfl⟩;have eC:(A:Int)+1=(C:Int):=by omega
 rw[<- hC] at r1 k1 e5 HS;have a0:(0:Int)<=(A:Int):=by omega
 have a1:(A:Int)<256:=by omega
 have c0:(0:Int)<=(C:Int):=by omega
 have c1:(C:Int)<256:=by omega
 have i0:¬ (i:Int)<0:=by omega
 have i1:¬ (128:Int)<=(i:Int):=by omega
 clear hB hV hc hA hC;generalize t.clear A=X at *;generalize t.clear C=Y at *;go_enter Tryz.func129,Tryz.ntmps129;go_wp2;go_quiet (fail);go_wp2;go_ret;exact ⟨ah (by rw[HS.out];exact e5.out),_,rfl⟩
def Rd.clearBad (s:Rd) (i:Nat):Bool:=decide (2^s.hd.D<=s.tl.smp i)
def Rd.acceptClear (s:Rd):Nat:=if s.hd.K=3 then 0 else if (List.range (chn s.hd.K)).any s.clearBad then 9 else 0
theorem KW (s:Rd) (k:Nat) (h:k<chn s.hd.K) (hb:s.clearBad k=true):(List.range (chn s.hd.K)).any s.clearBad=true:=by
 rw[List.any_eq_true];exact ⟨k,List.mem_range.2 h,hb⟩
theorem Ja (s:Rd) (k:Nat) (h:chn s.hd.K<=k) (hb:∀ j,j<k->s.clearBad j=false):(List.range (chn s.hd.K)).any s.clearBad=false:=by
 rw[List.any_eq_false];intro j hj;have:=List.mem_range.1 hj;rw[hb j (by omega)];decide
theorem wS (b o n:Nat) (c:Nat->Value) (s:Rd) (w:World) (hB:Blk w b n c) (hV:RdV c o s) (hn:o+5954<=n) (hD:s.hd.D<=16) (hK:s.hd.K<=6) (hc:∀ j,s.tl.clear j<256) :
  Calls Tryz.prog 97 #[.pointer (some ⟨b,o,none⟩)] w fun e w'=>e = .returned (.int .i64 (s.acceptClear:Int))/\Kept w w':=by
 have kk:=hB.at (i:=o+6+3) (by omega) hV.hd.K;by_cases h3:s.hd.K=3
 ·have HE:Hid (s.acceptClear=0):=by show s.acceptClear=0;unfold Rd.acceptClear;rw[if_pos h3]
  rw[h3] at kk;clear hB hV hc h3 hK;go_enter Tryz.func97,Tryz.ntmps97;go_wp2;go_ret;exact ⟨ah (by rw[HE.out];rfl),Kept.refl _⟩
 ·have HE:Hid (s.acceptClear=if (List.range (chn s.hd.K)).any s.clearBad then 9 else 0):=by show s.acceptClear=_;unfold Rd.acceptClear;rw[if_neg h3]
  have g3:((s.hd.K:Int) == 3)=false:=by rw[beq_eq_false_iff_ne];omega
  have HB:Hid (Blk w b n c):=hB;have HV:Hid (RdV c o s):=hV;have HC:Hid (∀ j,s.tl.clear j<256):=hc;have Fd:Hid (∀ W':World,Calls Tryz.prog 121 #[.int .i64 (s.hd.K:Int)] W' fun e w'=>e = .returned (.int .i64 (chn s.hd.K:Int))/\w'=W'):=fun W'=>rP _ W' (by omega)
  have hch:=ob s.hd.K;obtain ⟨C,hC⟩:∃ C,C=chn s.hd.K:=⟨_,rfl⟩;rw[<- hC] at Fd hch;replace hC:Hid _:=hC;clear hB hV hc h3;go_enter Tryz.func97,Tryz.ntmps97;go_wp2_with fail;refine (Fd.out _).mono ?_;rintro e w1 ⟨rfl,hw1⟩;subst w1;go_wp2_with fail;go_loopg [4] C (fun m v W=>∃ k:Nat,m=C - k/\k<=C/\v = .int .i64 (k:Int)/\Kept w W/\(∀ j,j<k->s.clearBad j=false))
  case atStart=>exact ⟨0,by omega,by omega,rfl,Kept.refl _,fun j hj=>by omega⟩
  case round=>
   obtain ⟨k,hgk,hkC,rfl,hkw,hgood⟩:=hrel;have HKW:Hid (Kept w wr):=hkw;replace hgk:Hid _:=hgk;replace hgood:Hid _:=hgood;clear hkw;by_cases hlt:k<C
   ·have hlt':(k:Int)<(C:Int):=by omega
    obtain ⟨M,hM⟩:∃ M,M=2^s.hd.D:=⟨_,rfl⟩;obtain ⟨V,hVv⟩:∃ V,V=s.tl.smp k:=⟨_,rfl⟩;have hV6:V<65536:=by rw[hVv];unfold Tl.smp;have:=HC.out (2*k);have:=HC.out (2*k+1);omega
    have HBd:Hid (s.clearBad k=decide (M<=V)):=by show s.clearBad k=_;unfold Rd.clearBad;rw[hM,hVv]
    have BB:Hid (Blk wr b n c):=HB.out.kept HKW.out;have F1:Hid (∀ W,Kept wr W->Calls Tryz.prog 120 #[.agg #[.int .i64 (s.hd.W:Int),.int .i64 (s.hd.H:Int),.int .i64 (s.hd.D:Int),.int .i64 (s.hd.K:Int),.int .i64 (s.hd.L:Int)]] W fun e w'=>e = .returned (.int .u32 (M:Int))/\Kept W w'):=fun W _=>(uX _ _ _ _ _ W hD).mono (fun e w' ⟨q1,q2⟩=>⟨by rw[q1,hM],by rw[q2];exact Below.alloc (Below.refl _ _) (Nat.le_refl _) _⟩)
    have F2:Hid (∀ W,Kept wr W->Calls Tryz.prog 129 #[.pointer (some ⟨b,o+24,none⟩),.int .i64 (k:Int)] W fun e w'=>e = .returned (.int .i64 (V:Int))/\Kept W w'):=fun W kW=>(wP b (o+24) n k c s.tl W (BB.out.kept kW) HV.out.tl (by omega) (by omega) HC.out).mono (fun e w' ⟨q1,q,q2⟩=>⟨by rw[q1,hVv],by rw[q2];exact (Kept.refl _).drewN _⟩)
    have eV:IntKind.u32.wrap (V:Int)=(V:Int):=by rw[IntKind.wrap_u32];omega
    have hbr:=BB.out.lt;have HCell:Hid (∀ W,Kept wr W->(W.cell? ⟨b,o+6,none⟩=some (.int .i64 (s.hd.W:Int))/\W.cell? ⟨b,o+6+1,none⟩=some (.int .i64 (s.hd.H:Int))/\W.cell? ⟨b,o+6+2,none⟩=some (.int .i64 (s.hd.D:Int))/\W.cell? ⟨b,o+6+3,none⟩=some (.int .i64 (s.hd.K:Int))/\W.cell? ⟨b,o+6+4,none⟩=some (.int .i64 (s.hd.L:Int)))):=fun W kW=>
     have B:=BB.out.kept kW
     ⟨B.at (by omega) HV.out.hd.W,B.at (by omega) HV.out.hd.H,B.at (by omega) HV.out.hd.D,B.at (by omega) HV.out.hd.K,B.at (by omega) HV.out.hd.L⟩
    clear hM hVv kk;by_cases hb:M<=V
    ·have hb':decide ((M:Int)<=(V:Int))=true:=decide_eq_true (by omega)
     have HG:Hid (s.clearBad k=true):=by show s.clearBad k=true;rw[HBd.out];exact decide_eq_true hb
     have hbN:decide (M<=V)=true:=decide_eq_true hb;clear hb HBd;go_wp2_with fail;go_region_held3 (fun W=>Kept wr W/\W.cell? ⟨b,o+6,none⟩=some (.int .i64 (s.hd.W:Int))/\W.cell? ⟨b,o+6+1,none⟩=some (.int .i64 (s.hd.H:Int))/\W.cell? ⟨b,o+6+2,none⟩=some (.int .i64 (s.hd.D:Int))/\W.cell? ⟨b,o+6+3,none⟩=some (.int .i64 (s.hd.K:Int))/\W.cell? ⟨b,o+6+4,none⟩=some (.int .i64 (s.hd.L:Int))) (first | exact ⟨hk2,HCell.out _ hk2⟩ | exact ⟨(Kept.refl _).drewN 1,HCell.out _ ((Kept.refl _).drewN 1)⟩ | go_keep) ((first | (go_at_call 120;refine (F1.out _ (by first | exact hk2 | exact (Kept.refl _).drewN 1)).mono ?_;rintro e w2 ⟨rfl,hk2'⟩;have hk2:Kept wr w2:=(by first | exact hk2.trans hk2' | exact ((Kept.refl _).drewN 1).trans hk2')) | (go_at_call 129;refine (F2.out _ (by first | exact hk2 | exact (Kept.refl _).drewN 1)).mono ?_;rintro e w2 ⟨rfl,hk2'⟩;have hk2:Kept wr w2:=(by first | exact hk2.trans hk2' | exact ((Kept.refl _).drewN 1).trans hk2'))))
     have HE2:Hid (s.acceptClear=9):=by show s.acceptClear=9;rw[HE.out,if_pos (KW s k (by rw[<- hC.out];exact hlt) HG.out)]
     go_wp2;go_ret;exact ⟨ah (by rw[HE2.out];rfl),HKW.out.trans hk2⟩
    ·have hb':decide ((M:Int)<=(V:Int))=false:=decide_eq_false (by omega)
     have HG:Hid (s.clearBad k=false):=by show s.clearBad k=false;rw[HBd.out];exact decide_eq_false hb
     have hbN:decide (M<=V)=false:=decide_eq_false hb;clear hb HBd;go_wp2_with fail;go_region_held3 (fun W=>Kept wr W/\W.cell? ⟨b,o+6,none⟩=some (.int .i64 (s.hd.W:Int))/\W.cell? ⟨b,o+6+1,none⟩=some (.int .i64 (s.hd.H:Int))/\W.cell? ⟨b,o+6+2,none⟩=some (.int .i64 (s.hd.D:Int))/\W.cell? ⟨b,o+6+3,none⟩=some (.int .i64 (s.hd.K:Int))/\W.cell? ⟨b,o+6+4,none⟩=some (.int .i64 (s.hd.L:Int))) (first | exact ⟨hk2,HCell.out _ hk2⟩ | exact ⟨(Kept.refl _).drewN 1,HCell.out _ ((Kept.refl _).drewN 1)⟩ | go_keep) ((first | (go_at_call 120;refine (F1.out _ (by first | exact hk2 | exact (Kept.refl _).drewN 1)).mono ?_;rintro e w2 ⟨rfl,hk2'⟩;have hk2:Kept wr w2:=(by first | exact hk2.trans hk2' | exact ((Kept.refl _).drewN 1).trans hk2')) | (go_at_call 129;refine (F2.out _ (by first | exact hk2 | exact (Kept.refl _).drewN 1)).mono ?_;rintro e w2 ⟨rfl,hk2'⟩;have hk2:Kept wr w2:=(by first | exact hk2.trans hk2' | exact ((Kept.refl _).drewN 1).trans hk2'))))
     go_wp2_with fail;go_roundg (C - (k+1))
     case measure=>rw[hgk.out];omega
     case rel=>
      exact ⟨k+1,rfl,by omega,by go_num,HKW.out.trans hk2,fun j hj=>by
       by_cases e:j=k
       ·rw[e];exact HG.out
       ·exact hgood.out j (by omega)⟩
   ·have hlt':¬ (k:Int)<(C:Int):=by omega
    have HE2:Hid (s.acceptClear=0):=by show s.acceptClear=0;rw[HE.out,if_neg (by rw[Ja s k (by rw[<- hC.out];omega) hgood.out];decide)]
    go_wp2;go_ret;exact ⟨ah (by rw[HE2.out];rfl),HKW.out⟩
def Rd.acceptHead (s:Rd):Rd × Nat:=if (aB s.raw).1≠0 then (s,(aB s.raw).1) else ({ s with hd:=(aB s.raw).2 },0)
theorem HdV.set5 {c:Nat->Value} {o:Nat} {h:Hd} (k:HdV c o h) (g:Hd):HdV (upd (upd (upd (upd (upd c o (.int .i64 (g.W:Int))) (o+1) (.int .i64 (g.H:Int))) (o+2) (.int .i64 (g.D:Int))) (o+3) (.int .i64 (g.K:Int))) (o+4) (.int .i64 (g.L:Int))) o g:=
 ((((k.set_W g.W).set_H g.H).set_D g.D).set_K g.K).set_L g.L
theorem yO (b o n:Nat) (c:Nat->Value) (s:Rd) (w:World) (hB:Blk w b n c) (hV:RdV c o s) (hn:o+5954<=n) (hr:∀ i,s.raw i<256) :
  Calls Tryz.prog 96 #[.pointer (some ⟨b,o,none⟩)] w fun e w'=>e = .returned (.int .i64 (s.acceptHead.2:Int))/\aC b o n c s.acceptHead.1 w w':=by
 have r0:=hB.at (i:=o+11) (by omega) (hV.raw 0 (by omega));have r1:=hB.at (i:=o+11+1) (by omega) (hV.raw 1 (by omega));have r2:=hB.at (i:=o+11+2) (by omega) (hV.raw 2 (by omega));have r3:=hB.at (i:=o+11+3) (by omega) (hV.raw 3 (by omega));have r4:=hB.at (i:=o+11+4) (by omega) (hV.raw 4 (by omega));have r5:=hB.at (i:=o+11+5) (by omega) (hV.raw 5 (by omega));have r6:=hB.at (i:=o+11+6) (by omega) (hV.raw 6 (by omega));have r7:=hB.at (i:=o+11+7) (by omega) (hV.raw 7 (by omega));have r8:=hB.at (i:=o+11+8) (by omega) (hV.raw 8 (by omega));have r9:=hB.at (i:=o+11+9) (by omega) (hV.raw 9 (by omega));have r10:=hB.at (i:=o+11+10) (by omega) (hV.raw 10 (by omega));have r11:=hB.at (i:=o+11+11) (by omega) (hV.raw 11 (by omega));have r12:=hB.at (i:=o+11+12) (by omega) (hV.raw 12 (by omega));have HB:Hid (Blk w b n c):=hB;have HV:Hid (RdV c o s):=hV;have hbw:=hB.lt;have HE:Hid (s.acceptHead=if (aB s.raw).1≠0 then (s,(aB s.raw).1) else ({ s with hd:=(aB s.raw).2 },0)):=rfl;have F:Hid (Calls Tryz.prog 128 #[.agg #[.int .u8 (s.raw 0:Int),.int .u8 (s.raw 1:Int),.int .u8 (s.raw 2:Int),.int .u8 (s.raw 3:Int),.int .u8 (s.raw 4:Int),.int .u8 (s.raw 5:Int),.int .u8 (s.raw 6:Int),.int .u8 (s.raw 7:Int),.int .u8 (s.raw 8:Int),.int .u8 (s.raw 9:Int),.int .u8 (s.raw 10:Int),.int .u8 (s.raw 11:Int),.int .u8 (s.raw 12:Int)]] w fun e w'=>e = .returned (.tuple #[hdV (aB s.raw).2,.int .i64 ((aB s.raw).1:Int)])/\Kept w w'):=yk s.raw w hr;clear hB hV hr;obtain ⟨E,hE⟩:∃ E,E=(aB s.raw).1:=⟨_,rfl⟩;obtain ⟨G,hG⟩:∃ G,G=(aB s.raw).2:=⟨_,rfl⟩;rw[<- hE,<- hG] at F HE;clear hE hG;unfold hdV at F;by_cases hz:E=0
 ·have hz':((E:Int) != 0)=false:=by rw[bne_eq_false_iff_eq];omega
  have HE2:Hid (s.acceptHead=({ s with hd:=G },0)):=by show s.acceptHead=_;rw[HE.out,if_neg (fun k=>k hz)]
  replace hz:Hid _:=hz;go_enter Tryz.func96,Tryz.ntmps96;go_wp2_with fail;refine F.out.mono ?_;rintro e w1 ⟨rfl,hk⟩;have B1:Hid (Blk w1 b n c):=HB.out.kept hk;have F1:Hid (Fr1 b w w1):=Fr.of_kept hk;have d0:=B1.out.at (i:=o+6) (by omega) HV.out.hd.W;have d1:=B1.out.at (i:=o+6+1) (by omega) HV.out.hd.H;have d2:=B1.out.at (i:=o+6+2) (by omega) HV.out.hd.D;have d3:=B1.out.at (i:=o+6+3) (by omega) HV.out.hd.K;have d4:=B1.out.at (i:=o+6+4) (by omega) HV.out.hd.L;have z:=B1.out.fz;have hb1:=B1.out.lt;clear r0 r1 r2 r3 r4 r5 r6 r7 r8 r9 r10 r11 r12 hk F HB;go_wp2;go_ret;rw[HE2.out];have hB2:=((((B1.out.set (k:=o+6) (by omega) (.int .i64 (G.W:Int))).set (k:=o+6+1) (by omega) (.int .i64 (G.H:Int))).set (k:=o+6+2) (by omega) (.int .i64 (G.D:Int))).set (k:=o+6+3) (by omega) (.int .i64 (G.K:Int))).set (k:=o+6+4) (by omega) (.int .i64 (G.L:Int));refine ⟨rfl,_,hB2.kept (Below.alloc (Below.refl _ _) (Nat.le_refl _) _),HV.out.set_hd G (HV.out.hd.set5 G) (fun i hi => ?_),⟨fun i hi => ?_⟩,Fr.alloc (Fr1.set (Fr1.set (Fr1.set (Fr1.set (Fr1.set F1.out _ _) _ _) _ _) _ _) _ _) _⟩
  ·rw[upd_ne _ _ _ (by omega),upd_ne _ _ _ (by omega),upd_ne _ _ _ (by omega),upd_ne _ _ _ (by omega),upd_ne _ _ _ (by omega)]
  ·rw[upd_ne _ _ _ (by omega),upd_ne _ _ _ (by omega),upd_ne _ _ _ (by omega),upd_ne _ _ _ (by omega),upd_ne _ _ _ (by omega)]
 ·have hz':((E:Int) != 0)=true:=by rw[bne_iff_ne];omega
  have HE2:Hid (s.acceptHead=(s,E)):=by show s.acceptHead=_;rw[HE.out,if_pos hz]
  go_enter Tryz.func96,Tryz.ntmps96;go_wp2_with fail;refine F.out.mono ?_;rintro e w1 ⟨rfl,hk⟩;clear r0 r1 r2 r3 r4 r5 r6 r7 r8 r9 r10 r11 r12;go_wp2;go_ret;rw[HE2.out];exact ⟨rfl,aC.of_kept HB.out HV.out (Below.alloc hk hk.size _)⟩
def Rd.accept (s:Rd):Rd × Nat:=if s.ctype=aY then s.acceptHead else if s.ctype=bZ then (s,s.acceptClear) else (s,0)
theorem Je (b o n:Nat) (c:Nat->Value) (s:Rd) (w:World) (hB:Blk w b n c) (hV:RdV c o s) (hn:o+5954<=n) (hr:∀ i,s.raw i<256) (hD:s.hd.D<=16) (hK:s.hd.K<=6) (hc:∀ j,s.tl.clear j<256) :
  Calls Tryz.prog 55 #[.pointer (some ⟨b,o,none⟩)] w fun e w'=>e = .returned (.int .i64 (s.accept.2:Int))/\aC b o n c s.accept.1 w w':=by
 have k4:=hB.at (i:=o+4) (by omega) hV.ctype;have HB:Hid (Blk w b n c):=hB;have HV:Hid (RdV c o s):=hV;have HE:Hid (s.accept=if s.ctype=aY then s.acceptHead else if s.ctype=bZ then (s,s.acceptClear) else (s,0)):=rfl;by_cases c1:s.ctype=aY
 ·have HE1:Hid (s.accept=s.acceptHead):=by show s.accept=_;rw[HE.out,if_pos c1]
  have F:Hid (Calls Tryz.prog 96 #[.pointer (some ⟨b,o,none⟩)] w fun e w'=>e = .returned (.int .i64 (s.acceptHead.2:Int))/\aC b o n c s.acceptHead.1 w w'):=yO b o n c s w hB hV hn hr;rw[c1] at k4;clear hB hV hr hc c1 HE;unfold aY at k4;go_enter Tryz.func55,Tryz.ntmps55;go_wp2_with fail;refine F.out.mono ?_;rintro e w1 ⟨rfl,h1⟩;go_wp2_with fail;go_ret;rw[HE1.out];exact ⟨rfl,h1⟩
 ·by_cases c3:s.ctype=bZ
  ·have HE1:Hid (s.accept=(s,s.acceptClear)):=by show s.accept=_;rw[HE.out,if_neg c1,if_pos c3]
   have F:Hid (Calls Tryz.prog 97 #[.pointer (some ⟨b,o,none⟩)] w fun e w'=>e = .returned (.int .i64 (s.acceptClear:Int))/\Kept w w'):=wS b o n c s w hB hV hn hD hK hc;rw[c3] at k4;clear hB hV hr hc c1 c3 HE;unfold bZ at k4;go_enter Tryz.func55,Tryz.ntmps55;go_wp2_with fail;refine F.out.mono ?_;rintro e w1 ⟨rfl,h1⟩;go_wp2_with fail;go_ret;rw[HE1.out];exact ⟨rfl,aC.of_kept HB.out HV.out h1⟩
  ·have HE1:Hid (s.accept=(s,0)):=by show s.accept=_;rw[HE.out,if_neg c1,if_neg c3]
   have g1:=cty s aY c1;have g3:=cty s bZ c3;clear hB hV hr hc c1 c3 HE;unfold aY at g1;unfold bZ at g3;go_enter Tryz.func55,Tryz.ntmps55;go_wp2_with fail;go_ret;rw[HE1.out];exact ⟨rfl,aC.refl HB.out HV.out⟩
def Rd.summed (s:Rd) (x:Nat):Rd:={ s with sum:=cB s.sum x }
def Rd.dataEnd (s:Rd):Rd:=if s.taken+1=s.length then ({ s with taken:=s.taken+1 }:Rd).enter 4 else { s with taken:=s.taken+1 }
def Rd.takeData (s:Rd) (x:Nat):Rd × Nat:=if ((s.summed x).keep x).2≠0 then (s.summed x).keep x else (((s.summed x).keep x).1.dataEnd,0)
theorem Bq (b o n x:Nat) (c:Nat->Value) (s:Rd) (w:World) (hB:Blk w b n c) (hV:RdV c o s) (hn:o+5954<=n) (hx:x<256) (hs:s.sum<4294967296) (hk:yQ (s.summed x) x) (ht:((s.summed x).keep x).1.taken<2147483648) (hG:bg w) (hb:NT b) :
  Calls Tryz.prog 38 #[.pointer (some ⟨b,o,none⟩),.int .u8 (x:Int)] w fun e w'=>e = .returned (.int .i64 ((s.takeData x).2:Int))/\aC b o n c (s.takeData x).1 w w':=by
 have k5:=hB.at (i:=o+5) (by omega) hV.sum;have z:=hB.fz;have HG:Hid (∀ W,Fr1 b w W->bg W):=fun W f=>hG.fr f hb
 have FC:Hid (∀ W,Calls Tryz.prog 50 #[.int .u32 (s.sum:Int),.int .u8 (x:Int)] W fun e w'=>e = .returned (.int .u32 (cB s.sum x:Nat))/\w'=W):=fun W=>wC _ _ W hs hx
 obtain ⟨A,hA⟩:∃ A,A=cB s.sum x:=⟨_,rfl⟩;have B1:Hid (Blk (w.setCell ⟨b,o+5,none⟩ (.int .u32 (A:Int))) b n (upd c (o+5) (.int .u32 (A:Int)))):=hB.set (by omega) _;have V1:Hid (RdV (upd c (o+5) (.int .u32 (A:Int))) o (s.summed x)):=by
  have:=hV.set_sum A
  rw[hA] at this ⊢;exact this
 have C1:Hid (FrC b o (o+5954) c (upd c (o+5) (.int .u32 (A:Int)))):=FrC.upd _ (by omega) (by omega);have F1:Hid (Fr1 b w (w.setCell ⟨b,o+5,none⟩ (.int .u32 (A:Int)))):=Fr1.set (Fr.refl _ _) _ _;rw[<- hA] at FC;have HE:Hid (s.takeData x=if ((s.summed x).keep x).2≠0 then (s.summed x).keep x else (((s.summed x).keep x).1.dataEnd,0)):=rfl;have HK:Hid (yQ (s.summed x) x):=hk;clear hB hV hG hA hk;go_enter Tryz.func38,Tryz.ntmps38;go_wp2_with fail;refine (FC.out _).mono ?_;rintro e w1 ⟨rfl,hw1⟩;subst w1;go_wp2_with fail;generalize w.setCell ⟨b,o+5,none⟩ (.int .u32 (A:Int))=w1 at *;generalize upd c (o+5) (.int .u32 (A:Int))=c1 at *;clear k5 z FC;refine (LY b o n x c1 (s.summed x) w1 B1.out V1.out hn hx HK.out (HG.out _ F1.out) hb).mono ?_;rintro e w2 ⟨rfl,d,hB2,hV2,hC2,hF2⟩;obtain ⟨E,hE⟩:∃ E,E=((s.summed x).keep x).2:=⟨_,rfl⟩;obtain ⟨q,hq⟩:∃ q,q=((s.summed x).keep x).1:=⟨_,rfl⟩;have hkq:(s.summed x).keep x=(q,E):=by rw[hE,hq]
 rw[hkq] at HE;rw[<- hq] at hV2 ht;rw[<- hE];clear hE hq hkq;have B2:Hid (Blk w2 b n d):=hB2;have V2:Hid (RdV d o q):=hV2;have C2:Hid (FrC b o (o+5954) c d):=C1.out.trans hC2;have F2:Hid (Fr1 b w w2):=F1.out.trans hF2;have k1:=hB2.at (i:=o+1) (by omega) hV2.taken;have z1:=hB2.fz (o+1);clear hB2 hV2 hC2 hF2 B1 V1 C1 F1 HK;by_cases hz:E=0
 ·have hz':((E:Int) != 0)=false:=by rw[bne_eq_false_iff_eq];omega
  obtain ⟨T,hT⟩:∃ T,T=q.taken+1:=⟨_,rfl⟩;have eT:(q.taken:Int)+1=(T:Int):=by omega
  have HE2:Hid (s.takeData x=(if T=q.length then ({ q with taken:=T }:Rd).enter 4 else { q with taken:=T },0)):=by
   show s.takeData x=_
   rw[HE.out,if_neg (fun k=>k hz),hT];rfl
  have hT31:T<=2147483648:=by omega
  replace hz:Hid _:=hz;clear hT HE ht;have B3:Hid (Blk (w2.setCell ⟨b,o+1,none⟩ (.int .u32 (T:Int))) b n (upd d (o+1) (.int .u32 (T:Int)))):=B2.out.set (by omega) _;have V3:Hid (RdV (upd d (o+1) (.int .u32 (T:Int))) o { q with taken:=T }):=V2.out.set_taken T;have C3:Hid (FrC b o (o+5954) c (upd d (o+1) (.int .u32 (T:Int)))):=C2.out.trans (FrC.upd _ (by omega) (by omega));have F3:Hid (Fr1 b w (w2.setCell ⟨b,o+1,none⟩ (.int .u32 (T:Int)))):=Fr1.set F2.out _ _;have eTm:(T:Int) % 4294967296=(T:Int):=by omega
  replace hT31:Hid _:=hT31;go_upto_region 6 with fail
  generalize w2.setCell ⟨b,o+1,none⟩ (.int .u32 (T:Int))=w3 at *;generalize upd d (o+1) (.int .u32 (T:Int))=d3 at *;clear k1 z1 B2 V2 C2 F2;have k1:=B3.out.at (i:=o+1) (by omega) V3.out.taken;have k3:=B3.out.at (i:=o+3) (by omega) V3.out.length;replace k1:w3.cell? ⟨b,o+1,none⟩=some (.int .u32 (T:Int)):=k1;replace k3:w3.cell? ⟨b,o+3,none⟩=some (.int .u32 (q.length:Int)):=k3;by_cases hl:T=q.length
  ·have hl':((T:Int) == (q.length:Int))=true:=by rw[beq_iff_eq];omega
   have HE3:Hid (s.takeData x=(({ q with taken:=T }:Rd).enter 4,0)):=by show s.takeData x=_;rw[HE2.out,if_pos hl]
   replace hl:Hid _:=hl;go_quiet (fail);go_wp2_with fail;refine (mE b o n 4 d3 { q with taken:=T } _ (B3.out.kept ((Kept.refl _).drewN _)) V3.out hn).mono ?_;rintro e w4 ⟨rfl,h4⟩;go_wp2_with fail;go_ret;rw[HE3.out];exact ⟨rfl,aC.next C3.out (F3.out.kept ((Kept.refl _).drewN _)) h4⟩
  ·have hl':((T:Int) == (q.length:Int))=false:=by rw[beq_eq_false_iff_ne];omega
   have HE3:Hid (s.takeData x=({ q with taken:=T },0)):=by show s.takeData x=_;rw[HE2.out,if_neg hl]
   replace hl:Hid _:=hl;go_quiet (fail);go_wp2_with fail;go_ret;rw[HE3.out];exact ⟨rfl,d3,B3.out.kept ((Kept.refl _).drewN _),V3.out,C3.out,F3.out.kept ((Kept.refl _).drewN _)⟩
 ·have hz':((E:Int) != 0)=true:=by rw[bne_iff_ne];omega
  have HE2:Hid (s.takeData x=(q,E)):=by show s.takeData x=_;rw[HE.out,if_pos hz]
  clear ht;go_wp2_with fail;go_ret;rw[HE2.out];exact ⟨rfl,d,B2.out,V2.out,C2.out,F2.out⟩
def Rd.takeSum (s:Rd) (x:Nat):Rd × Nat:=
 if s.taken+1≠4 then (s.num x,0)
 else if s.number*256+x≠bL s.sum then (s.num x,6)
 else if (s.num x).accept.2≠0 then (s.num x).accept
 else if (s.num x).accept.1.ctype=cS then ((s.num x).accept.1.enter 5,0) else ((s.num x).accept.1.enter 1,0)
theorem z5 (b o n x:Nat) (c:Nat->Value) (s:Rd) (w:World) (hB:Blk w b n c) (hV:RdV c o s) (hn:o+5954<=n) (ht:s.taken<1000) (hm:s.number<16777216) (hx:x<256) (hs:s.sum<4294967296) (hr:∀ i,s.raw i<256) (hD:s.hd.D<=16) (hK:s.hd.K<=6) (hc:∀ j,s.tl.clear j<256) :
  Calls Tryz.prog 39 #[.pointer (some ⟨b,o,none⟩),.int .u8 (x:Int)] w fun e w'=>e = .returned (.int .i64 ((s.takeSum x).2:Int))/\aC b o n c (s.takeSum x).1 w w':=by
 have FN:Hid (Calls Tryz.prog 49 #[.pointer (some ⟨b,o,none⟩),.int .u8 (x:Int)] w fun e w'=>e = .returned (.bool (decide (s.taken+1=4)))/\aC b o n c (s.num x) w w'):=BK b o n x c s w hB hV hn ht hm hx;have HE:Hid (s.takeSum x=if s.taken+1≠4 then (s.num x,0) else if s.number*256+x≠bL s.sum then (s.num x,6) else if (s.num x).accept.2≠0 then (s.num x).accept else if (s.num x).accept.1.ctype=cS then ((s.num x).accept.1.enter 5,0) else ((s.num x).accept.1.enter 1,0)):=rfl;obtain ⟨N,hN⟩:∃ N,N=s.number*256+x:=⟨_,rfl⟩;have HN:Hid ((s.num x).number=N):=hN.symm;have HSm:Hid ((s.num x).sum=s.sum):=rfl;have HA:Hid (∀ (W:World) (d:Nat->Value),Blk W b n d->RdV d o (s.num x)->Calls Tryz.prog 55 #[.pointer (some ⟨b,o,none⟩)] W fun e w'=>e = .returned (.int .i64 ((s.num x).accept.2:Int))/\aC b o n d (s.num x).accept.1 W w'):=fun W d h1 h2=>Je b o n d (s.num x) W h1 h2 hn hr hD hK hc
 rw[<- hN] at HE;have FE:Hid (∀ W,Calls Tryz.prog 54 #[.int .u32 (s.sum:Int)] W fun e w'=>e = .returned (.int .u32 (bL s.sum:Nat))/\w'=W):=fun W=>Cu _ W hs
 obtain ⟨q,hq⟩:∃ q,q=s.num x:=⟨_,rfl⟩;rw[<- hq] at FN HE HN HA HSm;obtain ⟨EN,hEN⟩:∃ EN,EN=bL s.sum:=⟨_,rfl⟩;rw[<- hEN] at FE HE;clear hB hV hN hq hr hc hEN;by_cases h4:s.taken+1=4
 ·rw[decide_eq_true h4] at FN
  have HE2:Hid (s.takeSum x=if N≠EN then (q,6) else if q.accept.2≠0 then q.accept else if q.accept.1.ctype=cS then (q.accept.1.enter 5,0) else (q.accept.1.enter 1,0)):=by show s.takeSum x=_;rw[HE.out,if_neg (fun k=>k h4)]
  clear HE h4;go_enter Tryz.func39,Tryz.ntmps39;go_wp2_with fail;refine FN.out.mono ?_;rintro e w1 ⟨rfl,d,hB1,hV1,hC1,hF1⟩;have k2:=hB1.at (i:=o+2) (by omega) hV1.number;have k5:=hB1.at (i:=o+5) (by omega) hV1.sum;rw[HN.out] at k2;rw[HSm.out] at k5;have B1:Hid (Blk w1 b n d):=hB1;have V1:Hid (RdV d o q):=hV1;have C1:Hid (FrC b o (o+5954) c d):=hC1;have F1:Hid (Fr1 b w w1):=hF1;clear hB1 hV1 hC1 hF1 FN;by_cases h:N=EN
  ·have h':((N:Int) != (EN:Int))=false:=by rw[bne_eq_false_iff_eq];omega
   have HE3:Hid (s.takeSum x=if q.accept.2≠0 then q.accept else if q.accept.1.ctype=cS then (q.accept.1.enter 5,0) else (q.accept.1.enter 1,0)):=by show s.takeSum x=_;rw[HE2.out,if_neg (fun k=>k h)]
   replace h:Hid _:=h;clear HE2;go_wp2_with fail;go_quiet ((go_at_call 54;exact Calls.quiet_of_same (FE.out _)))
   go_wp2_with fail;refine (HA.out _ d (B1.out.kept ((Kept.refl _).drewN _)) V1.out).mono ?_;rintro e w2 ⟨rfl,d2,hB2,hV2,hC2,hF2⟩;have B2:Hid (Blk w2 b n d2):=hB2;have V2:Hid (RdV d2 o q.accept.1):=hV2;have C2:Hid (FrC b o (o+5954) c d2):=C1.out.trans hC2;have F2:Hid (Fr1 b w w2):=(F1.out.kept ((Kept.refl _).drewN _)).trans hF2;have k4:=hB2.at (i:=o+4) (by omega) hV2.ctype;clear hB2 hV2 hC2 hF2 HA B1 V1 C1 F1;obtain ⟨E,hE⟩:∃ E,E=q.accept.2:=⟨_,rfl⟩;obtain ⟨p,hp⟩:∃ p,p=q.accept.1:=⟨_,rfl⟩;have hqp:q.accept=(p,E):=by rw[hE,hp]
   rw[hqp] at HE3;rw[<- hp] at V2 k4;rw[<- hE];clear hE hp hqp;by_cases hz:E=0
   ·have hz':((E:Int) != 0)=false:=by rw[bne_eq_false_iff_eq];omega
    have HE4:Hid (s.takeSum x=if p.ctype=cS then (p.enter 5,0) else (p.enter 1,0)):=by show s.takeSum x=_;rw[HE3.out,if_neg (fun k=>k hz)]
    replace hz:Hid _:=hz;clear HE3;by_cases hi:p.ctype=cS
    ·have HE5:Hid (s.takeSum x=(p.enter 5,0)):=by show s.takeSum x=_;rw[HE4.out,if_pos hi]
     have hi':((p.ctype:Int) == 1229278788)=true:=by rw[beq_iff_eq,hi];rfl
     replace hi:Hid _:=hi;go_wp2_with fail;refine (mE b o n 5 d2 p w2 B2.out V2.out hn).mono ?_;rintro e w3 ⟨rfl,h3⟩;go_wp2_with fail;go_ret;rw[HE5.out];exact ⟨rfl,aC.next C2.out F2.out h3⟩
    ·have HE5:Hid (s.takeSum x=(p.enter 1,0)):=by show s.takeSum x=_;rw[HE4.out,if_neg hi]
     have hi':=cty p cS hi;clear hi;unfold cS at hi';go_wp2_with fail;refine (mE b o n 1 d2 p w2 B2.out V2.out hn).mono ?_;rintro e w3 ⟨rfl,h3⟩;go_wp2_with fail;go_ret;rw[HE5.out];exact ⟨rfl,aC.next C2.out F2.out h3⟩
   ·have hz':((E:Int) != 0)=true:=by rw[bne_iff_ne];omega
    have HE4:Hid (s.takeSum x=(p,E)):=by show s.takeSum x=_;rw[HE3.out,if_pos hz]
    go_wp2_with fail;go_ret;rw[HE4.out];exact ⟨rfl,d2,B2.out,V2.out,C2.out,F2.out⟩
  ·have h':((N:Int) != (EN:Int))=true:=by rw[bne_iff_ne];omega
   have HE3:Hid (s.takeSum x=(q,6)):=by show s.takeSum x=_;rw[HE2.out,if_pos h]
   clear h HE2;go_wp2_with fail;go_quiet ((go_at_call 54;exact Calls.quiet_of_same (FE.out _)))
   go_wp2_with fail;go_ret;rw[HE3.out];exact ⟨rfl,d,B1.out.kept ((Kept.refl _).drewN _),V1.out,C1.out,F1.out.kept ((Kept.refl _).drewN _)⟩
 ·rw[decide_eq_false h4] at FN
  have HE2:Hid (s.takeSum x=(q,0)):=by show s.takeSum x=_;rw[HE.out,if_pos h4]
  clear HE h4;go_enter Tryz.func39,Tryz.ntmps39;go_wp2_with fail;refine FN.out.mono ?_;rintro e w1 ⟨rfl,h1⟩;go_wp2_with fail;go_ret;rw[HE2.out];exact ⟨rfl,h1⟩
def Rd.take (s:Rd) (x:Nat):Rd × Nat:=
 if s.part=0 then s.takeSign x
 else if s.part=1 then s.takeLength x
 else if s.part=2 then s.takeType x
 else if s.part=3 then s.takeData x
 else if s.part=4 then s.takeSum x
 else (s,22)
structure CN (s:Rd) (x:Nat):Prop where
 part:s.part<=5
 taken:s.part≠3->s.taken<1000
 number:s.part=1\/s.part=2\/s.part=4->s.number<16777216
 sum:s.sum<4294967296
 typ:s.part=2->A5 (s.typed x)
 hd:FU s
 keep:s.part=3->yQ (s.summed x) x
 tk:s.part=3->((s.summed x).keep x).1.taken<2147483648
 raw:∀ i,s.raw i<256
 clear:∀ j,s.tl.clear j<256
theorem GI (b o n x:Nat) (c:Nat->Value) (s:Rd) (w:World) (hB:Blk w b n c) (hV:RdV c o s) (hn:o+5954<=n) (hx:x<256) (hk:CN s x) (hG:bg w) (hb:NT b) :
  Calls Tryz.prog 23 #[.pointer (some ⟨b,o,none⟩),.int .u8 (x:Int)] w fun e w'=>e = .returned (.int .i64 ((s.take x).2:Int))/\aC b o n c (s.take x).1 w w':=by
 have k0:=hB.at (i:=o) (by omega) hV.part;have HB:Hid (Blk w b n c):=hB;have HV:Hid (RdV c o s):=hV;have hp:=hk.part;have hcs:s.part=0\/s.part=1\/s.part=2\/s.part=3\/s.part=4\/s.part=5:=by omega
 rcases hcs with h | h | h | h | h | h
 ·have HE:Hid (s.take x=s.takeSign x):=by show s.take x=_;unfold Rd.take;rw[if_pos h]
  have F:Hid (Calls Tryz.prog 35 #[.pointer (some ⟨b,o,none⟩),.int .u8 (x:Int)] w fun e w'=>e = .returned (.int .i64 ((s.takeSign x).2:Int))/\aC b o n c (s.takeSign x).1 w w'):=Be b o n x c s w hB hV hn (hk.taken (by omega)) hx;rw[h] at k0;clear h hp hk hB hV hG;go_enter Tryz.func23,Tryz.ntmps23;go_wp2_with fail;refine F.out.mono ?_;rintro e w1 ⟨rfl,h1⟩;go_wp2_with fail;go_ret;rw[HE.out];exact ⟨rfl,h1⟩
 ·have HE:Hid (s.take x=s.takeLength x):=by show s.take x=_;unfold Rd.take;rw[if_neg (by omega),if_pos h]
  have F:Hid (Calls Tryz.prog 36 #[.pointer (some ⟨b,o,none⟩),.int .u8 (x:Int)] w fun e w'=>e = .returned (.int .i64 ((s.takeLength x).2:Int))/\aC b o n c (s.takeLength x).1 w w'):=xP b o n x c s w hB hV hn (hk.taken (by omega)) (hk.number (by omega)) hx;rw[h] at k0;clear h hp hk hB hV hG;go_enter Tryz.func23,Tryz.ntmps23;go_wp2_with fail;refine F.out.mono ?_;rintro e w1 ⟨rfl,h1⟩;go_wp2_with fail;go_ret;rw[HE.out];exact ⟨rfl,h1⟩
 ·have HE:Hid (s.take x=s.takeType x):=by show s.take x=_;unfold Rd.take;rw[if_neg (by omega),if_neg (by omega),if_pos h]
  have F:Hid (Calls Tryz.prog 37 #[.pointer (some ⟨b,o,none⟩),.int .u8 (x:Int)] w fun e w'=>e = .returned (.int .i64 ((s.takeType x).2:Int))/\aC b o n c (s.takeType x).1 w w'):=Bc b o n x c s w hB hV hn (hk.taken (by omega)) (hk.number (by omega)) hx hk.sum (hk.typ h) hk.hd hG.grd hb.grd;rw[h] at k0;clear h hp hk hB hV hG;go_enter Tryz.func23,Tryz.ntmps23;go_wp2_with fail;refine F.out.mono ?_;rintro e w1 ⟨rfl,h1⟩;go_wp2_with fail;go_ret;rw[HE.out];exact ⟨rfl,h1⟩
 ·have HE:Hid (s.take x=s.takeData x):=by show s.take x=_;unfold Rd.take;rw[if_neg (by omega),if_neg (by omega),if_neg (by omega),if_pos h]
  have F:Hid (Calls Tryz.prog 38 #[.pointer (some ⟨b,o,none⟩),.int .u8 (x:Int)] w fun e w'=>e = .returned (.int .i64 ((s.takeData x).2:Int))/\aC b o n c (s.takeData x).1 w w'):=Bq b o n x c s w hB hV hn hx hk.sum (hk.keep h) (hk.tk h) hG hb;rw[h] at k0;clear h hp hk hB hV hG;go_enter Tryz.func23,Tryz.ntmps23;go_wp2_with fail;refine F.out.mono ?_;rintro e w1 ⟨rfl,h1⟩;go_wp2_with fail;go_ret;rw[HE.out];exact ⟨rfl,h1⟩
 ·have HE:Hid (s.take x=s.takeSum x):=by show s.take x=_;unfold Rd.take;rw[if_neg (by omega),if_neg (by omega),if_neg (by omega),if_neg (by omega),if_pos h]
  have F:Hid (Calls Tryz.prog 39 #[.pointer (some ⟨b,o,none⟩),.int .u8 (x:Int)] w fun e w'=>e = .returned (.int .i64 ((s.takeSum x).2:Int))/\aC b o n c (s.takeSum x).1 w w'):=z5 b o n x c s w hB hV hn (hk.taken (by omega)) (hk.number (by omega)) hx hk.sum hk.raw hk.hd.D hk.hd.K hk.clear;rw[h] at k0;clear h hp hk hB hV hG;go_enter Tryz.func23,Tryz.ntmps23;go_wp2_with fail;refine F.out.mono ?_;rintro e w1 ⟨rfl,h1⟩;go_wp2_with fail;go_ret;rw[HE.out];exact ⟨rfl,h1⟩
 ·have HE:Hid (s.take x=(s,22)):=by show s.take x=_;unfold Rd.take;rw[if_neg (by omega),if_neg (by omega),if_neg (by omega),if_neg (by omega),if_neg (by omega)]
  rw[h] at k0;clear h hp hk hB hV hG;go_enter Tryz.func23,Tryz.ntmps23;go_wp2_with fail;go_ret;rw[HE.out];exact ⟨rfl,aC.refl HB.out HV.out⟩
def af (s:ByteArray):List Nat:=s.data.toList.map UInt8.toNat
theorem aw (s:ByteArray):(af s).length=s.size:=by unfold af;simp
theorem qZ (s:ByteArray) (k:Nat) (h:k<s.size):(af s)[k]'(by rw[aw];exact h)=s[k].toNat:=by
 unfold af;simp;rfl
theorem lK (s:ByteArray):∀ x ∈ af s,x<256:=by
 intro x hx;unfold af at hx;rw[List.mem_map] at hx;obtain ⟨u,_,rfl⟩:=hx;exact u.toNat_lt
theorem take_snoc' (s:ByteArray) (k:Nat) (h:k<s.size):(af s).take (k+1)=(af s).take k++[s[k].toNat]:=by
 rw[List.take_succ_eq_append_getElem (by rw[aw];exact h),qZ s k h]
def Dc.one (d:Dc) (x:Nat):Dc:=if d.err≠0 then d else if (d.file.take x).2≠0 then { d with file:=(d.file.take x).1,err:=(d.file.take x).2,at1:=d.count } else { d with file:=(d.file.take x).1,count:=d.count+1 }
def Dc.feed (d:Dc) (l:List Nat):Dc:=l.foldl Dc.one d
theorem EI (d:Dc) (l:List Nat) (x:Nat):d.feed (l++[x])=(d.feed l).one x:=by unfold Dc.feed;rw[List.foldl_append];rfl
theorem vd (d:Dc) (l m:List Nat):d.feed (l++m)=(d.feed l).feed m:=by unfold Dc.feed;rw[List.foldl_append]
theorem qS {d:Dc} (h:d.err≠0):∀ l,d.feed l=d
 | []=>rfl
 | x::l=>by
  show Dc.feed (d.one x) l=d
  rw[show d.one x=d from by unfold Dc.one;rw[if_pos h]];exact qS h l
def rk (b n:Nat) (d':Dc) (w w':World):Prop:=∃ e,Blk w' b n e/\DcV e 0 d'/\Fr1 b w w'
theorem aC.dc {b n:Nat} {c:Nat->Value} {D:Dc} {S:Rd} {w w1 w':World} (h:DcV c 0 D) (hF:Fr1 b w w1) (k:aC b 0 n c S w1 w'):rk b n { D with file:=S } w w':=by
 obtain ⟨e,h1,h2,h3,h4⟩:=k;exact ⟨e,h1,h.set_file S h2 (fun i hi=>h3.out i (by omega)),hF.trans h4⟩
def uU (d:Dc) (l:List Nat):Prop:=∀ k x,l[k]? = some x->(d.feed (l.take k)).err=0->CN (d.feed (l.take k)).file x/\(d.feed (l.take k)).count<=4294967296
theorem Ip (b n E:Nat) (c:Nat->Value) (D:Dc) (w:World) (hB:Blk w b n c) (hV:DcV c 0 D) (hn:5957<=n) :
  Calls Tryz.prog 24 #[.pointer (some ⟨b,0,none⟩),.int .i64 (E:Int)] w fun e w'=>e = .returned (.tuple #[])/\rk b n { D with err:=E,at1:=D.count } w w':=by
 have k0:=hB.at (i:=5954) (by omega) hV.count;have k1:=hB.at (i:=5955) (by omega) hV.err;have k2:=hB.at (i:=5956) (by omega) hV.at1;have z:=hB.fz;have HB:Hid (Blk w b n c):=hB;have HV:Hid (DcV c 0 D):=hV;clear hB hV;go_enter Tryz.func24,Tryz.ntmps24;go_wp2;go_end0
 exact ⟨rfl,_,(HB.out.set (k:=5955) (by omega) _).set (k:=5956) (by omega) _,(HV.out.set_err E).set_at1 D.count,Fr1.set (Fr1.set (Fr.refl _ _) _ _) _ _⟩
theorem Me (b n:Nat) (t:ByteArray) (c:Nat->Value) (d:Dc) (w:World) (hB:Blk w b n c) (hV:DcV c 0 d) (hn:5957<=n) (hk:uU d (af t)) (hs:t.size<=2147483648) (hG:bg w) (hb:NT b) :
  Calls Tryz.prog 14 #[.pointer (some ⟨b,0,none⟩),.string t] w fun e w'=>e = .returned (.tuple #[.int .i64 ((d.feed (af t)).err:Int),.int .i64 ((d.feed (af t)).at1:Int)])/\rk b n (d.feed (af t)) w w':=by
 have HG:Hid (∀ W,Fr1 b w W->bg W):=fun W f=>hG.fr f hb
 have HK:Hid (uU d (af t)):=hk;have H0:Hid (rk b n (d.feed ((af t).take 0)) w w):=⟨c,hB,hV,Fr.refl _ _⟩;clear hB hV hk hG;go_enter Tryz.func14,Tryz.ntmps14;go_wp2_with fail;go_loopg [6,7] t.size (fun m v u W=>∃ k:Nat,m=t.size - k/\k<=t.size/\v = .int .i64 (k:Int)/\rk b n (d.feed ((af t).take k)) w W)
 case atStart=>exact ⟨0,by omega,by omega,rfl,H0.out⟩
 case round=>
  obtain ⟨k,hgk,hkt,rfl,e,hBe,hVe,hFe⟩:=hrel;replace hgk:Hid _:=hgk;clear H0;have BE:Hid (Blk wr b n e):=hBe;have VE:Hid (DcV e 0 (d.feed ((af t).take k))):=hVe;have FE:Hid (Fr1 b w wr):=hFe;clear hBe hVe hFe;by_cases hlt:k<t.size
  ·have HF:Hid (d.feed ((af t).take (k+1))=(d.feed ((af t).take k)).one t[k].toNat):=by
    show d.feed ((af t).take (k+1))=_
    rw[take_snoc' t k hlt,EI]
   have hlt':(k:Int)<(t.size:Int):=by omega
   have hx:t[k].toNat<256:=t[k].toNat_lt;have HOk:=HK.out k t[k].toNat (by rw[<- qZ t k hlt];exact List.getElem?_eq_getElem _);have HAll:Hid (d.feed (af t)=(d.feed ((af t).take k)).feed ((af t).drop k)):=by show d.feed (af t)=_;rw[<- vd,List.take_append_drop]
   have HAll2:Hid (d.feed (af t)=(d.feed ((af t).take (k+1))).feed ((af t).drop (k+1))):=by show d.feed (af t)=_;rw[<- vd,List.take_append_drop]
   obtain ⟨D,hD⟩:∃ D,D=d.feed ((af t).take k):=⟨_,rfl⟩;rw[<- hD] at VE HF HOk HAll;clear hD;have c1:=BE.out.at (i:=5955) (by omega) VE.out.err;replace HOk:Hid _:=HOk;by_cases he:D.err=0
   ·have he':((D.err:Int) == 0)=true:=by rw[beq_iff_eq];omega
    obtain ⟨hto,hcnt⟩:=HOk.out he;have FT:Hid (∀ W,Kept wr W->Calls Tryz.prog 23 #[.pointer (some ⟨b,0,none⟩),.int .u8 (t[k].toNat:Int)] W fun e' w'=>e' = .returned (.int .i64 ((D.file.take t[k].toNat).2:Int))/\aC b 0 n e (D.file.take t[k].toNat).1 W w'):=fun W kw=>GI b 0 n _ e D.file W (BE.out.kept kw) VE.out.file (by omega) hx hto (HG.out _ (FE.out.kept kw)) hb
    have HOne:Hid (D.one t[k].toNat=if (D.file.take t[k].toNat).2≠0 then { D with file:=(D.file.take t[k].toNat).1,err:=(D.file.take t[k].toNat).2,at1:=D.count } else { D with file:=(D.file.take t[k].toNat).1,count:=D.count+1 }):=by show D.one t[k].toNat=_;unfold Dc.one;rw[if_neg (fun q=>q he)]
    replace he:Hid _:=he;clear hto HOk;obtain ⟨E,hE⟩:∃ E,E=(D.file.take t[k].toNat).2:=⟨_,rfl⟩;obtain ⟨S,hS⟩:∃ S,S=(D.file.take t[k].toNat).1:=⟨_,rfl⟩;rw[<- hE,<- hS] at FT HOne;clear hE hS;go_wp2_with fail;go_region_held3 (fun W=>True) (trivial) ((go_at_call 23;refine (FT.out _ ((Kept.refl _).drewN 1)).mono ?_;rintro e' w1 ⟨rfl,hst⟩))
    obtain ⟨e1,hB1,hV1,hF1⟩:=aC.dc VE.out (Fr1.drewN (Fr.refl _ _) 1) hst;have B1:Hid (Blk w1 b n e1):=hB1;have V1:Hid (DcV e1 0 { D with file:=S }):=hV1;have F1:Hid (Fr1 b w w1):=FE.out.trans hF1;have c0:=hB1.at (i:=5954) (by omega) hV1.count;have z0:=hB1.fz 5954;replace c0:w1.cell? ⟨b,5954,none⟩=some (.int .i64 (D.count:Int)):=c0;clear hB1 hV1 hF1 hst FT BE VE FE c1;by_cases hz:E=0
    ·have hz':((E:Int) != 0)=false:=by rw[bne_eq_false_iff_eq];omega
     obtain ⟨N,hN⟩:∃ N,N=D.count+1:=⟨_,rfl⟩;have eN:(D.count:Int)+1=(N:Int):=by omega
     have hN2:N<=4294967297:=by omega
     have HO2:Hid (D.one t[k].toNat={ D with file:=S,count:=N }):=by show D.one t[k].toNat=_;rw[HOne.out,if_neg (fun q=>q hz),hN]
     replace hz:Hid _:=hz;clear hN;go_wp2_with fail;go_roundg (t.size - (k+1))
     case measure=>rw[hgk.out];omega
     case rel=>
      refine ⟨k+1,rfl,by omega,by go_num,?_⟩;rw[HF.out,HO2.out];exact ⟨_,B1.out.set (k:=5954) (by omega) _,V1.out.set_count N,Fr1.set F1.out _ _⟩
    ·have hz':((E:Int) != 0)=true:=by rw[bne_iff_ne];omega
     have HA:Hid (d.feed (af t)={ D with file:=S,err:=E,at1:=D.count }):=by
      show d.feed (af t)=_
      rw[HAll2.out,HF.out,HOne.out,if_pos hz,qS hz]
     replace hz:Hid _:=hz;go_wp2_with fail;refine (Ip b n E e1 { D with file:=S } w1 B1.out V1.out hn).mono ?_;rintro e' w2 ⟨rfl,e2,hB2,hV2,hF2⟩;have c4:=hB2.at (i:=5955) (by omega) hV2.err;have c5:=hB2.at (i:=5956) (by omega) hV2.at1;replace c4:w2.cell? ⟨b,5955,none⟩=some (.int .i64 (E:Int)):=c4;replace c5:w2.cell? ⟨b,5956,none⟩=some (.int .i64 (D.count:Int)):=c5;have B2:Hid (Blk w2 b n e2):=hB2;have V2:Hid (DcV e2 0 { ({ D with file:=S }:Dc) with err:=E,at1:=D.count }):=hV2;have F2:Hid (Fr1 b w w2):=F1.out.trans hF2;clear hB2 hV2 hF2;go_wp2_with fail;go_quiet (fail);go_wp2_with fail;go_ret2;rw[HA.out];exact ⟨rfl,e2,B2.out.kept ((Kept.refl _).drewN _),V2.out,F2.out.kept ((Kept.refl _).drewN _)⟩
   ·have he':((D.err:Int) == 0)=false:=by rw[beq_eq_false_iff_ne];omega
    have HA:Hid (d.feed (af t)=D):=by show d.feed (af t)=D;rw[HAll.out,qS he]
    have c2:=BE.out.at (i:=5956) (by omega) VE.out.at1;replace he:Hid _:=he;go_wp2_with fail;go_quiet (fail);go_wp2_with fail;go_ret2;rw[HA.out];exact ⟨rfl,e,BE.out.kept ((Kept.refl _).drewN _),VE.out,FE.out.kept ((Kept.refl _).drewN _)⟩
  ·have hlt':¬ (k:Int)<(t.size:Int):=by omega
   have hall:(af t).take k=af t:=List.take_of_length_le (by rw[aw];omega);rw[hall] at VE;have c1:=BE.out.at (i:=5955) (by omega) VE.out.err;have c2:=BE.out.at (i:=5956) (by omega) VE.out.at1;clear hall;go_wp2_with fail;go_quiet (fail);go_wp2_with fail;go_ret2;exact ⟨rfl,e,BE.out.kept ((Kept.refl _).drewN _),VE.out,FE.out.kept ((Kept.refl _).drewN _)⟩
end Go.Proofs.YtgooinallljbpaaGreatDoor
namespace Px
def lz:Nat->Nat->Nat->Nat
 | 0,c,_=>c
 | k+1,c,b=>cQ (lz k c b ^^^ (b / 2^k % 2))
def dj (l:List Nat):Nat:=l.foldl (fun v x=>256*v+x) 0
end Px
namespace Go.Proofs.YtgooinallljbpaaGreatDoor
open Go.RowKit Px
set_option linter.unusedSimpArgs false
set_option linter.unusedVariables false
theorem LX (k:Nat):k=0\/k=2\/k=3\/k=4\/k=6\/(k≠0/\k≠2/\k≠3/\k≠4/\k≠6):=by omega
theorem iF (l:List Nat) (x:Nat):Px.dj (l++[x])=256*Px.dj l+x:=by unfold Px.dj;rw[List.foldl_append];rfl
theorem JX (l:List Nat) (hl:∀ x ∈ l,x<256):Px.dj l<256^l.length:=by
 have gen:∀ (l:List Nat) (v c:Nat),(∀ x ∈ l,x<256)->v<c->l.foldl (fun v x=>256*v+x) v<256^l.length*c:=by
  intro l
  induction l with
  | nil=>intro v c _ h;simpa using h
  | cons x r ih=>
   intro v c hx h
   have:=ih (256*v+x) (256*c) (fun y hy=>hx y (by simp [hy])) (by have:=hx x (by simp);omega)
   rw[List.foldl_cons,List.length_cons,Nat.pow_succ];rw[Nat.mul_assoc];exact this
 have:=gen l 0 1 hl (by omega)
 simpa [Px.dj] using this
def seg (t:ByteArray) (i n:Nat):List Nat:=((af t).drop i).take n
theorem seg_lt (t:ByteArray) (i n:Nat):∀ x ∈ seg t i n,x<256:=fun x hx=>lK t x (List.mem_of_mem_drop (List.mem_of_mem_take hx))
theorem seg_length (t:ByteArray) (i n:Nat) (h:i+n<=t.size):(seg t i n).length=n:=by
 unfold seg;rw[List.length_take,List.length_drop,aw];omega
theorem kS (t:ByteArray) (i k:Nat) (h:i+k<t.size):seg t i (k+1)=seg t i k++[t[i+k].toNat]:=by
 unfold seg;rw[List.take_succ_eq_append_getElem (by rw[List.length_drop,aw];omega)]
 congr 2
 rw[List.getElem_drop];exact qZ t (i+k) h
theorem qJ (t:ByteArray) (i n:Nat) (w:World) (h:i+n<=t.size) (hn:n<=4) (hs:t.size<=1048576) :
  Calls Tryz.prog 98 #[.string t,.int .i64 (i:Int),.int .i64 (n:Int)] w fun e w'=>e = .returned (.int .i64 ((Px.dj (seg t i n):Nat):Int))/\w'=w:=by
 go_enter Tryz.func98,Tryz.ntmps98;go_wp2;go_loop [7,8] (fun v j=>∃ k:Nat,k<=n/\j = .int .i64 ((i+k:Nat):Int)/\v = .int .i64 ((Px.dj (seg t i k):Nat):Int)) (fun _ j=>i+n - (intOf j).toNat)
 case atStart=>exact ⟨0,by omega,rfl,rfl⟩
 case round=>
  obtain ⟨k,hk,rfl,rfl⟩:=hrel;by_cases hlt:k<n
  ·have hx:=(t[i+k]'(by omega)).toNat_lt
   have hb:Px.dj (seg t i k)<16777216:=by
    have:=JX (seg t i k) (seg_lt t i k)
    rw[seg_length t i k (by omega)] at this;have h2:256^k<=256^3:=Nat.pow_le_pow_right (by omega) (by omega);omega
   have HS:Hid (Px.dj (seg t i (k+1))=256*Px.dj (seg t i k)+(t[i+k]'(by omega)).toNat):=by
    show _=_;rw[kS t i k (by omega),iF]
   generalize Px.dj (seg t i k)=V at *;go_wp2;exact ⟨⟨k+1,by omega,by go_num,aV (by rw[HS.out];go_num)⟩,by simp [intOf];omega⟩
  ·go_wp2
   go_ret;exact ⟨ah (by rw[show k=n from by omega]),rfl⟩
theorem Gx (w:World):Calls Tryz.prog 56 #[] w fun e w'=>e = .returned (.string ⟨#[137,80,78,71,13,10,26,10]⟩)/\w'=w:=by
 go_enter Tryz.func56,Tryz.ntmps56;go_wp2;go_ret;exact ⟨rfl,rfl⟩
theorem Ca (k d:Nat) (w:World) :
  Calls Tryz.prog 131 #[.int .i64 (k:Int),.int .i64 (d:Int)] w fun e w'=>e = .returned (.bool (lx k d))/\w'=w:=by
 rcases LX k with rfl | rfl | rfl | rfl | rfl | ⟨h0,h2,h3,h4,h6⟩
 case' inr.inr.inr.inr.inr=>
  have H:Hid (lx k d=false):=by show _=_;unfold lx;simp [*]
  have g0:((k:Int) == 0)=false:=beq_eq_false_iff_ne.2 (by omega);have g2:((k:Int) == 2)=false:=beq_eq_false_iff_ne.2 (by omega);have g3:((k:Int) == 3)=false:=beq_eq_false_iff_ne.2 (by omega);have g4:((k:Int) == 4)=false:=beq_eq_false_iff_ne.2 (by omega);have g6:((k:Int) == 6)=false:=beq_eq_false_iff_ne.2 (by omega);clear h0 h2 h3 h4 h6
 all_goals
  go_enter Tryz.func131,Tryz.ntmps131;go_wp2
  all_goals go_ret
  all_goals first | exact ⟨bj (by rw[H.out]),rfl⟩ | exact ⟨bj (by unfold lx;rw[Bool.eq_iff_iff];simp;try omega),rfl⟩
theorem E0 (k c b:Nat) (hc:c<4294967296):Px.lz k c b<4294967296:=by
 induction k with
 | zero=>exact hc
 | succ k ih=>
  show Px.cQ _<_
  have hx:Px.lz k c b ^^^ (b / 2^k % 2)<4294967296:=Nat.xor_lt_two_pow (n:=32) ih (by omega);unfold Px.cQ;split
  ·exact Nat.xor_lt_two_pow (n:=32) (by omega) (by omega)
  ·omega
theorem Mu (m:Nat):m=(m % 2) ^^^ (2*(m / 2)):=by
 apply Nat.eq_of_testBit_eq;intro i;rw[Nat.testBit_xor];cases i with
 | zero=>simp [Nat.testBit_zero]
 | succ i=>
  have h1:(m % 2).testBit (i+1)=false:=by
   rw[Nat.testBit_succ]
   have:m % 2 / 2=0:=by omega
   rw[this];simp
  rw[h1,Nat.testBit_succ,Nat.testBit_succ]
  have:2*(m / 2) / 2=m / 2:=by omega
  rw[this];simp
/-! the two ways of the sum are one -/
theorem Cv (x y:Nat):Px.cQ (x ^^^ (2*y))=Px.cQ x ^^^ y:=by
 have h0:(x ^^^ (2*y)) % 2=x % 2:=by
  rw[<- Nat.and_one_is_mod,<- Nat.and_one_is_mod,Nat.and_xor_distrib_right]
  have:2*y &&& 1=0:=by rw[Nat.and_one_is_mod];omega
  rw[this,Nat.xor_zero]
 have h1:(x ^^^ (2*y)) / 2=(x / 2) ^^^ y:=by
  have:=Nat.xor_div_two (a:=x) (b:=2*y)
  rw[this];congr 1;omega
 unfold Px.cQ;rw[h0,h1];split
 ·rw[Nat.xor_assoc,Nat.xor_comm y,<- Nat.xor_assoc]
 ·rfl
theorem KB (k c b:Nat):Px.cX k (c ^^^ b)=Px.lz k c b ^^^ (b / 2^k):=by
 induction k with
 | zero=>simp [Px.cX,Px.lz]
 | succ k ih=>
  show Px.cQ (Px.cX k (c ^^^ b))=Px.cQ (Px.lz k c b ^^^ (b / 2^k % 2)) ^^^ (b / 2^(k+1))
  rw[ih,<- Cv]
  congr 1
  rw[Nat.xor_assoc]
  congr 1
  rw[Nat.pow_succ,<- Nat.div_div_eq_div_mul];generalize b / 2^k=m;have hm:=Mu m;exact hm
theorem uY (s:ByteArray) (k:Nat) (h:k<s.size):(af s).take (k+1)=(af s).take k++[s[k].toNat]:=by
 rw[List.take_succ_eq_append_getElem (by rw[aw];exact h),qZ s k h]
theorem Cw (c b:Nat) (hb:b<256):Px.cB c b=Px.lz 8 c b:=by
 unfold Px.cB;rw[KB,show b / 2^8=0 from by omega,Nat.xor_zero]
theorem AB (s:Nat) (l:List Nat) (hs:s<4294967296) (hl:∀ x ∈ l,x<256):Px.bE s l<4294967296:=by
 induction l generalizing s with
 | nil=>exact hs
 | cons x r ih=>exact ih (Px.cB s x) (xn s x hs (hl x (by simp))) (fun y hy=>hl y (by simp [hy]))
theorem Ct (s:Nat) (l:List Nat) (x:Nat):Px.bE s (l++[x])=Px.cB (Px.bE s l) x:=by unfold Px.bE;rw[List.foldl_append];rfl
theorem IU (R x k:Nat) (hR:R<4294967296) (hx:x<256) :
  bits BinOp.and IntKind.i64 (bits BinOp.xor IntKind.i64 (R:Int) (bits BinOp.and IntKind.i64 ((x:Int) / 2^k) 1)) 1=(((R ^^^ (x / 2^k % 2)) % 2:Nat):Int):=by
 have e1:(x:Int) / 2^k=((x / 2^k:Nat):Int):=by simp
 have h1:x / 2^k<4294967296:=Nat.lt_of_le_of_lt (Nat.div_le_self _ _) (by omega);have h2:bits BinOp.and IntKind.i64 ((x / 2^k:Nat):Int) 1=((x / 2^k % 2:Nat):Int):=by
  have:=qP (x / 2^k) 1 h1 (by omega)
  rw[nat_mask1] at this;exact this
 have h3:R ^^^ (x / 2^k % 2)<4294967296:=Nat.xor_lt_two_pow (n:=32) (by omega) (by omega);have h4:=qP (R ^^^ (x / 2^k % 2)) 1 h3 (by omega);rw[nat_mask1] at h4;rw[e1,h2,qO R _ hR (by omega)];exact h4
theorem DE (R b:Nat) (hb:b<2):(R ^^^ b) / 2=R / 2:=by
 rw[Nat.xor_div_two,show b / 2=0 from by omega,Nat.xor_zero]
theorem KQ (R x k:Nat) (hR:R<4294967296) (hx:x<256) (h:(bits BinOp.and IntKind.i64 (bits BinOp.xor IntKind.i64 (R:Int) (bits BinOp.and IntKind.i64 ((x:Int) / 2^k) 1)) 1 == 1)=true) :
  bits BinOp.xor IntKind.i64 ((R:Int) / 2) 3988292384=((Px.cQ (R ^^^ (x / 2^k % 2)):Nat):Int):=by
 rw[IU R x k hR hx,beq_iff_eq] at h;have h1:(R ^^^ (x / 2^k % 2)) % 2=1:=by omega
 unfold Px.cQ;rw[if_pos h1,DE _ _ (by omega)]
 have:=qO (R / 2) 3988292384 (by omega) (by omega)
 rw[show ((R / 2:Nat):Int)=(R:Int) / 2 from by omega] at this;exact this
theorem Mo (R x k:Nat) (hR:R<4294967296) (hx:x<256) (h:(bits BinOp.and IntKind.i64 (bits BinOp.xor IntKind.i64 (R:Int) (bits BinOp.and IntKind.i64 ((x:Int) / 2^k) 1)) 1 == 1)=false) :
  (R:Int) / 2=((Px.cQ (R ^^^ (x / 2^k % 2)):Nat):Int):=by
 rw[IU R x k hR hx,beq_eq_false_iff_ne] at h;have h1:¬ (R ^^^ (x / 2^k % 2)) % 2=1:=by omega
 unfold Px.cQ;rw[if_neg h1,DE _ _ (by omega)];omega
theorem IE (t:ByteArray) (w:World) (hs:t.size<=1048576) :
  Calls Tryz.prog 100 #[.string t] w fun e w'=>e = .returned (.int .i64 ((Px.bL (Px.bE Px.au (af t)):Nat):Int))/\w'=w:=by
 go_enter Tryz.func100,Tryz.ntmps100;go_wp2;go_loop [3,4] (fun c j=>∃ i:Nat,i<=t.size/\j = .int .i64 (i:Int)/\c = .int .i64 ((Px.bE Px.au ((af t).take i):Nat):Int)) (fun _ j=>t.size - (intOf j).toNat)
 case atStart=>exact ⟨0,by omega,rfl,rfl⟩
 case round=>
  obtain ⟨i,hi,rfl,rfl⟩:=hrel;by_cases hlt:i<t.size
  ·have hC:Px.bE Px.au ((af t).take i)<4294967296:=AB _ _ (by decide) (fun x hx=>lK t x (List.mem_of_mem_take hx))
   have hx:t[i].toNat<256:=t[i].toNat_lt;have HN:Hid (Px.bE Px.au ((af t).take (i+1))=Px.lz 8 (Px.bE Px.au ((af t).take i)) t[i].toNat):=by
    show _=_;rw[uY t i hlt,Ct,Cw _ _ hx]
   generalize Px.bE Px.au ((af t).take i)=C at *;go_wp2;go_loop [3,5] (fun c j=>∃ k:Nat,k<=8/\j = .int .i64 (k:Int)/\c = .int .i64 ((Px.lz k C t[i].toNat:Nat):Int)) (fun _ j=>8 - (intOf j).toNat)
   case atStart=>exact ⟨0,by omega,rfl,rfl⟩
   case round=>
    obtain ⟨k,hk,rfl,rfl⟩:=hrel;have hR:=E0 k C t[i].toNat hC;have HK:Hid (Px.lz (k+1) C t[i].toNat=Px.cQ (Px.lz k C t[i].toNat ^^^ (t[i].toNat / 2^k % 2))):=rfl;by_cases hl8:k<8
    ·generalize Px.lz k C t[i].toNat=R at *
     go_wp2
     ·exact ⟨⟨k+1,by omega,by go_num,aV (by rw[HK.out];exact KQ R _ k hR hx ‹_›)⟩,by simp [intOf];omega⟩
     ·exact ⟨⟨k+1,by omega,by go_num,aV (by rw[HK.out];exact Mo R _ k hR hx ‹_›)⟩,by simp [intOf];omega⟩
    ·have hk8:k=8:=by omega
     subst hk8;go_wp2;exact ⟨⟨i+1,by omega,by go_num,aV (by rw[HN.out])⟩,by simp [intOf];omega⟩
  ·have hall:(af t).take i=af t:=List.take_of_length_le (by rw[aw];omega)
   rw[hall];have hC:Px.bE Px.au (af t)<4294967296:=AB _ _ (by decide) (lK t);generalize hQ:Px.bE Px.au (af t)=C at *;have HQ:Hid (Px.bE Px.au (af t)=C):=hQ;clear hQ;go_wp2;go_ret;exact ⟨ah (by rw[HQ.out];exact qO C 4294967295 hC (by omega)),rfl⟩
def gb (t:ByteArray) (i:Nat):Nat:=(af t).getD i 0
theorem mL (t:ByteArray) (i:Nat) (h:i<t.size):t[i].toNat=gb t i:=by
 unfold gb;rw[List.getD_eq_getElem?_getD,List.getElem?_eq_getElem (by rw[aw];exact h),qZ t i h];rfl
def okT (t:ByteArray) (i:Nat):Bool:=qb (gb t i) || (Em (gb t i) && i != 2)
def sO (t:ByteArray):Bool:=okT t 0 && okT t 1 && okT t 2 && okT t 3
theorem JU (t:ByteArray) (k x:Nat) (h:x=gb t k):okT t k=decide ((65<=x/\x<=90)\/(97<=x/\x<=122/\k≠2)):=by
 subst h;unfold okT qb Em;rw[Bool.eq_iff_iff];simp [and_assoc]
theorem KX (t:ByteArray) (k:Nat) (hk:k<4) (h:okT t k=false):sO t=false:=by
 unfold sO
 match k,hk with
 | 0,_=>simp [h]
 | 1,_=>simp [h]
 | 2,_=>simp [h]
 | 3,_=>simp [h]
theorem Jb (t:ByteArray) (h:∀ i,i<4->okT t i=true):sO t=true:=by
 unfold sO;simp [h 0 (by omega),h 1 (by omega),h 2 (by omega),h 3 (by omega)]
theorem fo (t:ByteArray) (w:World) (h:t.size=4) :
  Calls Tryz.prog 130 #[.string t] w fun e w'=>e = .returned (.bool (sO t))/\w'=w:=by
 have hs:(t.size:Int)=4:=by omega
 go_enter Tryz.func130,Tryz.ntmps130;go_wp2;go_loop [3] (fun j=>∃ k:Nat,k<=4/\j = .int .i64 (k:Int)/\Hid (∀ i,i<k->okT t i=true)) (fun j=>4 - (intOf j).toNat)
 case atStart=>exact ⟨0,by omega,rfl,fun i hi=>by omega⟩
 case round=>
  obtain ⟨k,hk,rfl,HB⟩:=hrel;by_cases hlt:k<4
  ·have hkk:k<t.size:=by omega
   have HG:Hid (_=_):=JU t k t[k].toNat (mL t k hkk);go_wp2
   all_goals first
    | (go_ret;refine ⟨bj (KX t k hlt ?_).symm,rfl⟩;rw[HG.out,decide_eq_false_iff_not];(try simp only [Bool.not_eq_true',decide_eq_false_iff_not,Bool.not_eq_false',decide_eq_true_iff,beq_iff_eq,beq_eq_false_iff_ne] at *);omega)
    | (refine ⟨⟨k+1,by omega,by go_num,fun i hi => ?_⟩,by simp [intOf];omega⟩;by_cases e:i=k;(subst e;rw[HG.out,decide_eq_true_iff];(try simp only [Bool.not_eq_true',decide_eq_false_iff_not,Bool.not_eq_false',decide_eq_true_iff,beq_iff_eq,beq_eq_false_iff_ne] at *);omega);exact HB.out i (by omega))
  ·go_wp2
   go_ret;exact ⟨bj (Jb t (fun i hi=>HB.out i (by omega))).symm,rfl⟩
def ty (t:ByteArray):Nat:=Px.dj (af t)
theorem Lm (t:ByteArray) (h:t.size=4):af t=[gb t 0,gb t 1,gb t 2,gb t 3]:=by
 have hl:(af t).length=4:=by rw[aw];exact h
 unfold gb
 match hm:af t,hl with
 | [a,b,c,d],_=>rfl
theorem fQ (t:ByteArray) (i:Nat):gb t i<256:=by
 unfold gb;by_cases h:i<(af t).length
 ·rw[List.getD_eq_getElem?_getD,List.getElem?_eq_getElem h];exact lK t _ (List.getElem_mem h)
 ·rw[List.getD_eq_getElem?_getD,List.getElem?_eq_none (by omega)];decide
theorem Ge (t:ByteArray) (h:t.size=4):ty t=256*(256*(256*gb t 0+gb t 1)+gb t 2)+gb t 3:=by
 unfold ty;rw[Lm t h];simp [Px.dj]
theorem xH (t:ByteArray) (h:t.size=4):tyB (ty t)=sO t:=by
 have a:=fQ t 0;have b:=fQ t 1;have c:=fQ t 2;have d:=fQ t 3;unfold tyB sO okT qM;rw[Ge t h,show (256*(256*(256*gb t 0+gb t 1)+gb t 2)+gb t 3) / 16777216 % 256=gb t 0 from by omega,show (256*(256*(256*gb t 0+gb t 1)+gb t 2)+gb t 3) / 65536 % 256=gb t 1 from by omega,show (256*(256*(256*gb t 0+gb t 1)+gb t 2)+gb t 3) / 256 % 256=gb t 2 from by omega,show (256*(256*(256*gb t 0+gb t 1)+gb t 2)+gb t 3) % 256=gb t 3 from by omega];simp
theorem toList_map (t:ByteArray):t.toList.map UInt8.toNat=af t:=by
 unfold af;rw[ByteArray.toList_eq]
theorem zI (t:ByteArray) (h:t.size=4) (a b c d:UInt8) (n:Nat) (hn:n=256*(256*(256*a.toNat+b.toNat)+c.toNat)+d.toNat):(t.toList == [a,b,c,d])=decide (ty t=n):=by
 rw[Bool.eq_iff_iff,beq_iff_eq,decide_eq_true_iff,Ge t h,hn];have h0:=fQ t 0;have h1:=fQ t 1;have h2:=fQ t 2;have h3:=fQ t 3;have ha:=a.toNat_lt;have hb:=b.toNat_lt;have hc:=c.toNat_lt;have hd:=d.toNat_lt;have hm:=toList_map t;rw[Lm t h] at hm
 constructor
 ·intro e
  rw[e] at hm;simp at hm;omega
 ·intro e
  have e0:gb t 0=a.toNat:=by omega
  have e1:gb t 1=b.toNat:=by omega
  have e2:gb t 2=c.toNat:=by omega
  have e3:gb t 3=d.toNat:=by omega
  rw[e0,e1,e2,e3] at hm
  have:t.toList.map UInt8.toNat=[a,b,c,d].map UInt8.toNat:=hm
  exact (List.map_inj_right (fun x y hxy=>UInt8.toNat_inj.1 hxy)).1 this
theorem xI (t:ByteArray) (h:t.size=4):(t.toList == [73,72,68,82])=decide (ty t=Px.aY):=zI t h 73 72 68 82 _ rfl
theorem CY (t:ByteArray) (h:t.size=4):(t.toList == [80,76,84,69])=decide (ty t=Px.cq):=zI t h 80 76 84 69 _ rfl
theorem CX (t:ByteArray) (h:t.size=4):(t.toList == [116,82,78,83])=decide (ty t=Px.bZ):=zI t h 116 82 78 83 _ rfl
theorem xJ (t:ByteArray) (h:t.size=4):(t.toList == [73,68,65,84])=decide (ty t=Px.aJ):=zI t h 73 68 65 84 _ rfl
theorem CZ (t:ByteArray) (h:t.size=4):(t.toList == [73,69,78,68])=decide (ty t=Px.cS):=zI t h 73 69 78 68 _ rfl
end Go.Proofs.YtgooinallljbpaaGreatDoor
namespace Px
theorem vX {l:List Nat} {n v k:Nat} (h:fD l n v k) (h2:¬ kZ l n v k):fD l n v (k+1):=by
 intro s hs;by_cases e:s=k
 ·subst e;exact h2
 ·exact h s (by omega)
theorem vb {l:List Nat} {n v k:Nat}:fA l n v (k+1) ↔ fA l n v k\/uK l n v k:=by
 constructor
 ·rintro ⟨s,hs,hm⟩
  by_cases e:s=k
  ·subst e;exact Or.inr hm
  ·exact Or.inl ⟨s,by omega,hm⟩
 ·rintro (⟨s,hs,hm⟩ | hm)
  ·exact ⟨s,by omega,hm⟩
  ·exact ⟨k,by omega,hm⟩
end Px
