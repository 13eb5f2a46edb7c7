import Derived.Test.YtmbmecfodigciaaGreatDoorGr18
set_option maxRecDepth 100000
set_option maxHeartbeats 6400000
namespace Go.Proofs.YtmbmecfodigciaaGreatDoor
open Go.RowKit Px
set_option linter.unusedSimpArgs false
set_option linter.unusedVariables false
def Tl.smp (t:Tl) (i:Nat):Nat:=t.clear (2*i)*256+t.clear (2*i+1)
theorem i64_or8 (a c:Nat) (ha:a<256) (hc:c<256):bits BinOp.or IntKind.i64 ((a:Int)*256) (c:Int)=((a*256+c:Nat):Int):=by
 show IntKind.i64.wrap ((BitVec.ofInt 64 ((a:Int)*256) ||| BitVec.ofInt 64 (c:Int)).toNat:Int)=_
 rw[show (a:Int)*256=((a*256:Nat):Int) from by omega,BitVec.toNat_or,ofInt_64 _ (by omega),ofInt_64 _ (by omega),nat_join 8 (a*256) c (by omega) (by omega),IntKind.wrap_i64]
 omega
theorem clearSample_x (b o n i:Nat) (c:Nat→Value) (t:Tl) (w:World) (hB:Blk w b n c) (hV:TlV c o t) (hn:o+1026≤n) (hi:i<4) (hc:∀ j,t.clear j<256) :
  Calls Tryz.prog 146 #[.pointer (some ⟨b,o,none⟩),.int .i64 (i:Int)] w fun e w'=>e = .returned (.int .i64 (t.smp i:Int))∧∃ q,w'=w.drewN q:=by
 have r0:=hB.at (i:=o+768+2*i) (by omega) (hV.clear (2*i) (by omega))
 have r1:=hB.at (i:=o+768+(2*i+1)) (by omega) (hV.clear (2*i+1) (by omega))
 have k0:=hc (2*i)
 have k1:=hc (2*i+1)
 have e5:Hid (_=_):=i64_or8 _ _ k0 k1
 have HS:Hid (t.smp i=t.clear (2*i)*256+t.clear (2*i+1)):=rfl
 obtain ⟨A,hA⟩:∃ A,A=2*i:=⟨_,rfl⟩
 have eA:2*(i:Int)=(A:Int):=by omega
 rw[← hA] at r0 r1 k0 k1 e5 HS
 obtain ⟨C,hC⟩:∃ C,C=A+1:=⟨_,rfl⟩
 have eC:(A:Int)+1=(C:Int):=by omega
 rw[← hC] at r1 k1 e5 HS
 have a0:(0:Int)≤(A:Int):=by omega
 have a1:(A:Int)<256:=by omega
 have c0:(0:Int)≤(C:Int):=by omega
 have c1:(C:Int)<256:=by omega
 have i0:¬ (i:Int)<0:=by omega
 have i1:¬ (128:Int)≤(i:Int):=by omega
 clear hB hV hc hA hC
 generalize t.clear A=X at *
 generalize t.clear C=Y at *
 go_enter Tryz.func146,Tryz.ntmps146
 go_wp2
 go_quiet (fail)
 go_wp2
 go_ret
 exact ⟨ret_int (by rw[HS.out];exact e5.out),_,rfl⟩
def Rd.clearBad (s:Rd) (i:Nat):Bool:=decide (2^s.hd.D≤s.tl.smp i)
def Rd.acceptClear (s:Rd):Nat:=if s.hd.K=3 then 0 else if (List.range (chn s.hd.K)).any s.clearBad then 9 else 0
theorem any_bad (s:Rd) (k:Nat) (h:k<chn s.hd.K) (hb:s.clearBad k=true):(List.range (chn s.hd.K)).any s.clearBad=true:=by
 rw[List.any_eq_true];exact ⟨k,List.mem_range.2 h,hb⟩
theorem any_good (s:Rd) (k:Nat) (h:chn s.hd.K≤k) (hb:∀ j,j<k→s.clearBad j=false):(List.range (chn s.hd.K)).any s.clearBad=false:=by
 rw[List.any_eq_false];intro j hj;have:=List.mem_range.1 hj;rw[hb j (by omega)];decide
theorem acceptClear_x (b o n:Nat) (c:Nat→Value) (s:Rd) (w:World) (hB:Blk w b n c) (hV:RdV c o s) (hn:o+5954≤n) (hD:s.hd.D≤16) (hK:s.hd.K≤6) (hc:∀ j,s.tl.clear j<256) :
  Calls Tryz.prog 123 #[.pointer (some ⟨b,o,none⟩)] w fun e w'=>e = .returned (.int .i64 (s.acceptClear:Int))∧Kept w w':=by
 have kk:=hB.at (i:=o+6+3) (by omega) hV.hd.K
 by_cases h3:s.hd.K=3
 ·have HE:Hid (s.acceptClear=0):=by show s.acceptClear=0;unfold Rd.acceptClear;rw[if_pos h3]
  rw[h3] at kk
  clear hB hV hc h3 hK
  go_enter Tryz.func123,Tryz.ntmps123
  go_wp2
  go_ret
  exact ⟨ret_int (by rw[HE.out];rfl),Kept.refl _⟩
 ·have HE:Hid (s.acceptClear=if (List.range (chn s.hd.K)).any s.clearBad then 9 else 0):=by show s.acceptClear=_;unfold Rd.acceptClear;rw[if_neg h3]
  have g3:((s.hd.K:Int) == 3)=false:=by rw[beq_eq_false_iff_ne];omega
  have HB:Hid (Blk w b n c):=hB
  have HV:Hid (RdV c o s):=hV
  have HC:Hid (∀ j,s.tl.clear j<256):=hc
  have FJ:Hid (∀ W':World,Calls Tryz.prog 93 #[.int .i64 (s.hd.K:Int)] W' fun e w'=>e = .returned (.int .i64 (chn s.hd.K:Int))∧w'=W'):=fun W'=>samples_x _ W' (by omega)
  have hch:=chn_le s.hd.K
  obtain ⟨C,hC⟩:∃ C,C=chn s.hd.K:=⟨_,rfl⟩
  rw[← hC] at FJ hch
  replace hC:Hid _:=hC
  clear hB hV hc h3
  go_enter Tryz.func123,Tryz.ntmps123
  go_wp2_with fail
  refine (FJ.out _).mono ?_
  rintro e w1 ⟨rfl,hw1⟩
  subst w1
  go_wp2_with fail
  go_loopg [4] C (fun m v W=>∃ k:Nat,m=C - k∧k≤C∧v = .int .i64 (k:Int)∧Kept w W∧(∀ j,j<k→s.clearBad j=false))
  case atStart=>exact ⟨0,by omega,by omega,rfl,Kept.refl _,fun j hj=>by omega⟩
  case round=>
   obtain ⟨k,hgk,hkC,rfl,hkw,hgood⟩:=hrel
   have HKW:Hid (Kept w wr):=hkw
   replace hgk:Hid _:=hgk
   replace hgood:Hid _:=hgood
   clear hkw
   by_cases hlt:k<C
   ·have hlt':(k:Int)<(C:Int):=by omega
    obtain ⟨M,hM⟩:∃ M,M=2^s.hd.D:=⟨_,rfl⟩
    obtain ⟨V,hVv⟩:∃ V,V=s.tl.smp k:=⟨_,rfl⟩
    have hV6:V<65536:=by rw[hVv];unfold Tl.smp;have:=HC.out (2*k);have:=HC.out (2*k+1);omega
    have HBd:Hid (s.clearBad k=decide (M≤V)):=by show s.clearBad k=_;unfold Rd.clearBad;rw[hM,hVv]
    have BB:Hid (Blk wr b n c):=HB.out.kept HKW.out
    have F1:Hid (∀ W,Kept wr W→Calls Tryz.prog 128 #[.agg #[.int .i64 (s.hd.W:Int),.int .i64 (s.hd.H:Int),.int .i64 (s.hd.D:Int),.int .i64 (s.hd.K:Int),.int .i64 (s.hd.L:Int)]] W fun e w'=>e = .returned (.int .u32 (M:Int))∧Kept W w'):=fun W _=>(ulevels_any _ _ _ _ _ W hD).mono (fun e w' ⟨q1,q2⟩=>⟨by rw[q1,hM],by rw[q2];exact Below.alloc (Below.refl _ _) (Nat.le_refl _) _⟩)
    have F2:Hid (∀ W,Kept wr W→Calls Tryz.prog 146 #[.pointer (some ⟨b,o+24,none⟩),.int .i64 (k:Int)] W fun e w'=>e = .returned (.int .i64 (V:Int))∧Kept W w'):=fun W kW=>(clearSample_x b (o+24) n k c s.tl W (BB.out.kept kW) HV.out.tl (by omega) (by omega) HC.out).mono (fun e w' ⟨q1,q,q2⟩=>⟨by rw[q1,hVv],by rw[q2];exact (Kept.refl _).drewN _⟩)
    have eV:IntKind.u32.wrap (V:Int)=(V:Int):=by rw[IntKind.wrap_u32];omega
    have hbr:=BB.out.lt
    have HCell:Hid (∀ W,Kept wr W→(W.cell? ⟨b,o+6,none⟩=some (.int .i64 (s.hd.W:Int))∧W.cell? ⟨b,o+6+1,none⟩=some (.int .i64 (s.hd.H:Int))∧W.cell? ⟨b,o+6+2,none⟩=some (.int .i64 (s.hd.D:Int))∧W.cell? ⟨b,o+6+3,none⟩=some (.int .i64 (s.hd.K:Int))∧W.cell? ⟨b,o+6+4,none⟩=some (.int .i64 (s.hd.L:Int)))):=fun W kW=>
     have B:=BB.out.kept kW
     ⟨B.at (by omega) HV.out.hd.W,B.at (by omega) HV.out.hd.H,B.at (by omega) HV.out.hd.D,B.at (by omega) HV.out.hd.K,B.at (by omega) HV.out.hd.L⟩
    clear hM hVv kk
    by_cases hb:M≤V
    ·have hb':decide ((M:Int)≤(V:Int))=true:=decide_eq_true (by omega)
     have HG:Hid (s.clearBad k=true):=by show s.clearBad k=true;rw[HBd.out];exact decide_eq_true hb
     have hbN:decide (M≤V)=true:=decide_eq_true hb
     clear hb HBd
     go_wp2_with fail
     go_region_held3 (fun W=>Kept wr W∧W.cell? ⟨b,o+6,none⟩=some (.int .i64 (s.hd.W:Int))∧W.cell? ⟨b,o+6+1,none⟩=some (.int .i64 (s.hd.H:Int))∧W.cell? ⟨b,o+6+2,none⟩=some (.int .i64 (s.hd.D:Int))∧W.cell? ⟨b,o+6+3,none⟩=some (.int .i64 (s.hd.K:Int))∧W.cell? ⟨b,o+6+4,none⟩=some (.int .i64 (s.hd.L:Int))) (first | exact ⟨hk2,HCell.out _ hk2⟩ | exact ⟨(Kept.refl _).drewN 1,HCell.out _ ((Kept.refl _).drewN 1)⟩ | go_keep) ((first | (go_at_call 128;refine (F1.out _ (by first | exact hk2 | exact (Kept.refl _).drewN 1)).mono ?_;rintro e w2 ⟨rfl,hk2'⟩;have hk2:Kept wr w2:=(by first | exact hk2.trans hk2' | exact ((Kept.refl _).drewN 1).trans hk2')) | (go_at_call 146;refine (F2.out _ (by first | exact hk2 | exact (Kept.refl _).drewN 1)).mono ?_;rintro e w2 ⟨rfl,hk2'⟩;have hk2:Kept wr w2:=(by first | exact hk2.trans hk2' | exact ((Kept.refl _).drewN 1).trans hk2'))))
     have HE2:Hid (s.acceptClear=9):=by show s.acceptClear=9;rw[HE.out,if_pos (any_bad s k (by rw[← hC.out];exact hlt) HG.out)]
     go_wp2
     go_ret
     exact ⟨ret_int (by rw[HE2.out];rfl),HKW.out.trans hk2⟩
    ·have hb':decide ((M:Int)≤(V:Int))=false:=decide_eq_false (by omega)
     have HG:Hid (s.clearBad k=false):=by show s.clearBad k=false;rw[HBd.out];exact decide_eq_false hb
     have hbN:decide (M≤V)=false:=decide_eq_false hb
     clear hb HBd
     go_wp2_with fail
     go_region_held3 (fun W=>Kept wr W∧W.cell? ⟨b,o+6,none⟩=some (.int .i64 (s.hd.W:Int))∧W.cell? ⟨b,o+6+1,none⟩=some (.int .i64 (s.hd.H:Int))∧W.cell? ⟨b,o+6+2,none⟩=some (.int .i64 (s.hd.D:Int))∧W.cell? ⟨b,o+6+3,none⟩=some (.int .i64 (s.hd.K:Int))∧W.cell? ⟨b,o+6+4,none⟩=some (.int .i64 (s.hd.L:Int))) (first | exact ⟨hk2,HCell.out _ hk2⟩ | exact ⟨(Kept.refl _).drewN 1,HCell.out _ ((Kept.refl _).drewN 1)⟩ | go_keep) ((first | (go_at_call 128;refine (F1.out _ (by first | exact hk2 | exact (Kept.refl _).drewN 1)).mono ?_;rintro e w2 ⟨rfl,hk2'⟩;have hk2:Kept wr w2:=(by first | exact hk2.trans hk2' | exact ((Kept.refl _).drewN 1).trans hk2')) | (go_at_call 146;refine (F2.out _ (by first | exact hk2 | exact (Kept.refl _).drewN 1)).mono ?_;rintro e w2 ⟨rfl,hk2'⟩;have hk2:Kept wr w2:=(by first | exact hk2.trans hk2' | exact ((Kept.refl _).drewN 1).trans hk2'))))
     go_wp2_with fail
     go_roundg (C - (k+1))
     case measure=>rw[hgk.out];omega
     case rel=>
      exact ⟨k+1,rfl,by omega,by go_num,HKW.out.trans hk2,fun j hj=>by
       by_cases e:j=k
       ·rw[e];exact HG.out
       ·exact hgood.out j (by omega)⟩
   ·have hlt':¬ (k:Int)<(C:Int):=by omega
    have HE2:Hid (s.acceptClear=0):=by show s.acceptClear=0;rw[HE.out,if_neg (by rw[any_good s k (by rw[← hC.out];omega) hgood.out];decide)]
    go_wp2
    go_ret
    exact ⟨ret_int (by rw[HE2.out];rfl),HKW.out⟩
def Rd.acceptHead (s:Rd):Rd × Nat:=if (headOf s.raw).1≠0 then (s,(headOf s.raw).1) else ({ s with hd:=(headOf s.raw).2 },0)
theorem HdV.set5 {c:Nat→Value} {o:Nat} {h:Hd} (k:HdV c o h) (g:Hd):HdV (upd (upd (upd (upd (upd c o (.int .i64 (g.W:Int))) (o+1) (.int .i64 (g.H:Int))) (o+2) (.int .i64 (g.D:Int))) (o+3) (.int .i64 (g.K:Int))) (o+4) (.int .i64 (g.L:Int))) o g:=
 ((((k.set_W g.W).set_H g.H).set_D g.D).set_K g.K).set_L g.L
theorem acceptHead_x (b o n:Nat) (c:Nat→Value) (s:Rd) (w:World) (hB:Blk w b n c) (hV:RdV c o s) (hn:o+5954≤n) (hr:∀ i,s.raw i<256) :
  Calls Tryz.prog 122 #[.pointer (some ⟨b,o,none⟩)] w fun e w'=>e = .returned (.int .i64 (s.acceptHead.2:Int))∧RdStep b o n c s.acceptHead.1 w w':=by
 have r0:=hB.at (i:=o+11) (by omega) (hV.raw 0 (by omega))
 have r1:=hB.at (i:=o+11+1) (by omega) (hV.raw 1 (by omega))
 have r2:=hB.at (i:=o+11+2) (by omega) (hV.raw 2 (by omega))
 have r3:=hB.at (i:=o+11+3) (by omega) (hV.raw 3 (by omega))
 have r4:=hB.at (i:=o+11+4) (by omega) (hV.raw 4 (by omega))
 have r5:=hB.at (i:=o+11+5) (by omega) (hV.raw 5 (by omega))
 have r6:=hB.at (i:=o+11+6) (by omega) (hV.raw 6 (by omega))
 have r7:=hB.at (i:=o+11+7) (by omega) (hV.raw 7 (by omega))
 have r8:=hB.at (i:=o+11+8) (by omega) (hV.raw 8 (by omega))
 have r9:=hB.at (i:=o+11+9) (by omega) (hV.raw 9 (by omega))
 have r10:=hB.at (i:=o+11+10) (by omega) (hV.raw 10 (by omega))
 have r11:=hB.at (i:=o+11+11) (by omega) (hV.raw 11 (by omega))
 have r12:=hB.at (i:=o+11+12) (by omega) (hV.raw 12 (by omega))
 have HB:Hid (Blk w b n c):=hB
 have HV:Hid (RdV c o s):=hV
 have hbw:=hB.lt
 have HE:Hid (s.acceptHead=if (headOf s.raw).1≠0 then (s,(headOf s.raw).1) else ({ s with hd:=(headOf s.raw).2 },0)):=rfl
 have F:Hid (Calls Tryz.prog 145 #[.agg #[.int .u8 (s.raw 0:Int),.int .u8 (s.raw 1:Int),.int .u8 (s.raw 2:Int),.int .u8 (s.raw 3:Int),.int .u8 (s.raw 4:Int),.int .u8 (s.raw 5:Int),.int .u8 (s.raw 6:Int),.int .u8 (s.raw 7:Int),.int .u8 (s.raw 8:Int),.int .u8 (s.raw 9:Int),.int .u8 (s.raw 10:Int),.int .u8 (s.raw 11:Int),.int .u8 (s.raw 12:Int)]] w fun e w'=>e = .returned (.tuple #[hdV (headOf s.raw).2,.int .i64 ((headOf s.raw).1:Int)])∧Kept w w'):=headRead_any s.raw w hr
 clear hB hV hr
 obtain ⟨E,hE⟩:∃ E,E=(headOf s.raw).1:=⟨_,rfl⟩
 obtain ⟨G,hG⟩:∃ G,G=(headOf s.raw).2:=⟨_,rfl⟩
 rw[← hE,← hG] at F HE
 clear hE hG
 unfold hdV at F
 by_cases hz:E=0
 ·have hz':((E:Int) != 0)=false:=by rw[bne_eq_false_iff_eq];omega
  have HE2:Hid (s.acceptHead=({ s with hd:=G },0)):=by show s.acceptHead=_;rw[HE.out,if_neg (fun k=>k hz)]
  replace hz:Hid _:=hz
  go_enter Tryz.func122,Tryz.ntmps122
  go_wp2_with fail
  refine F.out.mono ?_
  rintro e w1 ⟨rfl,hk⟩
  have B1:Hid (Blk w1 b n c):=HB.out.kept hk
  have F1:Hid (Fr1 b w w1):=Fr.of_kept hk
  have d0:=B1.out.at (i:=o+6) (by omega) HV.out.hd.W
  have d1:=B1.out.at (i:=o+6+1) (by omega) HV.out.hd.H
  have d2:=B1.out.at (i:=o+6+2) (by omega) HV.out.hd.D
  have d3:=B1.out.at (i:=o+6+3) (by omega) HV.out.hd.K
  have d4:=B1.out.at (i:=o+6+4) (by omega) HV.out.hd.L
  have z:=B1.out.fz
  have hb1:=B1.out.lt
  clear r0 r1 r2 r3 r4 r5 r6 r7 r8 r9 r10 r11 r12 hk F HB
  go_wp2
  go_ret
  rw[HE2.out]
  have hB2:=((((B1.out.set (k:=o+6) (by omega) (.int .i64 (G.W:Int))).set (k:=o+6+1) (by omega) (.int .i64 (G.H:Int))).set (k:=o+6+2) (by omega) (.int .i64 (G.D:Int))).set (k:=o+6+3) (by omega) (.int .i64 (G.K:Int))).set (k:=o+6+4) (by omega) (.int .i64 (G.L:Int))
  refine ⟨rfl,_,hB2.kept (Below.alloc (Below.refl _ _) (Nat.le_refl _) _),HV.out.set_hd G (HV.out.hd.set5 G) (fun i hi => ?_),⟨fun i hi => ?_⟩,Fr.alloc (Fr1.set (Fr1.set (Fr1.set (Fr1.set (Fr1.set F1.out _ _) _ _) _ _) _ _) _ _) _⟩
  ·rw[upd_ne _ _ _ (by omega),upd_ne _ _ _ (by omega),upd_ne _ _ _ (by omega),upd_ne _ _ _ (by omega),upd_ne _ _ _ (by omega)]
  ·rw[upd_ne _ _ _ (by omega),upd_ne _ _ _ (by omega),upd_ne _ _ _ (by omega),upd_ne _ _ _ (by omega),upd_ne _ _ _ (by omega)]
 ·have hz':((E:Int) != 0)=true:=by rw[bne_iff_ne];omega
  have HE2:Hid (s.acceptHead=(s,E)):=by show s.acceptHead=_;rw[HE.out,if_pos hz]
  go_enter Tryz.func122,Tryz.ntmps122
  go_wp2_with fail
  refine F.out.mono ?_
  rintro e w1 ⟨rfl,hk⟩
  clear r0 r1 r2 r3 r4 r5 r6 r7 r8 r9 r10 r11 r12
  go_wp2
  go_ret
  rw[HE2.out]
  exact ⟨rfl,RdStep.of_kept HB.out HV.out (Below.alloc hk hk.size _)⟩
def Rd.accept (s:Rd):Rd × Nat:=if s.ctype=ihdr then s.acceptHead else if s.ctype=trns then (s,s.acceptClear) else (s,0)
theorem accept_x (b o n:Nat) (c:Nat→Value) (s:Rd) (w:World) (hB:Blk w b n c) (hV:RdV c o s) (hn:o+5954≤n) (hr:∀ i,s.raw i<256) (hD:s.hd.D≤16) (hK:s.hd.K≤6) (hc:∀ j,s.tl.clear j<256) :
  Calls Tryz.prog 86 #[.pointer (some ⟨b,o,none⟩)] w fun e w'=>e = .returned (.int .i64 (s.accept.2:Int))∧RdStep b o n c s.accept.1 w w':=by
 have k4:=hB.at (i:=o+4) (by omega) hV.ctype
 have HB:Hid (Blk w b n c):=hB
 have HV:Hid (RdV c o s):=hV
 have HE:Hid (s.accept=if s.ctype=ihdr then s.acceptHead else if s.ctype=trns then (s,s.acceptClear) else (s,0)):=rfl
 by_cases c1:s.ctype=ihdr
 ·have HE1:Hid (s.accept=s.acceptHead):=by show s.accept=_;rw[HE.out,if_pos c1]
  have F:Hid (Calls Tryz.prog 122 #[.pointer (some ⟨b,o,none⟩)] w fun e w'=>e = .returned (.int .i64 (s.acceptHead.2:Int))∧RdStep b o n c s.acceptHead.1 w w'):=acceptHead_x b o n c s w hB hV hn hr
  rw[c1] at k4
  clear hB hV hr hc c1 HE
  unfold ihdr at k4
  go_enter Tryz.func86,Tryz.ntmps86
  go_wp2_with fail
  refine F.out.mono ?_
  rintro e w1 ⟨rfl,h1⟩
  go_wp2_with fail
  go_ret
  rw[HE1.out]
  exact ⟨rfl,h1⟩
 ·by_cases c3:s.ctype=trns
  ·have HE1:Hid (s.accept=(s,s.acceptClear)):=by show s.accept=_;rw[HE.out,if_neg c1,if_pos c3]
   have F:Hid (Calls Tryz.prog 123 #[.pointer (some ⟨b,o,none⟩)] w fun e w'=>e = .returned (.int .i64 (s.acceptClear:Int))∧Kept w w'):=acceptClear_x b o n c s w hB hV hn hD hK hc
   rw[c3] at k4
   clear hB hV hr hc c1 c3 HE
   unfold trns at k4
   go_enter Tryz.func86,Tryz.ntmps86
   go_wp2_with fail
   refine F.out.mono ?_
   rintro e w1 ⟨rfl,h1⟩
   go_wp2_with fail
   go_ret
   rw[HE1.out]
   exact ⟨rfl,RdStep.of_kept HB.out HV.out h1⟩
  ·have HE1:Hid (s.accept=(s,0)):=by show s.accept=_;rw[HE.out,if_neg c1,if_neg c3]
   have g1:=cty s ihdr c1
   have g3:=cty s trns c3
   clear hB hV hr hc c1 c3 HE
   unfold ihdr at g1
   unfold trns at g3
   go_enter Tryz.func86,Tryz.ntmps86
   go_wp2_with fail
   go_ret
   rw[HE1.out]
   exact ⟨rfl,RdStep.refl HB.out HV.out⟩
def Rd.summed (s:Rd) (x:Nat):Rd:={ s with sum:=crcAdd s.sum x }
def Rd.dataEnd (s:Rd):Rd:=if s.taken+1=s.length then ({ s with taken:=s.taken+1 }:Rd).enter 4 else { s with taken:=s.taken+1 }
def Rd.takeData (s:Rd) (x:Nat):Rd × Nat:=if ((s.summed x).keep x).2≠0 then (s.summed x).keep x else (((s.summed x).keep x).1.dataEnd,0)
theorem takeData_x (b o n x:Nat) (c:Nat→Value) (s:Rd) (w:World) (hB:Blk w b n c) (hV:RdV c o s) (hn:o+5954≤n) (hx:x<256) (hs:s.sum<4294967296) (hk:KeepOk (s.summed x) x) (ht:((s.summed x).keep x).1.taken<2147483648) (hG:GrdAt w) (hb:b≠0) :
  Calls Tryz.prog 54 #[.pointer (some ⟨b,o,none⟩),.int .u8 (x:Int)] w fun e w'=>e = .returned (.int .i64 ((s.takeData x).2:Int))∧RdStep b o n c (s.takeData x).1 w w':=by
 have k5:=hB.at (i:=o+5) (by omega) hV.sum
 have z:=hB.fz
 have HG:Hid (∀ W,Fr1 b w W→GrdAt W):=fun W f=>hG.fr f (fun q=>hb q.symm)
 have FC:Hid (∀ W,Calls Tryz.prog 81 #[.int .u32 (s.sum:Int),.int .u8 (x:Int)] W fun e w'=>e = .returned (.int .u32 (crcAdd s.sum x:Nat))∧w'=W):=fun W=>crcAdd_any _ _ W hs hx
 obtain ⟨A,hA⟩:∃ A,A=crcAdd s.sum x:=⟨_,rfl⟩
 have B1:Hid (Blk (w.setCell ⟨b,o+5,none⟩ (.int .u32 (A:Int))) b n (upd c (o+5) (.int .u32 (A:Int)))):=hB.set (by omega) _
 have V1:Hid (RdV (upd c (o+5) (.int .u32 (A:Int))) o (s.summed x)):=by
  have:=hV.set_sum A
  rw[hA] at this ⊢
  exact this
 have C1:Hid (FrC b o (o+5954) c (upd c (o+5) (.int .u32 (A:Int)))):=FrC.upd _ (by omega) (by omega)
 have F1:Hid (Fr1 b w (w.setCell ⟨b,o+5,none⟩ (.int .u32 (A:Int)))):=Fr1.set (Fr.refl _ _) _ _
 rw[← hA] at FC
 have HE:Hid (s.takeData x=if ((s.summed x).keep x).2≠0 then (s.summed x).keep x else (((s.summed x).keep x).1.dataEnd,0)):=rfl
 have HK:Hid (KeepOk (s.summed x) x):=hk
 clear hB hV hG hA hk
 go_enter Tryz.func54,Tryz.ntmps54
 go_wp2_with fail
 refine (FC.out _).mono ?_
 rintro e w1 ⟨rfl,hw1⟩
 subst w1
 go_wp2_with fail
 generalize w.setCell ⟨b,o+5,none⟩ (.int .u32 (A:Int))=w1 at *
 generalize upd c (o+5) (.int .u32 (A:Int))=c1 at *
 clear k5 z FC
 refine (keep_x b o n x c1 (s.summed x) w1 B1.out V1.out hn hx HK.out (HG.out _ F1.out) hb).mono ?_
 rintro e w2 ⟨rfl,d,hB2,hV2,hC2,hF2⟩
 obtain ⟨E,hE⟩:∃ E,E=((s.summed x).keep x).2:=⟨_,rfl⟩
 obtain ⟨q,hq⟩:∃ q,q=((s.summed x).keep x).1:=⟨_,rfl⟩
 have hkq:(s.summed x).keep x=(q,E):=by rw[hE,hq]
 rw[hkq] at HE
 rw[← hq] at hV2 ht
 rw[← hE]
 clear hE hq hkq
 have B2:Hid (Blk w2 b n d):=hB2
 have V2:Hid (RdV d o q):=hV2
 have C2:Hid (FrC b o (o+5954) c d):=C1.out.trans hC2
 have F2:Hid (Fr1 b w w2):=F1.out.trans hF2
 have k1:=hB2.at (i:=o+1) (by omega) hV2.taken
 have z1:=hB2.fz (o+1)
 clear hB2 hV2 hC2 hF2 B1 V1 C1 F1 HK
 by_cases hz:E=0
 ·have hz':((E:Int) != 0)=false:=by rw[bne_eq_false_iff_eq];omega
  obtain ⟨T,hT⟩:∃ T,T=q.taken+1:=⟨_,rfl⟩
  have eT:(q.taken:Int)+1=(T:Int):=by omega
  have HE2:Hid (s.takeData x=(if T=q.length then ({ q with taken:=T }:Rd).enter 4 else { q with taken:=T },0)):=by
   show s.takeData x=_
   rw[HE.out,if_neg (fun k=>k hz),hT]
   rfl
  have hT31:T≤2147483648:=by omega
  replace hz:Hid _:=hz
  clear hT HE ht
  have B3:Hid (Blk (w2.setCell ⟨b,o+1,none⟩ (.int .u32 (T:Int))) b n (upd d (o+1) (.int .u32 (T:Int)))):=B2.out.set (by omega) _
  have V3:Hid (RdV (upd d (o+1) (.int .u32 (T:Int))) o { q with taken:=T }):=V2.out.set_taken T
  have C3:Hid (FrC b o (o+5954) c (upd d (o+1) (.int .u32 (T:Int)))):=C2.out.trans (FrC.upd _ (by omega) (by omega))
  have F3:Hid (Fr1 b w (w2.setCell ⟨b,o+1,none⟩ (.int .u32 (T:Int)))):=Fr1.set F2.out _ _
  have eTm:(T:Int) % 4294967296=(T:Int):=by omega
  replace hT31:Hid _:=hT31
  go_upto_region 6 with fail
  generalize w2.setCell ⟨b,o+1,none⟩ (.int .u32 (T:Int))=w3 at *
  generalize upd d (o+1) (.int .u32 (T:Int))=d3 at *
  clear k1 z1 B2 V2 C2 F2
  have k1:=B3.out.at (i:=o+1) (by omega) V3.out.taken
  have k3:=B3.out.at (i:=o+3) (by omega) V3.out.length
  replace k1:w3.cell? ⟨b,o+1,none⟩=some (.int .u32 (T:Int)):=k1
  replace k3:w3.cell? ⟨b,o+3,none⟩=some (.int .u32 (q.length:Int)):=k3
  by_cases hl:T=q.length
  ·have hl':((T:Int) == (q.length:Int))=true:=by rw[beq_iff_eq];omega
   have HE3:Hid (s.takeData x=(({ q with taken:=T }:Rd).enter 4,0)):=by show s.takeData x=_;rw[HE2.out,if_pos hl]
   replace hl:Hid _:=hl
   go_quiet (fail)
   go_wp2_with fail
   refine (renter_x b o n 4 d3 { q with taken:=T } _ (B3.out.kept ((Kept.refl _).drewN _)) V3.out hn).mono ?_
   rintro e w4 ⟨rfl,h4⟩
   go_wp2_with fail
   go_ret
   rw[HE3.out]
   exact ⟨rfl,RdStep.next C3.out (F3.out.kept ((Kept.refl _).drewN _)) h4⟩
  ·have hl':((T:Int) == (q.length:Int))=false:=by rw[beq_eq_false_iff_ne];omega
   have HE3:Hid (s.takeData x=({ q with taken:=T },0)):=by show s.takeData x=_;rw[HE2.out,if_neg hl]
   replace hl:Hid _:=hl
   go_quiet (fail)
   go_wp2_with fail
   go_ret
   rw[HE3.out]
   exact ⟨rfl,d3,B3.out.kept ((Kept.refl _).drewN _),V3.out,C3.out,F3.out.kept ((Kept.refl _).drewN _)⟩
 ·have hz':((E:Int) != 0)=true:=by rw[bne_iff_ne];omega
  have HE2:Hid (s.takeData x=(q,E)):=by show s.takeData x=_;rw[HE.out,if_pos hz]
  clear ht
  go_wp2_with fail
  go_ret
  rw[HE2.out]
  exact ⟨rfl,d,B2.out,V2.out,C2.out,F2.out⟩
def Rd.takeSum (s:Rd) (x:Nat):Rd × Nat:=
 if s.taken+1≠4 then (s.num x,0)
 else if s.number*256+x≠crcEnd s.sum then (s.num x,6)
 else if (s.num x).accept.2≠0 then (s.num x).accept
 else if (s.num x).accept.1.ctype=iend then ((s.num x).accept.1.enter 5,0) else ((s.num x).accept.1.enter 1,0)
theorem rdTakeSum_x (b o n x:Nat) (c:Nat→Value) (s:Rd) (w:World) (hB:Blk w b n c) (hV:RdV c o s) (hn:o+5954≤n) (ht:s.taken<1000) (hm:s.number<16777216) (hx:x<256) (hs:s.sum<4294967296) (hr:∀ i,s.raw i<256) (hD:s.hd.D≤16) (hK:s.hd.K≤6) (hc:∀ j,s.tl.clear j<256) :
  Calls Tryz.prog 55 #[.pointer (some ⟨b,o,none⟩),.int .u8 (x:Int)] w fun e w'=>e = .returned (.int .i64 ((s.takeSum x).2:Int))∧RdStep b o n c (s.takeSum x).1 w w':=by
 have FN:Hid (Calls Tryz.prog 80 #[.pointer (some ⟨b,o,none⟩),.int .u8 (x:Int)] w fun e w'=>e = .returned (.bool (decide (s.taken+1=4)))∧RdStep b o n c (s.num x) w w'):=rnum_x b o n x c s w hB hV hn ht hm hx
 have HE:Hid (s.takeSum x=if s.taken+1≠4 then (s.num x,0) else if s.number*256+x≠crcEnd s.sum then (s.num x,6) else if (s.num x).accept.2≠0 then (s.num x).accept else if (s.num x).accept.1.ctype=iend then ((s.num x).accept.1.enter 5,0) else ((s.num x).accept.1.enter 1,0)):=rfl
 obtain ⟨N,hN⟩:∃ N,N=s.number*256+x:=⟨_,rfl⟩
 have HN:Hid ((s.num x).number=N):=hN.symm
 have HSm:Hid ((s.num x).sum=s.sum):=rfl
 have HA:Hid (∀ (W:World) (d:Nat→Value),Blk W b n d→RdV d o (s.num x)→Calls Tryz.prog 86 #[.pointer (some ⟨b,o,none⟩)] W fun e w'=>e = .returned (.int .i64 ((s.num x).accept.2:Int))∧RdStep b o n d (s.num x).accept.1 W w'):=fun W d h1 h2=>accept_x b o n d (s.num x) W h1 h2 hn hr hD hK hc
 rw[← hN] at HE
 have FE:Hid (∀ W,Calls Tryz.prog 85 #[.int .u32 (s.sum:Int)] W fun e w'=>e = .returned (.int .u32 (crcEnd s.sum:Nat))∧w'=W):=fun W=>crcEnd_any _ W hs
 obtain ⟨q,hq⟩:∃ q,q=s.num x:=⟨_,rfl⟩
 rw[← hq] at FN HE HN HA HSm
 obtain ⟨EN,hEN⟩:∃ EN,EN=crcEnd s.sum:=⟨_,rfl⟩
 rw[← hEN] at FE HE
 clear hB hV hN hq hr hc hEN
 by_cases h4:s.taken+1=4
 ·rw[decide_eq_true h4] at FN
  have HE2:Hid (s.takeSum x=if N≠EN then (q,6) else if q.accept.2≠0 then q.accept else if q.accept.1.ctype=iend then (q.accept.1.enter 5,0) else (q.accept.1.enter 1,0)):=by show s.takeSum x=_;rw[HE.out,if_neg (fun k=>k h4)]
  clear HE h4
  go_enter Tryz.func55,Tryz.ntmps55
  go_wp2_with fail
  refine FN.out.mono ?_
  rintro e w1 ⟨rfl,d,hB1,hV1,hC1,hF1⟩
  have k2:=hB1.at (i:=o+2) (by omega) hV1.number
  have k5:=hB1.at (i:=o+5) (by omega) hV1.sum
  rw[HN.out] at k2
  rw[HSm.out] at k5
  have B1:Hid (Blk w1 b n d):=hB1
  have V1:Hid (RdV d o q):=hV1
  have C1:Hid (FrC b o (o+5954) c d):=hC1
  have F1:Hid (Fr1 b w w1):=hF1
  clear hB1 hV1 hC1 hF1 FN
  by_cases h:N=EN
  ·have h':((N:Int) != (EN:Int))=false:=by rw[bne_eq_false_iff_eq];omega
   have HE3:Hid (s.takeSum x=if q.accept.2≠0 then q.accept else if q.accept.1.ctype=iend then (q.accept.1.enter 5,0) else (q.accept.1.enter 1,0)):=by show s.takeSum x=_;rw[HE2.out,if_neg (fun k=>k h)]
   replace h:Hid _:=h
   clear HE2
   go_wp2_with fail
   go_quiet ((go_at_call 85;exact Calls.quiet_of_same (FE.out _)))
   go_wp2_with fail
   refine (HA.out _ d (B1.out.kept ((Kept.refl _).drewN _)) V1.out).mono ?_
   rintro e w2 ⟨rfl,d2,hB2,hV2,hC2,hF2⟩
   have B2:Hid (Blk w2 b n d2):=hB2
   have V2:Hid (RdV d2 o q.accept.1):=hV2
   have C2:Hid (FrC b o (o+5954) c d2):=C1.out.trans hC2
   have F2:Hid (Fr1 b w w2):=(F1.out.kept ((Kept.refl _).drewN _)).trans hF2
   have k4:=hB2.at (i:=o+4) (by omega) hV2.ctype
   clear hB2 hV2 hC2 hF2 HA B1 V1 C1 F1
   obtain ⟨E,hE⟩:∃ E,E=q.accept.2:=⟨_,rfl⟩
   obtain ⟨p,hp⟩:∃ p,p=q.accept.1:=⟨_,rfl⟩
   have hqp:q.accept=(p,E):=by rw[hE,hp]
   rw[hqp] at HE3
   rw[← hp] at V2 k4
   rw[← hE]
   clear hE hp hqp
   by_cases hz:E=0
   ·have hz':((E:Int) != 0)=false:=by rw[bne_eq_false_iff_eq];omega
    have HE4:Hid (s.takeSum x=if p.ctype=iend then (p.enter 5,0) else (p.enter 1,0)):=by show s.takeSum x=_;rw[HE3.out,if_neg (fun k=>k hz)]
    replace hz:Hid _:=hz
    clear HE3
    by_cases hi:p.ctype=iend
    ·have HE5:Hid (s.takeSum x=(p.enter 5,0)):=by show s.takeSum x=_;rw[HE4.out,if_pos hi]
     have hi':((p.ctype:Int) == 1229278788)=true:=by rw[beq_iff_eq,hi];rfl
     replace hi:Hid _:=hi
     go_wp2_with fail
     refine (renter_x b o n 5 d2 p w2 B2.out V2.out hn).mono ?_
     rintro e w3 ⟨rfl,h3⟩
     go_wp2_with fail
     go_ret
     rw[HE5.out]
     exact ⟨rfl,RdStep.next C2.out F2.out h3⟩
    ·have HE5:Hid (s.takeSum x=(p.enter 1,0)):=by show s.takeSum x=_;rw[HE4.out,if_neg hi]
     have hi':=cty p iend hi
     clear hi
     unfold iend at hi'
     go_wp2_with fail
     refine (renter_x b o n 1 d2 p w2 B2.out V2.out hn).mono ?_
     rintro e w3 ⟨rfl,h3⟩
     go_wp2_with fail
     go_ret
     rw[HE5.out]
     exact ⟨rfl,RdStep.next C2.out F2.out h3⟩
   ·have hz':((E:Int) != 0)=true:=by rw[bne_iff_ne];omega
    have HE4:Hid (s.takeSum x=(p,E)):=by show s.takeSum x=_;rw[HE3.out,if_pos hz]
    go_wp2_with fail
    go_ret
    rw[HE4.out]
    exact ⟨rfl,d2,B2.out,V2.out,C2.out,F2.out⟩
  ·have h':((N:Int) != (EN:Int))=true:=by rw[bne_iff_ne];omega
   have HE3:Hid (s.takeSum x=(q,6)):=by show s.takeSum x=_;rw[HE2.out,if_pos h]
   clear h HE2
   go_wp2_with fail
   go_quiet ((go_at_call 85;exact Calls.quiet_of_same (FE.out _)))
   go_wp2_with fail
   go_ret
   rw[HE3.out]
   exact ⟨rfl,d,B1.out.kept ((Kept.refl _).drewN _),V1.out,C1.out,F1.out.kept ((Kept.refl _).drewN _)⟩
 ·rw[decide_eq_false h4] at FN
  have HE2:Hid (s.takeSum x=(q,0)):=by show s.takeSum x=_;rw[HE.out,if_pos h4]
  clear HE h4
  go_enter Tryz.func55,Tryz.ntmps55
  go_wp2_with fail
  refine FN.out.mono ?_
  rintro e w1 ⟨rfl,h1⟩
  go_wp2_with fail
  go_ret
  rw[HE2.out]
  exact ⟨rfl,h1⟩
def Rd.take (s:Rd) (x:Nat):Rd × Nat:=
 if s.part=0 then s.takeSign x
 else if s.part=1 then s.takeLength x
 else if s.part=2 then s.takeType x
 else if s.part=3 then s.takeData x
 else if s.part=4 then s.takeSum x
 else (s,22)
structure TakeOk (s:Rd) (x:Nat):Prop where
 part:s.part≤5
 taken:s.part≠3→s.taken<1000
 number:s.part=1∨s.part=2∨s.part=4→s.number<16777216
 sum:s.sum<4294967296
 typ:s.part=2→RdOkC (s.typed x)
 hd:RdHd s
 keep:s.part=3→KeepOk (s.summed x) x
 tk:s.part=3→((s.summed x).keep x).1.taken<2147483648
 raw:∀ i,s.raw i<256
 clear:∀ j,s.tl.clear j<256
theorem rdtake_x (b o n x:Nat) (c:Nat→Value) (s:Rd) (w:World) (hB:Blk w b n c) (hV:RdV c o s) (hn:o+5954≤n) (hx:x<256) (hk:TakeOk s x) (hG:GrdAt w) (hb:b≠0) :
  Calls Tryz.prog 39 #[.pointer (some ⟨b,o,none⟩),.int .u8 (x:Int)] w fun e w'=>e = .returned (.int .i64 ((s.take x).2:Int))∧RdStep b o n c (s.take x).1 w w':=by
 have k0:=hB.at (i:=o) (by omega) hV.part
 have HB:Hid (Blk w b n c):=hB
 have HV:Hid (RdV c o s):=hV
 have hp:=hk.part
 have hcs:s.part=0∨s.part=1∨s.part=2∨s.part=3∨s.part=4∨s.part=5:=by omega
 rcases hcs with h | h | h | h | h | h
 ·have HE:Hid (s.take x=s.takeSign x):=by show s.take x=_;unfold Rd.take;rw[if_pos h]
  have F:Hid (Calls Tryz.prog 51 #[.pointer (some ⟨b,o,none⟩),.int .u8 (x:Int)] w fun e w'=>e = .returned (.int .i64 ((s.takeSign x).2:Int))∧RdStep b o n c (s.takeSign x).1 w w'):=takeSign_x b o n x c s w hB hV hn (hk.taken (by omega)) hx
  rw[h] at k0
  clear h hp hk hB hV hG
  go_enter Tryz.func39,Tryz.ntmps39
  go_wp2_with fail
  refine F.out.mono ?_
  rintro e w1 ⟨rfl,h1⟩
  go_wp2_with fail
  go_ret
  rw[HE.out]
  exact ⟨rfl,h1⟩
 ·have HE:Hid (s.take x=s.takeLength x):=by show s.take x=_;unfold Rd.take;rw[if_neg (by omega),if_pos h]
  have F:Hid (Calls Tryz.prog 52 #[.pointer (some ⟨b,o,none⟩),.int .u8 (x:Int)] w fun e w'=>e = .returned (.int .i64 ((s.takeLength x).2:Int))∧RdStep b o n c (s.takeLength x).1 w w'):=takeLength_x b o n x c s w hB hV hn (hk.taken (by omega)) (hk.number (by omega)) hx
  rw[h] at k0
  clear h hp hk hB hV hG
  go_enter Tryz.func39,Tryz.ntmps39
  go_wp2_with fail
  refine F.out.mono ?_
  rintro e w1 ⟨rfl,h1⟩
  go_wp2_with fail
  go_ret
  rw[HE.out]
  exact ⟨rfl,h1⟩
 ·have HE:Hid (s.take x=s.takeType x):=by show s.take x=_;unfold Rd.take;rw[if_neg (by omega),if_neg (by omega),if_pos h]
  have F:Hid (Calls Tryz.prog 53 #[.pointer (some ⟨b,o,none⟩),.int .u8 (x:Int)] w fun e w'=>e = .returned (.int .i64 ((s.takeType x).2:Int))∧RdStep b o n c (s.takeType x).1 w w'):=takeType_x b o n x c s w hB hV hn (hk.taken (by omega)) (hk.number (by omega)) hx hk.sum (hk.typ h) hk.hd hG hb
  rw[h] at k0
  clear h hp hk hB hV hG
  go_enter Tryz.func39,Tryz.ntmps39
  go_wp2_with fail
  refine F.out.mono ?_
  rintro e w1 ⟨rfl,h1⟩
  go_wp2_with fail
  go_ret
  rw[HE.out]
  exact ⟨rfl,h1⟩
 ·have HE:Hid (s.take x=s.takeData x):=by show s.take x=_;unfold Rd.take;rw[if_neg (by omega),if_neg (by omega),if_neg (by omega),if_pos h]
  have F:Hid (Calls Tryz.prog 54 #[.pointer (some ⟨b,o,none⟩),.int .u8 (x:Int)] w fun e w'=>e = .returned (.int .i64 ((s.takeData x).2:Int))∧RdStep b o n c (s.takeData x).1 w w'):=takeData_x b o n x c s w hB hV hn hx hk.sum (hk.keep h) (hk.tk h) hG hb
  rw[h] at k0
  clear h hp hk hB hV hG
  go_enter Tryz.func39,Tryz.ntmps39
  go_wp2_with fail
  refine F.out.mono ?_
  rintro e w1 ⟨rfl,h1⟩
  go_wp2_with fail
  go_ret
  rw[HE.out]
  exact ⟨rfl,h1⟩
 ·have HE:Hid (s.take x=s.takeSum x):=by show s.take x=_;unfold Rd.take;rw[if_neg (by omega),if_neg (by omega),if_neg (by omega),if_neg (by omega),if_pos h]
  have F:Hid (Calls Tryz.prog 55 #[.pointer (some ⟨b,o,none⟩),.int .u8 (x:Int)] w fun e w'=>e = .returned (.int .i64 ((s.takeSum x).2:Int))∧RdStep b o n c (s.takeSum x).1 w w'):=rdTakeSum_x b o n x c s w hB hV hn (hk.taken (by omega)) (hk.number (by omega)) hx hk.sum hk.raw hk.hd.D hk.hd.K hk.clear
  rw[h] at k0
  clear h hp hk hB hV hG
  go_enter Tryz.func39,Tryz.ntmps39
  go_wp2_with fail
  refine F.out.mono ?_
  rintro e w1 ⟨rfl,h1⟩
  go_wp2_with fail
  go_ret
  rw[HE.out]
  exact ⟨rfl,h1⟩
 ·have HE:Hid (s.take x=(s,22)):=by show s.take x=_;unfold Rd.take;rw[if_neg (by omega),if_neg (by omega),if_neg (by omega),if_neg (by omega),if_neg (by omega)]
  rw[h] at k0
  clear h hp hk hB hV hG
  go_enter Tryz.func39,Tryz.ntmps39
  go_wp2_with fail
  go_ret
  rw[HE.out]
  exact ⟨rfl,RdStep.refl HB.out HV.out⟩
def bsOf (s:ByteArray):List Nat:=s.data.toList.map UInt8.toNat
theorem bsOf_length (s:ByteArray):(bsOf s).length=s.size:=by unfold bsOf;simp
theorem bsOf_get (s:ByteArray) (k:Nat) (h:k<s.size):(bsOf s)[k]'(by rw[bsOf_length];exact h)=s[k].toNat:=by
 unfold bsOf;simp;rfl
theorem bsOf_lt (s:ByteArray):∀ x ∈ bsOf s,x<256:=by
 intro x hx;unfold bsOf at hx;rw[List.mem_map] at hx;obtain ⟨u,_,rfl⟩:=hx;exact u.toNat_lt
theorem take_snoc' (s:ByteArray) (k:Nat) (h:k<s.size):(bsOf s).take (k+1)=(bsOf s).take k++[s[k].toNat]:=by
 rw[List.take_succ_eq_append_getElem (by rw[bsOf_length];exact h),bsOf_get s k h]
def Dc.one (d:Dc) (x:Nat):Dc:=if d.err≠0 then d else if (d.file.take x).2≠0 then { d with file:=(d.file.take x).1,err:=(d.file.take x).2,at1:=d.count } else { d with file:=(d.file.take x).1,count:=d.count+1 }
def Dc.feed (d:Dc) (l:List Nat):Dc:=l.foldl Dc.one d
theorem feed_snoc (d:Dc) (l:List Nat) (x:Nat):d.feed (l++[x])=(d.feed l).one x:=by unfold Dc.feed;rw[List.foldl_append];rfl
theorem feed_append (d:Dc) (l m:List Nat):d.feed (l++m)=(d.feed l).feed m:=by unfold Dc.feed;rw[List.foldl_append]
theorem feed_err {d:Dc} (h:d.err≠0):∀ l,d.feed l=d
 | []=>rfl
 | x::l=>by
  show Dc.feed (d.one x) l=d
  rw[show d.one x=d from by unfold Dc.one;rw[if_pos h]]
  exact feed_err h l
def DcStep (b n:Nat) (d':Dc) (w w':World):Prop:=∃ e,Blk w' b n e∧DcV e 0 d'∧Fr1 b w w'
theorem RdStep.dc {b n:Nat} {c:Nat→Value} {D:Dc} {S:Rd} {w w1 w':World} (h:DcV c 0 D) (hF:Fr1 b w w1) (k:RdStep b 0 n c S w1 w'):DcStep b n { D with file:=S } w w':=by
 obtain ⟨e,h1,h2,h3,h4⟩:=k
 exact ⟨e,h1,h.set_file S h2 (fun i hi=>h3.out i (by omega)),hF.trans h4⟩
def FeedOk (d:Dc) (l:List Nat):Prop:=∀ k x,l[k]? = some x→(d.feed (l.take k)).err=0→TakeOk (d.feed (l.take k)).file x∧(d.feed (l.take k)).count≤4294967296
theorem fail_x (b n E:Nat) (c:Nat→Value) (D:Dc) (w:World) (hB:Blk w b n c) (hV:DcV c 0 D) (hn:5957≤n) :
  Calls Tryz.prog 40 #[.pointer (some ⟨b,0,none⟩),.int .i64 (E:Int)] w fun e w'=>e = .returned (.tuple #[])∧DcStep b n { D with err:=E,at1:=D.count } w w':=by
 have k0:=hB.at (i:=5954) (by omega) hV.count
 have k1:=hB.at (i:=5955) (by omega) hV.err
 have k2:=hB.at (i:=5956) (by omega) hV.at1
 have z:=hB.fz
 have HB:Hid (Blk w b n c):=hB
 have HV:Hid (DcV c 0 D):=hV
 clear hB hV
 go_enter Tryz.func40,Tryz.ntmps40
 go_wp2
 go_end0
 exact ⟨rfl,_,(HB.out.set (k:=5955) (by omega) _).set (k:=5956) (by omega) _,(HV.out.set_err E).set_at1 D.count,Fr1.set (Fr1.set (Fr.refl _ _) _ _) _ _⟩
theorem feed_x (b n:Nat) (t:ByteArray) (c:Nat→Value) (d:Dc) (w:World) (hB:Blk w b n c) (hV:DcV c 0 d) (hn:5957≤n) (hk:FeedOk d (bsOf t)) (hs:t.size≤2147483648) (hG:GrdAt w) (hb:b≠0) :
  Calls Tryz.prog 22 #[.pointer (some ⟨b,0,none⟩),.string t] w fun e w'=>e = .returned (.tuple #[.int .i64 ((d.feed (bsOf t)).err:Int),.int .i64 ((d.feed (bsOf t)).at1:Int)])∧DcStep b n (d.feed (bsOf t)) w w':=by
 have HG:Hid (∀ W,Fr1 b w W→GrdAt W):=fun W f=>hG.fr f (fun q=>hb q.symm)
 have HK:Hid (FeedOk d (bsOf t)):=hk
 have H0:Hid (DcStep b n (d.feed ((bsOf t).take 0)) w w):=⟨c,hB,hV,Fr.refl _ _⟩
 clear hB hV hk hG
 go_enter Tryz.func22,Tryz.ntmps22
 go_wp2_with fail
 go_loopg [6,7] t.size (fun m v u W=>∃ k:Nat,m=t.size - k∧k≤t.size∧v = .int .i64 (k:Int)∧DcStep b n (d.feed ((bsOf t).take k)) w W)
 case atStart=>exact ⟨0,by omega,by omega,rfl,H0.out⟩
 case round=>
  obtain ⟨k,hgk,hkt,rfl,e,hBe,hVe,hFe⟩:=hrel
  replace hgk:Hid _:=hgk
  clear H0
  have BE:Hid (Blk wr b n e):=hBe
  have VE:Hid (DcV e 0 (d.feed ((bsOf t).take k))):=hVe
  have FE:Hid (Fr1 b w wr):=hFe
  clear hBe hVe hFe
  by_cases hlt:k<t.size
  ·have HF:Hid (d.feed ((bsOf t).take (k+1))=(d.feed ((bsOf t).take k)).one t[k].toNat):=by
    show d.feed ((bsOf t).take (k+1))=_
    rw[take_snoc' t k hlt,feed_snoc]
   have hlt':(k:Int)<(t.size:Int):=by omega
   have hx:t[k].toNat<256:=t[k].toNat_lt
   have HOk:=HK.out k t[k].toNat (by rw[← bsOf_get t k hlt];exact List.getElem?_eq_getElem _)
   have HAll:Hid (d.feed (bsOf t)=(d.feed ((bsOf t).take k)).feed ((bsOf t).drop k)):=by show d.feed (bsOf t)=_;rw[← feed_append,List.take_append_drop]
   have HAll2:Hid (d.feed (bsOf t)=(d.feed ((bsOf t).take (k+1))).feed ((bsOf t).drop (k+1))):=by show d.feed (bsOf t)=_;rw[← feed_append,List.take_append_drop]
   obtain ⟨D,hD⟩:∃ D,D=d.feed ((bsOf t).take k):=⟨_,rfl⟩
   rw[← hD] at VE HF HOk HAll
   clear hD
   have c1:=BE.out.at (i:=5955) (by omega) VE.out.err
   replace HOk:Hid _:=HOk
   by_cases he:D.err=0
   ·have he':((D.err:Int) == 0)=true:=by rw[beq_iff_eq];omega
    obtain ⟨hto,hcnt⟩:=HOk.out he
    have FT:Hid (∀ W,Kept wr W→Calls Tryz.prog 39 #[.pointer (some ⟨b,0,none⟩),.int .u8 (t[k].toNat:Int)] W fun e' w'=>e' = .returned (.int .i64 ((D.file.take t[k].toNat).2:Int))∧RdStep b 0 n e (D.file.take t[k].toNat).1 W w'):=fun W kw=>rdtake_x b 0 n _ e D.file W (BE.out.kept kw) VE.out.file (by omega) hx hto (HG.out _ (FE.out.kept kw)) hb
    have HOne:Hid (D.one t[k].toNat=if (D.file.take t[k].toNat).2≠0 then { D with file:=(D.file.take t[k].toNat).1,err:=(D.file.take t[k].toNat).2,at1:=D.count } else { D with file:=(D.file.take t[k].toNat).1,count:=D.count+1 }):=by show D.one t[k].toNat=_;unfold Dc.one;rw[if_neg (fun q=>q he)]
    replace he:Hid _:=he
    clear hto HOk
    obtain ⟨E,hE⟩:∃ E,E=(D.file.take t[k].toNat).2:=⟨_,rfl⟩
    obtain ⟨S,hS⟩:∃ S,S=(D.file.take t[k].toNat).1:=⟨_,rfl⟩
    rw[← hE,← hS] at FT HOne
    clear hE hS
    go_wp2_with fail
    go_region_held3 (fun W=>True) (trivial) ((go_at_call 39;refine (FT.out _ ((Kept.refl _).drewN 1)).mono ?_;rintro e' w1 ⟨rfl,hst⟩))
    obtain ⟨e1,hB1,hV1,hF1⟩:=RdStep.dc VE.out (Fr1.drewN (Fr.refl _ _) 1) hst
    have B1:Hid (Blk w1 b n e1):=hB1
    have V1:Hid (DcV e1 0 { D with file:=S }):=hV1
    have F1:Hid (Fr1 b w w1):=FE.out.trans hF1
    have c0:=hB1.at (i:=5954) (by omega) hV1.count
    have z0:=hB1.fz 5954
    replace c0:w1.cell? ⟨b,5954,none⟩=some (.int .i64 (D.count:Int)):=c0
    clear hB1 hV1 hF1 hst FT BE VE FE c1
    by_cases hz:E=0
    ·have hz':((E:Int) != 0)=false:=by rw[bne_eq_false_iff_eq];omega
     obtain ⟨N,hN⟩:∃ N,N=D.count+1:=⟨_,rfl⟩
     have eN:(D.count:Int)+1=(N:Int):=by omega
     have hN2:N≤4294967297:=by omega
     have HO2:Hid (D.one t[k].toNat={ D with file:=S,count:=N }):=by show D.one t[k].toNat=_;rw[HOne.out,if_neg (fun q=>q hz),hN]
     replace hz:Hid _:=hz
     clear hN
     go_wp2_with fail
     go_roundg (t.size - (k+1))
     case measure=>rw[hgk.out];omega
     case rel=>
      refine ⟨k+1,rfl,by omega,by go_num,?_⟩
      rw[HF.out,HO2.out]
      exact ⟨_,B1.out.set (k:=5954) (by omega) _,V1.out.set_count N,Fr1.set F1.out _ _⟩
    ·have hz':((E:Int) != 0)=true:=by rw[bne_iff_ne];omega
     have HA:Hid (d.feed (bsOf t)={ D with file:=S,err:=E,at1:=D.count }):=by
      show d.feed (bsOf t)=_
      rw[HAll2.out,HF.out,HOne.out,if_pos hz,feed_err hz]
     replace hz:Hid _:=hz
     go_wp2_with fail
     refine (fail_x b n E e1 { D with file:=S } w1 B1.out V1.out hn).mono ?_
     rintro e' w2 ⟨rfl,e2,hB2,hV2,hF2⟩
     have c4:=hB2.at (i:=5955) (by omega) hV2.err
     have c5:=hB2.at (i:=5956) (by omega) hV2.at1
     replace c4:w2.cell? ⟨b,5955,none⟩=some (.int .i64 (E:Int)):=c4
     replace c5:w2.cell? ⟨b,5956,none⟩=some (.int .i64 (D.count:Int)):=c5
     have B2:Hid (Blk w2 b n e2):=hB2
     have V2:Hid (DcV e2 0 { ({ D with file:=S }:Dc) with err:=E,at1:=D.count }):=hV2
     have F2:Hid (Fr1 b w w2):=F1.out.trans hF2
     clear hB2 hV2 hF2
     go_wp2_with fail
     go_quiet (fail)
     go_wp2_with fail
     go_ret2
     rw[HA.out]
     exact ⟨rfl,e2,B2.out.kept ((Kept.refl _).drewN _),V2.out,F2.out.kept ((Kept.refl _).drewN _)⟩
   ·have he':((D.err:Int) == 0)=false:=by rw[beq_eq_false_iff_ne];omega
    have HA:Hid (d.feed (bsOf t)=D):=by show d.feed (bsOf t)=D;rw[HAll.out,feed_err he]
    have c2:=BE.out.at (i:=5956) (by omega) VE.out.at1
    replace he:Hid _:=he
    go_wp2_with fail
    go_quiet (fail)
    go_wp2_with fail
    go_ret2
    rw[HA.out]
    exact ⟨rfl,e,BE.out.kept ((Kept.refl _).drewN _),VE.out,FE.out.kept ((Kept.refl _).drewN _)⟩
  ·have hlt':¬ (k:Int)<(t.size:Int):=by omega
   have hall:(bsOf t).take k=bsOf t:=List.take_of_length_le (by rw[bsOf_length];omega)
   rw[hall] at VE
   have c1:=BE.out.at (i:=5955) (by omega) VE.out.err
   have c2:=BE.out.at (i:=5956) (by omega) VE.out.at1
   clear hall
   go_wp2_with fail
   go_quiet (fail)
   go_wp2_with fail
   go_ret2
   exact ⟨rfl,e,BE.out.kept ((Kept.refl _).drewN _),VE.out,FE.out.kept ((Kept.refl _).drewN _)⟩
def hd0:Hd:=⟨0,0,0,0,0⟩
def rwN:Rw:=⟨hd0,0,0,0,0,0,0,0,0,fun _=>0,fun _=>0,fun _=>false,fun _=>0⟩
def tl0:Tl:=⟨fun _=>0,fun _=>0,0,0⟩
def rd0:Rd:=⟨0,0,0,0,0,0,hd0,fun _=>0,tl0,st0 0,rwN,false,false,false,false⟩
def dc0:Dc:=⟨rd0,0,0,0⟩
def dcA:List Value:=[.int .i64 0,.int .u32 0,.int .u32 0,.int .u32 0,.int .u32 0,.int .u32 0,.int .i64 0,.int .i64 0,.int .i64 0,.int .i64 0,.int .i64 0]
def dcB:List Value:=List.replicate 1037 (.int .u8 0)
def dcC:List Value:=[.int .i64 0,.int .i64 0]
def dcD:List Value:=stH++(stT++[.int .i64 0,.int .u32 0])
def dcE:List Value:=List.replicate 12 (.int .i64 0)++rwTail
def dcF:List Value:=[.bool false,.bool false,.bool false,.bool false,.int .i64 0,.int .i64 0,.int .i64 0]
theorem zero5957:Tryz.zeroCells100.toList=dcA++(dcB++(dcC++(dcD++(dcE++dcF)))):=by kernel_rfl
theorem dcD_len:dcD.length=3351:=by
 unfold dcD
 rw[List.length_append,List.length_append,stT_len,show stH.length=10 from rfl]
 simp only [List.length_cons,List.length_nil]
theorem dcE_len:dcE.length=1549:=by unfold dcE;rw[List.length_append,rwTail_len,List.length_replicate]
theorem dcB_len:dcB.length=1037:=List.length_replicate ..
theorem size5957:Tryz.zeroCells100.size=5957:=by
 rw[← Array.length_toList,zero5957,List.length_append,List.length_append,List.length_append,List.length_append,List.length_append,dcB_len,dcD_len,dcE_len,show dcA.length=11 from rfl,show dcC.length=2 from rfl,show dcF.length=7 from rfl]
theorem rwN_V:RwV (fun j=>dcE.getD j undef) 0 rwN:=by
 have h12:(List.replicate 12 (Value.int .i64 0)).length=12:=List.length_replicate ..
 have g:∀ i,i<12→dcE.getD i undef = .int .i64 0:=fun i hi=>getD_rep _ _ _ _ hi
 have t:∀ i j v,i=12+j→rwTail.getD j undef=v→dcE.getD i undef=v:=fun i j v hi e=>by rw[hi];exact (getD_skip _ _ 12 j h12).trans e
 exact ⟨⟨g 0 (by omega),g 1 (by omega),g 2 (by omega),g 3 (by omega),g 4 (by omega)⟩,g 5 (by omega),g 6 (by omega),g 7 (by omega),g 8 (by omega),g 9 (by omega),g 10 (by omega),g 11 (by omega),t 12 0 _ rfl (rwTail_u8 0 (by omega)),fun i hi=>t _ (1+i) _ (by omega) (rwTail_u8 _ (by omega)),fun i hi=>t _ (129+i) _ (by omega) (rwTail_u8 _ (by omega)),fun i hi=>t _ (257+i) _ (by omega) (rwTail_bl _ hi),fun i hi=>t _ (257+(256+i)) _ (by omega) (rwTail_u16 _ hi)⟩
theorem dc0_V:DcV (fun i=>Tryz.zeroCells100.getD i undef) 0 dc0:=by
 obtain ⟨L,hL⟩:∃ L,L=Tryz.zeroCells100.toList:=⟨_,rfl⟩
 have hc:∀ i,Tryz.zeroCells100.getD i undef=L.getD i undef:=fun i=>by
  rw[hL,Array.getD_eq_getD_getElem?,List.getD_eq_getElem?_getD,Array.getElem?_toList]
 rw[zero5957] at hL
 have e:(fun i=>Tryz.zeroCells100.getD i undef)=fun i=>L.getD i undef:=funext hc
 rw[e]
 have h11:dcA.length=11:=rfl
 have h2:dcC.length=2:=rfl
 have A:∀ i v,i<11→dcA.getD i undef=v→L.getD i undef=v:=fun i v hi q=>by rw[hL];exact (getD_front _ _ i (by rw[h11];exact hi)).trans q
 have B:∀ i,11≤i→i<1048→L.getD i undef = .int .u8 0:=fun i h1 h2=>by
  rw[hL,show i=11+(i - 11) from by omega]
  exact (getD_skip _ _ 11 _ h11).trans (getD_rep _ _ _ _ (by omega))
 have C:∀ j v,j<2→dcC.getD j undef=v→L.getD (1048+j) undef=v:=fun j v hj q=>by
  rw[hL,show 1048+j=11+(1037+j) from by omega]
  exact (getD_skip _ _ 11 _ h11).trans ((getD_skip _ _ 1037 _ dcB_len).trans ((getD_front _ _ j (by rw[h2];exact hj)).trans q))
 have D:∀ j,j<3351→L.getD (1050+j) undef=dcD.getD j undef:=fun j hj=>by
  rw[hL,show 1050+j=11+(1037+(2+j)) from by omega]
  exact (getD_skip _ _ 11 _ h11).trans ((getD_skip _ _ 1037 _ dcB_len).trans ((getD_skip _ _ 2 _ h2).trans (getD_front _ _ j (by rw[dcD_len];exact hj))))
 have E:∀ j,j<1549→L.getD (4401+j) undef=dcE.getD j undef:=fun j hj=>by
  rw[hL,show 4401+j=11+(1037+(2+(3351+j))) from by omega]
  exact (getD_skip _ _ 11 _ h11).trans ((getD_skip _ _ 1037 _ dcB_len).trans ((getD_skip _ _ 2 _ h2).trans ((getD_skip _ _ 3351 _ dcD_len).trans (getD_front _ _ j (by rw[dcE_len];exact hj)))))
 have F:∀ j v,dcF.getD j undef=v→L.getD (5950+j) undef=v:=fun j v q=>by
  rw[hL,show 5950+j=11+(1037+(2+(3351+(1549+j)))) from by omega]
  exact (getD_skip _ _ 11 _ h11).trans ((getD_skip _ _ 1037 _ dcB_len).trans ((getD_skip _ _ 2 _ h2).trans ((getD_skip _ _ 3351 _ dcD_len).trans ((getD_skip _ _ 1549 _ dcE_len).trans q))))
 clear hL e hc
 have VS:StV (fun i=>L.getD i undef) 1050 (st0 0):=by
  have h:=(stV_of 0).shift (fun i=>L.getD i undef) 1050
  exact h.congr (fun i h1 h2=>by
   obtain ⟨j,rfl⟩:∃ j,i=1050+j:=⟨i - 1050,by omega⟩
   show L.getD (1050+j) undef=_
   rw[updL_in (by omega),D j (by omega)]
   rfl)
 have VR:RwV (fun i=>L.getD i undef) 4401 rwN:=by
  have h:=rwN_V.shift (fun i=>L.getD i undef) 4401
  exact h.congr (fun i h1 h2=>by
   obtain ⟨j,rfl⟩:∃ j,i=4401+j:=⟨i - 4401,by omega⟩
   show L.getD (4401+j) undef=_
   rw[updL_in (by omega),E j (by omega)])
 refine ⟨⟨A 0 _ (by omega) rfl,A 1 _ (by omega) rfl,A 2 _ (by omega) rfl,A 3 _ (by omega) rfl,A 4 _ (by omega) rfl,A 5 _ (by omega) rfl,⟨A 6 _ (by omega) rfl,A 7 _ (by omega) rfl,A 8 _ (by omega) rfl,A 9 _ (by omega) rfl,A 10 _ (by omega) rfl⟩,fun i hi=>B _ (by omega) (by omega),⟨fun i hi=>B _ (by omega) (by omega),fun i hi=>B _ (by omega) (by omega),C 0 _ (by omega) rfl,C 1 _ (by omega) rfl⟩,?_,?_,F 0 _ rfl,F 1 _ rfl,F 2 _ rfl,F 3 _ rfl⟩,F 4 _ rfl,F 5 _ rfl,F 6 _ rfl⟩
 ·exact VS
 ·exact VR
theorem new_x (w:World) :
  Calls Tryz.prog 21 #[] w fun e w'=>e = .returned (.pointer (some ⟨w.heap.size,0,none⟩))∧∃ c,Blk w' w.heap.size 5957 c∧DcV c 0 dc0∧Kept w w':=by
 have B:=Blk.new w Tryz.zeroCells100 100 5957 size5957
 replace B:Hid _:=B
 go_enter Tryz.func21,Tryz.ntmps21
 go_wp2
 go_ret
 exact ⟨rfl,_,B.out,dc0_V,Below.alloc (Below.refl _ _) (Nat.le_refl _) _⟩
theorem rknown_x (b o n x y:Nat) (c:Nat→Value) (r:Rw) (w:World) (hB:Blk w b n c) (hV:RwV c o r) (hn:o+1549≤n) (hx:x<16) (hy:y<16) :
  Calls Tryz.prog 88 #[.pointer (some ⟨b,o,none⟩),.int .i64 (x:Int),.int .i64 (y:Int)] w fun e w'=>e = .returned (.bool (r.known (y*16+x)))∧∃ q,w'=w.drewN q:=by
 have FI:Hid (∀ W,Calls Tryz.prog 124 #[.int .i64 (x:Int),.int .i64 (y:Int)] W fun e w'=>e = .returned (.tuple #[.int .i64 ((y*16+x:Nat):Int),.bool true])∧w'=W):=fun W=>by
  have:=index_x x y W (by omega) (by omega)
  rw[if_pos ⟨hx,hy⟩,decide_eq_true (⟨hx,hy⟩:x<16∧y<16)] at this
  exact this
 obtain ⟨P,hP⟩:∃ P,P=y*16+x:=⟨_,rfl⟩
 rw[← hP] at FI ⊢
 have hP6:P<256:=by omega
 have k:=hB.at (i:=o+269+P) (by omega) (hV.known P hP6)
 have p0:(0:Int)≤(P:Int):=by omega
 have p1:(P:Int)<256:=by omega
 generalize r.known P=KK at *
 clear hB hV hP
 go_enter Tryz.func88,Tryz.ntmps88
 go_wp2_with fail
 refine (FI.out _).mono ?_
 rintro e w1 ⟨rfl,hw1⟩
 subst w1
 go_wp2_with fail
 go_ret
 exact ⟨rfl,0,rfl⟩
theorem psize_x (h:Hd) (w:World) (hW:1≤h.W) (hW2:h.W≤16) (hH:1≤h.H) (hH2:h.H≤16) :
  Calls Tryz.prog 87 #[hdV h] w fun e w'=>e = .returned (.int .i64 ((h.W*h.H:Nat):Int))∧Kept w w':=by
 unfold hdV
 have g1:¬ (h.W:Int)<1:=by omega
 have g2:¬ (h.H:Int)<1:=by omega
 obtain ⟨T,hT⟩:∃ T,T=h.W*h.H:=⟨_,rfl⟩
 have eT:(h.W:Int)*(h.H:Int)=(T:Int):=by rw[hT];simp
 have hT6:T≤256:=by rw[hT];exact Nat.mul_le_mul hW2 hH2
 rw[← hT]
 clear hT
 go_enter Tryz.func87,Tryz.ntmps87
 go_wp2
 go_ret
 exact ⟨rfl,Below.alloc (Below.refl _ _) (Nat.le_refl _) _⟩
theorem infoIntV:∃ i,Tryz.prog.info? 3=some i∧i.zero=some (.int .i64 0)∧i.size=1∧i.bytes=8:=by
 have h:(Tryz.prog.info? 3).map (fun i=>(i.zero,i.size,i.bytes))=some (some (.int .i64 0),1,8):=by kernel_rfl
 cases hi:Tryz.prog.info? 3 with
 | none=>rw[hi] at h;simp at h
 | some i=>
  rw[hi] at h
  simp at h
  exact ⟨i,rfl,h.1,h.2.1,h.2.2⟩
theorem made_ints (n j:Nat) (h:j<n):(madeCells #[Value.int .i64 0] n)[j]? = some (.int .i64 0):=by
 unfold madeCells
 rw[Array.getElem?_map,Array.getElem?_range,if_pos h]
 show some (#[Value.int .i64 0][j % 1]!)=_
 rw[Nat.mod_one]
 rfl
theorem make_ints (w:World) (n:Nat) (hn:n≤1000000):(Instr.makeSlice 31 (.int .i64 (n:Int)) (.int .i64 (n:Int))).run Tryz.prog w = .ok (.slice (some ⟨w.heap.size,0,none⟩) n n) (w.alloc (.cells (madeCells #[Value.int .i64 0] n) 3)):=by
 obtain ⟨i,hi,hz,hs,hb⟩:=infoIntV
 have:=run_make (P:=Tryz.prog) w 31 3 i (.int .i64 0) Tryz.underlying31 hi hz .i64 .i64 n n (by omega) (by omega) (by rw[hb];omega) (by omega)
 rw[hs,Nat.mul_one,Int.toNat_natCast] at this
 exact this
theorem pknown_x (b o n:Nat) (c:Nat→Value) (r:Rw) (h:Hd) (w:World) (hB:Blk w b n c) (hV:RwV c o r) (hn:o+1549≤n) (hW:1≤h.W) (hW2:h.W≤16) (hH:1≤h.H) (hH2:h.H≤16) :
  Calls Tryz.prog 56 #[hdV h,.pointer (some ⟨b,o,none⟩)] w fun e w'=>∃ g,e = .returned (.slice (some ⟨g,0,none⟩) (h.W*h.H) (h.W*h.H))∧w.heap.size≤g∧(∀ j,j<h.W*h.H→w'.cell? ⟨g,j,none⟩=some (.int .i64 (if r.known (j / h.W*16+j % h.W) then 1 else 0)))∧Kept w w':=by
 have FJ:Hid (∀ W,Calls Tryz.prog 87 #[hdV h] W fun e w'=>e = .returned (.int .i64 ((h.W*h.H:Nat):Int))∧Kept W w'):=fun W=>psize_x h W hW hW2 hH hH2
 obtain ⟨T,hT⟩:∃ T,T=h.W*h.H:=⟨_,rfl⟩
 rw[← hT] at FJ ⊢
 have hT6:T≤256:=by rw[hT];exact Nat.mul_le_mul hW2 hH2
 have HT:Hid (T=h.W*h.H):=hT
 clear hT
 unfold hdV at *
 go_enter Tryz.func56,Tryz.ntmps56
 go_wp2_with fail
 refine (FJ.out _).mono ?_
 rintro e w1 ⟨rfl,hk1⟩
 have hmk:=make_ints w1 T (by omega)
 have K1:Hid (Kept w w1):=Kept.trans (Below.alloc (Below.refl _ _) (Nat.le_refl _) _) hk1
 have hw0:w1.cell? ⟨w.heap.size,0,none⟩=some (.int .i64 (h.W:Int)):=(hk1.cell (p:=⟨w.heap.size,0,none⟩) (by simp)).trans ((World.cell?_alloc_at _ _ _ _ rfl).trans rfl)
 have hws:w.heap.size<w1.heap.size:=World.block_lt_of_cell? _ _ hw0
 have K2:Hid (Kept w1 (w1.alloc (.cells (madeCells #[Value.int .i64 0] T) 3))):=Below.alloc (Below.refl _ _) (Nat.le_refl _) _
 have HC:Hid (∀ j,j<T→(w1.alloc (.cells (madeCells #[Value.int .i64 0] T) 3)).cell? ⟨w1.heap.size,j,none⟩=some (.int .i64 0)):=fun j hj=>(World.cell?_alloc_at _ _ _ _ rfl).trans (made_ints T j hj)
 have HZ:Hid (∀ j,(w1.alloc (.cells (madeCells #[Value.int .i64 0] T) 3)).frozen? ⟨w1.heap.size,j,none⟩=false):=fun j=>World.frozen?_alloc_at _ _ _ _ rfl
 have HB2:Hid (Blk (w1.alloc (.cells (madeCells #[Value.int .i64 0] T) 3)) b n c):=(hB.kept K1.out).kept K2.out
 have HV:Hid (RwV c o r):=hV
 have hw2:(w1.alloc (.cells (madeCells #[Value.int .i64 0] T) 3)).cell? ⟨w.heap.size,0,none⟩=some (.int .i64 (h.W:Int)):=(K2.out.cell (p:=⟨w.heap.size,0,none⟩) hws).trans hw0
 have hsz:w1.heap.size<(w1.alloc (.cells (madeCells #[Value.int .i64 0] T) 3)).heap.size:=by simp
 have hbw:=hB.lt
 clear hB hV hk1
 go_wp2_with fail
 generalize w1.alloc (.cells (madeCells #[Value.int .i64 0] T) 3)=w2 at *
 clear hmk
 obtain ⟨g,hg⟩:∃ g,g=w1.heap.size:=⟨_,rfl⟩
 rw[← hg] at HC HZ hws hsz ⊢
 replace hg:Hid _:=hg
 go_loopg [6] T (fun m v W=>∃ k:Nat,m=T - k∧k≤T∧v = .int .i64 (k:Int)∧Fr1 g w2 W∧(∀ j,W.frozen? ⟨g,j,none⟩=false)∧(∀ j,j<T→W.cell? ⟨g,j,none⟩=some (.int .i64 (if j<k∧r.known (j / h.W*16+j % h.W)=true then 1 else 0))))
 case atStart=>exact ⟨0,by omega,by omega,rfl,Fr.refl _ _,HZ.out,fun j hj=>by rw[if_neg (by omega)];exact HC.out j hj⟩
 case round=>
  obtain ⟨k,hgk,hkT,rfl,hfr,hfz,hce⟩:=hrel
  replace hgk:Hid _:=hgk
  have HF:Hid (Fr1 g w2 wr):=hfr
  have HFz:Hid (∀ j,wr.frozen? ⟨g,j,none⟩=false):=hfz
  have HCe:Hid (∀ j,j<T→wr.cell? ⟨g,j,none⟩=some (.int .i64 (if j<k∧r.known (j / h.W*16+j % h.W)=true then 1 else 0))):=hce
  clear hfr hfz hce
  have hwc:=(HF.out.cell (k:=0) (Nat.lt_trans hws hsz) (by omega)).trans hw2
  have g1:(0:Int)<(h.W:Int):=by omega
  have g0:¬ ((h.W:Int)=0):=by omega
  by_cases hlt:k<T
  ·have hlt':(k:Int)<(T:Int):=by omega
   obtain ⟨X,hX⟩:∃ X,X=k % h.W:=⟨_,rfl⟩
   obtain ⟨Y,hY⟩:∃ Y,Y=k / h.W:=⟨_,rfl⟩
   have eX:(k:Int) % (h.W:Int)=(X:Int):=by rw[hX];exact (Int.natCast_emod _ _).symm
   have eY:(k:Int) / (h.W:Int)=(Y:Int):=by rw[hY];exact (Int.natCast_ediv _ _).symm
   have hX16:X<16:=by rw[hX];exact Nat.lt_of_lt_of_le (Nat.mod_lt _ (by omega)) hW2
   have hY16:Y<16:=by
    rw[hY]
    refine Nat.lt_of_lt_of_le (Nat.div_lt_of_lt_mul (by rw[← HT.out];exact hlt)) hH2
   have hbg:b≠g:=by have:=hg.out;have:=K1.out.size;omega
   have FK:Hid (∀ q,Calls Tryz.prog 88 #[.pointer (some ⟨b,o,none⟩),.int .i64 (X:Int),.int .i64 (Y:Int)] (wr.drewN q) fun e w'=>e = .returned (.bool (r.known (Y*16+X)))∧∃ m,w'=(wr.drewN q).drewN m):=fun q=>rknown_x b o n X Y c r (wr.drewN q) (((HB2.out.fr HF.out hbg)).kept ((Kept.refl _).drewN q)) HV.out hn hX16 hY16
   have HKK:Hid (r.known (k / h.W*16+k % h.W)=r.known (Y*16+X)):=by show r.known (k / h.W*16+k % h.W)=_;rw[hX,hY]
   generalize hKN:r.known (Y*16+X)=KN at *
   clear hKN
   replace hX:Hid _:=hX
   replace hY:Hid _:=hY
   have kg:=HCe.out k hlt
   rw[if_neg (by omega)] at kg
   have zg:=HFz.out k
   have k0:(0:Int)≤(k:Int):=by omega
   have tm:(k:Int).tmod (h.W:Int)=(X:Int):=by rw[Int.tmod_eq_emod_of_nonneg (by omega)];exact eX
   have td:(k:Int).tdiv (h.W:Int)=(Y:Int):=by rw[Int.tdiv_eq_ediv_of_nonneg (by omega)];exact eY
   cases KN with
   | false=>
    go_wp2_with fail
    go_quiet ((go_at_call 88;exact Calls.quiet_of (FK.out _)))
    go_wp2_with fail
    go_roundg (T - (k+1))
    case measure=>rw[hgk.out];omega
    case rel=>
     refine ⟨k+1,rfl,by omega,by go_num,HF.out.kept ((Kept.refl _).drewN _),fun j=>HFz.out j,fun j hj => ?_⟩
     refine (HCe.out j hj).trans ?_
     by_cases e:j=k
     ·subst e
      rw[if_neg (by omega),if_neg (fun q=>by rw[HKK.out] at q;exact absurd q.2 (by simp))]
     ·by_cases e2:j<k∧r.known (j / h.W*16+j % h.W)=true
      ·rw[if_pos e2,if_pos ⟨by omega,e2.2⟩]
      ·rw[if_neg e2,if_neg (fun q=>e2 ⟨by omega,q.2⟩)]
   | true=>
    go_wp2_with fail
    go_quiet ((go_at_call 88;exact Calls.quiet_of (FK.out _)))
    go_wp2_with fail
    go_roundg (T - (k+1))
    case measure=>rw[hgk.out];omega
    case rel=>
     refine ⟨k+1,rfl,by omega,by go_num,Fr1.set (HF.out.kept ((Kept.refl _).drewN _)) _ _,fun j=>by rw[World.frozen?_setCell];exact HFz.out j,fun j hj => ?_⟩
     by_cases e:j=k
     ·subst e
      rw[if_pos ⟨by omega,HKK.out⟩]
      exact cell_set_same kg _
     ·rw[cell_set_other _ _ _ _ _ (fun q=>e q.symm)]
      refine (HCe.out j hj).trans ?_
      by_cases e2:j<k∧r.known (j / h.W*16+j % h.W)=true
      ·rw[if_pos e2,if_pos ⟨by omega,e2.2⟩]
      ·rw[if_neg e2,if_neg (fun q=>e2 ⟨by omega,q.2⟩)]
  ·have hlt':¬ (k:Int)<(T:Int):=by omega
   have hkT':k=T:=by omega
   replace hkT':Hid _:=hkT'
   go_wp2_with fail
   go_ret
   refine ⟨g,rfl,by have:=hg.out;have:=K1.out.size;omega,fun j hj => ?_,?_⟩
   ·refine (HCe.out j hj).trans ?_
    by_cases e2:r.known (j / h.W*16+j % h.W)=true
    ·rw[if_pos ⟨by rw[hkT'.out];exact hj,e2⟩,if_pos e2]
    ·rw[if_neg (fun q=>e2 q.2),if_neg e2]
   ·exact Fr.to_kept (K1.out.trans (by rw[hg.out] at *;exact K2.out)) HF.out (fun i hi q=>by have:=hg.out;have:=K1.out.size;omega)
end Go.Proofs.YtmbmecfodigciaaGreatDoor
