import Derived.Test.YtmbmecfodigciaaGreatDoorMo16
set_option maxRecDepth 100000
set_option maxHeartbeats 6400000
namespace Go.Proofs.YtmbmecfodigciaaGreatDoor
open Go.RowKit Px
set_option linter.unusedSimpArgs false
set_option linter.unusedVariables false
def Rd.checkClear (s:Rd):Nat:=
 if s.sd || s.sc then 4 else if s.hd.K=0∨s.hd.K=2 then (if s.length≠2*chn s.hd.K then 5 else 0)
 else if s.hd.K=3 then s.checkAlphas else 4
theorem checkClear_x (b o n:Nat) (c:Nat→Value) (s:Rd) (w:World) (hB:Blk w b n c) (hV:RdV c o s) (hn:o+5954≤n) (hc:s.tl.colours≤256) (hK:s.hd.K≤6) :
  Calls Tryz.prog 112 #[.pointer (some ⟨b,o,none⟩)] w fun e w'=>e = .returned (.int .i64 (s.checkClear:Int))∧∃ q,w'=w.drewN q:=by
 have kd:=hB.at (i:=o+5952) (by omega) hV.sd
 have kc:=hB.at (i:=o+5951) (by omega) hV.sc
 have kk:=hB.at (i:=o+6+3) (by omega) hV.hd.K
 have k3:=hB.at (i:=o+3) (by omega) hV.length
 have HE:Hid (s.checkClear=if s.sd || s.sc then 4 else if s.hd.K=0∨s.hd.K=2 then (if s.length≠2*chn s.hd.K then 5 else 0) else if s.hd.K=3 then s.checkAlphas else 4):=rfl
 have FA:Hid (Calls Tryz.prog 139 #[.pointer (some ⟨b,o,none⟩)] w fun e w'=>e = .returned (.int .i64 (s.checkAlphas:Int))∧∃ q,w'=w.drewN q):=checkAlphas_x b o n c s w hB hV hn hc
 have FJ:Hid (∀ W':World,Calls Tryz.prog 93 #[.int .i64 (s.hd.K:Int)] W' fun e w'=>e = .returned (.int .i64 (chn s.hd.K:Int))∧w'=W'):=fun W'=>samples_x _ W' (by omega)
 clear hB hV
 cases hd:s.sd<;>cases hsc:s.sc
 ·rw[hd] at kd
  rw[hsc] at kc
  rw[hd,hsc] at HE
  clear hd hsc
  have HE1:Hid (s.checkClear=if s.hd.K=0∨s.hd.K=2 then (if s.length≠2*chn s.hd.K then 5 else 0) else if s.hd.K=3 then s.checkAlphas else 4):=HE.out
  clear HE
  have hcs:s.hd.K=0∨s.hd.K=2∨s.hd.K=3∨(s.hd.K≠0∧s.hd.K≠2∧s.hd.K≠3):=by omega
  obtain ⟨C,hC⟩:∃ C,C=chn s.hd.K:=⟨_,rfl⟩
  have hC4:C≤4:=by rw[hC];exact chn_le _
  rw[← hC] at FJ HE1
  replace hC:Hid _:=hC
  have eC:IntKind.u32.wrap (C:Int)=(C:Int):=by rw[IntKind.wrap_u32];omega
  have eC2:IntKind.u32.wrap (2*(C:Int))=2*(C:Int):=by rw[IntKind.wrap_u32];omega
  rcases hcs with h | h | h | ⟨h0,h2,h3⟩
  ·have HE2:Hid (s.checkClear=if s.length≠2*C then 5 else 0):=by show s.checkClear=_;rw[HE1.out,if_pos (by omega)]
   clear HE1
   rw[h] at kk FJ
   clear h
   by_cases hl:s.length=2*C
   ·have hl':((s.length:Int) != 2*(C:Int))=false:=by rw[bne_eq_false_iff_eq];omega
    replace hl:Hid _:=hl
    go_enter Tryz.func112,Tryz.ntmps112
    go_wp2_with fail
    go_quiet ((go_at_call 93;exact Calls.quiet_of_same (FJ.out _)))
    go_wp2
    go_ret
    exact ⟨ret_int (by rw[HE2.out,if_neg (fun k=>k hl.out)];rfl),_,rfl⟩
   ·have hl':((s.length:Int) != 2*(C:Int))=true:=by rw[bne_iff_ne];omega
    replace hl:Hid _:=hl
    go_enter Tryz.func112,Tryz.ntmps112
    go_wp2_with fail
    go_quiet ((go_at_call 93;exact Calls.quiet_of_same (FJ.out _)))
    go_wp2
    go_ret
    exact ⟨ret_int (by rw[HE2.out,if_pos hl.out];rfl),_,rfl⟩
  ·have HE2:Hid (s.checkClear=if s.length≠2*C then 5 else 0):=by show s.checkClear=_;rw[HE1.out,if_pos (by omega)]
   clear HE1
   rw[h] at kk FJ
   clear h
   by_cases hl:s.length=2*C
   ·have hl':((s.length:Int) != 2*(C:Int))=false:=by rw[bne_eq_false_iff_eq];omega
    replace hl:Hid _:=hl
    go_enter Tryz.func112,Tryz.ntmps112
    go_wp2_with fail
    go_quiet ((go_at_call 93;exact Calls.quiet_of_same (FJ.out _)))
    go_wp2
    go_ret
    exact ⟨ret_int (by rw[HE2.out,if_neg (fun k=>k hl.out)];rfl),_,rfl⟩
   ·have hl':((s.length:Int) != 2*(C:Int))=true:=by rw[bne_iff_ne];omega
    replace hl:Hid _:=hl
    go_enter Tryz.func112,Tryz.ntmps112
    go_wp2_with fail
    go_quiet ((go_at_call 93;exact Calls.quiet_of_same (FJ.out _)))
    go_wp2
    go_ret
    exact ⟨ret_int (by rw[HE2.out,if_pos hl.out];rfl),_,rfl⟩
  ·have HE2:Hid (s.checkClear=s.checkAlphas):=by show s.checkClear=_;rw[HE1.out,if_neg (by omega),if_pos h]
   clear HE1
   rw[h] at kk
   clear h FJ
   go_enter Tryz.func112,Tryz.ntmps112
   go_wp2_with fail
   refine FA.out.mono ?_
   rintro e w1 ⟨rfl,q,hq⟩
   go_wp2
   go_ret
   first | exact ⟨ret_int (by rw[HE2.out]),q,hq⟩ | exact ⟨ret_int (by rw[HE2.out]),q,rfl⟩
  ·have g0:((s.hd.K:Int) == 0)=false:=by rw[beq_eq_false_iff_ne];omega
   have g2:((s.hd.K:Int) == 2)=false:=by rw[beq_eq_false_iff_ne];omega
   have g3:((s.hd.K:Int) == 3)=false:=by rw[beq_eq_false_iff_ne];omega
   have HE2:Hid (s.checkClear=4):=by show s.checkClear=4;rw[HE1.out,if_neg (by omega),if_neg h3]
   clear h0 h2 h3 FJ HE1
   go_enter Tryz.func112,Tryz.ntmps112
   go_wp2
   go_ret
   exact ⟨ret_int (by rw[HE2.out];rfl),0,rfl⟩
 all_goals
  rw[hd] at kd
  rw[hsc] at kc
  rw[hd,hsc] at HE
  have HE1:Hid (s.checkClear=4):=HE.out
  clear hd hsc HE FA FJ
  go_enter Tryz.func112,Tryz.ntmps112
  go_wp2
  go_ret
  exact ⟨ret_int (by rw[HE1.out];rfl),0,rfl⟩
def Rd.checkPalette (s:Rd):Nat:=
 if s.sd || s.sp || s.sc then 4 else if s.hd.K=0∨s.hd.K=4 then 4
 else if s.length<3∨768<s.length∨s.length % 3≠0 then 5
 else if s.hd.K=3∧3*2^s.hd.D<s.length then 5 else 0
theorem checkPalette_x (b o n:Nat) (c:Nat→Value) (s:Rd) (w:World) (hB:Blk w b n c) (hV:RdV c o s) (hn:o+5954≤n) (hD:s.hd.D≤16) (hL:s.length<2147483648) :
  Calls Tryz.prog 111 #[.pointer (some ⟨b,o,none⟩)] w fun e w'=>e = .returned (.int .i64 (s.checkPalette:Int))∧Kept w w':=by
 have kd:=hB.at (i:=o+5952) (by omega) hV.sd
 have kc:=hB.at (i:=o+5951) (by omega) hV.sc
 have kp:=hB.at (i:=o+5950) (by omega) hV.sp
 have h0:=hB.at (i:=o+6) (by omega) hV.hd.W
 have h1:=hB.at (i:=o+6+1) (by omega) hV.hd.H
 have h2:=hB.at (i:=o+6+2) (by omega) hV.hd.D
 have kk:=hB.at (i:=o+6+3) (by omega) hV.hd.K
 have h4:=hB.at (i:=o+6+4) (by omega) hV.hd.L
 have k3:=hB.at (i:=o+3) (by omega) hV.length
 have HE:Hid (s.checkPalette=if s.sd || s.sp || s.sc then 4 else if s.hd.K=0∨s.hd.K=4 then 4 else if s.length<3∨768<s.length∨s.length % 3≠0 then 5 else if s.hd.K=3∧3*2^s.hd.D<s.length then 5 else 0):=rfl
 have FL:Hid (∀ W':World,Calls Tryz.prog 128 #[.agg #[.int .i64 (s.hd.W:Int),.int .i64 (s.hd.H:Int),.int .i64 (s.hd.D:Int),.int .i64 (s.hd.K:Int),.int .i64 (s.hd.L:Int)]] W' fun e w'=>e = .returned (.int .u32 ((2^s.hd.D:Nat):Int))∧Kept W' w'):=fun W'=>(ulevels_any _ _ _ _ _ W' hD).mono (fun e w' ⟨q1,q2⟩=>⟨q1,by rw[q2];exact Below.alloc (Below.refl _ _) (Nat.le_refl _) _⟩)
 have hbw:=hB.lt
 clear hB hV
 by_cases hf:s.sd=false∧s.sp=false∧s.sc=false
 ·obtain ⟨f1,f2,f3⟩:=hf
  rw[f1] at kd
  rw[f2] at kp
  rw[f3] at kc
  rw[f1,f2,f3] at HE
  clear f1 f2 f3
  have HE1:Hid (s.checkPalette=if s.hd.K=0∨s.hd.K=4 then 4 else if s.length<3∨768<s.length∨s.length % 3≠0 then 5 else if s.hd.K=3∧3*2^s.hd.D<s.length then 5 else 0):=HE.out
  clear HE
  by_cases hK:s.hd.K=0∨s.hd.K=4
  ·have HE2:Hid (s.checkPalette=4):=by show s.checkPalette=4;rw[HE1.out,if_pos hK]
   clear HE1 FL
   rcases hK with e | e
   all_goals
    rw[e] at kk
    clear e
    go_enter Tryz.func111,Tryz.ntmps111
    go_wp2
    go_ret
    exact ⟨ret_int (by rw[HE2.out];rfl),Kept.refl _⟩
  ·have g0:((s.hd.K:Int) == 0)=false:=by rw[beq_eq_false_iff_ne];omega
   have g4:((s.hd.K:Int) == 4)=false:=by rw[beq_eq_false_iff_ne];omega
   have HE2:Hid (s.checkPalette=if s.length<3∨768<s.length∨s.length % 3≠0 then 5 else if s.hd.K=3∧3*2^s.hd.D<s.length then 5 else 0):=by show s.checkPalette=_;rw[HE1.out,if_neg hK]
   clear HE1
   obtain ⟨N,hN⟩:∃ N,N=s.length:=⟨_,rfl⟩
   rw[← hN] at HE2 k3 hL
   clear hN
   by_cases hl:N<3∨768<N∨N % 3≠0
   ·have HE3:Hid (s.checkPalette=5):=by show s.checkPalette=5;rw[HE2.out,if_pos hl]
    clear HE2 FL hK
    by_cases l1:N<3
    ·have l1':decide ((N:Int)<3)=true:=decide_eq_true (by omega)
     clear l1 hl hL
     go_enter Tryz.func111,Tryz.ntmps111
     go_wp2
     go_ret
     exact ⟨ret_int (by rw[HE3.out];rfl),Kept.refl _⟩
    ·have l1':decide ((N:Int)<3)=false:=decide_eq_false (by omega)
     by_cases l2:768<N
     ·have l2':decide ((768:Int)<(N:Int))=true:=decide_eq_true (by omega)
      clear l1 l2 hl hL
      go_enter Tryz.func111,Tryz.ntmps111
      go_wp2
      go_ret
      exact ⟨ret_int (by rw[HE3.out];rfl),Kept.refl _⟩
     ·have l2':decide ((768:Int)<(N:Int))=false:=decide_eq_false (by omega)
      have l3':((N:Int) % 3 != 0)=true:=by rw[bne_iff_ne];omega
      clear l1 l2 hl hL
      go_enter Tryz.func111,Tryz.ntmps111
      go_wp2
      go_ret
      exact ⟨ret_int (by rw[HE3.out];rfl),Kept.refl _⟩
   ·have HE3:Hid (s.checkPalette=if s.hd.K=3∧3*2^s.hd.D<N then 5 else 0):=by show s.checkPalette=_;rw[HE2.out,if_neg hl]
    have l1':decide ((N:Int)<3)=false:=decide_eq_false (by omega)
    have l2':decide ((768:Int)<(N:Int))=false:=decide_eq_false (by omega)
    have l3':((N:Int) % 3 != 0)=false:=by rw[bne_eq_false_iff_eq];omega
    have HN:Hid (N≤768):=by show N≤768;omega
    clear hl hL HE2
    by_cases h3:s.hd.K=3
    ·rw[h3] at kk FL HE3
     have hp:=pow_lt s.hd.D hD
     obtain ⟨P,hP⟩:∃ P,P=2^s.hd.D:=⟨_,rfl⟩
     rw[← hP] at FL HE3 hp
     clear hP hK h3 g0 g4
     have eP:IntKind.u32.wrap (3*(P:Int))=3*(P:Int):=by rw[IntKind.wrap_u32];omega
     generalize s.hd.W=HW at *
     generalize s.hd.H=HH at *
     generalize s.hd.D=HD at *
     generalize s.hd.L=HL at *
     clear hp
     by_cases hq:3*P<N
     ·have hq':decide (3*(P:Int)<(N:Int))=true:=decide_eq_true (by omega)
      have HE4:Hid (s.checkPalette=5):=by show s.checkPalette=5;rw[HE3.out,if_pos ⟨rfl,hq⟩]
      clear hq
      go_enter Tryz.func111,Tryz.ntmps111
      go_wp2_with fail
      go_region_held3 (fun W=>W.cell? ⟨b,o+6,none⟩=some (.int .i64 (HW:Int))∧W.cell? ⟨b,o+6+1,none⟩=some (.int .i64 (HH:Int))∧W.cell? ⟨b,o+6+2,none⟩=some (.int .i64 (HD:Int))∧W.cell? ⟨b,o+6+3,none⟩=some (.int .i64 3)∧W.cell? ⟨b,o+6+4,none⟩=some (.int .i64 (HL:Int))∧W.cell? ⟨b,o+3,none⟩=some (.int .u32 (N:Int))) (first | exact ⟨h0,h1,h2,kk,h4,k3⟩ | exact hS2.out | go_keep) ((go_at_call 128;refine (FL.out _).mono ?_;rintro e w2 ⟨rfl,hk2⟩;have hk2':Kept w w2:=((Kept.refl _).drewN 1).trans hk2;have hS2:Hid (w2.cell? ⟨b,o+6,none⟩=some (.int .i64 (HW:Int))∧w2.cell? ⟨b,o+6+1,none⟩=some (.int .i64 (HH:Int))∧w2.cell? ⟨b,o+6+2,none⟩=some (.int .i64 (HD:Int))∧w2.cell? ⟨b,o+6+3,none⟩=some (.int .i64 3)∧w2.cell? ⟨b,o+6+4,none⟩=some (.int .i64 (HL:Int))∧w2.cell? ⟨b,o+3,none⟩=some (.int .u32 (N:Int))):=⟨(hk2'.cell (p:=⟨b,o+6,none⟩) hbw).trans h0,(hk2'.cell (p:=⟨b,o+6+1,none⟩) hbw).trans h1,(hk2'.cell (p:=⟨b,o+6+2,none⟩) hbw).trans h2,(hk2'.cell (p:=⟨b,o+6+3,none⟩) hbw).trans kk,(hk2'.cell (p:=⟨b,o+6+4,none⟩) hbw).trans h4,(hk2'.cell (p:=⟨b,o+3,none⟩) hbw).trans k3⟩))
      go_wp2
      go_ret
      exact ⟨ret_int (by rw[HE4.out];rfl),hk2'⟩
     ·have hq':decide (3*(P:Int)<(N:Int))=false:=decide_eq_false (by omega)
      have HE4:Hid (s.checkPalette=0):=by show s.checkPalette=0;rw[HE3.out,if_neg (fun q=>hq q.2)]
      clear hq
      go_enter Tryz.func111,Tryz.ntmps111
      go_wp2_with fail
      go_region_held3 (fun W=>W.cell? ⟨b,o+6,none⟩=some (.int .i64 (HW:Int))∧W.cell? ⟨b,o+6+1,none⟩=some (.int .i64 (HH:Int))∧W.cell? ⟨b,o+6+2,none⟩=some (.int .i64 (HD:Int))∧W.cell? ⟨b,o+6+3,none⟩=some (.int .i64 3)∧W.cell? ⟨b,o+6+4,none⟩=some (.int .i64 (HL:Int))∧W.cell? ⟨b,o+3,none⟩=some (.int .u32 (N:Int))) (first | exact ⟨h0,h1,h2,kk,h4,k3⟩ | exact hS2.out | go_keep) ((go_at_call 128;refine (FL.out _).mono ?_;rintro e w2 ⟨rfl,hk2⟩;have hk2':Kept w w2:=((Kept.refl _).drewN 1).trans hk2;have hS2:Hid (w2.cell? ⟨b,o+6,none⟩=some (.int .i64 (HW:Int))∧w2.cell? ⟨b,o+6+1,none⟩=some (.int .i64 (HH:Int))∧w2.cell? ⟨b,o+6+2,none⟩=some (.int .i64 (HD:Int))∧w2.cell? ⟨b,o+6+3,none⟩=some (.int .i64 3)∧w2.cell? ⟨b,o+6+4,none⟩=some (.int .i64 (HL:Int))∧w2.cell? ⟨b,o+3,none⟩=some (.int .u32 (N:Int))):=⟨(hk2'.cell (p:=⟨b,o+6,none⟩) hbw).trans h0,(hk2'.cell (p:=⟨b,o+6+1,none⟩) hbw).trans h1,(hk2'.cell (p:=⟨b,o+6+2,none⟩) hbw).trans h2,(hk2'.cell (p:=⟨b,o+6+3,none⟩) hbw).trans kk,(hk2'.cell (p:=⟨b,o+6+4,none⟩) hbw).trans h4,(hk2'.cell (p:=⟨b,o+3,none⟩) hbw).trans k3⟩))
      go_wp2
      go_ret
      exact ⟨ret_int (by rw[HE4.out];rfl),hk2'⟩
    ·have g3:((s.hd.K:Int) == 3)=false:=by rw[beq_eq_false_iff_ne];omega
     have HE4:Hid (s.checkPalette=0):=by show s.checkPalette=0;rw[HE3.out,if_neg (fun q=>h3 q.1)]
     clear HE3 FL hK h3
     go_enter Tryz.func111,Tryz.ntmps111
     go_wp2_with fail
     go_quiet (fail)
     go_wp2
     go_ret
     exact ⟨ret_int (by rw[HE4.out];rfl),(Kept.refl _).drewN _⟩
 ·have HE1:Hid (s.checkPalette=4):=by
   show s.checkPalette=4
   rw[HE.out,if_pos]
   cases g1:s.sd<;>cases g2:s.sp<;>cases g3:s.sc<;>simp_all
  clear HE FL
  cases g1:s.sd<;>cases g2:s.sp<;>cases g3:s.sc
  ·exact absurd ⟨g1,g2,g3⟩ hf
  all_goals
   rw[g1] at kd
   rw[g2] at kp
   rw[g3] at kc
   clear g1 g2 g3 hf
   go_enter Tryz.func111,Tryz.ntmps111
   go_wp2
   go_ret
   exact ⟨ret_int (by rw[HE1.out];rfl),Kept.refl _⟩
end Go.Proofs.YtmbmecfodigciaaGreatDoor
