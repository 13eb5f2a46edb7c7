import Derived.Test.YtmbmecfodigciaaGreatDoorGr48
import Derived.Test.YtmbmecfodigciaaGreatDoorGr45
set_option maxRecDepth 100000
set_option maxHeartbeats 6400000
namespace Go.Proofs.YtmbmecfodigciaaGreatDoor
open Go.RowKit Px
set_option linter.unusedSimpArgs false
set_option linter.unusedVariables false
theorem ahead_x (x wd n n4:Nat) (pk ps:Option Addr) (s0 s1 s2 s3 s4 s5 s6 s7 s9:Value) (KN:Nat→Int) (F:Nat→Nat→Int) (w:World) (c0:w.cell? ⟨x,0,none⟩=some (.int .i64 (wd:Int))) (c7:w.cell? ⟨x,7,none⟩=some (.int .i64 1)) (hw1:1≤wd) (hw2:wd≤16) (hn:n≤256) (hn0:0<n) (hn4:n4=4*n)
  (hk:∀ j,j<n→∃ g,pk=some ⟨g,0,none⟩∧w.cell? ⟨g,j,none⟩=some (.int .i64 (KN j)))
  (hA:∀ p,p<7→0<n→(∀ j,j<n→onB wd p j=decide (KN j=1))→∀ k,k<n→∃ q,k / wd % dyP p≤k / wd∧orgK wd p k=q∧(∀ W,Kept w W→Calls Tryz.prog 29 #[.pointer (some ⟨x,0,none⟩),.int .i64 (q:Int)] W fun e w'=>∃ g,e = .returned (.slice (some ⟨g,0,none⟩) 4 4)∧(∀ W',Kept w' W'→LAt W' .i64 (.slice (some ⟨g,0,none⟩) ((List.range 4).map (F k)).length 4) ((List.range 4).map (F k)))∧Kept W w'))
  (hS:∀ p,p<7→0<n→(∀ j,j<n→onB wd p j=decide (KN j=1))→∀ k,k<n→∃ g0,ps=some ⟨g0,0,none⟩∧∀ i,i<4→w.cell? ⟨g0,4*k+i,none⟩=some (.int .i64 (F k i))) :
  Calls Tryz.prog 28 #[.pointer (some ⟨x,0,none⟩),.agg #[s0,s1,s2,s3,s4,s5,s6,s7,.slice pk n n,s9,.slice ps n4 n4]] w fun r w'=>r = .returned (.bool true)∧Kept w w':=by
 have hk0:Kept w (w.alloc (Obj.cells #[s0,s1,s2,s3,s4,s5,s6,s7,.slice pk n n,s9,.slice ps n4 n4] 50)):=Below.alloc (Below.refl _ _) (Nat.le_refl _) _
 have HA:Hid (∀ W,Kept (w.alloc (Obj.cells #[s0,s1,s2,s3,s4,s5,s6,s7,.slice pk n n,s9,.slice ps n4 n4] 50)) W→(W.cell? ⟨x,0,none⟩=some (.int .i64 (wd:Int))∧W.cell? ⟨w.heap.size,8,none⟩=some (.slice pk n n)∧W.cell? ⟨w.heap.size,10,none⟩=some (.slice ps n4 n4))):=fun W k=>by
  have hs0:w.heap.size<(w.alloc (Obj.cells #[s0,s1,s2,s3,s4,s5,s6,s7,.slice pk n n,s9,.slice ps n4 n4] 50)).heap.size:=by simp
  exact ⟨((hk0.trans k).cell (p:=⟨x,0,none⟩) (World.block_lt_of_cell? _ _ c0)).trans c0,(k.cell (p:=⟨w.heap.size,8,none⟩) hs0).trans ((World.cell?_alloc_at _ _ _ _ rfl).trans rfl),(k.cell (p:=⟨w.heap.size,10,none⟩) hs0).trans ((World.cell?_alloc_at _ _ _ _ rfl).trans rfl)⟩
 have a7:=(hk0.cell (p:=⟨x,7,none⟩) (World.block_lt_of_cell? _ _ c7)).trans c7
 have HK:Hid (∀ W,Kept w W→∀ j,j<n→∃ g,pk=some ⟨g,0,none⟩∧W.cell? ⟨g,j,none⟩=some (.int .i64 (KN j))):=fun W k j hj=>by
  obtain ⟨g,e,c⟩:=hk j hj
  exact ⟨g,e,(k.cell (p:=⟨g,j,none⟩) (World.block_lt_of_cell? _ _ c)).trans c⟩
 have HAL:Hid _:=hA
 have FJ:Hid (∀ p,p<7→0<n→(∀ j,j<n→onB wd p j=decide (KN j=1))→∀ k,k<n→∃ g0,ps=some ⟨g0,0,none⟩∧∀ W g,Kept w W→LAt W .i64 (.slice (some ⟨g,0,none⟩) ((List.range 4).map (F k)).length 4) ((List.range 4).map (F k))→Calls Tryz.prog 27 #[.slice (some ⟨g0,4*k,none⟩) 4 (n4 - 4*k),.slice (some ⟨g,0,none⟩) 4 4] W fun e w'=>e = .returned (.bool true)∧Kept W w'):=fun p hp h0 hj k hk=>by
  obtain ⟨g0,e,c⟩:=hS p hp h0 hj k hk
  refine ⟨g0,e,fun W g kW hl => ?_⟩
  have e1:((List.range 4).map (F k)).length=4:=rfl
  have hl1:LAt W .i64 (.slice (some ⟨g0,4*k,none⟩) ((List.range 4).map (F k)).length (n4 - 4*k)) ((List.range 4).map (F k)):=lat_of (fun j hj=>(kW.cell (p:=⟨g0,4*k+j,none⟩) (World.block_lt_of_cell? _ _ (c j hj))).trans (c j hj))
  have:=sameInts_x (some ⟨g0,4*k,none⟩) (some ⟨g,0,none⟩) 4 4 (n4 - 4*k) 4 _ _ W e1.symm e1.symm hl1 hl (by rw[e1];omega) (by rw[e1];omega)
  rw[decide_eq_true rfl] at this
  exact this
 have FO:Hid (∀ W p k,Kept w W→p<7→k<n→Calls Tryz.prog 46 #[.pointer (some ⟨x,0,none⟩),.int .i64 (k:Int),.int .i64 (dxP p:Int),.int .i64 (dyP p:Int)] W fun r w'=>r = .returned (.bool (onB wd p k))∧w'=W):=fun W p k kW hp hkn=>by
  obtain ⟨d1,d2,d3,d4⟩:=dP_ok p hp
  exact on_x x wd k (dxP p) (dyP p) W ((kW.cell (p:=⟨x,0,none⟩) (World.block_lt_of_cell? _ _ c0)).trans c0) hw1 hw2 (by omega) d1 d2 d3 d4
 have e4:4*(n:Int)=(n4:Int):=by omega
 have hn4b:n4≤1024:=by omega
 replace hn4:Hid _:=hn4
 replace hk0:Hid _:=hk0
 clear hk hA hS c7
 go_enter Tryz.func28,Tryz.ntmps28
 go_upto_region 1 with fail
 generalize (w.alloc (Obj.cells #[s0,s1,s2,s3,s4,s5,s6,s7,.slice pk n n,s9,.slice ps n4 n4] 50))=w0 at *
 go_wp2_with fail
 clear a7
 go_loopg [5,6,7,8,9,10,11,12,13,14,15] 7 (fun m v5 v6 v7 v8 v9 v10 v11 v12 v13 v14 v15 W=>∃ p:Nat,m=7 - p∧p≤7∧v7 = .int .i64 (p:Int)∧v5 = .int .i64 (dxP p:Int)∧v6 = .int .i64 (dyP p:Int)∧Kept w0 W)
 case atStart=>exact ⟨0,by omega,by omega,rfl,rfl,rfl,Kept.refl _⟩
 case round=>
  obtain ⟨p,hgp,hp7,rfl,rfl,rfl,hkw⟩:=hrel
  replace hgp:Hid _:=hgp
  have KR:Hid (Kept w0 wr):=hkw
  clear hkw
  obtain ⟨a0,a8,a10⟩:=HA.out wr KR.out
  by_cases hpl:p<7
  ·have hpl':(p:Int)<7:=by omega
   have HD:Hid _:=dP_ok p hpl
   have HEv:Hid _:=dP_even p hpl
   have HOd:Hid _:=dP_odd p hpl
   have FOp:Hid (∀ W k,Kept w W→k<n→Calls Tryz.prog 46 #[.pointer (some ⟨x,0,none⟩),.int .i64 (k:Int),.int .i64 (dxP p:Int),.int .i64 (dyP p:Int)] W fun r w'=>r = .returned (.bool (onB wd p k))∧w'=W):=fun W k kW hkn=>FO.out W p k kW hpl hkn
   have FSp:Hid _:=FJ.out p hpl
   have FAp:Hid _:=HAL.out p hpl
   have HOrg:Hid (∀ k,orgK wd p k=(k / wd - k / wd % dyP p)*wd+k % wd - k % wd % dxP p):=fun k=>rfl
   obtain ⟨hd1,hd2,hd3,hd4⟩:=HD.out
   generalize dxP p=DX at *
   generalize dyP p=DY at *
   have n0:(0:Int)<(n:Int):=by omega
   go_wp2_with fail
   go_loopg [8,9,10] n (fun m v8 v9 v10 W=>∃ k:Nat,m=n - k∧k≤n∧v9 = .int .i64 (k:Int)∧v8 = .bool (allB' (fun j=>onB wd p j == decide (KN j=1)) k)∧Kept w0 W)
   case atStart=>exact ⟨0,by omega,by omega,rfl,rfl,KR.out⟩
   case round=>
    obtain ⟨k,hgk,hkn,rfl,rfl,hkv⟩:=hrel
    replace hgk:Hid _:=hgk
    have KV:Hid (Kept w0 wr):=hkv
    clear hkv a0 a8 a10
    obtain ⟨a0,a8,a10⟩:=HA.out wr KV.out
    by_cases hlt:k<n
    ·have hlt':(k:Int)<(n:Int):=by omega
     have k0:(0:Int)≤(k:Int):=by omega
     have FK:Hid _:=FOp.out wr k (Kept.trans hk0.out KV.out) hlt
     obtain ⟨g1,hpk,y1⟩:=HK.out wr (Kept.trans hk0.out KV.out) k hlt
     rw[hpk] at a8
     replace hpk:Hid _:=hpk
     have HF1:Hid (allB' (fun j=>onB wd p j == decide (KN j=1)) (k+1)=(allB' (fun j=>onB wd p j == decide (KN j=1)) k && (onB wd p k == decide (KN k=1)))):=rfl
     have HB1:Hid (decide (KN k=1)=(KN k == 1)):=by
      show decide (KN k=1)=(KN k == 1)
      by_cases q:KN k=1
      ·rw[q];rfl
      ·rw[decide_eq_false q];exact (beq_eq_false_iff_ne.2 q).symm
     have HF2:=HF1.out
     rw[HB1.out] at HF2
     replace HF1:Hid _:=HF2
     clear HF2
     generalize allB' (fun j=>onB wd p j == decide (KN j=1)) k=J1 at *
     generalize onB wd p k=G at *
     generalize KN k=KV1 at *
     clear HB1
     go_wp2_with fail
     refine Calls.mono FK.out ?_
     rintro e w2 ⟨rfl,hw2⟩
     subst w2
     cases hb:(KV1 == 1)
     ·rw[hb] at HF1
      cases G
      ·go_wp2_with fail
       go_roundg (n - (k+1))
       case measure=>rw[hgk.out];omega
       case rel=>exact ⟨k+1,rfl,by omega,by go_num,by rw[HF1.out];simp,KV.out⟩
      ·go_wp2_with fail
       go_roundg (n - (k+1))
       case measure=>rw[hgk.out];omega
       case rel=>exact ⟨k+1,rfl,by omega,by go_num,by rw[HF1.out];simp,KV.out⟩
     ·rw[hb] at HF1
      cases G
      ·go_wp2_with fail
       go_roundg (n - (k+1))
       case measure=>rw[hgk.out];omega
       case rel=>exact ⟨k+1,rfl,by omega,by go_num,by rw[HF1.out];simp,KV.out⟩
      ·go_wp2_with fail
       go_roundg (n - (k+1))
       case measure=>rw[hgk.out];omega
       case rel=>exact ⟨k+1,rfl,by omega,by go_num,by rw[HF1.out];simp,KV.out⟩
    ·have hlt':¬ (k:Int)<(n:Int):=by omega
     have hkN:k=n:=by omega
     subst hkN
     have HJ:Hid (allB' (fun j=>onB wd p j == decide (KN j=1)) k=true→∀ j,j<k→onB wd p j=decide (KN j=1)):=fun e j hj=>by
      have:=allB'_true k e j hj
      exact eq_of_beq this
     generalize allB' (fun j=>onB wd p j == decide (KN j=1)) k=J at *
     clear hgk
     go_wp2_with fail
     go_loopg [11,12,13,14,15] k (fun m v11 v12 v13 v14 v15 W=>∃ i:Nat,m=k - i∧i≤k∧v11 = .int .i64 (i:Int)∧Kept w0 W)
     case atStart=>exact ⟨0,by omega,by omega,rfl,KV.out⟩
     case round=>
      obtain ⟨i,hgi,hik,rfl,hkz⟩:=hrel
      replace hgi:Hid _:=hgi
      have KZ:Hid (Kept w0 wr):=hkz
      clear hkz a0 a8 a10
      obtain ⟨a0,a8,a10⟩:=HA.out wr KZ.out
      by_cases hil:i<k
      ·have hil':(i:Int)<(k:Int):=by omega
       have i0:(0:Int)≤(i:Int):=by omega
       cases J with
       | false=>
        obtain ⟨PM,hPM⟩:∃ PM,PM=p % 2:=⟨_,rfl⟩
        have tp:(p:Int).tmod 2=(PM:Int):=by rw[Int.tmod_eq_emod_of_nonneg (by omega),hPM];exact (Int.natCast_emod _ _).symm
        have tp':(p:Int) % 2=(PM:Int):=by rw[hPM];exact (Int.natCast_emod _ _).symm
        obtain ⟨HX,hHX⟩:∃ HX,HX=DX / 2:=⟨_,rfl⟩
        obtain ⟨HY,hHY⟩:∃ HY,HY=DY / 2:=⟨_,rfl⟩
        have x1:(DX:Int).tdiv 2=(HX:Int):=by rw[Int.tdiv_eq_ediv_of_nonneg (by omega),hHX];exact (Int.natCast_ediv _ _).symm
        have x2:(DX:Int) / 2=(HX:Int):=by rw[hHX];exact (Int.natCast_ediv _ _).symm
        have x3:(DY:Int).tdiv 2=(HY:Int):=by rw[Int.tdiv_eq_ediv_of_nonneg (by omega),hHY];exact (Int.natCast_ediv _ _).symm
        have x4:(DY:Int) / 2=(HY:Int):=by rw[hHY];exact (Int.natCast_ediv _ _).symm
        have pm2:PM<2:=by omega
        have hb1:HX≤8:=by omega
        have hb2:HY≤8:=by omega
        by_cases hev:PM=0
        ·have hq:Hid _:=HEv.out (by omega)
         rw[← hHX] at hq
         subst hev
         clear hPM hHX hHY
         go_wp2_with fail
         go_roundg (7 - (p+1))
         case measure=>rw[hgp.out];omega
         case rel=>exact ⟨p+1,rfl,by omega,by go_num,by rw[hq.out.1],by rw[hq.out.2],KZ.out⟩
        ·have hq:Hid _:=HOd.out (by omega)
         rw[← hHY] at hq
         have hev':((PM:Int) == 0)=false:=by rw[beq_eq_false_iff_ne];omega
         clear hPM hHX hHY hev
         go_wp2_with fail
         go_roundg (7 - (p+1))
         case measure=>rw[hgp.out];omega
         case rel=>exact ⟨p+1,rfl,by omega,by go_num,by rw[hq.out.1],by rw[hq.out.2],KZ.out⟩
       | true=>
        obtain ⟨q,hqy,hqo,FC⟩:=FAp.out hn0 (HJ.out rfl) i hil
        obtain ⟨gg,hps,FQ⟩:=FSp.out hn0 (HJ.out rfl) i hil
        rw[hps] at a10
        replace hps:Hid _:=hps
        rw[HOrg.out i] at hqo
        obtain ⟨X,hX⟩:∃ X,X=i % wd:=⟨_,rfl⟩
        obtain ⟨Y,hY⟩:∃ Y,Y=i / wd:=⟨_,rfl⟩
        rw[← hX,← hY] at hqo
        rw[← hY] at hqy
        have tX:(i:Int).tmod (wd:Int)=(X:Int):=by rw[Int.tmod_eq_emod_of_nonneg (by omega),hX];exact (Int.natCast_emod _ _).symm
        have tY:(i:Int).tdiv (wd:Int)=(Y:Int):=by rw[Int.tdiv_eq_ediv_of_nonneg (by omega),hY];exact (Int.natCast_ediv _ _).symm
        have tX':(i:Int) % (wd:Int)=(X:Int):=by rw[hX];exact (Int.natCast_emod _ _).symm
        have tY':(i:Int) / (wd:Int)=(Y:Int):=by rw[hY];exact (Int.natCast_ediv _ _).symm
        have hXb:X<1000:=by rw[hX];exact Nat.lt_of_le_of_lt (Nat.mod_le _ _) (by omega)
        have hYb:Y<1000:=by rw[hY];exact Nat.lt_of_le_of_lt (Nat.div_le_self _ _) (by omega)
        obtain ⟨A,hAq⟩:∃ A,A=Y % DY:=⟨_,rfl⟩
        obtain ⟨B,hBq⟩:∃ B,B=X % DX:=⟨_,rfl⟩
        rw[← hAq,← hBq] at hqo
        rw[← hAq] at hqy
        have tA:(Y:Int).tmod (DY:Int)=(A:Int):=by rw[Int.tmod_eq_emod_of_nonneg (by omega),hAq];exact (Int.natCast_emod _ _).symm
        have tB:(X:Int).tmod (DX:Int)=(B:Int):=by rw[Int.tmod_eq_emod_of_nonneg (by omega),hBq];exact (Int.natCast_emod _ _).symm
        have tA':(Y:Int) % (DY:Int)=(A:Int):=by rw[hAq];exact (Int.natCast_emod _ _).symm
        have tB':(X:Int) % (DX:Int)=(B:Int):=by rw[hBq];exact (Int.natCast_emod _ _).symm
        have hBX:B≤X:=by rw[hBq];exact Nat.mod_le _ _
        obtain ⟨C,hC⟩:∃ C,C=Y - A:=⟨_,rfl⟩
        obtain ⟨E,hE⟩:∃ E,E=C*wd:=⟨_,rfl⟩
        obtain ⟨M1,hM1⟩:∃ M,M=E+X:=⟨_,rfl⟩
        rw[← hC,← hE,← hM1] at hqo
        have tC:(Y:Int) - (A:Int)=(C:Int):=by omega
        have tE:(C:Int)*(wd:Int)=(E:Int):=by rw[hE];exact (Int.natCast_mul _ _).symm
        have tM:(E:Int)+(X:Int)=(M1:Int):=by omega
        have tQ:(M1:Int) - (B:Int)=(q:Int):=by omega
        have hEb:E≤1000*16:=by rw[hE];exact Nat.mul_le_mul (by omega) hw2
        have w0':((wd:Int) == 0)=false:=by rw[beq_eq_false_iff_ne];omega
        have w1:¬ ((wd:Int)=0):=by omega
        have w2:¬ (wd=0):=by omega
        have z0:((DX:Int) == 0)=false:=by rw[beq_eq_false_iff_ne];omega
        have z1:¬ ((DX:Int)=0):=by omega
        have z2:¬ (DX=0):=by omega
        have f0:((DY:Int) == 0)=false:=by rw[beq_eq_false_iff_ne];omega
        have f1:¬ ((DY:Int)=0):=by omega
        have f2:¬ (DY=0):=by omega
        obtain ⟨T0,hT0⟩:∃ T,T=4*i:=⟨_,rfl⟩
        obtain ⟨T4,hT4⟩:∃ T,T=4*i+4:=⟨_,rfl⟩
        have t1:4*(i:Int)=(T0:Int):=by omega
        have t2:(T0:Int)+4=(T4:Int):=by omega
        have b1:T0≤T4:=by omega
        have b2:T4≤n4:=by omega
        have b3:T4 - T0=4:=by omega
        have hqb:q≤20000:=by omega
        have hAb:A<1000:=by omega
        have hBb:B<1000:=by omega
        have hCb:C<1000:=by omega
        have hMb:M1<20000:=by omega
        have wA:IntKind.i64.wrap (A:Int)=(A:Int):=by rw[IntKind.wrap_i64];omega
        have wB:IntKind.i64.wrap (B:Int)=(B:Int):=by rw[IntKind.wrap_i64];omega
        have wC:IntKind.i64.wrap (C:Int)=(C:Int):=by rw[IntKind.wrap_i64];omega
        have wE:IntKind.i64.wrap (E:Int)=(E:Int):=by rw[IntKind.wrap_i64];omega
        have wM:IntKind.i64.wrap (M1:Int)=(M1:Int):=by rw[IntKind.wrap_i64];omega
        have wQ:IntKind.i64.wrap (q:Int)=(q:Int):=by rw[IntKind.wrap_i64];omega
        rw[← hT0] at FQ
        replace FQ:Hid _:=FQ
        replace FC:Hid _:=FC
        have HW:Hid (∀ W,Kept wr W→W.cell? ⟨x,0,none⟩=some (.int .i64 (wd:Int))):=fun W k=>(k.cell (p:=⟨x,0,none⟩) (World.block_lt_of_cell? _ _ a0)).trans a0
        clear hX hY hAq hBq hC hE hM1 hqo hT0 hT4 hqy
        go_wp2_with fail
        go_region_held3 (fun W=>W.cell? ⟨x,0,none⟩=some (.int .i64 (wd:Int))) (first | exact HW.out _ ((Kept.refl _).drewN 1) | exact HW.out _ hk5 | go_keep) ((go_at_call 29;refine Calls.mono (FC.out _ (Kept.trans (Kept.trans hk0.out KZ.out) ((Kept.refl _).drewN 1))) ?_;rintro e w5 ⟨g,rfl,hl5,hk5'⟩;have hk5:Kept wr w5:=((Kept.refl _).drewN 1).trans hk5'))
        have K5:Hid (Kept w0 w5):=KZ.out.trans hk5
        replace hl5:Hid _:=hl5
        clear hk5 hk5' a0 a8
        have a0:=(HA.out w5 K5.out).1
        have a8:=(HA.out w5 K5.out).2.1
        have a10':=(HA.out w5 K5.out).2.2
        rw[hps.out] at a10'
        clear a10
        go_wp2_with fail
        refine Calls.mono (FQ.out w5 g (Kept.trans hk0.out K5.out) (hl5.out _ (Kept.refl _))) ?_
        rintro e w6 ⟨rfl,hk6⟩
        have K6:Hid (Kept w0 w6):=K5.out.trans hk6
        clear hk6
        go_wp2_with fail
        go_roundg (k - (i+1))
        case measure=>rw[hgi.out];omega
        case rel=>exact ⟨i+1,rfl,by omega,by go_num,K6.out⟩
      ·have hil':¬ (i:Int)<(k:Int):=by omega
       obtain ⟨PM,hPM⟩:∃ PM,PM=p % 2:=⟨_,rfl⟩
       have tp:(p:Int).tmod 2=(PM:Int):=by rw[Int.tmod_eq_emod_of_nonneg (by omega),hPM];exact (Int.natCast_emod _ _).symm
       have tp':(p:Int) % 2=(PM:Int):=by rw[hPM];exact (Int.natCast_emod _ _).symm
       obtain ⟨HX,hHX⟩:∃ HX,HX=DX / 2:=⟨_,rfl⟩
       obtain ⟨HY,hHY⟩:∃ HY,HY=DY / 2:=⟨_,rfl⟩
       have x1:(DX:Int).tdiv 2=(HX:Int):=by rw[Int.tdiv_eq_ediv_of_nonneg (by omega),hHX];exact (Int.natCast_ediv _ _).symm
       have x2:(DX:Int) / 2=(HX:Int):=by rw[hHX];exact (Int.natCast_ediv _ _).symm
       have x3:(DY:Int).tdiv 2=(HY:Int):=by rw[Int.tdiv_eq_ediv_of_nonneg (by omega),hHY];exact (Int.natCast_ediv _ _).symm
       have x4:(DY:Int) / 2=(HY:Int):=by rw[hHY];exact (Int.natCast_ediv _ _).symm
       have pm2:PM<2:=by omega
       have hb1:HX≤8:=by omega
       have hb2:HY≤8:=by omega
       by_cases hev:PM=0
       ·have hq:Hid _:=HEv.out (by omega)
        rw[← hHX] at hq
        subst hev
        clear hPM hHX hHY
        go_wp2_with fail
        go_roundg (7 - (p+1))
        case measure=>rw[hgp.out];omega
        case rel=>exact ⟨p+1,rfl,by omega,by go_num,by rw[hq.out.1],by rw[hq.out.2],KZ.out⟩
       ·have hq:Hid _:=HOd.out (by omega)
        rw[← hHY] at hq
        have hev':((PM:Int) == 0)=false:=by rw[beq_eq_false_iff_ne];omega
        clear hPM hHX hHY hev
        go_wp2_with fail
        go_roundg (7 - (p+1))
        case measure=>rw[hgp.out];omega
        case rel=>exact ⟨p+1,rfl,by omega,by go_num,by rw[hq.out.1],by rw[hq.out.2],KZ.out⟩
  ·have hpl':¬ (p:Int)<7:=by omega
   go_wp2_with fail
   go_ret
   exact ⟨rfl,Kept.trans hk0.out KR.out⟩
def inG (L q X Y:Nat):Bool:=decide ((psOf L q).cf≤X) && decide ((X - (psOf L q).cf) % (psOf L q).cs=0) && decide ((psOf L q).rf≤Y) && decide ((Y - (psOf L q).rf) % (psOf L q).rs=0)
theorem one_pass7:∀ X,X<16→∀ Y,Y<16→∀ q,q<7→∀ q',q'<7→(inG 1 q X Y && inG 1 q' X Y)=true→q=q':=by decide +kernel
theorem one_pass {L X Y q q':Nat} (hL:L≤1) (hX:X<16) (hY:Y<16) (h1:q<cntP L) (h2:q'<cntP L) (g1:inG L q X Y=true) (g2:inG L q' X Y=true):q=q':=by
 unfold cntP at h1 h2
 by_cases e:L=1
 ·subst e
  rw[if_pos rfl] at h1 h2
  exact one_pass7 X hX Y hY q h1 q' h2 (by rw[g1,g2];rfl)
 ·rw[if_neg e] at h1 h2
  omega
theorem pt_one {h:Hd} {q l i q' l' i':Nat} (hL:h.L≤1) (hW:h.W≤16) (hH:h.H≤16) (h1:q<cntP h.L) (h2:q'<cntP h.L) (hl:l<linesP h q) (hi:i<colsP h q) (hl':l'<linesP h q') (hi':i'<colsP h q') (e:ptP h q l i=ptP h q' l' i'):q=q'∧l=l':=by
 have po:=psOf_ok h.L q
 have po':=psOf_ok h.L q'
 have a1:=wthn_in po.2.1 hi
 have a2:=wthn_in po.2.2.2.2.2.1 hl
 have b1:=wthn_in po'.2.1 hi'
 have b2:=wthn_in po'.2.2.2.2.2.1 hl'
 unfold ptP at e
 have eX:(psOf h.L q).cf+i*(psOf h.L q).cs=(psOf h.L q').cf+i'*(psOf h.L q').cs:=by omega
 have eY:(psOf h.L q).rf+l*(psOf h.L q).rs=(psOf h.L q').rf+l'*(psOf h.L q').rs:=by omega
 have g:∀ q l i,inG h.L q ((psOf h.L q).cf+i*(psOf h.L q).cs) ((psOf h.L q).rf+l*(psOf h.L q).rs)=true:=fun q l i=>by
  unfold inG
  rw[decide_eq_true (show (psOf h.L q).cf≤(psOf h.L q).cf+i*(psOf h.L q).cs by omega),Nat.add_sub_cancel_left,Nat.mul_mod_left,decide_eq_true (show (psOf h.L q).rf≤(psOf h.L q).rf+l*(psOf h.L q).rs by omega),Nat.add_sub_cancel_left,Nat.mul_mod_left]
  rfl
 have g1:=g q l i
 have g2:=g q' l' i'
 rw[← eX,← eY] at g2
 have eq:=one_pass hL (by omega) (by omega) h1 h2 g1 g2
 subst eq
 refine ⟨rfl,?_⟩
 have:l*(psOf h.L q).rs=l'*(psOf h.L q).rs:=by omega
 exact Nat.eq_of_mul_eq_mul_right (by omega) this
structure RwK (r:Rw):Prop where
 L:r.hd.L≤1
 W:r.hd.W≤16
 H:r.hd.H≤16
 p0:0≤r.pass
 geo:wholeP r=false→r.columns=colsP r.hd r.pass.toNat∧r.lines=linesP r.hd r.pass.toNat∧r.line<linesP r.hd r.pass.toNat
 kn:∀ a,r.known a=true→∃ q l i,q<cntP r.hd.L∧l<linesP r.hd q∧i<colsP r.hd q∧a=ptP r.hd q l i∧((q:Int)<r.pass∨((q:Int)=r.pass∧l<r.line))
def Mono (r r':Rw):Prop:=∀ a,r.known a=true→r'.known a=true∧∀ c,c<4→r'.smp (4*a+c)=r.smp (4*a+c)
theorem Mono.refl (r:Rw):Mono r r:=fun a h=>⟨h,fun c _=>rfl⟩
theorem Mono.trans {a b c:Rw} (h:Mono a b) (k:Mono b c):Mono a c:=fun p hp=>⟨(k p (h p hp).1).1,fun d hd=>((k p (h p hp).1).2 d hd).trans ((h p hp).2 d hd)⟩
theorem Mono.same {r r':Rw} (e1:r'.known=r.known) (e2:r'.smp=r.smp):Mono r r':=fun a h=>⟨by rw[e1];exact h,fun c _=>by rw[e2]⟩
theorem RwK.same {r r':Rw} (h:RwK r) (e1:r'.hd=r.hd) (e2:r'.pass=r.pass) (e3:r'.columns=r.columns) (e4:r'.lines=r.lines) (e5:r'.line=r.line) (e6:r'.known=r.known):RwK r' :=
 ⟨by rw[e1];exact h.L,by rw[e1];exact h.W,by rw[e1];exact h.H,by rw[e2];exact h.p0,fun w=>by
  have:wholeP r=false:=by unfold wholeP at w ⊢;rw[e1,e2] at w;exact w
  rw[e1,e2,e3,e4,e5];exact h.geo this,fun a q=>by rw[e1,e2,e5];rw[e6] at q;exact h.kn a q⟩
theorem npK:∀ (n:Nat) (r:Rw) (p:Nat),r.pass=(p:Int)→cntP r.hd.L<p+n→(npGo n r).hd=r.hd∧(npGo n r).known=r.known∧r.pass≤(npGo n r).pass∧(wholeP (npGo n r)=false→(npGo n r).columns=colsP r.hd (npGo n r).pass.toNat∧(npGo n r).lines=linesP r.hd (npGo n r).pass.toNat∧0<linesP r.hd (npGo n r).pass.toNat)
 | 0,r,p,hp,hc=>⟨rfl,rfl,Int.le_refl _,fun w=>by
   unfold wholeP at w
   have:=of_decide_eq_false w
   replace this:¬ (cntP r.hd.L:Int)≤r.pass:=this
   omega⟩
 | n+1,r,p,hp,hc=>by
  have ego:npGo (n+1) r=if r.pass<(cntP r.hd.L:Int) then (if 0<(npSet r).columns∧0<(npSet r).lines then npSet r else npGo n { npSet r with pass:=r.pass+1 }) else r:=rfl
  have ps:r.ps=psOf r.hd.L r.pass.toNat:=rfl
  have c1:(npSet r).columns=colsP r.hd r.pass.toNat:=rfl
  have c2:(npSet r).lines=linesP r.hd r.pass.toNat:=rfl
  rw[ego]
  by_cases h1:r.pass<(cntP r.hd.L:Int)
  ·rw[if_pos h1]
   by_cases h2:0<(npSet r).columns∧0<(npSet r).lines
   ·rw[if_pos h2]
    exact ⟨rfl,rfl,Int.le_refl _,fun _=>⟨c1,c2,h2.2⟩⟩
   ·rw[if_neg h2]
    have ih:=npK n { npSet r with pass:=r.pass+1 } (p+1) (by show r.pass+1=((p+1:Nat):Int);rw[hp];omega) (by show cntP r.hd.L<p+1+n;omega)
    refine ⟨ih.1,ih.2.1,?_,ih.2.2.2⟩
    have:=ih.2.2.1
    replace this:r.pass+1≤_:=this
    omega
  ·rw[if_neg h1]
   refine ⟨rfl,rfl,Int.le_refl _,fun w => ?_⟩
   unfold wholeP at w
   have:=of_decide_eq_false w
   replace this:¬ (cntP r.hd.L:Int)≤r.pass:=this
   omega
theorem next_k {r:Rw} (hL:r.hd.L≤1) (hW:r.hd.W≤16) (hH:r.hd.H≤16) (p:Nat) (hp:r.pass+1=(p:Int)) (kn:∀ a,r.known a=true→∃ q l i,q<cntP r.hd.L∧l<linesP r.hd q∧i<colsP r.hd q∧a=ptP r.hd q l i∧(q:Int)<(p:Int)):RwK r.next:=by
 have hc:=cnt7 hL
 obtain ⟨h1,h2,h3,h4⟩:=npK 8 { r with pass:=r.pass+1 } p hp (by show cntP r.hd.L<p+8;omega)
 replace h1:(npGo 8 { r with pass:=r.pass+1 }).hd=r.hd:=h1
 replace h2:(npGo 8 { r with pass:=r.pass+1 }).known=r.known:=h2
 replace h3:r.pass+1≤(npGo 8 { r with pass:=r.pass+1 }).pass:=h3
 unfold Rw.next
 generalize npGo 8 { r with pass:=r.pass+1 }=m at *
 have eh:(npEnd m).hd=r.hd:=h1
 refine ⟨by rw[eh];exact hL,by rw[eh];exact hW,by rw[eh];exact hH,?_,fun w => ?_,fun a ha => ?_⟩
 ·show 0≤m.pass
  omega
 ·obtain ⟨g1,g2,g3⟩:=h4 w
  rw[eh]
  exact ⟨g1,g2,g3⟩
 ·replace ha:m.known a=true:=ha
  rw[h2] at ha
  obtain ⟨q,l,i,k1,k2,k3,k4,k5⟩:=kn a ha
  rw[eh]
  refine ⟨q,l,i,k1,k2,k3,k4,Or.inl ?_⟩
  show (q:Int)<m.pass
  omega
theorem start_k {h:Hd} {C:Nat} (hL:h.L≤1) (hW:h.W≤16) (hH:h.H≤16):RwK (Rw.start h C):=next_k (r:=rw0 h C) hL hW hH 0 (by show (-1:Int)+1=0;decide) (fun a q=>absurd (show false=true from q) (by decide))
theorem take_k {r:Rw} (k:RwK r) (x:Nat):RwK (r.take x).1∧Mono r (r.take x).1:=by
 unfold Rw.take
 by_cases w:wholeP r=true
 ·rw[if_pos w];exact ⟨k,Mono.refl _⟩
 rw[if_neg w]
 have wf:wholeP r=false:=by cases h:wholeP r with | false=>rfl | true=>exact absurd h w
 split
 ·unfold Rw.takeF
  split
  ·exact ⟨k.same rfl rfl rfl rfl rfl rfl,Mono.same rfl rfl⟩
  ·exact ⟨k.same rfl rfl rfl rfl rfl rfl,Mono.same rfl rfl⟩
 split
 ·exact ⟨k.same rfl rfl rfl rfl rfl rfl,Mono.same rfl rfl⟩
 obtain ⟨q,hq⟩:∃ q,q=({ r with taken:=r.taken+1 }:Rw).lay (r.taken - 1) x:=⟨_,rfl⟩
 rw[← hq]
 have kq:RwK q:=by rw[hq];exact k.same rfl rfl rfl rfl rfl rfl
 have mq:Mono r q:=by rw[hq];exact Mono.same rfl rfl
 have wq:wholeP q=false:=by rw[hq];exact wf
 clear hq
 unfold Rw.endRow
 by_cases hb:q.bad=true
 ·rw[if_pos hb];exact ⟨kq,mq⟩
 rw[if_neg hb]
 obtain ⟨g1,g2,g3⟩:=kq.geo wq
 have hpl:q.pass<(cntP q.hd.L:Int):=by
  unfold wholeP at wq
  have:=of_decide_eq_false wq
  omega
 have p0:=kq.p0
 have po:=psOf_ok q.hd.L q.pass.toNat
 have hpt:∀ i,q.pt i=ptP q.hd q.pass.toNat q.line i:=fun i=>rfl
 obtain ⟨y1,y2,y3⟩:=layPx_at q (chn_le _) (fun i j hij=>by
  rw[hpt,hpt]
  unfold ptP
  have:i*(psOf q.hd.L q.pass.toNat).cs<j*(psOf q.hd.L q.pass.toNat).cs:=Nat.mul_lt_mul_of_pos_right hij (by omega)
  omega) q.columns
 have ml:Mono q q.laid:=fun a ha=>by
  obtain ⟨b,l,i,k1,k2,k3,k4,k5⟩:=kq.kn a ha
  have hne:∀ i',i'<q.columns→a≠q.pt i':=fun i' hi' e=>by
   rw[hpt,k4] at e
   obtain ⟨e1,e2⟩:=pt_one kq.L kq.W kq.H k1 (by omega) k2 k3 g3 (by rw[← g1];exact hi') e
   omega
  obtain ⟨z1,z2⟩:=y3 a hne
  exact ⟨z1.trans ha,z2⟩
 have kl:∀ a,q.laid.known a=true→∃ b l i,b<cntP q.hd.L∧l<linesP q.hd b∧i<colsP q.hd b∧a=ptP q.hd b l i∧((b:Int)<q.pass∨((b:Int)=q.pass∧l<q.line+1)):=fun a ha=>by
  replace ha:(layPx q q.columns).known a=true:=ha
  by_cases hin:∃ i,i<q.columns∧a=q.pt i
  ·obtain ⟨i,hi,e⟩:=hin
   exact ⟨q.pass.toNat,q.line,i,by omega,g3,by rw[← g1];exact hi,e.trans (hpt i),Or.inr ⟨by omega,by omega⟩⟩
  ·rw[(y3 a (fun i hi e=>hin ⟨i,hi,e⟩)).1] at ha
   obtain ⟨b,l,i,k1,k2,k3,k4,k5⟩:=kq.kn a ha
   exact ⟨b,l,i,k1,k2,k3,k4,by omega⟩
 obtain ⟨l1,l2,l3,l4,l5,l6,l7,l8,l9,l10,l11⟩:=layPx_same q q.columns
 have eh:q.laid.hd=q.hd:=l1
 have ep:q.laid.pass=q.pass:=l3
 show RwK (if q.lines≤q.line+1 then q.laid.next else q.laid)∧Mono r (if q.lines≤q.line+1 then q.laid.next else q.laid)
 by_cases hn:q.lines≤q.line+1
 ·rw[if_pos hn]
  refine ⟨next_k (by rw[eh];exact kq.L) (by rw[eh];exact kq.W) (by rw[eh];exact kq.H) (q.pass.toNat+1) (by rw[ep];omega) (fun a ha => ?_),(mq.trans ml).trans (Mono.same (next_known _) (next_smp _))⟩
  obtain ⟨b,l,i,k1,k2,k3,k4,k5⟩:=kl a ha
  rw[eh]
  exact ⟨b,l,i,k1,k2,k3,k4,by omega⟩
 ·rw[if_neg hn]
  refine ⟨⟨by rw[eh];exact kq.L,by rw[eh];exact kq.W,by rw[eh];exact kq.H,by rw[ep];exact p0,fun _ => ?_,fun a ha => ?_⟩,mq.trans ml⟩
  ·rw[eh,ep]
   refine ⟨l5.trans g1,l6.trans g2,?_⟩
   show q.line+1<_
   omega
  ·rw[eh,ep];exact kl a ha
def Mn (r r':Rw):Prop:=RwK r→RwK r'∧Mono r r'
theorem Mn.refl (r:Rw):Mn r r:=fun k=>⟨k,Mono.refl _⟩
theorem Mn.trans {a b c:Rw} (h:Mn a b) (k:Mn b c):Mn a c:=fun q=>⟨(k (h q).1).1,(h q).2.trans (k (h q).1).2⟩
theorem giveP_mn (s:St) (r:Rw) (x:Nat):Mn r (giveP s r x).2.1:=fun k=>by
 have:=take_k k x
 unfold giveP
 split
 ·split
  ·exact this
  ·exact this
 ·exact this
theorem numP_mn (s:St) (r:Rw) (v:Nat):Mn r (numP s r v).2.1:=by
 unfold numP
 split
 ·exact Mn.refl _
 ·split
  ·exact Mn.refl _
  ·split
   ·exact Mn.refl _
   ·split
    ·have:=giveP_mn s r v
     unfold storedP
     split
     ·exact this
     ·exact this
    ·exact Mn.refl _
theorem symP_mn (s:St) (r:Rw) (t:Nat):Mn r (symP s r t).2.1:=by
 unfold symP
 split
 ·exact Mn.refl _
 ·split
  ·exact Mn.refl _
  ·exact giveP_mn _ _ _
theorem bitP_mn (s:St) (r:Rw) (t:Nat):Mn r (bitP s r t).2.1:=by
 unfold bitP
 split
 ·exact symP_mn _ _ _
 ·split
  ·exact Mn.refl _
  ·exact numP_mn _ _ _
theorem bitsGo_mn (x:Nat):∀ (n i:Nat) (s:St) (r:Rw),Mn r (bitsGo n i s r x).2.1
 | 0,_,_,_=>Mn.refl _
 | n+1,i,s,r=>by
  unfold bitsGo
  split
  ·exact Mn.refl _
  ·split
   ·exact (bitP_mn _ _ _).trans (bitsGo_mn x n (i+1) _ _)
   ·exact bitP_mn _ _ _
structure GrI (s:Rd):Prop where
 kf:s.sd=false→∀ a,s.rw.known a=false
 kt:s.sd=true→RwK s.rw
 hc:s.hd.W≠0→(s.part=3∨s.part=4)→s.ctype≠ihdr
 tc:s.sd=true→s.part=3→s.ctype≠plte∧s.ctype≠trns
 hs:s.sd=true→s.hd.W≠0
 ic:s.part=3→s.ctype=idat→s.sd=true
structure GrS (s t:Rd):Prop where
 inv:GrI t
 mono:Mono s.rw t.rw
 hd:s.hd.W≠0→t.hd=s.hd
 tl:s.sd=true→t.sd=true∧t.tl=s.tl
theorem GrI.mono0 {s t:Rd} (h:GrI s) (e:s.sd=false):Mono s.rw t.rw:=fun a q=>by rw[h.kf e a] at q;exact absurd q (by decide)
theorem GrI.plain {s t:Rd} (h:GrI s) (e1:t.sd=s.sd) (e2:t.rw=s.rw) (e3:t.hd=s.hd) (e4:t.tl=s.tl) (hc:s.hd.W≠0→(t.part=3∨t.part=4)→t.ctype≠ihdr) (tc:s.sd=true→t.part=3→t.ctype≠plte∧t.ctype≠trns) (ic:t.part=3→t.ctype=idat→s.sd=true):GrS s t:=
 ⟨⟨by rw[e1,e2];exact h.kf,by rw[e1,e2];exact h.kt,by rw[e3];exact hc,by rw[e1];exact tc,by rw[e1,e3];exact h.hs,by rw[e1];exact ic⟩,by rw[e2];exact Mono.refl _,fun _=>e3,fun q=>⟨e1.trans q,e4⟩⟩
theorem hd_type {t:Rd} (hW:t.hd.W≠0) (hc:t.checkType=0):t.ctype≠ihdr:=by
 intro q
 unfold Rd.checkType at hc
 by_cases h0:tyB t.ctype=false
 ·rw[if_pos h0] at hc;exact absurd hc (by decide)
 rw[if_neg h0,if_neg hW] at hc
 by_cases h1:t.short=true
 ·rw[if_pos h1] at hc;exact absurd hc (by decide)
 rw[if_neg h1] at hc
 unfold Rd.checkKind at hc
 rw[if_pos q] at hc
 exact absurd hc (by decide)
theorem first_type {t:Rd} (hW:t.hd.W=0) (hc:t.checkType=0):t.ctype=ihdr:=by
 unfold Rd.checkType at hc
 by_cases h0:tyB t.ctype=false
 ·rw[if_pos h0] at hc;exact absurd hc (by decide)
 rw[if_neg h0,if_pos hW] at hc
 unfold Rd.checkFirst at hc
 by_cases h1:t.ctype≠ihdr
 ·rw[if_pos h1] at hc;exact absurd hc (by decide)
 ·exact Decidable.not_not.1 h1
theorem note_fields (t:Rd):t.note.ctype=t.ctype∧t.note.hd=t.hd∧t.note.part=t.part:=by
 have h1:t.note1.ctype=t.ctype∧t.note1.hd=t.hd∧t.note1.part=t.part:=by
  unfold Rd.note1
  split
  ·exact ⟨rfl,rfl,rfl⟩
  ·split
   ·exact ⟨rfl,rfl,rfl⟩
   ·split
    ·unfold Rd.begin
     split
     ·exact ⟨rfl,rfl,rfl⟩
     ·exact ⟨rfl,rfl,rfl⟩
    ·exact ⟨rfl,rfl,rfl⟩
 unfold Rd.note Rd.note2
 split
 ·exact h1
 ·exact h1
theorem GrI.note {s:Rd} (h:GrI s) (hh:RdHd s) (hc:s.checkType=0) (p:Nat):GrS s (s.note.enter p):=by
 obtain ⟨n1,n2,n3⟩:=note_fields s
 have hcn:s.hd.W≠0→((s.note.enter p).part=3∨(s.note.enter p).part=4)→(s.note.enter p).ctype≠ihdr:=fun w _=>by
  show s.note.ctype≠ihdr
  rw[n1];exact hd_type w hc
 by_cases hsd:s.sd=true
 ·obtain ⟨c1,c2⟩:=sd_type hsd hc
  obtain ⟨m1,m2,m3⟩:=note_sd hsd c1 c2
  have erw:s.note.rw=s.rw:=by
   have e:s.note1=s:=by
    unfold Rd.note1
    rw[if_neg c1,if_neg c2]
    split
    ·unfold Rd.begin;rw[if_pos hsd]
    ·rfl
   unfold Rd.note
   rw[e]
   unfold Rd.note2
   split
   ·rfl
   ·rfl
  exact h.plain (m2.trans hsd.symm) erw n2 m1 hcn (fun _ _=>by show s.note.ctype≠plte∧s.note.ctype≠trns;rw[m3];exact ⟨c1,c2⟩) (fun _ _=>hsd)
 ·have hsf:s.sd=false:=by cases q:s.sd with | false=>rfl | true=>exact absurd q hsd
  have no:∀ {P:Prop},s.sd=true→P:=fun q=>absurd q hsd
  by_cases hi:s.ctype=idat
  ·have hw:s.hd.W≠0:=fun w=>by
    have:=first_type w hc
    rw[hi] at this
    exact absurd this (by decide)
   have e:=note_idat1 hi hsf
   rw[e]
   refine ⟨⟨fun q=>absurd (show true=false from q) (by decide),fun _=>start_k hh.L hh.W hh.H,fun w q => ?_,fun _ _ => ?_,fun _=>hw,fun _ _=>rfl⟩,h.mono0 hsf,fun _=>rfl,no⟩
   ·show s.ctype≠ihdr
    rw[hi];decide
   ·show s.ctype≠plte∧s.ctype≠trns
    rw[hi];exact ⟨by decide,by decide⟩
  ·have e2:s.note.sd=false∧s.note.rw=s.rw:=by
    have h1:s.note1.sd=false∧s.note1.rw=s.rw:=by
     unfold Rd.note1
     split
     ·exact ⟨hsf,rfl⟩
     ·split
      ·exact ⟨hsf,rfl⟩
      ·first | (rw[if_neg hi];exact ⟨hsf,rfl⟩) | exact ⟨hsf,rfl⟩
    unfold Rd.note Rd.note2
    split
    ·exact h1
    ·exact h1
   have e3:(s.note.enter p).sd=false:=e2.1
   refine ⟨⟨fun _ a => ?_,fun q => ?_,?_,fun q => ?_,fun q => ?_,fun _ q=>absurd (n1.symm.trans q) hi⟩,h.mono0 hsf,fun _=>n2,no⟩
   ·show s.note.rw.known a=false
    rw[e2.2];exact h.kf hsf a
   ·rw[e3] at q;exact absurd q (by decide)
   ·intro w
    replace w:s.note.hd.W≠0:=w
    rw[n2] at w
    exact hcn w
   ·rw[e3] at q;exact absurd q (by decide)
   ·rw[e3] at q;exact absurd q (by decide)
theorem GrS.enter {s t:Rd} (h:GrS s t) (u:Rd) (e1:u.sd=t.sd) (e2:u.rw=t.rw) (e3:u.hd=t.hd) (e4:u.tl=t.tl) (hc:t.hd.W≠0→(u.part=3∨u.part=4)→u.ctype≠ihdr) (tc:t.sd=true→u.part=3→u.ctype≠plte∧u.ctype≠trns) (ic:u.part=3→u.ctype=idat→t.sd=true):GrS s u:=by
 have:=h.inv.plain e1 e2 e3 e4 hc tc ic
 exact ⟨this.inv,h.mono.trans this.mono,fun w=>by rw[e3];exact h.hd w,fun q=>⟨e1.trans (h.tl q).1,e4.trans (h.tl q).2⟩⟩
theorem GrI.keep {s:Rd} (h:GrI s) (x:Nat) (p3:s.part=3):GrS s (s.keep x).1:=by
 unfold Rd.keep
 by_cases c0:s.ctype=ihdr
 ·rw[if_pos c0]
  exact h.plain rfl rfl rfl rfl (fun w q=>h.hc w q) (fun q r=>h.tc q r) h.ic
 rw[if_neg c0]
 have nsd:(s.ctype=plte∨s.ctype=trns)→s.sd=false:=fun q=>by
  cases e:s.sd with
  | false=>rfl
  | true=>
   have:=h.tc e p3
   rcases q with q | q
   ·exact absurd q this.1
   ·exact absurd q this.2
 by_cases c1:s.ctype=plte
 ·rw[if_pos c1]
  have hsf:=nsd (Or.inl c1)
  exact ⟨⟨h.kf,h.kt,h.hc,h.tc,h.hs,h.ic⟩,h.mono0 hsf,fun _=>rfl,fun q=>by rw[hsf] at q;exact absurd q (by decide)⟩
 rw[if_neg c1]
 by_cases c2:s.ctype=trns
 ·rw[if_pos c2]
  have hsf:=nsd (Or.inr c2)
  exact ⟨⟨h.kf,h.kt,h.hc,h.tc,h.hs,h.ic⟩,h.mono0 hsf,fun _=>rfl,fun q=>by rw[hsf] at q;exact absurd q (by decide)⟩
 rw[if_neg c2]
 by_cases c3:s.ctype=idat
 ·rw[if_pos c3]
  have hsd:=h.ic p3 c3
  obtain ⟨k1,k2⟩:=bitsGo_mn x 8 0 { s.st with skip:=false } s.rw (h.kt hsd)
  have key:GrS s (s.streamed x):=⟨⟨fun q=>by replace q:s.sd=false:=q;rw[hsd] at q;exact absurd q (by decide),fun _=>k1,h.hc,h.tc,h.hs,h.ic⟩,k2,fun _=>rfl,fun q=>⟨q,rfl⟩⟩
  unfold Rd.takeStream
  split
  ·exact key
  ·split
   ·exact key
   ·exact key
 ·rw[if_neg c3]
  exact h.plain rfl rfl rfl rfl (fun w q=>h.hc w q) (fun q r=>h.tc q r) h.ic
theorem GrI.take {s:Rd} {x:Nat} (h:GrI s) (ok:TakeOk s x) (he:(s.take x).2=0):GrS s (s.take x).1:=by
 unfold Rd.take at he ⊢
 have plain:∀ t:Rd,t.sd=s.sd→t.rw=s.rw→t.hd=s.hd→t.tl=s.tl→t.part≠3→t.part≠4→GrS s t:=fun t e1 e2 e3 e4 n3 n4=>h.plain e1 e2 e3 e4 (fun _ q=>by omega) (fun _ q=>absurd q n3) (fun q=>absurd q n3)
 by_cases p0:s.part=0
 ·rw[if_pos p0]
  unfold Rd.takeSign
  split
  ·exact plain _ rfl rfl rfl rfl (show s.part≠3 by omega) (show s.part≠4 by omega)
  ·split
   ·exact plain _ rfl rfl rfl rfl (show (1:Nat)≠3 by decide) (show (1:Nat)≠4 by decide)
   ·exact plain _ rfl rfl rfl rfl (show s.part≠3 by omega) (show s.part≠4 by omega)
 rw[if_neg p0] at he ⊢
 by_cases p1:s.part=1
 ·rw[if_pos p1]
  unfold Rd.takeLength
  split
  ·exact plain _ rfl rfl rfl rfl (show s.part≠3 by omega) (show s.part≠4 by omega)
  ·split
   ·exact plain _ rfl rfl rfl rfl (show s.part≠3 by omega) (show s.part≠4 by omega)
   ·exact plain _ rfl rfl rfl rfl (show (2:Nat)≠3 by decide) (show (2:Nat)≠4 by decide)
 rw[if_neg p1] at he ⊢
 by_cases p2:s.part=2
 ·rw[if_pos p2] at he ⊢
  unfold Rd.takeType at he ⊢
  by_cases t1:s.taken+1≠4
  ·rw[if_pos t1];exact plain _ rfl rfl rfl rfl (show s.part≠3 by omega) (show s.part≠4 by omega)
  rw[if_neg t1] at he ⊢
  by_cases t2:(s.typed x).checkType≠0
  ·rw[if_pos t2] at he;exact absurd he t2
  rw[if_neg t2]
  have ht:GrS s (s.typed x):=plain _ rfl rfl rfl rfl (show s.part≠3 by omega) (show s.part≠4 by omega)
  have hn:=fun p=>ht.inv.note (p:=p) ⟨ok.hd.W,ok.hd.H,ok.hd.D,ok.hd.K,ok.hd.L⟩ (by omega)
  have fin:∀ p,GrS s ((s.typed x).note.enter p):=fun p=>⟨(hn p).inv,(hn p).mono,(hn p).hd,(hn p).tl⟩
  split
  ·exact fin 4
  ·exact fin 3
 rw[if_neg p2] at he ⊢
 by_cases p3:s.part=3
 ·rw[if_pos p3]
  have hs:GrS s (s.summed x):=h.plain rfl rfl rfl rfl h.hc h.tc h.ic
  have hk:=GrI.keep hs.inv x (show (s.summed x).part=3 from p3)
  have hk2:GrS s ((s.summed x).keep x).1:=⟨hk.inv,hk.mono,hk.hd,hk.tl⟩
  have kp:((s.summed x).keep x).1.part=3:=(keep_part (s.summed x) x).trans p3
  unfold Rd.takeData
  split
  ·exact hk2
  ·show GrS s ((s.summed x).keep x).1.dataEnd
   unfold Rd.dataEnd
   split
   ·exact hk2.enter _ rfl rfl rfl rfl (fun w _=>hk2.inv.hc w (Or.inl kp)) (fun _ q=>absurd (show (4:Nat)=3 from q) (by decide)) (fun q=>absurd (show (4:Nat)=3 from q) (by decide))
   ·exact hk2.enter _ rfl rfl rfl rfl (fun w _=>hk2.inv.hc w (Or.inl kp)) (fun q _=>hk2.inv.tc q kp) (fun _ q=>hk2.inv.ic kp q)
 rw[if_neg p3] at he ⊢
 by_cases p4:s.part=4
 ·rw[if_pos p4] at he ⊢
  have hnum:GrS s (s.num x):=h.plain rfl rfl rfl rfl (fun w _=>h.hc w (Or.inr p4)) (fun _ q=>absurd (show s.part=3 from q) p3) (fun q=>absurd (show s.part=3 from q) p3)
  obtain ⟨k1,k2⟩:=accept_tl (s.num x)
  have erw:(s.num x).accept.1.rw=s.rw∧(s.hd.W≠0→(s.num x).accept.1.hd=s.hd)∧(s.sd=true→(s.num x).accept.1.hd.W≠0):=by
   unfold Rd.accept
   by_cases ci:(s.num x).ctype=ihdr
   ·have hw0:¬ s.hd.W≠0:=fun w=>h.hc w (Or.inr p4) ci
    rw[if_pos ci]
    unfold Rd.acceptHead
    split
    ·exact ⟨rfl,fun w=>absurd w hw0,fun q=>absurd (h.hs q) hw0⟩
    ·exact ⟨rfl,fun w=>absurd w hw0,fun q=>absurd (h.hs q) hw0⟩
   ·rw[if_neg ci]
    split
    ·exact ⟨rfl,fun _=>rfl,fun q=>h.hs q⟩
    ·exact ⟨rfl,fun _=>rfl,fun q=>h.hs q⟩
  have fin:∀ p,p≠3→p≠4→GrS s ((s.num x).accept.1.enter p):=fun p n3 n4=>by
   have ersd:((s.num x).accept.1.enter p).sd=s.sd:=k2
   have er:((s.num x).accept.1.enter p).rw=s.rw:=erw.1
   refine ⟨⟨by rw[ersd,er];exact h.kf,by rw[ersd,er];exact h.kt,fun _ q=>absurd q (by show ¬ (p=3∨p=4);omega),fun _ q=>absurd (show p=3 from q) n3,fun q=>erw.2.2 (by rw[← ersd];exact q),fun q=>absurd (show p=3 from q) n3⟩,by rw[er];exact Mono.refl _,fun w=>erw.2.1 w,fun q=>⟨by rw[ersd];exact q,k1⟩⟩
  unfold Rd.takeSum at he ⊢
  by_cases t1:s.taken+1≠4
  ·rw[if_pos t1];exact hnum
  rw[if_neg t1] at he ⊢
  by_cases t2:s.number*256+x≠crcEnd s.sum
  ·rw[if_pos t2];exact hnum
  rw[if_neg t2] at he ⊢
  by_cases t3:(s.num x).accept.2≠0
  ·rw[if_pos t3] at he;exact absurd he t3
  rw[if_neg t3]
  split
  ·exact fin 5 (by decide) (by decide)
  ·exact fin 1 (by decide) (by decide)
 ·rw[if_neg p4]
  exact h.plain rfl rfl rfl rfl h.hc h.tc h.ic
theorem GrS.refl {s:Rd} (h:GrI s):GrS s s:=h.plain rfl rfl rfl rfl h.hc h.tc h.ic
theorem Rn.grow:∀ {l:List Nat} {s b:Rd},Rn s l b→GrI s→GrS s b
 | [],s,b,h,k=>by cases h;exact GrS.refl k
 | x::l,s,b,h,k=>by
  have h1:=k.take h.1 h.2.1
  have h2:=Rn.grow h.2.2 h1.inv
  exact ⟨h2.inv,h1.mono.trans h2.mono,fun w=>by
   have e:=h1.hd w
   rw[h2.hd (by rw[e];exact w),e],fun q=>⟨(h2.tl (h1.tl q).1).1,((h2.tl (h1.tl q).1).2).trans (h1.tl q).2⟩⟩
theorem grI0:GrI rd0:=⟨fun _ a=>rfl,fun q=>absurd (show false=true from q) (by decide),fun w=>absurd (show (0:Nat)≠0 from w) (by decide),fun q=>absurd (show false=true from q) (by decide),fun q=>absurd (show false=true from q) (by decide),fun q=>absurd (show (0:Nat)=3 from q) (by decide)⟩
def flg (j x y:Nat):Bool:=(orgP (psOf 1 j).cf (psOf 1 j).cs (psOf 1 j).cb x).2 && (orgP (psOf 1 j).rf (psOf 1 j).rs (psOf 1 j).rb y).2
def ogx (j x:Nat):Nat:=(orgP (psOf 1 j).cf (psOf 1 j).cs (psOf 1 j).cb x).1
def ogy (j y:Nat):Nat:=(orgP (psOf 1 j).rf (psOf 1 j).rs (psOf 1 j).rb y).1
def meshOk (p x y k:Nat):Bool:=flg k x y && decide (ogx k x=x - x % dxP p) && decide (ogy k y=y - y % dyP p) && (List.range 7).all (fun j=>decide (j≤k) || !(flg j x y) || !(decide (ogx j x % dxP p=0) && decide (ogy j y % dyP p=0)))
theorem mesh7:∀ p,p<7→∀ x,x<16→∀ y,y<16→∃ k,k<7∧meshOk p x y k=true:=by decide +kernel
theorem shGo_skip {r:Rw} {t:Tl} {h:Hd} {x y k:Nat} (e:h.L=1):∀ n,k<n→(∀ j,j<n→k<j→(flg j x y && r.known (ogy j y*16+ogx j x))=false)→shGo r t h x y n=shGo r t h x y (k+1)
 | 0,h0,_=>by omega
 | n+1,h0,hf=>by
  by_cases q:n=k
  ·rw[q]
  ·have:=hf n (by omega) (by omega)
   rw[shGo_no (a:=ogx n x) (b:=ogy n y) (A:=(orgP (psOf 1 n).cf (psOf 1 n).cs (psOf 1 n).cb x).2) (B:=(orgP (psOf 1 n).rf (psOf 1 n).rs (psOf 1 n).rb y).2) (by rw[e];rfl) (by rw[e];rfl) this]
   exact shGo_skip e n (by omega) (fun j h1 h2=>hf j (by omega) h2)
theorem orgP_le (f s q p:Nat):(orgP f s q p).1≤p:=by unfold orgP;split<;>(show _≤_)<;>omega
theorem sh_mesh {r:Rw} {t:Tl} {h:Hd} {p x y:Nat} (e:h.L=1) (hp:p<7) (hx:x<h.W) (hy:y<h.H) (hW:h.W≤16) (hH:h.H≤16) (hk:∀ X Y,X<h.W→Y<h.H→r.known (Y*16+X)=(decide (X % dxP p=0) && decide (Y % dyP p=0))):shP r t h x y=pxP r t h (x - x % dxP p) (y - y % dyP p):=by
 obtain ⟨k,k7,m⟩:=mesh7 p hp x (by omega) y (by omega)
 unfold meshOk at m
 rw[Bool.and_eq_true,Bool.and_eq_true,Bool.and_eq_true] at m
 obtain ⟨⟨⟨m1,m2⟩,m3⟩,m4⟩:=m
 have m2:=of_decide_eq_true m2
 have m3:=of_decide_eq_true m3
 have ec:cntP h.L=7:=by unfold cntP;rw[if_pos e]
 have inx:∀ j,ogx j x≤x:=fun j=>orgP_le _ _ _ _
 have iny:∀ j,ogy j y≤y:=fun j=>orgP_le _ _ _ _
 unfold shP
 rw[ec,shGo_skip (k:=k) e 7 k7 (fun j h1 h2 => ?_)]
 ·unfold flg at m1
  rw[Bool.and_eq_true] at m1
  have e1:orgP (psOf h.L k).cf (psOf h.L k).cs (psOf h.L k).cb x=(x - x % dxP p,true):=by rw[e];exact Prod.ext m2 m1.1
  have e2:orgP (psOf h.L k).rf (psOf h.L k).rs (psOf h.L k).rb y=(y - y % dyP p,true):=by rw[e];exact Prod.ext m3 m1.2
  refine shGo_yes e1 e2 ?_
  rw[hk _ _ (by omega) (by omega)]
  have a1:(x - x % dxP p) % dxP p=0:=by
   have:=Nat.div_add_mod x (dxP p)
   rw[show x - x % dxP p=dxP p*(x / dxP p) from by omega]
   exact Nat.mul_mod_right _ _
  have a2:(y - y % dyP p) % dyP p=0:=by
   have:=Nat.div_add_mod y (dyP p)
   rw[show y - y % dyP p=dyP p*(y / dyP p) from by omega]
   exact Nat.mul_mod_right _ _
  rw[decide_eq_true a1,decide_eq_true a2];rfl
 ·have:=List.all_eq_true.1 m4 j (List.mem_range.2 h1)
  rw[decide_eq_false (by omega),Bool.false_or] at this
  have i1:=inx j
  have i2:=iny j
  rw[hk _ _ (by omega) (by omega)]
  cases f1:flg j x y with
  | false=>rfl
  | true=>
   rw[f1] at this
   cases q:(decide (ogx j x % dxP p=0) && decide (ogy j y % dyP p=0)) with
   | false=>rfl
   | true=>
    rw[q] at this
    exact absurd this (by decide)
theorem colP_range {wd H K D L s0 s1 s2 s3 k:Nat} {pal clr pix:List Int} {t:Tl} (ok:OkIm wd H K D pal clr pix) (ht:TabO K pal clr t) (hc:∀ j,t.clear j<256) (hpl:∀ j,t.pal j<256) (hk:k<wd*H) (hs:SmK K pix k s0 s1 s2 s3) (i:Nat):0≤colP t ⟨wd,H,D,K,L⟩ s0 s1 s2 s3 i∧colP t ⟨wd,H,D,K,L⟩ s0 s1 s2 s3 i≤65535:=by
 have hin:∀ c,c<chan K→k*chan K+c<pix.length:=fun c hc=>by
  rw[ok.pixL]
  have:(k+1)*chan K≤wd*H*chan K:=Nat.mul_le_mul_right _ hk
  rw[Nat.add_mul,Nat.one_mul] at this
  omega
 have hD:=ok.lg.d
 have hb:∀ (c m:Nat),c<chan K→pick4 (s0:Int) s1 s2 s3 c=(m:Int)→m<2^D:=fun c m hc e=>by
  have h1:=hs c hc
  have h2:=pix_lt ok _ (getD_mem (hin c hc))
  omega
 have hsc:∀ m,m<2^D→m*sclN D≤65535:=fun m hm=>by
  rcases hD with rfl | rfl | rfl | rfl | rfl
  ·have:m<2:=hm
   show m*65535≤65535;omega
  ·have:m<4:=hm
   show m*21845≤65535;omega
  ·have:m<16:=hm
   show m*4369≤65535;omega
  ·have:m<256:=hm
   show m*257≤65535;omega
  ·have:m<65536:=hm
   show m*1≤65535;omega
 have hal:0≤alP t (chn K) (pick4 s0 s1 s2 s3)∧alP t (chn K) (pick4 s0 s1 s2 s3)≤65535:=by
  unfold alP
  split
  ·omega
  ·split<;>omega
 have p4:∀ a b c d:Int,(0≤a∧a≤65535)→(0≤b∧b≤65535)→(0≤c∧c≤65535)→(0≤d∧d≤65535)→0≤pick4 a b c d i∧pick4 a b c d i≤65535:=fun a b c d ha hb hc hd=>by
  unfold pick4
  split
  ·exact ha
  ·split
   ·exact hb
   ·split
    ·exact hc
    ·exact hd
 have cst:∀ m:Nat,m≤65535→0≤(m:Int)∧(m:Int)≤65535:=fun m hm=>by omega
 rcases legal_K ok.lg with rfl | rfl | rfl | rfl | rfl
 ·rw[colP_0 rfl]
  have h0:=cst _ (hsc s0 (hb 0 s0 (by decide) rfl))
  exact p4 _ _ _ _ h0 h0 h0 hal
 ·rw[colP_2 rfl]
  exact p4 _ _ _ _ (cst _ (hsc s0 (hb 0 s0 (by decide) rfl))) (cst _ (hsc s1 (hb 1 s1 (by decide) rfl))) (cst _ (hsc s2 (hb 2 s2 (by decide) rfl))) hal
 ·rw[colP_3 rfl]
  unfold entP
  split
  ·refine p4 _ _ _ _ (cst _ ?_) (cst _ ?_) (cst _ ?_) (cst _ ?_)
   ·have:=hpl (3*s0);omega
   ·have:=hpl (3*s0+1);omega
   ·have:=hpl (3*s0+2);omega
   ·have:=hc s0
    split<;>omega
  ·exact ⟨Int.le_refl _,by show (0:Int)≤65535;omega⟩
 ·rw[colP_4 rfl]
  have h0:=cst _ (hsc s0 (hb 0 s0 (by decide) rfl))
  exact p4 _ _ _ _ h0 h0 h0 (cst _ (hsc s1 (hb 1 s1 (by decide) rfl)))
 ·rw[colP_6 (show (6:Nat)≠3 by decide) (show (6:Nat)≠0 by decide) (show (6:Nat)≠4 by decide) (show (6:Nat)≠2 by decide)]
  exact p4 _ _ _ _ (cst _ (hsc s0 (hb 0 s0 (by decide) rfl))) (cst _ (hsc s1 (hb 1 s1 (by decide) rfl))) (cst _ (hsc s2 (hb 2 s2 (by decide) rfl))) (cst _ (hsc s3 (hb 3 s3 (by decide) rfl)))
theorem shGo_range {r:Rw} {t:Tl} {h:Hd} {x y:Nat} (hx:x<16) (hy:y<16) (hp:∀ X Y i,X<16→Y<16→0≤pxP r t h X Y i∧pxP r t h X Y i≤65535) (i:Nat):∀ n,0≤shGo r t h x y n i∧shGo r t h x y n i≤65535
 | 0=>⟨Int.le_refl _,by show (0:Int)≤65535;omega⟩
 | n+1=>by
  have e:shGo r t h x y (n+1)=if ((orgP (psOf h.L n).cf (psOf h.L n).cs (psOf h.L n).cb x).2 && (orgP (psOf h.L n).rf (psOf h.L n).rs (psOf h.L n).rb y).2 && r.known ((orgP (psOf h.L n).rf (psOf h.L n).rs (psOf h.L n).rb y).1*16+(orgP (psOf h.L n).cf (psOf h.L n).cs (psOf h.L n).cb x).1))=true then pxP r t h (orgP (psOf h.L n).cf (psOf h.L n).cs (psOf h.L n).cb x).1 (orgP (psOf h.L n).rf (psOf h.L n).rs (psOf h.L n).rb y).1 else shGo r t h x y n:=rfl
  rw[e]
  split
  ·exact hp _ _ i (orgP_lt hx) (orgP_lt hy)
  ·exact shGo_range hx hy hp i n
structure PreF (W H D K L:Nat) (pal clr pix:List Int) (b a:Rd):Prop where
 none:a.hd.W=0→∀ j,a.rw.known j=false
 hd:a.hd.W≠0→a.hd=⟨W,H,D,K,L⟩
 mono:Mono a.rw b.rw
 tab:∀ j,a.rw.known j=true→a.tl=b.tl
theorem pre_f {W H D K L:Nat} {pal clr pix:List Int} {l m:List Nat} {a b:Rd} (h1:Rn rd0 l a) (h2:Rn a m b) (hb:SeenF W H D K L pal clr pix b):PreF W H D K L pal clr pix b a:=by
 have ga:=(h1.grow grI0).inv
 have gb:=h2.grow ga
 have sdn:a.sd=false∨a.sd=true:=by cases a.sd<;>simp
 refine ⟨fun w j => ?_,fun w => ?_,gb.mono,fun j kn => ?_⟩
 ·rcases sdn with q | q
  ·exact ga.kf q j
  ·exact absurd w (ga.hs q)
 ·rw[← gb.hd w];exact hb.hd
 ·rcases sdn with q | q
  ·rw[ga.kf q j] at kn;exact absurd kn (by decide)
  ·exact (gb.tl q).2.symm
structure FedAt (f:ByteArray) (k:Nat) (a a':Rd):Prop where
 ok:FeedOk dc0 (bsOf (f.extract 0 k))
 fed:dc0.feed (bsOf (f.extract 0 k))=⟨a,k,0,0⟩
 ok2:FeedOk ⟨a,k,0,0⟩ (bsOf (f.extract k (k+1)))
 fed2:(⟨a,k,0,0⟩:Dc).feed (bsOf (f.extract k (k+1)))=⟨a',k+1,0,0⟩
 part:a.part≠5
 part2:a'.part=5 ↔ k+1=f.size
 sh:ShowOk a
 sh2:ShowOk a'
 pl:PalI a
 pl2:PalI a'
 mono:Mono a.rw a'.rw
 hd:a.hd.W≠0→a'.hd=a.hd
theorem fed_at {W H D K L P V:Nat} {pal clr pix fl kl cl:List Int} {s:ByteArray} (h:FileT W H D K L P V pal clr pix fl kl s) (ok:OkIm W H K D pal clr pix) (hc:OkCh L P V fl kl cl) :
  ∃ b,SeenF W H D K L pal clr pix b∧∀ k,k<s.size→∃ a a',FedAt s k a a'∧PreF W H D K L pal clr pix b a:=by
 obtain ⟨b,h1,h2,h3,h4,h5,h6,h7⟩:=fileT_seen h ok hc
 have hb:SeenF W H D K L pal clr pix b:=⟨h2,h3,⟨h5.hd,h5.clear,h1.smI smI0⟩,h1.palI (bsOf_lt s) palI0,h6,h7⟩
 have hsz:=(fileT_size h).2
 have hl:(bsOf s).length=s.size:=bsOf_length s
 refine ⟨b,hb,fun k hk => ?_⟩
 obtain ⟨a,g1,g2,g3,g4⟩:=pre_state h1 k (by rw[hl];exact hk)
 obtain ⟨a2,k1,k2,k3,k4⟩:=h1.at k (bsOf s)[k] (List.getElem?_eq_getElem (by rw[hl];exact hk))
 have ea:=k1.det g1
 subst ea
 have e1:bsOf (s.extract 0 k)=(bsOf s).take k:=by rw[bsOf_extr,List.drop_zero,Nat.sub_zero]
 have e2:bsOf (s.extract k (k+1))=[(bsOf s)[k]]:=by
  rw[bsOf_extr,show k+1 - k=1 from by omega,List.drop_eq_getElem_cons (by rw[hl];exact hk)]
  rfl
 have hlk:((bsOf s).take k).length=k:=by rw[List.length_take,hl];omega
 have r1:Rn a2 [(bsOf s)[k]] (a2.take (bsOf s)[k]).1:=⟨k2,k3,rfl⟩
 have r2:Rn rd0 ((bsOf s).take (k+1)) (a2.take (bsOf s)[k]).1:=by
  rw[List.take_succ_eq_append_getElem (by rw[hl];exact hk)]
  exact g1.append r1
 have hx:(bsOf s)[k]<256:=bsOf_lt s _ (List.getElem_mem _)
 have sh2:ShowOk (a2.take (bsOf s)[k]).1∧((a2.take (bsOf s)[k]).1.part=5 ↔ k+1=s.size):=by
  by_cases q:k+1=s.size
  ·have:(bsOf s).take (k+1)=bsOf s:=List.take_of_length_le (by rw[hl];omega)
   rw[this] at r2
   have e:=r2.det h1
   rw[e]
   exact ⟨hb.show',fun _=>q,fun _=>h2⟩
  ·obtain ⟨c,c1,c2,c3,c4⟩:=pre_state h1 (k+1) (by rw[hl];omega)
   have e:=r2.det c1
   rw[e]
   exact ⟨⟨c3.hd,c3.clear,c4⟩,fun z=>absurd z c2,fun z=>absurd z q⟩
 have gr:=r1.grow (g1.grow grI0).inv
 refine ⟨a2,(a2.take (bsOf s)[k]).1,⟨?_,?_,?_,?_,g2,sh2.2,⟨g3.hd,g3.clear,g4⟩,sh2.1,g1.palI (fun x hx=>bsOf_lt s x (List.mem_of_mem_take hx)) palI0,(g1.palI (fun x hx=>bsOf_lt s x (List.mem_of_mem_take hx)) palI0).take hx,gr.mono,gr.hd⟩,pre_f g1 (m:=(bsOf s)[k]::(bsOf s).drop (k+1)) ⟨k2,k3,k4⟩ hb⟩
 ·rw[e1];exact Rn.ok (d:=dc0) g1 rfl (by rw[hlk];show 0+k≤_;omega)
 ·rw[e1,Rn.feed (d:=dc0) g1 rfl,hlk]
  show (⟨a2,0+k,0,0⟩:Dc)=_
  rw[Nat.zero_add]
 ·rw[e2];exact Rn.ok (d:=⟨a2,k,0,0⟩) r1 rfl (by show k+1≤_;omega)
 ·rw[e2,Rn.feed (d:=⟨a2,k,0,0⟩) r1 rfl]
  rfl
end Go.Proofs.YtmbmecfodigciaaGreatDoor
