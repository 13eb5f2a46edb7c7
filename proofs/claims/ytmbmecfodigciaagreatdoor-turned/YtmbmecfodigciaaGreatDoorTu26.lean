import Derived.Test.YtmbmecfodigciaaGreatDoorTu24
import Derived.Test.YtmbmecfodigciaaGreatDoorTu25
import Derived.Test.YtmbmecfodigciaaGreatDoorTu14
import Derived.Test.YtmbmecfodigciaaGreatDoorTu00
import Derived.Test.YtmbmecfodigciaaGreatDoorTu17
set_option maxRecDepth 100000
set_option maxHeartbeats 6400000
namespace Go.Proofs.YtmbmecfodigciaaGreatDoor
open Go.RowKit Px
set_option linter.unusedSimpArgs false
set_option linter.unusedVariables false
def colP (t:Tl) (h:Hd) (s0 s1 s2 s3:Nat):Nat->Int:=
 if h.K=3 then entP t s0
 else if h.K=0 then pick4 ((s0*sclN h.D:Nat):Int) ((s0*sclN h.D:Nat):Int) ((s0*sclN h.D:Nat):Int) (alP t (chn h.K) (pick4 s0 s1 s2 s3))
 else if h.K=4 then pick4 ((s0*sclN h.D:Nat):Int) ((s0*sclN h.D:Nat):Int) ((s0*sclN h.D:Nat):Int) ((s1*sclN h.D:Nat):Int)
 else if h.K=2 then pick4 ((s0*sclN h.D:Nat):Int) ((s1*sclN h.D:Nat):Int) ((s2*sclN h.D:Nat):Int) (alP t (chn h.K) (pick4 s0 s1 s2 s3))
 else pick4 ((s0*sclN h.D:Nat):Int) ((s1*sclN h.D:Nat):Int) ((s2*sclN h.D:Nat):Int) ((s3*sclN h.D:Nat):Int)
theorem colP_3 {t:Tl} {h:Hd} {s0 s1 s2 s3:Nat} (k:h.K=3):colP t h s0 s1 s2 s3=entP t s0:=if_pos k
theorem colP_0 {t:Tl} {h:Hd} {s0 s1 s2 s3:Nat} (k:h.K=0):colP t h s0 s1 s2 s3=pick4 ((s0*sclN h.D:Nat):Int) ((s0*sclN h.D:Nat):Int) ((s0*sclN h.D:Nat):Int) (alP t (chn h.K) (pick4 s0 s1 s2 s3)):=by unfold colP;rw[if_neg (by omega),if_pos k]
theorem colP_4 {t:Tl} {h:Hd} {s0 s1 s2 s3:Nat} (k:h.K=4):colP t h s0 s1 s2 s3=pick4 ((s0*sclN h.D:Nat):Int) ((s0*sclN h.D:Nat):Int) ((s0*sclN h.D:Nat):Int) ((s1*sclN h.D:Nat):Int):=by unfold colP;rw[if_neg (by omega),if_neg (by omega),if_pos k]
theorem colP_2 {t:Tl} {h:Hd} {s0 s1 s2 s3:Nat} (k:h.K=2):colP t h s0 s1 s2 s3=pick4 ((s0*sclN h.D:Nat):Int) ((s1*sclN h.D:Nat):Int) ((s2*sclN h.D:Nat):Int) (alP t (chn h.K) (pick4 s0 s1 s2 s3)):=by unfold colP;rw[if_neg (by omega),if_neg (by omega),if_neg (by omega),if_pos k]
theorem colP_6 {t:Tl} {h:Hd} {s0 s1 s2 s3:Nat} (k3:h.K≠3) (k0:h.K≠0) (k4:h.K≠4) (k2:h.K≠2):colP t h s0 s1 s2 s3=pick4 ((s0*sclN h.D:Nat):Int) ((s1*sclN h.D:Nat):Int) ((s2*sclN h.D:Nat):Int) ((s3*sclN h.D:Nat):Int):=by unfold colP;rw[if_neg k3,if_neg k0,if_neg k4,if_neg k2]
theorem pick4_nat {s0 s1 s2 s3:Nat} (h0:s0<65536) (h1:s1<65536) (h2:s2<65536) (h3:s3<65536) (k:Nat):∃ m:Nat,pick4 (s0:Int) s1 s2 s3 k=(m:Int)/\m<65536:=by
 unfold pick4
 split
 ·exact ⟨s0,rfl,h0⟩
 ·split
  ·exact ⟨s1,rfl,h1⟩
  ·split
   ·exact ⟨s2,rfl,h2⟩
   ·exact ⟨s3,rfl,h3⟩
theorem FourAt.setDrew {W:World} {g:Nat} {f f':Nat->Int} (h:FourAt W g f) (k:Nat) (v:Int) (h1:f' k=v) (h2:∀ j,j≠k->j<4->f' j=f j):FourAt (W.setCell ⟨g,k,none⟩ (.int .i64 v)).drew g f':=(h.set k v h1 h2).kept ((Kept.refl _).drewN 1)
theorem colour_x (b o n:Nat) (c:Nat->Value) (t:Tl) (h:Hd) (s0 s1 s2 s3:Nat) (w:World) (hB:Blk w b n c) (hV:TlV c o t) (hn:o+1026<=n) (hp:∀ j,t.pal j<256) (hc:∀ j,t.clear j<256) (hK:h.K<=6) (z0:s0<65536) (z1:s1<65536) (z2:s2<65536) (z3:s3<65536) :
  Calls Tryz.prog 125 #[.pointer (some ⟨b,o,none⟩),hdV h,four s0 s1 s2 s3] w fun e w'=>FourX w (colP t h s0 s1 s2 s3) e w':=by
 have HPk:Hid (∀ k,∃ m:Nat,pick4 (s0:Int) s1 s2 s3 k=(m:Int)/\m<65536):=pick4_nat z0 z1 z2 z3
 have E3:Hid (h.K=3->colP t h s0 s1 s2 s3=entP t s0):=colP_3
 have E0:Hid (h.K=0->colP t h s0 s1 s2 s3=_):=colP_0
 have E4:Hid (h.K=4->colP t h s0 s1 s2 s3=_):=colP_4
 have E2:Hid (h.K=2->colP t h s0 s1 s2 s3=_):=colP_2
 have E6:Hid (h.K≠3->h.K≠0->h.K≠4->h.K≠2->colP t h s0 s1 s2 s3=_):=colP_6
 generalize colP t h s0 s1 s2 s3=CP at *
 have HPp:Hid (∀ j,t.pal j<256):=hp
 clear z0 z1 z2 z3 hp
 obtain ⟨wa,hwa⟩:∃ wa,wa=w.alloc (Obj.cells #[.int .i64 (h.W:Int),.int .i64 (h.H:Int),.int .i64 (h.D:Int),.int .i64 (h.K:Int),.int .i64 (h.L:Int)] 71):=⟨_,rfl⟩
 obtain ⟨wb,hwb⟩:∃ wb,wb=wa.alloc (Obj.cells #[.int .i64 (s0:Int),.int .i64 (s1:Int),.int .i64 (s2:Int),.int .i64 (s3:Int)] 138):=⟨_,rfl⟩
 obtain ⟨wc,hwc⟩:∃ wc,wc=wb.alloc (Obj.cells #[.int .i64 0,.int .i64 0,.int .i64 0,.int .i64 0] 138):=⟨_,rfl⟩
 have hsa:wa.heap.size=w.heap.size+1:=by rw[hwa];simp
 have hsb:wb.heap.size=w.heap.size+2:=by rw[hwb];simp [hsa]
 have Ka:Kept w wa:=by rw[hwa];exact Below.alloc (Below.refl _ _) (Nat.le_refl _) _
 have Kb:Kept wa wb:=by rw[hwb];exact Below.alloc (Below.refl _ _) (Nat.le_refl _) _
 have Kc:Kept wb wc:=by rw[hwc];exact Below.alloc (Below.refl _ _) (Nat.le_refl _) _
 have hcell:∀ j v,(#[Value.int .i64 (h.W:Int),.int .i64 (h.H:Int),.int .i64 (h.D:Int),.int .i64 (h.K:Int),.int .i64 (h.L:Int)]:Array Value)[j]? = some v->wc.cell? ⟨w.heap.size,j,none⟩=some v:=fun j v hv=>by
  rw[Kc.cell (p:=⟨w.heap.size,j,none⟩) (by show w.heap.size<wb.heap.size;omega),Kb.cell (p:=⟨w.heap.size,j,none⟩) (by show w.heap.size<wa.heap.size;omega),hwa]
  exact (World.cell?_alloc_at _ _ _ _ rfl).trans hv
 have S4:FourAt wb (w.heap.size+1) (pick4 s0 s1 s2 s3):=by
  rw[hwb,<- hsa]
  refine ⟨?_,?_,?_,?_⟩<;>exact (World.cell?_alloc_at _ _ _ _ rfl).trans rfl
 have R4:FourAt wc (w.heap.size+2) (fun _=>0):=by
  rw[hwc,<- hsb]
  refine ⟨?_,?_,?_,?_⟩<;>exact (World.cell?_alloc_at _ _ _ _ rfl).trans rfl
 have CA:Hid (ClA w wc h s0 s1 s2 s3):=⟨(Ka.trans Kb).trans Kc,hcell 2 _ rfl,hcell 3 _ rfl,hcell 0 _ rfl,hcell 1 _ rfl,hcell 4 _ rfl,S4.kept Kc,⟨_,R4⟩,fun j=>by rw[hwc,<- hsb];exact World.frozen?_alloc_at _ _ _ _ rfl⟩
 have HB:Hid (Blk wc b n c):=hB.kept CA.out.K
 have HV:Hid (TlV c o t):=hV
 have HC:Hid (∀ j,t.clear j<256):=hc
 have hbw:=hB.lt
 clear hB hV hc Ka Kb Kc hcell S4 R4
 unfold hdV four
 go_enter Tryz.func125,Tryz.ntmps125
 go_upto_region 1 with fail
 rw[<- hwa,<- hwb,<- hwc]
 replace hwa:Hid _:=hwa
 replace hwb:Hid _:=hwb
 replace hwc:Hid _:=hwc
 have kk:=CA.out.Kd
 by_cases h3:h.K=3
 ·have q0:wc.cell? ⟨w.heap.size+1,0,none⟩=some (.int .i64 (s0:Int)):=CA.out.S.1
  have FE:Hid (Calls Tryz.prog 147 #[.pointer (some ⟨b,o,none⟩),.int .i64 (s0:Int)] wc fun e w'=>FourX wc (entP t s0) e w'):=entry_x b o n s0 c t wc HB.out HV.out hn HPp.out HC.out
  have h3':((h.K:Int) == 3)=true:=by rw[beq_iff_eq];omega
  replace h3:Hid _:=h3
  replace E3:Hid _:=E3.out h3.out
  generalize entP t s0=EN at *
  go_wp2_with fail
  refine FE.out.mono ?_
  rintro e w2 ⟨rfl,hk2⟩
  have CA2:Hid (ClA w w2 h s0 s1 s2 s3):=CA.out.kept hk2
  obtain ⟨f,hf⟩:=CA2.out.R
  obtain ⟨t0,t1,t2,t3⟩:=hf
  have zr:=CA2.out.Z
  unfold four
  go_wp2_with fail
  exact bodyPost_ret (results_cell1 rfl _ _ _ _ _ rfl (load4 (CA2.out.done _ _ _ _).1)) rfl ⟨by rw[E3.out];rfl,(CA2.out.done _ _ _ _).2⟩
 ·have h3':((h.K:Int) == 3)=false:=by rw[beq_eq_false_iff_ne];omega
  have CA4:Hid (ClA w (wc.alloc (Obj.cells #[.int .i64 0,.int .i64 0,.int .i64 0,.int .i64 0] 138)) h s0 s1 s2 s3):=CA.out.kept (Below.alloc (Below.refl _ _) (Nat.le_refl _) _)
  have W4:Hid (FourAt (wc.alloc (Obj.cells #[.int .i64 0,.int .i64 0,.int .i64 0,.int .i64 0] 138)) wc.heap.size (fun _=>0)):=by
   refine ⟨?_,?_,?_,?_⟩<;>exact (World.cell?_alloc_at _ _ _ _ rfl).trans rfl
  have Z4:Hid (∀ j,(wc.alloc (Obj.cells #[.int .i64 0,.int .i64 0,.int .i64 0,.int .i64 0] 138)).frozen? ⟨wc.heap.size,j,none⟩=false):=fun j=>World.frozen?_alloc_at _ _ _ _ rfl
  have HB4:Hid (Blk (wc.alloc (Obj.cells #[.int .i64 0,.int .i64 0,.int .i64 0,.int .i64 0] 138)) b n c):=HB.out.kept (Below.alloc (Below.refl _ _) (Nat.le_refl _) _)
  have hg3:w.heap.size+2<wc.heap.size:=by
   obtain ⟨f,hf⟩:=CA.out.R
   exact World.block_lt_of_cell? wc ⟨w.heap.size+2,0,none⟩ hf.1
  go_wp2_with fail
  generalize wc.alloc (Obj.cells #[.int .i64 0,.int .i64 0,.int .i64 0,.int .i64 0] 138)=w4 at *
  generalize wc.heap.size=g at *
  clear kk CA HB
  go_loopg [8] 4 (fun m v W=>∃ k:Nat,m=4 - k/\k<=4/\v = .int .i64 (k:Int)/\Fr1 g w4 W/\(∀ j,W.frozen? ⟨g,j,none⟩=false)/\FourAt W g (fun j=>if j<k then pick4 (s0:Int) s1 s2 s3 j*(sclN h.D:Int) else 0))
  case atStart=>exact ⟨0,by omega,by omega,rfl,Fr.refl _ _,Z4.out,W4.out⟩
  case round=>
   obtain ⟨k,hgk,hk4,rfl,hfr,hfz,hfo⟩:=hrel
   replace hgk:Hid _:=hgk
   have HF:Hid (Fr1 g w4 wr):=hfr
   have HFz:Hid (∀ j,wr.frozen? ⟨g,j,none⟩=false):=hfz
   have HFo:Hid (FourAt wr g (fun j=>if j<k then pick4 (s0:Int) s1 s2 s3 j*(sclN h.D:Int) else 0)):=hfo
   have CR:Hid (ClA w wr h s0 s1 s2 s3):=CA4.out.fr hfr hg3
   have BR:Hid (Blk wr b n c):=HB4.out.fr hfr (by omega)
   clear hfr hfz hfo
   by_cases hlt:k<4
   ·have hlt':(k:Int)<4:=by omega
    have k0:(0:Int)<=(k:Int):=by omega
    have kg:=HFo.out.get k hlt
    obtain ⟨OV,kg⟩:∃ OV,wr.cell? ⟨g,k,none⟩=some OV:=⟨_,kg⟩
    have zg:=HFz.out k
    have ks:=CR.out.S.get k hlt
    have kD:=CR.out.D
    obtain ⟨SK,hSK,hSKb⟩:=HPk.out k
    rw[hSK] at ks
    replace hSK:Hid _:=hSK
    obtain ⟨SC,hSC⟩:∃ SC,SC=sclN h.D:=⟨_,rfl⟩
    have hSCb:SC<=65535:=by rw[hSC];exact sclN_le _
    obtain ⟨PR,hPR⟩:∃ PR,PR=SK*SC:=⟨_,rfl⟩
    have ePR:(SK:Int)*(SC:Int)=(PR:Int):=by rw[hPR];exact (Int.natCast_mul _ _).symm
    have hPRb:PR<=65535*65535:=by rw[hPR];exact Nat.mul_le_mul (by omega) hSCb
    have FSc:Hid (∀ W,Calls Tryz.prog 148 #[.int .i64 (h.D:Int)] W fun e w'=>e = .returned (.int .i64 (SC:Int))/\w'=W):=fun W=>by rw[hSC];exact scale_x h.D W
    have hg1:w.heap.size+1≠g:=by omega
    replace hSC:Hid _:=hSC
    replace hPR:Hid _:=hPR
    have hg0:w.heap.size≠g:=by omega
    go_wp2_with fail
    go_region_held3 (fun W=>W.cell? ⟨w.heap.size+1,k,none⟩=some (.int .i64 (SK:Int))/\W.cell? ⟨w.heap.size,2,none⟩=some (.int .i64 (h.D:Int))) (first | exact ⟨ks,kD⟩ | exact ⟨(cell_set_blk _ _ _ _ hg1).trans ks,(cell_set_blk _ _ _ _ hg0).trans kD⟩ | go_keep) ((go_at_call 148;refine (FSc.out _).mono ?_;rintro e w5 ⟨rfl,rfl⟩))
    go_wp2_with fail
    go_roundg (4 - (k+1))
    case measure=>rw[hgk.out];omega
    case rel=>
     refine ⟨k+1,rfl,by omega,by go_num,Fr1.drewN (Fr1.set HF.out _ _) 1,fun j=>by show (wr.setCell _ _).frozen? _=false;rw[World.frozen?_setCell];exact HFz.out j,HFo.out.setDrew k _ ?_ ?_⟩
     ·show (if k<k+1 then pick4 (s0:Int) s1 s2 s3 k*(sclN h.D:Int) else 0)=_
      rw[if_pos (by omega),hSK.out,<- hSC.out,ePR]
     ·intro j hj _
      show (if j<k+1 then pick4 (s0:Int) s1 s2 s3 j*(sclN h.D:Int) else 0)=if j<k then pick4 (s0:Int) s1 s2 s3 j*(sclN h.D:Int) else 0
      by_cases q:j<k
      ·rw[if_pos q,if_pos (by omega)]
      ·rw[if_neg q,if_neg (by omega)]
   ·have hlt':¬ (k:Int)<4:=by omega
    have kk:=CR.out.Kd
    have FA:Hid (∀ W,Kept wr W->Calls Tryz.prog 149 #[.pointer (some ⟨b,o,none⟩),.agg #[.int .i64 (h.W:Int),.int .i64 (h.H:Int),.int .i64 (h.D:Int),.int .i64 (h.K:Int),.int .i64 (h.L:Int)],.agg #[.int .i64 (s0:Int),.int .i64 (s1:Int),.int .i64 (s2:Int),.int .i64 (s3:Int)]] W fun e w'=>e = .returned (.int .i64 (alP t (chn h.K) (pick4 s0 s1 s2 s3)))/\Kept W w'):=fun W kW=>alpha_x b o n c t h s0 s1 s2 s3 W (BR.out.kept kW) HV.out hn HC.out hK
    have hk:k=4:=by omega
    subst hk
    obtain ⟨f,v0,v1,v2,v3,hfo4⟩:∃ f:Nat->Int,f 0=((s0*sclN h.D:Nat):Int)/\f 1=((s1*sclN h.D:Nat):Int)/\f 2=((s2*sclN h.D:Nat):Int)/\f 3=((s3*sclN h.D:Nat):Int)/\FourAt wr g f:=⟨_,(Int.natCast_mul _ _).symm,(Int.natCast_mul _ _).symm,(Int.natCast_mul _ _).symm,(Int.natCast_mul _ _).symm,HFo.out⟩
    replace v0:Hid _:=v0
    replace v1:Hid _:=v1
    replace v2:Hid _:=v2
    replace v3:Hid _:=v3
    clear HFo
    obtain ⟨f0,f1,f2,f3⟩:=hfo4
    obtain ⟨q0,q1,q2,q3⟩:=CR.out.S
    replace q0:wr.cell? ⟨w.heap.size+1,0,none⟩=some (.int .i64 (s0:Int)):=q0
    replace q1:wr.cell? ⟨w.heap.size+1,1,none⟩=some (.int .i64 (s1:Int)):=q1
    replace q2:wr.cell? ⟨w.heap.size+1,2,none⟩=some (.int .i64 (s2:Int)):=q2
    replace q3:wr.cell? ⟨w.heap.size+1,3,none⟩=some (.int .i64 (s3:Int)):=q3
    have p0:=CR.out.cW
    have p1:=CR.out.cH
    have p2:=CR.out.D
    have p4:=CR.out.cL
    have hgr:g<wr.heap.size:=World.block_lt_of_cell? wr ⟨g,0,none⟩ f0
    have hsr:w.heap.size<wr.heap.size:=World.block_lt_of_cell? wr ⟨w.heap.size,0,none⟩ p0
    have hsr1:w.heap.size+1<wr.heap.size:=World.block_lt_of_cell? wr ⟨w.heap.size+1,0,none⟩ q0
    have HS:Hid (∀ W,Kept wr W->(W.cell? ⟨g,0,none⟩=some (.int .i64 (f 0))/\W.cell? ⟨g,1,none⟩=some (.int .i64 (f 1))/\W.cell? ⟨g,2,none⟩=some (.int .i64 (f 2))/\W.cell? ⟨w.heap.size,0,none⟩=some (.int .i64 (h.W:Int))/\W.cell? ⟨w.heap.size,1,none⟩=some (.int .i64 (h.H:Int))/\W.cell? ⟨w.heap.size,2,none⟩=some (.int .i64 (h.D:Int))/\W.cell? ⟨w.heap.size,3,none⟩=some (.int .i64 (h.K:Int))/\W.cell? ⟨w.heap.size,4,none⟩=some (.int .i64 (h.L:Int))/\W.cell? ⟨w.heap.size+1,0,none⟩=some (.int .i64 (s0:Int))/\W.cell? ⟨w.heap.size+1,1,none⟩=some (.int .i64 (s1:Int))/\W.cell? ⟨w.heap.size+1,2,none⟩=some (.int .i64 (s2:Int))/\W.cell? ⟨w.heap.size+1,3,none⟩=some (.int .i64 (s3:Int)))):=fun W k=>⟨(k.cell (p:=⟨g,0,none⟩) hgr).trans f0,(k.cell (p:=⟨g,1,none⟩) hgr).trans f1,(k.cell (p:=⟨g,2,none⟩) hgr).trans f2,(k.cell (p:=⟨w.heap.size,0,none⟩) hsr).trans p0,(k.cell (p:=⟨w.heap.size,1,none⟩) hsr).trans p1,(k.cell (p:=⟨w.heap.size,2,none⟩) hsr).trans p2,(k.cell (p:=⟨w.heap.size,3,none⟩) hsr).trans kk,(k.cell (p:=⟨w.heap.size,4,none⟩) hsr).trans p4,(k.cell (p:=⟨w.heap.size+1,0,none⟩) hsr1).trans q0,(k.cell (p:=⟨w.heap.size+1,1,none⟩) hsr1).trans q1,(k.cell (p:=⟨w.heap.size+1,2,none⟩) hsr1).trans q2,(k.cell (p:=⟨w.heap.size+1,3,none⟩) hsr1).trans q3⟩
    have n1:g≠w.heap.size+2:=by omega
    have n2:w.heap.size≠w.heap.size+2:=by omega
    have n3:w.heap.size+1≠w.heap.size+2:=by omega
    have HS5:Hid (∀ (V:World) (x0 x1 x2 x3:Value) (W:World),Kept wr V->W=((((V.setCell ⟨w.heap.size+2,0,none⟩ x0).setCell ⟨w.heap.size+2,1,none⟩ x1).setCell ⟨w.heap.size+2,2,none⟩ x2).setCell ⟨w.heap.size+2,3,none⟩ x3)->(W.cell? ⟨g,0,none⟩=some (.int .i64 (f 0))/\W.cell? ⟨g,1,none⟩=some (.int .i64 (f 1))/\W.cell? ⟨g,2,none⟩=some (.int .i64 (f 2))/\W.cell? ⟨w.heap.size,0,none⟩=some (.int .i64 (h.W:Int))/\W.cell? ⟨w.heap.size,1,none⟩=some (.int .i64 (h.H:Int))/\W.cell? ⟨w.heap.size,2,none⟩=some (.int .i64 (h.D:Int))/\W.cell? ⟨w.heap.size,3,none⟩=some (.int .i64 (h.K:Int))/\W.cell? ⟨w.heap.size,4,none⟩=some (.int .i64 (h.L:Int))/\W.cell? ⟨w.heap.size+1,0,none⟩=some (.int .i64 (s0:Int))/\W.cell? ⟨w.heap.size+1,1,none⟩=some (.int .i64 (s1:Int))/\W.cell? ⟨w.heap.size+1,2,none⟩=some (.int .i64 (s2:Int))/\W.cell? ⟨w.heap.size+1,3,none⟩=some (.int .i64 (s3:Int)))):=fun V x0 x1 x2 x3 W k hW=>by
     obtain ⟨a0,a1,a2,a3,a4,a5,a6,a7,a8,a9,a10,a11⟩:=HS.out V k
     subst hW
     exact ⟨(four_other _ n1 _ _ _ _ _).trans a0,(four_other _ n1 _ _ _ _ _).trans a1,(four_other _ n1 _ _ _ _ _).trans a2,(four_other _ n2 _ _ _ _ _).trans a3,(four_other _ n2 _ _ _ _ _).trans a4,(four_other _ n2 _ _ _ _ _).trans a5,(four_other _ n2 _ _ _ _ _).trans a6,(four_other _ n2 _ _ _ _ _).trans a7,(four_other _ n3 _ _ _ _ _).trans a8,(four_other _ n3 _ _ _ _ _).trans a9,(four_other _ n3 _ _ _ _ _).trans a10,(four_other _ n3 _ _ _ _ _).trans a11⟩
    obtain ⟨fr,hfr'⟩:=CR.out.R
    obtain ⟨r0,r1,r2,r3⟩:=hfr'
    have zr:=CR.out.Z
    have hcs:h.K=0\/h.K=4\/h.K=2\/(h.K≠0/\h.K≠4/\h.K≠2):=by omega
    clear h3'
    replace h3:Hid _:=h3
    generalize alP t (chn h.K) (pick4 s0 s1 s2 s3)=AL at *
    rcases hcs with hk0 | hk0 | hk0 | ⟨hk0,hk4,hk2⟩
    ·have hK0:Hid (h.K=0):=hk0
     rw[hk0] at kk HS HS5 FA
     clear hk0
     go_wp2_with fail
     go_region_held3 (fun W=>W.cell? ⟨g,0,none⟩=some (.int .i64 (f 0))/\W.cell? ⟨g,1,none⟩=some (.int .i64 (f 1))/\W.cell? ⟨g,2,none⟩=some (.int .i64 (f 2))/\W.cell? ⟨w.heap.size,0,none⟩=some (.int .i64 (h.W:Int))/\W.cell? ⟨w.heap.size,1,none⟩=some (.int .i64 (h.H:Int))/\W.cell? ⟨w.heap.size,2,none⟩=some (.int .i64 (h.D:Int))/\W.cell? ⟨w.heap.size,3,none⟩=some (.int .i64 0)/\W.cell? ⟨w.heap.size,4,none⟩=some (.int .i64 (h.L:Int))/\W.cell? ⟨w.heap.size+1,0,none⟩=some (.int .i64 (s0:Int))/\W.cell? ⟨w.heap.size+1,1,none⟩=some (.int .i64 (s1:Int))/\W.cell? ⟨w.heap.size+1,2,none⟩=some (.int .i64 (s2:Int))/\W.cell? ⟨w.heap.size+1,3,none⟩=some (.int .i64 (s3:Int))) (first | exact HS.out _ ((Kept.refl _).drewN 1) | exact HS5.out _ _ _ _ _ _ hk6 rfl | exact HS.out _ hk6 | go_keep) ((go_at_call 149;refine (FA.out _ ((Kept.refl _).drewN 1)).mono ?_;rintro e w6 ⟨rfl,hk6'⟩;have hk6:Kept wr w6:=((Kept.refl _).drewN 1).trans hk6';have CR6:Hid (ClA w w6 h s0 s1 s2 s3):=CR.out.kept hk6;have r06:=(hk6.cell (p:=⟨w.heap.size+2,0,none⟩) (World.block_lt_of_cell? _ _ r0)).trans r0;have r16:=(hk6.cell (p:=⟨w.heap.size+2,1,none⟩) (World.block_lt_of_cell? _ _ r1)).trans r1;have r26:=(hk6.cell (p:=⟨w.heap.size+2,2,none⟩) (World.block_lt_of_cell? _ _ r2)).trans r2;have r36:=(hk6.cell (p:=⟨w.heap.size+2,3,none⟩) (World.block_lt_of_cell? _ _ r3)).trans r3;have zr6:=CR6.out.Z))
     go_wp2_with fail
     exact bodyPost_ret (results_cell1 rfl _ _ _ _ _ rfl (load4 (CR6.out.done _ _ _ _).1)) rfl ⟨by rw[E0.out hK0.out];exact four_pk v0.out v0.out v0.out rfl,(CR6.out.done _ _ _ _).2⟩
    ·have hK4:Hid (h.K=4):=hk0
     rw[hk0] at kk
     clear hk0 HS HS5 FA
     go_wp2_with fail
     exact bodyPost_ret (results_cell1 rfl _ _ _ _ _ rfl (load4 (CR.out.done _ _ _ _).1)) rfl ⟨by rw[E4.out hK4.out];exact four_pk v0.out v0.out v0.out v1.out,(CR.out.done _ _ _ _).2⟩
    ·have hK0:Hid (h.K=2):=hk0
     rw[hk0] at kk HS HS5 FA
     clear hk0
     go_wp2_with fail
     go_region_held3 (fun W=>W.cell? ⟨g,0,none⟩=some (.int .i64 (f 0))/\W.cell? ⟨g,1,none⟩=some (.int .i64 (f 1))/\W.cell? ⟨g,2,none⟩=some (.int .i64 (f 2))/\W.cell? ⟨w.heap.size,0,none⟩=some (.int .i64 (h.W:Int))/\W.cell? ⟨w.heap.size,1,none⟩=some (.int .i64 (h.H:Int))/\W.cell? ⟨w.heap.size,2,none⟩=some (.int .i64 (h.D:Int))/\W.cell? ⟨w.heap.size,3,none⟩=some (.int .i64 2)/\W.cell? ⟨w.heap.size,4,none⟩=some (.int .i64 (h.L:Int))/\W.cell? ⟨w.heap.size+1,0,none⟩=some (.int .i64 (s0:Int))/\W.cell? ⟨w.heap.size+1,1,none⟩=some (.int .i64 (s1:Int))/\W.cell? ⟨w.heap.size+1,2,none⟩=some (.int .i64 (s2:Int))/\W.cell? ⟨w.heap.size+1,3,none⟩=some (.int .i64 (s3:Int))) (first | exact HS.out _ ((Kept.refl _).drewN 1) | exact HS5.out _ _ _ _ _ _ hk6 rfl | exact HS.out _ hk6 | go_keep) ((go_at_call 149;refine (FA.out _ ((Kept.refl _).drewN 1)).mono ?_;rintro e w6 ⟨rfl,hk6'⟩;have hk6:Kept wr w6:=((Kept.refl _).drewN 1).trans hk6';have CR6:Hid (ClA w w6 h s0 s1 s2 s3):=CR.out.kept hk6;have r06:=(hk6.cell (p:=⟨w.heap.size+2,0,none⟩) (World.block_lt_of_cell? _ _ r0)).trans r0;have r16:=(hk6.cell (p:=⟨w.heap.size+2,1,none⟩) (World.block_lt_of_cell? _ _ r1)).trans r1;have r26:=(hk6.cell (p:=⟨w.heap.size+2,2,none⟩) (World.block_lt_of_cell? _ _ r2)).trans r2;have r36:=(hk6.cell (p:=⟨w.heap.size+2,3,none⟩) (World.block_lt_of_cell? _ _ r3)).trans r3;have zr6:=CR6.out.Z))
     go_wp2_with fail
     exact bodyPost_ret (results_cell1 rfl _ _ _ _ _ rfl (load4 (CR6.out.done _ _ _ _).1)) rfl ⟨by rw[E2.out hK0.out];exact four_pk v0.out v1.out v2.out rfl,(CR6.out.done _ _ _ _).2⟩
    ·have g0:((h.K:Int) == 0)=false:=by rw[beq_eq_false_iff_ne];omega
     have g2:((h.K:Int) == 4)=false:=by rw[beq_eq_false_iff_ne];omega
     have g3:((h.K:Int) == 2)=false:=by rw[beq_eq_false_iff_ne];omega
     have hk6n:Hid (h.K≠0/\h.K≠4/\h.K≠2):=⟨hk0,hk4,hk2⟩
     clear hk0 hk4 hk2 HS HS5 FA
     go_wp2_with fail
     exact bodyPost_ret (results_cell1 rfl _ _ _ _ _ rfl (load4 (CR.out.done _ _ _ _).1)) rfl ⟨by rw[E6.out h3.out hk6n.out.1 hk6n.out.2.1 hk6n.out.2.2];exact four_pk v0.out v1.out v2.out v3.out,(CR.out.done _ _ _ _).2⟩
theorem u8_or_nat (a b:Nat) (ha:a<256) (hb:b<256):bits .or .u8 (a:Int) (b:Int)=((a ||| b:Nat):Int):=by
 have hx:a ||| b<2^8:=Nat.or_lt_two_pow (by omega) (by omega)
 show IntKind.u8.wrap ((BitVec.ofInt 8 (a:Int) ||| BitVec.ofInt 8 (b:Int)).toNat:Int)=_
 have e1:(BitVec.ofInt 8 (a:Int)).toNat=a:=by rw[BitVec.ofInt_natCast,BitVec.toNat_ofNat];exact Nat.mod_eq_of_lt (by omega)
 have e2:(BitVec.ofInt 8 (b:Int)).toNat=b:=by rw[BitVec.ofInt_natCast,BitVec.toNat_ofNat];exact Nat.mod_eq_of_lt (by omega)
 rw[BitVec.toNat_or,e1,e2,IntKind.wrap_u8]
 omega
structure LwB (w:World) (x N cnt W H D K L:Nat) (o:List Int) (row abv:Nat->Nat):Prop where
 lt:x<N
 size:N<=w.heap.size
 fz:∀ k,w.frozen? ⟨x,k,none⟩=false
 c0:w.cell? ⟨x,0,none⟩=some (.int .i64 (W:Int))
 c1:w.cell? ⟨x,1,none⟩=some (.int .i64 (H:Int))
 c2:w.cell? ⟨x,2,none⟩=some (.int .i64 (D:Int))
 c3:w.cell? ⟨x,3,none⟩=some (.int .i64 (K:Int))
 c4:w.cell? ⟨x,4,none⟩=some (.int .i64 (L:Int))
 out:∃ ov,w.cell? ⟨x,5,none⟩=some ov/\OwnB w N ov o
 cn:w.cell? ⟨x,6,none⟩=some (.int .i64 (cnt:Int))
 rowc:∀ j,j<128->w.cell? ⟨x,7+j,none⟩=some (.int .u8 (row j:Int))
 abvc:∀ j,j<128->w.cell? ⟨x,135+j,none⟩=some (.int .u8 (abv j:Int))
 rb:∀ j,row j<256
 ab:∀ j,abv j<256
theorem LwB.at' {w:World} {x N cnt W H D K L:Nat} {o:List Int} {row abv:Nat->Nat} (h:LwB w x N cnt W H D K L o row abv):LwAt w x N o.length cnt W H D K L:=by
 obtain ⟨h1,h2,h3,a0,a1,a2,a3,a4,⟨ov,b1,b2⟩,a6,r1,r2,r3,r4⟩:=h
 exact ⟨h1,h2,h3,a0,a1,a2,a3,a4,⟨ov,b1,b2.own8⟩,a6,fun j hj=>⟨row j,by omega,by have:=r3 j;omega,r1 j hj⟩,fun j hj=>⟨abv j,by omega,by have:=r4 j;omega,r2 j hj⟩⟩
theorem LwB.kept {w w':World} {x N cnt W H D K L:Nat} {o:List Int} {row abv:Nat->Nat} (h:LwB w x N cnt W H D K L o row abv) (k:Kept w w'):LwB w' x N cnt W H D K L o row abv:=by
 obtain ⟨h1,h2,h3,a0,a1,a2,a3,a4,⟨ov,b1,b2⟩,a6,r1,r2,r3,r4⟩:=h
 have hx:x<w.heap.size:=by omega
 have e:∀ j,w'.cell? ⟨x,j,none⟩=w.cell? ⟨x,j,none⟩:=fun j=>k.cell (p:=⟨x,j,none⟩) hx
 exact ⟨h1,Nat.le_trans h2 k.size,fun j=>(k.frozen (p:=⟨x,j,none⟩) hx).trans (h3 j),(e 0).trans a0,(e 1).trans a1,(e 2).trans a2,(e 3).trans a3,(e 4).trans a4,⟨ov,(e 5).trans b1,b2.kept k⟩,(e 6).trans a6,fun j hj=>(e _).trans (r1 j hj),fun j hj=>(e _).trans (r2 j hj),r3,r4⟩
theorem LwB.setRow {w:World} {x N cnt W H D K L:Nat} {o:List Int} {row abv:Nat->Nat} (h:LwB w x N cnt W H D K L o row abv) (i:Nat) (hi:i<128) (z:Nat) (hz:z<256):LwB (w.setCell ⟨x,7+i,none⟩ (.int .u8 (z:Int))) x N cnt W H D K L o (upd row i z) abv:=by
 obtain ⟨h1',h2,h3,a0,a1,a2,a3,a4,⟨ov,b1,b2⟩,a6,r1,r2,r3,r4⟩:=h
 have e:∀ j,j≠7+i->(w.setCell ⟨x,7+i,none⟩ (.int .u8 (z:Int))).cell? ⟨x,j,none⟩=w.cell? ⟨x,j,none⟩:=fun j hj=>cell_set_other _ _ _ _ _ (by omega)
 refine ⟨h1',by rw[show (w.setCell ⟨x,7+i,none⟩ (.int .u8 (z:Int))).heap.size=w.heap.size by simp [World.setCell]];exact h2,fun k=>by rw[World.frozen?_setCell];exact h3 k,(e 0 (by omega)).trans a0,(e 1 (by omega)).trans a1,(e 2 (by omega)).trans a2,(e 3 (by omega)).trans a3,(e 4 (by omega)).trans a4,⟨ov,(e 5 (by omega)).trans b1,b2.set h1' _ _⟩,(e 6 (by omega)).trans a6,?_,fun j hj=>(e _ (by omega)).trans (r2 j hj),?_,r4⟩
 ·intro j hj
  by_cases hji:j=i
  ·subst hji;rw[upd_same];exact cell_set_same (r1 j hj) _
  ·rw[upd_ne _ _ _ hji];exact (e _ (by omega)).trans (r1 j hj)
 ·intro j
  by_cases hji:j=i
  ·subst hji;rw[upd_same];exact hz
  ·rw[upd_ne _ _ _ hji];exact r3 j
structure LxB (x N cnt W H D K L:Nat) (o:List Int) (row abv:Nat->Nat) (w w':World):Prop where
 lw:LwB w' x N cnt W H D K L o row abv
 fr:Fr1 x w w'
 c5:w'.cell? ⟨x,5,none⟩=w.cell? ⟨x,5,none⟩
theorem LxB.trans {x N cnt cnt' W H D K L:Nat} {o o':List Int} {row abv row' abv':Nat->Nat} {a b c:World} (h:LxB x N cnt W H D K L o row abv a b) (k:LxB x N cnt' W H D K L o' row' abv' b c):LxB x N cnt' W H D K L o' row' abv' a c:=⟨k.lw,h.fr.trans k.fr,k.c5.trans h.c5⟩
theorem LxB.refl {x N cnt W H D K L:Nat} {o:List Int} {row abv:Nat->Nat} {a:World} (h:LwB a x N cnt W H D K L o row abv):LxB x N cnt W H D K L o row abv a a:=⟨h,Fr.refl _ _,rfl⟩
theorem LxB.kept {x N cnt W H D K L:Nat} {o:List Int} {row abv:Nat->Nat} {a b c:World} (h:LxB x N cnt W H D K L o row abv a b) (k:Kept b c):LxB x N cnt W H D K L o row abv a c:=⟨h.lw.kept k,h.fr.kept k,(k.cell (p:=⟨x,5,none⟩) (Nat.lt_of_lt_of_le h.lw.lt h.lw.size)).trans h.c5⟩
theorem LxB.drewN {x N cnt W H D K L:Nat} {o:List Int} {row abv:Nat->Nat} {a b:World} (h:LxB x N cnt W H D K L o row abv a b) (k:Nat):LxB x N cnt W H D K L o row abv a (b.drewN k):=h.kept ((Kept.refl _).drewN k)
theorem shifted_b (v n:Nat) (w:World) (hn:n<=8) (hv:v<65536) :
  Calls Tryz.prog 159 #[.int .i64 (v:Int),.int .i64 (n:Int)] w fun r w'=>r = .returned (.int .u8 ((v*2^n % 256:Nat):Int))/\w'=w:=by
 have hE:Hid (((v:Int) % 256*2^n) % 256=((v*2^n % 256:Nat):Int)):=by
  show ((v:Int) % 256*2^n) % 256=_
  rw[Int.mul_emod,Int.emod_emod,<- Int.mul_emod]
  simp
 go_enter Tryz.func159,Tryz.ntmps159
 have hn':(n:Int)<=8:=by omega
 go_wp2
 go_ret
 refine ⟨?_,rfl⟩
 rw[<- hE.out]
 rfl
def laySB (D:Nat) (row:Nat->Nat) (i v:Nat):Nat->Nat:=
 if D<16 then upd row (i*D / 8) (row (i*D / 8) ||| v*2^(8 - i*D % 8 - D) % 256) else upd (upd row (i*D / 8) (v / 256)) (i*D / 8+1) (v % 256)
theorem layS_low_b (x N cnt W H D K L i v:Nat) (o:List Int) (row abv:Nat->Nat) (w:World) (h:LwB w x N cnt W H D K L o row abv) (hk:legal K D) (hi:i*D / 8<128) (hv1:v<65536) (hD8:D<16) (hfit:i*D % 8+D<=8) :
  Calls Tryz.prog 151 #[.pointer (some ⟨x,0,none⟩),.int .i64 (i:Int),.int .i64 (v:Int)] w fun r w'=>r = .returned (.tuple #[])/\LxB x N cnt W H D K L o (laySB D row i v) abv w w':=by
 have F:Hid (∀ (W:World) (n:Nat),n<=8->Calls Tryz.prog 159 #[.int .i64 (v:Int),.int .i64 (n:Int)] W fun r w'=>r = .returned (.int .u8 ((v*2^n % 256:Nat):Int))/\w'=W):=fun W n h0=>shifted_b v n W h0 hv1
 have HLB:Hid (laySB D row i v=upd row (i*D / 8) (row (i*D / 8) ||| v*2^(8 - i*D % 8 - D) % 256)):=by show laySB D row i v=_;unfold laySB;rw[if_pos hD8]
 generalize laySB D row i v=RW at *
 have c2:=h.c2
 have H0:Hid (LwB w x N cnt W H D K L o row abv):=h
 have hD:=hk.d
 have hTb:i*D<=65536:=by omega
 have e1:(i:Int)*(D:Int)=((i*D:Nat):Int):=by simp
 generalize i*D=T at *
 obtain ⟨A,hA⟩:∃ A,A=T / 8:=⟨_,rfl⟩
 have e2:(T:Int) / 8=(A:Int):=by omega
 have hAb:A<=8192:=by omega
 have a0:(0:Int)<=(A:Int):=by omega
 have hT0:(0:Int)<=(T:Int):=by omega
 have hlt:A<128:=by omega
 rw[<- hA] at HLB
 replace hA:Hid _:=hA
 clear hk
 have a1:(A:Int)<128:=by omega
 have hz:=h.rowc A hlt
 have hz1:=h.rb A
 have hfA:=h.fz (7+A)
 have hD':(D:Int)<16:=by omega
 obtain ⟨M,hM⟩:∃ M,M=T % 8:=⟨_,rfl⟩
 rw[<- hM] at HLB hfit
 have e3:(T:Int).tmod 8=(M:Int):=by rw[Int.tmod_eq_emod_of_nonneg hT0];omega
 have hMb:(M:Int)<=7:=by omega
 have w1:IntKind.i64.wrap (8 - (M:Int))=8 - (M:Int):=wrapZ _ (by omega) (by omega)
 have w2:IntKind.i64.wrap (8 - (M:Int) - (D:Int))=((8 - M - D:Nat):Int):=by rw[wrapZ _ (by omega) (by omega)];omega
 have FA:Hid _:=F.out
 have hq1:v*2^(8 - M - D) % 256<256:=Nat.mod_lt _ (by omega)
 have FQ:=fun W'=>F.out W' (8 - M - D) (by omega)
 obtain ⟨q,hq⟩:∃ q,q=v*2^(8 - M - D) % 256:=⟨_,rfl⟩
 rw[<- hq] at FQ hq1 HLB
 obtain ⟨E,hE⟩:∃ E,E=8 - M - D:=⟨_,rfl⟩
 rw[<- hE] at w2 FQ
 replace FQ:Hid (∀ W:World,Calls Tryz.prog 159 #[.int .i64 (v:Int),.int .i64 (E:Int)] W fun r w'=>r = .returned (.int .u8 (q:Int))/\w'=W):=FQ
 obtain ⟨z,hzz⟩:∃ z,z=row A:=⟨_,rfl⟩
 rw[<- hzz] at hz hz1 HLB
 clear h hD hM F FA hq hE hzz
 replace hTb:Hid _:=hTb
 go_enter Tryz.func151,Tryz.ntmps151
 go_wp2
 go_region_with ((go_at_call 159;refine (FQ.out _).mono ?_;rintro r w1 ⟨rfl,rfl⟩))
 all_goals
  go_wp2
  refine bodyPost_ret (results_none rfl _ _ _) rfl ?_
  refine ⟨rfl,⟨?_,(Fr1.set (Fr1.refl x _) _ _).drewN 1,cell_set_other _ _ _ _ _ (by omega)⟩⟩
  rw[HLB.out,u8_or_nat z q hz1 hq1]
  exact (H0.out.setRow A hlt _ (Nat.or_lt_two_pow (n:=8) hz1 hq1)).kept ((Kept.refl _).drewN 1)
theorem layS_high_b (x N cnt W H D K L i v:Nat) (o:List Int) (row abv:Nat->Nat) (w:World) (h:LwB w x N cnt W H D K L o row abv) (hk:legal K D) (hi:i*D / 8<128) (hv1:v<65536) (hD8:¬ D<16) :
  Calls Tryz.prog 151 #[.pointer (some ⟨x,0,none⟩),.int .i64 (i:Int),.int .i64 (v:Int)] w fun r w'=>r = .returned (.tuple #[])/\LxB x N cnt W H D K L o (laySB D row i v) abv w w':=by
 have HLB:Hid (laySB D row i v=upd (upd row (i*D / 8) (v / 256)) (i*D / 8+1) (v % 256)):=by show laySB D row i v=_;unfold laySB;rw[if_neg hD8]
 generalize laySB D row i v=RW at *
 have c2:=h.c2
 have H0:Hid (LwB w x N cnt W H D K L o row abv):=h
 have hD:=hk.d
 have hTb:i*D<=65536:=by omega
 have e1:(i:Int)*(D:Int)=((i*D:Nat):Int):=by simp
 generalize i*D=T at *
 obtain ⟨A,hA⟩:∃ A,A=T / 8:=⟨_,rfl⟩
 have e2:(T:Int) / 8=(A:Int):=by omega
 have hAb:A<=8192:=by omega
 have a0:(0:Int)<=(A:Int):=by omega
 have hT0:(0:Int)<=(T:Int):=by omega
 have hlt:A<128:=by omega
 rw[<- hA] at HLB
 clear hA hk
 have hD16:D=16:=by omega
 subst hD16
 have e1':(i:Int)*16=(T:Int):=by omega
 have c2':w.cell? ⟨x,2,none⟩=some (.int .i64 16):=c2
 clear e1 c2 hD hD8
 have a1:(A:Int)<128:=by omega
 have hz:=h.rowc A hlt
 have hfA:=h.fz (7+A)
 have hA1:A+1<128:=by omega
 have a2:(A:Int)+1<128:=by omega
 have hy:=h.rowc (A+1) hA1
 have hfB:=h.fz (7+(A+1))
 generalize row A=z at hz
 generalize row (A+1)=y at hy
 clear h
 go_enter Tryz.func151,Tryz.ntmps151
 go_wp2
 go_end0
 refine ⟨rfl,⟨?_,Fr1.set (Fr1.set (Fr1.refl x _) _ _) _ _,(cell_set_other _ _ _ _ _ (by omega)).trans (cell_set_other _ _ _ _ _ (by omega))⟩⟩
 rw[HLB.out]
 have h5:=(H0.out.setRow A hlt (v / 256) (by omega)).setRow (A+1) hA1 (v % 256) (by omega)
 rw[show ((v / 256:Nat):Int)=(v:Int) / 256 from by omega,show ((v % 256:Nat):Int)=(v:Int) % 256 from by omega] at h5
 exact h5
theorem layS_b (x N cnt W H D K L i v:Nat) (o:List Int) (row abv:Nat->Nat) (w:World) (h:LwB w x N cnt W H D K L o row abv) (hk:legal K D) (hi:i*D / 8<128) (hv1:v<65536) :
  Calls Tryz.prog 151 #[.pointer (some ⟨x,0,none⟩),.int .i64 (i:Int),.int .i64 (v:Int)] w fun r w'=>r = .returned (.tuple #[])/\LxB x N cnt W H D K L o (laySB D row i v) abv w w':=by
 by_cases hD:D<16
 ·refine layS_low_b x N cnt W H D K L i v o row abv w h hk hi hv1 hD ?_
  have:=hk.d
  rcases this with rfl | rfl | rfl | rfl | rfl<;>omega
 ·exact layS_high_b x N cnt W H D K L i v o row abv w h hk hi hv1 hD
def stpB (K D:Nat):Nat:=if 1<chan K*D / 8 then chan K*D / 8 else 1
def gssB (K D f:Nat) (row abv:Nat->Nat) (i:Nat):Nat:=gss f (if stpB K D<=i then row (i - stpB K D) else 0) (abv i) (if stpB K D<=i then abv (i - stpB K D) else 0)
theorem guess_b (x N cnt W H D K L f i:Nat) (o:List Int) (row abv:Nat->Nat) (w:World) (h:LwB w x N cnt W H D K L o row abv) (hk:legal K D) (hf:f<=4) (hi:i<128) :
  Calls Tryz.prog 152 #[.pointer (some ⟨x,0,none⟩),.int .u8 (f:Int),.int .i64 (i:Int)] w fun r w'=>r = .returned (.int .u8 (gssB K D f row abv i:Int))/\Kept w w':=by
 have F1:Hid (∀ W',Kept w W'->Calls Tryz.prog 130 #[.pointer (some ⟨x,0,none⟩)] W' fun r w'=>r = .returned (.int .i64 ((chan K*D:Nat):Int))/\Kept W' w'):=fun W' hK=>pbits_any x N o.length cnt W H D K L W' (h.kept hK).at' hk
 have F2:Hid (∀ (W':World) (l u c:Nat),l<256->u<256->c<256->Calls Tryz.prog 160 #[.int .u8 (f:Int),.int .u8 (l:Int),.int .u8 (u:Int),.int .u8 (c:Int)] W' fun r w'=>r = .returned (.int .u8 (gss f l u c:Int))/\w'=W'):=fun W' l u c hl hu hc=>gss_x f l u c W' (by omega) hl hu hc
 have HG:Hid (gssB K D f row abv i=gss f (if stpB K D<=i then row (i - stpB K D) else 0) (abv i) (if stpB K D<=i then abv (i - stpB K D) else 0)):=rfl
 generalize gssB K D f row abv i=GG at *
 have HS:Hid (stpB K D=if 1<chan K*D / 8 then chan K*D / 8 else 1):=rfl
 generalize stpB K D=st at *
 have hPb:chan K*D<=64:=Nat.le_trans (Nat.mul_le_mul (@chan_le K).2 (show D<=16 by have:=hk.d;omega)) (by decide)
 have H0:Hid (LwB w x N cnt W H D K L o row abv):=h
 have hu:=h.abvc i hi
 have u1:=h.ab i
 generalize abv i=u at hu u1 HG
 generalize chan K*D=P at *
 have i0:(0:Int)<=(i:Int):=by omega
 have i1:(i:Int)<128:=by omega
 have hxs:x<w.heap.size:=World.block_lt_of_cell? _ _ hu
 clear h hk
 obtain ⟨Q,hQ⟩:∃ Q,Q=P / 8:=⟨_,rfl⟩
 have eQ:(P:Int) / 8=(Q:Int):=by omega
 have hQb:(Q:Int)<=8:=by omega
 rw[<- hQ] at HS
 clear hQ
 go_enter Tryz.func152,Tryz.ntmps152
 go_wp2_with fail
 refine (F1.out _ (Kept.refl _)).mono ?_
 rintro r w1 ⟨rfl,hk1⟩
 by_cases hq:1<Q
 ·have hq':(1:Int)<(Q:Int):=by omega
  by_cases hb:Q<=i
  ·have hst:st=Q:=by have:=HS.out;simp only [if_pos hq] at this;exact this
   have hl:=H0.out.rowc (i - Q) (by omega)
   have hc:=H0.out.abvc (i - Q) (by omega)
   have l1:=H0.out.rb (i - Q)
   have c1:=H0.out.ab (i - Q)
   have HGE:Hid (GG=gss f (row (i - Q)) u (abv (i - Q))):=by show GG=_;rw[HG.out,hst,if_pos hb,if_pos hb]
   obtain ⟨l,hle⟩:∃ l,l=row (i - Q):=⟨_,rfl⟩
   obtain ⟨c,hce⟩:∃ c,c=abv (i - Q):=⟨_,rfl⟩
   rw[<- hle,<- hce] at HGE
   rw[<- hle] at hl l1
   rw[<- hce] at hc c1
   clear hle hce hst
   have hl1:=(hk1.cell (p:=⟨x,7+(i - Q),none⟩) hxs).trans hl
   have hc1:=(hk1.cell (p:=⟨x,135+(i - Q),none⟩) hxs).trans hc
   have hu1:=(hk1.cell (p:=⟨x,135+i,none⟩) hxs).trans hu
   replace hk1:Hid (Kept w w1):=hk1
   clear hl hc hu
   obtain ⟨J,hJ⟩:∃ J,J=i - Q:=⟨_,rfl⟩
   rw[<- hJ] at hl1 hc1
   have eS:(i:Int) - (Q:Int)=(J:Int):=by omega
   have j0:(0:Int)<=(J:Int):=by omega
   have j1:(J:Int)<128:=by omega
   clear hJ
   go_wp2_with fail
   refine (F2.out _ l u c l1 u1 c1).mono ?_
   rintro r w2 ⟨rfl,rfl⟩
   rw[<- HGE.out]
   go_wp2
   go_ret
   exact ⟨rfl,hk1.out⟩
  ·have hst:st=Q:=by have:=HS.out;simp only [if_pos hq] at this;exact this
   have HGE:Hid (GG=gss f 0 u 0):=by show GG=_;rw[HG.out,hst,if_neg hb,if_neg hb]
   clear hst
   have hu1:=(hk1.cell (p:=⟨x,135+i,none⟩) hxs).trans hu
   replace hk1:Hid (Kept w w1):=hk1
   clear hu
   have hb':¬ (0:Int)<=(i:Int) - (Q:Int):=by omega
   go_wp2_with fail
   refine (F2.out _ 0 u 0 (by omega) u1 (by omega)).mono ?_
   rintro r w2 ⟨rfl,rfl⟩
   rw[<- HGE.out]
   go_wp2
   go_ret
   exact ⟨rfl,hk1.out⟩
 ·have hq':(Q:Int)<=1:=by omega
  by_cases hb:1<=i
  ·have hst:st=1:=by have:=HS.out;simp only [if_neg hq] at this;exact this
   have hl:=H0.out.rowc (i - 1) (by omega)
   have hc:=H0.out.abvc (i - 1) (by omega)
   have l1:=H0.out.rb (i - 1)
   have c1:=H0.out.ab (i - 1)
   have HGE:Hid (GG=gss f (row (i - 1)) u (abv (i - 1))):=by show GG=_;rw[HG.out,hst,if_pos hb,if_pos hb]
   obtain ⟨l,hle⟩:∃ l,l=row (i - 1):=⟨_,rfl⟩
   obtain ⟨c,hce⟩:∃ c,c=abv (i - 1):=⟨_,rfl⟩
   rw[<- hle,<- hce] at HGE
   rw[<- hle] at hl l1
   rw[<- hce] at hc c1
   clear hle hce hst
   have hl1:=(hk1.cell (p:=⟨x,7+(i - 1),none⟩) hxs).trans hl
   have hc1:=(hk1.cell (p:=⟨x,135+(i - 1),none⟩) hxs).trans hc
   have hu1:=(hk1.cell (p:=⟨x,135+i,none⟩) hxs).trans hu
   replace hk1:Hid (Kept w w1):=hk1
   clear hl hc hu
   obtain ⟨J,hJ⟩:∃ J,J=i - 1:=⟨_,rfl⟩
   rw[<- hJ] at hl1 hc1
   have eS:(i:Int) - 1=(J:Int):=by omega
   have j0:(0:Int)<=(J:Int):=by omega
   have j1:(J:Int)<128:=by omega
   clear hJ
   go_wp2_with fail
   refine (F2.out _ l u c l1 u1 c1).mono ?_
   rintro r w2 ⟨rfl,rfl⟩
   rw[<- HGE.out]
   go_wp2
   go_ret
   exact ⟨rfl,hk1.out⟩
  ·have hst:st=1:=by have:=HS.out;simp only [if_neg hq] at this;exact this
   have HGE:Hid (GG=gss f 0 u 0):=by show GG=_;rw[HG.out,hst,if_neg hb,if_neg hb]
   clear hst
   have hu1:=(hk1.cell (p:=⟨x,135+i,none⟩) hxs).trans hu
   replace hk1:Hid (Kept w w1):=hk1
   clear hu
   have hb':¬ (0:Int)<=(i:Int) - 1:=by omega
   go_wp2_with fail
   refine (F2.out _ 0 u 0 (by omega) u1 (by omega)).mono ?_
   rintro r w2 ⟨rfl,rfl⟩
   rw[<- HGE.out]
   go_wp2
   go_ret
   exact ⟨rfl,hk1.out⟩
