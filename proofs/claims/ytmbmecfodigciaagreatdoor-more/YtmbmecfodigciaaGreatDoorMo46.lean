import Derived.Test.YtmbmecfodigciaaGreatDoorMo45
import Derived.Test.YtmbmecfodigciaaGreatDoorMo41
import Derived.Test.YtmbmecfodigciaaGreatDoorMo44
import Derived.Test.YtmbmecfodigciaaGreatDoorMo40
import Derived.Test.YtmbmecfodigciaaGreatDoorMo05
import Derived.Test.YtmbmecfodigciaaGreatDoorMo42
set_option maxRecDepth 100000
set_option maxHeartbeats 6400000
namespace Go.Proofs.YtmbmecfodigciaaGreatDoor
open Go.RowKit Px
set_option linter.unusedSimpArgs false
set_option linter.unusedVariables false
def colP (t:Tl) (h:Hd) (s0 s1 s2 s3:Nat):Nat→Int:=
 if h.K=3 then entP t s0
 else if h.K=0 then pick4 ((s0*sclN h.D:Nat):Int) ((s0*sclN h.D:Nat):Int) ((s0*sclN h.D:Nat):Int) (alP t (chn h.K) (pick4 s0 s1 s2 s3))
 else if h.K=4 then pick4 ((s0*sclN h.D:Nat):Int) ((s0*sclN h.D:Nat):Int) ((s0*sclN h.D:Nat):Int) ((s1*sclN h.D:Nat):Int)
 else if h.K=2 then pick4 ((s0*sclN h.D:Nat):Int) ((s1*sclN h.D:Nat):Int) ((s2*sclN h.D:Nat):Int) (alP t (chn h.K) (pick4 s0 s1 s2 s3))
 else pick4 ((s0*sclN h.D:Nat):Int) ((s1*sclN h.D:Nat):Int) ((s2*sclN h.D:Nat):Int) ((s3*sclN h.D:Nat):Int)
theorem colP_3 {t:Tl} {h:Hd} {s0 s1 s2 s3:Nat} (k:h.K=3):colP t h s0 s1 s2 s3=entP t s0:=if_pos k
theorem colP_0 {t:Tl} {h:Hd} {s0 s1 s2 s3:Nat} (k:h.K=0):colP t h s0 s1 s2 s3=pick4 ((s0*sclN h.D:Nat):Int) ((s0*sclN h.D:Nat):Int) ((s0*sclN h.D:Nat):Int) (alP t (chn h.K) (pick4 s0 s1 s2 s3)):=by unfold colP;rw[if_neg (by omega),if_pos k]
theorem colP_4 {t:Tl} {h:Hd} {s0 s1 s2 s3:Nat} (k:h.K=4):colP t h s0 s1 s2 s3=pick4 ((s0*sclN h.D:Nat):Int) ((s0*sclN h.D:Nat):Int) ((s0*sclN h.D:Nat):Int) ((s1*sclN h.D:Nat):Int):=by unfold colP;rw[if_neg (by omega),if_neg (by omega),if_pos k]
theorem colP_2 {t:Tl} {h:Hd} {s0 s1 s2 s3:Nat} (k:h.K=2):colP t h s0 s1 s2 s3=pick4 ((s0*sclN h.D:Nat):Int) ((s1*sclN h.D:Nat):Int) ((s2*sclN h.D:Nat):Int) (alP t (chn h.K) (pick4 s0 s1 s2 s3)):=by unfold colP;rw[if_neg (by omega),if_neg (by omega),if_neg (by omega),if_pos k]
theorem colP_6 {t:Tl} {h:Hd} {s0 s1 s2 s3:Nat} (k3:h.K≠3) (k0:h.K≠0) (k4:h.K≠4) (k2:h.K≠2):colP t h s0 s1 s2 s3=pick4 ((s0*sclN h.D:Nat):Int) ((s1*sclN h.D:Nat):Int) ((s2*sclN h.D:Nat):Int) ((s3*sclN h.D:Nat):Int):=by unfold colP;rw[if_neg k3,if_neg k0,if_neg k4,if_neg k2]
theorem pick4_nat {s0 s1 s2 s3:Nat} (h0:s0<65536) (h1:s1<65536) (h2:s2<65536) (h3:s3<65536) (k:Nat):∃ m:Nat,pick4 (s0:Int) s1 s2 s3 k=(m:Int)∧m<65536:=by
 unfold pick4
 split
 ·exact ⟨s0,rfl,h0⟩
 ·split
  ·exact ⟨s1,rfl,h1⟩
  ·split
   ·exact ⟨s2,rfl,h2⟩
   ·exact ⟨s3,rfl,h3⟩
theorem FourAt.setDrew {W:World} {g:Nat} {f f':Nat→Int} (h:FourAt W g f) (k:Nat) (v:Int) (h1:f' k=v) (h2:∀ j,j≠k→j<4→f' j=f j):FourAt (W.setCell ⟨g,k,none⟩ (.int .i64 v)).drew g f':=(h.set k v h1 h2).kept ((Kept.refl _).drewN 1)
theorem colour_x (b o n:Nat) (c:Nat→Value) (t:Tl) (h:Hd) (s0 s1 s2 s3:Nat) (w:World) (hB:Blk w b n c) (hV:TlV c o t) (hn:o+1026≤n) (hp:∀ j,t.pal j<256) (hc:∀ j,t.clear j<256) (hK:h.K≤6) (z0:s0<65536) (z1:s1<65536) (z2:s2<65536) (z3:s3<65536) :
  Calls Tryz.prog 125 #[.pointer (some ⟨b,o,none⟩),hdV h,four s0 s1 s2 s3] w fun e w'=>FourX w (colP t h s0 s1 s2 s3) e w':=by
 have HPk:Hid (∀ k,∃ m:Nat,pick4 (s0:Int) s1 s2 s3 k=(m:Int)∧m<65536):=pick4_nat z0 z1 z2 z3
 have E3:Hid (h.K=3→colP t h s0 s1 s2 s3=entP t s0):=colP_3
 have E0:Hid (h.K=0→colP t h s0 s1 s2 s3=_):=colP_0
 have E4:Hid (h.K=4→colP t h s0 s1 s2 s3=_):=colP_4
 have E2:Hid (h.K=2→colP t h s0 s1 s2 s3=_):=colP_2
 have E6:Hid (h.K≠3→h.K≠0→h.K≠4→h.K≠2→colP t h s0 s1 s2 s3=_):=colP_6
 generalize colP t h s0 s1 s2 s3=CP at *
 have HPp:Hid (∀ j,t.pal j<256):=hp
 clear z0 z1 z2 z3 hp
 obtain ⟨wa,hwa⟩:∃ wa,wa=w.alloc (Obj.cells #[.int .i64 (h.W:Int),.int .i64 (h.H:Int),.int .i64 (h.D:Int),.int .i64 (h.K:Int),.int .i64 (h.L:Int)] 71):=⟨_,rfl⟩
 obtain ⟨wb,hwb⟩:∃ wb,wb=wa.alloc (Obj.cells #[.int .i64 (s0:Int),.int .i64 (s1:Int),.int .i64 (s2:Int),.int .i64 (s3:Int)] 138):=⟨_,rfl⟩
 obtain ⟨wc,hwc⟩:∃ wc,wc=wb.alloc (Obj.cells #[.int .i64 0,.int .i64 0,.int .i64 0,.int .i64 0] 138):=⟨_,rfl⟩
 have hsa:wa.heap.size=w.heap.size+1:=by rw[hwa];simp
 have hsb:wb.heap.size=w.heap.size+2:=by rw[hwb];simp [hsa]
 have Ka:Kept w wa:=by rw[hwa];exact Below.alloc (Below.refl _ _) (Nat.le_refl _) _
 have Kb:Kept wa wb:=by rw[hwb];exact Below.alloc (Below.refl _ _) (Nat.le_refl _) _
 have Kc:Kept wb wc:=by rw[hwc];exact Below.alloc (Below.refl _ _) (Nat.le_refl _) _
 have hcell:∀ j v,(#[Value.int .i64 (h.W:Int),.int .i64 (h.H:Int),.int .i64 (h.D:Int),.int .i64 (h.K:Int),.int .i64 (h.L:Int)]:Array Value)[j]? = some v→wc.cell? ⟨w.heap.size,j,none⟩=some v:=fun j v hv=>by
  rw[Kc.cell (p:=⟨w.heap.size,j,none⟩) (by show w.heap.size<wb.heap.size;omega),Kb.cell (p:=⟨w.heap.size,j,none⟩) (by show w.heap.size<wa.heap.size;omega),hwa]
  exact (World.cell?_alloc_at _ _ _ _ rfl).trans hv
 have S4:FourAt wb (w.heap.size+1) (pick4 s0 s1 s2 s3):=by
  rw[hwb,← hsa]
  refine ⟨?_,?_,?_,?_⟩<;>exact (World.cell?_alloc_at _ _ _ _ rfl).trans rfl
 have R4:FourAt wc (w.heap.size+2) (fun _=>0):=by
  rw[hwc,← hsb]
  refine ⟨?_,?_,?_,?_⟩<;>exact (World.cell?_alloc_at _ _ _ _ rfl).trans rfl
 have CA:Hid (ClA w wc h s0 s1 s2 s3):=⟨(Ka.trans Kb).trans Kc,hcell 2 _ rfl,hcell 3 _ rfl,hcell 0 _ rfl,hcell 1 _ rfl,hcell 4 _ rfl,S4.kept Kc,⟨_,R4⟩,fun j=>by rw[hwc,← hsb];exact World.frozen?_alloc_at _ _ _ _ rfl⟩
 have HB:Hid (Blk wc b n c):=hB.kept CA.out.K
 have HV:Hid (TlV c o t):=hV
 have HC:Hid (∀ j,t.clear j<256):=hc
 have hbw:=hB.lt
 clear hB hV hc Ka Kb Kc hcell S4 R4
 unfold hdV four
 go_enter Tryz.func125,Tryz.ntmps125
 go_upto_region 1 with fail
 rw[← hwa,← hwb,← hwc]
 replace hwa:Hid _:=hwa
 replace hwb:Hid _:=hwb
 replace hwc:Hid _:=hwc
 have kk:=CA.out.Kd
 by_cases h3:h.K=3
 ·have q0:wc.cell? ⟨w.heap.size+1,0,none⟩=some (.int .i64 (s0:Int)):=CA.out.S.1
  have FE:Hid (Calls Tryz.prog 147 #[.pointer (some ⟨b,o,none⟩),.int .i64 (s0:Int)] wc fun e w'=>FourX wc (entP t s0) e w'):=entry_x b o n s0 c t wc HB.out HV.out hn HPp.out HC.out
  have h3':((h.K:Int) == 3)=true:=by rw[beq_iff_eq];omega
  replace h3:Hid _:=h3
  replace E3:Hid _:=E3.out h3.out
  generalize entP t s0=EN at *
  go_wp2_with fail
  refine FE.out.mono ?_
  rintro e w2 ⟨rfl,hk2⟩
  have CA2:Hid (ClA w w2 h s0 s1 s2 s3):=CA.out.kept hk2
  obtain ⟨f,hf⟩:=CA2.out.R
  obtain ⟨t0,t1,t2,t3⟩:=hf
  have zr:=CA2.out.Z
  unfold four
  go_wp2_with fail
  exact bodyPost_ret (results_cell1 rfl _ _ _ _ _ rfl (load4 (CA2.out.done _ _ _ _).1)) rfl ⟨by rw[E3.out];rfl,(CA2.out.done _ _ _ _).2⟩
 ·have h3':((h.K:Int) == 3)=false:=by rw[beq_eq_false_iff_ne];omega
  have CA4:Hid (ClA w (wc.alloc (Obj.cells #[.int .i64 0,.int .i64 0,.int .i64 0,.int .i64 0] 138)) h s0 s1 s2 s3):=CA.out.kept (Below.alloc (Below.refl _ _) (Nat.le_refl _) _)
  have W4:Hid (FourAt (wc.alloc (Obj.cells #[.int .i64 0,.int .i64 0,.int .i64 0,.int .i64 0] 138)) wc.heap.size (fun _=>0)):=by
   refine ⟨?_,?_,?_,?_⟩<;>exact (World.cell?_alloc_at _ _ _ _ rfl).trans rfl
  have Z4:Hid (∀ j,(wc.alloc (Obj.cells #[.int .i64 0,.int .i64 0,.int .i64 0,.int .i64 0] 138)).frozen? ⟨wc.heap.size,j,none⟩=false):=fun j=>World.frozen?_alloc_at _ _ _ _ rfl
  have HB4:Hid (Blk (wc.alloc (Obj.cells #[.int .i64 0,.int .i64 0,.int .i64 0,.int .i64 0] 138)) b n c):=HB.out.kept (Below.alloc (Below.refl _ _) (Nat.le_refl _) _)
  have hg3:w.heap.size+2<wc.heap.size:=by
   obtain ⟨f,hf⟩:=CA.out.R
   exact World.block_lt_of_cell? wc ⟨w.heap.size+2,0,none⟩ hf.1
  go_wp2_with fail
  generalize wc.alloc (Obj.cells #[.int .i64 0,.int .i64 0,.int .i64 0,.int .i64 0] 138)=w4 at *
  generalize wc.heap.size=g at *
  clear kk CA HB
  go_loopg [8] 4 (fun m v W=>∃ k:Nat,m=4 - k∧k≤4∧v = .int .i64 (k:Int)∧Fr1 g w4 W∧(∀ j,W.frozen? ⟨g,j,none⟩=false)∧FourAt W g (fun j=>if j<k then pick4 (s0:Int) s1 s2 s3 j*(sclN h.D:Int) else 0))
  case atStart=>exact ⟨0,by omega,by omega,rfl,Fr.refl _ _,Z4.out,W4.out⟩
  case round=>
   obtain ⟨k,hgk,hk4,rfl,hfr,hfz,hfo⟩:=hrel
   replace hgk:Hid _:=hgk
   have HF:Hid (Fr1 g w4 wr):=hfr
   have HFz:Hid (∀ j,wr.frozen? ⟨g,j,none⟩=false):=hfz
   have HFo:Hid (FourAt wr g (fun j=>if j<k then pick4 (s0:Int) s1 s2 s3 j*(sclN h.D:Int) else 0)):=hfo
   have CR:Hid (ClA w wr h s0 s1 s2 s3):=CA4.out.fr hfr hg3
   have BR:Hid (Blk wr b n c):=HB4.out.fr hfr (by omega)
   clear hfr hfz hfo
   by_cases hlt:k<4
   ·have hlt':(k:Int)<4:=by omega
    have k0:(0:Int)≤(k:Int):=by omega
    have kg:=HFo.out.get k hlt
    obtain ⟨OV,kg⟩:∃ OV,wr.cell? ⟨g,k,none⟩=some OV:=⟨_,kg⟩
    have zg:=HFz.out k
    have ks:=CR.out.S.get k hlt
    have kD:=CR.out.D
    obtain ⟨SK,hSK,hSKb⟩:=HPk.out k
    rw[hSK] at ks
    replace hSK:Hid _:=hSK
    obtain ⟨SC,hSC⟩:∃ SC,SC=sclN h.D:=⟨_,rfl⟩
    have hSCb:SC≤65535:=by rw[hSC];exact sclN_le _
    obtain ⟨PR,hPR⟩:∃ PR,PR=SK*SC:=⟨_,rfl⟩
    have ePR:(SK:Int)*(SC:Int)=(PR:Int):=by rw[hPR];exact (Int.natCast_mul _ _).symm
    have hPRb:PR≤65535*65535:=by rw[hPR];exact Nat.mul_le_mul (by omega) hSCb
    have FSc:Hid (∀ W,Calls Tryz.prog 148 #[.int .i64 (h.D:Int)] W fun e w'=>e = .returned (.int .i64 (SC:Int))∧w'=W):=fun W=>by rw[hSC];exact scale_x h.D W
    have hg1:w.heap.size+1≠g:=by omega
    replace hSC:Hid _:=hSC
    replace hPR:Hid _:=hPR
    have hg0:w.heap.size≠g:=by omega
    go_wp2_with fail
    go_region_held3 (fun W=>W.cell? ⟨w.heap.size+1,k,none⟩=some (.int .i64 (SK:Int))∧W.cell? ⟨w.heap.size,2,none⟩=some (.int .i64 (h.D:Int))) (first | exact ⟨ks,kD⟩ | exact ⟨(cell_set_blk _ _ _ _ hg1).trans ks,(cell_set_blk _ _ _ _ hg0).trans kD⟩ | go_keep) ((go_at_call 148;refine (FSc.out _).mono ?_;rintro e w5 ⟨rfl,rfl⟩))
    go_wp2_with fail
    go_roundg (4 - (k+1))
    case measure=>rw[hgk.out];omega
    case rel=>
     refine ⟨k+1,rfl,by omega,by go_num,Fr1.drewN (Fr1.set HF.out _ _) 1,fun j=>by show (wr.setCell _ _).frozen? _=false;rw[World.frozen?_setCell];exact HFz.out j,HFo.out.setDrew k _ ?_ ?_⟩
     ·show (if k<k+1 then pick4 (s0:Int) s1 s2 s3 k*(sclN h.D:Int) else 0)=_
      rw[if_pos (by omega),hSK.out,← hSC.out,ePR]
     ·intro j hj _
      show (if j<k+1 then pick4 (s0:Int) s1 s2 s3 j*(sclN h.D:Int) else 0)=if j<k then pick4 (s0:Int) s1 s2 s3 j*(sclN h.D:Int) else 0
      by_cases q:j<k
      ·rw[if_pos q,if_pos (by omega)]
      ·rw[if_neg q,if_neg (by omega)]
   ·have hlt':¬ (k:Int)<4:=by omega
    have kk:=CR.out.Kd
    have FA:Hid (∀ W,Kept wr W→Calls Tryz.prog 149 #[.pointer (some ⟨b,o,none⟩),.agg #[.int .i64 (h.W:Int),.int .i64 (h.H:Int),.int .i64 (h.D:Int),.int .i64 (h.K:Int),.int .i64 (h.L:Int)],.agg #[.int .i64 (s0:Int),.int .i64 (s1:Int),.int .i64 (s2:Int),.int .i64 (s3:Int)]] W fun e w'=>e = .returned (.int .i64 (alP t (chn h.K) (pick4 s0 s1 s2 s3)))∧Kept W w'):=fun W kW=>alpha_x b o n c t h s0 s1 s2 s3 W (BR.out.kept kW) HV.out hn HC.out hK
    have hk:k=4:=by omega
    subst hk
    obtain ⟨f,v0,v1,v2,v3,hfo4⟩:∃ f:Nat→Int,f 0=((s0*sclN h.D:Nat):Int)∧f 1=((s1*sclN h.D:Nat):Int)∧f 2=((s2*sclN h.D:Nat):Int)∧f 3=((s3*sclN h.D:Nat):Int)∧FourAt wr g f:=⟨_,(Int.natCast_mul _ _).symm,(Int.natCast_mul _ _).symm,(Int.natCast_mul _ _).symm,(Int.natCast_mul _ _).symm,HFo.out⟩
    replace v0:Hid _:=v0
    replace v1:Hid _:=v1
    replace v2:Hid _:=v2
    replace v3:Hid _:=v3
    clear HFo
    obtain ⟨f0,f1,f2,f3⟩:=hfo4
    obtain ⟨q0,q1,q2,q3⟩:=CR.out.S
    replace q0:wr.cell? ⟨w.heap.size+1,0,none⟩=some (.int .i64 (s0:Int)):=q0
    replace q1:wr.cell? ⟨w.heap.size+1,1,none⟩=some (.int .i64 (s1:Int)):=q1
    replace q2:wr.cell? ⟨w.heap.size+1,2,none⟩=some (.int .i64 (s2:Int)):=q2
    replace q3:wr.cell? ⟨w.heap.size+1,3,none⟩=some (.int .i64 (s3:Int)):=q3
    have p0:=CR.out.cW
    have p1:=CR.out.cH
    have p2:=CR.out.D
    have p4:=CR.out.cL
    have hgr:g<wr.heap.size:=World.block_lt_of_cell? wr ⟨g,0,none⟩ f0
    have hsr:w.heap.size<wr.heap.size:=World.block_lt_of_cell? wr ⟨w.heap.size,0,none⟩ p0
    have hsr1:w.heap.size+1<wr.heap.size:=World.block_lt_of_cell? wr ⟨w.heap.size+1,0,none⟩ q0
    have HS:Hid (∀ W,Kept wr W→(W.cell? ⟨g,0,none⟩=some (.int .i64 (f 0))∧W.cell? ⟨g,1,none⟩=some (.int .i64 (f 1))∧W.cell? ⟨g,2,none⟩=some (.int .i64 (f 2))∧W.cell? ⟨w.heap.size,0,none⟩=some (.int .i64 (h.W:Int))∧W.cell? ⟨w.heap.size,1,none⟩=some (.int .i64 (h.H:Int))∧W.cell? ⟨w.heap.size,2,none⟩=some (.int .i64 (h.D:Int))∧W.cell? ⟨w.heap.size,3,none⟩=some (.int .i64 (h.K:Int))∧W.cell? ⟨w.heap.size,4,none⟩=some (.int .i64 (h.L:Int))∧W.cell? ⟨w.heap.size+1,0,none⟩=some (.int .i64 (s0:Int))∧W.cell? ⟨w.heap.size+1,1,none⟩=some (.int .i64 (s1:Int))∧W.cell? ⟨w.heap.size+1,2,none⟩=some (.int .i64 (s2:Int))∧W.cell? ⟨w.heap.size+1,3,none⟩=some (.int .i64 (s3:Int)))):=fun W k=>⟨(k.cell (p:=⟨g,0,none⟩) hgr).trans f0,(k.cell (p:=⟨g,1,none⟩) hgr).trans f1,(k.cell (p:=⟨g,2,none⟩) hgr).trans f2,(k.cell (p:=⟨w.heap.size,0,none⟩) hsr).trans p0,(k.cell (p:=⟨w.heap.size,1,none⟩) hsr).trans p1,(k.cell (p:=⟨w.heap.size,2,none⟩) hsr).trans p2,(k.cell (p:=⟨w.heap.size,3,none⟩) hsr).trans kk,(k.cell (p:=⟨w.heap.size,4,none⟩) hsr).trans p4,(k.cell (p:=⟨w.heap.size+1,0,none⟩) hsr1).trans q0,(k.cell (p:=⟨w.heap.size+1,1,none⟩) hsr1).trans q1,(k.cell (p:=⟨w.heap.size+1,2,none⟩) hsr1).trans q2,(k.cell (p:=⟨w.heap.size+1,3,none⟩) hsr1).trans q3⟩
    have n1:g≠w.heap.size+2:=by omega
    have n2:w.heap.size≠w.heap.size+2:=by omega
    have n3:w.heap.size+1≠w.heap.size+2:=by omega
    have HS5:Hid (∀ (V:World) (x0 x1 x2 x3:Value) (W:World),Kept wr V→W=((((V.setCell ⟨w.heap.size+2,0,none⟩ x0).setCell ⟨w.heap.size+2,1,none⟩ x1).setCell ⟨w.heap.size+2,2,none⟩ x2).setCell ⟨w.heap.size+2,3,none⟩ x3)→(W.cell? ⟨g,0,none⟩=some (.int .i64 (f 0))∧W.cell? ⟨g,1,none⟩=some (.int .i64 (f 1))∧W.cell? ⟨g,2,none⟩=some (.int .i64 (f 2))∧W.cell? ⟨w.heap.size,0,none⟩=some (.int .i64 (h.W:Int))∧W.cell? ⟨w.heap.size,1,none⟩=some (.int .i64 (h.H:Int))∧W.cell? ⟨w.heap.size,2,none⟩=some (.int .i64 (h.D:Int))∧W.cell? ⟨w.heap.size,3,none⟩=some (.int .i64 (h.K:Int))∧W.cell? ⟨w.heap.size,4,none⟩=some (.int .i64 (h.L:Int))∧W.cell? ⟨w.heap.size+1,0,none⟩=some (.int .i64 (s0:Int))∧W.cell? ⟨w.heap.size+1,1,none⟩=some (.int .i64 (s1:Int))∧W.cell? ⟨w.heap.size+1,2,none⟩=some (.int .i64 (s2:Int))∧W.cell? ⟨w.heap.size+1,3,none⟩=some (.int .i64 (s3:Int)))):=fun V x0 x1 x2 x3 W k hW=>by
     obtain ⟨a0,a1,a2,a3,a4,a5,a6,a7,a8,a9,a10,a11⟩:=HS.out V k
     subst hW
     exact ⟨(four_other _ n1 _ _ _ _ _).trans a0,(four_other _ n1 _ _ _ _ _).trans a1,(four_other _ n1 _ _ _ _ _).trans a2,(four_other _ n2 _ _ _ _ _).trans a3,(four_other _ n2 _ _ _ _ _).trans a4,(four_other _ n2 _ _ _ _ _).trans a5,(four_other _ n2 _ _ _ _ _).trans a6,(four_other _ n2 _ _ _ _ _).trans a7,(four_other _ n3 _ _ _ _ _).trans a8,(four_other _ n3 _ _ _ _ _).trans a9,(four_other _ n3 _ _ _ _ _).trans a10,(four_other _ n3 _ _ _ _ _).trans a11⟩
    obtain ⟨fr,hfr'⟩:=CR.out.R
    obtain ⟨r0,r1,r2,r3⟩:=hfr'
    have zr:=CR.out.Z
    have hcs:h.K=0∨h.K=4∨h.K=2∨(h.K≠0∧h.K≠4∧h.K≠2):=by omega
    clear h3'
    replace h3:Hid _:=h3
    generalize alP t (chn h.K) (pick4 s0 s1 s2 s3)=AL at *
    rcases hcs with hk0 | hk0 | hk0 | ⟨hk0,hk4,hk2⟩
    ·have hK0:Hid (h.K=0):=hk0
     rw[hk0] at kk HS HS5 FA
     clear hk0
     go_wp2_with fail
     go_region_held3 (fun W=>W.cell? ⟨g,0,none⟩=some (.int .i64 (f 0))∧W.cell? ⟨g,1,none⟩=some (.int .i64 (f 1))∧W.cell? ⟨g,2,none⟩=some (.int .i64 (f 2))∧W.cell? ⟨w.heap.size,0,none⟩=some (.int .i64 (h.W:Int))∧W.cell? ⟨w.heap.size,1,none⟩=some (.int .i64 (h.H:Int))∧W.cell? ⟨w.heap.size,2,none⟩=some (.int .i64 (h.D:Int))∧W.cell? ⟨w.heap.size,3,none⟩=some (.int .i64 0)∧W.cell? ⟨w.heap.size,4,none⟩=some (.int .i64 (h.L:Int))∧W.cell? ⟨w.heap.size+1,0,none⟩=some (.int .i64 (s0:Int))∧W.cell? ⟨w.heap.size+1,1,none⟩=some (.int .i64 (s1:Int))∧W.cell? ⟨w.heap.size+1,2,none⟩=some (.int .i64 (s2:Int))∧W.cell? ⟨w.heap.size+1,3,none⟩=some (.int .i64 (s3:Int))) (first | exact HS.out _ ((Kept.refl _).drewN 1) | exact HS5.out _ _ _ _ _ _ hk6 rfl | exact HS.out _ hk6 | go_keep) ((go_at_call 149;refine (FA.out _ ((Kept.refl _).drewN 1)).mono ?_;rintro e w6 ⟨rfl,hk6'⟩;have hk6:Kept wr w6:=((Kept.refl _).drewN 1).trans hk6';have CR6:Hid (ClA w w6 h s0 s1 s2 s3):=CR.out.kept hk6;have r06:=(hk6.cell (p:=⟨w.heap.size+2,0,none⟩) (World.block_lt_of_cell? _ _ r0)).trans r0;have r16:=(hk6.cell (p:=⟨w.heap.size+2,1,none⟩) (World.block_lt_of_cell? _ _ r1)).trans r1;have r26:=(hk6.cell (p:=⟨w.heap.size+2,2,none⟩) (World.block_lt_of_cell? _ _ r2)).trans r2;have r36:=(hk6.cell (p:=⟨w.heap.size+2,3,none⟩) (World.block_lt_of_cell? _ _ r3)).trans r3;have zr6:=CR6.out.Z))
     go_wp2_with fail
     exact bodyPost_ret (results_cell1 rfl _ _ _ _ _ rfl (load4 (CR6.out.done _ _ _ _).1)) rfl ⟨by rw[E0.out hK0.out];exact four_pk v0.out v0.out v0.out rfl,(CR6.out.done _ _ _ _).2⟩
    ·have hK4:Hid (h.K=4):=hk0
     rw[hk0] at kk
     clear hk0 HS HS5 FA
     go_wp2_with fail
     exact bodyPost_ret (results_cell1 rfl _ _ _ _ _ rfl (load4 (CR.out.done _ _ _ _).1)) rfl ⟨by rw[E4.out hK4.out];exact four_pk v0.out v0.out v0.out v1.out,(CR.out.done _ _ _ _).2⟩
    ·have hK0:Hid (h.K=2):=hk0
     rw[hk0] at kk HS HS5 FA
     clear hk0
     go_wp2_with fail
     go_region_held3 (fun W=>W.cell? ⟨g,0,none⟩=some (.int .i64 (f 0))∧W.cell? ⟨g,1,none⟩=some (.int .i64 (f 1))∧W.cell? ⟨g,2,none⟩=some (.int .i64 (f 2))∧W.cell? ⟨w.heap.size,0,none⟩=some (.int .i64 (h.W:Int))∧W.cell? ⟨w.heap.size,1,none⟩=some (.int .i64 (h.H:Int))∧W.cell? ⟨w.heap.size,2,none⟩=some (.int .i64 (h.D:Int))∧W.cell? ⟨w.heap.size,3,none⟩=some (.int .i64 2)∧W.cell? ⟨w.heap.size,4,none⟩=some (.int .i64 (h.L:Int))∧W.cell? ⟨w.heap.size+1,0,none⟩=some (.int .i64 (s0:Int))∧W.cell? ⟨w.heap.size+1,1,none⟩=some (.int .i64 (s1:Int))∧W.cell? ⟨w.heap.size+1,2,none⟩=some (.int .i64 (s2:Int))∧W.cell? ⟨w.heap.size+1,3,none⟩=some (.int .i64 (s3:Int))) (first | exact HS.out _ ((Kept.refl _).drewN 1) | exact HS5.out _ _ _ _ _ _ hk6 rfl | exact HS.out _ hk6 | go_keep) ((go_at_call 149;refine (FA.out _ ((Kept.refl _).drewN 1)).mono ?_;rintro e w6 ⟨rfl,hk6'⟩;have hk6:Kept wr w6:=((Kept.refl _).drewN 1).trans hk6';have CR6:Hid (ClA w w6 h s0 s1 s2 s3):=CR.out.kept hk6;have r06:=(hk6.cell (p:=⟨w.heap.size+2,0,none⟩) (World.block_lt_of_cell? _ _ r0)).trans r0;have r16:=(hk6.cell (p:=⟨w.heap.size+2,1,none⟩) (World.block_lt_of_cell? _ _ r1)).trans r1;have r26:=(hk6.cell (p:=⟨w.heap.size+2,2,none⟩) (World.block_lt_of_cell? _ _ r2)).trans r2;have r36:=(hk6.cell (p:=⟨w.heap.size+2,3,none⟩) (World.block_lt_of_cell? _ _ r3)).trans r3;have zr6:=CR6.out.Z))
     go_wp2_with fail
     exact bodyPost_ret (results_cell1 rfl _ _ _ _ _ rfl (load4 (CR6.out.done _ _ _ _).1)) rfl ⟨by rw[E2.out hK0.out];exact four_pk v0.out v1.out v2.out rfl,(CR6.out.done _ _ _ _).2⟩
    ·have g0:((h.K:Int) == 0)=false:=by rw[beq_eq_false_iff_ne];omega
     have g2:((h.K:Int) == 4)=false:=by rw[beq_eq_false_iff_ne];omega
     have g3:((h.K:Int) == 2)=false:=by rw[beq_eq_false_iff_ne];omega
     have hk6n:Hid (h.K≠0∧h.K≠4∧h.K≠2):=⟨hk0,hk4,hk2⟩
     clear hk0 hk4 hk2 HS HS5 FA
     go_wp2_with fail
     exact bodyPost_ret (results_cell1 rfl _ _ _ _ _ rfl (load4 (CR.out.done _ _ _ _).1)) rfl ⟨by rw[E6.out h3.out hk6n.out.1 hk6n.out.2.1 hk6n.out.2.2];exact four_pk v0.out v1.out v2.out v3.out,(CR.out.done _ _ _ _).2⟩
theorem scl_wd {D v:Nat} (hD:D=1∨D=2∨D=4∨D=8∨D=16):v*sclN D=wdN D v:=by
 unfold wdN sclN
 rcases hD with rfl | rfl | rfl | rfl | rfl
 ·show v*65535=v*65535 / 1;omega
 ·show v*21845=v*65535 / 3;omega
 ·show v*4369=v*65535 / 15;omega
 ·show v*257=v*65535 / 255;omega
 ·show v*1=v*65535 / 65535;omega
def SmK (K:Nat) (pix:List Int) (k s0 s1 s2 s3:Nat):Prop:=∀ c,c<chan K→pick4 (s0:Int) s1 s2 s3 c=pix.getD (k*chan K+c) 0
theorem al_tab {wd H K D k s0 s1 s2 s3:Nat} {pal clr pix:List Int} {t:Tl} (ok:OkIm wd H K D pal clr pix) (ht:TabO K pal clr t) (hK:K=0∨K=2) (hk:k<wd*H) (hs:SmK K pix k s0 s1 s2 s3):alP t (chn K) (pick4 s0 s1 s2 s3)=if decide ((pix.drop (k*chan K)).take (chan K)=clr) then 0 else 65535:=by
 have hc:=chan_le (K:=K)
 have hcc:chn K=chan K:=chn_ch ok.lg
 have hin:k*chan K+chan K≤pix.length:=by
  rw[ok.pixL]
  have:(k+1)*chan K≤wd*H*chan K:=Nat.mul_le_mul_right _ hk
  rw[Nat.add_mul,Nat.one_mul] at this
  exact this
 have hl:((pix.drop (k*chan K)).take (chan K)).length=chan K:=by rw[List.length_take,List.length_drop];omega
 have hcl:=ht.clears
 rw[if_neg (by omega)] at hcl
 rcases ok.clr with h0 | ⟨_,l2,y2⟩ | ⟨k3,_⟩
 ·subst h0
  rw[alP_none (by rw[hcl];rfl),decide_eq_false (fun e=>by rw[e] at hl;simp at hl;omega)];rfl
 ·have hn0:¬ t.clears=0:=by omega
  have hg:∀ c,c<chan K→((pix.drop (k*chan K)).take (chan K)).getD c 0=pix.getD (k*chan K+c) 0:=fun c hc=>by
   rw[List.getD_eq_getElem?_getD,List.getElem?_take_of_lt hc,List.getElem?_drop,← List.getD_eq_getElem?_getD]
  have hq:∀ c,c<chan K→(t.smp c:Int)=clr.getD c 0:=fun c hc=>by
   rw[ht.clrN (by omega) c (by omega)]
   have:=y2 _ (getD_mem (show c<clr.length by omega))
   omega
  by_cases e:(pix.drop (k*chan K)).take (chan K)=clr
  ·rw[decide_eq_true e,alP_all hn0 (fun c hc=>by
    rw[hcc] at hc
    rw[hs c hc,hq c hc,← e,hg c hc])];rfl
  ·rw[decide_eq_false e]
   have hx:∃ c,c<chan K∧pick4 (s0:Int) s1 s2 s3 c≠(t.smp c:Int):=by
    apply Classical.byContradiction
    intro q
    apply e
    refine list_ext_getD (by rw[hl,l2]) (fun j hj => ?_)
    rw[hl] at hj
    apply Classical.byContradiction
    intro z
    refine q ⟨j,hj,fun y=>z ?_⟩
    rw[hg j hj,← hs j hj,y,hq j hj]
   obtain ⟨c,hc1,hc2⟩:=hx
   rw[alP_not hn0 c (by rw[hcc];exact hc1) hc2];rfl
 ·omega
theorem dcolour_x (x wd H K D L P V Z k s0 s1 s2 s3:Nat) (pp qp xp fp kp cp:Option Addr) (pc qc xc fc kc cc:Nat) (pal clr pix fl kl cl:List Int) (t:Tl) (w:World) (h:Dk w x wd H K D L P V Z pp qp xp fp kp cp pc qc xc fc kc cc pal clr pix fl kl cl) (ht:TabO K pal clr t) (hk:k<wd*H) (hs:SmK K pix k s0 s1 s2 s3) :
  Calls Tryz.prog 29 #[.pointer (some ⟨x,0,none⟩),.int .i64 (k:Int)] w fun e w'=>Four4 w (colP t ⟨wd,H,D,K,L⟩ s0 s1 s2 s3 0) (colP t ⟨wd,H,D,K,L⟩ s0 s1 s2 s3 1) (colP t ⟨wd,H,D,K,L⟩ s0 s1 s2 s3 2) (colP t ⟨wd,H,D,K,L⟩ s0 s1 s2 s3 3) e w':=by
 have ok:=h.im
 have hc:=chan_le (K:=K)
 have hD:=ok.lg.d
 have hwh:wd*H≤16*16:=Nat.mul_le_mul ok.w2 ok.h2
 have hin:k*chan K+chan K≤pix.length:=by
  rw[ok.pixL]
  have:(k+1)*chan K≤wd*H*chan K:=Nat.mul_le_mul_right _ hk
  rw[Nat.add_mul,Nat.one_mul] at this
  exact this
 have hkx:=h.kx
 obtain ⟨gx,ox,hxp,_⟩:=h.lx.cellAt (k*chan K) (by omega)
 have hcell:∀ c,c<chan K→w.cell? ⟨gx,ox+(k*chan K+c),none⟩=some (.int .i64 (pix.getD (k*chan K+c) 0)):=fun c hc=>by
  obtain ⟨g',o',e,q⟩:=h.lx.cellAt (k*chan K+c) (by omega)
  rw[hxp] at e
  injection e with e
  injection e with e1 e2
  subst e1;subst e2
  exact q
 have hlt:=pix_lt ok
 have hpw:=pow_le hD
 have hb:∀ c,c<chan K→0≤pix.getD (k*chan K+c) 0∧pix.getD (k*chan K+c) 0<65536:=fun c hc=>by
  have:=hlt _ (getD_mem (show k*chan K+c<pix.length by omega))
  omega
 have c6:=h.c6
 rw[hxp] at c6
 rcases legal_K ok.lg with rfl | rfl | rfl | rfl | rfl
 ·have ev:chan 0=1:=rfl
  rw[ev] at hin hcell hb
  have q0:=hs 0 (by decide)
  have f0:=hcell 0 (by omega)
  have z0:=hb 0 (by omega)
  rw[ev] at q0
  replace q0:(s0:Int)=pix.getD (k*1+0) 0:=q0
  rw[← q0] at f0 z0
  have FJ:∀ W,Kept w W→Calls Tryz.prog 27 #[.slice (some ⟨gx,ox+k*1,none⟩) 1 (xc - k*1),.slice qp clr.length qc] W fun e w'=>e = .returned (.bool (decide ((pix.drop (k*1)).take 1=clr)))∧Kept W w':=fun W kW=>by
   have l1:=h.lx
   rw[hxp] at l1
   have lp:=(l1.kept kW).part (k*1) 1 (xc - k*1) (by omega)
   have ll:((pix.drop (k*1)).take 1).length=1:=by rw[List.length_take,List.length_drop];omega
   refine sameInts_x _ _ 1 clr.length _ _ _ clr W ll.symm rfl (by rw[ll];exact lp) (h.lq.kept kW) (by omega) ?_
   rcases ok.clr with e | ⟨_,e,_⟩ | ⟨e,_⟩
   ·rw[e];exact Nat.zero_le _
   ·omega
   ·omega
  have:=dcol0_x x k D pix.length xc gx ox clr.length qc s0 qp _ w h.c2 h.c3 h.c5 c6 (by omega) (by omega) hD f0 (by omega) FJ
  rw[colP_0 rfl,al_tab ok ht (by omega) hk hs]
  refine this.mono (fun e w' q=>q.of ?_ ?_ ?_ rfl)<;>(show ((wdN D s0:Nat):Int)=((s0*sclN D:Nat):Int))<;>rw[scl_wd hD]
 ·have ev:chan 2=3:=rfl
  rw[ev] at hin hcell hb
  have q0:=hs 0 (by decide)
  have q1:=hs 1 (by decide)
  have q2:=hs 2 (by decide)
  have f0:=hcell 0 (by omega)
  have f1:=hcell 1 (by omega)
  have f2:=hcell 2 (by omega)
  have z0:=hb 0 (by omega)
  have z1:=hb 1 (by omega)
  have z2:=hb 2 (by omega)
  rw[ev] at q0 q1 q2
  replace q0:(s0:Int)=pix.getD (k*3+0) 0:=q0
  replace q1:(s1:Int)=pix.getD (k*3+1) 0:=q1
  replace q2:(s2:Int)=pix.getD (k*3+2) 0:=q2
  rw[← q0] at f0 z0
  rw[← q1] at f1 z1
  rw[← q2] at f2 z2
  have FJ:∀ W,Kept w W→Calls Tryz.prog 27 #[.slice (some ⟨gx,ox+k*3,none⟩) 3 (xc - k*3),.slice qp clr.length qc] W fun e w'=>e = .returned (.bool (decide ((pix.drop (k*3)).take 3=clr)))∧Kept W w':=fun W kW=>by
   have l1:=h.lx
   rw[hxp] at l1
   have lp:=(l1.kept kW).part (k*3) 3 (xc - k*3) (by omega)
   have ll:((pix.drop (k*3)).take 3).length=3:=by rw[List.length_take,List.length_drop];omega
   refine sameInts_x _ _ 3 clr.length _ _ _ clr W ll.symm rfl (by rw[ll];exact lp) (h.lq.kept kW) (by omega) ?_
   rcases ok.clr with e | ⟨_,e,_⟩ | ⟨e,_⟩
   ·rw[e];exact Nat.zero_le _
   ·omega
   ·omega
  have:=dcol2_x x k D pix.length xc gx ox clr.length qc s0 s1 s2 qp _ w h.c2 h.c3 h.c5 c6 (by omega) (by omega) hD f0 (by omega) f1 (by omega) f2 (by omega) FJ
  rw[colP_2 rfl,al_tab ok ht (by omega) hk hs]
  refine this.mono (fun e w' q=>q.of ?_ ?_ ?_ rfl)
  ·show ((wdN D s0:Nat):Int)=((s0*sclN D:Nat):Int);rw[scl_wd hD]
  ·show ((wdN D s1:Nat):Int)=((s1*sclN D:Nat):Int);rw[scl_wd hD]
  ·show ((wdN D s2:Nat):Int)=((s2*sclN D:Nat):Int);rw[scl_wd hD]
 ·have ev:chan 3=1:=rfl
  rw[ev] at hin hcell hb
  have q0:=hs 0 (by decide)
  have f0:=hcell 0 (by omega)
  rw[ev] at q0
  replace q0:(s0:Int)=pix.getD (k*1+0) 0:=q0
  rw[← q0,Nat.mul_one,Nat.add_zero] at f0
  obtain ⟨m,a1,a2,a3⟩:=ok.pal3 rfl
  have hd8:D=1∨D=2∨D=4∨D=8:=by have:=ok.lg;unfold legal at this;omega
  have hm8:=pow8_le hd8
  have hv:s0<m:=by
   have:=ok.pixB _ (getD_mem (show k*1+0<pix.length by omega))
   rw[if_pos rfl,← q0] at this
   omega
  obtain ⟨gp,op,hpp,_⟩:=h.lp.cellAt 0 (by omega)
  have pcell:∀ c,c<pal.length→w.cell? ⟨gp,op+c,none⟩=some (.int .i64 ((t.pal c:Nat):Int)):=fun c hc=>by
   obtain ⟨g',o',e,q⟩:=h.lp.cellAt c hc
   rw[hpp] at e
   injection e with e
   injection e with e1 e2
   subst e1;subst e2
   have:=ok.palB _ (getD_mem hc)
   rw[q,ht.pal c hc]
   congr 2;omega
  have hpl:∀ c,c<pal.length→t.pal c<256:=fun c hc=>by
   have:=ok.palB _ (getD_mem hc)
   rw[ht.pal c hc];omega
  have c4:=h.c4
  rw[hpp] at c4
  have hkp:=h.kp
  obtain ⟨A,hA,hA2⟩:∃ A:Nat,A<256∧(s0<clr.length→t.clear s0=A∧clr.getD s0 0=(A:Int)):=by
   by_cases q:s0<clr.length
   ·rcases ok.clr with e | ⟨e,_⟩ | ⟨_,_,_,y2⟩
    ·rw[e] at q;simp at q
    ·omega
    ·have:=y2 _ (getD_mem q)
     exact ⟨(clr.getD s0 0).toNat,by omega,fun _=>⟨ht.clr3 rfl s0 q,by omega⟩⟩
   ·exact ⟨0,by omega,fun z=>absurd z q⟩
  have hcl:=ht.clears
  rw[if_pos rfl] at hcl
  have:=dcol3_x x k D s0 clr.length pix.length pal.length xc pc qc gx ox gp op (t.pal (3*s0)) (t.pal (3*s0+1)) (t.pal (3*s0+2)) A qp w h.c2 c4 h.c5 c6 (by omega) (by omega) (by omega) (by omega) f0 (pcell _ (by omega)) (pcell (3*s0+1) (by omega)) (pcell (3*s0+2) (by omega)) (hpl _ (by omega)) (hpl _ (by omega)) (hpl _ (by omega)) hA (fun q=>by
   obtain ⟨g,o,e,z⟩:=h.lq.cellAt s0 q
   exact ⟨g,o,e,by rw[z,(hA2 q).2]⟩)
  have he:entP t s0=pick4 ((t.pal (3*s0)*257:Nat):Int) ((t.pal (3*s0+1)*257:Nat):Int) ((t.pal (3*s0+2)*257:Nat):Int) ((if s0<clr.length then A*257 else 65535:Nat):Int):=by
   unfold entP
   rw[if_pos (by omega),hcl]
   by_cases q:s0<clr.length
   ·rw[if_pos q,if_pos q,(hA2 q).1]
   ·rw[if_neg q,if_neg q]
  rw[colP_3 rfl,he]
  exact this
 ·have ev:chan 4=2:=rfl
  rw[ev] at hin hcell hb
  have q0:=hs 0 (by decide)
  have q1:=hs 1 (by decide)
  have f0:=hcell 0 (by omega)
  have f1:=hcell 1 (by omega)
  have z0:=hb 0 (by omega)
  have z1:=hb 1 (by omega)
  rw[ev] at q0 q1
  replace q0:(s0:Int)=pix.getD (k*2+0) 0:=q0
  replace q1:(s1:Int)=pix.getD (k*2+1) 0:=q1
  rw[← q0] at f0 z0
  rw[← q1] at f1 z1
  have:=dcol4_x x k D pix.length xc gx ox s0 s1 w h.c2 h.c3 c6 (by omega) (by omega) hD f0 (by omega) f1 (by omega)
  rw[colP_4 rfl]
  refine this.mono (fun e w' q=>q.of ?_ ?_ ?_ ?_)
  ·show ((wdN D s0:Nat):Int)=((s0*sclN D:Nat):Int);rw[scl_wd hD]
  ·show ((wdN D s0:Nat):Int)=((s0*sclN D:Nat):Int);rw[scl_wd hD]
  ·show ((wdN D s0:Nat):Int)=((s0*sclN D:Nat):Int);rw[scl_wd hD]
  ·show ((wdN D s1:Nat):Int)=((s1*sclN D:Nat):Int);rw[scl_wd hD]
 ·have ev:chan 6=4:=rfl
  rw[ev] at hin hcell hb
  have q0:=hs 0 (by decide)
  have q1:=hs 1 (by decide)
  have q2:=hs 2 (by decide)
  have q3:=hs 3 (by decide)
  have f0:=hcell 0 (by omega)
  have f1:=hcell 1 (by omega)
  have f2:=hcell 2 (by omega)
  have f3:=hcell 3 (by omega)
  have z0:=hb 0 (by omega)
  have z1:=hb 1 (by omega)
  have z2:=hb 2 (by omega)
  have z3:=hb 3 (by omega)
  rw[ev] at q0 q1 q2 q3
  replace q0:(s0:Int)=pix.getD (k*4+0) 0:=q0
  replace q1:(s1:Int)=pix.getD (k*4+1) 0:=q1
  replace q2:(s2:Int)=pix.getD (k*4+2) 0:=q2
  replace q3:(s3:Int)=pix.getD (k*4+3) 0:=q3
  rw[← q0] at f0 z0
  rw[← q1] at f1 z1
  rw[← q2] at f2 z2
  rw[← q3] at f3 z3
  have:=dcol6_x x k D pix.length xc gx ox s0 s1 s2 s3 w h.c2 h.c3 c6 (by omega) (by omega) hD f0 (by omega) f1 (by omega) f2 (by omega) f3 (by omega)
  rw[colP_6 (show (6:Nat)≠3 by decide) (show (6:Nat)≠0 by decide) (show (6:Nat)≠4 by decide) (show (6:Nat)≠2 by decide)]
  refine this.mono (fun e w' q=>q.of ?_ ?_ ?_ ?_)
  ·show ((wdN D s0:Nat):Int)=((s0*sclN D:Nat):Int);rw[scl_wd hD]
  ·show ((wdN D s1:Nat):Int)=((s1*sclN D:Nat):Int);rw[scl_wd hD]
  ·show ((wdN D s2:Nat):Int)=((s2*sclN D:Nat):Int);rw[scl_wd hD]
  ·show ((wdN D s3:Nat):Int)=((s3*sclN D:Nat):Int);rw[scl_wd hD]
theorem lat_of {w:World} {g o N c:Nat} {f:Nat→Int} (h:∀ j,j<N→w.cell? ⟨g,o+j,none⟩=some (.int .i64 (f j))):LAt w .i64 (.slice (some ⟨g,o,none⟩) ((List.range N).map f).length c) ((List.range N).map f):=by
 have hl:((List.range N).map f).length=N:=by rw[List.length_map,List.length_range]
 refine ⟨⟨_,_,rfl⟩,fun p c' e i hi => ?_⟩
 injection e with e1 _ _
 rw[hl] at hi
 refine ⟨g,o,e1.symm,?_⟩
 rw[h i hi,List.getD_eq_getElem?_getD,List.getElem?_map,List.getElem?_range hi];rfl
theorem Four4.lat {w w':World} {e:Ending} {f:Nat→Int} (h:Four4 w (f 0) (f 1) (f 2) (f 3) e w'):∃ g,e = .returned (.slice (some ⟨g,0,none⟩) 4 4)∧(∀ W,Kept w' W→LAt W .i64 (.slice (some ⟨g,0,none⟩) ((List.range 4).map f).length 4) ((List.range 4).map f))∧Kept w w':=by
 obtain ⟨g,e1,_,h0,h1,h2,h3,k⟩:=h
 refine ⟨g,e1,fun W kW=>LAt.kept (lat_of (fun j hj => ?_)) kW,k⟩
 match j,hj with
 | 0,_=>exact h0
 | 1,_=>exact h1
 | 2,_=>exact h2
 | 3,_=>exact h3
theorem dwhole_x (x wd H K D L P V Z A n n4 gk gp gs:Nat) (s5 s6 s7:Value) (pp qp xp fp kp cp:Option Addr) (pc qc xc fc kc cc:Nat) (pal clr pix fl kl cl:List Int) (t:Tl) (F:Nat→Nat→Int) (w:World) (h:Dk w x wd H K D L P V Z pp qp xp fp kp cp pc qc xc fc kc cc pal clr pix fl kl cl) (ht:TabO K pal clr t) (hn:n=wd*H) (hn4:n4=4*n)
  (hF:∀ k,k<n→∃ s0 s1 s2 s3,SmK K pix k s0 s1 s2 s3∧F k=colP t ⟨wd,H,D,K,L⟩ s0 s1 s2 s3)
  (hk:∀ j,j<n→w.cell? ⟨gk,j,none⟩=some (.int .i64 1)) (hp:∀ j,j<n4→w.cell? ⟨gp,j,none⟩=some (.int .i64 (F (j / 4) (j % 4)))) (hs:∀ j,j<n4→w.cell? ⟨gs,j,none⟩=some (.int .i64 (F (j / 4) (j % 4)))) :
  Calls Tryz.prog 25 #[.pointer (some ⟨x,0,none⟩),.agg #[.int .i64 0,.int .i64 (A:Int),.bool true,.int .i64 (wd:Int),.int .i64 (H:Int),s5,s6,s7,.slice (some ⟨gk,0,none⟩) n n,.slice (some ⟨gp,0,none⟩) n4 n4,.slice (some ⟨gs,0,none⟩) n4 n4]] w fun r w'=>r = .returned (.bool true)∧Kept w w':=by
 have hn6:n≤256:=by rw[hn];exact Nat.le_trans (Nat.mul_le_mul h.im.w2 h.im.h2) (by decide)
 have eM:(wd:Int)*(H:Int)=(n:Int):=by rw[hn];simp
 have e4:4*(n:Int)=(n4:Int):=by omega
 have w16:=h.im.w2
 have h16:=h.im.h2
 have hn4b:n4≤1024:=by omega
 have hk0:Kept w (w.alloc (Obj.cells #[.int .i64 0,.int .i64 (A:Int),.bool true,.int .i64 (wd:Int),.int .i64 (H:Int),s5,s6,s7,.slice (some ⟨gk,0,none⟩) n n,.slice (some ⟨gp,0,none⟩) n4 n4,.slice (some ⟨gs,0,none⟩) n4 n4] 50)):=Below.alloc (Below.refl _ _) (Nat.le_refl _) _
 have hcell:∀ j v,(#[.int .i64 0,.int .i64 (A:Int),.bool true,.int .i64 (wd:Int),.int .i64 (H:Int),s5,s6,s7,.slice (some ⟨gk,0,none⟩) n n,.slice (some ⟨gp,0,none⟩) n4 n4,.slice (some ⟨gs,0,none⟩) n4 n4]:Array Value)[j]? = some v→(w.alloc (Obj.cells #[.int .i64 0,.int .i64 (A:Int),.bool true,.int .i64 (wd:Int),.int .i64 (H:Int),s5,s6,s7,.slice (some ⟨gk,0,none⟩) n n,.slice (some ⟨gp,0,none⟩) n4 n4,.slice (some ⟨gs,0,none⟩) n4 n4] 50)).cell? ⟨w.heap.size,j,none⟩=some v:=fun j v hv=>(World.cell?_alloc_at _ _ _ _ rfl).trans hv
 have HA:Hid (∀ W,Kept (w.alloc (Obj.cells #[.int .i64 0,.int .i64 (A:Int),.bool true,.int .i64 (wd:Int),.int .i64 (H:Int),s5,s6,s7,.slice (some ⟨gk,0,none⟩) n n,.slice (some ⟨gp,0,none⟩) n4 n4,.slice (some ⟨gs,0,none⟩) n4 n4] 50)) W→(W.cell? ⟨x,0,none⟩=some (.int .i64 (wd:Int))∧W.cell? ⟨x,1,none⟩=some (.int .i64 (H:Int))∧W.cell? ⟨w.heap.size,0,none⟩=some (.int .i64 0)∧W.cell? ⟨w.heap.size,2,none⟩=some (.bool true)∧W.cell? ⟨w.heap.size,3,none⟩=some (.int .i64 (wd:Int))∧W.cell? ⟨w.heap.size,4,none⟩=some (.int .i64 (H:Int))∧W.cell? ⟨w.heap.size,8,none⟩=some (.slice (some ⟨gk,0,none⟩) n n)∧W.cell? ⟨w.heap.size,9,none⟩=some (.slice (some ⟨gp,0,none⟩) n4 n4)∧W.cell? ⟨w.heap.size,10,none⟩=some (.slice (some ⟨gs,0,none⟩) n4 n4))):=fun W k=>by
  have hs0:w.heap.size<(w.alloc (Obj.cells #[.int .i64 0,.int .i64 (A:Int),.bool true,.int .i64 (wd:Int),.int .i64 (H:Int),s5,s6,s7,.slice (some ⟨gk,0,none⟩) n n,.slice (some ⟨gp,0,none⟩) n4 n4,.slice (some ⟨gs,0,none⟩) n4 n4] 50)).heap.size:=by simp
  have kk:=hk0.trans k
  exact ⟨(kk.cell (p:=⟨x,0,none⟩) h.xs).trans h.c0,(kk.cell (p:=⟨x,1,none⟩) h.xs).trans h.c1,(k.cell (p:=⟨w.heap.size,0,none⟩) hs0).trans (hcell 0 _ rfl),(k.cell (p:=⟨w.heap.size,2,none⟩) hs0).trans (hcell 2 _ rfl),(k.cell (p:=⟨w.heap.size,3,none⟩) hs0).trans (hcell 3 _ rfl),(k.cell (p:=⟨w.heap.size,4,none⟩) hs0).trans (hcell 4 _ rfl),(k.cell (p:=⟨w.heap.size,8,none⟩) hs0).trans (hcell 8 _ rfl),(k.cell (p:=⟨w.heap.size,9,none⟩) hs0).trans (hcell 9 _ rfl),(k.cell (p:=⟨w.heap.size,10,none⟩) hs0).trans (hcell 10 _ rfl)⟩
 have HKn:Hid (∀ W,Kept w W→∀ j,j<n→W.cell? ⟨gk,j,none⟩=some (.int .i64 1)):=fun W k j hj=>(k.cell (p:=⟨gk,j,none⟩) (World.block_lt_of_cell? _ _ (hk j hj))).trans (hk j hj)
 have FC:Hid (∀ W k,Kept w W→k<n→Calls Tryz.prog 29 #[.pointer (some ⟨x,0,none⟩),.int .i64 (k:Int)] W fun e w'=>∃ g,e = .returned (.slice (some ⟨g,0,none⟩) 4 4)∧(∀ W',Kept w' W'→LAt W' .i64 (.slice (some ⟨g,0,none⟩) ((List.range 4).map (F k)).length 4) ((List.range 4).map (F k)))∧Kept W w'):=fun W k kW hkn=>by
  obtain ⟨s0,s1,s2,s3,q1,q2⟩:=hF k hkn
  rw[q2]
  exact (dcolour_x x wd H K D L P V Z k s0 s1 s2 s3 pp qp xp fp kp cp pc qc xc fc kc cc pal clr pix fl kl cl t W (h.kept kW) ht (by omega) q1).mono (fun e w' q=>q.lat)
 have FJ:Hid (∀ W k g,Kept w W→k<n→LAt W .i64 (.slice (some ⟨g,0,none⟩) ((List.range 4).map (F k)).length 4) ((List.range 4).map (F k))→Calls Tryz.prog 27 #[.slice (some ⟨gp,4*k,none⟩) 4 (n4 - 4*k),.slice (some ⟨g,0,none⟩) 4 4] W fun e w'=>e = .returned (.bool true)∧Kept W w'):=fun W k g kW hkn hl=>by
  have e1:((List.range 4).map (F k)).length=4:=rfl
  have hl1:LAt W .i64 (.slice (some ⟨gp,4*k,none⟩) ((List.range 4).map (F k)).length (n4 - 4*k)) ((List.range 4).map (F k)):=lat_of (fun j hj=>by
   have hj4:4*k+j<n4:=by omega
   rw[(kW.cell (p:=⟨gp,4*k+j,none⟩) (World.block_lt_of_cell? _ _ (hp _ hj4))).trans (hp _ hj4),show (4*k+j) / 4=k from by omega,show (4*k+j) % 4=j from by omega])
  have:=sameInts_x (some ⟨gp,4*k,none⟩) (some ⟨g,0,none⟩) 4 4 (n4 - 4*k) 4 _ _ W e1.symm e1.symm hl1 hl (by rw[e1];omega) (by rw[e1];omega)
  rw[decide_eq_true rfl] at this
  exact this
 have FE:Hid (∀ W,Kept w W→Calls Tryz.prog 27 #[.slice (some ⟨gp,0,none⟩) n4 n4,.slice (some ⟨gs,0,none⟩) n4 n4] W fun e w'=>e = .returned (.bool true)∧Kept W w'):=fun W kW=>by
  have e1:((List.range n4).map (fun j=>F (j / 4) (j % 4))).length=n4:=by rw[List.length_map,List.length_range]
  have l1:=lat_of (w:=W) (g:=gp) (o:=0) (N:=n4) (c:=n4) (f:=fun j=>F (j / 4) (j % 4)) (fun j hj=>by
   rw[Nat.zero_add];exact (kW.cell (p:=⟨gp,j,none⟩) (World.block_lt_of_cell? _ _ (hp _ hj))).trans (hp _ hj))
  have l2:=lat_of (w:=W) (g:=gs) (o:=0) (N:=n4) (c:=n4) (f:=fun j=>F (j / 4) (j % 4)) (fun j hj=>by
   rw[Nat.zero_add];exact (kW.cell (p:=⟨gs,j,none⟩) (World.block_lt_of_cell? _ _ (hs _ hj))).trans (hs _ hj))
  have:=sameInts_x (some ⟨gp,0,none⟩) (some ⟨gs,0,none⟩) n4 n4 n4 n4 _ _ W e1.symm e1.symm l1 l2 (by rw[e1];omega) (by rw[e1];omega)
  rw[decide_eq_true rfl] at this
  exact this
 replace hk0:Hid _:=hk0
 replace hn:Hid _:=hn
 replace hn4:Hid _:=hn4
 clear hk hp hs hcell h ht hF
 go_enter Tryz.func25,Tryz.ntmps25
 go_upto_region 1 with fail
 generalize (w.alloc (Obj.cells #[.int .i64 0,.int .i64 (A:Int),.bool true,.int .i64 (wd:Int),.int .i64 (H:Int),s5,s6,s7,.slice (some ⟨gk,0,none⟩) n n,.slice (some ⟨gp,0,none⟩) n4 n4,.slice (some ⟨gs,0,none⟩) n4 n4] 50))=w0 at *
 obtain ⟨p0,p1,a0,a2,a3,a4,a8,a9,a10⟩:=HA.out w0 (Kept.refl _)
 go_quiet (fail)
 have K1:Hid (Kept w0 (w0.drewN nq)):=(Kept.refl _).drewN _
 generalize w0.drewN nq=w1 at *
 obtain ⟨p0,p1,a0,a2,a3,a4,a8,a9,a10⟩:=HA.out w1 K1.out
 go_wp2_with fail
 go_quiet (fail)
 have K2:Hid (Kept w0 (w1.drewN nq)):=K1.out.drewN _
 generalize w1.drewN nq=w2 at *
 obtain ⟨p0,p1,a0,a2,a3,a4,a8,a9,a10⟩:=HA.out w2 K2.out
 go_wp2_with fail
 go_loopg [6,7,8] n (fun m v v7 v8 W=>∃ k:Nat,m=n - k∧k≤n∧v = .int .i64 (k:Int)∧Kept w0 W)
 case atStart=>exact ⟨0,by omega,by omega,rfl,K2.out⟩
 case round=>
  obtain ⟨k,hgk,hkn,rfl,hkw⟩:=hrel
  replace hgk:Hid _:=hgk
  have KR:Hid (Kept w0 wr):=hkw
  clear hkw
  by_cases hlt:k<n
  ·have hlt':(k:Int)<(n:Int):=by omega
   have k0:(0:Int)≤(k:Int):=by omega
   obtain ⟨T0,hT0⟩:∃ T,T=4*k:=⟨_,rfl⟩
   obtain ⟨T4,hT4⟩:∃ T,T=4*k+4:=⟨_,rfl⟩
   have t1:4*(k:Int)=(T0:Int):=by omega
   have t2:(T0:Int)+4=(T4:Int):=by omega
   have b1:T0≤T4:=by omega
   have b2:T4≤n4:=by omega
   have b3:T4 - T0=4:=by omega
   have FSk:Hid (∀ W g,Kept w W→LAt W .i64 (.slice (some ⟨g,0,none⟩) ((List.range 4).map (F k)).length 4) ((List.range 4).map (F k))→Calls Tryz.prog 27 #[.slice (some ⟨gp,T0,none⟩) 4 (n4 - T0),.slice (some ⟨g,0,none⟩) 4 4] W fun e w'=>e = .returned (.bool true)∧Kept W w'):=fun W g kW hl=>by rw[hT0];exact FJ.out W k g kW hlt hl
   clear hT0 hT4
   go_wp2_with fail
   refine (FC.out wr k (Kept.trans hk0.out KR.out) hlt).mono ?_
   rintro e w4 ⟨g,rfl,hl4,hk4⟩
   have K4:Hid (Kept w0 w4):=KR.out.trans hk4
   replace hl4:Hid _:=hl4
   clear hk4
   obtain ⟨p0,p1,a0,a2,a3,a4,a8,a9,a10⟩:=HA.out w4 K4.out
   go_wp2_with fail
   refine (FSk.out w4 g (Kept.trans hk0.out K4.out) (hl4.out _ (Kept.refl _))).mono ?_
   rintro e w5 ⟨rfl,hk5⟩
   have K5:Hid (Kept w0 w5):=K4.out.trans hk5
   clear hk5
   obtain ⟨p0,p1,a0,a2,a3,a4,a8,a9,a10⟩:=HA.out w5 K5.out
   have kk:=HKn.out w5 (Kept.trans hk0.out K5.out) k hlt
   go_wp2_with fail
   go_roundg (n - (k+1))
   case measure=>rw[hgk.out];omega
   case rel=>exact ⟨k+1,rfl,by omega,by go_num,K5.out⟩
  ·have hlt':¬ (k:Int)<(n:Int):=by omega
   obtain ⟨p0,p1,a0,a2,a3,a4,a8,a9,a10⟩:=HA.out wr KR.out
   go_wp2_with fail
   refine (FE.out wr (Kept.trans hk0.out KR.out)).mono ?_
   rintro e w5 ⟨rfl,hk5⟩
   have K5:Hid (Kept w0 w5):=KR.out.trans hk5
   clear hk5
   go_wp2_with fail
   go_ret
   exact ⟨rfl,Kept.trans hk0.out K5.out⟩
def pxP (r:Rw) (t:Tl) (h:Hd) (x y:Nat):Nat→Int:=if r.known (y*16+x) then colP t h (r.smp (4*(y*16+x))) (r.smp (4*(y*16+x)+1)) (r.smp (4*(y*16+x)+2)) (r.smp (4*(y*16+x)+3)) else fun _=>0
theorem pixel_x (b o1 o2 n x y:Nat) (c:Nat→Value) (r:Rw) (t:Tl) (h:Hd) (w:World) (hB:Blk w b n c) (hp:PicOk c o1 o2 n r t h) (hpal:∀ j,t.pal j<256) (hx:x<16) (hy:y<16) :
  Calls Tryz.prog 90 #[hdV h,.pointer (some ⟨b,o1,none⟩),.pointer (some ⟨b,o2,none⟩),.int .i64 (x:Int),.int .i64 (y:Int)] w fun e w'=>FourX w (pxP r t h x y) e w':=by
 have EF:Hid (r.known (y*16+x)=false→pxP r t h x y=fun _=>0):=fun q=>by unfold pxP;rw[q,if_neg (by decide)]
 have ET:Hid (r.known (y*16+x)=true→pxP r t h x y=colP t h (r.smp (4*(y*16+x))) (r.smp (4*(y*16+x)+1)) (r.smp (4*(y*16+x)+2)) (r.smp (4*(y*16+x)+3))):=fun q=>by unfold pxP;rw[if_pos q]
 generalize pxP r t h x y=PX at *
 have HPl:Hid (∀ j,t.pal j<256):=hpal
 clear hpal
 obtain ⟨wa,hwa⟩:∃ wa,wa=w.alloc (Obj.cells #[.int .i64 (h.W:Int),.int .i64 (h.H:Int),.int .i64 (h.D:Int),.int .i64 (h.K:Int),.int .i64 (h.L:Int)] 71):=⟨_,rfl⟩
 obtain ⟨wb,hwb⟩:∃ wb,wb=wa.alloc (Obj.cells #[.int .i64 0,.int .i64 0,.int .i64 0,.int .i64 0] 138):=⟨_,rfl⟩
 have hsa:wa.heap.size=w.heap.size+1:=by rw[hwa];simp
 have Ka:Kept w wa:=by rw[hwa];exact Below.alloc (Below.refl _ _) (Nat.le_refl _) _
 have Kb:Kept wa wb:=by rw[hwb];exact Below.alloc (Below.refl _ _) (Nat.le_refl _) _
 have K0:Hid (Kept w wb):=Ka.trans Kb
 have hcell:∀ j v,(#[Value.int .i64 (h.W:Int),.int .i64 (h.H:Int),.int .i64 (h.D:Int),.int .i64 (h.K:Int),.int .i64 (h.L:Int)]:Array Value)[j]? = some v→wb.cell? ⟨w.heap.size,j,none⟩=some v:=fun j v hv=>by
  rw[Kb.cell (p:=⟨w.heap.size,j,none⟩) (by show w.heap.size<wa.heap.size;omega),hwa]
  exact (World.cell?_alloc_at _ _ _ _ rfl).trans hv
 have R4:Hid (FourAt wb (w.heap.size+1) (fun _=>0)):=by
  rw[hwb,← hsa]
  refine ⟨?_,?_,?_,?_⟩<;>exact (World.cell?_alloc_at _ _ _ _ rfl).trans rfl
 have Z4:Hid (∀ j,wb.frozen? ⟨w.heap.size+1,j,none⟩=false):=fun j=>by rw[hwb,← hsa];exact World.frozen?_alloc_at _ _ _ _ rfl
 have HB:Hid (Blk wb b n c):=hB.kept K0.out
 have HP:Hid (PicOk c o1 o2 n r t h):=hp
 have p0:=hcell 0 _ rfl
 have p1:=hcell 1 _ rfl
 have p2:=hcell 2 _ rfl
 have p3:=hcell 3 _ rfl
 have p4:=hcell 4 _ rfl
 have FK:Hid (Calls Tryz.prog 88 #[.pointer (some ⟨b,o1,none⟩),.int .i64 (x:Int),.int .i64 (y:Int)] wb fun e w'=>e = .returned (.bool (r.known (y*16+x)))∧Kept wb w'):=(rknown_x b o1 n x y c r wb HB.out hp.V hp.n1 hx hy).mono (fun e w' ⟨q1,q,q2⟩=>⟨q1,by rw[q2];exact (Kept.refl _).drewN _⟩)
 have hbw:=hB.lt
 clear hB hp hcell Ka Kb
 unfold hdV
 go_enter Tryz.func90,Tryz.ntmps90
 go_upto_region 1 with fail
 rw[← hwa,← hwb]
 replace hwa:Hid _:=hwa
 replace hwb:Hid _:=hwb
 go_wp2_with fail
 refine FK.out.mono ?_
 rintro e w2 ⟨rfl,hk2⟩
 have K2:Hid (Kept wb w2):=hk2
 have B2:Hid (Blk w2 b n c):=HB.out.kept hk2
 have R2:Hid (FourAt w2 (w.heap.size+1) (fun _=>0)):=R4.out.kept hk2
 have hs0:w.heap.size<wb.heap.size:=World.block_lt_of_cell? wb ⟨w.heap.size,0,none⟩ p0
 have hs1:w.heap.size+1<wb.heap.size:=World.block_lt_of_cell? wb ⟨w.heap.size+1,0,none⟩ R4.out.1
 have zr:∀ j,w2.frozen? ⟨w.heap.size+1,j,none⟩=false:=fun j=>(hk2.frozen (p:=⟨w.heap.size+1,j,none⟩) hs1).trans (Z4.out j)
 have d0:=(hk2.cell (p:=⟨w.heap.size,0,none⟩) hs0).trans p0
 have d1:=(hk2.cell (p:=⟨w.heap.size,1,none⟩) hs0).trans p1
 have d2:=(hk2.cell (p:=⟨w.heap.size,2,none⟩) hs0).trans p2
 have d3:=(hk2.cell (p:=⟨w.heap.size,3,none⟩) hs0).trans p3
 have d4:=(hk2.cell (p:=⟨w.heap.size,4,none⟩) hs0).trans p4
 clear FK p0 p1 p2 p3 p4 hk2 HB
 obtain ⟨r0,r1,r2,r3⟩:=R2.out
 cases hkn:r.known (y*16+x) with
 | false=>
  replace hkn:Hid _:=hkn
  go_wp2_with fail
  exact bodyPost_ret (results_cell1 rfl _ _ _ _ _ rfl (load4 (R2.out.put 0 0 0 0))) rfl ⟨by rw[EF.out hkn.out];rfl,((((K0.out.trans K2.out).setCell (Nat.le_add_right _ _) _).setCell (Nat.le_add_right _ _) _).setCell (Nat.le_add_right _ _) _).setCell (Nat.le_add_right _ _) _⟩
 | true=>
  replace ET:Hid _:=ET.out hkn
  have FJ:Hid (∀ W,Kept w2 W→Calls Tryz.prog 126 #[.pointer (some ⟨b,o1,none⟩),.int .i64 (x:Int),.int .i64 (y:Int)] W fun e w'=>e = .returned (.agg #[.int .i64 (r.smp (4*(y*16+x)):Int),.int .i64 (r.smp (4*(y*16+x)+1):Int),.int .i64 (r.smp (4*(y*16+x)+2):Int),.int .i64 (r.smp (4*(y*16+x)+3):Int)])∧Kept W w'):=fun W k=>rsamples_x b o1 n x y c r W (B2.out.kept k) HP.out.V HP.out.n1 hx hy HP.out.sm
  have FC:Hid (∀ W,Kept w2 W→Calls Tryz.prog 125 #[.pointer (some ⟨b,o2,none⟩),.agg #[.int .i64 (h.W:Int),.int .i64 (h.H:Int),.int .i64 (h.D:Int),.int .i64 (h.K:Int),.int .i64 (h.L:Int)],.agg #[.int .i64 (r.smp (4*(y*16+x)):Int),.int .i64 (r.smp (4*(y*16+x)+1):Int),.int .i64 (r.smp (4*(y*16+x)+2):Int),.int .i64 (r.smp (4*(y*16+x)+3):Int)]] W fun e w'=>e = .returned (.agg #[.int .i64 (PX 0),.int .i64 (PX 1),.int .i64 (PX 2),.int .i64 (PX 3)])∧Kept W w'):=fun W k=>by
   rw[ET.out]
   exact colour_x b o2 n c t h _ _ _ _ W (B2.out.kept k) HP.out.T HP.out.n2 HPl.out HP.out.cl HP.out.K (HP.out.sm _) (HP.out.sm _) (HP.out.sm _) (HP.out.sm _)
  clear ET
  generalize r.smp (4*(y*16+x))=S0 at *
  generalize r.smp (4*(y*16+x)+1)=S1 at *
  generalize r.smp (4*(y*16+x)+2)=S2 at *
  generalize r.smp (4*(y*16+x)+3)=S3 at *
  have hs02:w.heap.size<w2.heap.size:=World.block_lt_of_cell? w2 ⟨w.heap.size,0,none⟩ d0
  have HS:Hid (∀ W,Kept w2 W→(W.cell? ⟨w.heap.size,0,none⟩=some (.int .i64 (h.W:Int))∧W.cell? ⟨w.heap.size,1,none⟩=some (.int .i64 (h.H:Int))∧W.cell? ⟨w.heap.size,2,none⟩=some (.int .i64 (h.D:Int))∧W.cell? ⟨w.heap.size,3,none⟩=some (.int .i64 (h.K:Int))∧W.cell? ⟨w.heap.size,4,none⟩=some (.int .i64 (h.L:Int)))):=fun W k=>⟨(k.cell (p:=⟨w.heap.size,0,none⟩) hs02).trans d0,(k.cell (p:=⟨w.heap.size,1,none⟩) hs02).trans d1,(k.cell (p:=⟨w.heap.size,2,none⟩) hs02).trans d2,(k.cell (p:=⟨w.heap.size,3,none⟩) hs02).trans d3,(k.cell (p:=⟨w.heap.size,4,none⟩) hs02).trans d4⟩
  have n2:w.heap.size≠w.heap.size+1:=by omega
  have HS5:Hid (∀ (V:World) (x0 x1 x2 x3:Value) (W:World),Kept w2 V→W=((((V.setCell ⟨w.heap.size+1,0,none⟩ x0).setCell ⟨w.heap.size+1,1,none⟩ x1).setCell ⟨w.heap.size+1,2,none⟩ x2).setCell ⟨w.heap.size+1,3,none⟩ x3)→(W.cell? ⟨w.heap.size,0,none⟩=some (.int .i64 (h.W:Int))∧W.cell? ⟨w.heap.size,1,none⟩=some (.int .i64 (h.H:Int))∧W.cell? ⟨w.heap.size,2,none⟩=some (.int .i64 (h.D:Int))∧W.cell? ⟨w.heap.size,3,none⟩=some (.int .i64 (h.K:Int))∧W.cell? ⟨w.heap.size,4,none⟩=some (.int .i64 (h.L:Int)))):=fun V x0 x1 x2 x3 W k hW=>by
   obtain ⟨a0,a1,a2,a3,a4⟩:=HS.out V k
   subst hW
   exact ⟨(four_other _ n2 _ _ _ _ _).trans a0,(four_other _ n2 _ _ _ _ _).trans a1,(four_other _ n2 _ _ _ _ _).trans a2,(four_other _ n2 _ _ _ _ _).trans a3,(four_other _ n2 _ _ _ _ _).trans a4⟩
  go_wp2_with fail
  go_region_held3 (fun W=>W.cell? ⟨w.heap.size,0,none⟩=some (.int .i64 (h.W:Int))∧W.cell? ⟨w.heap.size,1,none⟩=some (.int .i64 (h.H:Int))∧W.cell? ⟨w.heap.size,2,none⟩=some (.int .i64 (h.D:Int))∧W.cell? ⟨w.heap.size,3,none⟩=some (.int .i64 (h.K:Int))∧W.cell? ⟨w.heap.size,4,none⟩=some (.int .i64 (h.L:Int))) (first | exact HS.out _ ((Kept.refl _).drewN 1) | exact HS5.out _ _ _ _ _ _ hk6 rfl | exact HS.out _ hk6 | exact HS.out _ hk5 | go_keep) ((first | (go_at_call 126;refine (FJ.out _ ((Kept.refl _).drewN 1)).mono ?_;rintro e w5 ⟨rfl,hk5'⟩;have hk5:Kept w2 w5:=((Kept.refl _).drewN 1).trans hk5') | (go_at_call 125;refine (FC.out _ hk5).mono ?_;rintro e w6 ⟨rfl,hk6'⟩;have hk6:Kept w2 w6:=hk5.trans hk6';have R6:Hid (FourAt w6 (w.heap.size+1) (fun _=>0)):=R2.out.kept hk6;have r06:=R6.out.1;have r16:=R6.out.2.1;have r26:=R6.out.2.2.1;have r36:=R6.out.2.2.2;have zr6:∀ j,w6.frozen? ⟨w.heap.size+1,j,none⟩=false:=fun j=>(hk6.frozen (p:=⟨w.heap.size+1,j,none⟩) (Nat.lt_of_lt_of_le hs1 K2.out.size)).trans (zr j))))
  go_wp2_with fail
  exact bodyPost_ret (results_cell1 rfl _ _ _ _ _ rfl (load4 (R6.out.put _ _ _ _))) rfl ⟨rfl,((((K0.out.trans (K2.out.trans hk6)).setCell (Nat.le_add_right _ _) _).setCell (Nat.le_add_right _ _) _).setCell (Nat.le_add_right _ _) _).setCell (Nat.le_add_right _ _) _⟩
def NumsAt (W:World) (g N:Nat) (f:Nat→Int):Prop:=(∀ j,j<N→W.cell? ⟨g,j,none⟩=some (.int .i64 (f j)))∧∀ j,W.frozen? ⟨g,j,none⟩=false
theorem NumsAt.set {W:World} {g N:Nat} {f f':Nat→Int} (h:NumsAt W g N f) (k:Nat) (v:Int) (h1:f' k=v) (h2:∀ j,j≠k→j<N→f' j=f j):NumsAt (W.setCell ⟨g,k,none⟩ (.int .i64 v)) g N f':=by
 refine ⟨fun j hj => ?_,fun j=>by rw[World.frozen?_setCell];exact h.2 j⟩
 by_cases e:j=k
 ·subst e;rw[h1];exact cell_set_same (h.1 j hj) _
 ·rw[cell_set_other _ _ _ _ _ (fun q=>e q.symm),h2 j e hj];exact h.1 j hj
theorem NumsAt.kept {W W':World} {g N:Nat} {f:Nat→Int} (h:NumsAt W g N f) (k:Kept W W') (hg:g<W.heap.size):NumsAt W' g N f:=
 ⟨fun j hj=>(k.cell (p:=⟨g,j,none⟩) hg).trans (h.1 j hj),fun j=>(k.frozen (p:=⟨g,j,none⟩) hg).trans (h.2 j)⟩
theorem NumsAt.congr {W:World} {g N:Nat} {f f':Nat→Int} (h:NumsAt W g N f) (e:∀ j,j<N→f' j=f j):NumsAt W g N f':=⟨fun j hj=>by rw[e j hj];exact h.1 j hj,h.2⟩
theorem play_x (g N i:Nat) (a0 a1 a2 a3:Int) (f:Nat→Int) (w:World) (hI:NumsAt w g N f) (hg:g<w.heap.size) (hi:4*i+3<N) (hN:N≤100000) :
  Calls Tryz.prog 89 #[.slice (some ⟨g,0,none⟩) N N,.int .i64 (i:Int),.agg #[.int .i64 a0,.int .i64 a1,.int .i64 a2,.int .i64 a3]] w fun e w'=>e = .returned (.tuple #[])∧NumsAt w' g N (fun j=>if j / 4=i then pick4 a0 a1 a2 a3 (j % 4) else f j)∧Fr1 g w w':=by
 have K0:Hid (Kept w (w.alloc (Obj.cells #[.int .i64 a0,.int .i64 a1,.int .i64 a2,.int .i64 a3] 138))):=Below.alloc (Below.refl _ _) (Nat.le_refl _) _
 have I0:Hid (NumsAt (w.alloc (Obj.cells #[.int .i64 a0,.int .i64 a1,.int .i64 a2,.int .i64 a3] 138)) g N f):=hI.kept K0.out hg
 have A0:Hid (FourAt (w.alloc (Obj.cells #[.int .i64 a0,.int .i64 a1,.int .i64 a2,.int .i64 a3] 138)) w.heap.size (pick4 a0 a1 a2 a3)):=by
  refine ⟨?_,?_,?_,?_⟩<;>exact (World.cell?_alloc_at _ _ _ _ rfl).trans rfl
 clear hI
 go_enter Tryz.func89,Tryz.ntmps89
 go_wp2_with fail
 generalize w.alloc (Obj.cells #[.int .i64 a0,.int .i64 a1,.int .i64 a2,.int .i64 a3] 138)=w1 at *
 go_loopg [6] 4 (fun m v W=>∃ k:Nat,m=4 - k∧k≤4∧v = .int .i64 (k:Int)∧Fr1 g w1 W∧NumsAt W g N (fun j=>if j / 4=i∧j % 4<k then pick4 a0 a1 a2 a3 (j % 4) else f j))
 case atStart=>exact ⟨0,by omega,by omega,rfl,Fr.refl _ _,I0.out.congr (fun j _=>if_neg (by omega))⟩
 case round=>
  obtain ⟨k,hgk,hk4,rfl,hfr,hin⟩:=hrel
  replace hgk:Hid _:=hgk
  have HF:Hid (Fr1 g w1 wr):=hfr
  have HI:Hid (NumsAt wr g N (fun j=>if j / 4=i∧j % 4<k then pick4 a0 a1 a2 a3 (j % 4) else f j)):=hin
  have HA:Hid (FourAt wr w.heap.size (pick4 a0 a1 a2 a3)):=A0.out.fr hfr (by omega)
  clear hfr hin
  by_cases hlt:k<4
  ·have hlt':(k:Int)<4:=by omega
   have k0:(0:Int)≤(k:Int):=by omega
   obtain ⟨Q,hQ⟩:∃ Q,Q=4*i+k:=⟨_,rfl⟩
   have eQ:4*(i:Int)+(k:Int)=(Q:Int):=by omega
   have hQN:(Q:Int)<(N:Int):=by omega
   have q0:(0:Int)≤(Q:Int):=by omega
   have ka:=HA.out.get k hlt
   obtain ⟨zz,kg⟩:∃ zz,wr.cell? ⟨g,Q,none⟩=some (.int .i64 zz):=⟨_,HI.out.1 Q (by omega)⟩
   have zg:=HI.out.2 Q
   generalize hAK:pick4 a0 a1 a2 a3 k=AK at *
   replace hAK:Hid _:=hAK
   replace hQ:Hid _:=hQ
   go_wp2_with fail
   go_roundg (4 - (k+1))
   case measure=>rw[hgk.out];omega
   case rel=>
    refine ⟨k+1,rfl,by omega,by go_num,Fr1.set HF.out _ _,HI.out.set _ _ ?_ ?_⟩
    ·show (if Q / 4=i∧Q % 4<k+1 then pick4 a0 a1 a2 a3 (Q % 4) else f Q)=_
     have:=hQ.out
     rw[if_pos (by omega),show Q % 4=k from by omega,hAK.out]
    ·intro j hj _
     show (if j / 4=i∧j % 4<k+1 then pick4 a0 a1 a2 a3 (j % 4) else f j)=if j / 4=i∧j % 4<k then pick4 a0 a1 a2 a3 (j % 4) else f j
     have:=hQ.out
     by_cases q:j / 4=i∧j % 4<k
     ·rw[if_pos q,if_pos (by omega)]
     ·rw[if_neg q,if_neg (by omega)]
  ·have hlt':¬ (k:Int)<4:=by omega
   go_wp2_with fail
   go_end0
   exact ⟨rfl,HI.out.congr (fun j _=>by
    have:j % 4<4:=Nat.mod_lt _ (by omega)
    by_cases q:j / 4=i
    ·rw[if_pos q,if_pos ⟨q,by omega⟩]
    ·rw[if_neg q,if_neg (fun e=>q e.1)]),Fr.trans' (Fr.of_kept K0.out) HF.out (fun _ _ q=>q)⟩
end Go.Proofs.YtmbmecfodigciaaGreatDoor
