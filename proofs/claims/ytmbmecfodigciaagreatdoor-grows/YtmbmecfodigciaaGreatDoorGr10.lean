import Derived.Test.YtmbmecfodigciaaGreatDoorGr01
import Derived.Test.YtmbmecfodigciaaGreatDoorGr09
import Derived.Test.YtmbmecfodigciaaGreatDoorGr08
import Derived.Deep.RegionHeld3
import Derived.BigQuiet
import Derived.Deep.MidRow
set_option maxRecDepth 100000
set_option maxHeartbeats 6400000
namespace Go.Proofs.YtmbmecfodigciaaGreatDoor
open Go.RowKit Px
set_option linter.unusedSimpArgs false
set_option linter.unusedVariables false
def wdN (D v:Nat):Nat:=v*65535 / (2^D - 1)
theorem wide_x (v D:Nat) (w:World) (hD:D=1∨D=2∨D=4∨D=8∨D=16) (hv:v<65536) :
  Calls Tryz.prog 47 #[.int .i64 (v:Int),.int .i64 (D:Int)] w fun e w'=>e = .returned (.int .i64 (wdN D v:Int))∧w'=w:=by
 have hm:wrap64 (2^D)=((2^D:Nat):Int):=by rcases hD with rfl | rfl | rfl | rfl | rfl<;>kernel_rfl
 obtain ⟨M,hM⟩:∃ M,M=2^D - 1:=⟨_,rfl⟩
 have hp:2^D=M+1:=by have:=Nat.two_pow_pos D;omega
 have hM1:1≤M:=by rcases hD with rfl | rfl | rfl | rfl | rfl<;>(rw[hM];decide)
 have hM2:M≤65535:=by rcases hD with rfl | rfl | rfl | rfl | rfl<;>(rw[hM];decide)
 rw[hp] at hm
 have HE:Hid (wdN D v=v*65535 / M):=by show wdN D v=_;unfold wdN;rw[← hM]
 obtain ⟨T,hT⟩:∃ T,T=v*65535:=⟨_,rfl⟩
 have eT:(v:Int)*65535=(T:Int):=by omega
 have hT2:T≤4294967295:=by omega
 obtain ⟨Q,hQ⟩:∃ Q,Q=T / M:=⟨_,rfl⟩
 have eQ:(T:Int) / (M:Int)=(Q:Int):=by rw[hQ];exact (Int.natCast_ediv _ _).symm
 have eQ':(T:Int).tdiv (M:Int)=(Q:Int):=by rw[Int.tdiv_eq_ediv_of_nonneg (by omega)];exact eQ
 have hQ2:Q≤4294967295:=by rw[hQ];exact Nat.le_trans (Nat.div_le_self _ _) hT2
 rw[← hT,← hQ] at HE
 have g0:¬ ((M:Int)=0):=by omega
 have g0':((M:Int) == 0)=false:=by rw[beq_eq_false_iff_ne];omega
 have g0'':¬ (M=0):=by omega
 have eM:((M+1:Nat):Int) - 1=(M:Int):=by omega
 obtain ⟨N,hN⟩:∃ N,N=M+1:=⟨_,rfl⟩
 rw[← hN] at hm
 have eM:(N:Int) - 1=(M:Int):=by omega
 have hD2:D≤16:=by omega
 clear hT hQ hM hp hN
 generalize wdN D v=R at *
 replace hD:Hid _:=hD
 go_enter Tryz.func47,Tryz.ntmps47
 go_wp2
 go_ret
 exact ⟨ret_int (by rw[HE.out]),rfl⟩
def Four4 (w:World) (a0 a1 a2 a3:Int) (e:Ending) (w':World):Prop:=∃ g,e = .returned (.slice (some ⟨g,0,none⟩) 4 4)∧w.heap.size≤g∧w'.cell? ⟨g,0,none⟩=some (.int .i64 a0)∧w'.cell? ⟨g,1,none⟩=some (.int .i64 a1)∧w'.cell? ⟨g,2,none⟩=some (.int .i64 a2)∧w'.cell? ⟨g,3,none⟩=some (.int .i64 a3)∧Kept w w'
theorem four4_new {w W:World} (k:Kept w W) (a0 a1 a2 a3:Int) (t:TypeId) (W':World) (hW:Kept (W.alloc (Obj.cells #[.int .i64 a0,.int .i64 a1,.int .i64 a2,.int .i64 a3] t)) W'):Four4 w a0 a1 a2 a3 (.returned (.slice (some ⟨W.heap.size,0,none⟩) 4 4)) W':=by
 have h:W.heap.size<(W.alloc (Obj.cells #[.int .i64 a0,.int .i64 a1,.int .i64 a2,.int .i64 a3] t)).heap.size:=by simp
 refine ⟨W.heap.size,rfl,k.size,?_,?_,?_,?_,Kept.trans (Below.alloc k k.size _) hW⟩ <;>
 exact (hW.cell (p:=⟨W.heap.size,_,none⟩) h).trans ((World.cell?_alloc_at _ _ _ _ rfl).trans rfl)
theorem Four4.of {w w':World} {e:Ending} {b0 b1 b2 b3 a0 a1 a2 a3:Int} (h:Four4 w b0 b1 b2 b3 e w') (h0:b0=a0) (h1:b1=a1) (h2:b2=a2) (h3:b3=a3):Four4 w a0 a1 a2 a3 e w':=by rw[← h0,← h1,← h2,← h3];exact h
theorem dcol3_x (x k D V Q N PN xc pc qc gx ox gp op P0 P1 P2 A:Nat) (qp:Option Addr) (w:World) (c2:w.cell? ⟨x,2,none⟩=some (.int .i64 3)) (c4:w.cell? ⟨x,4,none⟩=some (.slice (some ⟨gp,op,none⟩) PN pc)) (c5:w.cell? ⟨x,5,none⟩=some (.slice qp Q qc)) (c6:w.cell? ⟨x,6,none⟩=some (.slice (some ⟨gx,ox,none⟩) N xc)) (hk:k+1≤xc) (hk2:k<100000) (hV:3*V+3≤pc) (hV2:V<256) (v0:w.cell? ⟨gx,ox+k,none⟩=some (.int .i64 (V:Int))) (p0:w.cell? ⟨gp,op+3*V,none⟩=some (.int .i64 (P0:Int))) (p1:w.cell? ⟨gp,op+3*V+1,none⟩=some (.int .i64 (P1:Int))) (p2:w.cell? ⟨gp,op+3*V+2,none⟩=some (.int .i64 (P2:Int))) (h0:P0<256) (h1:P1<256) (h2:P2<256) (hA:A<256) (hc:V<Q→∃ g o,qp=some ⟨g,o,none⟩∧w.cell? ⟨g,o+V,none⟩=some (.int .i64 (A:Int))) :
  Calls Tryz.prog 29 #[.pointer (some ⟨x,0,none⟩),.int .i64 (k:Int)] w fun e w'=>Four4 w ((P0*257:Nat):Int) ((P1*257:Nat):Int) ((P2*257:Nat):Int) ((if V<Q then A*257 else 65535:Nat):Int) e w':=by
 have FC:Hid (∀ W,Calls Tryz.prog 35 #[.int .i64 3] W fun r w'=>r = .returned (.int .i64 1)∧w'=W):=fun W=>channels_any 3 W (by omega)
 obtain ⟨k1,hk1⟩:∃ k1,k1=k+1:=⟨_,rfl⟩
 obtain ⟨T0,hT0⟩:∃ T,T=3*V:=⟨_,rfl⟩
 obtain ⟨T3,hT3⟩:∃ T,T=3*V+3:=⟨_,rfl⟩
 have e1:(k:Int)+1=(k1:Int):=by omega
 have e2:3*(V:Int)=(T0:Int):=by omega
 have e3:(T0:Int)+3=(T3:Int):=by omega
 have b1:k≤k1:=by omega
 have b2:k1≤xc:=by omega
 have b3:T0≤T3:=by omega
 have b4:T3≤pc:=by omega
 have b5:T3 - T0=3:=by omega
 have b6:k1 - k=1:=by omega
 rw[← hT0] at p0 p1 p2
 have HL:Hid (∀ W,Kept w W→W.cell? ⟨gp,op+T0,none⟩=some (.int .i64 (P0:Int))∧W.cell? ⟨gp,op+T0+1,none⟩=some (.int .i64 (P1:Int))∧W.cell? ⟨gp,op+T0+2,none⟩=some (.int .i64 (P2:Int))):=fun W k=>⟨(k.cell (p:=⟨gp,op+T0,none⟩) (World.block_lt_of_cell? _ _ p0)).trans p0,(k.cell (p:=⟨gp,op+T0+1,none⟩) (World.block_lt_of_cell? _ _ p1)).trans p1,(k.cell (p:=⟨gp,op+T0+2,none⟩) (World.block_lt_of_cell? _ _ p2)).trans p2⟩
 have HS:Hid (∀ W,Kept w W→W.cell? ⟨x,5,none⟩=some (.slice qp Q qc)∧W.cell? ⟨gx,ox+k,none⟩=some (.int .i64 (V:Int))∧W.cell? ⟨x,4,none⟩=some (.slice (some ⟨gp,op,none⟩) PN pc)):=fun W k=>⟨(k.cell (p:=⟨x,5,none⟩) (World.block_lt_of_cell? _ _ c5)).trans c5,(k.cell (p:=⟨gx,_,none⟩) (World.block_lt_of_cell? _ _ v0)).trans v0,(k.cell (p:=⟨x,4,none⟩) (World.block_lt_of_cell? _ _ c4)).trans c4⟩
 have HQ:Hid (∀ W,Kept w W→V<Q→∃ g o,qp=some ⟨g,o,none⟩∧W.cell? ⟨g,o+V,none⟩=some (.int .i64 (A:Int))):=fun W k q=>by
  obtain ⟨g,o,e,h⟩:=hc q
  exact ⟨g,o,e,(k.cell (p:=⟨g,o+V,none⟩) (World.block_lt_of_cell? _ _ h)).trans h⟩
 obtain ⟨AL,hAL⟩:∃ AL,AL=(if V<Q then A*257 else 65535:Nat):=⟨_,rfl⟩
 have HAL:Hid (AL=(if V<Q then A*257 else 65535:Nat)):=hAL
 rw[← hAL]
 clear hc p0 p1 p2 hk1 hT0 hT3 hAL
 go_enter Tryz.func29,Tryz.ntmps29
 go_wp2_with fail
 refine (FC.out _).mono ?_
 rintro e w1 ⟨rfl,hw1⟩
 subst w1
 go_wp2_with fail
 go_quiet (fail)
 have K2:Hid (Kept w (w.drewN nq)):=(Kept.refl _).drewN _
 generalize w.drewN nq=w2 at *
 obtain ⟨d5,dv,d4⟩:=HS.out w2 K2.out
 by_cases hvq:V<Q
 ·have hvq':(V:Int)<(Q:Int):=by omega
  have v0':(0:Int)≤(V:Int):=by omega
  replace HAL:Hid (AL=A*257):=HAL.out.trans (if_pos hvq)
  go_wp2_with fail
  go_quiet (fail)
  have K3:Hid (Kept w (w2.drewN nq)):=K2.out.drewN _
  generalize w2.drewN nq=w3 at *
  obtain ⟨d5,dv,d4⟩:=HS.out w3 K3.out
  obtain ⟨gq,oq,rfl,dq⟩:=HQ.out w3 K3.out hvq
  go_wp2_with fail
  go_quiet (fail)
  have K4:Hid (Kept w (w3.drewN nq)):=K3.out.drewN _
  generalize w3.drewN nq=w4 at *
  obtain ⟨y0,y1,y2⟩:=HL.out w4 K4.out
  go_wp2_with fail
  go_region_held3 (fun W=>W.cell? ⟨gp,op+T0,none⟩=some (.int .i64 (P0:Int))∧W.cell? ⟨gp,op+T0+1,none⟩=some (.int .i64 (P1:Int))∧W.cell? ⟨gp,op+T0+2,none⟩=some (.int .i64 (P2:Int))) (first | exact ⟨y0,y1,y2⟩ | exact HL.out _ (Kept.trans K4.out (Below.alloc ((Kept.refl _).drewN 1) (by simp) _)) | go_keep) (fail)
  go_wp2_with fail
  go_ret
  have:=HAL.out
  refine Four4.of (four4_new K4.out _ _ _ _ _ _ ((Kept.refl _).drewN 1)) ?_ ?_ ?_ ?_<;>first | omega | (rw[IntKind.wrap_i64];omega)
 ·have hvq':¬ (V:Int)<(Q:Int):=by omega
  replace HAL:Hid (AL=65535):=HAL.out.trans (if_neg hvq)
  go_wp2_with fail
  go_quiet (fail)
  have K3:Hid (Kept w (w2.drewN nq)):=K2.out.drewN _
  generalize w2.drewN nq=w4 at *
  obtain ⟨y0,y1,y2⟩:=HL.out w4 K3.out
  go_wp2_with fail
  go_region_held3 (fun W=>W.cell? ⟨gp,op+T0,none⟩=some (.int .i64 (P0:Int))∧W.cell? ⟨gp,op+T0+1,none⟩=some (.int .i64 (P1:Int))∧W.cell? ⟨gp,op+T0+2,none⟩=some (.int .i64 (P2:Int))) (first | exact ⟨y0,y1,y2⟩ | exact HL.out _ (Kept.trans K3.out (Below.alloc ((Kept.refl _).drewN 1) (by simp) _)) | go_keep) (fail)
  go_wp2_with fail
  go_ret
  have:=HAL.out
  refine Four4.of (four4_new K3.out _ _ _ _ _ _ ((Kept.refl _).drewN 1)) ?_ ?_ ?_ ?_<;>first | omega | (rw[IntKind.wrap_i64];omega)
theorem dcol0_x (x k D N xc gx ox Q qc:Nat) (V0:Nat) (qp:Option Addr) (SM:Bool) (w:World) (c2:w.cell? ⟨x,2,none⟩=some (.int .i64 0)) (c3:w.cell? ⟨x,3,none⟩=some (.int .i64 (D:Int))) (c5:w.cell? ⟨x,5,none⟩=some (.slice qp Q qc)) (c6:w.cell? ⟨x,6,none⟩=some (.slice (some ⟨gx,ox,none⟩) N xc)) (hk:k*1+1≤xc) (hk2:k<100000) (hD:D=1∨D=2∨D=4∨D=8∨D=16) (v0:w.cell? ⟨gx,ox+(k*1+0),none⟩=some (.int .i64 (V0:Int))) (z0:V0<65536) (FJ:∀ W,Kept w W→Calls Tryz.prog 27 #[.slice (some ⟨gx,ox+k*1,none⟩) 1 (xc - k*1),.slice qp Q qc] W fun e w'=>e = .returned (.bool SM)∧Kept W w') :
  Calls Tryz.prog 29 #[.pointer (some ⟨x,0,none⟩),.int .i64 (k:Int)] w fun e w'=>Four4 w ((wdN D V0:Nat):Int) ((wdN D V0:Nat):Int) ((wdN D V0:Nat):Int) (if SM then 0 else 65535) e w':=by
 have FC:Hid (∀ W,Calls Tryz.prog 35 #[.int .i64 0] W fun r w'=>r = .returned (.int .i64 1)∧w'=W):=fun W=>channels_any 0 W (by omega)
 obtain ⟨T0,hT0⟩:∃ T,T=k*1:=⟨_,rfl⟩
 obtain ⟨T1,hT1⟩:∃ T,T=k*1+1:=⟨_,rfl⟩
 have e1:(k:Int)*1=(T0:Int):=by omega
 have e2:(T0:Int)+1=(T1:Int):=by omega
 have b1:T0≤T1:=by omega
 have b2:T1≤xc:=by omega
 have b3:T1 - T0=1:=by omega
 have b4:T0<1000000:=by omega
 rw[← hT0,Nat.add_zero] at v0
 rw[← hT0] at FJ
 replace FJ:Hid _:=FJ
 have FW0:Hid (∀ W,Calls Tryz.prog 47 #[.int .i64 (V0:Int),.int .i64 (D:Int)] W fun e w'=>e = .returned (.int .i64 (wdN D V0:Int))∧w'=W):=fun W=>wide_x V0 D W hD z0
 generalize wdN D V0=R0 at *
 have HL:Hid (∀ W,Kept w W→W.cell? ⟨x,3,none⟩=some (.int .i64 (D:Int))∧W.cell? ⟨gx,ox+T0,none⟩=some (.int .i64 (V0:Int))∧W.cell? ⟨x,2,none⟩=some (.int .i64 0)∧W.cell? ⟨x,5,none⟩=some (.slice qp Q qc)):=fun W k=>⟨(k.cell (p:=⟨x,3,none⟩) (World.block_lt_of_cell? _ _ c3)).trans c3,(k.cell (p:=⟨gx,_,none⟩) (World.block_lt_of_cell? _ _ v0)).trans v0,(k.cell (p:=⟨x,2,none⟩) (World.block_lt_of_cell? _ _ c2)).trans c2,(k.cell (p:=⟨x,5,none⟩) (World.block_lt_of_cell? _ _ c5)).trans c5⟩
 clear hT0 hT1 hD z0
 go_enter Tryz.func29,Tryz.ntmps29
 go_wp2_with fail
 refine (FC.out _).mono ?_
 rintro e w1 ⟨rfl,hw1⟩
 subst w1
 go_wp2_with fail
 refine (FJ.out _ (Kept.refl _)).mono ?_
 rintro e w3 ⟨rfl,hk3⟩
 have K3:Hid (Kept w w3):=hk3
 clear hk3
 obtain ⟨d3,y0,d2,d5⟩:=HL.out w3 K3.out
 cases SM with
 | true=>
  go_wp2_with fail
  go_quiet ((go_at_call 47;exact Calls.quiet_of_same (FW0.out _)))
  have K5:Hid (Kept w (w3.drewN nq)):=K3.out.drewN _
  generalize w3.drewN nq=w5 at *
  obtain ⟨d3,y0,d2,d5⟩:=HL.out w5 K5.out
  go_wp2_with fail
  go_ret
  refine Four4.of (four4_new K5.out _ _ _ _ _ _ (Kept.refl _)) rfl rfl rfl ?_
  rfl
 | false=>
  go_wp2_with fail
  go_quiet ((go_at_call 47;exact Calls.quiet_of_same (FW0.out _)))
  have K5:Hid (Kept w (w3.drewN nq)):=K3.out.drewN _
  generalize w3.drewN nq=w5 at *
  obtain ⟨d3,y0,d2,d5⟩:=HL.out w5 K5.out
  go_wp2_with fail
  go_ret
  refine Four4.of (four4_new K5.out _ _ _ _ _ _ (Kept.refl _)) rfl rfl rfl ?_
  rfl
theorem dcol4_x (x k D N xc gx ox:Nat) (V0 V1:Nat) (w:World) (c2:w.cell? ⟨x,2,none⟩=some (.int .i64 4)) (c3:w.cell? ⟨x,3,none⟩=some (.int .i64 (D:Int))) (c6:w.cell? ⟨x,6,none⟩=some (.slice (some ⟨gx,ox,none⟩) N xc)) (hk:k*2+2≤xc) (hk2:k<100000) (hD:D=1∨D=2∨D=4∨D=8∨D=16) (v0:w.cell? ⟨gx,ox+(k*2+0),none⟩=some (.int .i64 (V0:Int))) (z0:V0<65536) (v1:w.cell? ⟨gx,ox+(k*2+1),none⟩=some (.int .i64 (V1:Int))) (z1:V1<65536) :
  Calls Tryz.prog 29 #[.pointer (some ⟨x,0,none⟩),.int .i64 (k:Int)] w fun e w'=>Four4 w ((wdN D V0:Nat):Int) ((wdN D V0:Nat):Int) ((wdN D V0:Nat):Int) ((wdN D V1:Nat):Int) e w':=by
 have FC:Hid (∀ W,Calls Tryz.prog 35 #[.int .i64 4] W fun r w'=>r = .returned (.int .i64 2)∧w'=W):=fun W=>channels_any 4 W (by omega)
 obtain ⟨T0,hT0⟩:∃ T,T=k*2:=⟨_,rfl⟩
 obtain ⟨T1,hT1⟩:∃ T,T=k*2+2:=⟨_,rfl⟩
 have e1:(k:Int)*2=(T0:Int):=by omega
 have e2:(T0:Int)+2=(T1:Int):=by omega
 have b1:T0≤T1:=by omega
 have b2:T1≤xc:=by omega
 have b3:T1 - T0=2:=by omega
 have b4:T0<1000000:=by omega
 rw[← hT0,Nat.add_zero] at v0
 rw[← hT0,← Nat.add_assoc] at v1
 have FW0:Hid (∀ W,Calls Tryz.prog 47 #[.int .i64 (V0:Int),.int .i64 (D:Int)] W fun e w'=>e = .returned (.int .i64 (wdN D V0:Int))∧w'=W):=fun W=>wide_x V0 D W hD z0
 have FW1:Hid (∀ W,Calls Tryz.prog 47 #[.int .i64 (V1:Int),.int .i64 (D:Int)] W fun e w'=>e = .returned (.int .i64 (wdN D V1:Int))∧w'=W):=fun W=>wide_x V1 D W hD z1
 generalize wdN D V0=R0 at *
 generalize wdN D V1=R1 at *
 have HL:Hid (∀ W,Kept w W→W.cell? ⟨x,3,none⟩=some (.int .i64 (D:Int))∧W.cell? ⟨gx,ox+T0,none⟩=some (.int .i64 (V0:Int))∧W.cell? ⟨gx,ox+T0+1,none⟩=some (.int .i64 (V1:Int))∧W.cell? ⟨x,2,none⟩=some (.int .i64 4)):=fun W k=>⟨(k.cell (p:=⟨x,3,none⟩) (World.block_lt_of_cell? _ _ c3)).trans c3,(k.cell (p:=⟨gx,_,none⟩) (World.block_lt_of_cell? _ _ v0)).trans v0,(k.cell (p:=⟨gx,_,none⟩) (World.block_lt_of_cell? _ _ v1)).trans v1,(k.cell (p:=⟨x,2,none⟩) (World.block_lt_of_cell? _ _ c2)).trans c2⟩
 clear hT0 hT1 hD z0 z1
 go_enter Tryz.func29,Tryz.ntmps29
 go_wp2_with fail
 refine (FC.out _).mono ?_
 rintro e w1 ⟨rfl,hw1⟩
 subst w1
 go_wp2_with fail
 go_quiet ((go_at_call 47;exact Calls.quiet_of_same (FW1.out _)))
 have K4:Hid (Kept w (w.drewN nq)):=(Kept.refl _).drewN _
 generalize w.drewN nq=w4 at *
 obtain ⟨d3,y0,y1,d2⟩:=HL.out w4 K4.out
 go_wp2_with fail
 go_quiet ((go_at_call 47;exact Calls.quiet_of_same (FW0.out _)))
 have K5:Hid (Kept w (w4.drewN nq)):=K4.out.drewN _
 generalize w4.drewN nq=w5 at *
 obtain ⟨d3,y0,y1,d2⟩:=HL.out w5 K5.out
 go_wp2_with fail
 go_ret
 refine Four4.of (four4_new K5.out _ _ _ _ _ _ (Kept.refl _)) rfl rfl rfl ?_
 rfl
theorem dcol2_x (x k D N xc gx ox Q qc:Nat) (V0 V1 V2:Nat) (qp:Option Addr) (SM:Bool) (w:World) (c2:w.cell? ⟨x,2,none⟩=some (.int .i64 2)) (c3:w.cell? ⟨x,3,none⟩=some (.int .i64 (D:Int))) (c5:w.cell? ⟨x,5,none⟩=some (.slice qp Q qc)) (c6:w.cell? ⟨x,6,none⟩=some (.slice (some ⟨gx,ox,none⟩) N xc)) (hk:k*3+3≤xc) (hk2:k<100000) (hD:D=1∨D=2∨D=4∨D=8∨D=16) (v0:w.cell? ⟨gx,ox+(k*3+0),none⟩=some (.int .i64 (V0:Int))) (z0:V0<65536) (v1:w.cell? ⟨gx,ox+(k*3+1),none⟩=some (.int .i64 (V1:Int))) (z1:V1<65536) (v2:w.cell? ⟨gx,ox+(k*3+2),none⟩=some (.int .i64 (V2:Int))) (z2:V2<65536) (FJ:∀ W,Kept w W→Calls Tryz.prog 27 #[.slice (some ⟨gx,ox+k*3,none⟩) 3 (xc - k*3),.slice qp Q qc] W fun e w'=>e = .returned (.bool SM)∧Kept W w') :
  Calls Tryz.prog 29 #[.pointer (some ⟨x,0,none⟩),.int .i64 (k:Int)] w fun e w'=>Four4 w ((wdN D V0:Nat):Int) ((wdN D V1:Nat):Int) ((wdN D V2:Nat):Int) (if SM then 0 else 65535) e w':=by
 have FC:Hid (∀ W,Calls Tryz.prog 35 #[.int .i64 2] W fun r w'=>r = .returned (.int .i64 3)∧w'=W):=fun W=>channels_any 2 W (by omega)
 obtain ⟨T0,hT0⟩:∃ T,T=k*3:=⟨_,rfl⟩
 obtain ⟨T1,hT1⟩:∃ T,T=k*3+3:=⟨_,rfl⟩
 have e1:(k:Int)*3=(T0:Int):=by omega
 have e2:(T0:Int)+3=(T1:Int):=by omega
 have b1:T0≤T1:=by omega
 have b2:T1≤xc:=by omega
 have b3:T1 - T0=3:=by omega
 have b4:T0<1000000:=by omega
 rw[← hT0,Nat.add_zero] at v0
 rw[← hT0,← Nat.add_assoc] at v1
 rw[← hT0,← Nat.add_assoc] at v2
 rw[← hT0] at FJ
 replace FJ:Hid _:=FJ
 have FW0:Hid (∀ W,Calls Tryz.prog 47 #[.int .i64 (V0:Int),.int .i64 (D:Int)] W fun e w'=>e = .returned (.int .i64 (wdN D V0:Int))∧w'=W):=fun W=>wide_x V0 D W hD z0
 have FW1:Hid (∀ W,Calls Tryz.prog 47 #[.int .i64 (V1:Int),.int .i64 (D:Int)] W fun e w'=>e = .returned (.int .i64 (wdN D V1:Int))∧w'=W):=fun W=>wide_x V1 D W hD z1
 have FW2:Hid (∀ W,Calls Tryz.prog 47 #[.int .i64 (V2:Int),.int .i64 (D:Int)] W fun e w'=>e = .returned (.int .i64 (wdN D V2:Int))∧w'=W):=fun W=>wide_x V2 D W hD z2
 generalize wdN D V0=R0 at *
 generalize wdN D V1=R1 at *
 generalize wdN D V2=R2 at *
 have HL:Hid (∀ W,Kept w W→W.cell? ⟨x,3,none⟩=some (.int .i64 (D:Int))∧W.cell? ⟨gx,ox+T0,none⟩=some (.int .i64 (V0:Int))∧W.cell? ⟨gx,ox+T0+1,none⟩=some (.int .i64 (V1:Int))∧W.cell? ⟨gx,ox+T0+2,none⟩=some (.int .i64 (V2:Int))∧W.cell? ⟨x,2,none⟩=some (.int .i64 2)∧W.cell? ⟨x,5,none⟩=some (.slice qp Q qc)):=fun W k=>⟨(k.cell (p:=⟨x,3,none⟩) (World.block_lt_of_cell? _ _ c3)).trans c3,(k.cell (p:=⟨gx,_,none⟩) (World.block_lt_of_cell? _ _ v0)).trans v0,(k.cell (p:=⟨gx,_,none⟩) (World.block_lt_of_cell? _ _ v1)).trans v1,(k.cell (p:=⟨gx,_,none⟩) (World.block_lt_of_cell? _ _ v2)).trans v2,(k.cell (p:=⟨x,2,none⟩) (World.block_lt_of_cell? _ _ c2)).trans c2,(k.cell (p:=⟨x,5,none⟩) (World.block_lt_of_cell? _ _ c5)).trans c5⟩
 clear hT0 hT1 hD z0 z1 z2
 go_enter Tryz.func29,Tryz.ntmps29
 go_wp2_with fail
 refine (FC.out _).mono ?_
 rintro e w1 ⟨rfl,hw1⟩
 subst w1
 go_wp2_with fail
 refine (FJ.out _ (Kept.refl _)).mono ?_
 rintro e w3 ⟨rfl,hk3⟩
 have K3:Hid (Kept w w3):=hk3
 clear hk3
 obtain ⟨d3,y0,y1,y2,d2,d5⟩:=HL.out w3 K3.out
 cases SM with
 | true=>
  go_wp2_with fail
  go_quiet ((go_at_call 47;exact Calls.quiet_of_same (FW0.out _)))
  have K5:Hid (Kept w (w3.drewN nq)):=K3.out.drewN _
  generalize w3.drewN nq=w5 at *
  obtain ⟨d3,y0,y1,y2,d2,d5⟩:=HL.out w5 K5.out
  go_wp2_with fail
  go_quiet ((go_at_call 47;exact Calls.quiet_of_same (FW1.out _)))
  have K6:Hid (Kept w (w5.drewN nq)):=K5.out.drewN _
  generalize w5.drewN nq=w6 at *
  obtain ⟨d3,y0,y1,y2,d2,d5⟩:=HL.out w6 K6.out
  go_wp2_with fail
  go_quiet ((go_at_call 47;exact Calls.quiet_of_same (FW2.out _)))
  have K7:Hid (Kept w (w6.drewN nq)):=K6.out.drewN _
  generalize w6.drewN nq=w7 at *
  obtain ⟨d3,y0,y1,y2,d2,d5⟩:=HL.out w7 K7.out
  go_wp2_with fail
  go_ret
  refine Four4.of (four4_new K7.out _ _ _ _ _ _ (Kept.refl _)) rfl rfl rfl ?_
  rfl
 | false=>
  go_wp2_with fail
  go_quiet ((go_at_call 47;exact Calls.quiet_of_same (FW0.out _)))
  have K5:Hid (Kept w (w3.drewN nq)):=K3.out.drewN _
  generalize w3.drewN nq=w5 at *
  obtain ⟨d3,y0,y1,y2,d2,d5⟩:=HL.out w5 K5.out
  go_wp2_with fail
  go_quiet ((go_at_call 47;exact Calls.quiet_of_same (FW1.out _)))
  have K6:Hid (Kept w (w5.drewN nq)):=K5.out.drewN _
  generalize w5.drewN nq=w6 at *
  obtain ⟨d3,y0,y1,y2,d2,d5⟩:=HL.out w6 K6.out
  go_wp2_with fail
  go_quiet ((go_at_call 47;exact Calls.quiet_of_same (FW2.out _)))
  have K7:Hid (Kept w (w6.drewN nq)):=K6.out.drewN _
  generalize w6.drewN nq=w7 at *
  obtain ⟨d3,y0,y1,y2,d2,d5⟩:=HL.out w7 K7.out
  go_wp2_with fail
  go_ret
  refine Four4.of (four4_new K7.out _ _ _ _ _ _ (Kept.refl _)) rfl rfl rfl ?_
  rfl
theorem dcol6_x (x k D N xc gx ox:Nat) (V0 V1 V2 V3:Nat) (w:World) (c2:w.cell? ⟨x,2,none⟩=some (.int .i64 6)) (c3:w.cell? ⟨x,3,none⟩=some (.int .i64 (D:Int))) (c6:w.cell? ⟨x,6,none⟩=some (.slice (some ⟨gx,ox,none⟩) N xc)) (hk:k*4+4≤xc) (hk2:k<100000) (hD:D=1∨D=2∨D=4∨D=8∨D=16) (v0:w.cell? ⟨gx,ox+(k*4+0),none⟩=some (.int .i64 (V0:Int))) (z0:V0<65536) (v1:w.cell? ⟨gx,ox+(k*4+1),none⟩=some (.int .i64 (V1:Int))) (z1:V1<65536) (v2:w.cell? ⟨gx,ox+(k*4+2),none⟩=some (.int .i64 (V2:Int))) (z2:V2<65536) (v3:w.cell? ⟨gx,ox+(k*4+3),none⟩=some (.int .i64 (V3:Int))) (z3:V3<65536) :
  Calls Tryz.prog 29 #[.pointer (some ⟨x,0,none⟩),.int .i64 (k:Int)] w fun e w'=>Four4 w ((wdN D V0:Nat):Int) ((wdN D V1:Nat):Int) ((wdN D V2:Nat):Int) ((wdN D V3:Nat):Int) e w':=by
 have FC:Hid (∀ W,Calls Tryz.prog 35 #[.int .i64 6] W fun r w'=>r = .returned (.int .i64 4)∧w'=W):=fun W=>channels_any 6 W (by omega)
 obtain ⟨T0,hT0⟩:∃ T,T=k*4:=⟨_,rfl⟩
 obtain ⟨T1,hT1⟩:∃ T,T=k*4+4:=⟨_,rfl⟩
 have e1:(k:Int)*4=(T0:Int):=by omega
 have e2:(T0:Int)+4=(T1:Int):=by omega
 have b1:T0≤T1:=by omega
 have b2:T1≤xc:=by omega
 have b3:T1 - T0=4:=by omega
 have b4:T0<1000000:=by omega
 rw[← hT0,Nat.add_zero] at v0
 rw[← hT0,← Nat.add_assoc] at v1
 rw[← hT0,← Nat.add_assoc] at v2
 rw[← hT0,← Nat.add_assoc] at v3
 have FW0:Hid (∀ W,Calls Tryz.prog 47 #[.int .i64 (V0:Int),.int .i64 (D:Int)] W fun e w'=>e = .returned (.int .i64 (wdN D V0:Int))∧w'=W):=fun W=>wide_x V0 D W hD z0
 have FW1:Hid (∀ W,Calls Tryz.prog 47 #[.int .i64 (V1:Int),.int .i64 (D:Int)] W fun e w'=>e = .returned (.int .i64 (wdN D V1:Int))∧w'=W):=fun W=>wide_x V1 D W hD z1
 have FW2:Hid (∀ W,Calls Tryz.prog 47 #[.int .i64 (V2:Int),.int .i64 (D:Int)] W fun e w'=>e = .returned (.int .i64 (wdN D V2:Int))∧w'=W):=fun W=>wide_x V2 D W hD z2
 have FW3:Hid (∀ W,Calls Tryz.prog 47 #[.int .i64 (V3:Int),.int .i64 (D:Int)] W fun e w'=>e = .returned (.int .i64 (wdN D V3:Int))∧w'=W):=fun W=>wide_x V3 D W hD z3
 generalize wdN D V0=R0 at *
 generalize wdN D V1=R1 at *
 generalize wdN D V2=R2 at *
 generalize wdN D V3=R3 at *
 have HL:Hid (∀ W,Kept w W→W.cell? ⟨x,3,none⟩=some (.int .i64 (D:Int))∧W.cell? ⟨gx,ox+T0,none⟩=some (.int .i64 (V0:Int))∧W.cell? ⟨gx,ox+T0+1,none⟩=some (.int .i64 (V1:Int))∧W.cell? ⟨gx,ox+T0+2,none⟩=some (.int .i64 (V2:Int))∧W.cell? ⟨gx,ox+T0+3,none⟩=some (.int .i64 (V3:Int))∧W.cell? ⟨x,2,none⟩=some (.int .i64 6)):=fun W k=>⟨(k.cell (p:=⟨x,3,none⟩) (World.block_lt_of_cell? _ _ c3)).trans c3,(k.cell (p:=⟨gx,_,none⟩) (World.block_lt_of_cell? _ _ v0)).trans v0,(k.cell (p:=⟨gx,_,none⟩) (World.block_lt_of_cell? _ _ v1)).trans v1,(k.cell (p:=⟨gx,_,none⟩) (World.block_lt_of_cell? _ _ v2)).trans v2,(k.cell (p:=⟨gx,_,none⟩) (World.block_lt_of_cell? _ _ v3)).trans v3,(k.cell (p:=⟨x,2,none⟩) (World.block_lt_of_cell? _ _ c2)).trans c2⟩
 clear hT0 hT1 hD z0 z1 z2 z3
 go_enter Tryz.func29,Tryz.ntmps29
 go_wp2_with fail
 refine (FC.out _).mono ?_
 rintro e w1 ⟨rfl,hw1⟩
 subst w1
 go_wp2_with fail
 go_quiet ((go_at_call 47;exact Calls.quiet_of_same (FW3.out _)))
 have K4:Hid (Kept w (w.drewN nq)):=(Kept.refl _).drewN _
 generalize w.drewN nq=w4 at *
 obtain ⟨d3,y0,y1,y2,y3,d2⟩:=HL.out w4 K4.out
 go_wp2_with fail
 go_quiet ((go_at_call 47;exact Calls.quiet_of_same (FW0.out _)))
 have K5:Hid (Kept w (w4.drewN nq)):=K4.out.drewN _
 generalize w4.drewN nq=w5 at *
 obtain ⟨d3,y0,y1,y2,y3,d2⟩:=HL.out w5 K5.out
 go_wp2_with fail
 go_quiet ((go_at_call 47;exact Calls.quiet_of_same (FW1.out _)))
 have K6:Hid (Kept w (w5.drewN nq)):=K5.out.drewN _
 generalize w5.drewN nq=w6 at *
 obtain ⟨d3,y0,y1,y2,y3,d2⟩:=HL.out w6 K6.out
 go_wp2_with fail
 go_quiet ((go_at_call 47;exact Calls.quiet_of_same (FW2.out _)))
 have K7:Hid (Kept w (w6.drewN nq)):=K6.out.drewN _
 generalize w6.drewN nq=w7 at *
 obtain ⟨d3,y0,y1,y2,y3,d2⟩:=HL.out w7 K7.out
 go_wp2_with fail
 go_ret
 refine Four4.of (four4_new K7.out _ _ _ _ _ _ (Kept.refl _)) rfl rfl rfl ?_
 rfl
def Rw.ps (r:Rw):Ps:=psOf r.hd.L r.pass.toNat
def Rw.px (r:Rw) (i:Nat):Nat:=r.ps.cf+i*r.ps.cs
def Rw.py (r:Rw):Nat:=r.ps.rf+r.line*r.ps.rs
def Rw.pt (r:Rw) (i:Nat):Nat:=r.py*16+r.px i
def laySm (q:Rw) (a:Nat) (f:Nat→Nat):Nat→Rw
 | 0=>q
 | k+1=>{ laySm q a f k with smp:=upd (laySm q a f k).smp (4*a+k) (f k) }
def layPx (r:Rw):Nat→Rw
 | 0=>r
 | m+1=>{ laySm (layPx r m) (r.pt m) (fun k=>smpO r (m*chn r.hd.K+k)) (chn r.hd.K) with known:=upd (laySm (layPx r m) (r.pt m) (fun k=>smpO r (m*chn r.hd.K+k)) (chn r.hd.K)).known (r.pt m) true }
def same1 (q r:Rw):Prop:=q.hd=r.hd∧q.colours=r.colours∧q.pass=r.pass∧q.line=r.line∧q.columns=r.columns∧q.lines=r.lines∧q.size=r.size∧q.taken=r.taken∧q.filter=r.filter∧q.row=r.row∧q.above=r.above
theorem same1.refl (r:Rw):same1 r r:=⟨rfl,rfl,rfl,rfl,rfl,rfl,rfl,rfl,rfl,rfl,rfl⟩
theorem laySm_same {q r:Rw} (h:same1 q r) (a:Nat) (f:Nat→Nat) (k:Nat):same1 (laySm q a f k) r:=by
 induction k with
 | zero=>exact h
 | succ k ih=>exact ih
theorem laySm_known (q:Rw) (a:Nat) (f:Nat→Nat) (k:Nat):(laySm q a f k).known=q.known:=by
 induction k with
 | zero=>rfl
 | succ k ih=>exact ih
theorem layPx_same (r:Rw) (m:Nat):same1 (layPx r m) r:=by
 induction m with
 | zero=>exact same1.refl r
 | succ m ih=>exact laySm_same ih _ _ _
theorem same1.smp {q r:Rw} (h:same1 q r) (i:Nat):smpO q i=smpO r i:=by
 obtain ⟨h1,_,_,_,_,_,_,_,_,h2,_⟩:=h
 unfold smpO;rw[h1,h2]
theorem same1.ok {q r:Rw} (h:same1 q r) (k:RwOk r):RwOk q:=by
 obtain ⟨h1,_,_,_,_,_,_,_,h3,h2,h4⟩:=h
 exact ⟨by rw[h1];exact k.W,by rw[h1];exact k.H,by rw[h1];exact k.D,by rw[h1];exact k.K,by rw[h1];exact k.L,by rw[h3];exact k.filter,by rw[h2];exact k.row,by rw[h4];exact k.above⟩
structure RwGeo (r:Rw):Prop where
 px:∀ i,i<r.columns→r.px i<16
 py:r.py<16
def PsAt (w W:World) (p:Ps) (G:Nat):Prop:=w.heap.size≤G∧G<W.heap.size∧W.cell? ⟨G,0,none⟩=some (.int .i64 (p.cf:Int))∧W.cell? ⟨G,1,none⟩=some (.int .i64 (p.cs:Int))∧W.cell? ⟨G,2,none⟩=some (.int .i64 (p.cb:Int))∧W.cell? ⟨G,3,none⟩=some (.int .i64 (p.rf:Int))∧W.cell? ⟨G,4,none⟩=some (.int .i64 (p.rs:Int))∧W.cell? ⟨G,5,none⟩=some (.int .i64 (p.rb:Int))
theorem psAt_new {w w1:World} {ps:Ps} (h:Kept w w1):∃ G:Nat,Value.pointer (some ⟨w1.heap.size,0,none⟩) = .pointer (some ⟨G,0,none⟩)∧Kept w (w1.alloc (Obj.cells #[.int .i64 (ps.cf:Int),.int .i64 (ps.cs:Int),.int .i64 (ps.cb:Int),.int .i64 (ps.rf:Int),.int .i64 (ps.rs:Int),.int .i64 (ps.rb:Int)] 146))∧PsAt w (w1.alloc (Obj.cells #[.int .i64 (ps.cf:Int),.int .i64 (ps.cs:Int),.int .i64 (ps.cb:Int),.int .i64 (ps.rf:Int),.int .i64 (ps.rs:Int),.int .i64 (ps.rb:Int)] 146)) ps G:=by
 refine ⟨w1.heap.size,rfl,Below.alloc h h.size _,h.size,by simp,?_,?_,?_,?_,?_,?_⟩
 all_goals exact (World.cell?_alloc_at _ _ _ _ rfl).trans rfl
theorem psAt_old {w w1:World} {ps:Ps} (h:Kept w w1) (y0:w1.cell? ⟨w.heap.size,0,none⟩=some (.int .i64 0)) (y1:w1.cell? ⟨w.heap.size,1,none⟩=some (.int .i64 0)) (y2:w1.cell? ⟨w.heap.size,2,none⟩=some (.int .i64 0)) (y3:w1.cell? ⟨w.heap.size,3,none⟩=some (.int .i64 0)) (y4:w1.cell? ⟨w.heap.size,4,none⟩=some (.int .i64 0)) (y5:w1.cell? ⟨w.heap.size,5,none⟩=some (.int .i64 0)):∃ G:Nat,Value.pointer (some ⟨w.heap.size,0,none⟩) = .pointer (some ⟨G,0,none⟩)∧Kept w ((((((w1.setCell ⟨w.heap.size,0,none⟩ (.int .i64 (ps.cf:Int))).setCell ⟨w.heap.size,1,none⟩ (.int .i64 (ps.cs:Int))).setCell ⟨w.heap.size,2,none⟩ (.int .i64 (ps.cb:Int))).setCell ⟨w.heap.size,3,none⟩ (.int .i64 (ps.rf:Int))).setCell ⟨w.heap.size,4,none⟩ (.int .i64 (ps.rs:Int))).setCell ⟨w.heap.size,5,none⟩ (.int .i64 (ps.rb:Int)))∧PsAt w ((((((w1.setCell ⟨w.heap.size,0,none⟩ (.int .i64 (ps.cf:Int))).setCell ⟨w.heap.size,1,none⟩ (.int .i64 (ps.cs:Int))).setCell ⟨w.heap.size,2,none⟩ (.int .i64 (ps.cb:Int))).setCell ⟨w.heap.size,3,none⟩ (.int .i64 (ps.rf:Int))).setCell ⟨w.heap.size,4,none⟩ (.int .i64 (ps.rs:Int))).setCell ⟨w.heap.size,5,none⟩ (.int .i64 (ps.rb:Int))) ps G:=by
 have oth:∀ (W':World) (a b:Nat) (u:Value),a≠b→(W'.setCell ⟨w.heap.size,a,none⟩ u).cell? ⟨w.heap.size,b,none⟩=W'.cell? ⟨w.heap.size,b,none⟩:=fun W' a b u h=>cell_set_other _ _ _ _ _ h
 have hlt:w.heap.size<w1.heap.size:=World.block_lt_of_cell? _ _ y0
 refine ⟨w.heap.size,rfl,Below.setCell (Below.setCell (Below.setCell (Below.setCell (Below.setCell (Below.setCell h (Nat.le_refl _) _) (Nat.le_refl _) _) (Nat.le_refl _) _) (Nat.le_refl _) _) (Nat.le_refl _) _) (Nat.le_refl _) _,Nat.le_refl _,by simpa [World.setCell] using hlt,?_,?_,?_,?_,?_,?_⟩
 ·rw[oth _ 5 0 _ (by omega),oth _ 4 0 _ (by omega),oth _ 3 0 _ (by omega),oth _ 2 0 _ (by omega),oth _ 1 0 _ (by omega)];exact cell_set_same y0 _
 ·rw[oth _ 5 1 _ (by omega),oth _ 4 1 _ (by omega),oth _ 3 1 _ (by omega),oth _ 2 1 _ (by omega)];exact cell_set_same (by rw[oth _ 0 1 _ (by omega)];exact y1) _
 ·rw[oth _ 5 2 _ (by omega),oth _ 4 2 _ (by omega),oth _ 3 2 _ (by omega)];exact cell_set_same (by rw[oth _ 1 2 _ (by omega),oth _ 0 2 _ (by omega)];exact y2) _
 ·rw[oth _ 5 3 _ (by omega),oth _ 4 3 _ (by omega)];exact cell_set_same (by rw[oth _ 2 3 _ (by omega),oth _ 1 3 _ (by omega),oth _ 0 3 _ (by omega)];exact y3) _
 ·rw[oth _ 5 4 _ (by omega)];exact cell_set_same (by rw[oth _ 3 4 _ (by omega),oth _ 2 4 _ (by omega),oth _ 1 4 _ (by omega),oth _ 0 4 _ (by omega)];exact y4) _
 ·exact cell_set_same (by rw[oth _ 4 5 _ (by omega),oth _ 3 5 _ (by omega),oth _ 2 5 _ (by omega),oth _ 1 5 _ (by omega),oth _ 0 5 _ (by omega)];exact y5) _
theorem wrapTj (T j:Nat) (h:T+j≤1000):IntKind.i64.wrap (IntKind.i64.wrap (T:Int)+(j:Int))=((T+j:Nat):Int):=by
 have e:∀ a:Nat,a≤1000→IntKind.i64.wrap (a:Int)=(a:Int):=fun a ha=>by rw[IntKind.wrap_i64];omega
 rw[e T (by omega),show (T:Int)+(j:Int)=((T+j:Nat):Int) from by omega,e _ h]
theorem zeroAt {w w1:World} (h:Kept (w.alloc (Obj.cells #[.int .i64 0,.int .i64 0,.int .i64 0,.int .i64 0,.int .i64 0,.int .i64 0] 146)).drew w1):w1.cell? ⟨w.heap.size,0,none⟩=some (.int .i64 0)∧w1.cell? ⟨w.heap.size,1,none⟩=some (.int .i64 0)∧w1.cell? ⟨w.heap.size,2,none⟩=some (.int .i64 0)∧w1.cell? ⟨w.heap.size,3,none⟩=some (.int .i64 0)∧w1.cell? ⟨w.heap.size,4,none⟩=some (.int .i64 0)∧w1.cell? ⟨w.heap.size,5,none⟩=some (.int .i64 0)∧∀ j,w1.frozen? ⟨w.heap.size,j,none⟩=false:=by
 have hs:w.heap.size<(w.alloc (Obj.cells #[.int .i64 0,.int .i64 0,.int .i64 0,.int .i64 0,.int .i64 0,.int .i64 0] 146)).drew.heap.size:=by show _<(w.alloc _).heap.size;simp
 have e:∀ j,w1.cell? ⟨w.heap.size,j,none⟩=(#[.int .i64 0,.int .i64 0,.int .i64 0,.int .i64 0,.int .i64 0,.int .i64 0]:Array Value)[j]? := fun j=>(h.cell (p:=⟨w.heap.size,j,none⟩) hs).trans (World.cell?_alloc_at _ _ _ _ rfl)
 exact ⟨e 0,e 1,e 2,e 3,e 4,e 5,fun j=>(h.frozen (p:=⟨w.heap.size,j,none⟩) hs).trans (World.frozen?_alloc_at _ _ _ _ rfl)⟩
theorem layPixels_x (b o n:Nat) (c:Nat→Value) (r:Rw) (w:World) (hB:Blk w b n c) (hV:RwV c o r) (hn:o+1549≤n) (hk:RwIn r) (hg:RwGeo r) (hG:GrdAt w) (hb:b≠0) :
  Calls Tryz.prog 204 #[.pointer (some ⟨b,o,none⟩)] w fun e w'=>e = .returned (.tuple #[])∧RwStep b o n c (layPx r r.columns) w w':=by
 have k4:=hB.at (i:=o+4) (by omega) hV.hd.L
 have k6:=hB.at (i:=o+6) (by omega) hV.pass
 have hp0:=hk.pass0
 have hp7:=hk.pass7
 have eP:r.pass=((r.pass.toNat:Nat):Int):=by omega
 rw[eP] at k6
 have FO:Hid (∀ W':World,Kept w W'→Calls Tryz.prog 95 #[.int .i64 (r.hd.L:Int),.int .i64 (r.pass.toNat:Int)] W' fun e w'=>e = .returned (psV r.ps)∧Kept W' w'):=fun W' k=>psOf_x _ _ W' hk.ok.L (by omega) (hG.kept k)
 have HPok:Hid _:=psOf_ok r.hd.L r.pass.toNat
 have HB:Hid (Blk w b n c):=hB
 have HV:Hid (RwV c o r):=hV
 have HK:Hid (RwIn r):=hk
 have HGeo:Hid (RwGeo r):=hg
 have hbw:=hB.lt
 replace eP:Hid _:=eP
 generalize hPP:r.pass.toNat=PP at *
 replace hPP:Hid _:=hPP
 generalize hLL:r.hd.L=LL at *
 replace hLL:Hid _:=hLL
 obtain ⟨ps,hps⟩:∃ p,p=r.ps:=⟨_,rfl⟩
 rw[← hps] at FO
 replace hps:Hid _:=hps
 clear hB hV hk hg hG
 unfold psV at FO
 go_enter Tryz.func204,Tryz.ntmps204
 go_wp2_with fail
 have HA:Hid (Kept w (w.alloc (Obj.cells #[.int .i64 0,.int .i64 0,.int .i64 0,.int .i64 0,.int .i64 0,.int .i64 0] 146))):=Below.alloc (Below.refl _ _) (Nat.le_refl _) _
 have k4':∀ o',(w.alloc o').cell? ⟨b,o+4,none⟩=some (.int .i64 (LL:Int)):=fun o'=>(World.cell?_alloc_lt _ _ _ hbw).trans k4
 have k6':∀ o',(w.alloc o').cell? ⟨b,o+6,none⟩=some (.int .i64 (PP:Int)):=fun o'=>(World.cell?_alloc_lt _ _ _ hbw).trans k6
 go_cut [2] from 9 (fun v W=>∃ G:Nat,v = .pointer (some ⟨G,0,none⟩)∧Kept w W∧PsAt w W ps G)
 case first=>
  go_region_with (go_at_call 95;refine (FO.out _ (by first | exact (Kept.refl _).drewN 1 | exact HA.out.drewN 1)).mono ?_;rintro e w1 ⟨rfl,hk1⟩;first | (have yy:=zeroAt hk1;obtain ⟨y0,y1,y2,y3,y4,y5,yf⟩:=yy;have hk2:=Kept.trans (HA.out.drewN 1) hk1) | (have hk2:=Kept.trans ((Kept.refl w).drewN 1) hk1))
  all_goals
   clear k4' k6'
   go_wp2_with fail
   go_meet
   case rel=>
    first
     | exact psAt_old hk2 y0 y1 y2 y3 y4 y5
     | exact psAt_new hk2
 case rest=>
  obtain ⟨G,rfl,hkc,hPs⟩:=hcut
  clear k4 k6 k4' k6' FO HA
  have B1:Hid (Blk wc b n c):=HB.out.kept hkc
  have HK1:Hid (Kept w wc):=hkc
  have HPs:Hid (PsAt w wc ps G):=hPs
  obtain ⟨g0,g1,c0,c1,c2,c3,c4,c5⟩:=hPs
  have k7:=B1.out.at (i:=o+7) (by omega) HV.out.line
  have hGb:G≠b:=by omega
  obtain ⟨q1,q2,q3,q4,q5,q6,q7,q8⟩:=HPok.out
  have hln:=HK.out.line
  have hpsE:ps=psOf LL PP:=by rw[hps.out];unfold Rw.ps;rw[hLL.out,hPP.out]
  rw[← hpsE] at q1 q2 q3 q4 q5 q6 q7 q8
  replace hpsE:Hid _:=hpsE
  have FPr:Hid (∀ (W':World),Calls Tryz.prog 150 #[.agg #[.int .i64 (ps.rf:Int),.int .i64 (ps.rs:Int),.int .i64 (ps.rb:Int)],.int .i64 (r.line:Int)] W' fun e w'=>e = .returned (.int .i64 (r.py:Int))∧Kept W' w'):=fun W'=>by
   have:=place_x ps.rf ps.rs ps.rb r.line W' (by omega) (by omega) (by omega)
   rw[show r.py=ps.rf+r.line*ps.rs from by rw[hps.out];rfl];exact this
  have FPc:Hid (∀ (W':World) (i:Nat),i≤1000→Calls Tryz.prog 150 #[.agg #[.int .i64 (ps.cf:Int),.int .i64 (ps.cs:Int),.int .i64 (ps.cb:Int)],.int .i64 (i:Int)] W' fun e w'=>e = .returned (.int .i64 (r.px i:Int))∧Kept W' w'):=fun W' i hi=>by
   have:=place_x ps.cf ps.cs ps.cb i W' (by omega) (by omega) hi
   rw[show r.px i=ps.cf+i*ps.cs from by rw[hps.out];rfl];exact this
  clear hkc
  go_wp2_with fail
  go_region_held3 (fun W=>W.cell? ⟨G,3,none⟩=some (.int .i64 (ps.rf:Int))∧W.cell? ⟨G,4,none⟩=some (.int .i64 (ps.rs:Int))∧W.cell? ⟨G,5,none⟩=some (.int .i64 (ps.rb:Int))∧W.cell? ⟨b,o+7,none⟩=some (.int .i64 (r.line:Int))) (first | exact ⟨c3,c4,c5,k7⟩ | exact hS2.out | go_keep) ((go_at_call 150;refine (FPr.out _).mono ?_;rintro e w2 ⟨rfl,hk2⟩;have hk2':Kept wc w2:=((Kept.refl _).drewN 1).trans hk2;have hS2:Hid (w2.cell? ⟨G,3,none⟩=some (.int .i64 (ps.rf:Int))∧w2.cell? ⟨G,4,none⟩=some (.int .i64 (ps.rs:Int))∧w2.cell? ⟨G,5,none⟩=some (.int .i64 (ps.rb:Int))∧w2.cell? ⟨b,o+7,none⟩=some (.int .i64 (r.line:Int))):=⟨(hk2'.cell (p:=⟨G,3,none⟩) g1).trans c3,(hk2'.cell (p:=⟨G,4,none⟩) g1).trans c4,(hk2'.cell (p:=⟨G,5,none⟩) g1).trans c5,(hk2'.cell (p:=⟨b,o+7,none⟩) B1.out.lt).trans k7⟩))
  have B2:Hid (Blk w2 b n c):=B1.out.kept hk2'
  have HK2:Hid (Kept w w2):=HK1.out.trans hk2'
  have HC2:Hid (w2.cell? ⟨G,0,none⟩=some (.int .i64 (ps.cf:Int))∧w2.cell? ⟨G,1,none⟩=some (.int .i64 (ps.cs:Int))∧w2.cell? ⟨G,2,none⟩=some (.int .i64 (ps.cb:Int))):=⟨(hk2'.cell (p:=⟨G,0,none⟩) g1).trans c0,(hk2'.cell (p:=⟨G,1,none⟩) g1).trans c1,(hk2'.cell (p:=⟨G,2,none⟩) g1).trans c2⟩
  have hG2:G<w2.heap.size:=Nat.lt_of_lt_of_le g1 hk2'.size
  clear hS2 hk2 hk2' c0 c1 c2 c3 c4 c5 k7 HPs B1 HK1 HB
  have hY16:r.py<16:=HGeo.out.py
  clear FPr
  have k3:=B2.out.at (i:=o+3) (by omega) HV.out.hd.K
  have hK6:=HK.out.ok.K
  go_wp2_with fail
  refine (samples_x r.hd.K _ (by omega)).mono ?_
  rintro e w3 ⟨rfl,hw3⟩
  subst w3
  have hch:=chn_le r.hd.K
  obtain ⟨C,hC⟩:∃ C,C=chn r.hd.K:=⟨_,rfl⟩
  rw[← hC] at hch ⊢
  replace hC:Hid _:=hC
  have FI:Hid (∀ (W':World) (x:Nat),x<16→Calls Tryz.prog 124 #[.int .i64 (x:Int),.int .i64 (r.py:Int)] W' fun e w'=>e = .returned (.tuple #[.int .i64 ((r.py*16+x:Nat):Int),.bool true])∧w'=W'):=fun W' x hx=>by
   have:=index_x x r.py W' (by omega) (by omega)
   rw[if_pos ⟨hx,hY16⟩,decide_eq_true (⟨hx,hY16⟩:x<16∧r.py<16)] at this
   exact this
  have hcol:=HK.out.col
  go_wp2_with fail
  go_loopg [5] r.columns (fun k v W=>∃ i:Nat,∃ d:Nat→Value,v = .int .i64 (i:Int)∧i≤r.columns∧k=r.columns - i∧Blk W b n d∧RwV d o (layPx r i)∧FrC b o (o+1549) c d∧Fr1 b w2 W)
  case atStart=>exact ⟨0,c,rfl,by omega,by omega,B2.out,HV.out,FrC.refl _ _ _ _,Fr.refl _ _⟩
  case round=>
   obtain ⟨i,d,rfl,hi1,hgk,hBr,hVr,hFr,hfr⟩:=hrel
   clear k3
   obtain ⟨e1,e2,e3,e4,e5,e6⟩:=layPx_same r i
   have k8:=hBr.at (i:=o+8) (by omega) hVr.columns
   rw[e5] at k8
   have G0:=(hfr.cell (k:=0) hG2 hGb).trans HC2.out.1
   have G1:=(hfr.cell (k:=1) hG2 hGb).trans HC2.out.2.1
   have G2:=(hfr.cell (k:=2) hG2 hGb).trans HC2.out.2.2
   have HBr:Hid (Blk wr b n d):=hBr
   have HVr:Hid (RwV d o (layPx r i)):=hVr
   have HFr:Hid (FrC b o (o+1549) c d):=hFr
   have Hfr:Hid (Fr1 b w2 wr):=hfr
   clear hBr hVr hFr hfr e1 e2 e3 e4 e5 e6
   replace hgk:Hid _:=hgk
   by_cases hlt:i<r.columns
   ·have l1:(i:Int)<(r.columns:Int):=by omega
    have hx16:=HGeo.out.px i hlt
    go_wp2_with fail
    refine (FPc.out _ i (by omega)).mono ?_
    rintro e w4 ⟨rfl,hk4⟩
    have B4:Hid (Blk w4 b n d):=HBr.out.kept hk4
    have H4:Hid (Fr1 b w2 w4):=Hfr.out.kept hk4
    clear hk4 HBr Hfr G0 G1 G2 k8
    go_wp2_with fail
    refine (FI.out _ (r.px i) hx16).mono ?_
    rintro e w5 ⟨rfl,hw5⟩
    subst w5
    obtain ⟨A,hA⟩:∃ A,A=r.py*16+r.px i:=⟨_,rfl⟩
    rw[← hA]
    have HA1:Hid (A=r.pt i):=hA
    have hA16:A<256:=by omega
    clear hA
    have hfit:(i+1)*C*r.hd.D≤1024:=by
     have h1:=HK.out.fit
     unfold bitsP at h1
     rw[← hC.out,← Nat.mul_assoc] at h1
     exact Nat.le_trans (Nat.mul_le_mul_right _ (Nat.mul_le_mul_right _ hlt)) h1
    obtain ⟨T,hT⟩:∃ T,T=i*C:=⟨_,rfl⟩
    have eT:(i:Int)*(C:Int)=(T:Int):=by rw[hT];simp
    have hT64:T≤64:=by rw[hT];exact Nat.mul_le_mul (show i≤16 by omega) hch
    have HT:Hid (T=i*C):=hT
    have FSm:Hid (∀ (W':World) (d':Nat→Value) (j:Nat),j<C→Blk W' b n d'→RwV d' o (laySm (layPx r i) A (fun k=>smpO r (T+k)) j)→Calls Tryz.prog 205 #[.pointer (some ⟨b,o,none⟩),.int .i64 ((T+j:Nat):Int)] W' fun e w'=>e = .returned (.int .u16 (smpO r (T+j):Int))∧∃ q,w'=W'.drewN q):=fun W' d' j hj hB' hV'=>by
     have hs:=laySm_same (layPx_same r i) A (fun k=>smpO r (T+k)) j
     have hd:(laySm (layPx r i) A (fun k=>smpO r (T+k)) j).hd.D=r.hd.D:=by rw[hs.1]
     have hfj:(T+j+1)*r.hd.D≤1024:=Nat.le_trans (Nat.mul_le_mul_right _ (by rw[hT,Nat.add_mul,Nat.one_mul];omega)) hfit
     rw[Nat.add_mul,Nat.one_mul] at hfj
     have:=sample_x b o n (T+j) d' _ W' hB' hV' hn (hs.ok HK.out.ok) (by rw[hd];exact HK.out.dd) (by rw[hd];exact hfj) (by omega)
     rw[hs.smp] at this
     exact this
    have HLT:Hid (∀ j,smpO r j<65536):=smpO_lt HK.out.ok
    clear hfit hT
    go_wp2_with fail
    go_loopg [8] C (fun k v W=>∃ j:Nat,∃ d':Nat→Value,v = .int .i64 (j:Int)∧j≤C∧k=C - j∧Blk W b n d'∧RwV d' o (laySm (layPx r i) A (fun k=>smpO r (T+k)) j)∧FrC b o (o+1549) c d'∧Fr1 b w2 W)
    case atStart=>exact ⟨0,d,rfl,by omega,by omega,B4.out,HVr.out,HFr.out,H4.out⟩
    case round=>
     obtain ⟨j,d',rfl,hj1,hgk2,hBr,hVr,hFr,hfr⟩:=hrel
     have B5:Hid (Blk wr b n d'):=hBr
     have V5:Hid (RwV d' o (laySm (layPx r i) A (fun k=>smpO r (T+k)) j)):=hVr
     have F5:Hid (FrC b o (o+1549) c d'):=hFr
     have H5:Hid (Fr1 b w2 wr):=hfr
     clear hBr hVr hFr hfr B4 HVr HFr H4
     replace hgk2:Hid _:=hgk2
     by_cases hlt2:j<C
     ·have l2:(j:Int)<(C:Int):=by omega
      have l3:(j:Int)<4:=by omega
      have j0:(0:Int)≤(j:Int):=by omega
      have a0:(0:Int)≤(A:Int):=by omega
      have a1:(A:Int)<256:=by omega
      have FS1:Hid (∀ W',(∃ q,W'=wr.drewN q)→Calls Tryz.prog 205 #[.pointer (some ⟨b,o,none⟩),.int .i64 ((T+j:Nat):Int)] W' fun e w'=>e = .returned (.int .u16 (smpO r (T+j):Int))∧∃ q',w'=wr.drewN q'):=fun W' ⟨q,hq⟩=>(FSm.out W' d' j hlt2 (by rw[hq];exact B5.out.kept ((Kept.refl _).drewN q)) V5.out).mono (fun e w' ⟨h1,m,h2⟩=>⟨h1,q+m,by rw[h2,hq,World.drewN_drewN]⟩)
      have eTj:IntKind.i64.wrap (IntKind.i64.wrap (T:Int)+(j:Int))=((T+j:Nat):Int):=wrapTj T j (by omega)
      replace eTj:Hid _:=eTj
      have ks:=B5.out.at (i:=o+525+(4*A+j)) (by omega) (V5.out.smp (4*A+j) (by omega))
      have zs:=B5.out.fz (o+525+(4*A+j))
      have eAd:o+525+(4*A+j)=o+525+A*4+j:=by omega
      rw[eAd] at ks zs
      obtain ⟨OV,ks⟩:∃ OV,wr.cell? ⟨b,o+525+A*4+j,none⟩=some OV:=⟨_,ks⟩
      have hsl:=HLT.out (T+j)
      generalize hSS:smpO r (T+j)=SS at *
      replace hSS:Hid _:=hSS
      go_upto_block 3 with fail
      go_cut [] from 51 to 73 (fun W=>∃ q,W=(wr.drewN q).setCell ⟨b,o+525+A*4+j,none⟩ (.int .u16 (SS:Int)))
      case first=>
       go_wp2_with fail
       go_region_with (go_at_call 205;rw[eTj.out];refine (FS1.out _ ⟨1,rfl⟩).mono ?_;rintro e w6 ⟨rfl,q',hq⟩;have ks6:w6.cell? ⟨b,o+525+A*4+j,none⟩=some OV:=(by rw[hq];exact ks);have zs6:w6.frozen? ⟨b,o+525+A*4+j,none⟩=false:=(by rw[hq];exact zs);replace hq:Hid _:=hq)
       all_goals
        go_wp2_with fail
        go_meet
        case rel=>exact ⟨q',by rw[← hq.out]⟩
      case rest=>
       obtain ⟨q,hq⟩:=hcut
       have B6:Blk wc b n (upd d' (o+525+(4*A+j)) (.int .u16 (SS:Int))):=by
        rw[hq,← eAd]
        exact (B5.out.kept ((Kept.refl _).drewN q)).set (by omega) _
       have V6:RwV (upd d' (o+525+(4*A+j)) (.int .u16 (SS:Int))) o (laySm (layPx r i) A (fun k=>smpO r (T+k)) (j+1)):=by
        have:=V5.out.set_smp (4*A+j) SS (by omega)
        rw[← hSS.out] at this ⊢
        exact this
       have F6:FrC b o (o+1549) c (upd d' (o+525+(4*A+j)) (.int .u16 (SS:Int))):=F5.out.trans (FrC.upd _ (by omega) (by omega))
       have H6:Fr1 b w2 wc:=by
        rw[hq]
        exact Fr1.set (Fr1.drewN H5.out q) _ _
       replace B6:Hid _:=B6
       replace V6:Hid _:=V6
       replace F6:Hid _:=F6
       replace H6:Hid _:=H6
       clear hq ks zs
       go_wp2_with fail
       go_roundg (C - (j+1))
       case measure=>rw[hgk2.out];omega
       case rel=>exact ⟨j+1,_,by go_num,by omega,rfl,B6.out,V6.out,F6.out,H6.out⟩
     ·have l2:¬ (j:Int)<(C:Int):=by omega
      have hj:Hid (j=C):=by show j=C;omega
      have kn:=B5.out.at (i:=o+269+A) (by omega) (V5.out.known A (by omega))
      have zn:=B5.out.fz (o+269+A)
      have a0:(0:Int)≤(A:Int):=by omega
      have a1:(A:Int)<256:=by omega
      go_wp2_with fail
      go_roundg (r.columns - (i+1))
      case measure=>rw[hgk.out];omega
      case rel=>
       refine ⟨i+1,upd d' (o+269+A) (.bool true),by go_num,by omega,rfl,B5.out.set (by omega) _,?_,F5.out.trans (FrC.upd _ (by omega) (by omega)),Fr1.set H5.out _ _⟩
       have:=V5.out.set_known A true (by omega)
       rw[hj.out] at this
       have e:layPx r (i+1)={ laySm (layPx r i) A (fun k=>smpO r (T+k)) C with known:=upd (laySm (layPx r i) A (fun k=>smpO r (T+k)) C).known A true }:=by
        rw[HA1.out,HT.out,hC.out];rfl
       rw[e]
       exact this
   ·have l1:¬ (i:Int)<(r.columns:Int):=by omega
    have hi:i=r.columns:=by omega
    go_wp2_with fail
    go_end0
    exact ⟨rfl,d,HBr.out,by rw[← hi];exact HVr.out,HFr.out,Fr.trans' (Fr.of_kept HK2.out) Hfr.out (fun k _ q=>q)⟩
def Rw.takeF (r:Rw) (x:Nat):Rw × Nat:=if 4<x then (r,15) else ({ r with filter:=x },0)
theorem RwStep.refl {b o n:Nat} {c:Nat→Value} {r:Rw} {w:World} (hB:Blk w b n c) (hV:RwV c o r):RwStep b o n c r w w:=⟨c,hB,hV,FrC.refl _ _ _ _,Fr.refl _ _⟩
theorem takeFilter_x (b o n x:Nat) (c:Nat→Value) (r:Rw) (w:World) (hB:Blk w b n c) (hV:RwV c o r) (hn:o+1549≤n) (hx:x<256) :
  Calls Tryz.prog 197 #[.pointer (some ⟨b,o,none⟩),.int .u8 (x:Int)] w fun e w'=>e = .returned (.int .i64 ((r.takeF x).2:Int))∧RwStep b o n c (r.takeF x).1 w w':=by
 have k:=hB.at (i:=o+12) (by omega) hV.filter
 have z:=hB.fz (o+12)
 have HB:Hid (Blk w b n c):=hB
 have HV:Hid (RwV c o r):=hV
 clear hB hV
 by_cases h:4<x
 ·have h':(4:Int)<(x:Int):=by omega
  have e:r.takeF x=(r,15):=by unfold Rw.takeF;rw[if_pos h]
  rw[e]
  clear e
  go_enter Tryz.func197,Tryz.ntmps197
  go_wp2
  go_ret
  exact ⟨rfl,RwStep.refl HB.out HV.out⟩
 ·have h':¬ (4:Int)<(x:Int):=by omega
  have e:r.takeF x=({ r with filter:=x },0):=by unfold Rw.takeF;rw[if_neg h]
  rw[e]
  clear e
  go_enter Tryz.func197,Tryz.ntmps197
  go_wp2
  go_ret
  exact ⟨rfl,_,HB.out.set (by omega) _,HV.out.set_filter x,FrC.upd _ (by omega) (by omega),Fr1.set (Fr.refl _ _) _ _⟩
def StStep (b o n:Nat) (c:Nat→Value) (s':St) (w w':World):Prop:=∃ d,Blk w' b n d∧StV d o s'∧FrC b o (o+3351) c d∧Fr1 b w w'
def St.enter (s:St) (p k:Nat):St:={ s with part:=p,wanted:=k,got:=0,number:=0,path:=⟨0,0,0⟩ }
theorem senter_x (b o n p k:Nat) (c:Nat→Value) (s:St) (w:World) (hB:Blk w b n c) (hV:StV c o s) (hn:o+3351≤n) :
  Calls Tryz.prog 154 #[.pointer (some ⟨b,o,none⟩),.int .i64 (p:Int),.int .u64 (k:Int)] w fun e w'=>e = .returned (.tuple #[])∧StStep b o n c (s.enter p k) w w':=by
 have k0:=hB.at (i:=o) (by omega) hV.part
 have k1:=hB.at (i:=o+1) (by omega) hV.number
 have k2:=hB.at (i:=o+2) (by omega) hV.got
 have k3:=hB.at (i:=o+3) (by omega) hV.wanted
 have k4:=hB.at (i:=o+4) (by omega) hV.path.bits
 have k5:=hB.at (i:=o+4+1) (by omega) hV.path.offset
 have k6:=hB.at (i:=o+4+2) (by omega) hV.path.ahead
 have z:=hB.fz
 have HB:Hid (Blk w b n c):=hB
 have HV:Hid (StV c o s):=hV
 clear hB hV
 go_enter Tryz.func154,Tryz.ntmps154
 go_wp2
 go_end0
 have B:=((((((HB.out.set (k:=o) (by omega) (.int .i64 (p:Int))).set (k:=o+3) (by omega) (.int .u64 (k:Int))).set (k:=o+2) (by omega) (.int .u64 0)).set (k:=o+1) (by omega) (.int .u32 0)).set (k:=o+4) (by omega) (.int .i64 0)).set (k:=o+4+1) (by omega) (.int .i64 0)).set (k:=o+4+2) (by omega) (.int .i64 0)
 have V1:=(((HV.out.set_part p).set_wanted k).set_got 0).set_number 0
 have P1:PtV _ (o+4) ⟨0,0,0⟩:=((V1.path.set_bits 0).set_offset 0).set_ahead 0
 refine ⟨rfl,_,B,V1.set_path ⟨0,0,0⟩ P1 (fun i hi => ?_),?_,?_⟩
 ·rw[upd_ne _ _ _ (by omega),upd_ne _ _ _ (by omega),upd_ne _ _ _ (by omega)]
  rfl
 ·exact ⟨fun i hi=>by rw[upd_ne _ _ _ (by omega),upd_ne _ _ _ (by omega),upd_ne _ _ _ (by omega),upd_ne _ _ _ (by omega),upd_ne _ _ _ (by omega),upd_ne _ _ _ (by omega),upd_ne _ _ _ (by omega)]⟩
 ·exact Fr1.set (Fr1.set (Fr1.set (Fr1.set (Fr1.set (Fr1.set (Fr1.set (Fr.refl _ _) _ _) _ _) _ _) _ _) _ _) _ _) _ _
theorem sended_x (b o n:Nat) (c:Nat→Value) (s:St) (w:World) (hB:Blk w b n c) (hV:StV c o s) (hn:o+3351≤n) :
  Calls Tryz.prog 110 #[.pointer (some ⟨b,o,none⟩)] w fun e w'=>e = .returned (.bool (decide (s.part=10)))∧w'=w:=by
 have k0:=hB.at (i:=o) (by omega) hV.part
 clear hB hV
 go_enter Tryz.func110,Tryz.ntmps110
 go_wp2
 go_ret
 exact ⟨ret_bool (by rw[Bool.eq_iff_iff,beq_iff_eq,decide_eq_true_iff];omega),rfl⟩
def zHead (n:Nat):Bool:=decide (n % 256 % 16=8∧n % 256 / 16≤7∧(256*(n % 256)+n / 256) % 31=0∧n / 256 / 32 % 2=0)
def St.takeHead (s:St) (n:Nat):St × Nat:=if zHead n then (({ s with window:=256*2^(n % 256 / 16) }:St).enter 1 3,0) else (s,10)
theorem u32_and_mask (n k:Nat) (h:n<4294967296) (hk:k≤31):bits .and .u32 (n:Int) ((2^k - 1:Nat):Int)=((n % 2^k:Nat):Int):=by
 have hp:2^k≤2^31:=Nat.pow_le_pow_right (n:=2) (by omega) hk
 show IntKind.u32.wrap ((BitVec.ofInt 32 (n:Int) &&& BitVec.ofInt 32 ((2^k - 1:Nat):Int)).toNat:Int)=_
 have e1:(BitVec.ofInt 32 (n:Int)).toNat=n:=by rw[BitVec.ofInt_natCast,BitVec.toNat_ofNat];exact Nat.mod_eq_of_lt (by omega)
 have e2:(BitVec.ofInt 32 ((2^k - 1:Nat):Int)).toNat=2^k - 1:=by rw[BitVec.ofInt_natCast,BitVec.toNat_ofNat];exact Nat.mod_eq_of_lt (by omega)
 have:n % 2^k≤n:=Nat.mod_le _ _
 rw[BitVec.toNat_and,e1,e2,Nat.and_two_pow_sub_one_eq_mod,IntKind.wrap_u32]
 omega
theorem u32_and_255 (n:Nat) (h:n<4294967296):bits .and .u32 (n:Int) 255=((n % 256:Nat):Int):=u32_and_mask n 8 h (by omega)
theorem u32_and_1 (n:Nat) (h:n<4294967296):bits .and .u32 (n:Int) 1=((n % 2:Nat):Int):=u32_and_mask n 1 h (by omega)
theorem u32_and_65535 (n:Nat) (h:n<4294967296):bits .and .u32 (n:Int) 65535=((n % 65536:Nat):Int):=u32_and_mask n 16 h (by omega)
theorem nat_and_32 (n:Nat) (h:n<256):n &&& 32=n / 32 % 2*32:=by
 have h1:(n &&& 32) % 32=0:=by
  have:(n &&& 32) % 2^5=(n % 2^5) &&& (32 % 2^5):=Nat.and_mod_two_pow
  rw[show (2^5:Nat)=32 from rfl] at this
  rw[this];simp
 have h2:(n &&& 32) / 32=n / 32 % 2:=by
  have:(n &&& 32) / 2^5=(n / 2^5) &&& (32 / 2^5):=Nat.and_div_two_pow
  rw[show (2^5:Nat)=32 from rfl] at this
  rw[this];exact nat_mask1 _
 omega
theorem u32_and_32 (n:Nat) (h:n<256):bits .and .u32 (n:Int) 32=((n / 32 % 2*32:Nat):Int):=by
 show IntKind.u32.wrap ((BitVec.ofInt 32 (n:Int) &&& BitVec.ofInt 32 32).toNat:Int)=_
 have e1:(BitVec.ofInt 32 (n:Int)).toNat=n:=by rw[BitVec.ofInt_natCast,BitVec.toNat_ofNat];exact Nat.mod_eq_of_lt (by omega)
 have e2:(BitVec.ofInt 32 32).toNat=32:=rfl
 rw[BitVec.toNat_and,e1,e2,nat_and_32 n h,IntKind.wrap_u32]
 omega
theorem takeHead_x (b o n v:Nat) (c:Nat→Value) (s:St) (w:World) (hB:Blk w b n c) (hV:StV c o s) (hn:o+3351≤n) (hv:v<65536) :
  Calls Tryz.prog 177 #[.pointer (some ⟨b,o,none⟩),.int .u32 (v:Int)] w fun e w'=>e = .returned (.int .i64 ((s.takeHead v).2:Int))∧StStep b o n c (s.takeHead v).1 w w':=by
 have ea:=u32_and_255 v (by omega)
 have k8:=hB.at (i:=o+8) (by omega) hV.window
 have z8:=hB.fz (o+8)
 have HB:Hid (Blk w b n c):=hB
 have HV:Hid (StV c o s):=hV
 clear hB hV
 obtain ⟨C,hC⟩:∃ C,C=v % 256:=⟨_,rfl⟩
 obtain ⟨F,hF⟩:∃ F,F=v / 256:=⟨_,rfl⟩
 have hC2:C<256:=by omega
 have hF2:F<256:=by omega
 have eF:(v:Int) / 256=(F:Int):=by omega
 have ef:=u32_and_32 F hF2
 rw[← hC] at ea
 have HZ:Hid (zHead v=decide (C % 16=8∧C / 16≤7∧(256*C+F) % 31=0∧F / 32 % 2=0)):=by
  show zHead v=decide (C % 16=8∧C / 16≤7∧(256*C+F) % 31=0∧F / 32 % 2=0)
  unfold zHead;rw[hC,hF]
 obtain ⟨E,hE⟩:∃ E,E=F / 32 % 2*32:=⟨_,rfl⟩
 rw[← hE] at ef
 have hE1:E=0∨E=32:=by omega
 have HE:Hid (E=0 ↔ F / 32 % 2=0):=by show E=0 ↔ F / 32 % 2=0;omega
 have HS:Hid (s.takeHead v=if zHead v then (({ s with window:=256*2^(C / 16) }:St).enter 1 3,0) else (s,10)):=by
  show s.takeHead v=_
  unfold St.takeHead;rw[hC]
 replace hC:Hid _:=hC
 replace hF:Hid _:=hF
 replace hE:Hid _:=hE
 by_cases h:C % 16=8∧C / 16≤7∧(256*C+F) % 31=0∧E=0
 ·obtain ⟨h1,h2,h3,h4⟩:=h
  have h1':((C:Int) % 16 != 8)=false:=by rw[bne_eq_false_iff_eq];omega
  have h2':¬ (7:Int)<(C:Int) / 16:=by omega
  have h3':((256*(C:Int)+(F:Int)) % 31 != 0)=false:=by rw[bne_eq_false_iff_eq];omega
  subst h4
  have e0:s.takeHead v=(({ s with window:=256*2^(C / 16) }:St).enter 1 3,0):=by rw[HS.out,HZ.out,decide_eq_true ⟨h1,h2,h3,HE.out.1 rfl⟩];rfl
  rw[e0]
  clear e0 HE HS HZ hE1
  have hp:2^(C / 16)≤2^7:=Nat.pow_le_pow_right (by omega) h2
  obtain ⟨M,hM⟩:∃ M,M=C / 16:=⟨_,rfl⟩
  have eM:(C:Int) / 16=(M:Int):=by omega
  rw[← hM] at hp h2 ⊢
  clear hM
  go_enter Tryz.func177,Tryz.ntmps177
  go_wp2_with fail
  have eW:wrap64 (256*2^M)=((256*2^M:Nat):Int):=by
   have e0:(256*2^M:Int)=((256*2^M:Nat):Int):=by simp
   rw[e0]
   unfold wrap64
   omega
  rw[eW]
  refine (senter_x b o n 1 3 _ { s with window:=256*2^M } _ (HB.out.set (by omega) _) (HV.out.set_window _) hn).mono ?_
  rintro e w1 ⟨rfl,d,h1,h2,h3,h4⟩
  go_wp2_with fail
  go_ret
  exact ⟨rfl,d,h1,h2,(FrC.upd _ (by omega) (by omega)).trans h3,(Fr1.set (Fr.refl _ _) _ _).trans h4⟩
 ·have e0:s.takeHead v=(s,10):=by
   rw[HS.out,HZ.out,decide_eq_false (fun q=>h ⟨q.1,q.2.1,q.2.2.1,HE.out.2 q.2.2.2⟩)];rfl
  rw[e0]
  clear e0 HE HS HZ
  by_cases h1:C % 16=8
  ·have h1':((C:Int) % 16 != 8)=false:=by rw[bne_eq_false_iff_eq];omega
   by_cases h2:C / 16≤7
   ·have h2':¬ (7:Int)<(C:Int) / 16:=by omega
    by_cases h3:(256*C+F) % 31=0
    ·have h3':((256*(C:Int)+(F:Int)) % 31 != 0)=false:=by rw[bne_eq_false_iff_eq];omega
     have hE2:E=32:=by
      rcases hE1 with q | q
      ·exact absurd ⟨h1,h2,h3,q⟩ h
      ·exact q
     subst hE2
     clear h hE1
     go_enter Tryz.func177,Tryz.ntmps177
     go_wp2
     go_ret
     exact ⟨rfl,c,HB.out,HV.out,FrC.refl _ _ _ _,Fr.refl _ _⟩
    ·have h3':((256*(C:Int)+(F:Int)) % 31 != 0)=true:=by rw[bne_iff_ne];omega
     clear h hE1
     go_enter Tryz.func177,Tryz.ntmps177
     go_wp2
     all_goals
      go_ret
      exact ⟨rfl,c,HB.out,HV.out,FrC.refl _ _ _ _,Fr.refl _ _⟩
   ·have h2':(7:Int)<(C:Int) / 16:=by omega
    clear h hE1
    go_enter Tryz.func177,Tryz.ntmps177
    go_wp2
    all_goals
     go_ret
     exact ⟨rfl,c,HB.out,HV.out,FrC.refl _ _ _ _,Fr.refl _ _⟩
  ·have h1':((C:Int) % 16 != 8)=true:=by rw[bne_iff_ne];omega
   clear h hE1
   go_enter Tryz.func177,Tryz.ntmps177
   go_wp2
   all_goals
    go_ret
    exact ⟨rfl,c,HB.out,HV.out,FrC.refl _ _ _ _,Fr.refl _ _⟩
def updL (c:Nat→Value) (k m:Nat) (f:Nat→Value):Nat→Value:=fun i=>if k≤i∧i<k+m then f (i - k) else c i
theorem updL_in {c:Nat→Value} {k m:Nat} {f:Nat→Value} {j:Nat} (h:j<m):updL c k m f (k+j)=f j:=by
 unfold updL;rw[if_pos ⟨by omega,by omega⟩,show k+j - k=j from by omega]
theorem updL_out {c:Nat→Value} {k m:Nat} {f:Nat→Value} {i:Nat} (h:¬ (k≤i∧i<k+m)):updL c k m f i=c i:=if_neg h
theorem store_all {P:Program} {W:World} {b o:Nat} {cs:List Value} (h:W.there b o cs.length) (h1:∀ v ∈ cs,v.oneCell'=true):(storeCells ⟨b,o,none⟩ cs).run P W = .ok () (W.setCells b o cs):=by
 have:=run_storeCells_cells (P:=P) b o cs 0 W (fun j hj=>by rw[Nat.add_zero];exact (h j hj).1) (fun j hj=>by rw[Nat.add_zero];exact (h j hj).2) h1
 rw[Nat.add_zero] at this
 exact this
theorem Blk.there {w:World} {b n:Nat} {c:Nat→Value} (h:Blk w b n c) {k m:Nat} (hk:k+m≤n):w.there b k m:=fun j hj=>⟨by rw[h.cell (k+j) (by omega)];rfl,h.fz _⟩
theorem Blk.range {w:World} {b n:Nat} {c:Nat→Value} (h:Blk w b n c) {k m:Nat} (hk:k+m≤n):w.rangeAt b k ((List.range m).map (fun j=>c (k+j))):=fun j v hv=>by
 rw[List.getElem?_map] at hv
 by_cases hj:j<m
 ·rw[List.getElem?_range hj] at hv
  injection hv with hv
  rw[h.cell (k+j) (by omega),← hv]
 ·rw[List.getElem?_eq_none (by rw[List.length_range];omega)] at hv
  exact absurd hv (by simp)
theorem size_setCells (w:World) (b:Nat):∀ (cs:List Value) (k:Nat) (w:World),(w.setCells b k cs).heap.size=w.heap.size
 | [],_,_=>rfl
 | v::r,k,w=>(size_setCells w b r (k+1) _).trans (by simp [World.setCell])
theorem Blk.sets {w:World} {b n:Nat} {c:Nat→Value} (h:Blk w b n c) {k m:Nat} (hk:k+m≤n) {cs:List Value} (f:Nat→Value) (hl:cs.length=m) (hf:∀ j,j<m→cs[j]? = some (f j)):Blk (w.setCells b k cs) b n (updL c k m f):=by
 refine ⟨fun i hi => ?_,fun i=>by rw[World.frozen?_setCells];exact h.fz i,by rw[size_setCells w];exact h.lt⟩
 by_cases q:k≤i∧i<k+m
 ·obtain ⟨j,rfl⟩:∃ j,i=k+j:=⟨i - k,by omega⟩
  rw[updL_in (by omega)]
  exact World.rangeAt_setCells_same w b k cs (h.there (by omega)) j _ (hf j (by omega))
 ·rw[updL_out q,← h.cell i hi]
  exact World.cell?_setCells_out b cs k w ⟨b,i,none⟩ (fun _ _=>by show i<k∨k+cs.length≤i;omega)
theorem Fr1.sets {b:Nat} {x:World}:∀ (cs:List Value) (k:Nat) {y:World},Fr1 b x y→Fr1 b x (y.setCells b k cs)
 | [],_,_,h=>h
 | v::r,k,_,h=>Fr1.sets r (k+1) (Fr1.set h k v)
theorem FrC.updL {b lo hi k m:Nat} {c:Nat→Value} {f:Nat→Value} (h1:lo≤k) (h2:k+m≤hi):FrC b lo hi c (updL c k m f):=⟨fun i q=>updL_out (fun e=>q ⟨by omega,by omega⟩)⟩
theorem RwV.lay_above {c:Nat→Value} {o:Nat} {r:Rw} (h:RwV c o r) (f:Nat→Nat):RwV (updL c (o+141) 128 (fun j => .int .u8 (f j:Int))) o { r with above:=f } :=
 h.all_above f (fun i hi=>updL_in hi) (fun i hi=>updL_out (fun q=>hi ⟨q.1,by omega⟩))
end Go.Proofs.YtmbmecfodigciaaGreatDoor
