import Derived.Test.YtmbmecfodigciaaGreatDoorGr19
set_option maxRecDepth 100000
set_option maxHeartbeats 6400000
namespace Go.Proofs.YtmbmecfodigciaaGreatDoor
open Go.RowKit Px
set_option linter.unusedSimpArgs false
set_option linter.unusedVariables false
def four (a b c d:Int):Value := .agg #[.int .i64 a,.int .i64 b,.int .i64 c,.int .i64 d]
theorem info4:(Tryz.prog.info? 138).map (·.size)=some 4:=by kernel_rfl
def FourAt (W:World) (g:Nat) (f:Nat→Int):Prop:=W.cell? ⟨g,0,none⟩=some (.int .i64 (f 0))∧W.cell? ⟨g,1,none⟩=some (.int .i64 (f 1))∧W.cell? ⟨g,2,none⟩=some (.int .i64 (f 2))∧W.cell? ⟨g,3,none⟩=some (.int .i64 (f 3))
theorem FourAt.fr {W W':World} {g:Nat} {f:Nat→Int} {S:Nat→Prop} (h:FourAt W g f) (k:Fr S W W') (hS:¬ S g):FourAt W' g f:=by
 have hg:=World.block_lt_of_cell? _ _ h.1
 exact ⟨(k.cell hg hS).trans h.1,(k.cell hg hS).trans h.2.1,(k.cell hg hS).trans h.2.2.1,(k.cell hg hS).trans h.2.2.2⟩
theorem FourAt.kept {W W':World} {g:Nat} {f:Nat→Int} (h:FourAt W g f) (k:Kept W W'):FourAt W' g f:=h.fr (S:=fun _=>False) (Fr.of_kept k) (fun q=>q)
theorem FourAt.get {W:World} {g:Nat} {f:Nat→Int} (h:FourAt W g f) (k:Nat) (hk:k<4):W.cell? ⟨g,k,none⟩=some (.int .i64 (f k)):=by
 match k,hk with
 | 0,_=>exact h.1
 | 1,_=>exact h.2.1
 | 2,_=>exact h.2.2.1
 | 3,_=>exact h.2.2.2
theorem FourAt.of {W:World} {g:Nat} {f:Nat→Int} (h:∀ k,k<4→W.cell? ⟨g,k,none⟩=some (.int .i64 (f k))):FourAt W g f:=⟨h 0 (by omega),h 1 (by omega),h 2 (by omega),h 3 (by omega)⟩
theorem FourAt.set {W:World} {g:Nat} {f f':Nat→Int} (h:FourAt W g f) (k:Nat) (v:Int) (h1:f' k=v) (h2:∀ j,j≠k→j<4→f' j=f j):FourAt (W.setCell ⟨g,k,none⟩ (.int .i64 v)) g f':=FourAt.of (fun j hj=>by
 by_cases e:j=k
 ·subst e;rw[h1];exact cell_set_same (h.get j hj) _
 ·rw[cell_set_other _ _ _ _ _ (fun q=>e q.symm),h2 j e hj];exact h.get j hj)
def pick4 (a b c d:Int):Nat→Int:=fun j=>if j=0 then a else if j=1 then b else if j=2 then c else d
theorem FourAt.put {W:World} {g:Nat} {f:Nat→Int} (h:FourAt W g f) (a b c d:Int):FourAt ((((W.setCell ⟨g,0,none⟩ (.int .i64 a)).setCell ⟨g,1,none⟩ (.int .i64 b)).setCell ⟨g,2,none⟩ (.int .i64 c)).setCell ⟨g,3,none⟩ (.int .i64 d)) g (pick4 a b c d):=by
 have h1:=h.set (f':=fun j=>if j=0 then a else f j) 0 a rfl (fun j hj _=>if_neg hj)
 have h2:=h1.set (f':=fun j=>if j=1 then b else if j=0 then a else f j) 1 b rfl (fun j hj _=>if_neg hj)
 have h3:=h2.set (f':=fun j=>if j=2 then c else if j=1 then b else if j=0 then a else f j) 2 c rfl (fun j hj _=>if_neg hj)
 have h4:=h3.set (f':=fun j=>if j=3 then d else if j=2 then c else if j=1 then b else if j=0 then a else f j) 3 d rfl (fun j hj _=>if_neg hj)
 exact ⟨h4.1,h4.2.1,h4.2.2.1,h4.2.2.2⟩
theorem load4 {W:World} {g:Nat} {f:Nat→Int} (h:FourAt W g f):(loadVar 138 ⟨g,0,none⟩).run Tryz.prog W = .ok (four (f 0) (f 1) (f 2) (f 3)) W:=by
 have:=run_loadVar_mid (P:=Tryz.prog) W g 0 138 [.int .i64 (f 0),.int .i64 (f 1),.int .i64 (f 2),.int .i64 (f 3)] _ (fun j v hv=>by
  match j with
  | 0=>injection hv with hv;rw[← hv];exact h.1
  | 1=>injection hv with hv;rw[← hv];exact h.2.1
  | 2=>injection hv with hv;rw[← hv];exact h.2.2.1
  | 3=>injection hv with hv;rw[← hv];exact h.2.2.2
  | j+4=>simp at hv) Tryz.underlying138 rfl info4
 exact this
theorem rsamples_x (b o n x y:Nat) (c:Nat→Value) (r:Rw) (w:World) (hB:Blk w b n c) (hV:RwV c o r) (hn:o+1549≤n) (hx:x<16) (hy:y<16) (hs:∀ j,r.smp j<65536) :
  Calls Tryz.prog 126 #[.pointer (some ⟨b,o,none⟩),.int .i64 (x:Int),.int .i64 (y:Int)] w fun e w'=>e = .returned (four (r.smp (4*(y*16+x)):Int) (r.smp (4*(y*16+x)+1):Int) (r.smp (4*(y*16+x)+2):Int) (r.smp (4*(y*16+x)+3):Int))∧Kept w w':=by
 have FI:Hid (∀ W,Calls Tryz.prog 124 #[.int .i64 (x:Int),.int .i64 (y:Int)] W fun e w'=>e = .returned (.tuple #[.int .i64 ((y*16+x:Nat):Int),.bool true])∧w'=W):=fun W=>by
  have:=index_x x y W (by omega) (by omega)
  rw[if_pos ⟨hx,hy⟩,decide_eq_true (⟨hx,hy⟩:x<16∧y<16)] at this
  exact this
 obtain ⟨P,hP⟩:∃ P,P=y*16+x:=⟨_,rfl⟩
 rw[← hP] at FI ⊢
 have hP6:P<256:=by omega
 have p0:(0:Int)≤(P:Int):=by omega
 have p1:(P:Int)<256:=by omega
 have HB:Hid (Blk w b n c):=hB
 have HV:Hid (RwV c o r):=hV
 have HSm:Hid (∀ j,r.smp j<65536):=hs
 have hbw:=hB.lt
 clear hB hV hP hs
 have K0:Hid (Kept w ((w.alloc (Obj.cells #[.int .i64 0,.int .i64 0,.int .i64 0,.int .i64 0] 138)).alloc (Obj.cells #[.int .i64 0,.int .i64 0,.int .i64 0,.int .i64 0] 138))):=Below.alloc (Below.alloc (Below.refl _ _) (Nat.le_refl _) _) (by simp) _
 have L0:Hid (FourAt ((w.alloc (Obj.cells #[.int .i64 0,.int .i64 0,.int .i64 0,.int .i64 0] 138)).alloc (Obj.cells #[.int .i64 0,.int .i64 0,.int .i64 0,.int .i64 0] 138)) (w.heap.size+1) (fun _=>0)):=by
  refine ⟨?_,?_,?_,?_⟩<;>exact (World.cell?_alloc_at _ _ _ _ (by simp)).trans rfl
 have R0:Hid (FourAt ((w.alloc (Obj.cells #[.int .i64 0,.int .i64 0,.int .i64 0,.int .i64 0] 138)).alloc (Obj.cells #[.int .i64 0,.int .i64 0,.int .i64 0,.int .i64 0] 138)) w.heap.size (fun _=>0)):=by
  refine ⟨?_,?_,?_,?_⟩<;>exact (World.cell?_alloc_lt _ _ _ (by simp)).trans ((World.cell?_alloc_at _ _ _ _ rfl).trans rfl)
 have Z0:Hid (∀ j,((w.alloc (Obj.cells #[.int .i64 0,.int .i64 0,.int .i64 0,.int .i64 0] 138)).alloc (Obj.cells #[.int .i64 0,.int .i64 0,.int .i64 0,.int .i64 0] 138)).frozen? ⟨w.heap.size+1,j,none⟩=false∧((w.alloc (Obj.cells #[.int .i64 0,.int .i64 0,.int .i64 0,.int .i64 0] 138)).alloc (Obj.cells #[.int .i64 0,.int .i64 0,.int .i64 0,.int .i64 0] 138)).frozen? ⟨w.heap.size,j,none⟩=false):=fun j=>⟨World.frozen?_alloc_at _ _ _ _ (by simp),(Below.frozen (Below.alloc (Below.refl _ _) (Nat.le_refl _) _) (p:=⟨w.heap.size,j,none⟩) (by simp)).trans (World.frozen?_alloc_at _ _ _ _ rfl)⟩
 go_enter Tryz.func126,Tryz.ntmps126
 go_wp2_with fail
 refine (FI.out _).mono ?_
 rintro e w1 ⟨rfl,hw1⟩
 subst w1
 go_wp2_with fail
 generalize (w.alloc (Obj.cells #[.int .i64 0,.int .i64 0,.int .i64 0,.int .i64 0] 138)).alloc (Obj.cells #[.int .i64 0,.int .i64 0,.int .i64 0,.int .i64 0] 138)=w1 at *
 go_loopg [10] 4 (fun m v W=>∃ k:Nat,m=4 - k∧k≤4∧v = .int .i64 (k:Int)∧Fr1 (w.heap.size+1) w1 W∧(∀ j,W.frozen? ⟨w.heap.size+1,j,none⟩=false)∧FourAt W (w.heap.size+1) (fun j=>if j<k then (r.smp (4*P+j):Int) else 0))
 case atStart=>exact ⟨0,by omega,by omega,rfl,Fr.refl _ _,fun j=>(Z0.out j).1,L0.out⟩
 case round=>
  obtain ⟨k,hgk,hk4,rfl,hfr,hfz,hfo⟩:=hrel
  replace hgk:Hid _:=hgk
  have HF:Hid (Fr1 (w.heap.size+1) w1 wr):=hfr
  have HFz:Hid (∀ j,wr.frozen? ⟨w.heap.size+1,j,none⟩=false):=hfz
  have HFo:Hid (FourAt wr (w.heap.size+1) (fun j=>if j<k then (r.smp (4*P+j):Int) else 0)):=hfo
  clear hfr hfz hfo
  have HBr:Hid (Blk wr b n c):=(HB.out.kept K0.out).fr HF.out (by omega)
  have a0:(0:Int)≤(k:Int):=by omega
  by_cases hlt:k<4
  ·have hlt':(k:Int)<4:=by omega
   have kg:=HFo.out.get k hlt
   obtain ⟨OV,kg⟩:∃ OV,wr.cell? ⟨w.heap.size+1,k,none⟩=some OV:=⟨_,kg⟩
   have zg:=HFz.out k
   have ks:=HBr.out.at (i:=o+525+(4*P+k)) (by omega) (HV.out.smp (4*P+k) (by omega))
   rw[show o+525+(4*P+k)=o+525+P*4+k from by omega] at ks
   have hsl:=HSm.out (4*P+k)
   generalize hSS:r.smp (4*P+k)=SS at *
   replace hSS:Hid _:=hSS
   go_wp2_with fail
   go_roundg (4 - (k+1))
   case measure=>rw[hgk.out];omega
   case rel=>
    refine ⟨k+1,rfl,by omega,by go_num,Fr1.set HF.out _ _,fun j=>by rw[World.frozen?_setCell];exact HFz.out j,HFo.out.set k _ ?_ ?_⟩
    ·show (if k<k+1 then (r.smp (4*P+k):Int) else 0)=_
     rw[if_pos (by omega),hSS.out]
    ·intro j hj _
     show (if j<k+1 then (r.smp (4*P+j):Int) else 0)=if j<k then (r.smp (4*P+j):Int) else 0
     by_cases q:j<k
     ·rw[if_pos q,if_pos (by omega)]
     ·rw[if_neg q,if_neg (by omega)]
  ·have hlt':¬ (k:Int)<4:=by omega
   have hk:k=4:=by omega
   subst hk
   obtain ⟨l0,l1,l2,l3⟩:=HFo.out
   replace l0:wr.cell? ⟨w.heap.size+1,0,none⟩=some (.int .i64 (r.smp (4*P):Int)):=l0
   replace l1:wr.cell? ⟨w.heap.size+1,1,none⟩=some (.int .i64 (r.smp (4*P+1):Int)):=l1
   replace l2:wr.cell? ⟨w.heap.size+1,2,none⟩=some (.int .i64 (r.smp (4*P+2):Int)):=l2
   replace l3:wr.cell? ⟨w.heap.size+1,3,none⟩=some (.int .i64 (r.smp (4*P+3):Int)):=l3
   have RR:=R0.out.fr HF.out (by omega)
   obtain ⟨t0,t1,t2,t3⟩:=RR
   have hg:=World.block_lt_of_cell? _ _ R0.out.1
   have zr:∀ j,wr.frozen? ⟨w.heap.size,j,none⟩=false:=fun j=>(HF.out.frozen (c:=w.heap.size) (k:=j) hg (by omega)).trans (Z0.out j).2
   have RR:=R0.out.fr HF.out (show ¬ (w.heap.size=w.heap.size+1) by omega)
   have HR4:Hid _:=RR.put (r.smp (4*P):Int) (r.smp (4*P+1):Int) (r.smp (4*P+2):Int) (r.smp (4*P+3):Int)
   clear RR
   go_wp2_with fail
   refine bodyPost_ret (results_cell1 rfl _ _ _ _ _ rfl (load4 HR4.out)) rfl ⟨rfl,?_⟩
   exact (((((Fr.to_kept (S:=fun j=>j=w.heap.size+1) K0.out HF.out (fun i hi q=>by omega)).setCell (Nat.le_refl _) _).setCell (Nat.le_refl _) _).setCell (Nat.le_refl _) _).setCell (Nat.le_refl _) _)
def sclN (D:Nat):Nat:=if D=1 then 65535 else if D=2 then 21845 else if D=4 then 4369 else if D=8 then 257 else 1
theorem sclN_le (D:Nat):sclN D≤65535:=by unfold sclN;(repeat' split)<;>omega
theorem scale_x (D:Nat) (w:World):Calls Tryz.prog 148 #[.int .i64 (D:Int)] w fun e w'=>e = .returned (.int .i64 (sclN D:Int))∧w'=w:=by
 have hcs:D=1∨D=2∨D=4∨D=8∨(D≠1∧D≠2∧D≠4∧D≠8):=by omega
 rcases hcs with rfl | rfl | rfl | rfl | ⟨h1,h2,h4,h8⟩
 case' inr.inr.inr.inr=>
  have HE:Hid (sclN D=1):=by show sclN D=1;unfold sclN;rw[if_neg h1,if_neg h2,if_neg h4,if_neg h8]
  have g1:((D:Int) == 1)=false:=beq_eq_false_iff_ne.2 (by omega)
  have g2:((D:Int) == 2)=false:=beq_eq_false_iff_ne.2 (by omega)
  have g4:((D:Int) == 4)=false:=beq_eq_false_iff_ne.2 (by omega)
  have g8:((D:Int) == 8)=false:=beq_eq_false_iff_ne.2 (by omega)
  clear h1 h2 h4 h8
 all_goals
  go_enter Tryz.func148,Tryz.ntmps148
  go_wp2
  go_ret
  first | exact ⟨rfl,rfl⟩ | exact ⟨ret_int (by rw[HE.out];rfl),rfl⟩
def entP (t:Tl) (i:Nat):Nat→Int:=if i<256 then pick4 ((t.pal (3*i)*257:Nat):Int) ((t.pal (3*i+1)*257:Nat):Int) ((t.pal (3*i+2)*257:Nat):Int) ((if i<t.clears then t.clear i*257 else 65535:Nat):Int) else fun _=>0
def FourX (w:World) (f:Nat→Int) (e:Ending) (w':World):Prop:=e = .returned (four (f 0) (f 1) (f 2) (f 3))∧Kept w w'
theorem four_pk {v0 v1 v2 v3 a0 a1 a2 a3:Int} (h0:v0=a0) (h1:v1=a1) (h2:v2=a2) (h3:v3=a3):Ending.returned (four (pick4 v0 v1 v2 v3 0) (pick4 v0 v1 v2 v3 1) (pick4 v0 v1 v2 v3 2) (pick4 v0 v1 v2 v3 3)) = .returned (four (pick4 a0 a1 a2 a3 0) (pick4 a0 a1 a2 a3 1) (pick4 a0 a1 a2 a3 2) (pick4 a0 a1 a2 a3 3)):=by rw[h0,h1,h2,h3]
theorem entry_x (b o n i:Nat) (c:Nat→Value) (t:Tl) (w:World) (hB:Blk w b n c) (hV:TlV c o t) (hn:o+1026≤n) (hp:∀ j,t.pal j<256) (hc:∀ j,t.clear j<256) :
  Calls Tryz.prog 147 #[.pointer (some ⟨b,o,none⟩),.int .i64 (i:Int)] w fun e w'=>FourX w (entP t i) e w':=by
 have R0:Hid (FourAt (w.alloc (Obj.cells #[.int .i64 0,.int .i64 0,.int .i64 0,.int .i64 0] 138)) w.heap.size (fun _=>0)):=by
  refine ⟨?_,?_,?_,?_⟩<;>exact (World.cell?_alloc_at _ _ _ _ rfl).trans rfl
 have K0:Hid (Kept w (w.alloc (Obj.cells #[.int .i64 0,.int .i64 0,.int .i64 0,.int .i64 0] 138))):=Below.alloc (Below.refl _ _) (Nat.le_refl _) _
 have Z0:Hid (∀ j,(w.alloc (Obj.cells #[.int .i64 0,.int .i64 0,.int .i64 0,.int .i64 0] 138)).frozen? ⟨w.heap.size,j,none⟩=false):=fun j=>World.frozen?_alloc_at _ _ _ _ rfl
 have i0:¬ (i:Int)<0:=by omega
 by_cases h:256≤i
 ·have h':(256:Int)≤(i:Int):=by omega
  have HE:Hid (entP t i=fun _=>0):=by show entP t i=_;unfold entP;rw[if_neg (by omega)]
  generalize entP t i=EP at *
  clear hp hc
  clear hB hV
  go_enter Tryz.func147,Tryz.ntmps147
  go_wp2_with fail
  exact bodyPost_ret (results_cell1 rfl _ _ _ _ _ rfl (load4 R0.out)) rfl ⟨by rw[HE.out],K0.out⟩
 ·have h':¬ (256:Int)≤(i:Int):=by omega
  have B0:=hB.kept K0.out
  have r0:=B0.at (i:=o+3*i) (by omega) (hV.pal (3*i) (by omega))
  have r1:=B0.at (i:=o+(3*i+1)) (by omega) (hV.pal (3*i+1) (by omega))
  have r2:=B0.at (i:=o+(3*i+2)) (by omega) (hV.pal (3*i+2) (by omega))
  have rc:=B0.at (i:=o+768+i) (by omega) (hV.clear i (by omega))
  have kc:=B0.at (i:=o+1025) (by omega) hV.clears
  obtain ⟨A0,hA0⟩:∃ A,A=3*i:=⟨_,rfl⟩
  obtain ⟨A1,hA1⟩:∃ A,A=3*i+1:=⟨_,rfl⟩
  obtain ⟨A2,hA2⟩:∃ A,A=3*i+2:=⟨_,rfl⟩
  have e0:3*(i:Int)=(A0:Int):=by omega
  have e1:(A0:Int)+1=(A1:Int):=by omega
  have e2:(A0:Int)+2=(A2:Int):=by omega
  have b0:(0:Int)≤(A0:Int):=by omega
  have b0':(A0:Int)<768:=by omega
  have b1:(0:Int)≤(A1:Int):=by omega
  have b1':(A1:Int)<768:=by omega
  have b2:(0:Int)≤(A2:Int):=by omega
  have b2':(A2:Int)<768:=by omega
  have i1:(0:Int)≤(i:Int):=by omega
  have i2:(i:Int)<256:=by omega
  have HE:Hid (entP t i=pick4 ((t.pal A0*257:Nat):Int) ((t.pal A1*257:Nat):Int) ((t.pal A2*257:Nat):Int) ((if i<t.clears then t.clear i*257 else 65535:Nat):Int)):=by show entP t i=_;unfold entP;rw[if_pos (by omega),← hA2,← hA1,← hA0]
  have px0:=hp A0
  have px1:=hp A1
  have px2:=hp A2
  have pxc:=hc i
  clear hp hc
  generalize entP t i=EP at *
  rw[← hA0] at r0
  rw[← hA1] at r1
  rw[← hA2] at r2
  generalize t.pal A0=X0 at *
  generalize t.pal A1=X1 at *
  generalize t.pal A2=X2 at *
  generalize t.clear i=XC at *
  generalize t.clears=CL at *
  clear hA0 hA1 hA2 hB hV B0 h
  have FSc:Hid (∀ W,Calls Tryz.prog 148 #[.int .i64 8] W fun e w'=>e = .returned (.int .i64 257)∧w'=W):=fun W=>scale_x 8 W
  go_enter Tryz.func147,Tryz.ntmps147
  go_upto_region 4 with fail
  generalize w.alloc (Obj.cells #[.int .i64 0,.int .i64 0,.int .i64 0,.int .i64 0] 138)=w1 at *
  go_upto_region 4 with fail
  go_cut [25] from 16 (fun v W=>v = .bool (decide (i<CL))∧W=w1)
  case first=>
   by_cases hcl:i<CL
   ·have hcl':(i:Int)<(CL:Int):=by omega
    go_wp2_with fail
    go_meet
    case rel=>exact ⟨by rw[decide_eq_true hcl],rfl⟩
   ·have hcl':¬ (i:Int)<(CL:Int):=by omega
    go_wp2_with fail
    go_meet
    case rel=>exact ⟨by rw[decide_eq_false hcl],rfl⟩
  case rest=>
   obtain ⟨hvc,hwc⟩:=hcut
   subst hvc
   have HBB:Hid ((if i<CL then XC*257 else 65535:Nat)=if decide (i<CL)=true then XC*257 else 65535):=by
    show (if i<CL then XC*257 else 65535:Nat)=_
    by_cases q:i<CL
    ·rw[if_pos q,if_pos (decide_eq_true q)]
    ·rw[if_neg q,if_neg (by rw[decide_eq_false q];decide)]
   generalize decide (i<CL)=BB at *
   subst wc
   have HAll:Hid (∀ W,Kept w1 W→W.cell? ⟨b,o+A0,none⟩=some (.int .u8 (X0:Int))∧W.cell? ⟨b,o+A1,none⟩=some (.int .u8 (X1:Int))∧W.cell? ⟨b,o+A2,none⟩=some (.int .u8 (X2:Int))):=fun W k=>⟨(k.cell (p:=⟨b,o+A0,none⟩) (World.block_lt_of_cell? _ _ r0)).trans r0,(k.cell (p:=⟨b,o+A1,none⟩) (World.block_lt_of_cell? _ _ r1)).trans r1,(k.cell (p:=⟨b,o+A2,none⟩) (World.block_lt_of_cell? _ _ r2)).trans r2⟩
   have KK:Hid (Kept w1 w1):=Kept.refl _
   cases BB
   case' true=>
    go_wp2_with fail
    go_quiet ((go_at_call 148;exact Calls.quiet_of_same (FSc.out _)))
    replace KK:Hid (Kept w1 (w1.drewN nq)):=(Kept.refl _).drewN _
    generalize w1.drewN nq=w2 at *
   case' false=>
    obtain ⟨w2,hw2⟩:∃ w2,w2=w1:=⟨_,rfl⟩
    rw[← hw2] at KK ⊢
    replace hw2:Hid _:=hw2
    have KK':Hid (Kept w1 w2):=by rw[hw2.out];exact Kept.refl _
    clear KK
    have KK:Hid (Kept w1 w2):=KK'.out
   all_goals
    clear r0 r1 r2 rc kc
    obtain ⟨r0,r1,r2⟩:=HAll.out w2 KK.out
    go_wp2_with fail
    go_quiet ((go_at_call 148;exact Calls.quiet_of_same (FSc.out _)))
    have K3:Hid (Kept w1 (w2.drewN nq)):=KK.out.drewN _
    generalize w2.drewN nq=w3 at *
    clear r0 r1 r2
    obtain ⟨r0,r1,r2⟩:=HAll.out w3 K3.out
    go_wp2_with fail
    go_quiet ((go_at_call 148;exact Calls.quiet_of_same (FSc.out _)))
    have K4:Hid (Kept w1 (w3.drewN nq)):=K3.out.drewN _
    generalize w3.drewN nq=w4 at *
    clear r0 r1 r2
    obtain ⟨r0,r1,r2⟩:=HAll.out w4 K4.out
    go_wp2_with fail
    go_quiet ((go_at_call 148;exact Calls.quiet_of_same (FSc.out _)))
    have K5:Hid (Kept w1 (w4.drewN nq)):=K4.out.drewN _
    generalize w4.drewN nq=w5 at *
    have R5:Hid (FourAt w5 w.heap.size (fun _=>0)):=R0.out.kept K5.out
    have zr:∀ j,w5.frozen? ⟨w.heap.size,j,none⟩=false:=fun j=>(K5.out.frozen (p:=⟨w.heap.size,j,none⟩) (show w.heap.size<w1.heap.size from World.block_lt_of_cell? w1 ⟨w.heap.size,0,none⟩ R0.out.1)).trans (Z0.out j)
    obtain ⟨t0,t1,t2,t3⟩:=R5.out
    go_wp2_with fail
    refine bodyPost_ret (results_cell1 rfl _ _ _ _ _ rfl (load4 (FourAt.put R5.out _ _ _ _))) rfl ⟨?_,?_⟩
    ·rw[HE.out,HBB.out]
     refine four_pk ?_ ?_ ?_ ?_<;>first | omega | (rw[IntKind.wrap_i64];omega) | rfl
    exact (((((K0.out.trans K5.out).setCell (Nat.le_refl _) _).setCell (Nat.le_refl _) _).setCell (Nat.le_refl _) _).setCell (Nat.le_refl _) _)
def alP (t:Tl) (C:Nat) (s:Nat→Int):Int:=if t.clears=0 then 65535 else if (∀ k,k<C→s k=(t.smp k:Int)) then 0 else 65535
theorem alP_none {t:Tl} {C:Nat} {s:Nat→Int} (h:t.clears=0):alP t C s=65535:=if_pos h
theorem alP_all {t:Tl} {C:Nat} {s:Nat→Int} (h:¬ t.clears=0) (k:∀ k,k<C→s k=(t.smp k:Int)):alP t C s=0:=by unfold alP;rw[if_neg h,if_pos k]
theorem alP_not {t:Tl} {C:Nat} {s:Nat→Int} (h:¬ t.clears=0) (j:Nat) (hj:j<C) (k:s j≠(t.smp j:Int)):alP t C s=65535:=by unfold alP;rw[if_neg h,if_neg (fun q=>k (q j hj))]
theorem alpha_x (b o n:Nat) (c:Nat→Value) (t:Tl) (h:Hd) (s0 s1 s2 s3:Int) (w:World) (hB:Blk w b n c) (hV:TlV c o t) (hn:o+1026≤n) (hc:∀ j,t.clear j<256) (hK:h.K≤6) :
  Calls Tryz.prog 149 #[.pointer (some ⟨b,o,none⟩),hdV h,four s0 s1 s2 s3] w fun e w'=>e = .returned (.int .i64 (alP t (chn h.K) (pick4 s0 s1 s2 s3)))∧Kept w w':=by
 unfold hdV four
 obtain ⟨wa,hwa⟩:∃ wa,wa=w.alloc (Obj.cells #[.int .i64 (h.W:Int),.int .i64 (h.H:Int),.int .i64 (h.D:Int),.int .i64 (h.K:Int),.int .i64 (h.L:Int)] 71):=⟨_,rfl⟩
 obtain ⟨wb,hwb⟩:∃ wb,wb=wa.alloc (Obj.cells #[.int .i64 s0,.int .i64 s1,.int .i64 s2,.int .i64 s3] 138):=⟨_,rfl⟩
 have hsa:wa.heap.size=w.heap.size+1:=by rw[hwa];simp
 have Ka:Kept w wa:=by rw[hwa];exact Below.alloc (Below.refl _ _) (Nat.le_refl _) _
 have Kb':Kept wa wb:=by rw[hwb];exact Below.alloc (Below.refl _ _) (Nat.le_refl _) _
 have Kb:Hid (Kept w wb):=Ka.trans Kb'
 have ck:wb.cell? ⟨w.heap.size,3,none⟩=some (.int .i64 (h.K:Int)):=by
  rw[Kb'.cell (p:=⟨w.heap.size,3,none⟩) (by show w.heap.size<wa.heap.size;omega),hwa]
  exact (World.cell?_alloc_at _ _ _ _ rfl).trans rfl
 have S4:Hid (FourAt wb (w.heap.size+1) (pick4 s0 s1 s2 s3)):=by
  rw[hwb,← hsa]
  refine ⟨?_,?_,?_,?_⟩<;>exact (World.cell?_alloc_at _ _ _ _ rfl).trans rfl
 have kc:=(hB.kept Kb.out).at (i:=o+1025) (by omega) hV.clears
 have HB:Hid (Blk wb b n c):=hB.kept Kb.out
 have HV:Hid (TlV c o t):=hV
 have HC:Hid (∀ j,t.clear j<256):=hc
 have FJ:Hid (∀ W':World,Calls Tryz.prog 93 #[.int .i64 (h.K:Int)] W' fun e w'=>e = .returned (.int .i64 (chn h.K:Int))∧w'=W'):=fun W'=>samples_x _ W' (by omega)
 have hch:=chn_le h.K
 have HA1:Hid (t.clears=0→alP t (chn h.K) (pick4 s0 s1 s2 s3)=65535):=alP_none
 have HA2:Hid (¬ t.clears=0→(∀ k,k<chn h.K→pick4 s0 s1 s2 s3 k=(t.smp k:Int))→alP t (chn h.K) (pick4 s0 s1 s2 s3)=0):=alP_all
 have HA3:Hid (¬ t.clears=0→∀ j,j<chn h.K→pick4 s0 s1 s2 s3 j≠(t.smp j:Int)→alP t (chn h.K) (pick4 s0 s1 s2 s3)=65535):=alP_not
 generalize alP t (chn h.K) (pick4 s0 s1 s2 s3)=AL at *
 generalize chn h.K=C at *
 clear hB hV hc Ka Kb'
 generalize hHK:h.K=HK at *
 generalize hHW:h.W=HW at *
 generalize hHH:h.H=HH at *
 generalize hHD:h.D=HD at *
 generalize hHL:h.L=HL at *
 have hkl:HK<1000:=by omega
 clear hHK hHW hHH hHD hHL
 go_enter Tryz.func149,Tryz.ntmps149
 go_upto_region 1 with fail
 rw[← hwa,← hwb]
 replace hwa:Hid _:=hwa
 replace hwb:Hid _:=hwb
 by_cases hcl:t.clears=0
 ·have hcl':((t.clears:Int) == 0)=true:=by rw[beq_iff_eq];omega
  generalize t.clears=CL at *
  replace hcl:Hid _:=hcl
  go_wp2_with fail
  go_ret
  exact ⟨by rw[HA1.out hcl.out];rfl,Kb.out⟩
 ·have hcl':((t.clears:Int) == 0)=false:=by rw[beq_eq_false_iff_ne];omega
  generalize t.clears=CL at *
  replace hcl:Hid _:=hcl
  go_wp2_with fail
  go_loopg [7] 4 (fun m v W=>∃ k:Nat,m=4 - k∧k≤4∧v = .int .i64 (k:Int)∧Kept wb W∧∀ j,j<k→pick4 s0 s1 s2 s3 j=(t.smp j:Int))
  case atStart=>exact ⟨0,by omega,by omega,rfl,Kept.refl _,fun j hj=>by omega⟩
  case round=>
   obtain ⟨k,hgk,hk4,rfl,hkw,hall⟩:=hrel
   replace hall:Hid _:=hall
   replace hgk:Hid _:=hgk
   have HKW:Hid (Kept wb wr):=hkw
   have ck':=(hkw.cell (p:=⟨w.heap.size,3,none⟩) (World.block_lt_of_cell? _ _ ck)).trans ck
   have HS4:Hid (FourAt wr (w.heap.size+1) (pick4 s0 s1 s2 s3)):=S4.out.kept hkw
   clear hkw
   by_cases hlt:k<C
   ·have hlt':(k:Int)<(C:Int):=by omega
    have h4':(k:Int)<4:=by omega
    have k0:(0:Int)≤(k:Int):=by omega
    have kg:=HS4.out.get k (by omega)
    have FC:Hid (∀ q,Calls Tryz.prog 146 #[.pointer (some ⟨b,o,none⟩),.int .i64 (k:Int)] (wr.drewN q) fun e w'=>e = .returned (.int .i64 (t.smp k:Int))∧∃ m,w'=(wr.drewN q).drewN m):=fun q=>clearSample_x b o n k c t (wr.drewN q) ((HB.out.kept HKW.out).kept ((Kept.refl _).drewN q)) HV.out hn (by omega) HC.out
    generalize hV:t.smp k=V at *
    replace hV:Hid _:=hV
    generalize hSK:pick4 s0 s1 s2 s3 k=SK at *
    replace hSK:Hid _:=hSK
    go_wp2_with fail
    refine (FJ.out _).mono ?_
    rintro e w2 ⟨rfl,hw2⟩
    subst w2
    go_wp2_with fail
    go_quiet ((go_at_call 146;exact Calls.quiet_of (FC.out _)))
    cases hne:(SK != (V:Int))
    ·go_wp2_with fail
     go_roundg (4 - (k+1))
     case measure=>rw[hgk.out];omega
     case rel=>exact ⟨k+1,rfl,by omega,by go_num,HKW.out.drewN _,fun j hj=>by
      by_cases q:j=k
      ·subst q
       rw[hSK.out,hV.out]
       simpa using hne
      ·exact hall.out j (by omega)⟩
    ·go_wp2_with fail
     go_ret
     exact ⟨by rw[HA3.out hcl.out k hlt (by rw[hSK.out,hV.out];simpa using hne)];rfl,Kb.out.trans (HKW.out.drewN _)⟩
   ·have hlt':¬ (k:Int)<(C:Int):=by omega
    go_wp2_with fail
    refine (FJ.out _).mono ?_
    rintro e w2 ⟨rfl,hw2⟩
    subst w2
    go_wp2_with fail
    go_ret
    exact ⟨by rw[HA2.out hcl.out (fun j hj=>hall.out j (by omega))];rfl,Kb.out.trans HKW.out⟩
end Go.Proofs.YtmbmecfodigciaaGreatDoor
