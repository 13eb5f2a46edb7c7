import Derived.Test.YtmbmecfodigciaaGreatDoorMo38
import Derived.Deep.CutBlock
import Derived.Deep.CutRange
set_option maxRecDepth 100000
set_option maxHeartbeats 6400000
namespace Go.Proofs.YtmbmecfodigciaaGreatDoor
open Go.RowKit
set_option linter.unusedSimpArgs false
set_option linter.unusedVariables false
theorem deskImage_any (x A B C:Nat) (s t:ByteArray) (w:World) (hx:x<w.heap.size) (hfz:∀ k,w.frozen? ⟨x,k,none⟩=false) (hcs:∀ j,j<15→(w.cell? ⟨x,j,none⟩).isSome=true) (hA:A≤1099511627776) (hB:B≤1099511627776) (hC:C≤1099511627776) (hs:s.size≤65536) (ht:t.size≤65536) :
  Calls Tryz.prog 18 #[.pointer (some ⟨x,0,none⟩),.agg #[.int .i64 (A:Int),.int .i64 (B:Int),.int .i64 (C:Int),.string s,.string t]] w fun r w'=>r = .returned (.tuple #[])∧∃ wd H K D L:Nat,∃ pp qp xp:Option Addr,∃ pc qc xc:Nat,∃ pal clr pix:List Int,ImR w w' x wd H K D L pp qp xp pc qc xc pal clr pix:=by
 have FP:Hid (∀ (W':World) (c n:Nat),c≤1099511627776→1≤n→n≤1099511627776→Calls Tryz.prog 17 #[.int .i64 (c:Int),.int .i64 (n:Int)] W' fun r w'=>(∃ k:Nat,k<n∧r = .returned (.int .i64 (k:Int)))∧w'=W'):=fun W' c n h1 h2 h3=>pick_any (c:Int) n W' (by omega) (by omega) h2 h3
 have FK:Hid (∀ (W':World) (k:Nat),k<15→Calls Tryz.prog 33 #[.int .i64 (k:Int)] W' fun r w'=>(∃ K D:Nat,legal K D∧r = .returned (.tuple #[.int .i64 (K:Int),.int .i64 (D:Int)]))∧Kept W' w'):=fun W' k hk=>kind_any k W' hk
 have hk0:Kept w (w.alloc (Obj.cells #[.int .i64 (A:Int),.int .i64 (B:Int),.int .i64 (C:Int),.string s,.string t] 41)):=Below.alloc (Below.refl _ _) (Nat.le_refl _) _
 have hs0:w.heap.size<(w.alloc (Obj.cells #[.int .i64 (A:Int),.int .i64 (B:Int),.int .i64 (C:Int),.string s,.string t] 41)).heap.size:=by simp
 have hcs0:∀ j,j<15→((w.alloc (Obj.cells #[.int .i64 (A:Int),.int .i64 (B:Int),.int .i64 (C:Int),.string s,.string t] 41)).cell? ⟨x,j,none⟩).isSome=true:=fun j hj=>by rw[hk0.cell (p:=⟨x,j,none⟩) hx];exact hcs j hj
 have hfz0:∀ k,(w.alloc (Obj.cells #[.int .i64 (A:Int),.int .i64 (B:Int),.int .i64 (C:Int),.string s,.string t] 41)).frozen? ⟨x,k,none⟩=false:=fun k=>(hk0.frozen (p:=⟨x,k,none⟩) hx).trans (hfz k)
 have o1:(w.alloc (Obj.cells #[.int .i64 (A:Int),.int .i64 (B:Int),.int .i64 (C:Int),.string s,.string t] 41)).cell? ⟨w.heap.size,1,none⟩=some (.int .i64 (B:Int)):=by rw[World.cell?_alloc_at _ _ _ _ rfl];rfl
 have o2:(w.alloc (Obj.cells #[.int .i64 (A:Int),.int .i64 (B:Int),.int .i64 (C:Int),.string s,.string t] 41)).cell? ⟨w.heap.size,2,none⟩=some (.int .i64 (C:Int)):=by rw[World.cell?_alloc_at _ _ _ _ rfl];rfl
 have o3:(w.alloc (Obj.cells #[.int .i64 (A:Int),.int .i64 (B:Int),.int .i64 (C:Int),.string s,.string t] 41)).cell? ⟨w.heap.size,3,none⟩=some (.string s):=by rw[World.cell?_alloc_at _ _ _ _ rfl];rfl
 have o4:(w.alloc (Obj.cells #[.int .i64 (A:Int),.int .i64 (B:Int),.int .i64 (C:Int),.string s,.string t] 41)).cell? ⟨w.heap.size,4,none⟩=some (.string t):=by rw[World.cell?_alloc_at _ _ _ _ rfl];rfl
 have hxne:x≠w.heap.size:=by omega
 have hxne':w.heap.size≠x:=by omega
 replace hk0:Hid _:=hk0
 replace hfz:Hid _:=hfz
 replace hcs:Hid _:=hcs
 go_enter Tryz.func18,Tryz.ntmps18
 go_wp2_with fail
 generalize (w.alloc (Obj.cells #[.int .i64 (A:Int),.int .i64 (B:Int),.int .i64 (C:Int),.string s,.string t] 41))=w0 at *
 refine (FP.out _ A 256 (by omega) (by omega) (by omega)).mono ?_
 rintro r w0 ⟨⟨a,ha,rfl⟩,rfl⟩
 go_wp2_with fail
 refine (FP.out _ B 15 (by omega) (by omega) (by omega)).mono ?_
 rintro r w1 ⟨⟨b,hb,rfl⟩,hw1⟩
 subst hw1
 go_wp2_with fail
 refine (FK.out _ b hb).mono ?_
 rintro r w1 ⟨⟨K,D,hlg,rfl⟩,hk1⟩
 have hx0:x<w1.heap.size:=by have:=hk1.size;omega
 replace o2:=(hk1.cell (p:=⟨w.heap.size,2,none⟩) hs0).trans o2
 replace o3:=(hk1.cell (p:=⟨w.heap.size,3,none⟩) hs0).trans o3
 replace o4:=(hk1.cell (p:=⟨w.heap.size,4,none⟩) hs0).trans o4
 clear o1
 have hcs1:∀ j,j<15→(w1.cell? ⟨x,j,none⟩).isSome=true:=fun j hj=>by rw[hk1.cell (p:=⟨x,j,none⟩) (Nat.lt_trans hx hs0)];exact hcs0 j hj
 have hfz1:∀ k,w1.frozen? ⟨x,k,none⟩=false:=fun k=>(hk1.frozen (p:=⟨x,k,none⟩) (Nat.lt_trans hx hs0)).trans (hfz0 k)
 have HK1:Hid (Kept w w1):=Kept.trans hk0.out hk1
 have hs1:w.heap.size<w1.heap.size:=Nat.lt_of_lt_of_le hs0 hk1.size
 clear hk1 hfz0 hcs0 hk0 hs0
 obtain ⟨u0,hu0⟩:=Option.isSome_iff_exists.1 (hcs1 0 (by omega))
 obtain ⟨u1,hu1⟩:=Option.isSome_iff_exists.1 (hcs1 1 (by omega))
 obtain ⟨u2,hu2⟩:=Option.isSome_iff_exists.1 (hcs1 2 (by omega))
 obtain ⟨u3,hu3⟩:=Option.isSome_iff_exists.1 (hcs1 3 (by omega))
 obtain ⟨u4,hu4⟩:=Option.isSome_iff_exists.1 (hcs1 4 (by omega))
 obtain ⟨u5,hu5⟩:=Option.isSome_iff_exists.1 (hcs1 5 (by omega))
 obtain ⟨u6,hu6⟩:=Option.isSome_iff_exists.1 (hcs1 6 (by omega))
 obtain ⟨u7,hu7⟩:=Option.isSome_iff_exists.1 (hcs1 7 (by omega))
 have z0:=hfz1 0
 have z1:=hfz1 1
 have z2:=hfz1 2
 have z3:=hfz1 3
 have z4:=hfz1 4
 have z5:=hfz1 5
 have z6:=hfz1 6
 have z7:=hfz1 7
 replace hfz1:Hid _:=hfz1
 replace hcs1:Hid _:=hcs1
 replace hlg:Hid _:=hlg
 go_wp2_with fail
 refine (FP.out _ C 2 (by omega) (by omega) (by omega)).mono ?_
 rintro r w2 ⟨⟨L,hL,rfl⟩,hw1⟩
 subst hw1
 go_upto_if 54 with fail
 obtain ⟨wd,hwd⟩:∃ wd:Nat,wd=a % 16+1:=⟨_,rfl⟩
 obtain ⟨H,hH⟩:∃ H:Nat,H=a / 16+1:=⟨_,rfl⟩
 have ewd:(a:Int) % 16+1=(wd:Int):=by omega
 have eH:(a:Int) / 16+1=(H:Int):=by omega
 have hwd1:1≤wd:=by omega
 have hwd2:wd≤16:=by omega
 have hH1:1≤H:=by omega
 have hH2:H≤16:=by omega
 rw[ewd,eH,most_eq (legal_D hlg.out)]
 clear hwd hH ewd eH
 have hM2:2^D≤65536:=pow_le (legal_D hlg.out)
 have hM1:1≤2^D:=Nat.one_le_two_pow
 have hM3:K=3→2^D≤256:=fun e=>by subst e;exact pow8_le (legal_pal hlg.out)
 obtain ⟨M2,hMM⟩:∃ M2:Nat,M2=2^D:=⟨_,rfl⟩
 rw[← hMM] at hM1 hM2 hM3 ⊢
 replace hMM:Hid _:=hMM
 replace hM3:Hid _:=hM3
 have H6:Hid (ImAt w ((((((((w1.setCell ⟨x,0,none⟩ (.int .i64 (wd:Int))).setCell ⟨x,1,none⟩ (.int .i64 (H:Int))).setCell ⟨x,2,none⟩ (.int .i64 (K:Int))).setCell ⟨x,3,none⟩ (.int .i64 (D:Int))).setCell ⟨x,4,none⟩ (.slice none 0 0)).setCell ⟨x,5,none⟩ (.slice none 0 0)).setCell ⟨x,6,none⟩ (.slice none 0 0)).setCell ⟨x,7,none⟩ (.int .i64 (L:Int))) x (w.heap.size+1) w.heap.size s t (imU w x wd H K D L) (.slice none 0 0) (.slice none 0 0) (.slice none 0 0) [] [] []):=by
  have oth:∀ (W':World) (a b:Nat) (u:Value),a≠b→(W'.setCell ⟨x,a,none⟩ u).cell? ⟨x,b,none⟩=W'.cell? ⟨x,b,none⟩:=fun W' a b u h=>cell_set_other _ _ _ _ _ h
  have ot2:∀ (W':World) (a b:Nat) (u:Value),(W'.setCell ⟨x,a,none⟩ u).cell? ⟨w.heap.size,b,none⟩=W'.cell? ⟨w.heap.size,b,none⟩:=fun W' a b u=>World.cell?_setCell_other _ _ _ _ (by intro q;injection q;omega)
  have hsize:∀ (W':World) (a:Nat) (u:Value),(W'.setCell ⟨x,a,none⟩ u).heap.size=W'.heap.size:=fun W' a u=>by simp [World.setCell]
  refine ⟨by omega,by omega,by omega,by simp only [hsize];omega,fun k=>by simp only [World.frozen?_setCell];exact hfz1.out k,?_,?_,?_,OwnI.nil _ _,OwnI.nil _ _,OwnI.nil _ _,(fun g hg=>by cases hg),(fun g hg=>by cases hg),(fun g hg=>by cases hg),?_,?_,?_,?_,by omega⟩
  ·rw[oth _ 7 4 _ (by omega),oth _ 6 4 _ (by omega),oth _ 5 4 _ (by omega)]
   exact cell_set_same (by rw[oth _ 3 4 _ (by omega),oth _ 2 4 _ (by omega),oth _ 1 4 _ (by omega),oth _ 0 4 _ (by omega)];exact hu4) _
  ·rw[oth _ 7 5 _ (by omega),oth _ 6 5 _ (by omega)]
   exact cell_set_same (by rw[oth _ 4 5 _ (by omega),oth _ 3 5 _ (by omega),oth _ 2 5 _ (by omega),oth _ 1 5 _ (by omega),oth _ 0 5 _ (by omega)];exact hu5) _
  ·rw[oth _ 7 6 _ (by omega)]
   exact cell_set_same (by rw[oth _ 5 6 _ (by omega),oth _ 4 6 _ (by omega),oth _ 3 6 _ (by omega),oth _ 2 6 _ (by omega),oth _ 1 6 _ (by omega),oth _ 0 6 _ (by omega)];exact hu6) _
  ·simp only [ot2];exact o3
  ·simp only [ot2];exact o4
  ·intro j hj
   by_cases j0:j=0
   ·subst j0
    rw[oth _ 7 0 _ (by omega),oth _ 6 0 _ (by omega),oth _ 5 0 _ (by omega),oth _ 4 0 _ (by omega),oth _ 3 0 _ (by omega),oth _ 2 0 _ (by omega),oth _ 1 0 _ (by omega)]
    exact cell_set_same hu0 _
   by_cases j1:j=1
   ·subst j1
    rw[oth _ 7 1 _ (by omega),oth _ 6 1 _ (by omega),oth _ 5 1 _ (by omega),oth _ 4 1 _ (by omega),oth _ 3 1 _ (by omega),oth _ 2 1 _ (by omega)]
    exact cell_set_same (by rw[oth _ 0 1 _ (by omega)];exact hu1) _
   by_cases j2:j=2
   ·subst j2
    rw[oth _ 7 2 _ (by omega),oth _ 6 2 _ (by omega),oth _ 5 2 _ (by omega),oth _ 4 2 _ (by omega),oth _ 3 2 _ (by omega)]
    exact cell_set_same (by rw[oth _ 1 2 _ (by omega),oth _ 0 2 _ (by omega)];exact hu2) _
   by_cases j3:j=3
   ·subst j3
    rw[oth _ 7 3 _ (by omega),oth _ 6 3 _ (by omega),oth _ 5 3 _ (by omega),oth _ 4 3 _ (by omega)]
    exact cell_set_same (by rw[oth _ 2 3 _ (by omega),oth _ 1 3 _ (by omega),oth _ 0 3 _ (by omega)];exact hu3) _
   by_cases j7:j=7
   ·subst j7
    exact cell_set_same (by rw[oth _ 6 7 _ (by omega),oth _ 5 7 _ (by omega),oth _ 4 7 _ (by omega),oth _ 3 7 _ (by omega),oth _ 2 7 _ (by omega),oth _ 1 7 _ (by omega),oth _ 0 7 _ (by omega)];exact hu7) _
   rw[oth _ 7 j _ (by omega),oth _ 6 j _ (by omega),oth _ 5 j _ (by omega),oth _ 4 j _ (by omega),oth _ 3 j _ (by omega),oth _ 2 j _ (by omega),oth _ 1 j _ (by omega),oth _ 0 j _ (by omega)]
   unfold imU
   rw[if_neg j0,if_neg j1,if_neg j2,if_neg j3,if_neg j7]
   exact HK1.out.cell (p:=⟨x,j,none⟩) hx
  ·exact Fr1.set (Fr1.set (Fr1.set (Fr1.set (Fr1.set (Fr1.set (Fr1.set (Fr1.set (Fr.of_kept HK1.out) _ _) _ _) _ _) _ _) _ _) _ _) _ _) _ _
 generalize ((((((((w1.setCell ⟨x,0,none⟩ (.int .i64 (wd:Int))).setCell ⟨x,1,none⟩ (.int .i64 (H:Int))).setCell ⟨x,2,none⟩ (.int .i64 (K:Int))).setCell ⟨x,3,none⟩ (.int .i64 (D:Int))).setCell ⟨x,4,none⟩ (.slice none 0 0)).setCell ⟨x,5,none⟩ (.slice none 0 0)).setCell ⟨x,6,none⟩ (.slice none 0 0)).setCell ⟨x,7,none⟩ (.int .i64 (L:Int)))=w8 at *
 clear hu0 hu1 hu2 hu3 hu4 hu5 hu6 hu7 z0 z1 z2 z3 z4 z5 z6 z7 o2 o3 o4 hfz1 hcs1 HK1 hcs hfz FP FK
 go_cut [6,8] from 20 (fun k6 m W=>∃ M:Nat,∃ pv qv:Value,∃ pl ql:List Int,k6 = .int .i64 (K:Int)∧m = .int .i64 (M:Int)∧1≤M∧M≤65536∧ImG1 K D M pl ql∧ImAt w W x (w.heap.size+1) w.heap.size s t (imU w x wd H K D L) pv qv (.slice none 0 0) pl ql [])
 case first=>
  by_cases hK3:K=3
  ·have k4:=H6.out.o4
   have hM8:M2≤256:=hM3.out hK3
   have eK:(K:Int)=3:=by omega
   replace hK3:Hid _:=hK3
   have FA:Hid (∀ (W':World) (k:Nat),k≤1048576→Calls Tryz.prog 34 #[.string t,.int .i64 (k:Int)] W' fun r w'=>(∃ v:Nat,v<256∧r = .returned (.int .i64 (v:Int)))∧Kept W' w'):=fun W' k hk=>at_any t k W' ht hk
   go_upto_if 62 with fail
   simp only [eK]
   go_cut [9] from 20 (fun v W=>∃ n:Nat,v = .int .i64 (n:Int)∧1≤n∧n≤M2∧W=w8)
   case first=>
    go_wp2
    all_goals
     go_meet
     case rel=>
      first
       | exact ⟨M2,rfl,by omega,by omega,rfl⟩
       | exact ⟨t.size / 4+1,val_int (by omega),by omega,by omega,rfl⟩
   case rest=>
    obtain ⟨n,rfl,hn1,hn2,hw⟩:=hcut
    subst hw
    go_wp2_with fail
    go_loopg [10] (3*n) (fun k v W=>∃ i:Nat,∃ pv:Value,∃ pl:List Int,v = .int .i64 (i:Int)∧i≤3*n∧k=3*n - i∧pl.length=i∧(∀ y ∈ pl,0≤y∧y<256)∧ImAt w W x (w.heap.size+1) w.heap.size s t (imU w x wd H K D L) pv (.slice none 0 0) (.slice none 0 0) pl [] [])
    case atStart=>exact ⟨0,_,[],rfl,by omega,by omega,rfl,fun y hy=>by simp at hy,H6.out⟩
    case round=>
     obtain ⟨i,pv,pl,rfl,hi1,hgk,hpl,hpb,hI2⟩:=hrel
     clear H6 k4
     have k4:=hI2.o4
     obtain ⟨pp,cp,rfl⟩:=hI2.op.slice
     replace hpl:Hid _:=hpl
     replace hpb:Hid _:=hpb
     replace hgk:Hid _:=hgk
     replace hI2:Hid (ImAt w wr x (w.heap.size+1) w.heap.size s t (imU w x wd H K D L) (.slice pp pl.length cp) (.slice none 0 0) (.slice none 0 0) pl [] []):=hI2
     by_cases hlt:i<3*n
     ·have l1:(i:Int)<3*(n:Int):=by omega
      go_upto_block 1 with fail
      go_cut [] from 64 to 85 (fun W=>∃ pv:Value,∃ pl:List Int,pl.length=i+1∧(∀ y ∈ pl,0≤y∧y<256)∧ImAt w W x (w.heap.size+1) w.heap.size s t (imU w x wd H K D L) pv (.slice none 0 0) (.slice none 0 0) pl [] [])
      case first=>
       go_wp2_with fail
       refine (FA.out _ i (by omega)).mono ?_
       rintro r wa ⟨⟨v,hv,rfl⟩,hka⟩
       have I3:Hid (ImAt w wa x (w.heap.size+1) w.heap.size s t (imU w x wd H K D L) (.slice pp pl.length cp) (.slice none 0 0) (.slice none 0 0) pl [] []):=hI2.out.kept hka
       clear hI2 hka k4
       have c4:=I3.out.c4
       have hszr:=I3.out.size
       have hxr:x<wa.heap.size:=by omega
       have HO:Hid (OwnI wa (w.heap.size+1) (.slice pp pl.length cp) pl):=I3.out.op
       have hplb:pl.length≤768:=by have:=hpl.out;omega
       go_wp2_with (at_builtin;refine appendI _ rfl _ _ rfl (w.heap.size+1) (.slice pp pl.length cp) pl rfl (HO.out.alloc _) wa.heap.size 1 (v:Int) rfl (by simp) (by omega) (by simp;omega) ?_)
       intro v' w2 ho2 hf2 hn2'
       have hnx:¬ (Value.slice pp pl.length cp).ownBlock=some x:=fun e=>by have:=HO.out.ge x e;omega
       have fk:Fr (fun k=>(Value.slice pp pl.length cp).ownBlock=some k) wa w2:=((Fr.refl _ wa).alloc _).trans hf2
       have k4:=(fk.cell (k:=4) hxr hnx).trans c4
       have g4:=(fk.frozen (k:=4) hxr hnx).trans (I3.out.fz 4)
       obtain ⟨pp2,cp2,hv'⟩:=ho2.slice
       rw[app_len rfl] at hv'
       subst hv'
       have C2:Hid (ImAt w (w2.setCell ⟨x,4,none⟩ (.slice pp2 (pl.length+1) cp2)) x (w.heap.size+1) w.heap.size s t (imU w x wd H K D L) (.slice pp2 (pl.length+1) cp2) (.slice none 0 0) (.slice none 0 0) (pl++[(v:Int)]) [] []):=ImAt.grow_p I3.out _ _ fk ho2 (fun g hg=>by rcases hn2' g hg with q|q;exact Or.inl q;exact Or.inr (by first | omega | (simp at q;omega)))
       clear fk hf2 ho2 hn2' c4
       go_wp2_with fail
       go_meet
       case rel=>
        exact ⟨_,pl++[(v:Int)],app_len hpl.out,app_mem hpb.out (by omega),C2.out⟩
      case rest=>
       clear k4 hI2
       obtain ⟨qv3,ql3,hl3,hb3,hI3⟩:=hcut
       replace hl3:Hid _:=hl3
       replace hb3:Hid _:=hb3
       replace hI3:Hid _:=hI3
       go_wp2_with fail
       go_roundg (3*n - (i+1))
       case measure=>rw[hgk.out];omega
       case rel=>exact ⟨i+1,qv3,ql3,by go_num,by omega,rfl,hl3.out,hb3.out,hI3.out⟩
     ·have l1:¬ (i:Int)<3*(n:Int):=by omega
      have hpl3:Hid (pl.length=3*n):=by have:=hpl.out;exact (by omega:pl.length=3*n)
      go_wp2_with fail
      go_loopg [12] n (fun k v W=>∃ i:Nat,∃ qv:Value,∃ ql:List Int,v = .int .i64 (i:Int)∧3*n≤i∧i≤4*n∧k=4*n - i∧ql.length=i - 3*n∧(∀ y ∈ ql,0≤y∧y<256)∧ImAt w W x (w.heap.size+1) w.heap.size s t (imU w x wd H K D L) (.slice pp pl.length cp) qv (.slice none 0 0) pl ql [])
      case atStart=>exact ⟨3*n,_,[],by go_num,by omega,by omega,by omega,by simp,fun y hy=>by simp at hy,hI2.out⟩
      case round=>
       obtain ⟨j,qv,ql,rfl,hj1,hj2,hgk2,hql,hqb,hJ⟩:=hrel
       clear hI2 k4 hpl hgk
       have k4:=hJ.o4
       obtain ⟨pq,cq,rfl⟩:=hJ.oq.slice
       replace hql:Hid _:=hql
       replace hqb:Hid _:=hqb
       replace hgk2:Hid _:=hgk2
       replace hJ:Hid (ImAt w wr x (w.heap.size+1) w.heap.size s t (imU w x wd H K D L) (.slice pp pl.length cp) (.slice pq ql.length cq) (.slice none 0 0) pl ql []):=hJ
       by_cases hlt2:j<4*n∧j<t.size
       ·obtain ⟨hlt3,hlt4⟩:=hlt2
        have l2:(j:Int)<4*(n:Int):=by omega
        have l3:(j:Int)<(t.size:Int):=by omega
        have j0:(0:Int)≤(j:Int):=by omega
        go_upto_block 3 with fail
        go_cut [] from 88 to 116 (fun W=>∃ qv:Value,∃ ql:List Int,ql.length=j - 3*n+1∧(∀ y ∈ ql,0≤y∧y<256)∧ImAt w W x (w.heap.size+1) w.heap.size s t (imU w x wd H K D L) (.slice pp pl.length cp) qv (.slice none 0 0) pl ql [])
        case first=>
         have c5:=hJ.out.c5
         have f5:=hJ.out.fz 5
         have hszr:=hJ.out.size
         have hxr:x<wr.heap.size:=by omega
         have HO:Hid (OwnI wr (w.heap.size+1) (.slice pq ql.length cq) ql):=hJ.out.oq
         have hnx:¬ (Value.slice pq ql.length cq).ownBlock=some x:=fun e=>by have:=HO.out.ge x e;omega
         have hqlb:ql.length≤256:=by have:=hql.out;omega
         have hB:t[j].toNat<256:=UInt8.toNat_lt _
         obtain ⟨E1,hE1⟩:∃ E1:Int,E1=IntKind.i64.wrap (t[j].toNat:Int):=⟨_,rfl⟩
         have hE1b:0≤E1∧E1<256:=by rw[hE1,wrapN _ (by omega)];omega
         replace hE1:Hid (E1=IntKind.i64.wrap (t[j].toNat:Int)):=hE1
         go_wp2_with fail
         go_region_law ((refine stepI (by rfl) _ _ (by rfl) (w.heap.size+1) (.slice pq ql.length cq) ql (by rfl) (by exact (HO.out.alloc _).drewN 1) wr.heap.size 1 E1 (by rfl) (by rw[hE1.out];simp) (by omega) (by simp;omega) ?_;intro g' cap w2 ho2 hf2 hn2';have fk:Fr (fun k=>(Value.slice pq ql.length cq).ownBlock=some k) wr w2:=(((Fr.refl _ wr).alloc _).drewN 1).trans hf2;have k5:=(fk.cell (k:=5) hxr hnx).trans c5;have g5:=(fk.frozen (k:=5) hxr hnx).trans f5))
         all_goals
          have C2:Hid (ImAt w (w2.setCell ⟨x,5,none⟩ (Value.slice (some ⟨g',0,none⟩) (ql.length+1) cap)) x (w.heap.size+1) w.heap.size s t (imU w x wd H K D L) (.slice pp pl.length cp) (Value.slice (some ⟨g',0,none⟩) (ql.length+1) cap) (.slice none 0 0) pl (ql++[E1]) []):=ImAt.grow_q hJ.out _ _ fk ho2 (own_hn2 hn2')
          clear fk hf2 ho2 hn2' k5 g5
          go_wp2_with fail
          go_meet
          case rel=>
           exact ⟨_,ql++[E1],app_len hql.out,app_mem hqb.out hE1b,C2.out⟩
        case rest=>
         clear k4 hJ
         obtain ⟨qv3,ql3,hl3,hb3,hI3⟩:=hcut
         replace hl3:Hid _:=hl3
         replace hb3:Hid _:=hb3
         replace hI3:Hid _:=hI3
         go_wp2_with fail
         go_roundg (4*n - (j+1))
         case measure=>rw[hgk2.out];omega
         case rel=>exact ⟨j+1,qv3,ql3,by go_num,by omega,by omega,rfl,by rw[hl3.out];omega,hb3.out,hI3.out⟩
       ·have HX:Hid (∃ M:Nat,∃ pv qv:Value,∃ pl ql:List Int,Value.int .i64 (3:Int) = .int .i64 (K:Int)∧Value.int .i64 (n:Int) = .int .i64 (M:Int)∧1≤M∧M≤65536∧ImG1 K D M pl ql∧ImAt w wr x (w.heap.size+1) w.heap.size s t (imU w x wd H K D L) pv qv (.slice none 0 0) pl ql []):=⟨n,_,_,pl,ql,by rw[eK],rfl,hn1,by omega,Or.inl ⟨hK3.out,hn1,by rw[← hMM.out];exact hn2,hpl3.out,by rw[hql.out];omega,hpb.out,hqb.out⟩,hJ.out⟩
        clear hJ hql hqb hpb hpl3 hgk2
        by_cases h2:j<4*n
        ·have l2:(j:Int)<4*(n:Int):=by omega
         have l3:¬ (j:Int)<(t.size:Int):=by omega
         go_wp2
         go_meet
         case rel=>exact HX.out
        ·have l2:¬ (j:Int)<4*(n:Int):=by omega
         go_wp2
         go_meet
         case rel=>exact HX.out
  ·have eK:((K:Int) == 3)=false:=by rw[beq_eq_false_iff_ne];omega
   go_wp2
   go_meet
   case rel=>exact ⟨M2,_,_,[],[],rfl,rfl,hM1,hM2,Or.inr ⟨hK3,hMM.out,rfl,rfl⟩,H6.out⟩
 case rest=>
  clear H6
  obtain ⟨M,pv,qv,pl,ql,rfl,rfl,hm1,hm2,hG,hI⟩:=hcut
  go_step
  exact image_tail _ _ _ _ _ _ _ _ _ _ _ _ _ _ _ _ _ _ _ _ _ _ _ _ _ _ _ _ _ _ _ _ _ _ _ _ _ _ _ _ _ _ _ _ _ _ _ _ _ _ _ _ _ _ _ _ _ _ _ _ _ _ _ _ _ _ _ _ _ _ _ _ _ _ _ _ _ _ _ _ _ _ _ _ _ _ _ _ _ _ _ _ _ _ _ _ _ _ _ _ _ _ _ _ _ _ _ _ _ _ _ _ _ _ _ _ _ _ _ _ _ _ _ _ _ _ _ _ _ _ _ _ _ _ _ _ _ _ _ _ _ _ _ _ _ _ _ _ _ _ _ _ _ _ _ _ _ _ _ _ _ _ _ _ _ _ _ _ _ _ _ _ _ _ _ _ _ _ _ _ _ _ _ _ _ _ _ _ _ _ _ _ _ _ _ _ _ _ _ _ _ _ _ _ _ _ x wd H K D L M pv qv pl ql s t w wc hx hs ht hlg hG hL hwd1 hwd2 hH1 hH2 hm1 hm2 hI
end Go.Proofs.YtmbmecfodigciaaGreatDoor
