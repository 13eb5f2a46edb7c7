import Derived.Test.YthniahejjamhgaaGreatDoorRoQ4
import Derived.Deep.MidRow
set_option maxRecDepth 100000
set_option maxHeartbeats 6400000
namespace Go.Proofs.YthniahejjamhgaaGreatDoor
open Go.RowKit Px
set_option linter.unusedSimpArgs false
set_option linter.unusedVariables false
def updL (c:Nat->Value) (k m:Nat) (f:Nat->Value):Nat->Value:=fun i=>if k<=i/\i<k+m then f (i - k) else c i
theorem updL_in {c:Nat->Value} {k m:Nat} {f:Nat->Value} {j:Nat} (h:j<m):updL c k m f (k+j)=f j:=by
 unfold updL;rw[if_pos ⟨by omega,by omega⟩,show k+j - k=j from by omega]
theorem updL_out {c:Nat->Value} {k m:Nat} {f:Nat->Value} {i:Nat} (h:¬ (k<=i/\i<k+m)):updL c k m f i=c i:=if_neg h
theorem store_all {P:Program} {W:World} {b o:Nat} {cs:List Value} (h:W.there b o cs.length) (h1:∀ v ∈ cs,v.oneCell'=true):(storeCells ⟨b,o,none⟩ cs).run P W = .ok () (W.setCells b o cs):=by
 have:=run_storeCells_cells (P:=P) b o cs 0 W (fun j hj=>by rw[Nat.add_zero];exact (h j hj).1) (fun j hj=>by rw[Nat.add_zero];exact (h j hj).2) h1
 rw[Nat.add_zero] at this;exact this
theorem Blk.there {w:World} {b n:Nat} {c:Nat->Value} (h:Blk w b n c) {k m:Nat} (hk:k+m<=n):w.there b k m:=fun j hj=>⟨by rw[h.cell (k+j) (by omega)];rfl,h.fz _⟩
theorem Blk.range {w:World} {b n:Nat} {c:Nat->Value} (h:Blk w b n c) {k m:Nat} (hk:k+m<=n):w.rangeAt b k ((List.range m).map (fun j=>c (k+j))):=fun j v hv=>by
 rw[List.getElem?_map] at hv;by_cases hj:j<m
 ·rw[List.getElem?_range hj] at hv
  injection hv with hv
  rw[h.cell (k+j) (by omega),<- hv]
 ·rw[List.getElem?_eq_none (by rw[List.length_range];omega)] at hv
  exact absurd hv (by simp)
theorem size_setCells (w:World) (b:Nat):∀ (cs:List Value) (k:Nat) (w:World),(w.setCells b k cs).heap.size=w.heap.size
 | [],_,_=>rfl
 | v::r,k,w=>(size_setCells w b r (k+1) _).trans (by simp [World.setCell])
theorem Blk.sets {w:World} {b n:Nat} {c:Nat->Value} (h:Blk w b n c) {k m:Nat} (hk:k+m<=n) {cs:List Value} (f:Nat->Value) (hl:cs.length=m) (hf:∀ j,j<m->cs[j]? = some (f j)):Blk (w.setCells b k cs) b n (updL c k m f):=by
 refine ⟨fun i hi => ?_,fun i=>by rw[World.frozen?_setCells];exact h.fz i,by rw[size_setCells w];exact h.lt⟩;by_cases q:k<=i/\i<k+m
 ·obtain ⟨j,rfl⟩:∃ j,i=k+j:=⟨i - k,by omega⟩
  rw[updL_in (by omega)];exact World.rangeAt_setCells_same w b k cs (h.there (by omega)) j _ (hf j (by omega))
 ·rw[updL_out q,<- h.cell i hi]
  exact World.cell?_setCells_out b cs k w ⟨b,i,none⟩ (fun _ _=>by show i<k\/k+cs.length<=i;omega)
theorem Fr1.sets {b:Nat} {x:World}:∀ (cs:List Value) (k:Nat) {y:World},Fr1 b x y->Fr1 b x (y.setCells b k cs)
 | [],_,_,h=>h
 | v::r,k,_,h=>Fr1.sets r (k+1) (Fr1.set h k v)
theorem FrC.updL {b lo hi k m:Nat} {c:Nat->Value} {f:Nat->Value} (h1:lo<=k) (h2:k+m<=hi):FrC b lo hi c (updL c k m f):=⟨fun i q=>updL_out (fun e=>q ⟨by omega,by omega⟩)⟩
theorem RwV.lay_above {c:Nat->Value} {o:Nat} {r:Rw} (h:RwV c o r) (f:Nat->Nat):RwV (updL c (o+141) 128 (fun j => .int .u8 (f j:Int))) o { r with above:=f } :=
 h.all_above f (fun i hi=>updL_in hi) (fun i hi=>updL_out (fun q=>hi ⟨q.1,by omega⟩))
def npSet (r:Rw):Rw:={ r with columns:=wthn r.ps.cf r.ps.cs r.hd.W,lines:=wthn r.ps.rf r.ps.rs r.hd.H }
def npGo:Nat->Rw->Rw
 | 0,r=>r
 | k+1,r=>if r.pass<(cntP r.hd.L:Int) then (if 0<(npSet r).columns/\0<(npSet r).lines then npSet r else npGo k { npSet r with pass:=r.pass+1 }) else r
def npEnd (q:Rw):Rw:={ q with line:=0,size:=(q.columns*bitsP q.hd+7) / 8,above:=fun _=>0 }
def Rw.next (r:Rw):Rw:=npEnd (npGo 8 { r with pass:=r.pass+1 })
theorem npGo_col:∀ (k:Nat) (r:Rw),r.hd.W<=16->r.columns<=16->(npGo k r).columns<=16
 | 0,_,_,h=>h
 | k+1,r,hW,h=>by
  have hc:(npSet r).columns<=16:=wthn_le (psOf_ok _ _).2.1 hW;unfold npGo;split
  ·split
   ·exact hc
   ·exact npGo_col k _ hW hc
  ·exact h
theorem npGo_ok:∀ (k:Nat) (r:Rw),RwOk r->RwOk (npGo k r)
 | 0,_,h=>h
 | k+1,r,h=>by
  have hs:RwOk (npSet r):=⟨h.W,h.H,h.D,h.K,h.L,h.filter,h.row,h.above⟩;unfold npGo;split
  ·split
   ·exact hs
   ·exact npGo_ok k _ ⟨h.W,h.H,h.D,h.K,h.L,h.filter,h.row,h.above⟩
  ·exact h
theorem size128':(Tryz.prog.info? 85).map (·.size)=some 128:=by kernel_rfl
theorem zero128':Tryz.zeroCells85=Array.replicate 128 (.int .u8 0):=by kernel_rfl
theorem len128':(Tryz.zeroCells85).toList.length=128:=by rw[zero128',Array.toList_replicate,List.length_replicate]
theorem at128' (j:Nat) (hj:j<128):(Tryz.zeroCells85).toList[j]? = some (.int .u8 ((0:Nat):Int)):=by rw[zero128',Array.toList_replicate,List.getElem?_replicate,if_pos hj];rfl
theorem one128':∀ v ∈ (Tryz.zeroCells85).toList,v.oneCell'=true:=ints_one (m:=256) len128' (fun j hj=>⟨0,by omega,by omega,at128' j hj⟩)
theorem cell_set_blk (w:World) {b g:Nat} (k j:Nat) (v:Value) (h:g≠b):(w.setCell ⟨b,k,none⟩ v).cell? ⟨g,j,none⟩=w.cell? ⟨g,j,none⟩ :=
 World.cell?_setCell_other _ _ _ _ (by intro e;apply h;injection e with e1 _;exact e1.symm)
theorem wrapT78 (T:Nat) (h:T<=1024):IntKind.i64.wrap ((IntKind.i64.wrap (IntKind.i64.wrap (T:Int)+7)).tdiv 8)=(((T+7) / 8:Nat):Int):=by
 have e:∀ a:Nat,a<=2000->IntKind.i64.wrap (a:Int)=(a:Int):=fun a ha=>by rw[IntKind.wrap_i64];omega
 rw[e T (by omega),show (T:Int)+7=((T+7:Nat):Int) from by omega,e _ (by omega),Int.tdiv_eq_ediv_of_nonneg (by omega),show ((T+7:Nat):Int) / 8=(((T+7) / 8:Nat):Int) from by omega,e _ (by omega)]
structure NpR (b o n:Nat) (c:Nat->Value) (r:Rw) (w:World) (k:Nat) (d:Nat->Value) (q:Rw) (W:World):Prop where
 B:Blk W b n d
 V:RwV d o q
 C:FrC b o (o+1549) c d
 F:Fr1 b w W
 eq:npGo k q=npGo 8 { r with pass:=r.pass+1 }
 hd:q.hd=r.hd
 p0:0<=q.pass
 p7:q.pass<=8
 pk:8<=(k:Int)+q.pass
theorem nextPass_x (b o n:Nat) (c:Nat->Value) (r:Rw) (w:World) (hB:Blk w b n c) (hV:RwV c o r) (hn:o+1549<=n) (hk:RwOk r) (hc:r.columns<=16) (hp : -1<=r.pass) (hp7:r.pass<=7) (hG:GrdAt w) (hb:b≠0) :
  Calls Tryz.prog 165 #[.pointer (some ⟨b,o,none⟩)] w fun e w'=>e = .returned (.tuple #[])/\RwStep b o n c r.next w w':=by
 have k6:=hB.at (i:=o+6) (by omega) hV.pass;have z:=hB.fz;have H0:Hid (NpR b o n c r w 8 (upd c (o+6) (.int .i64 (r.pass+1))) { r with pass:=r.pass+1 } (w.setCell ⟨b,o+6,none⟩ (.int .i64 (r.pass+1)))) :=
  ⟨hB.set (by omega) _,hV.set_pass _,FrC.upd _ (by omega) (by omega),Fr1.set (Fr.refl _ _) _ _,rfl,rfl,by show 0<=r.pass+1;omega,by show r.pass+1<=8;omega,by show (8:Int)<=((8:Nat):Int)+(r.pass+1);omega⟩
 have HG:Hid (∀ W,Fr1 b w W->GrdAt W):=fun W f=>hG.fr f (fun q=>hb q.symm)
 have HK:Hid (RwOk r):=hk;clear hB hV hG hk;go_enter Tryz.func165,Tryz.ntmps165;go_upto_block 0 with fail
 generalize hw0:w.setCell ⟨b,o+6,none⟩ (.int .i64 (r.pass+1))=w0 at *;replace hw0:Hid _:=hw0;go_cut [2] from 10 (fun v W=>RwStep b o n c (npGo 8 { r with pass:=r.pass+1 }) w W)
 case first=>
  go_wp2_with fail;go_loopg [2] ((8 - (r.pass+1)).toNat) (fun k v W=>∃ kk d,∃ q:Rw,k=(8 - q.pass).toNat/\NpR b o n c r w kk d q W)
  case atStart=>exact ⟨8,_,_,rfl,H0.out⟩
  case round=>
   obtain ⟨kk,d,q,hgk,hR⟩:=hrel;clear H0;have HR:Hid (NpR b o n c r w kk d q wr):=hR;replace hgk:Hid _:=hgk;have k6:=hR.B.at (i:=o+6) (by omega) hR.V.pass;have k4:=hR.B.at (i:=o+4) (by omega) hR.V.hd.L;have hp0:=hR.p0;have hp8:=hR.p7;have FC:Hid (∀ W':World,Calls Tryz.prog 65 #[.int .i64 (q.hd.L:Int)] W' fun e w'=>e = .returned (.int .i64 (cntP q.hd.L:Int))/\w'=W'):=fun W'=>count_x _ W'
   clear hR;by_cases hlt:q.pass<(cntP q.hd.L:Int)
   ·have hc7:cntP q.hd.L<=7:=by unfold cntP;split<;>omega
    have HEq:Hid (∃ k',kk=k'+1/\npGo kk q=(if 0<(npSet q).columns/\0<(npSet q).lines then npSet q else npGo k' { npSet q with pass:=q.pass+1 })):=by
     have:=HR.out.pk
     obtain ⟨k',rfl⟩:∃ k',kk=k'+1:=⟨kk - 1,by omega⟩;refine ⟨k',rfl,?_⟩;show npGo (k'+1) q=_
     rw[npGo];rw[if_pos hlt]
    generalize hCC:cntP q.hd.L=CC at *;replace hCC:Hid _:=hCC;generalize hPP:q.pass=PP at *;replace hPP:Hid _:=hPP;generalize hLL:q.hd.L=LL at *;replace hLL:Hid _:=hLL;go_wp2_with fail;go_quiet ((go_at_call 65;exact Calls.quiet_of_same (FC.out _)))
    go_wp2_with fail;have HRq:Hid (NpR b o n c r w kk d q (wr.drewN nq)):=⟨HR.out.B.kept ((Kept.refl _).drewN _),HR.out.V,HR.out.C,HR.out.F.kept ((Kept.refl _).drewN _),HR.out.eq,HR.out.hd,HR.out.p0,HR.out.p7,HR.out.pk⟩;generalize wr.drewN nq=wq at *;clear HR k6 k4 FC;have k6:=HRq.out.B.at (i:=o+6) (by omega) HRq.out.V.pass;have k4:=HRq.out.B.at (i:=o+4) (by omega) HRq.out.V.hd.L;rw[hPP.out] at k6;rw[hLL.out] at k4;obtain ⟨PN,hPN⟩:∃ PN:Nat,PP=(PN:Int):=⟨PP.toNat,by omega⟩;rw[hPN] at k6;have hPN7:PN<7:=by omega
    have HPN:Hid (q.pass.toNat=PN):=by show q.pass.toNat=PN;rw[hPP.out,hPN];rfl
    replace hPN:Hid _:=hPN;have hL1:LL<=1:=by rw[<- hLL.out,HRq.out.hd];exact HK.out.L
    have FO:Hid (∀ W':World,Kept wq W'->Calls Tryz.prog 66 #[.int .i64 (LL:Int),.int .i64 (PN:Int)] W' fun e w'=>e = .returned (psV q.ps)/\Kept W' w'):=fun W' k=>by
     have:=psOf_x LL PN W' hL1 (by omega) (HG.out W' (HRq.out.F.kept k))
     rw[show q.ps=psOf LL PN from by unfold Rw.ps;rw[hLL.out,HPN.out]];exact this
    obtain ⟨ps,hps⟩:∃ p,p=q.ps:=⟨_,rfl⟩;rw[<- hps] at FO;have HPok:Hid (ps.cf<=4/\1<=ps.cs/\ps.cs<=8/\ps.cb<=8/\ps.rf<=4/\1<=ps.rs/\ps.rs<=8/\ps.rb<=8):=by rw[hps];exact psOf_ok _ _
    replace hps:Hid _:=hps;unfold psV at FO;have hbw:=HRq.out.B.lt;have HA:Hid (Kept wq (wq.alloc (Obj.cells #[.int .i64 0,.int .i64 0,.int .i64 0,.int .i64 0,.int .i64 0,.int .i64 0] 129))):=Below.alloc (Below.refl _ _) (Nat.le_refl _) _;have k4':∀ o',(wq.alloc o').cell? ⟨b,o+4,none⟩=some (.int .i64 (LL:Int)):=fun o'=>(World.cell?_alloc_lt _ _ _ hbw).trans k4
    have k6':∀ o',(wq.alloc o').cell? ⟨b,o+6,none⟩=some (.int .i64 (PN:Int)):=fun o'=>(World.cell?_alloc_lt _ _ _ hbw).trans k6
    go_cut [2] from 10 to 71 (fun v W=>∃ G:Nat,v = .pointer (some ⟨G,0,none⟩)/\Kept wq W/\PsAt wq W ps G)
    case first=>
     go_region_with (go_at_call 66;refine (FO.out _ (by first | exact (Kept.refl _).drewN 1 | exact HA.out.drewN 1)).mono ?_;rintro e w1 ⟨rfl,hk1⟩;first | (have yy:=zeroAt hk1;obtain ⟨y0,y1,y2,y3,y4,y5,yf⟩:=yy;have hk2:=Kept.trans (HA.out.drewN 1) hk1) | (have hk2:=Kept.trans ((Kept.refl wq).drewN 1) hk1))
     all_goals
      clear k4' k6';go_wp2_with fail;go_meet
      case rel=>
       first
        | exact psAt_old hk2 y0 y1 y2 y3 y4 y5
        | exact psAt_new hk2
    case rest=>
     obtain ⟨G,rfl,hkc,hPs⟩:=hcut;clear k4 k6 k4' k6' FO HA;have HR1:Hid (NpR b o n c r w kk d q wc):=⟨HRq.out.B.kept hkc,HRq.out.V,HRq.out.C,HRq.out.F.kept hkc,HRq.out.eq,HRq.out.hd,HRq.out.p0,HRq.out.p7,HRq.out.pk⟩;obtain ⟨g0,g1,c0,c1,c2,c3,c4,c5⟩:=hPs;have hGb:G≠b:=by omega
     clear HRq hkc;have kW:=HR1.out.B.at (i:=o) (by omega) HR1.out.V.hd.W;obtain ⟨q1,q2,q3,q4,q5,q6,q7,q8⟩:=HPok.out;have hW16:q.hd.W<=16:=by rw[HR1.out.hd];exact HK.out.W
     have hH16:q.hd.H<=16:=by rw[HR1.out.hd];exact HK.out.H
     have FW:Hid (∀ (W':World),Calls Tryz.prog 94 #[.agg #[.int .i64 (ps.cf:Int),.int .i64 (ps.cs:Int),.int .i64 (ps.cb:Int)],.int .i64 (q.hd.W:Int)] W' fun e w'=>e = .returned (.int .i64 ((npSet q).columns:Int))/\Kept W' w'):=fun W'=>by
      have:=wthn_x ps.cf ps.cs ps.cb q.hd.W W' (by omega) q2 (by omega) hW16
      rw[show (npSet q).columns=wthn ps.cf ps.cs q.hd.W from by rw[hps.out];rfl];exact this
     have FH:Hid (∀ (W':World),Calls Tryz.prog 94 #[.agg #[.int .i64 (ps.rf:Int),.int .i64 (ps.rs:Int),.int .i64 (ps.rb:Int)],.int .i64 (q.hd.H:Int)] W' fun e w'=>e = .returned (.int .i64 ((npSet q).lines:Int))/\Kept W' w'):=fun W'=>by
      have:=wthn_x ps.rf ps.rs ps.rb q.hd.H W' (by omega) q6 (by omega) hH16
      rw[show (npSet q).lines=wthn ps.rf ps.rs q.hd.H from by rw[hps.out];rfl];exact this
     obtain ⟨X,hX⟩:∃ X,X=(npSet q).columns:=⟨_,rfl⟩;obtain ⟨Y,hY⟩:∃ Y,Y=(npSet q).lines:=⟨_,rfl⟩;rw[<- hX] at FW;rw[<- hY] at FH;have hX16:X<=16:=by rw[hX];exact wthn_le (psOf_ok _ _).2.1 hW16
     have hY16:Y<=16:=by rw[hY];exact wthn_le (psOf_ok _ _).2.2.2.2.2.1 hH16
     replace hX:Hid _:=hX;replace hY:Hid _:=hY;have k8:=HR1.out.B.at (i:=o+8) (by omega) HR1.out.V.columns;have k9:=HR1.out.B.at (i:=o+9) (by omega) HR1.out.V.lines;have zf:=HR1.out.B.fz;generalize hHW:q.hd.W=HW at *;replace hHW:Hid _:=hHW;have hbc:=HR1.out.B.lt;go_wp2_with fail;go_region_held3 (fun W=>W.cell? ⟨G,0,none⟩=some (.int .i64 (ps.cf:Int))/\W.cell? ⟨G,1,none⟩=some (.int .i64 (ps.cs:Int))/\W.cell? ⟨G,2,none⟩=some (.int .i64 (ps.cb:Int))/\W.cell? ⟨b,o,none⟩=some (.int .i64 (HW:Int))) (first | exact ⟨c0,c1,c2,kW⟩ | exact hS2.out | exact hS3.out _ | go_keep) ((go_at_call 94;refine (FW.out _).mono ?_;rintro e w2 ⟨rfl,hk2⟩;have hk2':Kept wc w2:=((Kept.refl _).drewN 1).trans hk2;have hS2:Hid (w2.cell? ⟨G,0,none⟩=some (.int .i64 (ps.cf:Int))/\w2.cell? ⟨G,1,none⟩=some (.int .i64 (ps.cs:Int))/\w2.cell? ⟨G,2,none⟩=some (.int .i64 (ps.cb:Int))/\w2.cell? ⟨b,o,none⟩=some (.int .i64 (HW:Int))):=⟨(hk2'.cell (p:=⟨G,0,none⟩) g1).trans c0,(hk2'.cell (p:=⟨G,1,none⟩) g1).trans c1,(hk2'.cell (p:=⟨G,2,none⟩) g1).trans c2,(hk2'.cell (p:=⟨b,o,none⟩) hbc).trans kW⟩;have k82:=(hk2'.cell (p:=⟨b,o+8,none⟩) hbc).trans k8;have z82:=(hk2'.frozen (p:=⟨b,o+8,none⟩) hbc).trans (zf (o+8));have hS3:Hid (∀ v:Value,(w2.setCell ⟨b,o+8,none⟩ v).cell? ⟨G,0,none⟩=some (.int .i64 (ps.cf:Int))/\(w2.setCell ⟨b,o+8,none⟩ v).cell? ⟨G,1,none⟩=some (.int .i64 (ps.cs:Int))/\(w2.setCell ⟨b,o+8,none⟩ v).cell? ⟨G,2,none⟩=some (.int .i64 (ps.cb:Int))/\(w2.setCell ⟨b,o+8,none⟩ v).cell? ⟨b,o,none⟩=some (.int .i64 (HW:Int))):=fun v=>⟨(cell_set_blk _ _ _ _ hGb).trans hS2.out.1,(cell_set_blk _ _ _ _ hGb).trans hS2.out.2.1,(cell_set_blk _ _ _ _ hGb).trans hS2.out.2.2.1,(cell_set_other _ _ _ _ _ (by omega)).trans hS2.out.2.2.2⟩))
     have B2:Hid (Blk (w2.setCell ⟨b,o+8,none⟩ (.int .i64 (X:Int))) b n (upd d (o+8) (.int .i64 (X:Int)))):=(HR1.out.B.kept hk2').set (by omega) _;have F2:Hid (Fr1 b wc (w2.setCell ⟨b,o+8,none⟩ (.int .i64 (X:Int)))):=Fr1.set (Fr.of_kept hk2') _ _;have hG2:G<(w2.setCell ⟨b,o+8,none⟩ (.int .i64 (X:Int))).heap.size:=Nat.lt_of_lt_of_le g1 F2.out.size;generalize (w2.setCell ⟨b,o+8,none⟩ (.int .i64 (X:Int)))=w3 at *;clear hk2 hk2' hS2 hS3 k82 z82 kW k8 k9 c0 c1 c2;have c33:=(F2.out.cell (k:=3) g1 hGb).trans c3;have c43:=(F2.out.cell (k:=4) g1 hGb).trans c4;have c53:=(F2.out.cell (k:=5) g1 hGb).trans c5;have V2:Hid (RwV (upd d (o+8) (.int .i64 (X:Int))) o { q with columns:=X }):=HR1.out.V.set_columns X;have kH:=B2.out.at (i:=o+1) (by omega) V2.out.hd.H;have k9:=B2.out.at (i:=o+9) (by omega) V2.out.lines;have zf2:=B2.out.fz;have hbc2:=B2.out.lt;clear c3 c4 c5 zf;replace kH:w3.cell? ⟨b,o+1,none⟩=some (.int .i64 (q.hd.H:Int)):=kH;generalize hHH:q.hd.H=HH at *;replace hHH:Hid _:=hHH;go_wp2_with fail;go_region_held3 (fun W=>W.cell? ⟨G,3,none⟩=some (.int .i64 (ps.rf:Int))/\W.cell? ⟨G,4,none⟩=some (.int .i64 (ps.rs:Int))/\W.cell? ⟨G,5,none⟩=some (.int .i64 (ps.rb:Int))/\W.cell? ⟨b,o+1,none⟩=some (.int .i64 (HH:Int))) (first | exact ⟨c33,c43,c53,kH⟩ | exact hS4.out | exact hS5.out _ | go_keep) ((go_at_call 94;refine (FH.out _).mono ?_;rintro e w4 ⟨rfl,hk4⟩;have hk4':Kept w3 w4:=((Kept.refl _).drewN 1).trans hk4;have hS4:Hid (w4.cell? ⟨G,3,none⟩=some (.int .i64 (ps.rf:Int))/\w4.cell? ⟨G,4,none⟩=some (.int .i64 (ps.rs:Int))/\w4.cell? ⟨G,5,none⟩=some (.int .i64 (ps.rb:Int))/\w4.cell? ⟨b,o+1,none⟩=some (.int .i64 (HH:Int))):=⟨(hk4'.cell (p:=⟨G,3,none⟩) hG2).trans c33,(hk4'.cell (p:=⟨G,4,none⟩) hG2).trans c43,(hk4'.cell (p:=⟨G,5,none⟩) hG2).trans c53,(hk4'.cell (p:=⟨b,o+1,none⟩) hbc2).trans kH⟩;have k92:=(hk4'.cell (p:=⟨b,o+9,none⟩) hbc2).trans k9;have z92:=(hk4'.frozen (p:=⟨b,o+9,none⟩) hbc2).trans (zf2 (o+9));have hS5:Hid (∀ v:Value,(w4.setCell ⟨b,o+9,none⟩ v).cell? ⟨G,3,none⟩=some (.int .i64 (ps.rf:Int))/\(w4.setCell ⟨b,o+9,none⟩ v).cell? ⟨G,4,none⟩=some (.int .i64 (ps.rs:Int))/\(w4.setCell ⟨b,o+9,none⟩ v).cell? ⟨G,5,none⟩=some (.int .i64 (ps.rb:Int))/\(w4.setCell ⟨b,o+9,none⟩ v).cell? ⟨b,o+1,none⟩=some (.int .i64 (HH:Int))):=fun v=>⟨(cell_set_blk _ _ _ _ hGb).trans hS4.out.1,(cell_set_blk _ _ _ _ hGb).trans hS4.out.2.1,(cell_set_blk _ _ _ _ hGb).trans hS4.out.2.2.1,(cell_set_other _ _ _ _ _ (by omega)).trans hS4.out.2.2.2⟩))
     have B5:Hid (Blk (w4.setCell ⟨b,o+9,none⟩ (.int .i64 (Y:Int))) b n (upd (upd d (o+8) (.int .i64 (X:Int))) (o+9) (.int .i64 (Y:Int)))):=(B2.out.kept hk4').set (by omega) _;have F5:Hid (Fr1 b wc (w4.setCell ⟨b,o+9,none⟩ (.int .i64 (Y:Int)))):=Fr1.set (F2.out.kept hk4') _ _;generalize (w4.setCell ⟨b,o+9,none⟩ (.int .i64 (Y:Int)))=w5 at *;clear hk4 hk4' hS4 hS5 k92 z92 kH k9 c33 c43 c53 B2 F2 zf2;have V5:Hid (RwV (upd (upd d (o+8) (.int .i64 (X:Int))) (o+9) (.int .i64 (Y:Int))) o (npSet q)):=by
      have:=V2.out.set_lines Y
      rw[show npSet q={ ({ q with columns:=X }:Rw) with lines:=Y } from by rw[hX.out,hY.out];rfl];exact this
     have C5:Hid (FrC b o (o+1549) c (upd (upd d (o+8) (.int .i64 (X:Int))) (o+9) (.int .i64 (Y:Int)))):=(HR1.out.C.trans (FrC.upd _ (by omega) (by omega))).trans (FrC.upd _ (by omega) (by omega));have FF5:Hid (Fr1 b w w5):=HR1.out.F.trans F5.out;clear V2;have k8:=B5.out.at (i:=o+8) (by omega) V5.out.columns;have k9:=B5.out.at (i:=o+9) (by omega) V5.out.lines;have k6:=B5.out.at (i:=o+6) (by omega) V5.out.pass;rw[<- hX.out] at k8;rw[<- hY.out] at k9;replace k6:w5.cell? ⟨b,o+6,none⟩=some (.int .i64 q.pass):=k6;rw[hPP.out] at k6;have zf5:=B5.out.fz (o+6);by_cases hx:0<X
     ·by_cases hy:0<Y
      ·have hx':(0:Int)<(X:Int):=by omega
       have hy':(0:Int)<(Y:Int):=by omega
       go_wp2_with fail;go_meet
       case rel=>
        refine ⟨_,B5.out,?_,C5.out,FF5.out⟩;obtain ⟨k',_,e2⟩:=HEq.out;rw[<- HR1.out.eq,e2,if_pos ⟨by rw[<- hX.out];exact hx,by rw[<- hY.out];exact hy⟩];exact V5.out
      ·have hx':(0:Int)<(X:Int):=by omega
       have hy':¬ (0:Int)<(Y:Int):=by omega
       go_wp2_with fail;go_roundg ((8 - (PP+1)).toNat)
       case measure=>rw[hgk.out];omega
       case rel=>
        obtain ⟨k',e1,e2⟩:=HEq.out;refine ⟨k',upd (upd (upd d (o+8) (.int .i64 (X:Int))) (o+9) (.int .i64 (Y:Int))) (o+6) (.int .i64 (PP+1)),{ npSet q with pass:=PP+1 },rfl,B5.out.set (by omega) _,V5.out.set_pass _,C5.out.trans (FrC.upd _ (by omega) (by omega)),Fr1.set FF5.out _ _,?_,HR1.out.hd,by show 0<=PP+1;omega,by show PP+1<=8;omega,?_⟩
        ·rw[<- HR1.out.eq,e2,if_neg (fun h=>hy (by rw[hY.out];exact h.2))]
        ·have:=HR1.out.pk
         rw[hPP.out] at this;show (8:Int)<=(k':Int)+(PP+1)
         omega
     ·have hx':¬ (0:Int)<(X:Int):=by omega
      go_wp2_with fail;go_roundg ((8 - (PP+1)).toNat)
      case measure=>rw[hgk.out];omega
      case rel=>
       obtain ⟨k',e1,e2⟩:=HEq.out;refine ⟨k',upd (upd (upd d (o+8) (.int .i64 (X:Int))) (o+9) (.int .i64 (Y:Int))) (o+6) (.int .i64 (PP+1)),{ npSet q with pass:=PP+1 },rfl,B5.out.set (by omega) _,V5.out.set_pass _,C5.out.trans (FrC.upd _ (by omega) (by omega)),Fr1.set FF5.out _ _,?_,HR1.out.hd,by show 0<=PP+1;omega,by show PP+1<=8;omega,?_⟩
       ·rw[<- HR1.out.eq,e2,if_neg (fun h=>hx (by rw[hX.out];exact h.1))]
       ·have:=HR1.out.pk
        rw[hPP.out] at this;show (8:Int)<=(k':Int)+(PP+1)
        omega
   ·have hlt':¬ q.pass<(cntP q.hd.L:Int):=hlt
    have HE:Hid (npGo kk q=q):=by
     show npGo kk q=q
     cases kk with
     | zero=>rfl
     | succ k'=>rw[npGo,if_neg hlt]
    generalize hCC:cntP q.hd.L=CC at *;replace hCC:Hid _:=hCC;generalize hPP:q.pass=PP at *;replace hPP:Hid _:=hPP;generalize hLL:q.hd.L=LL at *;replace hLL:Hid _:=hLL;go_wp2_with fail;go_quiet ((go_at_call 65;exact Calls.quiet_of_same (FC.out _)))
    go_wp2_with fail;go_meet
    case rel=>
     refine ⟨d,HR.out.B.kept ((Kept.refl _).drewN _),?_,HR.out.C,HR.out.F.kept ((Kept.refl _).drewN _)⟩;rw[<- HR.out.eq,HE.out];exact HR.out.V
 case rest=>
  obtain ⟨d,hB,hV,hC,hF⟩:=hcut;have HN:Hid (r.next=npEnd (npGo 8 { r with pass:=r.pass+1 })):=rfl;have hok:RwOk (npGo 8 { r with pass:=r.pass+1 }):=npGo_ok 8 _ ⟨HK.out.W,HK.out.H,HK.out.D,HK.out.K,HK.out.L,HK.out.filter,HK.out.row,HK.out.above⟩;have hcol:(npGo 8 { r with pass:=r.pass+1 }).columns<=16:=npGo_col 8 _ HK.out.W hc;clear H0 HG HK hw0 k6;generalize npGo 8 { r with pass:=r.pass+1 }=q at *;have B1:Hid (Blk (wc.setCell ⟨b,o+7,none⟩ (.int .i64 0)) b n (upd d (o+7) (.int .i64 0))):=hB.set (by omega) _;have V1:Hid (RwV (upd d (o+7) (.int .i64 0)) o { q with line:=0 }):=hV.set_line 0;have F1:Hid (Fr1 b w (wc.setCell ⟨b,o+7,none⟩ (.int .i64 0))):=Fr1.set hF _ _;have C1:Hid (FrC b o (o+1549) c (upd d (o+7) (.int .i64 0))):=hC.trans (FrC.upd _ (by omega) (by omega));have k7:=hB.at (i:=o+7) (by omega) hV.line;have z7:=hB.fz (o+7);have k8:=B1.out.at (i:=o+8) (by omega) V1.out.columns;have k10:=B1.out.at (i:=o+10) (by omega) V1.out.size;have z10:=B1.out.fz (o+10);replace k8:(wc.setCell ⟨b,o+7,none⟩ (.int .i64 0)).cell? ⟨b,o+8,none⟩=some (.int .i64 (q.columns:Int)):=k8;clear hB hV hF hC;have FP:Hid (∀ W,Kept (wc.setCell ⟨b,o+7,none⟩ (.int .i64 0)) W->Calls Tryz.prog 179 #[.pointer (some ⟨b,o,none⟩)] W fun e w'=>e = .returned (.int .i64 (bitsP q.hd:Int))/\Kept W w'):=fun W k=>(pixelBits_x b o n _ { q with line:=0 } W (B1.out.kept k) V1.out hn ⟨hok.W,hok.H,hok.D,hok.K,hok.L,hok.filter,hok.row,hok.above⟩).mono (fun e w' ⟨h1,j,h2⟩=>⟨h1,by rw[h2];exact (Kept.refl _).drewN _⟩)
  have hbp:=bitsP_le hok;obtain ⟨T,hT⟩:∃ T,T=q.columns*bitsP q.hd:=⟨_,rfl⟩;have eT:(q.columns:Int)*(bitsP q.hd:Int)=(T:Int):=by rw[hT];simp
  have hTb:T<=1024:=by rw[hT];exact Nat.mul_le_mul hcol hbp
  replace hT:Hid _:=hT;go_upto_region 8 with fail
  generalize hw1:wc.setCell ⟨b,o+7,none⟩ (.int .i64 0)=w1 at *;replace hw1:Hid _:=hw1;clear k7 z7;obtain ⟨BP,hBP⟩:∃ BP,BP=bitsP q.hd:=⟨_,rfl⟩;rw[<- hBP] at FP eT hbp;replace hBP:Hid _:=hBP;obtain ⟨QC,hQC⟩:∃ QC,QC=q.columns:=⟨_,rfl⟩;rw[<- hQC] at k8 eT hcol;replace hQC:Hid _:=hQC;go_region_held3 (fun W=>W.cell? ⟨b,o+8,none⟩=some (.int .i64 (QC:Int))) (first | exact k8 | exact hS2.out | exact hS3.out _ | go_keep) ((go_at_call 179;refine (FP.out _ ((Kept.refl _).drewN 1)).mono ?_;rintro e w2 ⟨rfl,hk⟩;have hk2:Kept w1 w2:=((Kept.refl _).drewN 1).trans hk;have hS2:Hid (w2.cell? ⟨b,o+8,none⟩=some (.int .i64 (QC:Int))):=(hk2.cell (p:=⟨b,o+8,none⟩) B1.out.lt).trans k8;have k102:=(hk2.cell (p:=⟨b,o+10,none⟩) B1.out.lt).trans k10;have z102:=(hk2.frozen (p:=⟨b,o+10,none⟩) B1.out.lt).trans z10;have hS3:Hid (∀ v:Value,(w2.setCell ⟨b,o+10,none⟩ v).cell? ⟨b,o+8,none⟩=some (.int .i64 (QC:Int))):=fun v=>(cell_set_other _ _ _ _ _ (by omega)).trans hS2.out))
  have eV:IntKind.i64.wrap ((IntKind.i64.wrap (IntKind.i64.wrap (T:Int)+7)).tdiv 8)=(((T+7) / 8:Nat):Int):=wrapT78 T hTb;rw[eV];have B2:Hid (Blk (w2.setCell ⟨b,o+10,none⟩ (.int .i64 (((T+7) / 8:Nat):Int))) b n (upd (upd d (o+7) (.int .i64 0)) (o+10) (.int .i64 (((T+7) / 8:Nat):Int)))):=(B1.out.kept hk2).set (by omega) _;have F2:Hid (Fr1 b w (w2.setCell ⟨b,o+10,none⟩ (.int .i64 (((T+7) / 8:Nat):Int)))):=Fr1.set (F1.out.kept hk2) _ _;have V2:Hid (RwV (upd (upd d (o+7) (.int .i64 0)) (o+10) (.int .i64 (((T+7) / 8:Nat):Int))) o { q with line:=0,size:=(T+7) / 8 }):=V1.out.set_size _;have C2:Hid (FrC b o (o+1549) c (upd (upd d (o+7) (.int .i64 0)) (o+10) (.int .i64 (((T+7) / 8:Nat):Int)))):=C1.out.trans (FrC.upd _ (by omega) (by omega));clear hk hk2 hS2 hS3 k102 z102 k8 k10 z10 B1 F1 V1 C1 FP;generalize w2.setCell ⟨b,o+10,none⟩ (.int .i64 (((T+7) / 8:Nat):Int))=w3 at *;have hsc:(storeCells ⟨b,o+141,none⟩ (Tryz.zeroCells85).toList).run Tryz.prog w3 = .ok () (w3.setCells b (o+141) (Tryz.zeroCells85).toList):=store_all (by rw[len128'];exact B2.out.there (by omega)) one128';go_wp2;go_end0
  refine ⟨rfl,_,B2.out.sets (k:=o+141) (m:=128) (by omega) (fun _ => .int .u8 ((0:Nat):Int)) len128' at128',?_,C2.out.trans (FrC.updL (by omega) (by omega)),Fr1.sets _ _ F2.out⟩
  have:=V2.out.lay_above (fun _=>0)
  rw[HN.out];unfold npEnd;rw[<- hT.out];exact this
