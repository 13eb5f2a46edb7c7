import Derived.Test.YtmbmecfodigciaaGreatDoorGr49
import Derived.Test.YtmbmecfodigciaaGreatDoorGr48
set_option maxRecDepth 100000
set_option maxHeartbeats 6400000
namespace Go.Proofs.YtmbmecfodigciaaGreatDoor
open Go.RowKit Px
set_option linter.unusedSimpArgs false
set_option linter.unusedVariables false
theorem ahead00_x (x:Nat) (pk:Option Addr) (s0 s1 s2 s3 s4 s5 s6 s7 s9 s10:Value) (w:World) (c7:w.cell? ⟨x,7,none⟩=some (.int .i64 1)) :
  Calls Tryz.prog 28 #[.pointer (some ⟨x,0,none⟩),.agg #[s0,s1,s2,s3,s4,s5,s6,s7,.slice pk 0 0,s9,s10]] w fun r w'=>r = .returned (.bool true)∧Kept w w':=by
 have hk0:Kept w (w.alloc (Obj.cells #[s0,s1,s2,s3,s4,s5,s6,s7,.slice pk 0 0,s9,s10] 50)):=Below.alloc (Below.refl _ _) (Nat.le_refl _) _
 have a7:=(hk0.cell (p:=⟨x,7,none⟩) (World.block_lt_of_cell? _ _ c7)).trans c7
 have a8:(w.alloc (Obj.cells #[s0,s1,s2,s3,s4,s5,s6,s7,.slice pk 0 0,s9,s10] 50)).cell? ⟨w.heap.size,8,none⟩=some (.slice pk 0 0):=(World.cell?_alloc_at _ _ _ _ rfl).trans rfl
 replace hk0:Hid _:=hk0
 clear c7
 go_enter Tryz.func28,Tryz.ntmps28
 go_upto_region 1 with fail
 generalize (w.alloc (Obj.cells #[s0,s1,s2,s3,s4,s5,s6,s7,.slice pk 0 0,s9,s10] 50))=w0 at *
 go_wp2_with fail
 clear a7
 go_loopg [5,6,7,8,9,10,11,12,13,14,15] 7 (fun m v5 v6 v7 v8 v9 v10 v11 v12 v13 v14 v15 W=>∃ p:Nat,m=7 - p∧p≤7∧v7 = .int .i64 (p:Int)∧v5 = .int .i64 (dxP p:Int)∧v6 = .int .i64 (dyP p:Int)∧W=w0)
 case atStart=>exact ⟨0,by omega,by omega,rfl,rfl,rfl,rfl⟩
 case round=>
  obtain ⟨p,hgp,hp7,rfl,rfl,rfl,rfl⟩:=hrel
  replace hgp:Hid _:=hgp
  by_cases hpl:p<7
  ·have hpl':(p:Int)<7:=by omega
   have HD:Hid _:=dP_ok p hpl
   have HEv:Hid _:=dP_even p hpl
   have HOd:Hid _:=dP_odd p hpl
   obtain ⟨hd1,hd2,hd3,hd4⟩:=HD.out
   generalize dxP p=DX at *
   generalize dyP p=DY at *
   go_wp2_with fail
   go_loopg [8,9,10] 1 (fun m v8 v9 v10 W=>v9 = .int .i64 0∧v8 = .bool false∧W=wr)
   case atStart=>exact ⟨rfl,rfl,rfl⟩
   case round=>
    obtain ⟨rfl,rfl,rfl⟩:=hrel
    go_wp2_with fail
    go_loopg [11,12,13,14,15] 1 (fun m v11 v12 v13 v14 v15 W=>v11 = .int .i64 0∧W=wr)
    case atStart=>exact ⟨rfl,rfl⟩
    case round=>
     obtain ⟨rfl,rfl⟩:=hrel
     obtain ⟨PM,hPM⟩:∃ PM,PM=p % 2:=⟨_,rfl⟩
     have tp:(p:Int).tmod 2=(PM:Int):=by rw[Int.tmod_eq_emod_of_nonneg (by omega),hPM];exact (Int.natCast_emod _ _).symm
     have tp':(p:Int) % 2=(PM:Int):=by rw[hPM];exact (Int.natCast_emod _ _).symm
     obtain ⟨HX,hHX⟩:∃ HX,HX=DX / 2:=⟨_,rfl⟩
     obtain ⟨HY,hHY⟩:∃ HY,HY=DY / 2:=⟨_,rfl⟩
     have x1:(DX:Int).tdiv 2=(HX:Int):=by rw[Int.tdiv_eq_ediv_of_nonneg (by omega),hHX];exact (Int.natCast_ediv _ _).symm
     have x2:(DX:Int) / 2=(HX:Int):=by rw[hHX];exact (Int.natCast_ediv _ _).symm
     have x3:(DY:Int).tdiv 2=(HY:Int):=by rw[Int.tdiv_eq_ediv_of_nonneg (by omega),hHY];exact (Int.natCast_ediv _ _).symm
     have x4:(DY:Int) / 2=(HY:Int):=by rw[hHY];exact (Int.natCast_ediv _ _).symm
     have pm2:PM<2:=by omega
     have hb1:HX≤8:=by omega
     have hb2:HY≤8:=by omega
     by_cases hev:PM=0
     ·have hq:Hid _:=HEv.out (by omega)
      rw[← hHX] at hq
      subst hev
      clear hPM hHX hHY
      go_wp2_with fail
      go_roundg (7 - (p+1))
      case measure=>rw[hgp.out];omega
      case rel=>exact ⟨p+1,rfl,by omega,by go_num,by rw[hq.out.1],by rw[hq.out.2],rfl⟩
     ·have hq:Hid _:=HOd.out (by omega)
      rw[← hHY] at hq
      have hev':((PM:Int) == 0)=false:=by rw[beq_eq_false_iff_ne];omega
      clear hPM hHX hHY hev
      go_wp2_with fail
      go_roundg (7 - (p+1))
      case measure=>rw[hgp.out];omega
      case rel=>exact ⟨p+1,rfl,by omega,by go_num,by rw[hq.out.1],by rw[hq.out.2],rfl⟩
  ·have hpl':¬ (p:Int)<7:=by omega
   go_wp2_with fail
   go_ret
   exact ⟨rfl,hk0.out⟩
def SlC (W:World) (p:Option Addr) (N:Nat) (f:Nat→Int):Prop:=∀ j,j<N→∃ g,p=some ⟨g,0,none⟩∧W.cell? ⟨g,j,none⟩=some (.int .i64 (f j))
theorem SlC.kept {W W':World} {p:Option Addr} {N:Nat} {f:Nat→Int} (h:SlC W p N f) (k:Kept W W'):SlC W' p N f:=fun j hj=>by
 obtain ⟨g,e,c⟩:=h j hj
 exact ⟨g,e,(k.cell (p:=⟨g,j,none⟩) (World.block_lt_of_cell? _ _ c)).trans c⟩
theorem SlC.fr {W W':World} {p:Option Addr} {N g:Nat} {f:Nat→Int} (h:SlC W p N f) (k:Fr1 g W W') (hne:∀ g',p=some ⟨g',0,none⟩→g'≠g):SlC W' p N f:=fun j hj=>by
 obtain ⟨g',e,c⟩:=h j hj
 exact ⟨g',e,(k.cell (World.block_lt_of_cell? _ _ c) (hne g' e)).trans c⟩
theorem SlC.lat {W:World} {p:Option Addr} {N c:Nat} {f:Nat→Int} (h:SlC W p N f):LAt W .i64 (.slice p ((List.range N).map f).length c) ((List.range N).map f):=by
 have hl:((List.range N).map f).length=N:=by rw[List.length_map,List.length_range]
 refine ⟨⟨_,_,rfl⟩,fun q c' e i hi => ?_⟩
 injection e with e1 _ _
 rw[hl] at hi
 obtain ⟨g,e2,c2⟩:=h i hi
 refine ⟨g,0,e1.symm.trans e2,?_⟩
 rw[Nat.zero_add,c2,List.getD_eq_getElem?_getD,List.getElem?_map,List.getElem?_range hi];rfl
theorem SlC.at {W:World} {p:Option Addr} {N:Nat} {f:Nat→Int} (h:SlC W p N f) (h0:0<N):∃ g,p=some ⟨g,0,none⟩∧∀ j,j<N→W.cell? ⟨g,j,none⟩=some (.int .i64 (f j)):=by
 obtain ⟨g,e,_⟩:=h 0 h0
 refine ⟨g,e,fun j hj => ?_⟩
 obtain ⟨g2,e2,c⟩:=h j hj
 rw[e] at e2
 injection e2 with e2
 injection e2 with e3
 subst e3
 exact c
theorem SlC.of {W:World} {lo g N:Nat} {f:Nat→Int} (h:NumC W lo g N f):SlC W (some ⟨g,0,none⟩) N f:=fun j hj=>⟨g,rfl,h.2.2 j hj⟩
def nA (a:Rd):Nat:=if a.hd.W=0 then 0 else a.hd.W*a.hd.H
def pxA (a:Rd) (j:Nat):Int:=pxP a.rw a.tl a.hd (j / 4 % a.hd.W) (j / 4 / a.hd.W) (j % 4)
def shA (a:Rd) (j:Nat):Int:=shP a.rw a.tl a.hd (j / 4 % a.hd.W) (j / 4 / a.hd.W) (j % 4)
def SnG (w:World) (a:Rd) (DN:Bool) (n n4:Nat) (e:Ending) (w':World):Prop:=∃ v3 v4 v5 v6 v7:Int,∃ pk pp ps:Option Addr,e = .returned (.agg #[.int .i64 0,.int .i64 0,.bool DN,.int .i64 v3,.int .i64 v4,.int .i64 v5,.int .i64 v6,.int .i64 v7,.slice pk n n,.slice pp n4 n4,.slice ps n4 n4])∧(SlC w' pk n (knP a.rw a.hd)∧SlC w' pp n4 (pxA a)∧SlC w' ps n4 (shA a))∧(∀ q,q=pk∨q=pp∨q=ps→∀ g',q=some ⟨g',0,none⟩→w.heap.size≤g')∧Kept w w'
theorem snapGI {w W:World} {g k:Nat} {a:Rd} (h:DI w W g ⟨a,k,0,0⟩) (hs:ShowOk a) (hpal:PalI a) (hG:GrdAt w) :
  Calls Tryz.prog 24 #[.pointer (some ⟨g,0,none⟩)] W fun e W'=>SnG W a (decide (a.part=5)) (nA a) (4*nA a) e W':=by
 refine (snapFI h hs hpal hG).mono ?_
 rintro e W' ⟨k,⟨q,e1⟩ | ⟨q,gk,gp,gs,e1,e2,e3,e4⟩⟩
 ·replace q:a.hd.W=0:=q
  have en:nA a=0:=if_pos q
  rw[en]
  refine ⟨0,0,0,0,0,none,none,none,?_,⟨fun j hj=>by omega,fun j hj=>by omega,fun j hj=>by omega⟩,fun q hq g' e=>(by rcases hq with rfl | rfl | rfl<;>cases e),k⟩
  rw[e1]
  unfold snNo
  show Ending.returned (Value.agg #[.int .i64 0,.int .i64 0,.bool (decide ((0:Nat)=0) && decide (a.part=5)),.int .i64 0,.int .i64 0,.int .i64 0,.int .i64 0,.int .i64 0,.slice none 0 0,.slice none 0 0,.slice none 0 0])=_
  rw[decide_eq_true rfl,Bool.true_and]
 ·replace q:a.hd.W≠0:=q
  have en:nA a=a.hd.W*a.hd.H:=if_neg q
  rw[en]
  refine ⟨(a.hd.W:Int),(a.hd.H:Int),(a.hd.K:Int),(a.hd.D:Int),(a.hd.L:Int),some ⟨gk,0,none⟩,some ⟨gp,0,none⟩,some ⟨gs,0,none⟩,?_,⟨SlC.of e2,SlC.of e3,SlC.of e4⟩,?_,k⟩
  ·rw[e1]
   unfold snW
   show Ending.returned (Value.agg #[.int .i64 0,.int .i64 0,.bool (decide ((0:Nat)=0) && decide (a.part=5)),.int .i64 (a.hd.W:Int),.int .i64 (a.hd.H:Int),.int .i64 (a.hd.K:Int),.int .i64 (a.hd.D:Int),.int .i64 (a.hd.L:Int),.slice (some ⟨gk,0,none⟩) (a.hd.W*a.hd.H) (a.hd.W*a.hd.H),.slice (some ⟨gp,0,none⟩) (4*(a.hd.W*a.hd.H)) (4*(a.hd.W*a.hd.H)),.slice (some ⟨gs,0,none⟩) (4*(a.hd.W*a.hd.H)) (4*(a.hd.W*a.hd.H))])=_
   rw[decide_eq_true rfl,Bool.true_and]
  ·intro q hq g' e
   rcases hq with rfl | rfl | rfl
   ·injection e with e;injection e with e;subst e;exact e2.1
   ·injection e with e;injection e with e;subst e;exact e3.1
   ·injection e with e;injection e with e;subst e;exact e4.1
theorem seen_at {W H D K L:Nat} {pal clr pix:List Int} {b:Rd} (ok:OkIm W H K D pal clr pix) (hb:SeenF W H D K L pal clr pix b) {x y:Nat} (hx:x<W) (hy:y<H):SmK K pix (y*W+x) (b.rw.smp (4*(y*16+x))) (b.rw.smp (4*(y*16+x)+1)) (b.rw.smp (4*(y*16+x)+2)) (b.rw.smp (4*(y*16+x)+3)):=by
 have hw:=ok.w2
 have hh:=ok.h2
 have kn:=hb.seen.2 x y hx hy
 obtain ⟨_,_,sm⟩:=hb.seen.1 x y (by omega) (by omega) kn
 intro c hc
 have hc4:=chan_le (K:=K)
 have e:=sm c hc
 replace e:b.rw.smp (4*(y*16+x)+c)=(pix.getD ((y*W+x)*chan K+c) 0).toNat:=e
 have hk:y*W+x<W*H:=by
  have:(y+1)*W≤H*W:=Nat.mul_le_mul_right _ hy
  rw[Nat.add_mul,Nat.one_mul,Nat.mul_comm H] at this
  omega
 have hlen:(y*W+x)*chan K+c<pix.length:=by
  rw[ok.pixL]
  have:(y*W+x+1)*chan K≤W*H*chan K:=Nat.mul_le_mul_right _ hk
  rw[Nat.add_mul,Nat.one_mul] at this
  omega
 have hp:=pix_lt ok _ (getD_mem hlen)
 have e2:(b.rw.smp (4*(y*16+x)+c):Int)=pix.getD ((y*W+x)*chan K+c) 0:=by rw[e];omega
 rw[← e2]
 match c,(show c<4 by omega) with
 | 0,_=>rfl
 | 1,_=>rfl
 | 2,_=>rfl
 | 3,_=>rfl
theorem px_pre {W H D K L:Nat} {pal clr pix:List Int} {a b:Rd} (hb:SeenF W H D K L pal clr pix b) (hp:PreF W H D K L pal clr pix b a) {x y:Nat} (hx:x<16) (hy:y<16) (kn:a.rw.known (y*16+x)=true):x<W∧y<H∧pxP a.rw a.tl a.hd x y=pxP b.rw b.tl b.hd x y:=by
 obtain ⟨m1,m2⟩:=hp.mono _ kn
 obtain ⟨c1,c2,_⟩:=hb.seen.1 x y hx hy m1
 refine ⟨c1,c2,?_⟩
 have hw:a.hd.W≠0:=fun q=>by rw[hp.none q] at kn;exact absurd kn (by decide)
 unfold pxP
 rw[if_pos kn,if_pos m1,hp.tab _ kn,hp.hd hw,hb.hd,m2 1 (by omega),m2 2 (by omega),m2 3 (by omega)]
 have:=m2 0 (by omega)
 rw[Nat.add_zero] at this
 rw[this]
theorem px_range {W H D K L:Nat} {pal clr pix:List Int} {a b:Rd} (ok:OkIm W H K D pal clr pix) (hb:SeenF W H D K L pal clr pix b) (hp:PreF W H D K L pal clr pix b a) (x y i:Nat) (hx:x<16) (hy:y<16):0≤pxP a.rw a.tl a.hd x y i∧pxP a.rw a.tl a.hd x y i≤65535:=by
 cases kn:a.rw.known (y*16+x) with
 | false=>
  unfold pxP
  rw[kn,if_neg (by decide)]
  exact ⟨Int.le_refl _,by show (0:Int)≤65535;omega⟩
 | true=>
  obtain ⟨c1,c2,c3⟩:=px_pre hb hp hx hy kn
  rw[c3]
  unfold pxP
  have kb:=(hp.mono _ kn).1
  rw[if_pos kb,hb.hd]
  have hk:y*W+x<W*H:=by
   have:(y+1)*W≤H*W:=Nat.mul_le_mul_right _ c2
   rw[Nat.add_mul,Nat.one_mul,Nat.mul_comm H] at this
   omega
  exact colP_range ok hb.tab hb.show'.clear hb.palI hk (seen_at ok hb c1 c2) i
theorem kn_01 (r:Rw) (h:Hd) (j:Nat):knP r h j=0∨knP r h j=1:=by unfold knP;split<;>simp
theorem kn_is (r:Rw) (h:Hd) (j:Nat):knP r h j=1 ↔ r.known (j / h.W*16+j % h.W)=true:=by
 unfold knP
 split
 ·rename_i q;exact ⟨fun _=>q,fun _=>rfl⟩
 ·rename_i q;exact ⟨fun e=>absurd e (by decide),fun e=>absurd e q⟩
theorem sane_g {W H D K L:Nat} {pal clr pix:List Int} {a b:Rd} (ok:OkIm W H K D pal clr pix) (hL:L≤1) (hb:SeenF W H D K L pal clr pix b) (hp:PreF W H D K L pal clr pix b a) (s0 s1 s2 s3 s4 s5 s6 s7:Value) (pk pp ps:Option Addr) (w:World) (gk:SlC w pk (nA a) (knP a.rw a.hd)) (gp:SlC w pp (4*nA a) (pxA a)) (gs:SlC w ps (4*nA a) (shA a)) :
  Calls Tryz.prog 26 #[.agg #[s0,s1,s2,s3,s4,s5,s6,s7,.slice pk (nA a) (nA a),.slice pp (4*nA a) (4*nA a),.slice ps (4*nA a) (4*nA a)]] w fun r w'=>r = .returned (.bool true)∧Kept w w':=by
 by_cases q:a.hd.W=0
 ·have en:nA a=0:=if_pos q
  rw[en]
  exact sane0_x _ _ _ _ _ _ _ _ _ _ _ w
 ·have eh:=hp.hd q
  have en:nA a=W*H:=by unfold nA;rw[if_neg q,eh]
  have h1:=ok.w1
  have h2:=ok.h1
  have hpos:0<W*H:=Nat.mul_pos h1 h2
  have hle:W*H≤256:=Nat.le_trans (Nat.mul_le_mul ok.w2 ok.h2) (by decide)
  have hw2:=ok.w2
  have hh2:=ok.h2
  rw[en] at gk gp gs ⊢
  obtain ⟨bk,e1,c1⟩:=gk.at hpos
  obtain ⟨bp,e2,c2⟩:=gp.at (by omega)
  obtain ⟨bs,e3,c3⟩:=gs.at (by omega)
  rw[e1,e2,e3]
  have hin:∀ j,j<4*(W*H)→j / 4 % W<W∧j / 4 / W<H:=fun j hj=>⟨Nat.mod_lt _ h1,Nat.div_lt_of_lt_mul (by omega)⟩
  have ew:a.hd.W=W:=by rw[eh]
  have el:a.hd.L=L:=by rw[eh]
  refine sane_x (W*H) (4*(W*H)) bk bp bs s0 s1 s2 s3 s4 s5 s6 s7 _ _ _ w hle rfl c1 c2 c3 (fun j _=>kn_01 _ _ j) (fun j hj e => ?_) (fun j hj e => ?_) (fun j hj => ?_) (fun j hj => ?_)
  ·have kn:¬ a.rw.known (j / 4 / a.hd.W*16+j / 4 % a.hd.W)=true:=fun z=>by rw[(kn_is _ _ _).2 z] at e;exact absurd e (by decide)
   unfold pxA pxP
   rw[if_neg kn]
  ·have kn:=(kn_is _ _ _).1 e
   obtain ⟨i1,i2⟩:=hin j hj
   unfold shA pxA
   rw[sh_px (by rw[el];exact hL) (by rw[ew];omega) (by rw[ew];omega) kn]
  ·obtain ⟨i1,i2⟩:=hin j hj
   exact px_range ok hb hp _ _ _ (by rw[ew];omega) (by rw[ew];omega)
  ·obtain ⟨i1,i2⟩:=hin j hj
   exact shGo_range (by rw[ew];omega) (by rw[ew];omega) (fun X Y i hX hY=>px_range ok hb hp X Y i hX hY) _ _
def CF (b:Rd) (wd k:Nat):Nat→Int:=pxP b.rw b.tl b.hd (k % wd) (k / wd)
theorem colour_b (x wd H K D L P V Z:Nat) (pp qp xp fp kp cp:Option Addr) (pc qc xc fc kc cc:Nat) (pal clr pix fl kl cl:List Int) (k:Nat) (b:Rd) (w:World) (h:Dk w x wd H K D L P V Z pp qp xp fp kp cp pc qc xc fc kc cc pal clr pix fl kl cl) (hb:SeenF wd H D K L pal clr pix b) (hk:k<wd*H) :
  Calls Tryz.prog 29 #[.pointer (some ⟨x,0,none⟩),.int .i64 (k:Int)] w fun e w'=>∃ g,e = .returned (.slice (some ⟨g,0,none⟩) 4 4)∧(∀ W',Kept w' W'→LAt W' .i64 (.slice (some ⟨g,0,none⟩) ((List.range 4).map (CF b wd k)).length 4) ((List.range 4).map (CF b wd k)))∧Kept w w':=by
 have ok:=h.im
 have hx:k % wd<wd:=Nat.mod_lt _ ok.w1
 have hy:k / wd<H:=Nat.div_lt_of_lt_mul hk
 have e1:k / wd*wd+k % wd=k:=by rw[Nat.mul_comm];exact Nat.div_add_mod k wd
 have sm:=seen_at ok hb hx hy
 rw[e1] at sm
 have:=dcolour_x x wd H K D L P V Z k _ _ _ _ pp qp xp fp kp cp pc qc xc fc kc cc pal clr pix fl kl cl b.tl w h hb.tab hk sm
 have e2:CF b wd k=colP b.tl ⟨wd,H,D,K,L⟩ (b.rw.smp (4*(k / wd*16+k % wd))) (b.rw.smp (4*(k / wd*16+k % wd)+1)) (b.rw.smp (4*(k / wd*16+k % wd)+2)) (b.rw.smp (4*(k / wd*16+k % wd)+3)):=by
  unfold CF pxP
  rw[if_pos (hb.seen.2 _ _ hx hy),hb.hd]
 rw[e2]
 exact this.mono (fun e w' q=>q.lat)
theorem ahead_g (x wd H K D L P V Z:Nat) (pp qp xp fp kp cp:Option Addr) (pc qc xc fc kc cc:Nat) (pal clr pix fl kl cl:List Int) (a b:Rd) (s0 s1 s2 s3 s4 s5 s6 s7 s9:Value) (pk ps:Option Addr) (w:World) (h:Dk w x wd H K D L P V Z pp qp xp fp kp cp pc qc xc fc kc cc pal clr pix fl kl cl) (hb:SeenF wd H D K L pal clr pix b) (hp:PreF wd H D K L pal clr pix b a) (gk:SlC w pk (nA a) (knP a.rw a.hd)) (gs:SlC w ps (4*nA a) (shA a)) :
  Calls Tryz.prog 28 #[.pointer (some ⟨x,0,none⟩),.agg #[s0,s1,s2,s3,s4,s5,s6,s7,.slice pk (nA a) (nA a),s9,.slice ps (4*nA a) (4*nA a)]] w fun r w'=>r = .returned (.bool true)∧Kept w w':=by
 have ok:=h.im
 have hL:=h.ch.l
 have c7:=h.c7
 by_cases hL0:L=0
 ·subst hL0
  exact ahead0_x x _ _ _ _ _ _ _ _ _ _ _ w c7
 have hL1:L=1:=by omega
 subst hL1
 by_cases q:a.hd.W=0
 ·have en:nA a=0:=if_pos q
  rw[en]
  exact ahead00_x x pk _ _ _ _ _ _ _ _ _ _ w c7
 have eh:=hp.hd q
 have en:nA a=wd*H:=by unfold nA;rw[if_neg q,eh]
 have h1:=ok.w1
 have h2:=ok.h1
 have hpos:0<wd*H:=Nat.mul_pos h1 h2
 have hle:wd*H≤256:=Nat.le_trans (Nat.mul_le_mul ok.w2 ok.h2) (by decide)
 have hw2:=ok.w2
 have hh2:=ok.h2
 have ew:a.hd.W=wd:=by rw[eh]
 rw[en] at gk gs ⊢
 obtain ⟨bs,e3,c3⟩:=gs.at (by omega)
 have hin:∀ k,k<wd*H→k % wd<wd∧k / wd<H:=fun k hk=>⟨Nat.mod_lt _ h1,Nat.div_lt_of_lt_mul hk⟩
 refine ahead_x x wd (wd*H) (4*(wd*H)) pk ps s0 s1 s2 s3 s4 s5 s6 s7 s9 (knP a.rw a.hd) (fun k=>shP a.rw a.tl a.hd (k % wd) (k / wd)) w h.c0 c7 h1 hw2 hle hpos rfl gk (fun p hp7 _ hj k hk => ?_) (fun p hp7 _ hj k hk=>⟨bs,e3,fun i hi => ?_⟩)
 ·obtain ⟨d1,d2,d3,d4⟩:=dP_ok p hp7
  obtain ⟨i1,i2⟩:=hin k hk
  have hgrid:∀ X Y,X<wd→Y<H→a.rw.known (Y*16+X)=(decide (X % dxP p=0) && decide (Y % dyP p=0)):=fun X Y hX hY=>by
   have hjn:Y*wd+X<wd*H:=by
    have:(Y+1)*wd≤H*wd:=Nat.mul_le_mul_right _ hY
    rw[Nat.add_mul,Nat.one_mul,Nat.mul_comm H] at this
    omega
   have m1:(Y*wd+X) % wd=X:=by rw[Nat.mul_comm,Nat.mul_add_mod,Nat.mod_eq_of_lt hX]
   have m2:(Y*wd+X) / wd=Y:=by rw[Nat.mul_comm,Nat.mul_add_div h1,Nat.div_eq_of_lt hX,Nat.add_zero]
   have e:=hj _ hjn
   unfold onB at e
   rw[m1,m2] at e
   rw[e]
   have ki:=kn_is a.rw a.hd (Y*wd+X)
   rw[ew,m1,m2] at ki
   cases kn:a.rw.known (Y*16+X) with
   | true=>exact (decide_eq_true (ki.2 kn)).symm
   | false=>exact (decide_eq_false (fun z=>by rw[ki.1 z] at kn;exact absurd kn (by decide))).symm
  obtain ⟨X,hX⟩:∃ X,X=k % wd:=⟨_,rfl⟩
  obtain ⟨Y,hY⟩:∃ Y,Y=k / wd:=⟨_,rfl⟩
  rw[← hX] at i1
  rw[← hY] at i2
  have bx:X % dxP p≤X:=Nat.mod_le _ _
  have by':Y % dyP p≤Y:=Nat.mod_le _ _
  obtain ⟨ox,hox⟩:∃ ox,ox=X - X % dxP p:=⟨_,rfl⟩
  obtain ⟨oy,hoy⟩:∃ oy,oy=Y - Y % dyP p:=⟨_,rfl⟩
  have hq:oy*wd+ox<wd*H:=by
   have:(oy+1)*wd≤H*wd:=Nat.mul_le_mul_right _ (by omega)
   rw[Nat.add_mul,Nat.one_mul,Nat.mul_comm H] at this
   omega
  have m1:(oy*wd+ox) % wd=ox:=by rw[Nat.mul_comm,Nat.mul_add_mod,Nat.mod_eq_of_lt (by omega)]
  have m2:(oy*wd+ox) / wd=oy:=by rw[Nat.mul_comm,Nat.mul_add_div h1,Nat.div_eq_of_lt (by omega),Nat.add_zero]
  have a1:ox % dxP p=0:=by
   have:=Nat.div_add_mod X (dxP p)
   rw[hox,show X - X % dxP p=dxP p*(X / dxP p) from by omega]
   exact Nat.mul_mod_right _ _
  have a2:oy % dyP p=0:=by
   have:=Nat.div_add_mod Y (dyP p)
   rw[hoy,show Y - Y % dyP p=dyP p*(Y / dyP p) from by omega]
   exact Nat.mul_mod_right _ _
  have kn:a.rw.known (oy*16+ox)=true:=by rw[hgrid ox oy (by omega) (by omega),decide_eq_true a1,decide_eq_true a2];rfl
  have es:shP a.rw a.tl a.hd (k % wd) (k / wd)=CF b wd (oy*wd+ox):=by
   rw[← hX,← hY,sh_mesh (by rw[eh]) hp7 (by rw[ew];exact i1) (by rw[eh];exact i2) (by rw[ew];exact hw2) (by rw[eh];exact hh2) (fun X' Y' hX' hY'=>hgrid X' Y' (by rw[ew] at hX';exact hX') (by rw[eh] at hY';exact hY')),← hox,← hoy,(px_pre hb hp (by omega) (by omega) kn).2.2]
   unfold CF
   rw[m1,m2]
  refine ⟨oy*wd+ox,by rw[← hY];exact by',?_,fun W kW => ?_⟩
  ·unfold orgK
   rw[← hX,← hY,← hoy,hox]
   omega
  ·have:=colour_b x wd H K D 1 P V Z pp qp xp fp kp cp pc qc xc fc kc cc pal clr pix fl kl cl (oy*wd+ox) b W (h.kept kW) hb hq
   rw[← es] at this
   exact this
 ·have:=c3 (4*k+i) (by omega)
  rw[this]
  unfold shA
  rw[show (4*k+i) / 4=k from by omega,show (4*k+i) % 4=i from by omega,ew]
theorem same_g {wd H D K L:Nat} {pal clr pix:List Int} {a b:Rd} (hb:SeenF wd H D K L pal clr pix b) (hp:PreF wd H D K L pal clr pix b a) (ok:OkIm wd H K D pal clr pix) (q:a.hd.W≠0) (i g g' m:Nat) (w:World) (hi:i<wd*H) (hm:m=4*(wd*H)) (gp:SlC w (some ⟨g,0,none⟩) m (pxA a)) (hl:LAt w .i64 (.slice (some ⟨g',0,none⟩) ((List.range 4).map (CF b wd i)).length 4) ((List.range 4).map (CF b wd i))) :
  Calls Tryz.prog 27 #[.slice (some ⟨g,4*i,none⟩) 4 (m - 4*i),.slice (some ⟨g',0,none⟩) 4 4] w fun e w'=>(∃ B:Bool,e = .returned (.bool B)∧(knP a.rw a.hd i=1→B=true))∧Kept w w':=by
 have hle:wd*H≤256:=Nat.le_trans (Nat.mul_le_mul ok.w2 ok.h2) (by decide)
 have hw2:=ok.w2
 have hh2:=ok.h2
 have h1:=ok.w1
 have ew:a.hd.W=wd:=by rw[hp.hd q]
 have e1:((List.range 4).map (CF b wd i)).length=4:=rfl
 have e2:((List.range 4).map (fun c=>pxA a (4*i+c))).length=4:=rfl
 have hl1:LAt w .i64 (.slice (some ⟨g,4*i,none⟩) ((List.range 4).map (fun c=>pxA a (4*i+c))).length (m - 4*i)) ((List.range 4).map (fun c=>pxA a (4*i+c))):=lat_of (fun j hj=>by
  obtain ⟨g2,z1,z2⟩:=gp (4*i+j) (by omega)
  injection z1 with z1
  injection z1 with z1
  subst z1
  exact z2)
 refine (sameInts_x (some ⟨g,4*i,none⟩) (some ⟨g',0,none⟩) 4 4 (m - 4*i) 4 _ _ w e2.symm e1.symm hl1 hl (by rw[e2];omega) (by rw[e1];omega)).mono ?_
 rintro e w' ⟨rfl,k⟩
 refine ⟨⟨_,rfl,fun kn=>decide_eq_true (List.map_congr_left (fun c hc => ?_))⟩,k⟩
 have hc4:c<4:=List.mem_range.1 hc
 have kk:=(kn_is a.rw a.hd i).1 kn
 have i1:i % wd<wd:=Nat.mod_lt _ h1
 have i2:i / wd<H:=Nat.div_lt_of_lt_mul hi
 rw[ew] at kk
 unfold pxA CF
 rw[show (4*i+c) / 4=i from by omega,show (4*i+c) % 4=c from by omega,ew,(px_pre hb hp (by omega) (by omega) kk).2.2]
theorem feedFI {w W:World} {g:Nat} {d:Dc} (t:ByteArray) (h:DI w W g d) (hk:FeedOk d (bsOf t)) (hs:t.size≤2147483648) (hG:GrdAt w) :
  Calls Tryz.prog 22 #[.pointer (some ⟨g,0,none⟩),.string t] W fun e W'=>e = .returned (.tuple #[.int .i64 ((d.feed (bsOf t)).err:Int),.int .i64 ((d.feed (bsOf t)).at1:Int)])∧DI w W' g (d.feed (bsOf t))∧Fr1 g W W':=by
 obtain ⟨c,b,v⟩:=h.ex
 have h0:=h.pos
 have h1:=h.lo
 refine (feed_x g 5957 t c d W b v (Nat.le_refl _) hk hs (hG.kept h.kept) (by omega)).mono ?_
 rintro e W' ⟨rfl,k⟩
 exact ⟨rfl,h.step k,by obtain ⟨_,_,_,f⟩:=k;exact f⟩
theorem kgrows_x (x wd H K D L P V Z:Nat) (c:Int) (pp qp xp fp kp cp:Option Addr) (pc qc xc fc kc cc:Nat) (pal clr pix fl kl cl:List Int) (ff:ByteArray) (w:World) (h:Dk w x wd H K D L P V Z pp qp xp fp kp cp pc qc xc fc kc cc pal clr pix fl kl cl) (hx0:x≠0) (hf:FileT wd H D K L P V pal clr pix fl kl ff) (h14:w.cell? ⟨x,14,none⟩=some (.string ff)) (hc1 : -9223372036854775808≤c) (hc2:c<9223372036854775808) :
  Calls Tryz.prog 12 #[.pointer (some ⟨x,0,none⟩),.int .i64 c] w fun r w'=>r = .returned (.bool true)∧Kept w w':=by
 have hGr:GrdAt w:=grd_x h.grid
 have hw0:0<w.heap.size:=World.block_lt_of_cell? w ⟨0,0,none⟩ (h.grid 0 (by omega))
 obtain ⟨hs1,hs2⟩:=fileT_size hf
 have FP:Hid (Calls Tryz.prog 17 #[.int .i64 c,.int .i64 (ff.size:Int)] w fun r w'=>(∃ k:Nat,k<ff.size∧r = .returned (.int .i64 (k:Int)))∧w'=w):=pick_any c ff.size w hc1 hc2 (by omega) (by omega)
 obtain ⟨b,hb,HB⟩:=fed_at hf h.im h.ch
 have H14:Hid (∀ W',Kept w W'→W'.cell? ⟨x,14,none⟩=some (.string ff)):=fun W' k=>(k.cell (p:=⟨x,14,none⟩) (World.block_lt_of_cell? _ _ h14)).trans h14
 have HG:Hid (GrdAt w):=hGr
 have HDk:Hid (∀ W,Kept w W→Dk W x wd H K D L P V Z pp qp xp fp kp cp pc qc xc fc kc cc pal clr pix fl kl cl):=fun W k=>h.kept k
 have HSe:Hid (SeenF wd H D K L pal clr pix b):=hb
 have HOk:Hid (OkIm wd H K D pal clr pix):=h.im
 have HL1:Hid (L≤1):=h.ch.l
 replace HB:Hid _:=HB
 clear h hf hGr hb h14
 go_enter Tryz.func12,Tryz.ntmps12
 have y14:=H14.out w (Kept.refl _)
 go_wp2_with fail
 refine FP.out.mono ?_
 rintro r w1 ⟨⟨k,hk,rfl⟩,hw1⟩
 subst w1
 obtain ⟨a,a',fa,hp⟩:=HB.out k hk
 have hki:(k:Int)<(ff.size:Int):=by omega
 have hkl:(k:Int)≤(ff.size:Int):=by omega
 have hk0:(0:Int)≤(k:Int):=by omega
 obtain ⟨k1,hk1⟩:∃ k1,k1=k+1:=⟨_,rfl⟩
 have ek1:(k:Int)+1=(k1:Int):=by omega
 have hk1a:(k:Int)≤(k1:Int):=by omega
 have hk1b:(k1:Int)≤(ff.size:Int):=by omega
 have hk1n:k≤k1:=by omega
 have hk1m:k1≤ff.size:=by omega
 have HP:Hid (PreF wd H D K L pal clr pix b a):=hp
 have F1:Hid (∀ W' g,DI w W' g dc0→Calls Tryz.prog 22 #[.pointer (some ⟨g,0,none⟩),.string (ff.extract 0 k)] W' fun e W2=>e = .returned (.tuple #[.int .i64 0,.int .i64 0])∧DI w W2 g ⟨a,k,0,0⟩):=fun W' g hD=>by
  have:=feedDI (ff.extract 0 k) hD fa.ok (by rw[ByteArray.size_extract];omega) HG.out
  rw[fa.fed] at this
  exact this
 have F2:Hid (∀ W' g,DI w W' g ⟨a,k,0,0⟩→Calls Tryz.prog 22 #[.pointer (some ⟨g,0,none⟩),.string (ff.extract k k1)] W' fun e W2=>e = .returned (.tuple #[.int .i64 0,.int .i64 0])∧DI w W2 g ⟨a',k1,0,0⟩∧Fr1 g W' W2):=fun W' g hD=>by
  rw[hk1]
  have:=feedFI (ff.extract k (k+1)) hD fa.ok2 (by rw[ByteArray.size_extract];omega) HG.out
  rw[fa.fed2] at this
  exact this
 have F3:Hid (∀ W' g,DI w W' g ⟨a,k,0,0⟩→Calls Tryz.prog 24 #[.pointer (some ⟨g,0,none⟩)] W' fun e W2=>SnG W' a false (nA a) (4*nA a) e W2):=fun W' g hD=>by
  have:=snapGI hD fa.sh fa.pl HG.out
  rw[decide_eq_false fa.part] at this
  exact this
 have F4:Hid (∀ W' g,DI w W' g ⟨a',k1,0,0⟩→Calls Tryz.prog 24 #[.pointer (some ⟨g,0,none⟩)] W' fun e W2=>SnG W' a' (decide (k1=ff.size)) (nA a') (4*nA a') e W2):=fun W' g hD=>by
  have:=snapGI hD fa.sh2 fa.pl2 HG.out
  rw[show decide (a'.part=5)=decide (k1=ff.size) from by
   by_cases q:k1=ff.size
   ·rw[decide_eq_true q,decide_eq_true (fa.part2.2 (by omega))]
   ·rw[decide_eq_false q,decide_eq_false (fun z=>q (by have:=fa.part2.1 z;omega))]] at this
  exact this
 have FSa:Hid (∀ W (v3 v4 v5 v6 v7:Int) pk pp ps,SlC W pk (nA a) (knP a.rw a.hd)→SlC W pp (4*nA a) (pxA a)→SlC W ps (4*nA a) (shA a)→Calls Tryz.prog 26 #[.agg #[.int .i64 0,.int .i64 0,.bool false,.int .i64 v3,.int .i64 v4,.int .i64 v5,.int .i64 v6,.int .i64 v7,.slice pk (nA a) (nA a),.slice pp (4*nA a) (4*nA a),.slice ps (4*nA a) (4*nA a)]] W fun r w'=>r = .returned (.bool true)∧Kept W w'):=fun W v3 v4 v5 v6 v7 pk pp ps g1 g2 g3=>sane_g HOk.out HL1.out HSe.out HP.out _ _ _ _ _ _ _ _ pk pp ps W g1 g2 g3
 have FAh:Hid (∀ W (v3 v4 v5 v6 v7:Int) pk pp' ps,Kept w W→SlC W pk (nA a) (knP a.rw a.hd)→SlC W ps (4*nA a) (shA a)→Calls Tryz.prog 28 #[.pointer (some ⟨x,0,none⟩),.agg #[.int .i64 0,.int .i64 0,.bool false,.int .i64 v3,.int .i64 v4,.int .i64 v5,.int .i64 v6,.int .i64 v7,.slice pk (nA a) (nA a),.slice pp' (4*nA a) (4*nA a),.slice ps (4*nA a) (4*nA a)]] W fun r w'=>r = .returned (.bool true)∧Kept W w'):=fun W v3 v4 v5 v6 v7 pk pp' ps kW g1 g3=>ahead_g x wd H K D L P V Z pp qp xp fp kp cp pc qc xc fc kc cc pal clr pix fl kl cl a b _ _ _ _ _ _ _ _ _ pk ps W (HDk.out W kW) HSe.out HP.out g1 g3
 have FEq:Hid (∀ W p q,SlC W p (4*nA a) (pxA a)→SlC W q (4*nA a) (pxA a)→4*nA a≤100000→Calls Tryz.prog 27 #[.slice p (4*nA a) (4*nA a),.slice q (4*nA a) (4*nA a)] W fun e w'=>e = .returned (.bool true)∧Kept W w'):=fun W p q g1 g2 hle=>by
  have e1:((List.range (4*nA a)).map (pxA a)).length=4*nA a:=by rw[List.length_map,List.length_range]
  have:=sameInts_x p q (4*nA a) (4*nA a) (4*nA a) (4*nA a) _ _ W e1.symm e1.symm g1.lat g2.lat (by rw[e1];exact hle) (by rw[e1];exact hle)
  rw[decide_eq_true rfl] at this
  exact this
 have HNa:Hid (nA a≤256∧(0<nA a→nA a=wd*H∧a.hd.W≠0∧nA a'=nA a∧a'.hd=a.hd)):=by
  have hle:wd*H≤256:=Nat.le_trans (Nat.mul_le_mul HOk.out.w2 HOk.out.h2) (by decide)
  by_cases q:a.hd.W=0
  ·have en:nA a=0:=if_pos q
   exact ⟨by rw[en];exact Nat.zero_le _,fun z=>by rw[en] at z;omega⟩
  ·have en:nA a=wd*H:=by unfold nA;rw[if_neg q,HP.out.hd q]
   have e2:=fa.hd q
   exact ⟨by rw[en];exact hle,fun _=>⟨en,q,by unfold nA;rw[e2],e2⟩⟩
 have HKm:Hid (∀ i,0<nA a→knP a.rw a.hd i=1→knP a'.rw a'.hd i=1):=fun i h0 e=>by
  obtain ⟨_,_,_,e2⟩:=HNa.out.2 h0
  rw[e2]
  exact (kn_is _ _ _).2 (fa.mono _ ((kn_is _ _ _).1 e)).1
 have FCo:Hid (∀ W i,Kept w W→i<nA a→Calls Tryz.prog 29 #[.pointer (some ⟨x,0,none⟩),.int .i64 (i:Int)] W fun e w'=>∃ g,e = .returned (.slice (some ⟨g,0,none⟩) 4 4)∧(∀ W',Kept w' W'→LAt W' .i64 (.slice (some ⟨g,0,none⟩) ((List.range 4).map (CF b wd i)).length 4) ((List.range 4).map (CF b wd i)))∧Kept W w'):=fun W i kW hi=>colour_b x wd H K D L P V Z pp qp xp fp kp cp pc qc xc fc kc cc pal clr pix fl kl cl i b W (HDk.out W kW) HSe.out (by have:=(HNa.out.2 (by omega)).1;omega)
 have FSi:Hid (∀ W i g g',i<nA a→SlC W (some ⟨g,0,none⟩) (4*nA a) (pxA a)→LAt W .i64 (.slice (some ⟨g',0,none⟩) ((List.range 4).map (CF b wd i)).length 4) ((List.range 4).map (CF b wd i))→Calls Tryz.prog 27 #[.slice (some ⟨g,4*i,none⟩) 4 (4*nA a - 4*i),.slice (some ⟨g',0,none⟩) 4 4] W fun e w'=>(∃ B:Bool,e = .returned (.bool B)∧(knP a.rw a.hd i=1→B=true))∧Kept W w'):=fun W i g g' hi g2 hl=>by
  obtain ⟨z1,z2,_⟩:=HNa.out.2 (by omega)
  exact same_g HSe.out HP.out HOk.out z2 i g g' (4*nA a) W (by omega) (by rw[z1]) g2 hl
 have F0:Hid (Calls Tryz.prog 21 #[] w fun e W'=>∃ g,e = .returned (.pointer (some ⟨g,0,none⟩))∧DI w W' g dc0):=newDI (Kept.refl _) hw0
 have HK01:Hid (∀ i,knP a.rw a.hd i=0∨knP a.rw a.hd i=1):=kn_01 a.rw a.hd
 have HDN:Hid (decide (k1=ff.size)=((k1:Int) == (ff.size:Int))):=by
  show decide (k1=ff.size)=((k1:Int) == (ff.size:Int))
  by_cases q:k1=ff.size
  ·rw[decide_eq_true q,q];exact (beq_self_eq_true _).symm
  ·rw[decide_eq_false q];exact (beq_eq_false_iff_ne.2 (by omega)).symm
 obtain ⟨n,hn⟩:∃ n,n=nA a:=⟨_,rfl⟩
 obtain ⟨m,hm⟩:∃ m,m=4*nA a:=⟨_,rfl⟩
 obtain ⟨n2,hn2⟩:∃ n,n=nA a':=⟨_,rfl⟩
 obtain ⟨m2,hm2⟩:∃ m,m=4*nA a':=⟨_,rfl⟩
 have HMN:Hid (m=4*n):=by show m=4*n;rw[hm,hn]
 rw[← hm] at F3 FSa FAh FEq FSi
 rw[← hm2] at F4
 rw[← hn] at F3 FSa FAh HNa HKm FCo FSi
 rw[← hn2] at F4 HNa
 have hnb:n≤256:=HNa.out.1
 have hmb:m≤1024:=by have:=HMN.out;omega
 generalize decide (k1=ff.size)=DN at *
 clear fa hp HB FP hn hm hn2 hm2
 replace hk1:Hid _:=hk1
 go_wp2_with fail
 refine F0.out.mono ?_
 rintro r w2 ⟨g,rfl,hD2⟩
 have y2:=H14.out w2 hD2.kept
 have D2:Hid (DI w w2 g dc0):=hD2
 clear hD2 y14
 go_wp2_with fail
 refine (F1.out w2 g D2.out).mono ?_
 rintro r w3 ⟨rfl,hD3⟩
 have D3:Hid (DI w w3 g ⟨a,k,0,0⟩):=hD3
 clear hD3 D2 y2
 go_wp2_with fail
 refine (F3.out w3 g D3.out).mono ?_
 rintro r w4 ⟨v31,v41,v51,v61,v71,pk1,pp1,ps1,rfl,hs1',hlo1,hk4⟩
 have LO1:Hid (∀ q,q=pk1∨q=pp1∨q=ps1→∀ g',q=some ⟨g',0,none⟩→g'≠g):=fun q hq g' e=>by have:=hlo1 q hq g' e;have:=D3.out.glt;omega
 have hgw4:g<w4.heap.size:=Nat.lt_of_lt_of_le D3.out.glt hk4.size
 clear hlo1
 have S1:Hid _:=hs1'
 have D4:Hid (DI w w4 g ⟨a,k,0,0⟩):=D3.out.on hk4
 clear hs1' hk4 D3
 obtain ⟨cs,hcs⟩:∃ cs:List Value,cs=[.int .i64 0,.int .i64 0,.bool false,.int .i64 v31,.int .i64 v41,.int .i64 v51,.int .i64 v61,.int .i64 v71,.slice pk1 n n,.slice pp1 m m,.slice ps1 m m]:=⟨_,rfl⟩
 have hl:cs.length=11:=by rw[hcs];rfl
 have ho:∀ v ∈ cs,v.oneCell'=true:=by
  intro v hv
  rw[hcs] at hv
  simp only [List.mem_cons,List.not_mem_nil,or_false] at hv
  rcases hv with rfl | rfl | rfl | rfl | rfl | rfl | rfl | rfl | rfl | rfl | rfl<;>rfl
 obtain ⟨hsc,hrg,hkl6⟩:=snap_lay w4 cs hl ho
 unfold snN at hsc hrg hkl6
 have K5:Hid (Kept w4 ((w4.alloc (Obj.cells #[.int .i64 0,.int .i64 0,.bool false,.int .i64 0,.int .i64 0,.int .i64 0,.int .i64 0,.int .i64 0,.slice none 0 0,.slice none 0 0,.slice none 0 0] 50)).setCells w4.heap.size 0 cs)):=hkl6
 have hag:(Value.agg #[.int .i64 0,.int .i64 0,.bool false,.int .i64 v31,.int .i64 v41,.int .i64 v51,.int .i64 v61,.int .i64 v71,.slice pk1 n n,.slice pp1 m m,.slice ps1 m m]) = .agg cs.toArray:=by rw[hcs]
 rw[hag]
 replace hag:Hid _:=hag
 replace hcs:Hid _:=hcs
 replace hl:Hid _:=hl
 replace ho:Hid _:=ho
 replace hrg:Hid _:=hrg
 clear hkl6
 go_upto_region 5 with fail
 generalize ((w4.alloc (Obj.cells #[.int .i64 0,.int .i64 0,.bool false,.int .i64 0,.int .i64 0,.int .i64 0,.int .i64 0,.int .i64 0,.slice none 0 0,.slice none 0 0,.slice none 0 0] 50)).setCells w4.heap.size 0 cs)=w5 at *
 clear hsc
 replace hrg:=hrg.out
 rw[hcs.out] at hrg
 have hB1:w4.heap.size<w5.heap.size:=World.block_lt_of_cell? w5 ⟨w4.heap.size,0,none⟩ (hrg 0 _ rfl)
 have R1:Hid (∀ W,Kept w5 W→W.cell? ⟨w4.heap.size,0,none⟩=some (.int .i64 0)∧W.cell? ⟨w4.heap.size,1,none⟩=some (.int .i64 0)∧W.cell? ⟨w4.heap.size,2,none⟩=some (.bool false)∧W.cell? ⟨w4.heap.size,3,none⟩=some (.int .i64 v31)∧W.cell? ⟨w4.heap.size,4,none⟩=some (.int .i64 v41)∧W.cell? ⟨w4.heap.size,5,none⟩=some (.int .i64 v51)∧W.cell? ⟨w4.heap.size,6,none⟩=some (.int .i64 v61)∧W.cell? ⟨w4.heap.size,7,none⟩=some (.int .i64 v71)∧W.cell? ⟨w4.heap.size,8,none⟩=some (.slice pk1 n n)∧W.cell? ⟨w4.heap.size,9,none⟩=some (.slice pp1 m m)∧W.cell? ⟨w4.heap.size,10,none⟩=some (.slice ps1 m m)):=fun W k=>⟨(k.cell (p:=⟨w4.heap.size,0,none⟩) hB1).trans (hrg 0 _ rfl),(k.cell (p:=⟨w4.heap.size,1,none⟩) hB1).trans (hrg 1 _ rfl),(k.cell (p:=⟨w4.heap.size,2,none⟩) hB1).trans (hrg 2 _ rfl),(k.cell (p:=⟨w4.heap.size,3,none⟩) hB1).trans (hrg 3 _ rfl),(k.cell (p:=⟨w4.heap.size,4,none⟩) hB1).trans (hrg 4 _ rfl),(k.cell (p:=⟨w4.heap.size,5,none⟩) hB1).trans (hrg 5 _ rfl),(k.cell (p:=⟨w4.heap.size,6,none⟩) hB1).trans (hrg 6 _ rfl),(k.cell (p:=⟨w4.heap.size,7,none⟩) hB1).trans (hrg 7 _ rfl),(k.cell (p:=⟨w4.heap.size,8,none⟩) hB1).trans (hrg 8 _ rfl),(k.cell (p:=⟨w4.heap.size,9,none⟩) hB1).trans (hrg 9 _ rfl),(k.cell (p:=⟨w4.heap.size,10,none⟩) hB1).trans (hrg 10 _ rfl)⟩
 clear hrg hag hcs hl ho
 generalize w4.heap.size=B1 at *
 have D5:Hid (DI w w5 g ⟨a,k,0,0⟩):=D4.out.on K5.out
 have T1:Hid (∀ W,Kept w5 W→SlC W pk1 n (knP a.rw a.hd)∧SlC W pp1 m (pxA a)∧SlC W ps1 m (shA a)):=fun W k=>⟨(S1.out.1.kept K5.out).kept k,(S1.out.2.1.kept K5.out).kept k,(S1.out.2.2.kept K5.out).kept k⟩
 clear S1 D4 K5
 obtain ⟨y0,y1,y2,y3,y4,y5,y6,y7,y8,y9,y10⟩:=R1.out w5 (Kept.refl _)
 go_wp2_with fail
 refine Calls.mono (FSa.out w5 v31 v41 v51 v61 v71 pk1 pp1 ps1 (T1.out w5 (Kept.refl _)).1 (T1.out w5 (Kept.refl _)).2.1 (T1.out w5 (Kept.refl _)).2.2) ?_
 rintro r w6 ⟨rfl,hk6⟩
 have K6:Hid (Kept w5 w6):=hk6
 have D6:Hid (DI w w6 g ⟨a,k,0,0⟩):=D5.out.on hk6
 clear hk6 y0 y1 y2 y3 y4 y5 y6 y7 y8 y9 y10
 obtain ⟨y0,y1,y2,y3,y4,y5,y6,y7,y8,y9,y10⟩:=R1.out w6 K6.out
 clear y0 y1 y3 y4 y5 y6 y7 y8 y9 y10
 go_wp2_with fail
 refine (F3.out w6 g D6.out).mono ?_
 rintro r w7 ⟨v32,v42,v52,v62,v72,pk2,pp2,ps2,rfl,hs2',_,hk7⟩
 have S2:Hid _:=hs2'
 have D7:Hid (DI w w7 g ⟨a,k,0,0⟩):=D6.out.on hk7
 have K7:Hid (Kept w5 w7):=K6.out.trans hk7
 clear hs2' hk7 D6 y2
 obtain ⟨cs,hcs⟩:∃ cs:List Value,cs=[.int .i64 0,.int .i64 0,.bool false,.int .i64 v32,.int .i64 v42,.int .i64 v52,.int .i64 v62,.int .i64 v72,.slice pk2 n n,.slice pp2 m m,.slice ps2 m m]:=⟨_,rfl⟩
 have hl:cs.length=11:=by rw[hcs];rfl
 have ho:∀ v ∈ cs,v.oneCell'=true:=by
  intro v hv
  rw[hcs] at hv
  simp only [List.mem_cons,List.not_mem_nil,or_false] at hv
  rcases hv with rfl | rfl | rfl | rfl | rfl | rfl | rfl | rfl | rfl | rfl | rfl<;>rfl
 obtain ⟨hsc,hrg,hkl6⟩:=snap_lay w7 cs hl ho
 unfold snN at hsc hrg hkl6
 have K8:Hid (Kept w7 ((w7.alloc (Obj.cells #[.int .i64 0,.int .i64 0,.bool false,.int .i64 0,.int .i64 0,.int .i64 0,.int .i64 0,.int .i64 0,.slice none 0 0,.slice none 0 0,.slice none 0 0] 50)).setCells w7.heap.size 0 cs)):=hkl6
 have hag:(Value.agg #[.int .i64 0,.int .i64 0,.bool false,.int .i64 v32,.int .i64 v42,.int .i64 v52,.int .i64 v62,.int .i64 v72,.slice pk2 n n,.slice pp2 m m,.slice ps2 m m]) = .agg cs.toArray:=by rw[hcs]
 rw[hag]
 replace hag:Hid _:=hag
 replace hcs:Hid _:=hcs
 replace hl:Hid _:=hl
 replace ho:Hid _:=ho
 replace hrg:Hid _:=hrg
 clear hkl6
 go_upto_region 9 with fail
 generalize ((w7.alloc (Obj.cells #[.int .i64 0,.int .i64 0,.bool false,.int .i64 0,.int .i64 0,.int .i64 0,.int .i64 0,.int .i64 0,.slice none 0 0,.slice none 0 0,.slice none 0 0] 50)).setCells w7.heap.size 0 cs)=w8 at *
 clear hsc
 replace hrg:=hrg.out
 rw[hcs.out] at hrg
 have hB2:w7.heap.size<w8.heap.size:=World.block_lt_of_cell? w8 ⟨w7.heap.size,0,none⟩ (hrg 0 _ rfl)
 have R2:Hid (∀ W,Kept w8 W→W.cell? ⟨w7.heap.size,0,none⟩=some (.int .i64 0)∧W.cell? ⟨w7.heap.size,1,none⟩=some (.int .i64 0)∧W.cell? ⟨w7.heap.size,2,none⟩=some (.bool false)∧W.cell? ⟨w7.heap.size,3,none⟩=some (.int .i64 v32)∧W.cell? ⟨w7.heap.size,4,none⟩=some (.int .i64 v42)∧W.cell? ⟨w7.heap.size,5,none⟩=some (.int .i64 v52)∧W.cell? ⟨w7.heap.size,6,none⟩=some (.int .i64 v62)∧W.cell? ⟨w7.heap.size,7,none⟩=some (.int .i64 v72)∧W.cell? ⟨w7.heap.size,8,none⟩=some (.slice pk2 n n)∧W.cell? ⟨w7.heap.size,9,none⟩=some (.slice pp2 m m)∧W.cell? ⟨w7.heap.size,10,none⟩=some (.slice ps2 m m)):=fun W k=>⟨(k.cell (p:=⟨w7.heap.size,0,none⟩) hB2).trans (hrg 0 _ rfl),(k.cell (p:=⟨w7.heap.size,1,none⟩) hB2).trans (hrg 1 _ rfl),(k.cell (p:=⟨w7.heap.size,2,none⟩) hB2).trans (hrg 2 _ rfl),(k.cell (p:=⟨w7.heap.size,3,none⟩) hB2).trans (hrg 3 _ rfl),(k.cell (p:=⟨w7.heap.size,4,none⟩) hB2).trans (hrg 4 _ rfl),(k.cell (p:=⟨w7.heap.size,5,none⟩) hB2).trans (hrg 5 _ rfl),(k.cell (p:=⟨w7.heap.size,6,none⟩) hB2).trans (hrg 6 _ rfl),(k.cell (p:=⟨w7.heap.size,7,none⟩) hB2).trans (hrg 7 _ rfl),(k.cell (p:=⟨w7.heap.size,8,none⟩) hB2).trans (hrg 8 _ rfl),(k.cell (p:=⟨w7.heap.size,9,none⟩) hB2).trans (hrg 9 _ rfl),(k.cell (p:=⟨w7.heap.size,10,none⟩) hB2).trans (hrg 10 _ rfl)⟩
 clear hrg hag hcs hl ho
 generalize w7.heap.size=B2 at *
 have D8:Hid (DI w w8 g ⟨a,k,0,0⟩):=D7.out.on K8.out
 have K58:Hid (Kept w5 w8):=K7.out.trans K8.out
 have FQ:Hid _:=FEq.out w8 pp2 pp1 (S2.out.2.1.kept K8.out) (T1.out w8 K58.out).2.1 (by omega)
 obtain ⟨z0,z1,z2,z3,z4,z5,z6,z7,z8,z9,z10⟩:=R2.out w8 (Kept.refl _)
 obtain ⟨y0,y1,y2,y3,y4,y5,y6,y7,y8,y9,y10⟩:=R1.out w8 K58.out
 clear z0 z1 z2 z3 z4 z5 z6 z7 z8 z10 y0 y1 y2 y3 y4 y5 y6 y7 y8 y10 S2 D7 K7 K8 R2
 go_wp2_with fail
 refine Calls.mono FQ.out ?_
 rintro r w9 ⟨rfl,hk9⟩
 have D9:Hid (DI w w9 g ⟨a,k,0,0⟩):=D8.out.on hk9
 have K9:Hid (Kept w5 w9):=K58.out.trans hk9
 clear hk9 D8 K58 z9 y9 FQ
 obtain ⟨y0,y1,y2,y3,y4,y5,y6,y7,y8,y9,y10⟩:=R1.out w9 K9.out
 have FH:Hid _:=FAh.out w9 v31 v41 v51 v61 v71 pk1 pp1 ps1 D9.out.kept (T1.out w9 K9.out).1 (T1.out w9 K9.out).2.2
 go_wp2_with fail
 refine Calls.mono FH.out ?_
 rintro r w10 ⟨rfl,hk10⟩
 have D10:Hid (DI w w10 g ⟨a,k,0,0⟩):=D9.out.on hk10
 have K10:Hid (Kept w5 w10):=K9.out.trans hk10
 clear hk10 D9 K9 FH y0 y1 y2 y3 y4 y5 y6 y7 y8 y9 y10
 have y14:=H14.out w10 D10.out.kept
 go_wp2_with fail
 refine (F2.out w10 g D10.out).mono ?_
 rintro r w11 ⟨rfl,hD11,hf11⟩
 have D11:Hid (DI w w11 g ⟨a',k1,0,0⟩):=hD11
 have U11:Hid (SlC w11 pk1 n (knP a.rw a.hd)∧SlC w11 pp1 m (pxA a)):=⟨(T1.out w10 K10.out).1.fr hf11 (LO1.out _ (Or.inl rfl)),(T1.out w10 K10.out).2.1.fr hf11 (LO1.out _ (Or.inr (Or.inl rfl)))⟩
 have hB1w:B1<w10.heap.size:=Nat.lt_of_lt_of_le hB1 K10.out.size
 have V11:Hid (w11.cell? ⟨B1,8,none⟩=some (.slice pk1 n n)∧w11.cell? ⟨B1,9,none⟩=some (.slice pp1 m m)):=by
  obtain ⟨y0,y1,y2,y3,y4,y5,y6,y7,y8,y9,y10⟩:=R1.out w10 K10.out
  exact ⟨(hf11.cell hB1w (by omega)).trans y8,(hf11.cell hB1w (by omega)).trans y9⟩
 have hB1v:B1<w11.heap.size:=Nat.lt_of_lt_of_le hB1w hf11.size
 clear hD11 hf11 D10 K10 R1 T1 LO1 y14 hB1 hB1w
 go_wp2_with fail
 refine (F4.out w11 g D11.out).mono ?_
 rintro r w12 ⟨v33,v43,v53,v63,v73,pk3,pp3,ps3,rfl,hs3',_,hk12⟩
 have S3:Hid _:=hs3'
 have K12:Hid (Kept w11 w12):=hk12
 clear hs3' hk12
 obtain ⟨cs,hcs⟩:∃ cs:List Value,cs=[.int .i64 0,.int .i64 0,.bool DN,.int .i64 v33,.int .i64 v43,.int .i64 v53,.int .i64 v63,.int .i64 v73,.slice pk3 n2 n2,.slice pp3 m2 m2,.slice ps3 m2 m2]:=⟨_,rfl⟩
 have hl:cs.length=11:=by rw[hcs];rfl
 have ho:∀ v ∈ cs,v.oneCell'=true:=by
  intro v hv
  rw[hcs] at hv
  simp only [List.mem_cons,List.not_mem_nil,or_false] at hv
  rcases hv with rfl | rfl | rfl | rfl | rfl | rfl | rfl | rfl | rfl | rfl | rfl<;>rfl
 obtain ⟨hsc,hrg,hkl6⟩:=snap_lay w12 cs hl ho
 unfold snN at hsc hrg hkl6
 have K13:Hid (Kept w12 ((w12.alloc (Obj.cells #[.int .i64 0,.int .i64 0,.bool false,.int .i64 0,.int .i64 0,.int .i64 0,.int .i64 0,.int .i64 0,.slice none 0 0,.slice none 0 0,.slice none 0 0] 50)).setCells w12.heap.size 0 cs)):=hkl6
 have hag:(Value.agg #[.int .i64 0,.int .i64 0,.bool DN,.int .i64 v33,.int .i64 v43,.int .i64 v53,.int .i64 v63,.int .i64 v73,.slice pk3 n2 n2,.slice pp3 m2 m2,.slice ps3 m2 m2]) = .agg cs.toArray:=by rw[hcs]
 rw[hag]
 replace hag:Hid _:=hag
 replace hcs:Hid _:=hcs
 replace hl:Hid _:=hl
 replace ho:Hid _:=ho
 replace hrg:Hid _:=hrg
 clear hkl6
 go_upto_region 17 with fail
 generalize ((w12.alloc (Obj.cells #[.int .i64 0,.int .i64 0,.bool false,.int .i64 0,.int .i64 0,.int .i64 0,.int .i64 0,.int .i64 0,.slice none 0 0,.slice none 0 0,.slice none 0 0] 50)).setCells w12.heap.size 0 cs)=w13 at *
 clear hsc
 replace hrg:=hrg.out
 rw[hcs.out] at hrg
 have hB3:w12.heap.size<w13.heap.size:=World.block_lt_of_cell? w13 ⟨w12.heap.size,0,none⟩ (hrg 0 _ rfl)
 have R3:Hid (∀ W,Kept w13 W→W.cell? ⟨w12.heap.size,0,none⟩=some (.int .i64 0)∧W.cell? ⟨w12.heap.size,1,none⟩=some (.int .i64 0)∧W.cell? ⟨w12.heap.size,2,none⟩=some (.bool DN)∧W.cell? ⟨w12.heap.size,3,none⟩=some (.int .i64 v33)∧W.cell? ⟨w12.heap.size,4,none⟩=some (.int .i64 v43)∧W.cell? ⟨w12.heap.size,5,none⟩=some (.int .i64 v53)∧W.cell? ⟨w12.heap.size,6,none⟩=some (.int .i64 v63)∧W.cell? ⟨w12.heap.size,7,none⟩=some (.int .i64 v73)∧W.cell? ⟨w12.heap.size,8,none⟩=some (.slice pk3 n2 n2)∧W.cell? ⟨w12.heap.size,9,none⟩=some (.slice pp3 m2 m2)∧W.cell? ⟨w12.heap.size,10,none⟩=some (.slice ps3 m2 m2)):=fun W k=>⟨(k.cell (p:=⟨w12.heap.size,0,none⟩) hB3).trans (hrg 0 _ rfl),(k.cell (p:=⟨w12.heap.size,1,none⟩) hB3).trans (hrg 1 _ rfl),(k.cell (p:=⟨w12.heap.size,2,none⟩) hB3).trans (hrg 2 _ rfl),(k.cell (p:=⟨w12.heap.size,3,none⟩) hB3).trans (hrg 3 _ rfl),(k.cell (p:=⟨w12.heap.size,4,none⟩) hB3).trans (hrg 4 _ rfl),(k.cell (p:=⟨w12.heap.size,5,none⟩) hB3).trans (hrg 5 _ rfl),(k.cell (p:=⟨w12.heap.size,6,none⟩) hB3).trans (hrg 6 _ rfl),(k.cell (p:=⟨w12.heap.size,7,none⟩) hB3).trans (hrg 7 _ rfl),(k.cell (p:=⟨w12.heap.size,8,none⟩) hB3).trans (hrg 8 _ rfl),(k.cell (p:=⟨w12.heap.size,9,none⟩) hB3).trans (hrg 9 _ rfl),(k.cell (p:=⟨w12.heap.size,10,none⟩) hB3).trans (hrg 10 _ rfl)⟩
 clear hrg hag hcs hl ho
 generalize w12.heap.size=B3 at *
 have K13':Hid (Kept w11 w13):=K12.out.trans K13.out
 have HT:Hid (∀ W,Kept w13 W→(W.cell? ⟨B1,8,none⟩=some (.slice pk1 n n)∧W.cell? ⟨B1,9,none⟩=some (.slice pp1 m m)∧W.cell? ⟨B3,8,none⟩=some (.slice pk3 n2 n2))∧SlC W pk1 n (knP a.rw a.hd)∧SlC W pp1 m (pxA a)∧SlC W pk3 n2 (knP a'.rw a'.hd)):=fun W k=>by
  have kk:=K13'.out.trans k
  obtain ⟨z0,z1,z2,z3,z4,z5,z6,z7,z8,z9,z10⟩:=R3.out W k
  exact ⟨⟨(kk.cell (p:=⟨B1,8,none⟩) hB1v).trans V11.out.1,(kk.cell (p:=⟨B1,9,none⟩) hB1v).trans V11.out.2,z8⟩,U11.out.1.kept kk,U11.out.2.kept kk,(S3.out.1.kept K13.out).kept k⟩
 have KW:Hid (Kept w w13):=D11.out.kept.trans K13'.out
 have z2:=(R3.out w13 (Kept.refl _)).2.2.1
 have y14:=H14.out w13 KW.out
 have hdn:=HDN.out
 generalize hEQ:((k1:Int) == (ff.size:Int))=EQ at *
 rw[hdn] at z2
 clear hdn S3 K12 K13 K13' V11 U11 D11 R3
 replace hEQ:Hid _:=hEQ
 have hEQ':((k1:Int) == (ff.size:Int))=EQ:=hEQ.out
 have hEQ2:(EQ != EQ)=false:=by cases EQ<;>rfl
 go_quiet (fail)
 have K14:Hid (Kept w13 (w13.drewN nq)):=(Kept.refl _).drewN _
 generalize w13.drewN nq=w14 at *
 clear z2 y14
 have y8:=(HT.out w14 K14.out).1.1
 go_wp2_with fail
 go_loopg [12,14,15] n (fun t v12 v14 v15 W=>∃ i:Nat,t=n - i∧i≤n∧v14 = .int .i64 (i:Int)∧Kept w13 W)
 case atStart=>exact ⟨0,by omega,by omega,rfl,K14.out⟩
 case round=>
  obtain ⟨i,hgi,hin,rfl,hkw⟩:=hrel
  replace hgi:Hid _:=hgi
  have KR:Hid (Kept w13 wr):=hkw
  clear hkw y8
  have y8:=(HT.out wr KR.out).1.1
  by_cases hlt:i<n
  ·have hlt':(i:Int)<(n:Int):=by omega
   have i0:(0:Int)≤(i:Int):=by omega
   have hn0:0<n:=by omega
   have hm4:=HMN.out
   have hn2e:=(HNa.out.2 hn0).2.2.1
   obtain ⟨T0,hT0⟩:∃ T,T=4*i:=⟨_,rfl⟩
   obtain ⟨T4,hT4⟩:∃ T,T=4*i+4:=⟨_,rfl⟩
   have t1:4*(i:Int)=(T0:Int):=by omega
   have t2:(T0:Int)+4=(T4:Int):=by omega
   have b1:T0≤T4:=by omega
   have b2:T4≤m:=by omega
   have b3:T4 - T0=4:=by omega
   have hi2:(i:Int)<(n2:Int):=by omega
   have hi2n:i<n2:=by omega
   obtain ⟨gP,hgP⟩:∃ g,pp1=some ⟨g,0,none⟩:=by obtain ⟨g,e,_⟩:=(HT.out wr KR.out).2.2.1.at (by omega);exact ⟨g,e⟩
   obtain ⟨gK,hgK⟩:∃ g,pk1=some ⟨g,0,none⟩:=by obtain ⟨g,e,_⟩:=(HT.out wr KR.out).2.1.at (by omega);exact ⟨g,e⟩
   obtain ⟨gT,hgT⟩:∃ g,pk3=some ⟨g,0,none⟩:=by obtain ⟨g,e,_⟩:=(HT.out wr KR.out).2.2.2.at (by omega);exact ⟨g,e⟩
   have HT2:Hid (∀ W,Kept w13 W→W.cell? ⟨B1,8,none⟩=some (.slice (some ⟨gK,0,none⟩) n n)∧W.cell? ⟨B1,9,none⟩=some (.slice (some ⟨gP,0,none⟩) m m)∧W.cell? ⟨B3,8,none⟩=some (.slice (some ⟨gT,0,none⟩) n2 n2)∧W.cell? ⟨gK,i,none⟩=some (.int .i64 (knP a.rw a.hd i))∧W.cell? ⟨gT,i,none⟩=some (.int .i64 (knP a'.rw a'.hd i))∧SlC W (some ⟨gP,0,none⟩) m (pxA a)):=fun W k=>by
    obtain ⟨⟨q1,q2,q3⟩,q4,q5,q6⟩:=HT.out W k
    obtain ⟨u1,e1,c1⟩:=q4 i hlt
    obtain ⟨u3,e3,c3⟩:=q6 i hi2n
    rw[hgK] at q1 e1
    rw[hgP] at q2 q5
    rw[hgT] at q3 e3
    injection e1 with e1
    injection e1 with e1
    injection e3 with e3
    injection e3 with e3
    subst e1;subst e3
    exact ⟨q1,q2,q3,c1,c3,q5⟩
   have FS2:Hid (∀ W g',Kept w13 W→LAt W .i64 (.slice (some ⟨g',0,none⟩) ((List.range 4).map (CF b wd i)).length 4) ((List.range 4).map (CF b wd i))→Calls Tryz.prog 27 #[.slice (some ⟨gP,T0,none⟩) 4 (m - T0),.slice (some ⟨g',0,none⟩) 4 4] W fun e w'=>(∃ B:Bool,e = .returned (.bool B)∧(knP a.rw a.hd i=1→B=true))∧Kept W w'):=fun W g' kW hl=>by
    rw[hT0]
    exact FSi.out W i gP g' hlt (HT2.out W kW).2.2.2.2.2 hl
   have HKi:Hid (knP a.rw a.hd i=1→knP a'.rw a'.hd i=1):=HKm.out i hn0
   have H01i:Hid (knP a.rw a.hd i=0∨knP a.rw a.hd i=1):=HK01.out i
   replace hgP:Hid _:=hgP
   replace hgK:Hid _:=hgK
   replace hgT:Hid _:=hgT
   generalize knP a.rw a.hd i=KI at *
   generalize knP a'.rw a'.hd i=KJ at *
   clear y8 hT0 hT4 hm4 hn2e
   have y8:=(HT2.out wr KR.out).1
   go_wp2_with fail
   refine Calls.mono (FCo.out wr i (KW.out.trans KR.out) hlt) ?_
   rintro e v1 ⟨g2,rfl,hl1,hkv1⟩
   have KV1:Hid (Kept w13 v1):=KR.out.trans hkv1
   replace hl1:Hid _:=hl1
   clear hkv1 y8
   have y9:=(HT2.out v1 KV1.out).2.1
   go_wp2_with fail
   refine Calls.mono (FS2.out v1 g2 KV1.out (hl1.out _ (Kept.refl _))) ?_
   rintro e v2 ⟨⟨BB,rfl,hBB⟩,hkv2⟩
   have KV2:Hid (Kept w13 v2):=KV1.out.trans hkv2
   replace hBB:Hid _:=hBB
   clear hkv2 y9
   have y8:=(HT2.out v2 KV2.out).1
   have x8:=(HT2.out v2 KV2.out).2.2.1
   have c1:=(HT2.out v2 KV2.out).2.2.2.1
   have c3:=(HT2.out v2 KV2.out).2.2.2.2.1
   rcases H01i.out with e | e
   ·rw[e] at c1
    clear c3 x8
    go_wp2_with fail
    go_roundg (n - (i+1))
    case measure=>rw[hgi.out];omega
    case rel=>exact ⟨i+1,rfl,by omega,by go_num,KV2.out⟩
   ·have eB:=hBB.out e
    subst eB
    rw[HKi.out e] at c3
    rw[e] at c1
    go_wp2_with fail
    go_roundg (n - (i+1))
    case measure=>rw[hgi.out];omega
    case rel=>exact ⟨i+1,rfl,by omega,by go_num,KV2.out⟩
  ·have hlt':¬ (i:Int)<(n:Int):=by omega
   go_wp2_with fail
   go_ret
   exact ⟨rfl,KW.out.trans KR.out⟩
theorem growsLaw_x (a b i:Int) (s t u v:ByteArray) (w:World) (ha1 : -9223372036854775808≤a) (ha2:a<9223372036854775808) (hb1 : -9223372036854775808≤b) (hb2:b<9223372036854775808) (hs:s.size<9223372036854775808) (ht:t.size<9223372036854775808) (hu:u.size<9223372036854775808) (hv:v.size<9223372036854775808) (hi1 : -9223372036854775808≤i) (hi2:i<9223372036854775808) (hG:GridAt w) :
  Calls Tryz.prog 4 #[.int .i64 a,.string s,.string t,.int .i64 b,.string u,.string v,.int .i64 i] w fun r w'=>r = .returned (.bool true)∧Kept w w':=by
 have FF:Hid (∀ W':World,Calls Tryz.prog 10 #[.string s,.string t,.string u,.string v] W' fun r w'=>r = .returned (.bool (decide (65536<s.size∨65536<t.size∨65536<u.size∨65536<v.size)))∧w'=W'):=fun W'=>far_any s t u v W' hs ht hu hv
 have FD:Hid (Calls Tryz.prog 9 #[.int .i64 a,.string s,.string t,.int .i64 b,.string u,.string v] w fun r w'=>(decide (65536<s.size∨65536<t.size∨65536<u.size∨65536<v.size)=true∧r = .returned (.pointer none)∨decide (65536<s.size∨65536<t.size∨65536<u.size∨65536<v.size)=false∧DeskX w w' r)∧Kept w w'):=desked_x a b s t u v w ha1 ha2 hb1 hb2 hs ht hu hv hG
 generalize decide (65536<s.size∨65536<t.size∨65536<u.size∨65536<v.size)=far at *
 clear hG
 go_enter Tryz.func4,Tryz.ntmps4
 go_wp2_with fail
 refine FD.out.mono ?_
 rintro r w1 ⟨h | ⟨_,x,wd,H,K,D,L,P,V,Z,pp,qp,xp,fp,kp,cp,pc,qc,xc,fc,kc,cc,pal,clr,pix,fl,kl,cl,ff,rfl,hx0,hx1,hD,hfT,h14⟩,hk1⟩
 ·obtain ⟨rfl,rfl⟩:=h
  have HK:Hid (Kept w w1):=hk1
  clear hk1
  go_wp2_with fail
  refine (FF.out _).mono ?_
  rintro r w2 ⟨rfl,hw⟩
  subst w2
  go_wp2
  go_ret
  exact ⟨rfl,HK.out⟩
 ·have HK:Hid (Kept w w1):=hk1
  have HD:Hid (Dk w1 x wd H K D L P V Z pp qp xp fp kp cp pc qc xc fc kc cc pal clr pix fl kl cl):=hD
  have HFT:Hid (FileT wd H D K L P V pal clr pix fl kl ff):=hfT
  have H14:Hid (w1.cell? ⟨x,14,none⟩=some (.string ff)):=h14
  clear hk1 hD hfT h14
  go_wp2_with fail
  refine (kgrows_x x wd H K D L P V Z i pp qp xp fp kp cp pc qc xc fc kc cc pal clr pix fl kl cl ff w1 HD.out hx0 HFT.out H14.out hi1 hi2).mono ?_
  rintro r w2 ⟨rfl,hk2⟩
  have HK2:Hid (Kept w w2):=HK.out.trans hk2
  clear hk2
  go_wp2
  go_ret
  exact ⟨rfl,HK2.out⟩
end Go.Proofs.YtmbmecfodigciaaGreatDoor
