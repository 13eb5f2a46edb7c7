import Derived.Test.YtmbmecfodigciaaGreatDoorGr46
import Derived.Test.YtmbmecfodigciaaGreatDoorGr47
import Derived.Test.YtmbmecfodigciaaGreatDoorGr45
import Derived.Test.YtmbmecfodigciaaGreatDoorGr10
set_option maxRecDepth 100000
set_option maxHeartbeats 6400000
namespace Go.Proofs.YtmbmecfodigciaaGreatDoor
open Go.RowKit Px
set_option linter.unusedSimpArgs false
set_option linter.unusedVariables false
def SnL (L:List Value) (w1:World) (g:Nat) (W:World):Prop:=L.length=11∧(∀ v ∈ L,v.oneCell'=true)∧Kept w1 W∧Blk W g 11 (fun i=>L.getD i undef)
theorem SnL.on {L:List Value} {w1 W W':World} {g:Nat} (h:SnL L w1 g W) (k:Kept W W'):SnL L w1 g W':=⟨h.1,h.2.1,h.2.2.1.trans k,h.2.2.2.kept k⟩
theorem SnL.set {L:List Value} {w1 W:World} {g k:Nat} (h:SnL L w1 g W) (hg:w1.heap.size≤g) (hk:k<11) (v:Value) (hv:v.oneCell'=true):SnL (L.set k v) w1 g (W.setCell ⟨g,k,none⟩ v):=by
 obtain ⟨h1,h2,h3,h4⟩:=h
 refine ⟨by rw[List.length_set];exact h1,fun u hu => ?_,h3.setCell hg v,?_⟩
 ·rcases List.mem_or_eq_of_mem_set hu with q | q
  ·exact h2 u q
  ·rw[q];exact hv
 ·have e:(fun i=>(L.set k v).getD i undef)=upd (fun i=>L.getD i undef) k v:=by
   funext i
   by_cases q:i=k
   ·subst q
    rw[upd_same,List.getD_eq_getElem?_getD,List.getElem?_set_self (by omega)];rfl
   ·rw[upd_ne _ _ _ q,List.getD_eq_getElem?_getD,List.getElem?_set_ne (fun z=>q z.symm),← List.getD_eq_getElem?_getD]
  rw[e];exact h4.set hk v
theorem SnL.put2 {L:List Value} {w1 W:World} {g:Nat} {DN:Bool} (h:SnL L w1 g W) (hg:w1.heap.size≤g) (v:Value) (hv:v = .bool DN):SnL (L.set 2 (.bool DN)) w1 g (W.setCell ⟨g,2,none⟩ v):=by
 subst hv
 exact h.set hg (by omega) _ rfl
theorem SnL.cell {L:List Value} {w1 W:World} {g:Nat} (h:SnL L w1 g W) (j:Nat) (hj:j<11):∃ OV,W.cell? ⟨g,j,none⟩=some OV:=⟨_,h.2.2.2.cell j hj⟩
def NumC (W:World) (lo g N:Nat) (f:Nat→Int):Prop:=lo≤g∧g<W.heap.size∧∀ j,j<N→W.cell? ⟨g,j,none⟩=some (.int .i64 (f j))
theorem NumC.kept {W W':World} {lo g N:Nat} {f:Nat→Int} (h:NumC W lo g N f) (k:Kept W W'):NumC W' lo g N f:=⟨h.1,Nat.lt_of_lt_of_le h.2.1 k.size,fun j hj=>(k.cell (p:=⟨g,j,none⟩) h.2.1).trans (h.2.2 j hj)⟩
theorem NumC.fr {W W':World} {lo g N:Nat} {f:Nat→Int} {S:Nat→Prop} (h:NumC W lo g N f) (k:Fr S W W') (hS:¬ S g):NumC W' lo g N f:=⟨h.1,Nat.lt_of_lt_of_le h.2.1 k.size,fun j hj=>(k.cell h.2.1 hS).trans (h.2.2 j hj)⟩
def knP (r:Rw) (h:Hd) (j:Nat):Int:=if r.known (j / h.W*16+j % h.W) then 1 else 0
def snNo (d:Dc) (DN:Bool):List Value:=[.int .i64 (d.err:Int),.int .i64 (d.at1:Int),.bool DN,.int .i64 0,.int .i64 0,.int .i64 0,.int .i64 0,.int .i64 0,.slice none 0 0,.slice none 0 0,.slice none 0 0]
def snW (d:Dc) (DN:Bool) (gk gp gs:Nat):List Value:=[.int .i64 (d.err:Int),.int .i64 (d.at1:Int),.bool DN,.int .i64 (d.file.hd.W:Int),.int .i64 (d.file.hd.H:Int),.int .i64 (d.file.hd.K:Int),.int .i64 (d.file.hd.D:Int),.int .i64 (d.file.hd.L:Int),.slice (some ⟨gk,0,none⟩) (d.file.hd.W*d.file.hd.H) (d.file.hd.W*d.file.hd.H),.slice (some ⟨gp,0,none⟩) (4*(d.file.hd.W*d.file.hd.H)) (4*(d.file.hd.W*d.file.hd.H)),.slice (some ⟨gs,0,none⟩) (4*(d.file.hd.W*d.file.hd.H)) (4*(d.file.hd.W*d.file.hd.H))]
def SnX (w:World) (d:Dc) (e:Ending) (w':World):Prop:=Kept w w'∧((d.file.hd.W=0∧e = .returned (.agg (snNo d (decide (d.err=0) && decide (d.file.part=5))).toArray))∨(d.file.hd.W≠0∧∃ gk gp gs,e = .returned (.agg (snW d (decide (d.err=0) && decide (d.file.part=5)) gk gp gs).toArray)∧NumC w' w.heap.size gk (d.file.hd.W*d.file.hd.H) (knP d.file.rw d.file.hd)∧NumC w' w.heap.size gp (4*(d.file.hd.W*d.file.hd.H)) (fun j=>pxP d.file.rw d.file.tl d.file.hd (j / 4 % d.file.hd.W) (j / 4 / d.file.hd.W) (j % 4))∧NumC w' w.heap.size gs (4*(d.file.hd.W*d.file.hd.H)) (fun j=>shP d.file.rw d.file.tl d.file.hd (j / 4 % d.file.hd.W) (j / 4 / d.file.hd.W) (j % 4))))
theorem snap_f (b n:Nat) (c:Nat→Value) (d:Dc) (w:World) (hB:Blk w b n c) (hV:DcV c 0 d) (hn:5957≤n) (hp:d.file.hd.W=0∨PicOk c 4401 24 n d.file.rw d.file.tl d.file.hd) (hpal:∀ j,d.file.tl.pal j<256) (hG:GrdAt w) :
  Calls Tryz.prog 24 #[.pointer (some ⟨b,0,none⟩)] w fun e w'=>SnX w d e w':=by
 have hbw:=hB.lt
 have ke:=hB.at (i:=5955) (by omega) hV.err
 have ka:=hB.at (i:=5956) (by omega) hV.at1
 have HB:Hid (Blk w b n c):=hB
 have HV:Hid (DcV c 0 d):=hV
 have HP0:Hid (d.file.hd.W=0∨PicOk c 4401 24 n d.file.rw d.file.tl d.file.hd):=hp
 obtain ⟨DN,hDN⟩:∃ DN,DN=(decide (d.err=0) && decide (d.file.part=5)):=⟨_,rfl⟩
 unfold SnX
 rw[← hDN]
 have HPl:Hid (∀ j,d.file.tl.pal j<256):=hpal
 clear hpal
 replace hDN:Hid _:=hDN
 have HG:Hid (GrdAt w):=hG
 have K0:Hid (Kept w (w.alloc (Obj.cells snZ 50))):=Below.alloc (Below.refl _ _) (Nat.le_refl _) _
 have B0:Hid (Blk (w.alloc (Obj.cells snZ 50)) w.heap.size 11 (fun i=>snZ.getD i undef)):=Blk.new w snZ _ 11 rfl
 clear hB hV hp hG
 unfold snZ at K0 B0
 go_enter Tryz.func24,Tryz.ntmps24
 go_upto_region 3 with fail
 generalize w.alloc (Obj.cells #[.int .i64 0,.int .i64 0,.bool false,.int .i64 0,.int .i64 0,.int .i64 0,.int .i64 0,.int .i64 0,.slice none 0 0,.slice none 0 0,.slice none 0 0] 50)=w1 at *
 have ke1:=(K0.out.cell (p:=⟨b,5955,none⟩) hbw).trans ke
 have ka1:=(K0.out.cell (p:=⟨b,5956,none⟩) hbw).trans ka
 have hb1:b<w1.heap.size:=Nat.lt_of_lt_of_le hbw K0.out.size
 replace ke1:w1.cell? ⟨b,5955,none⟩=some (.int .i64 (d.err:Int)):=ke1
 replace ka1:w1.cell? ⟨b,5956,none⟩=some (.int .i64 (d.at1:Int)):=ka1
 clear ke ka
 have HC1:Hid (∀ W,Kept w1 W→(W.cell? ⟨b,5955,none⟩=some (.int .i64 (d.err:Int))∧W.cell? ⟨b,5956,none⟩=some (.int .i64 (d.at1:Int)))):=fun W k=>⟨(k.cell (p:=⟨b,5955,none⟩) hb1).trans ke1,(k.cell (p:=⟨b,5956,none⟩) hb1).trans ka1⟩
 go_region_held3 (fun W=>W.cell? ⟨b,5955,none⟩=some (.int .i64 (d.err:Int))∧W.cell? ⟨b,5956,none⟩=some (.int .i64 (d.at1:Int))) (first | exact ⟨ke1,ka1⟩ | exact HC1.out _ (Below.alloc ((Kept.refl _).drewN 1) (by simp) _) | go_keep) (fail)
 have K2:Hid (Kept w1 (w1.alloc (Obj.cells #[.int .i64 (d.err:Int),.int .i64 (d.at1:Int),.bool false,.int .i64 0,.int .i64 0,.int .i64 0,.int .i64 0,.int .i64 0,.slice none 0 0,.slice none 0 0,.slice none 0 0] 50)).drew):=Kept.drewN (Below.alloc (Below.refl _ _) (Nat.le_refl _) _) 1
 have B2:Hid (Blk (w1.alloc (Obj.cells #[.int .i64 (d.err:Int),.int .i64 (d.at1:Int),.bool false,.int .i64 0,.int .i64 0,.int .i64 0,.int .i64 0,.int .i64 0,.slice none 0 0,.slice none 0 0,.slice none 0 0] 50)).drew w1.heap.size 11 (fun i=>(#[.int .i64 (d.err:Int),.int .i64 (d.at1:Int),.bool false,.int .i64 0,.int .i64 0,.int .i64 0,.int .i64 0,.int .i64 0,.slice none 0 0,.slice none 0 0,.slice none 0 0]:Array Value).getD i undef)):=(Blk.new w1 _ _ 11 rfl).kept ((Kept.refl _).drewN 1)
 have S2:Hid (SnL (snNo d false) w1 w1.heap.size (w1.alloc (Obj.cells #[.int .i64 (d.err:Int),.int .i64 (d.at1:Int),.bool false,.int .i64 0,.int .i64 0,.int .i64 0,.int .i64 0,.int .i64 0,.slice none 0 0,.slice none 0 0,.slice none 0 0] 50)).drew):=by
  refine ⟨rfl,fun v hv => ?_,K2.out,?_⟩
  ·unfold snNo at hv
   simp only [List.mem_cons,List.not_mem_nil,or_false] at hv
   rcases hv with rfl | rfl | rfl | rfl | rfl | rfl | rfl | rfl | rfl | rfl | rfl<;>rfl
  ·have e:(fun i=>(snNo d false).getD i undef)=(fun i=>(#[.int .i64 (d.err:Int),.int .i64 (d.at1:Int),.bool false,.int .i64 0,.int .i64 0,.int .i64 0,.int .i64 0,.int .i64 0,.slice none 0 0,.slice none 0 0,.slice none 0 0]:Array Value).getD i undef):=by
    funext i
    rw[Array.getD_eq_getD_getElem?,List.getElem?_toArray,List.getD_eq_getElem?_getD];rfl
   rw[e];exact B2.out
 clear K2 B2 HC1 ke1 ka1
 generalize (w1.alloc (Obj.cells #[.int .i64 (d.err:Int),.int .i64 (d.at1:Int),.bool false,.int .i64 0,.int .i64 0,.int .i64 0,.int .i64 0,.int .i64 0,.slice none 0 0,.slice none 0 0,.slice none 0 0] 50)).drew=w2 at *
 obtain ⟨g3,hg3⟩:∃ g,g=w1.heap.size:=⟨_,rfl⟩
 rw[← hg3] at S2 ⊢
 have hgle:w1.heap.size≤g3:=by rw[hg3];exact Nat.le_refl _
 replace hg3:Hid _:=hg3
 obtain ⟨L3,hL3⟩:∃ L3,L3=snNo d DN:=⟨_,rfl⟩
 have HP2:Hid (∀ W v,SnL (snNo d false) w1 g3 W→v = .bool DN→SnL L3 w1 g3 (W.setCell ⟨g3,2,none⟩ v)):=fun W v h e=>by rw[hL3];exact h.put2 hgle v e
 replace hL3:Hid _:=hL3
 have BW:Hid (∀ W,Kept w1 W→Blk W b n c):=fun W k=>(HB.out.kept K0.out).kept k
 have GW:Hid (∀ W,Kept w1 W→GrdAt W):=fun W k=>(HG.out.kept K0.out).kept k
 go_upto_region 4 with fail
 go_cut [] from 17 (fun W=>SnL L3 w1 g3 W)
 case first=>
  have hK2:=S2.out.2.2.1
  have hB2:=S2.out.2.2.2
  have ke:=(BW.out w2 hK2).at (i:=5955) (by omega) HV.out.err
  replace ke:w2.cell? ⟨b,5955,none⟩=some (.int .i64 (d.err:Int)):=ke
  obtain ⟨OV,k2⟩:∃ OV,w2.cell? ⟨g3,2,none⟩=some OV:=⟨_,hB2.cell 2 (by omega)⟩
  have z2:=hB2.fz 2
  have FE:Hid (Calls Tryz.prog 41 #[.pointer (some ⟨b,0,none⟩)] w2 fun e w'=>e = .returned (.bool (decide (d.file.part=5)))∧w'=w2):=rdEnded_x b 0 n c d.file w2 (BW.out w2 hK2) HV.out.file (by omega)
  clear hB2 hK2
  have HDZ:Hid (d.err=0→DN=decide (d.file.part=5)):=fun q=>by rw[hDN.out,decide_eq_true q];rfl
  have HDN:Hid (d.err≠0→DN=false):=fun q=>by rw[hDN.out,decide_eq_false q];rfl
  clear hDN
  generalize decide (d.file.part=5)=EE at *
  by_cases he:d.err=0
  ·have he':((d.err:Int) == 0)=true:=by rw[beq_iff_eq];omega
   have hEE:Hid (DN=EE):=HDZ.out he
   replace he:Hid _:=he
   go_wp2_with fail
   refine FE.out.mono ?_
   rintro e w3 ⟨rfl,hw3⟩
   subst w3
   go_wp2_with fail
   all_goals
    go_meet
    case rel=>exact HP2.out _ _ S2.out (by first | (rw[hEE.out];done) | (rw[hEE.out];rfl) | (have:=hEE.out;simp_all))
  ·have he':((d.err:Int) == 0)=false:=by rw[beq_eq_false_iff_ne];omega
   have hEE:Hid (DN=false):=HDN.out he
   go_wp2_with fail
   go_meet
   case rel=>exact HP2.out _ _ S2.out (by rw[hEE.out])
 case rest=>
  have S3:Hid (SnL L3 w1 g3 wc):=hcut
  clear hcut S2
  have K3:Hid (Kept w1 wc):=S3.out.2.2.1
  go_wp2_with fail
  refine (rdHead_x b 0 n c d.file wc (BW.out wc K3.out) HV.out.file (by omega)).mono ?_
  rintro e w4 ⟨rfl,hk4⟩
  have S5:Hid (SnL L3 w1 g3 (w4.alloc (Obj.cells #[.int .i64 (d.file.hd.W:Int),.int .i64 (d.file.hd.H:Int),.int .i64 (d.file.hd.D:Int),.int .i64 (d.file.hd.K:Int),.int .i64 (d.file.hd.L:Int)] 71))):=(S3.out.on hk4).on (Below.alloc (Below.refl _ _) (Nat.le_refl _) _)
  have C5:Hid (∀ j v,(#[Value.int .i64 (d.file.hd.W:Int),.int .i64 (d.file.hd.H:Int),.int .i64 (d.file.hd.D:Int),.int .i64 (d.file.hd.K:Int),.int .i64 (d.file.hd.L:Int)]:Array Value)[j]? = some v→(w4.alloc (Obj.cells #[.int .i64 (d.file.hd.W:Int),.int .i64 (d.file.hd.H:Int),.int .i64 (d.file.hd.D:Int),.int .i64 (d.file.hd.K:Int),.int .i64 (d.file.hd.L:Int)] 71)).cell? ⟨w4.heap.size,j,none⟩=some v):=fun j v hv=>(World.cell?_alloc_at _ _ _ _ rfl).trans hv
  have hg34:g3<w4.heap.size:=by
   exact Nat.lt_of_lt_of_le S3.out.2.2.2.lt hk4.size
  by_cases hWz:d.file.hd.W=0
  ·have hW0:((d.file.hd.W:Int) == 0)=true:=by rw[beq_iff_eq];omega
   replace hWz:Hid _:=hWz
   clear hk4 S3 K3
   go_upto_region 6 with fail
   generalize w4.alloc (Obj.cells #[.int .i64 (d.file.hd.W:Int),.int .i64 (d.file.hd.H:Int),.int .i64 (d.file.hd.D:Int),.int .i64 (d.file.hd.K:Int),.int .i64 (d.file.hd.L:Int)] 71)=w5 at *
   obtain ⟨g4,hg4⟩:∃ g,g=w4.heap.size:=⟨_,rfl⟩
   rw[← hg4] at C5 hg34 ⊢
   clear hg4
   have x0:=C5.out 0 _ rfl
   obtain ⟨hcl,hone,K12,B12⟩:=S5.out
   obtain ⟨cs,hcs⟩:∃ cs,cs=L3:=⟨_,rfl⟩
   rw[← hcs] at hcl hone B12
   have hcr:Hid (w5.rangeAt g3 0 cs):=by
    show w5.rangeAt g3 0 cs
    have:=B12.range (k:=0) (m:=11) (by omega)
    have e:(List.range 11).map (fun j=>(fun i=>cs.getD i undef) (0+j))=cs:=by
     apply List.ext_getElem?
     intro j
     by_cases q:j<11
     ·rw[range_get _ 11 j q,Nat.zero_add]
      show some (cs.getD j undef)=_
      rw[List.getD_eq_getElem?_getD,List.getElem?_eq_getElem (by omega)];rfl
     ·rw[List.getElem?_eq_none (by rw[List.length_map,List.length_range];omega),List.getElem?_eq_none (by omega)]
    rw[e] at this
    exact this
   have hi:Hid ((Tryz.prog.info? 50).map (·.size)=some cs.length):=by show _=_;rw[hcl];exact info11
   have BR:Blk w5 w.heap.size 11 _:=B0.out.kept K12
   have ht:Hid (w5.there w.heap.size 0 cs.length):=by show w5.there _ 0 cs.length;rw[hcl];exact BR.there (by omega)
   have hsc5:(storeCells ⟨w.heap.size,0,none⟩ cs).run Tryz.prog w5 = .ok () (w5.setCells w.heap.size 0 cs):=store_all ht.out hone
   have hld:Hid ((loadVar 50 ⟨w.heap.size,0,none⟩).run Tryz.prog (w5.setCells w.heap.size 0 cs) = .ok (.agg cs.toArray) (w5.setCells w.heap.size 0 cs)) :=
    run_loadVar_mid _ _ _ _ cs _ (World.rangeAt_setCells_same _ _ _ _ ht.out) Tryz.underlying50 rfl hi.out
   have F13:Hid (Fr1 w.heap.size w5 (w5.setCells w.heap.size 0 cs)):=Fr1.sets _ _ (Fr.refl _ _)
   have K13:Hid (Kept w (w5.setCells w.heap.size 0 cs)):=Fr.to_kept (S:=fun j=>j=w.heap.size) (K0.out.trans K12) F13.out (fun i hi e=>by omega)
   replace hcs:Hid _:=hcs
   replace hcl:Hid _:=hcl
   replace hone:Hid _:=hone
   clear B12 BR
   clear K12
   go_upto_region 7 with fail
   go_step
   refine wpList_load_mid rfl 50 _ rfl g3 0 rfl cs _ hcr.out Tryz.underlying50 rfl hi.out ?_
   go_wp2
   exact bodyPost_ret (v := .agg cs.toArray) (results_cell1 rfl _ _ _ _ _ rfl hld.out) rfl ⟨K13.out,Or.inl ⟨hWz.out,by rw[hcs.out,hL3.out]⟩⟩
  have HP:Hid (PicOk c 4401 24 n d.file.rw d.file.tl d.file.hd):=by rcases HP0.out with q | q;exact absurd q hWz;exact q
  have hW0:((d.file.hd.W:Int) == 0)=false:=by have:=HP.out.W1;rw[beq_eq_false_iff_ne];omega
  clear hk4 S3 K3
  go_upto_region 6 with fail
  generalize w4.alloc (Obj.cells #[.int .i64 (d.file.hd.W:Int),.int .i64 (d.file.hd.H:Int),.int .i64 (d.file.hd.D:Int),.int .i64 (d.file.hd.K:Int),.int .i64 (d.file.hd.L:Int)] 71)=w5 at *
  obtain ⟨g4,hg4⟩:∃ g,g=w4.heap.size:=⟨_,rfl⟩
  rw[← hg4] at C5 hg34 ⊢
  clear hg4
  have x0:=C5.out 0 _ rfl
  have x1:=C5.out 1 _ rfl
  have x2:=C5.out 2 _ rfl
  have x3:=C5.out 3 _ rfl
  have x4:=C5.out 4 _ rfl
  have hne:g4≠g3:=by omega
  have hne':g3≠g4:=by omega
  have YY:Hid (∀ j,j<11→(∃ OV,w5.cell? ⟨g3,j,none⟩=some OV)):=S5.out.cell
  have zz:∀ j,w5.frozen? ⟨g3,j,none⟩=false:=S5.out.2.2.2.fz
  obtain ⟨V3,y3⟩:=YY.out 3 (by omega)
  obtain ⟨V4,y4⟩:=YY.out 4 (by omega)
  obtain ⟨V5,y5⟩:=YY.out 5 (by omega)
  obtain ⟨V6,y6⟩:=YY.out 6 (by omega)
  obtain ⟨V7,y7⟩:=YY.out 7 (by omega)
  have S6:Hid (SnL (((((L3.set 3 (.int .i64 (d.file.hd.W:Int))).set 4 (.int .i64 (d.file.hd.H:Int))).set 5 (.int .i64 (d.file.hd.K:Int))).set 6 (.int .i64 (d.file.hd.D:Int))).set 7 (.int .i64 (d.file.hd.L:Int))) w1 g3 (((((w5.setCell ⟨g3,3,none⟩ (.int .i64 (d.file.hd.W:Int))).setCell ⟨g3,4,none⟩ (.int .i64 (d.file.hd.H:Int))).setCell ⟨g3,5,none⟩ (.int .i64 (d.file.hd.K:Int))).setCell ⟨g3,6,none⟩ (.int .i64 (d.file.hd.D:Int))).setCell ⟨g3,7,none⟩ (.int .i64 (d.file.hd.L:Int)))):=((((S5.out.set hgle (by omega) _ rfl).set hgle (by omega) _ rfl).set hgle (by omega) _ rfl).set hgle (by omega) _ rfl).set hgle (by omega) _ rfl
  obtain ⟨L6,hL6⟩:∃ L6,L6=((((L3.set 3 (.int .i64 (d.file.hd.W:Int))).set 4 (.int .i64 (d.file.hd.H:Int))).set 5 (.int .i64 (d.file.hd.K:Int))).set 6 (.int .i64 (d.file.hd.D:Int))).set 7 (.int .i64 (d.file.hd.L:Int)):=⟨_,rfl⟩
  rw[← hL6] at S6
  replace hL6:Hid _:=hL6
  go_wp2_with fail
  generalize ((((w5.setCell ⟨g3,3,none⟩ (.int .i64 (d.file.hd.W:Int))).setCell ⟨g3,4,none⟩ (.int .i64 (d.file.hd.H:Int))).setCell ⟨g3,5,none⟩ (.int .i64 (d.file.hd.K:Int))).setCell ⟨g3,6,none⟩ (.int .i64 (d.file.hd.D:Int))).setCell ⟨g3,7,none⟩ (.int .i64 (d.file.hd.L:Int))=w6 at *
  clear x0 x1 x2 x3 x4 y3 y4 y5 y6 y7 YY zz S5 C5 hW0
  have K6:Hid (Kept w1 w6):=S6.out.2.2.1
  refine (rdKnown_x b 0 n c d.file w6 (BW.out w6 K6.out) HV.out.file (by omega) HP.out.W1 HP.out.W2 HP.out.H1 HP.out.H2).mono ?_
  rintro e w7 ⟨⟨gk,rfl,hgk1,hgk2,hgk3⟩,hk7⟩
  have S7:Hid (SnL L6 w1 g3 w7):=S6.out.on hk7
  have hgkg:g3<gk:=Nat.lt_of_lt_of_le S6.out.2.2.2.lt hgk1
  have hww:w.heap.size≤w6.heap.size:=Nat.le_trans K0.out.size K6.out.size
  have N7:Hid (NumC w7 w.heap.size gk (d.file.hd.W*d.file.hd.H) (knP d.file.rw d.file.hd)):=⟨Nat.le_trans hww hgk1,hgk2,hgk3⟩
  have N8:Hid (∀ v,NumC (w7.setCell ⟨g3,8,none⟩ v) w.heap.size gk (d.file.hd.W*d.file.hd.H) (knP d.file.rw d.file.hd)):=fun v=>N7.out.fr (S:=fun j=>j=g3) (Fr1.set (Fr.refl _ _) _ _) (by omega)
  obtain ⟨V8,y8⟩:∃ OV,w7.cell? ⟨g3,8,none⟩=some OV:=S7.out.cell 8 (by omega)
  have z8:∀ j,w7.frozen? ⟨g3,j,none⟩=false:=S7.out.2.2.2.fz
  have S8:Hid (SnL (L6.set 8 (.slice (some ⟨gk,0,none⟩) (d.file.hd.W*d.file.hd.H) (d.file.hd.W*d.file.hd.H))) w1 g3 (w7.setCell ⟨g3,8,none⟩ (.slice (some ⟨gk,0,none⟩) (d.file.hd.W*d.file.hd.H) (d.file.hd.W*d.file.hd.H)))):=S7.out.set hgle (by omega) _ rfl
  obtain ⟨N,hN⟩:∃ N,N=d.file.hd.W*d.file.hd.H:=⟨_,rfl⟩
  rw[← hN] at S8 N8 ⊢
  have N8b:Hid _:=N8.out (.slice (some ⟨gk,0,none⟩) N N)
  clear N7 N8 hww
  obtain ⟨L8,hL8⟩:∃ L8,L8=L6.set 8 (.slice (some ⟨gk,0,none⟩) N N):=⟨_,rfl⟩
  rw[← hL8] at S8
  replace hL8:Hid _:=hL8
  replace hN:Hid _:=hN
  clear hgk1 hgk2 hgk3 hk7 S6 K6
  go_wp2_with fail
  generalize w7.setCell ⟨g3,8,none⟩ (.slice (some ⟨gk,0,none⟩) N N)=w8 at *
  clear y8 z8 S7
  have K8:Hid (Kept w1 w8):=S8.out.2.2.1
  refine (rdPix_x b 0 n c d.file w8 (BW.out w8 K8.out) HV.out.file (by omega) HP.out HPl.out).mono ?_
  rintro e w9 ⟨gp,rfl,hp1,hp2,hp3,hk9⟩
  have S9:Hid (SnL L8 w1 g3 w9):=S8.out.on hk9
  have hgpg:g3<gp:=Nat.lt_of_lt_of_le S8.out.2.2.2.lt hp1
  have hww:w.heap.size≤w8.heap.size:=Nat.le_trans K0.out.size K8.out.size
  have N9:Hid (NumC w9 w.heap.size gp (4*(d.file.hd.W*d.file.hd.H)) (fun j=>pxP d.file.rw d.file.tl d.file.hd (j / 4 % d.file.hd.W) (j / 4 / d.file.hd.W) (j % 4))):=⟨Nat.le_trans hww hp1,hp2,hp3⟩
  rw[← hN.out] at N9 ⊢
  obtain ⟨M,hM⟩:∃ M,M=4*N:=⟨_,rfl⟩
  rw[← hM] at N9 ⊢
  replace hM:Hid _:=hM
  have N10a:Hid (∀ v,NumC (w9.setCell ⟨g3,9,none⟩ v) w.heap.size gk N (knP d.file.rw d.file.hd)):=fun v=>NumC.fr (NumC.kept N8b.out hk9) (S:=fun j=>j=g3) (Fr1.set (Fr.refl _ _) _ _) (by omega)
  have N10b:Hid (∀ v,NumC (w9.setCell ⟨g3,9,none⟩ v) w.heap.size gp M (fun j=>pxP d.file.rw d.file.tl d.file.hd (j / 4 % d.file.hd.W) (j / 4 / d.file.hd.W) (j % 4))):=fun v=>N9.out.fr (S:=fun j=>j=g3) (Fr1.set (Fr.refl _ _) _ _) (by omega)
  replace N10a:Hid _:=N10a.out (.slice (some ⟨gp,0,none⟩) M M)
  replace N10b:Hid _:=N10b.out (.slice (some ⟨gp,0,none⟩) M M)
  clear hp1 hp2 hp3 N9 N8b hww
  obtain ⟨V9,y9⟩:∃ OV,w9.cell? ⟨g3,9,none⟩=some OV:=S9.out.cell 9 (by omega)
  have z9:∀ j,w9.frozen? ⟨g3,j,none⟩=false:=S9.out.2.2.2.fz
  have S10:Hid (SnL (L8.set 9 (.slice (some ⟨gp,0,none⟩) M M)) w1 g3 (w9.setCell ⟨g3,9,none⟩ (.slice (some ⟨gp,0,none⟩) M M))):=S9.out.set hgle (by omega) _ rfl
  obtain ⟨L10,hL10⟩:∃ L10,L10=L8.set 9 (.slice (some ⟨gp,0,none⟩) M M):=⟨_,rfl⟩
  rw[← hL10] at S10
  replace hL10:Hid _:=hL10
  clear hk9 S8 K8
  go_wp2_with fail
  generalize w9.setCell ⟨g3,9,none⟩ (.slice (some ⟨gp,0,none⟩) M M)=w10 at *
  clear y9 z9 S9
  have K10:Hid (Kept w1 w10):=S10.out.2.2.1
  refine (rdShow_x b 0 n c d.file w10 (BW.out w10 K10.out) HV.out.file (by omega) HP.out HPl.out (GW.out w10 K10.out)).mono ?_
  rintro e w11 ⟨gs,rfl,hp1,hp2,hp3,hk11⟩
  have S11:Hid (SnL L10 w1 g3 w11):=S10.out.on hk11
  have hgsg:g3<gs:=Nat.lt_of_lt_of_le S10.out.2.2.2.lt hp1
  have hww:w.heap.size≤w10.heap.size:=Nat.le_trans K0.out.size K10.out.size
  have N11:Hid (NumC w11 w.heap.size gs (4*(d.file.hd.W*d.file.hd.H)) (fun j=>shP d.file.rw d.file.tl d.file.hd (j / 4 % d.file.hd.W) (j / 4 / d.file.hd.W) (j % 4))):=⟨Nat.le_trans hww hp1,hp2,hp3⟩
  rw[← hN.out,← hM.out] at N11 ⊢
  have N12a:Hid (∀ v,NumC (w11.setCell ⟨g3,10,none⟩ v) w.heap.size gk N (knP d.file.rw d.file.hd)):=fun v=>NumC.fr (NumC.kept N10a.out hk11) (S:=fun j=>j=g3) (Fr1.set (Fr.refl _ _) _ _) (by omega)
  have N12b:Hid (∀ v,NumC (w11.setCell ⟨g3,10,none⟩ v) w.heap.size gp M (fun j=>pxP d.file.rw d.file.tl d.file.hd (j / 4 % d.file.hd.W) (j / 4 / d.file.hd.W) (j % 4))):=fun v=>NumC.fr (NumC.kept N10b.out hk11) (S:=fun j=>j=g3) (Fr1.set (Fr.refl _ _) _ _) (by omega)
  have N12c:Hid (∀ v,NumC (w11.setCell ⟨g3,10,none⟩ v) w.heap.size gs M (fun j=>shP d.file.rw d.file.tl d.file.hd (j / 4 % d.file.hd.W) (j / 4 / d.file.hd.W) (j % 4))):=fun v=>N11.out.fr (S:=fun j=>j=g3) (Fr1.set (Fr.refl _ _) _ _) (by omega)
  replace N12a:Hid _:=N12a.out (.slice (some ⟨gs,0,none⟩) M M)
  replace N12b:Hid _:=N12b.out (.slice (some ⟨gs,0,none⟩) M M)
  replace N12c:Hid _:=N12c.out (.slice (some ⟨gs,0,none⟩) M M)
  clear hp1 hp2 hp3 N11 N10a N10b hww
  obtain ⟨V10,y10⟩:∃ OV,w11.cell? ⟨g3,10,none⟩=some OV:=S11.out.cell 10 (by omega)
  have z10:∀ j,w11.frozen? ⟨g3,j,none⟩=false:=S11.out.2.2.2.fz
  have S12:Hid (SnL (L10.set 10 (.slice (some ⟨gs,0,none⟩) M M)) w1 g3 (w11.setCell ⟨g3,10,none⟩ (.slice (some ⟨gs,0,none⟩) M M))):=S11.out.set hgle (by omega) _ rfl
  clear hk11 S10 K10
  go_upto_region 16 with fail
  generalize w11.setCell ⟨g3,10,none⟩ (.slice (some ⟨gs,0,none⟩) M M)=w12 at *
  clear y10 z10 S11
  obtain ⟨hcl,hone,K12,B12⟩:=S12.out
  obtain ⟨cs,hcs⟩:∃ cs,cs=L10.set 10 (.slice (some ⟨gs,0,none⟩) M M):=⟨_,rfl⟩
  rw[← hcs] at hcl hone B12
  have hcr:Hid (w12.rangeAt g3 0 cs):=by
   show w12.rangeAt g3 0 cs
   have:=B12.range (k:=0) (m:=11) (by omega)
   have e:(List.range 11).map (fun j=>(fun i=>cs.getD i undef) (0+j))=cs:=by
    apply List.ext_getElem?
    intro j
    by_cases q:j<11
    ·rw[range_get _ 11 j q,Nat.zero_add]
     show some (cs.getD j undef)=_
     rw[List.getD_eq_getElem?_getD,List.getElem?_eq_getElem (by omega)];rfl
    ·rw[List.getElem?_eq_none (by rw[List.length_map,List.length_range];omega),List.getElem?_eq_none (by omega)]
   rw[e] at this
   exact this
  have hi:Hid ((Tryz.prog.info? 50).map (·.size)=some cs.length):=by show _=_;rw[hcl];exact info11
  have BR:Blk w12 w.heap.size 11 _:=B0.out.kept K12
  have ht:Hid (w12.there w.heap.size 0 cs.length):=by show w12.there _ 0 cs.length;rw[hcl];exact BR.there (by omega)
  have hsc5:(storeCells ⟨w.heap.size,0,none⟩ cs).run Tryz.prog w12 = .ok () (w12.setCells w.heap.size 0 cs):=store_all ht.out hone
  have hld:Hid ((loadVar 50 ⟨w.heap.size,0,none⟩).run Tryz.prog (w12.setCells w.heap.size 0 cs) = .ok (.agg cs.toArray) (w12.setCells w.heap.size 0 cs)) :=
   run_loadVar_mid _ _ _ _ cs _ (World.rangeAt_setCells_same _ _ _ _ ht.out) Tryz.underlying50 rfl hi.out
  have F13:Hid (Fr1 w.heap.size w12 (w12.setCells w.heap.size 0 cs)):=Fr1.sets _ _ (Fr.refl _ _)
  have K13:Hid (Kept w (w12.setCells w.heap.size 0 cs)):=Fr.to_kept (S:=fun j=>j=w.heap.size) (K0.out.trans K12) F13.out (fun i hi e=>by omega)
  replace hcs:Hid _:=hcs
  replace hcl:Hid _:=hcl
  replace hone:Hid _:=hone
  clear B12 BR
  clear K12
  go_step
  refine wpList_load_mid rfl 50 _ rfl g3 0 rfl cs _ hcr.out Tryz.underlying50 rfl hi.out ?_
  go_wp2
  refine bodyPost_ret (v := .agg cs.toArray) (results_cell1 rfl _ _ _ _ _ rfl hld.out) rfl ⟨K13.out,Or.inr ⟨by have:=HP.out.W1;omega,gk,gp,gs,?_,?_,?_,?_⟩⟩
  ·rw[hcs.out,hL10.out,hL8.out,hL6.out,hL3.out,hM.out,hN.out];rfl
  ·rw[← hN.out];exact NumC.fr N12a.out (S:=fun j=>j=w.heap.size) F13.out (by have:=N12a.out.1;have:=hgle;have:=K0.out.size;omega)
  ·rw[← hN.out,← hM.out];exact NumC.fr N12b.out (S:=fun j=>j=w.heap.size) F13.out (by have:=hgle;have:=K0.out.size;omega)
  ·rw[← hN.out,← hM.out];exact NumC.fr N12c.out (S:=fun j=>j=w.heap.size) F13.out (by have:=hgle;have:=K0.out.size;omega)
structure DI (w W:World) (g:Nat) (d:Dc):Prop where
 kept:Kept w W
 pos:0<w.heap.size
 lo:w.heap.size≤g
 ex:∃ c,Blk W g 5957 c∧DcV c 0 d
theorem DI.glt {w W:World} {g:Nat} {d:Dc} (h:DI w W g d):g<W.heap.size:=by obtain ⟨c,b,_⟩:=h.ex;exact b.lt
theorem DI.on {w W W':World} {g:Nat} {d:Dc} (h:DI w W g d) (k:Kept W W'):DI w W' g d:=by
 obtain ⟨c,b,v⟩:=h.ex
 exact ⟨h.kept.trans k,h.pos,h.lo,c,b.kept k,v⟩
theorem DI.step {w W W':World} {g:Nat} {d d':Dc} (h:DI w W g d) (k:DcStep g 5957 d' W W'):DI w W' g d':=by
 obtain ⟨e,b,v,f⟩:=k
 have h1:=h.lo
 exact ⟨Fr.to_kept h.kept f (fun i hi q=>by omega),h.pos,h.lo,e,b,v⟩
theorem newDI {w W:World} (h:Kept w W) (h0:0<w.heap.size):Calls Tryz.prog 21 #[] W fun e W'=>∃ g,e = .returned (.pointer (some ⟨g,0,none⟩))∧DI w W' g dc0:=by
 refine (new_x W).mono ?_
 rintro e W' ⟨rfl,c,b,v,k⟩
 exact ⟨_,rfl,h.trans k,h0,h.size,c,b,v⟩
theorem feedDI {w W:World} {g:Nat} {d:Dc} (t:ByteArray) (h:DI w W g d) (hk:FeedOk d (bsOf t)) (hs:t.size≤2147483648) (hG:GrdAt w) :
  Calls Tryz.prog 22 #[.pointer (some ⟨g,0,none⟩),.string t] W fun e W'=>e = .returned (.tuple #[.int .i64 ((d.feed (bsOf t)).err:Int),.int .i64 ((d.feed (bsOf t)).at1:Int)])∧DI w W' g (d.feed (bsOf t)):=by
 obtain ⟨c,b,v⟩:=h.ex
 have h0:=h.pos
 have h1:=h.lo
 refine (feed_x g 5957 t c d W b v (Nat.le_refl _) hk hs (hG.kept h.kept) (by omega)).mono ?_
 rintro e W' ⟨rfl,k⟩
 exact ⟨rfl,h.step k⟩
structure ShowOk (s:Rd):Prop where
 hd:RdHd s
 clear:∀ j,s.tl.clear j<256
 sm:SmI s
def snN:Array Value:=#[.int .i64 0,.int .i64 0,.bool false,.int .i64 0,.int .i64 0,.int .i64 0,.int .i64 0,.int .i64 0,.slice none 0 0,.slice none 0 0,.slice none 0 0]
theorem snap_lay (W:World) (cs:List Value) (hl:cs.length=11) (ho:∀ v ∈ cs,v.oneCell'=true) :
  (storeCells ⟨W.heap.size,0,none⟩ cs).run Tryz.prog (W.alloc (Obj.cells snN 50)) = .ok () ((W.alloc (Obj.cells snN 50)).setCells W.heap.size 0 cs)∧((W.alloc (Obj.cells snN 50)).setCells W.heap.size 0 cs).rangeAt W.heap.size 0 cs∧Kept W ((W.alloc (Obj.cells snN 50)).setCells W.heap.size 0 cs):=by
 have B:Blk (W.alloc (Obj.cells snN 50)) W.heap.size 11 (fun i=>snN.getD i undef):=Blk.new W snN _ 11 rfl
 have T:(W.alloc (Obj.cells snN 50)).there W.heap.size 0 cs.length:=by rw[hl];exact B.there (by omega)
 exact ⟨store_all T ho,World.rangeAt_setCells_same _ _ _ _ T,Kept.setCells (Nat.le_refl _) _ _ ((Below.refl _ _).alloc (Nat.le_refl _) _)⟩
theorem keep_part (s:Rd) (x:Nat):(s.keep x).1.part=s.part:=by
 unfold Rd.keep
 split
 ·rfl
 ·split
  ·rfl
  ·split
   ·rfl
   ·split
    ·unfold Rd.takeStream
     split
     ·rfl
     ·split
      ·rfl
      ·rfl
    ·rfl
theorem sh_grid:∀ x,x<16→∀ y,y<16→∃ k,k<7∧orgP (psOf 1 k).cf (psOf 1 k).cs (psOf 1 k).cb x=(x,true)∧orgP (psOf 1 k).rf (psOf 1 k).rs (psOf 1 k).rb y=(y,true)∧∀ j,j<7→k<j→((orgP (psOf 1 j).cf (psOf 1 j).cs (psOf 1 j).cb x).2 && (orgP (psOf 1 j).rf (psOf 1 j).rs (psOf 1 j).rb y).2)=false:=by decide +kernel
theorem shGo_down {r:Rw} {t:Tl} {h:Hd} {x y k:Nat}:∀ n,k<n→(∀ j,j<n→k<j→((orgP (psOf h.L j).cf (psOf h.L j).cs (psOf h.L j).cb x).2 && (orgP (psOf h.L j).rf (psOf h.L j).rs (psOf h.L j).rb y).2)=false)→shGo r t h x y n=shGo r t h x y (k+1)
 | 0,h0,_=>by omega
 | n+1,h0,hf=>by
  by_cases e:n=k
  ·rw[e]
  ·rw[shGo_no (a:=(orgP (psOf h.L n).cf (psOf h.L n).cs (psOf h.L n).cb x).1) (b:=(orgP (psOf h.L n).rf (psOf h.L n).rs (psOf h.L n).rb y).1) (A:=(orgP (psOf h.L n).cf (psOf h.L n).cs (psOf h.L n).cb x).2) (B:=(orgP (psOf h.L n).rf (psOf h.L n).rs (psOf h.L n).rb y).2) rfl rfl (by rw[hf n (by omega) (by omega)];rfl)]
   exact shGo_down n (by omega) (fun j h1 h2=>hf j (by omega) h2)
theorem sh_px {r:Rw} {t:Tl} {h:Hd} {x y:Nat} (hL:h.L≤1) (hx:x<16) (hy:y<16) (kn:r.known (y*16+x)=true):shP r t h x y=pxP r t h x y:=by
 unfold shP
 by_cases e:h.L=1
 ·obtain ⟨k,h1,h2,h3,h4⟩:=sh_grid x hx y hy
  rw[← e] at h2 h3 h4
  have ec:cntP h.L=7:=by unfold cntP;rw[if_pos e]
  rw[ec,shGo_down 7 h1 h4,shGo_yes h2 h3 kn]
 ·have ec:cntP h.L=1:=by unfold cntP;rw[if_neg e]
  have ep:psOf h.L 0=⟨0,1,1,0,1,1⟩:=by unfold psOf;rw[if_neg (fun q=>e q.1)]
  have eo:∀ p,orgP 0 1 1 p=(p,true):=fun p=>by unfold orgP;rw[if_neg (by omega),Nat.mod_one];rfl
  rw[ec]
  exact shGo_yes (by rw[ep];exact eo x) (by rw[ep];exact eo y) kn
def PalI (s:Rd):Prop:=∀ j,s.tl.pal j<256
theorem PalI.note {s:Rd} (h:PalI s):PalI s.note:=by
 have h1:PalI s.note1:=by
  unfold Rd.note1
  split
  ·exact h
  ·split
   ·exact h
   ·split
    ·unfold Rd.begin
     split
     ·exact h
     ·exact h
    ·exact h
 show PalI s.note1.note2
 unfold Rd.note2
 split
 ·exact h1
 ·exact h1
theorem PalI.accept {s:Rd} (h:PalI s):PalI s.accept.1:=by
 unfold PalI
 rw[(accept_tl s).1];exact h
theorem PalI.keep {s:Rd} {x:Nat} (h:PalI s) (hx:x<256):PalI (s.keep x).1:=by
 unfold Rd.keep
 split
 ·exact h
 ·split
  ·intro j
   show upd s.tl.pal s.taken x j<256
   by_cases e:j=s.taken
   ·rw[e,upd_same];exact hx
   ·rw[upd_ne _ _ _ e];exact h j
  ·split
   ·exact h
   ·split
    ·unfold Rd.takeStream
     split
     ·exact h
     ·split
      ·exact h
      ·exact h
    ·exact h
theorem PalI.take {s:Rd} {x:Nat} (h:PalI s) (hx:x<256):PalI (s.take x).1:=by
 unfold Rd.take
 split
 ·unfold Rd.takeSign
  split
  ·exact h
  ·split
   ·exact h
   ·exact h
 ·split
  ·unfold Rd.takeLength
   split
   ·exact h
   ·split
    ·exact h
    ·exact h
  ·split
   ·unfold Rd.takeType
    have ht:PalI (s.typed x):=h
    split
    ·exact h
    ·split
     ·exact ht
     ·split
      ·exact ht.note
      ·exact ht.note
   ·split
    ·have hk:=PalI.keep (s:=s.summed x) (x:=x) h hx
     unfold Rd.takeData
     split
     ·exact hk
     ·show PalI ((s.summed x).keep x).1.dataEnd
      unfold Rd.dataEnd
      split
      ·exact hk
      ·exact hk
    ·split
     ·unfold Rd.takeSum
      have ha:PalI (s.num x).accept.1:=PalI.accept (s:=s.num x) h
      split
      ·exact h
      ·split
       ·exact h
       ·split
        ·exact ha
        ·split
         ·exact ha
         ·exact ha
     ·exact h
theorem Rn.palI:∀ {l:List Nat} {s b:Rd},Rn s l b→(∀ x ∈ l,x<256)→PalI s→PalI b
 | [],s,b,h,_,k=>by cases h;exact k
 | x::l,s,b,h,hb,k=>Rn.palI h.2.2 (fun y hy=>hb y (by simp [hy])) (k.take (hb x (by simp)))
theorem palI0:PalI rd0:=fun _=>by show 0<256;omega
structure SeenF (W H D K L:Nat) (pal clr pix:List Int) (b:Rd):Prop where
 part:b.part=5
 hd:b.hd=⟨W,H,D,K,L⟩
 show':ShowOk b
 palI:PalI b
 tab:TabO K pal clr b.tl
 seen:SeenP ⟨W,H,D,K,L⟩ pix b.rw
theorem snapFI {w W:World} {g:Nat} {d:Dc} (h:DI w W g d) (hs:ShowOk d.file) (hpal:PalI d.file) (hG:GrdAt w) :
  Calls Tryz.prog 24 #[.pointer (some ⟨g,0,none⟩)] W fun e W'=>SnX W d e W':=by
 obtain ⟨c,B,v⟩:=h.ex
 refine snap_f g 5957 c d W B v (Nat.le_refl _) ?_ hpal (hG.kept h.kept)
 by_cases q:d.file.hd.W=0
 ·exact Or.inl q
 ·refine Or.inr ⟨v.file.rw,v.file.tl,by omega,by omega,hs.clear,hs.sm.1,hs.hd.K,by omega,hs.hd.W,?_,hs.hd.H,hs.hd.L⟩
  rcases hs.sm.2 with e | e
  ·exact absurd e q
  ·exact e
theorem sane0_x (s0 s1 s2 s3 s4 s5 s6 s7 s9 s10:Value) (p:Option Addr) (w:World) :
  Calls Tryz.prog 26 #[.agg #[s0,s1,s2,s3,s4,s5,s6,s7,.slice p 0 0,s9,s10]] w fun r w'=>r = .returned (.bool true)∧Kept w w':=by
 have hk0:Hid (Kept w (w.alloc (Obj.cells #[s0,s1,s2,s3,s4,s5,s6,s7,.slice p 0 0,s9,s10] 50))):=Below.alloc (Below.refl _ _) (Nat.le_refl _) _
 have a8:(w.alloc (Obj.cells #[s0,s1,s2,s3,s4,s5,s6,s7,.slice p 0 0,s9,s10] 50)).cell? ⟨w.heap.size,8,none⟩=some (.slice p 0 0):=(World.cell?_alloc_at _ _ _ _ rfl).trans rfl
 go_enter Tryz.func26,Tryz.ntmps26
 go_upto_region 1 with fail
 generalize (w.alloc (Obj.cells #[s0,s1,s2,s3,s4,s5,s6,s7,.slice p 0 0,s9,s10] 50))=w0 at *
 go_wp2_with fail
 go_loopg [3,4] 1 (fun m v v4 W=>v = .int .i64 0∧W=w0)
 case atStart=>exact ⟨rfl,rfl⟩
 case round=>
  obtain ⟨rfl,rfl⟩:=hrel
  go_wp2_with fail
  go_ret
  exact ⟨rfl,hk0.out⟩
theorem sane_x (n n4 bK bP bS:Nat) (s0 s1 s2 s3 s4 s5 s6 s7:Value) (KN PX SH:Nat→Int) (w:World) (hn:n≤256) (hn4:n4=4*n)
  (hk:∀ j,j<n→w.cell? ⟨bK,j,none⟩=some (.int .i64 (KN j))) (hp:∀ j,j<n4→w.cell? ⟨bP,j,none⟩=some (.int .i64 (PX j))) (hs:∀ j,j<n4→w.cell? ⟨bS,j,none⟩=some (.int .i64 (SH j)))
  (h01:∀ j,j<n→KN j=0∨KN j=1) (c0:∀ j,j<n4→KN (j / 4)=0→PX j=0) (c1:∀ j,j<n4→KN (j / 4)=1→SH j=PX j) (bp:∀ j,j<n4→0≤PX j∧PX j≤65535) (bs:∀ j,j<n4→0≤SH j∧SH j≤65535) :
  Calls Tryz.prog 26 #[.agg #[s0,s1,s2,s3,s4,s5,s6,s7,.slice (some ⟨bK,0,none⟩) n n,.slice (some ⟨bP,0,none⟩) n4 n4,.slice (some ⟨bS,0,none⟩) n4 n4]] w fun r w'=>r = .returned (.bool true)∧Kept w w':=by
 have hk0:Kept w (w.alloc (Obj.cells #[s0,s1,s2,s3,s4,s5,s6,s7,.slice (some ⟨bK,0,none⟩) n n,.slice (some ⟨bP,0,none⟩) n4 n4,.slice (some ⟨bS,0,none⟩) n4 n4] 50)):=Below.alloc (Below.refl _ _) (Nat.le_refl _) _
 have HA:Hid (∀ W,Kept (w.alloc (Obj.cells #[s0,s1,s2,s3,s4,s5,s6,s7,.slice (some ⟨bK,0,none⟩) n n,.slice (some ⟨bP,0,none⟩) n4 n4,.slice (some ⟨bS,0,none⟩) n4 n4] 50)) W→(W.cell? ⟨w.heap.size,8,none⟩=some (.slice (some ⟨bK,0,none⟩) n n)∧W.cell? ⟨w.heap.size,9,none⟩=some (.slice (some ⟨bP,0,none⟩) n4 n4)∧W.cell? ⟨w.heap.size,10,none⟩=some (.slice (some ⟨bS,0,none⟩) n4 n4))):=fun W k=>by
  have hs0:w.heap.size<(w.alloc (Obj.cells #[s0,s1,s2,s3,s4,s5,s6,s7,.slice (some ⟨bK,0,none⟩) n n,.slice (some ⟨bP,0,none⟩) n4 n4,.slice (some ⟨bS,0,none⟩) n4 n4] 50)).heap.size:=by simp
  exact ⟨(k.cell (p:=⟨w.heap.size,8,none⟩) hs0).trans ((World.cell?_alloc_at _ _ _ _ rfl).trans rfl),(k.cell (p:=⟨w.heap.size,9,none⟩) hs0).trans ((World.cell?_alloc_at _ _ _ _ rfl).trans rfl),(k.cell (p:=⟨w.heap.size,10,none⟩) hs0).trans ((World.cell?_alloc_at _ _ _ _ rfl).trans rfl)⟩
 have HK:Hid (∀ W,Kept w W→∀ j,j<n→W.cell? ⟨bK,j,none⟩=some (.int .i64 (KN j))):=fun W k j hj=>(k.cell (p:=⟨bK,j,none⟩) (World.block_lt_of_cell? _ _ (hk j hj))).trans (hk j hj)
 have HP:Hid (∀ W,Kept w W→∀ j,j<n4→W.cell? ⟨bP,j,none⟩=some (.int .i64 (PX j))):=fun W k j hj=>(k.cell (p:=⟨bP,j,none⟩) (World.block_lt_of_cell? _ _ (hp j hj))).trans (hp j hj)
 have HS:Hid (∀ W,Kept w W→∀ j,j<n4→W.cell? ⟨bS,j,none⟩=some (.int .i64 (SH j))):=fun W k j hj=>(k.cell (p:=⟨bS,j,none⟩) (World.block_lt_of_cell? _ _ (hs j hj))).trans (hs j hj)
 have H01:Hid _:=h01
 have C0:Hid _:=c0
 have C1:Hid _:=c1
 have BP:Hid _:=bp
 have BS:Hid _:=bs
 have e4:4*(n:Int)=(n4:Int):=by omega
 have hn4b:n4≤1024:=by omega
 replace hn4:Hid _:=hn4
 replace hk0:Hid _:=hk0
 clear hk hp hs h01 c0 c1 bp bs
 go_enter Tryz.func26,Tryz.ntmps26
 go_upto_region 1 with fail
 generalize (w.alloc (Obj.cells #[s0,s1,s2,s3,s4,s5,s6,s7,.slice (some ⟨bK,0,none⟩) n n,.slice (some ⟨bP,0,none⟩) n4 n4,.slice (some ⟨bS,0,none⟩) n4 n4] 50))=w0 at *
 go_wp2_with fail
 go_loopg [3,4] n (fun m v v4 W=>∃ k:Nat,m=n - k∧k≤n∧v = .int .i64 (k:Int)∧Kept w0 W)
 case atStart=>exact ⟨0,by omega,by omega,rfl,Kept.refl _⟩
 case round=>
  obtain ⟨k,hgk,hkn,rfl,hkw⟩:=hrel
  replace hgk:Hid _:=hgk
  have KR:Hid (Kept w0 wr):=hkw
  clear hkw
  obtain ⟨a8,a9,a10⟩:=HA.out wr KR.out
  by_cases hlt:k<n
  ·have hlt':(k:Int)<(n:Int):=by omega
   have k0:(0:Int)≤(k:Int):=by omega
   obtain ⟨T0,hT0⟩:∃ T,T=4*k:=⟨_,rfl⟩
   obtain ⟨T4,hT4⟩:∃ T,T=4*k+4:=⟨_,rfl⟩
   have t1:4*(k:Int)=(T0:Int):=by omega
   have t2:(T0:Int)+4=(T4:Int):=by omega
   have hT0n:T4≤n4:=by omega
   replace hT0:Hid _:=hT0
   replace hT4:Hid _:=hT4
   go_wp2_with fail
   go_loopg [4] 4 (fun m v W=>∃ j:Nat,m=T4 - j∧T0≤j∧j≤T4∧v = .int .i64 (j:Int)∧Kept w0 W)
   case atStart=>exact ⟨T0,by have:=hT0.out;have:=hT4.out;omega,by omega,by have:=hT0.out;have:=hT4.out;omega,rfl,KR.out⟩
   case round=>
    obtain ⟨j,hgj,hj0,hj4,rfl,hkv⟩:=hrel
    replace hgj:Hid _:=hgj
    have KV:Hid (Kept w0 wr):=hkv
    clear hkv a8 a9 a10
    obtain ⟨a8,a9,a10⟩:=HA.out wr KV.out
    by_cases hjl:j<T4
    ·have hjl':(j:Int)<(T4:Int):=by omega
     have j0:(0:Int)≤(j:Int):=by omega
     have jn:(j:Int)<(n4:Int):=by omega
     have jn':j<n4:=by omega
     have hjk:j / 4=k:=by have:=hT0.out;have:=hT4.out;omega
     have y1:=HK.out wr (Kept.trans hk0.out KV.out) k hlt
     have y2:=HP.out wr (Kept.trans hk0.out KV.out) j jn'
     have y3:=HS.out wr (Kept.trans hk0.out KV.out) j jn'
     have b1:=BP.out j jn'
     have b2:=BS.out j jn'
     have z0:=C0.out j jn'
     have z1:=C1.out j jn'
     rw[hjk] at z0 z1
     replace hjk:Hid _:=hjk
     rcases H01.out k hlt with e | e
     ·rw[e] at y1 z0 z1
      rw[z0 rfl] at y2
      generalize SH j=S at *
      have d1:¬ S<0:=by omega
      have d2:decide (65535<S)=false:=decide_eq_false (by omega)
      have d3:¬ 65535<S:=by omega
      clear z0 z1 b1 b2 e
      have R2:Hid (∀ W,Kept wr W→W.cell? ⟨bP,j,none⟩=some (.int .i64 0)∧W.cell? ⟨bS,j,none⟩=some (.int .i64 S)):=fun W k=>⟨(k.cell (p:=⟨bP,j,none⟩) (World.block_lt_of_cell? _ _ y2)).trans y2,(k.cell (p:=⟨bS,j,none⟩) (World.block_lt_of_cell? _ _ y3)).trans y3⟩
      go_wp2_with fail
      go_quiet (fail)
      have KV2:Hid (Kept w0 (wr.drewN nq)):=KV.out.drewN _
      obtain ⟨y2,y3⟩:=R2.out (wr.drewN nq) ((Kept.refl _).drewN _)
      generalize wr.drewN nq=w5 at *
      obtain ⟨a8,a9,a10⟩:=HA.out w5 KV2.out
      go_wp2_with fail
      go_roundg (T4 - (j+1))
      case measure=>rw[hgj.out];omega
      case rel=>exact ⟨j+1,rfl,by omega,by omega,by go_num,KV2.out⟩
     ·rw[e] at y1 z0 z1
      rw[z1 rfl] at y3
      generalize PX j=S at *
      have d1:¬ S<0:=by omega
      have d2:decide (65535<S)=false:=decide_eq_false (by omega)
      have d3:¬ 65535<S:=by omega
      clear z0 z1 b1 b2 e
      have R2:Hid (∀ W,Kept wr W→W.cell? ⟨bP,j,none⟩=some (.int .i64 S)∧W.cell? ⟨bS,j,none⟩=some (.int .i64 S)):=fun W k=>⟨(k.cell (p:=⟨bP,j,none⟩) (World.block_lt_of_cell? _ _ y2)).trans y2,(k.cell (p:=⟨bS,j,none⟩) (World.block_lt_of_cell? _ _ y3)).trans y3⟩
      go_wp2_with fail
      go_quiet (fail)
      have KV2:Hid (Kept w0 (wr.drewN nq)):=KV.out.drewN _
      obtain ⟨y2,y3⟩:=R2.out (wr.drewN nq) ((Kept.refl _).drewN _)
      generalize wr.drewN nq=w5 at *
      obtain ⟨a8,a9,a10⟩:=HA.out w5 KV2.out
      go_wp2_with fail
      go_roundg (T4 - (j+1))
      case measure=>rw[hgj.out];omega
      case rel=>exact ⟨j+1,rfl,by omega,by omega,by go_num,KV2.out⟩
    ·have hjl':¬ (j:Int)<(T4:Int):=by omega
     have y1:=HK.out wr (Kept.trans hk0.out KV.out) k hlt
     rcases H01.out k hlt with e | e
     ·rw[e] at y1
      clear e
      go_wp2_with fail
      go_roundg (n - (k+1))
      case measure=>rw[hgk.out];omega
      case rel=>exact ⟨k+1,rfl,by omega,by go_num,KV.out⟩
     ·rw[e] at y1
      clear e
      go_wp2_with fail
      go_roundg (n - (k+1))
      case measure=>rw[hgk.out];omega
      case rel=>exact ⟨k+1,rfl,by omega,by go_num,KV.out⟩
  ·have hlt':¬ (k:Int)<(n:Int):=by omega
   go_wp2_with fail
   go_ret
   exact ⟨rfl,Kept.trans hk0.out KR.out⟩
theorem on_x (x wd k dx dy:Nat) (w:World) (c0:w.cell? ⟨x,0,none⟩=some (.int .i64 (wd:Int))) (h1:1≤wd) (h2:wd≤16) (hk:k<1000) (hx1:1≤dx) (hx2:dx≤8) (hy1:1≤dy) (hy2:dy≤8) :
  Calls Tryz.prog 46 #[.pointer (some ⟨x,0,none⟩),.int .i64 (k:Int),.int .i64 (dx:Int),.int .i64 (dy:Int)] w fun r w'=>r = .returned (.bool (decide (k % wd % dx=0) && decide (k / wd % dy=0)))∧w'=w:=by
 obtain ⟨X,hX⟩:∃ X,X=k % wd:=⟨_,rfl⟩
 obtain ⟨Y,hY⟩:∃ Y,Y=k / wd:=⟨_,rfl⟩
 rw[← hX,← hY]
 have tX:(k:Int).tmod (wd:Int)=(X:Int):=by rw[Int.tmod_eq_emod_of_nonneg (by omega),hX];exact (Int.natCast_emod _ _).symm
 have tY:(k:Int).tdiv (wd:Int)=(Y:Int):=by rw[Int.tdiv_eq_ediv_of_nonneg (by omega),hY];exact (Int.natCast_ediv _ _).symm
 have tX':(k:Int) % (wd:Int)=(X:Int):=by rw[hX];exact (Int.natCast_emod _ _).symm
 have tY':(k:Int) / (wd:Int)=(Y:Int):=by rw[hY];exact (Int.natCast_ediv _ _).symm
 have hXb:X<1000:=by rw[hX];exact Nat.lt_of_le_of_lt (Nat.mod_le _ _) hk
 have hYb:Y<1000:=by rw[hY];exact Nat.lt_of_le_of_lt (Nat.div_le_self _ _) hk
 obtain ⟨A,hA⟩:∃ A,A=X % dx:=⟨_,rfl⟩
 obtain ⟨B,hB⟩:∃ B,B=Y % dy:=⟨_,rfl⟩
 rw[← hA,← hB]
 have tA:(X:Int).tmod (dx:Int)=(A:Int):=by rw[Int.tmod_eq_emod_of_nonneg (by omega),hA];exact (Int.natCast_emod _ _).symm
 have tB:(Y:Int).tmod (dy:Int)=(B:Int):=by rw[Int.tmod_eq_emod_of_nonneg (by omega),hB];exact (Int.natCast_emod _ _).symm
 have tA':(X:Int) % (dx:Int)=(A:Int):=by rw[hA];exact (Int.natCast_emod _ _).symm
 have tB':(Y:Int) % (dy:Int)=(B:Int):=by rw[hB];exact (Int.natCast_emod _ _).symm
 have hAb:A<1000:=by rw[hA];exact Nat.lt_of_le_of_lt (Nat.mod_le _ _) hXb
 have hBb:B<1000:=by rw[hB];exact Nat.lt_of_le_of_lt (Nat.mod_le _ _) hYb
 have w0:((wd:Int) == 0)=false:=by rw[beq_eq_false_iff_ne];omega
 have w1:¬ ((wd:Int)=0):=by omega
 have w2:¬ (wd=0):=by omega
 have d0:((dx:Int) == 0)=false:=by rw[beq_eq_false_iff_ne];omega
 have d1:¬ ((dx:Int)=0):=by omega
 have d2:¬ (dx=0):=by omega
 have f0:((dy:Int) == 0)=false:=by rw[beq_eq_false_iff_ne];omega
 have f1:¬ ((dy:Int)=0):=by omega
 have f2:¬ (dy=0):=by omega
 clear hX hY hA hB
 by_cases e:A=0
 ·subst e
  by_cases e2:B=0
  ·subst e2
   go_enter Tryz.func46,Tryz.ntmps46
   go_wp2
   go_ret
   exact ⟨rfl,rfl⟩
  ·have e3:((B:Int) == 0)=false:=by rw[beq_eq_false_iff_ne];omega
   rw[decide_eq_false e2]
   clear e2
   go_enter Tryz.func46,Tryz.ntmps46
   go_wp2
   go_ret
   exact ⟨rfl,rfl⟩
 ·have e3:((A:Int) == 0)=false:=by rw[beq_eq_false_iff_ne];omega
  rw[decide_eq_false e]
  clear e
  go_enter Tryz.func46,Tryz.ntmps46
  go_wp2
  go_ret
  exact ⟨rfl,rfl⟩
def dxP (p:Nat):Nat:=8 / 2^((p+1) / 2)
def dyP (p:Nat):Nat:=8 / 2^(p / 2)
theorem dP_ok:∀ p,p<7→1≤dxP p∧dxP p≤8∧1≤dyP p∧dyP p≤8:=by decide
theorem dP_even:∀ p,p<7→p % 2=0→dxP (p+1)=dxP p / 2∧dyP (p+1)=dyP p:=by decide
theorem dP_odd:∀ p,p<7→p % 2≠0→dxP (p+1)=dxP p∧dyP (p+1)=dyP p / 2:=by decide
def onB (wd p j:Nat):Bool:=decide (j % wd % dxP p=0) && decide (j / wd % dyP p=0)
def allB' (f:Nat→Bool):Nat→Bool
 | 0=>true
 | k+1=>allB' f k && f k
theorem allB'_true {f:Nat→Bool}:∀ n,allB' f n=true→∀ j,j<n→f j=true
 | 0,_,j,h=>by omega
 | n+1,e,j,h=>by
  have e':(allB' f n && f n)=true:=e
  rw[Bool.and_eq_true] at e'
  by_cases q:j=n
  ·rw[q];exact e'.2
  ·exact allB'_true n e'.1 j (by omega)
def orgK (wd p k:Nat):Nat:=(k / wd - k / wd % dyP p)*wd+k % wd - k % wd % dxP p
theorem ahead0_x (x:Nat) (s0 s1 s2 s3 s4 s5 s6 s7 s8 s9 s10:Value) (w:World) (c7:w.cell? ⟨x,7,none⟩=some (.int .i64 0)) :
  Calls Tryz.prog 28 #[.pointer (some ⟨x,0,none⟩),.agg #[s0,s1,s2,s3,s4,s5,s6,s7,s8,s9,s10]] w fun r w'=>r = .returned (.bool true)∧Kept w w':=by
 have hk0:Kept w (w.alloc (Obj.cells #[s0,s1,s2,s3,s4,s5,s6,s7,s8,s9,s10] 50)):=Below.alloc (Below.refl _ _) (Nat.le_refl _) _
 have a7:=(hk0.cell (p:=⟨x,7,none⟩) (World.block_lt_of_cell? _ _ c7)).trans c7
 replace hk0:Hid _:=hk0
 go_enter Tryz.func28,Tryz.ntmps28
 go_wp2_with fail
 go_ret
 exact ⟨rfl,hk0.out⟩
end Go.Proofs.YtmbmecfodigciaaGreatDoor
