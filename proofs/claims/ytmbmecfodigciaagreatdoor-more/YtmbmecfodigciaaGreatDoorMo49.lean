import Derived.Test.YtmbmecfodigciaaGreatDoorMo47
import Derived.Test.YtmbmecfodigciaaGreatDoorMo48
import Derived.Test.YtmbmecfodigciaaGreatDoorMo46
import Derived.Test.YtmbmecfodigciaaGreatDoorMo45
import Derived.Test.YtmbmecfodigciaaGreatDoorMo33
set_option maxRecDepth 100000
set_option maxHeartbeats 6400000
namespace Go.Proofs.YtmbmecfodigciaaGreatDoor
open Go.RowKit Px
set_option linter.unusedSimpArgs false
set_option linter.unusedVariables false
def SnL (L:List Value) (w1:World) (g:Nat) (W:World):Prop:=L.length=11∧(∀ v ∈ L,v.oneCell'=true)∧Kept w1 W∧Blk W g 11 (fun i=>L.getD i undef)
theorem SnL.on {L:List Value} {w1 W W':World} {g:Nat} (h:SnL L w1 g W) (k:Kept W W'):SnL L w1 g W':=⟨h.1,h.2.1,h.2.2.1.trans k,h.2.2.2.kept k⟩
theorem SnL.set {L:List Value} {w1 W:World} {g k:Nat} (h:SnL L w1 g W) (hg:w1.heap.size≤g) (hk:k<11) (v:Value) (hv:v.oneCell'=true):SnL (L.set k v) w1 g (W.setCell ⟨g,k,none⟩ v):=by
 obtain ⟨h1,h2,h3,h4⟩:=h
 refine ⟨by rw[List.length_set];exact h1,fun u hu => ?_,h3.setCell hg v,?_⟩
 ·rcases List.mem_or_eq_of_mem_set hu with q | q
  ·exact h2 u q
  ·rw[q];exact hv
 ·have e:(fun i=>(L.set k v).getD i undef)=upd (fun i=>L.getD i undef) k v:=by
   funext i
   by_cases q:i=k
   ·subst q
    rw[upd_same,List.getD_eq_getElem?_getD,List.getElem?_set_self (by omega)];rfl
   ·rw[upd_ne _ _ _ q,List.getD_eq_getElem?_getD,List.getElem?_set_ne (fun z=>q z.symm),← List.getD_eq_getElem?_getD]
  rw[e];exact h4.set hk v
theorem SnL.put2 {L:List Value} {w1 W:World} {g:Nat} {DN:Bool} (h:SnL L w1 g W) (hg:w1.heap.size≤g) (v:Value) (hv:v = .bool DN):SnL (L.set 2 (.bool DN)) w1 g (W.setCell ⟨g,2,none⟩ v):=by
 subst hv
 exact h.set hg (by omega) _ rfl
theorem SnL.cell {L:List Value} {w1 W:World} {g:Nat} (h:SnL L w1 g W) (j:Nat) (hj:j<11):∃ OV,W.cell? ⟨g,j,none⟩=some OV:=⟨_,h.2.2.2.cell j hj⟩
def NumC (W:World) (lo g N:Nat) (f:Nat→Int):Prop:=lo≤g∧g<W.heap.size∧∀ j,j<N→W.cell? ⟨g,j,none⟩=some (.int .i64 (f j))
theorem NumC.kept {W W':World} {lo g N:Nat} {f:Nat→Int} (h:NumC W lo g N f) (k:Kept W W'):NumC W' lo g N f:=⟨h.1,Nat.lt_of_lt_of_le h.2.1 k.size,fun j hj=>(k.cell (p:=⟨g,j,none⟩) h.2.1).trans (h.2.2 j hj)⟩
theorem NumC.fr {W W':World} {lo g N:Nat} {f:Nat→Int} {S:Nat→Prop} (h:NumC W lo g N f) (k:Fr S W W') (hS:¬ S g):NumC W' lo g N f:=⟨h.1,Nat.lt_of_lt_of_le h.2.1 k.size,fun j hj=>(k.cell h.2.1 hS).trans (h.2.2 j hj)⟩
theorem NumC.low {W:World} {lo lo' g N:Nat} {f:Nat→Int} (h:NumC W lo g N f) (k:lo'≤lo):NumC W lo' g N f:=⟨Nat.le_trans k h.1,h.2⟩
def knP (r:Rw) (h:Hd) (j:Nat):Int:=if r.known (j / h.W*16+j % h.W) then 1 else 0
def snNo (d:Dc) (DN:Bool):List Value:=[.int .i64 (d.err:Int),.int .i64 (d.at1:Int),.bool DN,.int .i64 0,.int .i64 0,.int .i64 0,.int .i64 0,.int .i64 0,.slice none 0 0,.slice none 0 0,.slice none 0 0]
def snW (d:Dc) (DN:Bool) (gk gp gs:Nat):List Value:=[.int .i64 (d.err:Int),.int .i64 (d.at1:Int),.bool DN,.int .i64 (d.file.hd.W:Int),.int .i64 (d.file.hd.H:Int),.int .i64 (d.file.hd.K:Int),.int .i64 (d.file.hd.D:Int),.int .i64 (d.file.hd.L:Int),.slice (some ⟨gk,0,none⟩) (d.file.hd.W*d.file.hd.H) (d.file.hd.W*d.file.hd.H),.slice (some ⟨gp,0,none⟩) (4*(d.file.hd.W*d.file.hd.H)) (4*(d.file.hd.W*d.file.hd.H)),.slice (some ⟨gs,0,none⟩) (4*(d.file.hd.W*d.file.hd.H)) (4*(d.file.hd.W*d.file.hd.H))]
def SnX (w:World) (d:Dc) (e:Ending) (w':World):Prop:=Kept w w'∧((d.file.hd.W=0∧e = .returned (.agg (snNo d (decide (d.err=0) && decide (d.file.part=5))).toArray))∨(d.file.hd.W≠0∧∃ gk gp gs,e = .returned (.agg (snW d (decide (d.err=0) && decide (d.file.part=5)) gk gp gs).toArray)∧NumC w' w.heap.size gk (d.file.hd.W*d.file.hd.H) (knP d.file.rw d.file.hd)∧NumC w' w.heap.size gp (4*(d.file.hd.W*d.file.hd.H)) (fun j=>pxP d.file.rw d.file.tl d.file.hd (j / 4 % d.file.hd.W) (j / 4 / d.file.hd.W) (j % 4))∧NumC w' w.heap.size gs (4*(d.file.hd.W*d.file.hd.H)) (fun j=>shP d.file.rw d.file.tl d.file.hd (j / 4 % d.file.hd.W) (j / 4 / d.file.hd.W) (j % 4))))
theorem snap_f (b n:Nat) (c:Nat→Value) (d:Dc) (w:World) (hB:Blk w b n c) (hV:DcV c 0 d) (hn:5957≤n) (hp:d.file.hd.W=0∨PicOk c 4401 24 n d.file.rw d.file.tl d.file.hd) (hpal:∀ j,d.file.tl.pal j<256) (hG:GrdAt w) :
  Calls Tryz.prog 24 #[.pointer (some ⟨b,0,none⟩)] w fun e w'=>SnX w d e w':=by
 have hbw:=hB.lt
 have ke:=hB.at (i:=5955) (by omega) hV.err
 have ka:=hB.at (i:=5956) (by omega) hV.at1
 have HB:Hid (Blk w b n c):=hB
 have HV:Hid (DcV c 0 d):=hV
 have HP0:Hid (d.file.hd.W=0∨PicOk c 4401 24 n d.file.rw d.file.tl d.file.hd):=hp
 obtain ⟨DN,hDN⟩:∃ DN,DN=(decide (d.err=0) && decide (d.file.part=5)):=⟨_,rfl⟩
 unfold SnX
 rw[← hDN]
 have HPl:Hid (∀ j,d.file.tl.pal j<256):=hpal
 clear hpal
 replace hDN:Hid _:=hDN
 have HG:Hid (GrdAt w):=hG
 have K0:Hid (Kept w (w.alloc (Obj.cells snZ 50))):=Below.alloc (Below.refl _ _) (Nat.le_refl _) _
 have B0:Hid (Blk (w.alloc (Obj.cells snZ 50)) w.heap.size 11 (fun i=>snZ.getD i undef)):=Blk.new w snZ _ 11 rfl
 clear hB hV hp hG
 unfold snZ at K0 B0
 go_enter Tryz.func24,Tryz.ntmps24
 go_upto_region 3 with fail
 generalize w.alloc (Obj.cells #[.int .i64 0,.int .i64 0,.bool false,.int .i64 0,.int .i64 0,.int .i64 0,.int .i64 0,.int .i64 0,.slice none 0 0,.slice none 0 0,.slice none 0 0] 50)=w1 at *
 have ke1:=(K0.out.cell (p:=⟨b,5955,none⟩) hbw).trans ke
 have ka1:=(K0.out.cell (p:=⟨b,5956,none⟩) hbw).trans ka
 have hb1:b<w1.heap.size:=Nat.lt_of_lt_of_le hbw K0.out.size
 replace ke1:w1.cell? ⟨b,5955,none⟩=some (.int .i64 (d.err:Int)):=ke1
 replace ka1:w1.cell? ⟨b,5956,none⟩=some (.int .i64 (d.at1:Int)):=ka1
 clear ke ka
 have HC1:Hid (∀ W,Kept w1 W→(W.cell? ⟨b,5955,none⟩=some (.int .i64 (d.err:Int))∧W.cell? ⟨b,5956,none⟩=some (.int .i64 (d.at1:Int)))):=fun W k=>⟨(k.cell (p:=⟨b,5955,none⟩) hb1).trans ke1,(k.cell (p:=⟨b,5956,none⟩) hb1).trans ka1⟩
 go_region_held3 (fun W=>W.cell? ⟨b,5955,none⟩=some (.int .i64 (d.err:Int))∧W.cell? ⟨b,5956,none⟩=some (.int .i64 (d.at1:Int))) (first | exact ⟨ke1,ka1⟩ | exact HC1.out _ (Below.alloc ((Kept.refl _).drewN 1) (by simp) _) | go_keep) (fail)
 have K2:Hid (Kept w1 (w1.alloc (Obj.cells #[.int .i64 (d.err:Int),.int .i64 (d.at1:Int),.bool false,.int .i64 0,.int .i64 0,.int .i64 0,.int .i64 0,.int .i64 0,.slice none 0 0,.slice none 0 0,.slice none 0 0] 50)).drew):=Kept.drewN (Below.alloc (Below.refl _ _) (Nat.le_refl _) _) 1
 have B2:Hid (Blk (w1.alloc (Obj.cells #[.int .i64 (d.err:Int),.int .i64 (d.at1:Int),.bool false,.int .i64 0,.int .i64 0,.int .i64 0,.int .i64 0,.int .i64 0,.slice none 0 0,.slice none 0 0,.slice none 0 0] 50)).drew w1.heap.size 11 (fun i=>(#[.int .i64 (d.err:Int),.int .i64 (d.at1:Int),.bool false,.int .i64 0,.int .i64 0,.int .i64 0,.int .i64 0,.int .i64 0,.slice none 0 0,.slice none 0 0,.slice none 0 0]:Array Value).getD i undef)):=(Blk.new w1 _ _ 11 rfl).kept ((Kept.refl _).drewN 1)
 have S2:Hid (SnL (snNo d false) w1 w1.heap.size (w1.alloc (Obj.cells #[.int .i64 (d.err:Int),.int .i64 (d.at1:Int),.bool false,.int .i64 0,.int .i64 0,.int .i64 0,.int .i64 0,.int .i64 0,.slice none 0 0,.slice none 0 0,.slice none 0 0] 50)).drew):=by
  refine ⟨rfl,fun v hv => ?_,K2.out,?_⟩
  ·unfold snNo at hv
   simp only [List.mem_cons,List.not_mem_nil,or_false] at hv
   rcases hv with rfl | rfl | rfl | rfl | rfl | rfl | rfl | rfl | rfl | rfl | rfl<;>rfl
  ·have e:(fun i=>(snNo d false).getD i undef)=(fun i=>(#[.int .i64 (d.err:Int),.int .i64 (d.at1:Int),.bool false,.int .i64 0,.int .i64 0,.int .i64 0,.int .i64 0,.int .i64 0,.slice none 0 0,.slice none 0 0,.slice none 0 0]:Array Value).getD i undef):=by
    funext i
    rw[Array.getD_eq_getD_getElem?,List.getElem?_toArray,List.getD_eq_getElem?_getD];rfl
   rw[e];exact B2.out
 clear K2 B2 HC1 ke1 ka1
 generalize (w1.alloc (Obj.cells #[.int .i64 (d.err:Int),.int .i64 (d.at1:Int),.bool false,.int .i64 0,.int .i64 0,.int .i64 0,.int .i64 0,.int .i64 0,.slice none 0 0,.slice none 0 0,.slice none 0 0] 50)).drew=w2 at *
 obtain ⟨g3,hg3⟩:∃ g,g=w1.heap.size:=⟨_,rfl⟩
 rw[← hg3] at S2 ⊢
 have hgle:w1.heap.size≤g3:=by rw[hg3];exact Nat.le_refl _
 replace hg3:Hid _:=hg3
 obtain ⟨L3,hL3⟩:∃ L3,L3=snNo d DN:=⟨_,rfl⟩
 have HP2:Hid (∀ W v,SnL (snNo d false) w1 g3 W→v = .bool DN→SnL L3 w1 g3 (W.setCell ⟨g3,2,none⟩ v)):=fun W v h e=>by rw[hL3];exact h.put2 hgle v e
 replace hL3:Hid _:=hL3
 have BW:Hid (∀ W,Kept w1 W→Blk W b n c):=fun W k=>(HB.out.kept K0.out).kept k
 have GW:Hid (∀ W,Kept w1 W→GrdAt W):=fun W k=>(HG.out.kept K0.out).kept k
 go_upto_region 4 with fail
 go_cut [] from 17 (fun W=>SnL L3 w1 g3 W)
 case first=>
  have hK2:=S2.out.2.2.1
  have hB2:=S2.out.2.2.2
  have ke:=(BW.out w2 hK2).at (i:=5955) (by omega) HV.out.err
  replace ke:w2.cell? ⟨b,5955,none⟩=some (.int .i64 (d.err:Int)):=ke
  obtain ⟨OV,k2⟩:∃ OV,w2.cell? ⟨g3,2,none⟩=some OV:=⟨_,hB2.cell 2 (by omega)⟩
  have z2:=hB2.fz 2
  have FE:Hid (Calls Tryz.prog 41 #[.pointer (some ⟨b,0,none⟩)] w2 fun e w'=>e = .returned (.bool (decide (d.file.part=5)))∧w'=w2):=rdEnded_x b 0 n c d.file w2 (BW.out w2 hK2) HV.out.file (by omega)
  clear hB2 hK2
  have HDZ:Hid (d.err=0→DN=decide (d.file.part=5)):=fun q=>by rw[hDN.out,decide_eq_true q];rfl
  have HDN:Hid (d.err≠0→DN=false):=fun q=>by rw[hDN.out,decide_eq_false q];rfl
  clear hDN
  generalize decide (d.file.part=5)=EE at *
  by_cases he:d.err=0
  ·have he':((d.err:Int) == 0)=true:=by rw[beq_iff_eq];omega
   have hEE:Hid (DN=EE):=HDZ.out he
   replace he:Hid _:=he
   go_wp2_with fail
   refine FE.out.mono ?_
   rintro e w3 ⟨rfl,hw3⟩
   subst w3
   go_wp2_with fail
   all_goals
    go_meet
    case rel=>exact HP2.out _ _ S2.out (by first | (rw[hEE.out];done) | (rw[hEE.out];rfl) | (have:=hEE.out;simp_all))
  ·have he':((d.err:Int) == 0)=false:=by rw[beq_eq_false_iff_ne];omega
   have hEE:Hid (DN=false):=HDN.out he
   go_wp2_with fail
   go_meet
   case rel=>exact HP2.out _ _ S2.out (by rw[hEE.out])
 case rest=>
  have S3:Hid (SnL L3 w1 g3 wc):=hcut
  clear hcut S2
  have K3:Hid (Kept w1 wc):=S3.out.2.2.1
  go_wp2_with fail
  refine (rdHead_x b 0 n c d.file wc (BW.out wc K3.out) HV.out.file (by omega)).mono ?_
  rintro e w4 ⟨rfl,hk4⟩
  have S5:Hid (SnL L3 w1 g3 (w4.alloc (Obj.cells #[.int .i64 (d.file.hd.W:Int),.int .i64 (d.file.hd.H:Int),.int .i64 (d.file.hd.D:Int),.int .i64 (d.file.hd.K:Int),.int .i64 (d.file.hd.L:Int)] 71))):=(S3.out.on hk4).on (Below.alloc (Below.refl _ _) (Nat.le_refl _) _)
  have C5:Hid (∀ j v,(#[Value.int .i64 (d.file.hd.W:Int),.int .i64 (d.file.hd.H:Int),.int .i64 (d.file.hd.D:Int),.int .i64 (d.file.hd.K:Int),.int .i64 (d.file.hd.L:Int)]:Array Value)[j]? = some v→(w4.alloc (Obj.cells #[.int .i64 (d.file.hd.W:Int),.int .i64 (d.file.hd.H:Int),.int .i64 (d.file.hd.D:Int),.int .i64 (d.file.hd.K:Int),.int .i64 (d.file.hd.L:Int)] 71)).cell? ⟨w4.heap.size,j,none⟩=some v):=fun j v hv=>(World.cell?_alloc_at _ _ _ _ rfl).trans hv
  have hg34:g3<w4.heap.size:=by
   exact Nat.lt_of_lt_of_le S3.out.2.2.2.lt hk4.size
  by_cases hWz:d.file.hd.W=0
  ·have hW0:((d.file.hd.W:Int) == 0)=true:=by rw[beq_iff_eq];omega
   replace hWz:Hid _:=hWz
   clear hk4 S3 K3
   go_upto_region 6 with fail
   generalize w4.alloc (Obj.cells #[.int .i64 (d.file.hd.W:Int),.int .i64 (d.file.hd.H:Int),.int .i64 (d.file.hd.D:Int),.int .i64 (d.file.hd.K:Int),.int .i64 (d.file.hd.L:Int)] 71)=w5 at *
   obtain ⟨g4,hg4⟩:∃ g,g=w4.heap.size:=⟨_,rfl⟩
   rw[← hg4] at C5 hg34 ⊢
   clear hg4
   have x0:=C5.out 0 _ rfl
   obtain ⟨hcl,hone,K12,B12⟩:=S5.out
   obtain ⟨cs,hcs⟩:∃ cs,cs=L3:=⟨_,rfl⟩
   rw[← hcs] at hcl hone B12
   have hcr:Hid (w5.rangeAt g3 0 cs):=by
    show w5.rangeAt g3 0 cs
    have:=B12.range (k:=0) (m:=11) (by omega)
    have e:(List.range 11).map (fun j=>(fun i=>cs.getD i undef) (0+j))=cs:=by
     apply List.ext_getElem?
     intro j
     by_cases q:j<11
     ·rw[range_get _ 11 j q,Nat.zero_add]
      show some (cs.getD j undef)=_
      rw[List.getD_eq_getElem?_getD,List.getElem?_eq_getElem (by omega)];rfl
     ·rw[List.getElem?_eq_none (by rw[List.length_map,List.length_range];omega),List.getElem?_eq_none (by omega)]
    rw[e] at this
    exact this
   have hi:Hid ((Tryz.prog.info? 50).map (·.size)=some cs.length):=by show _=_;rw[hcl];exact info11
   have BR:Blk w5 w.heap.size 11 _:=B0.out.kept K12
   have ht:Hid (w5.there w.heap.size 0 cs.length):=by show w5.there _ 0 cs.length;rw[hcl];exact BR.there (by omega)
   have hsc5:(storeCells ⟨w.heap.size,0,none⟩ cs).run Tryz.prog w5 = .ok () (w5.setCells w.heap.size 0 cs):=store_all ht.out hone
   have hld:Hid ((loadVar 50 ⟨w.heap.size,0,none⟩).run Tryz.prog (w5.setCells w.heap.size 0 cs) = .ok (.agg cs.toArray) (w5.setCells w.heap.size 0 cs)) :=
    run_loadVar_mid _ _ _ _ cs _ (World.rangeAt_setCells_same _ _ _ _ ht.out) Tryz.underlying50 rfl hi.out
   have F13:Hid (Fr1 w.heap.size w5 (w5.setCells w.heap.size 0 cs)):=Fr1.sets _ _ (Fr.refl _ _)
   have K13:Hid (Kept w (w5.setCells w.heap.size 0 cs)):=Fr.to_kept (S:=fun j=>j=w.heap.size) (K0.out.trans K12) F13.out (fun i hi e=>by omega)
   replace hcs:Hid _:=hcs
   replace hcl:Hid _:=hcl
   replace hone:Hid _:=hone
   clear B12 BR
   clear K12
   go_upto_region 7 with fail
   go_step
   refine wpList_load_mid rfl 50 _ rfl g3 0 rfl cs _ hcr.out Tryz.underlying50 rfl hi.out ?_
   go_wp2
   exact bodyPost_ret (v := .agg cs.toArray) (results_cell1 rfl _ _ _ _ _ rfl hld.out) rfl ⟨K13.out,Or.inl ⟨hWz.out,by rw[hcs.out,hL3.out]⟩⟩
  have HP:Hid (PicOk c 4401 24 n d.file.rw d.file.tl d.file.hd):=by rcases HP0.out with q | q;exact absurd q hWz;exact q
  have hW0:((d.file.hd.W:Int) == 0)=false:=by have:=HP.out.W1;rw[beq_eq_false_iff_ne];omega
  clear hk4 S3 K3
  go_upto_region 6 with fail
  generalize w4.alloc (Obj.cells #[.int .i64 (d.file.hd.W:Int),.int .i64 (d.file.hd.H:Int),.int .i64 (d.file.hd.D:Int),.int .i64 (d.file.hd.K:Int),.int .i64 (d.file.hd.L:Int)] 71)=w5 at *
  obtain ⟨g4,hg4⟩:∃ g,g=w4.heap.size:=⟨_,rfl⟩
  rw[← hg4] at C5 hg34 ⊢
  clear hg4
  have x0:=C5.out 0 _ rfl
  have x1:=C5.out 1 _ rfl
  have x2:=C5.out 2 _ rfl
  have x3:=C5.out 3 _ rfl
  have x4:=C5.out 4 _ rfl
  have hne:g4≠g3:=by omega
  have hne':g3≠g4:=by omega
  have YY:Hid (∀ j,j<11→(∃ OV,w5.cell? ⟨g3,j,none⟩=some OV)):=S5.out.cell
  have zz:∀ j,w5.frozen? ⟨g3,j,none⟩=false:=S5.out.2.2.2.fz
  obtain ⟨V3,y3⟩:=YY.out 3 (by omega)
  obtain ⟨V4,y4⟩:=YY.out 4 (by omega)
  obtain ⟨V5,y5⟩:=YY.out 5 (by omega)
  obtain ⟨V6,y6⟩:=YY.out 6 (by omega)
  obtain ⟨V7,y7⟩:=YY.out 7 (by omega)
  have S6:Hid (SnL (((((L3.set 3 (.int .i64 (d.file.hd.W:Int))).set 4 (.int .i64 (d.file.hd.H:Int))).set 5 (.int .i64 (d.file.hd.K:Int))).set 6 (.int .i64 (d.file.hd.D:Int))).set 7 (.int .i64 (d.file.hd.L:Int))) w1 g3 (((((w5.setCell ⟨g3,3,none⟩ (.int .i64 (d.file.hd.W:Int))).setCell ⟨g3,4,none⟩ (.int .i64 (d.file.hd.H:Int))).setCell ⟨g3,5,none⟩ (.int .i64 (d.file.hd.K:Int))).setCell ⟨g3,6,none⟩ (.int .i64 (d.file.hd.D:Int))).setCell ⟨g3,7,none⟩ (.int .i64 (d.file.hd.L:Int)))):=((((S5.out.set hgle (by omega) _ rfl).set hgle (by omega) _ rfl).set hgle (by omega) _ rfl).set hgle (by omega) _ rfl).set hgle (by omega) _ rfl
  obtain ⟨L6,hL6⟩:∃ L6,L6=((((L3.set 3 (.int .i64 (d.file.hd.W:Int))).set 4 (.int .i64 (d.file.hd.H:Int))).set 5 (.int .i64 (d.file.hd.K:Int))).set 6 (.int .i64 (d.file.hd.D:Int))).set 7 (.int .i64 (d.file.hd.L:Int)):=⟨_,rfl⟩
  rw[← hL6] at S6
  replace hL6:Hid _:=hL6
  go_wp2_with fail
  generalize ((((w5.setCell ⟨g3,3,none⟩ (.int .i64 (d.file.hd.W:Int))).setCell ⟨g3,4,none⟩ (.int .i64 (d.file.hd.H:Int))).setCell ⟨g3,5,none⟩ (.int .i64 (d.file.hd.K:Int))).setCell ⟨g3,6,none⟩ (.int .i64 (d.file.hd.D:Int))).setCell ⟨g3,7,none⟩ (.int .i64 (d.file.hd.L:Int))=w6 at *
  clear x0 x1 x2 x3 x4 y3 y4 y5 y6 y7 YY zz S5 C5 hW0
  have K6:Hid (Kept w1 w6):=S6.out.2.2.1
  refine (rdKnown_x b 0 n c d.file w6 (BW.out w6 K6.out) HV.out.file (by omega) HP.out.W1 HP.out.W2 HP.out.H1 HP.out.H2).mono ?_
  rintro e w7 ⟨⟨gk,rfl,hgk1,hgk2,hgk3⟩,hk7⟩
  have S7:Hid (SnL L6 w1 g3 w7):=S6.out.on hk7
  have hgkg:g3<gk:=Nat.lt_of_lt_of_le S6.out.2.2.2.lt hgk1
  have hww:w.heap.size≤w6.heap.size:=Nat.le_trans K0.out.size K6.out.size
  have N7:Hid (NumC w7 w.heap.size gk (d.file.hd.W*d.file.hd.H) (knP d.file.rw d.file.hd)):=⟨Nat.le_trans hww hgk1,hgk2,hgk3⟩
  have N8:Hid (∀ v,NumC (w7.setCell ⟨g3,8,none⟩ v) w.heap.size gk (d.file.hd.W*d.file.hd.H) (knP d.file.rw d.file.hd)):=fun v=>N7.out.fr (S:=fun j=>j=g3) (Fr1.set (Fr.refl _ _) _ _) (by omega)
  obtain ⟨V8,y8⟩:∃ OV,w7.cell? ⟨g3,8,none⟩=some OV:=S7.out.cell 8 (by omega)
  have z8:∀ j,w7.frozen? ⟨g3,j,none⟩=false:=S7.out.2.2.2.fz
  have S8:Hid (SnL (L6.set 8 (.slice (some ⟨gk,0,none⟩) (d.file.hd.W*d.file.hd.H) (d.file.hd.W*d.file.hd.H))) w1 g3 (w7.setCell ⟨g3,8,none⟩ (.slice (some ⟨gk,0,none⟩) (d.file.hd.W*d.file.hd.H) (d.file.hd.W*d.file.hd.H)))):=S7.out.set hgle (by omega) _ rfl
  obtain ⟨N,hN⟩:∃ N,N=d.file.hd.W*d.file.hd.H:=⟨_,rfl⟩
  rw[← hN] at S8 N8 ⊢
  have N8b:Hid _:=N8.out (.slice (some ⟨gk,0,none⟩) N N)
  clear N7 N8 hww
  obtain ⟨L8,hL8⟩:∃ L8,L8=L6.set 8 (.slice (some ⟨gk,0,none⟩) N N):=⟨_,rfl⟩
  rw[← hL8] at S8
  replace hL8:Hid _:=hL8
  replace hN:Hid _:=hN
  clear hgk1 hgk2 hgk3 hk7 S6 K6
  go_wp2_with fail
  generalize w7.setCell ⟨g3,8,none⟩ (.slice (some ⟨gk,0,none⟩) N N)=w8 at *
  clear y8 z8 S7
  have K8:Hid (Kept w1 w8):=S8.out.2.2.1
  refine (rdPix_x b 0 n c d.file w8 (BW.out w8 K8.out) HV.out.file (by omega) HP.out HPl.out).mono ?_
  rintro e w9 ⟨gp,rfl,hp1,hp2,hp3,hk9⟩
  have S9:Hid (SnL L8 w1 g3 w9):=S8.out.on hk9
  have hgpg:g3<gp:=Nat.lt_of_lt_of_le S8.out.2.2.2.lt hp1
  have hww:w.heap.size≤w8.heap.size:=Nat.le_trans K0.out.size K8.out.size
  have N9:Hid (NumC w9 w.heap.size gp (4*(d.file.hd.W*d.file.hd.H)) (fun j=>pxP d.file.rw d.file.tl d.file.hd (j / 4 % d.file.hd.W) (j / 4 / d.file.hd.W) (j % 4))):=⟨Nat.le_trans hww hp1,hp2,hp3⟩
  rw[← hN.out] at N9 ⊢
  obtain ⟨M,hM⟩:∃ M,M=4*N:=⟨_,rfl⟩
  rw[← hM] at N9 ⊢
  replace hM:Hid _:=hM
  have N10a:Hid (∀ v,NumC (w9.setCell ⟨g3,9,none⟩ v) w.heap.size gk N (knP d.file.rw d.file.hd)):=fun v=>NumC.fr (NumC.kept N8b.out hk9) (S:=fun j=>j=g3) (Fr1.set (Fr.refl _ _) _ _) (by omega)
  have N10b:Hid (∀ v,NumC (w9.setCell ⟨g3,9,none⟩ v) w.heap.size gp M (fun j=>pxP d.file.rw d.file.tl d.file.hd (j / 4 % d.file.hd.W) (j / 4 / d.file.hd.W) (j % 4))):=fun v=>N9.out.fr (S:=fun j=>j=g3) (Fr1.set (Fr.refl _ _) _ _) (by omega)
  replace N10a:Hid _:=N10a.out (.slice (some ⟨gp,0,none⟩) M M)
  replace N10b:Hid _:=N10b.out (.slice (some ⟨gp,0,none⟩) M M)
  clear hp1 hp2 hp3 N9 N8b hww
  obtain ⟨V9,y9⟩:∃ OV,w9.cell? ⟨g3,9,none⟩=some OV:=S9.out.cell 9 (by omega)
  have z9:∀ j,w9.frozen? ⟨g3,j,none⟩=false:=S9.out.2.2.2.fz
  have S10:Hid (SnL (L8.set 9 (.slice (some ⟨gp,0,none⟩) M M)) w1 g3 (w9.setCell ⟨g3,9,none⟩ (.slice (some ⟨gp,0,none⟩) M M))):=S9.out.set hgle (by omega) _ rfl
  obtain ⟨L10,hL10⟩:∃ L10,L10=L8.set 9 (.slice (some ⟨gp,0,none⟩) M M):=⟨_,rfl⟩
  rw[← hL10] at S10
  replace hL10:Hid _:=hL10
  clear hk9 S8 K8
  go_wp2_with fail
  generalize w9.setCell ⟨g3,9,none⟩ (.slice (some ⟨gp,0,none⟩) M M)=w10 at *
  clear y9 z9 S9
  have K10:Hid (Kept w1 w10):=S10.out.2.2.1
  refine (rdShow_x b 0 n c d.file w10 (BW.out w10 K10.out) HV.out.file (by omega) HP.out HPl.out (GW.out w10 K10.out)).mono ?_
  rintro e w11 ⟨gs,rfl,hp1,hp2,hp3,hk11⟩
  have S11:Hid (SnL L10 w1 g3 w11):=S10.out.on hk11
  have hgsg:g3<gs:=Nat.lt_of_lt_of_le S10.out.2.2.2.lt hp1
  have hww:w.heap.size≤w10.heap.size:=Nat.le_trans K0.out.size K10.out.size
  have N11:Hid (NumC w11 w.heap.size gs (4*(d.file.hd.W*d.file.hd.H)) (fun j=>shP d.file.rw d.file.tl d.file.hd (j / 4 % d.file.hd.W) (j / 4 / d.file.hd.W) (j % 4))):=⟨Nat.le_trans hww hp1,hp2,hp3⟩
  rw[← hN.out,← hM.out] at N11 ⊢
  have N12a:Hid (∀ v,NumC (w11.setCell ⟨g3,10,none⟩ v) w.heap.size gk N (knP d.file.rw d.file.hd)):=fun v=>NumC.fr (NumC.kept N10a.out hk11) (S:=fun j=>j=g3) (Fr1.set (Fr.refl _ _) _ _) (by omega)
  have N12b:Hid (∀ v,NumC (w11.setCell ⟨g3,10,none⟩ v) w.heap.size gp M (fun j=>pxP d.file.rw d.file.tl d.file.hd (j / 4 % d.file.hd.W) (j / 4 / d.file.hd.W) (j % 4))):=fun v=>NumC.fr (NumC.kept N10b.out hk11) (S:=fun j=>j=g3) (Fr1.set (Fr.refl _ _) _ _) (by omega)
  have N12c:Hid (∀ v,NumC (w11.setCell ⟨g3,10,none⟩ v) w.heap.size gs M (fun j=>shP d.file.rw d.file.tl d.file.hd (j / 4 % d.file.hd.W) (j / 4 / d.file.hd.W) (j % 4))):=fun v=>N11.out.fr (S:=fun j=>j=g3) (Fr1.set (Fr.refl _ _) _ _) (by omega)
  replace N12a:Hid _:=N12a.out (.slice (some ⟨gs,0,none⟩) M M)
  replace N12b:Hid _:=N12b.out (.slice (some ⟨gs,0,none⟩) M M)
  replace N12c:Hid _:=N12c.out (.slice (some ⟨gs,0,none⟩) M M)
  clear hp1 hp2 hp3 N11 N10a N10b hww
  obtain ⟨V10,y10⟩:∃ OV,w11.cell? ⟨g3,10,none⟩=some OV:=S11.out.cell 10 (by omega)
  have z10:∀ j,w11.frozen? ⟨g3,j,none⟩=false:=S11.out.2.2.2.fz
  have S12:Hid (SnL (L10.set 10 (.slice (some ⟨gs,0,none⟩) M M)) w1 g3 (w11.setCell ⟨g3,10,none⟩ (.slice (some ⟨gs,0,none⟩) M M))):=S11.out.set hgle (by omega) _ rfl
  clear hk11 S10 K10
  go_upto_region 16 with fail
  generalize w11.setCell ⟨g3,10,none⟩ (.slice (some ⟨gs,0,none⟩) M M)=w12 at *
  clear y10 z10 S11
  obtain ⟨hcl,hone,K12,B12⟩:=S12.out
  obtain ⟨cs,hcs⟩:∃ cs,cs=L10.set 10 (.slice (some ⟨gs,0,none⟩) M M):=⟨_,rfl⟩
  rw[← hcs] at hcl hone B12
  have hcr:Hid (w12.rangeAt g3 0 cs):=by
   show w12.rangeAt g3 0 cs
   have:=B12.range (k:=0) (m:=11) (by omega)
   have e:(List.range 11).map (fun j=>(fun i=>cs.getD i undef) (0+j))=cs:=by
    apply List.ext_getElem?
    intro j
    by_cases q:j<11
    ·rw[range_get _ 11 j q,Nat.zero_add]
     show some (cs.getD j undef)=_
     rw[List.getD_eq_getElem?_getD,List.getElem?_eq_getElem (by omega)];rfl
    ·rw[List.getElem?_eq_none (by rw[List.length_map,List.length_range];omega),List.getElem?_eq_none (by omega)]
   rw[e] at this
   exact this
  have hi:Hid ((Tryz.prog.info? 50).map (·.size)=some cs.length):=by show _=_;rw[hcl];exact info11
  have BR:Blk w12 w.heap.size 11 _:=B0.out.kept K12
  have ht:Hid (w12.there w.heap.size 0 cs.length):=by show w12.there _ 0 cs.length;rw[hcl];exact BR.there (by omega)
  have hsc5:(storeCells ⟨w.heap.size,0,none⟩ cs).run Tryz.prog w12 = .ok () (w12.setCells w.heap.size 0 cs):=store_all ht.out hone
  have hld:Hid ((loadVar 50 ⟨w.heap.size,0,none⟩).run Tryz.prog (w12.setCells w.heap.size 0 cs) = .ok (.agg cs.toArray) (w12.setCells w.heap.size 0 cs)) :=
   run_loadVar_mid _ _ _ _ cs _ (World.rangeAt_setCells_same _ _ _ _ ht.out) Tryz.underlying50 rfl hi.out
  have F13:Hid (Fr1 w.heap.size w12 (w12.setCells w.heap.size 0 cs)):=Fr1.sets _ _ (Fr.refl _ _)
  have K13:Hid (Kept w (w12.setCells w.heap.size 0 cs)):=Fr.to_kept (S:=fun j=>j=w.heap.size) (K0.out.trans K12) F13.out (fun i hi e=>by omega)
  replace hcs:Hid _:=hcs
  replace hcl:Hid _:=hcl
  replace hone:Hid _:=hone
  clear B12 BR
  clear K12
  go_step
  refine wpList_load_mid rfl 50 _ rfl g3 0 rfl cs _ hcr.out Tryz.underlying50 rfl hi.out ?_
  go_wp2
  refine bodyPost_ret (v := .agg cs.toArray) (results_cell1 rfl _ _ _ _ _ rfl hld.out) rfl ⟨K13.out,Or.inr ⟨by have:=HP.out.W1;omega,gk,gp,gs,?_,?_,?_,?_⟩⟩
  ·rw[hcs.out,hL10.out,hL8.out,hL6.out,hL3.out,hM.out,hN.out];rfl
  ·rw[← hN.out];exact NumC.fr N12a.out (S:=fun j=>j=w.heap.size) F13.out (by have:=N12a.out.1;have:=hgle;have:=K0.out.size;omega)
  ·rw[← hN.out,← hM.out];exact NumC.fr N12b.out (S:=fun j=>j=w.heap.size) F13.out (by have:=hgle;have:=K0.out.size;omega)
  ·rw[← hN.out,← hM.out];exact NumC.fr N12c.out (S:=fun j=>j=w.heap.size) F13.out (by have:=hgle;have:=K0.out.size;omega)
structure DI (w W:World) (g:Nat) (d:Dc):Prop where
 kept:Kept w W
 pos:0<w.heap.size
 lo:w.heap.size≤g
 ex:∃ c,Blk W g 5957 c∧DcV c 0 d
theorem DI.step {w W W':World} {g:Nat} {d d':Dc} (h:DI w W g d) (k:DcStep g 5957 d' W W'):DI w W' g d':=by
 obtain ⟨e,b,v,f⟩:=k
 have h1:=h.lo
 exact ⟨Fr.to_kept h.kept f (fun i hi q=>by omega),h.pos,h.lo,e,b,v⟩
theorem newDI {w W:World} (h:Kept w W) (h0:0<w.heap.size):Calls Tryz.prog 21 #[] W fun e W'=>∃ g,e = .returned (.pointer (some ⟨g,0,none⟩))∧DI w W' g dc0:=by
 refine (new_x W).mono ?_
 rintro e W' ⟨rfl,c,b,v,k⟩
 exact ⟨_,rfl,h.trans k,h0,h.size,c,b,v⟩
theorem feedDI {w W:World} {g:Nat} {d:Dc} (t:ByteArray) (h:DI w W g d) (hk:FeedOk d (bsOf t)) (hs:t.size≤2147483648) (hG:GrdAt w) :
  Calls Tryz.prog 22 #[.pointer (some ⟨g,0,none⟩),.string t] W fun e W'=>e = .returned (.tuple #[.int .i64 ((d.feed (bsOf t)).err:Int),.int .i64 ((d.feed (bsOf t)).at1:Int)])∧DI w W' g (d.feed (bsOf t)):=by
 obtain ⟨c,b,v⟩:=h.ex
 have h0:=h.pos
 have h1:=h.lo
 refine (feed_x g 5957 t c d W b v (Nat.le_refl _) hk hs (hG.kept h.kept) (by omega)).mono ?_
 rintro e W' ⟨rfl,k⟩
 exact ⟨rfl,h.step k⟩
structure ShowOk (s:Rd):Prop where
 hd:RdHd s
 clear:∀ j,s.tl.clear j<256
 sm:SmI s
def snN:Array Value:=#[.int .i64 0,.int .i64 0,.bool false,.int .i64 0,.int .i64 0,.int .i64 0,.int .i64 0,.int .i64 0,.slice none 0 0,.slice none 0 0,.slice none 0 0]
theorem snap_lay (W:World) (cs:List Value) (hl:cs.length=11) (ho:∀ v ∈ cs,v.oneCell'=true) :
  (storeCells ⟨W.heap.size,0,none⟩ cs).run Tryz.prog (W.alloc (Obj.cells snN 50)) = .ok () ((W.alloc (Obj.cells snN 50)).setCells W.heap.size 0 cs)∧((W.alloc (Obj.cells snN 50)).setCells W.heap.size 0 cs).rangeAt W.heap.size 0 cs∧Kept W ((W.alloc (Obj.cells snN 50)).setCells W.heap.size 0 cs):=by
 have B:Blk (W.alloc (Obj.cells snN 50)) W.heap.size 11 (fun i=>snN.getD i undef):=Blk.new W snN _ 11 rfl
 have T:(W.alloc (Obj.cells snN 50)).there W.heap.size 0 cs.length:=by rw[hl];exact B.there (by omega)
 exact ⟨store_all T ho,World.rangeAt_setCells_same _ _ _ _ T,Kept.setCells (Nat.le_refl _) _ _ ((Below.refl _ _).alloc (Nat.le_refl _) _)⟩
theorem sh_grid:∀ x,x<16→∀ y,y<16→∃ k,k<7∧orgP (psOf 1 k).cf (psOf 1 k).cs (psOf 1 k).cb x=(x,true)∧orgP (psOf 1 k).rf (psOf 1 k).rs (psOf 1 k).rb y=(y,true)∧∀ j,j<7→k<j→((orgP (psOf 1 j).cf (psOf 1 j).cs (psOf 1 j).cb x).2 && (orgP (psOf 1 j).rf (psOf 1 j).rs (psOf 1 j).rb y).2)=false:=by decide +kernel
theorem shGo_down {r:Rw} {t:Tl} {h:Hd} {x y k:Nat}:∀ n,k<n→(∀ j,j<n→k<j→((orgP (psOf h.L j).cf (psOf h.L j).cs (psOf h.L j).cb x).2 && (orgP (psOf h.L j).rf (psOf h.L j).rs (psOf h.L j).rb y).2)=false)→shGo r t h x y n=shGo r t h x y (k+1)
 | 0,h0,_=>by omega
 | n+1,h0,hf=>by
  by_cases e:n=k
  ·rw[e]
  ·rw[shGo_no (a:=(orgP (psOf h.L n).cf (psOf h.L n).cs (psOf h.L n).cb x).1) (b:=(orgP (psOf h.L n).rf (psOf h.L n).rs (psOf h.L n).rb y).1) (A:=(orgP (psOf h.L n).cf (psOf h.L n).cs (psOf h.L n).cb x).2) (B:=(orgP (psOf h.L n).rf (psOf h.L n).rs (psOf h.L n).rb y).2) rfl rfl (by rw[hf n (by omega) (by omega)];rfl)]
   exact shGo_down n (by omega) (fun j h1 h2=>hf j (by omega) h2)
theorem sh_px {r:Rw} {t:Tl} {h:Hd} {x y:Nat} (hL:h.L≤1) (hx:x<16) (hy:y<16) (kn:r.known (y*16+x)=true):shP r t h x y=pxP r t h x y:=by
 unfold shP
 by_cases e:h.L=1
 ·obtain ⟨k,h1,h2,h3,h4⟩:=sh_grid x hx y hy
  rw[← e] at h2 h3 h4
  have ec:cntP h.L=7:=by unfold cntP;rw[if_pos e]
  rw[ec,shGo_down 7 h1 h4,shGo_yes h2 h3 kn]
 ·have ec:cntP h.L=1:=by unfold cntP;rw[if_neg e]
  have ep:psOf h.L 0=⟨0,1,1,0,1,1⟩:=by unfold psOf;rw[if_neg (fun q=>e q.1)]
  have eo:∀ p,orgP 0 1 1 p=(p,true):=fun p=>by unfold orgP;rw[if_neg (by omega),Nat.mod_one];rfl
  rw[ec]
  exact shGo_yes (by rw[ep];exact eo x) (by rw[ep];exact eo y) kn
def PalI (s:Rd):Prop:=∀ j,s.tl.pal j<256
theorem PalI.note {s:Rd} (h:PalI s):PalI s.note:=by
 have h1:PalI s.note1:=by
  unfold Rd.note1
  split
  ·exact h
  ·split
   ·exact h
   ·split
    ·unfold Rd.begin
     split
     ·exact h
     ·exact h
    ·exact h
 show PalI s.note1.note2
 unfold Rd.note2
 split
 ·exact h1
 ·exact h1
theorem PalI.accept {s:Rd} (h:PalI s):PalI s.accept.1:=by
 unfold PalI
 rw[(accept_tl s).1];exact h
theorem PalI.keep {s:Rd} {x:Nat} (h:PalI s) (hx:x<256):PalI (s.keep x).1:=by
 unfold Rd.keep
 split
 ·exact h
 ·split
  ·intro j
   show upd s.tl.pal s.taken x j<256
   by_cases e:j=s.taken
   ·rw[e,upd_same];exact hx
   ·rw[upd_ne _ _ _ e];exact h j
  ·split
   ·exact h
   ·split
    ·unfold Rd.takeStream
     split
     ·exact h
     ·split
      ·exact h
      ·exact h
    ·exact h
theorem PalI.take {s:Rd} {x:Nat} (h:PalI s) (hx:x<256):PalI (s.take x).1:=by
 unfold Rd.take
 split
 ·unfold Rd.takeSign
  split
  ·exact h
  ·split
   ·exact h
   ·exact h
 ·split
  ·unfold Rd.takeLength
   split
   ·exact h
   ·split
    ·exact h
    ·exact h
  ·split
   ·unfold Rd.takeType
    have ht:PalI (s.typed x):=h
    split
    ·exact h
    ·split
     ·exact ht
     ·split
      ·exact ht.note
      ·exact ht.note
   ·split
    ·have hk:=PalI.keep (s:=s.summed x) (x:=x) h hx
     unfold Rd.takeData
     split
     ·exact hk
     ·show PalI ((s.summed x).keep x).1.dataEnd
      unfold Rd.dataEnd
      split
      ·exact hk
      ·exact hk
    ·split
     ·unfold Rd.takeSum
      have ha:PalI (s.num x).accept.1:=PalI.accept (s:=s.num x) h
      split
      ·exact h
      ·split
       ·exact h
       ·split
        ·exact ha
        ·split
         ·exact ha
         ·exact ha
     ·exact h
theorem Rn.palI:∀ {l:List Nat} {s b:Rd},Rn s l b→(∀ x ∈ l,x<256)→PalI s→PalI b
 | [],s,b,h,_,k=>by cases h;exact k
 | x::l,s,b,h,hb,k=>Rn.palI h.2.2 (fun y hy=>hb y (by simp [hy])) (k.take (hb x (by simp)))
theorem palI0:PalI rd0:=fun _=>by show 0<256;omega
structure SeenF (W H D K L:Nat) (pal clr pix:List Int) (b:Rd):Prop where
 part:b.part=5
 hd:b.hd=⟨W,H,D,K,L⟩
 show':ShowOk b
 palI:PalI b
 tab:TabO K pal clr b.tl
 seen:SeenP ⟨W,H,D,K,L⟩ pix b.rw
theorem snapFI {w W:World} {g:Nat} {d:Dc} (h:DI w W g d) (hs:ShowOk d.file) (hpal:PalI d.file) (hG:GrdAt w) :
  Calls Tryz.prog 24 #[.pointer (some ⟨g,0,none⟩)] W fun e W'=>SnX W d e W':=by
 obtain ⟨c,B,v⟩:=h.ex
 refine snap_f g 5957 c d W B v (Nat.le_refl _) ?_ hpal (hG.kept h.kept)
 by_cases q:d.file.hd.W=0
 ·exact Or.inl q
 ·refine Or.inr ⟨v.file.rw,v.file.tl,by omega,by omega,hs.clear,hs.sm.1,hs.hd.K,by omega,hs.hd.W,?_,hs.hd.H,hs.hd.L⟩
  rcases hs.sm.2 with e | e
  ·exact absurd e q
  ·exact e
theorem seen_whole (x wd H K D L P V Z A gk gp gs lo:Nat) (pp qp xp fp kp cp:Option Addr) (pc qc xc fc kc cc:Nat) (pal clr pix fl kl cl:List Int) (b:Rd) (w:World) (h:Dk w x wd H K D L P V Z pp qp xp fp kp cp pc qc xc fc kc cc pal clr pix fl kl cl) (hb:SeenF wd H D K L pal clr pix b) (nk:NumC w lo gk (wd*H) (knP b.rw ⟨wd,H,D,K,L⟩)) (np:NumC w lo gp (4*(wd*H)) (fun j=>pxP b.rw b.tl ⟨wd,H,D,K,L⟩ (j / 4 % wd) (j / 4 / wd) (j % 4))) (ns:NumC w lo gs (4*(wd*H)) (fun j=>shP b.rw b.tl ⟨wd,H,D,K,L⟩ (j / 4 % wd) (j / 4 / wd) (j % 4))) :
  Calls Tryz.prog 25 #[.pointer (some ⟨x,0,none⟩),.agg #[.int .i64 0,.int .i64 (A:Int),.bool true,.int .i64 (wd:Int),.int .i64 (H:Int),.int .i64 (K:Int),.int .i64 (D:Int),.int .i64 (L:Int),.slice (some ⟨gk,0,none⟩) (wd*H) (wd*H),.slice (some ⟨gp,0,none⟩) (4*(wd*H)) (4*(wd*H)),.slice (some ⟨gs,0,none⟩) (4*(wd*H)) (4*(wd*H))]] w fun r w'=>r = .returned (.bool true)∧Kept w w':=by
 have ok:=h.im
 have hL:=h.ch.l
 have hin:∀ k,k<wd*H→k % wd<wd∧k / wd<H∧k / wd*wd+k % wd=k:=fun k hk=>⟨Nat.mod_lt _ ok.w1,Nat.div_lt_of_lt_mul hk,by rw[Nat.mul_comm];exact Nat.div_add_mod k wd⟩
 have hw:=ok.w2
 have hh:=ok.h2
 refine dwhole_x x wd H K D L P V Z A (wd*H) (4*(wd*H)) gk gp gs _ _ _ pp qp xp fp kp cp pc qc xc fc kc cc pal clr pix fl kl cl b.tl (fun k=>pxP b.rw b.tl ⟨wd,H,D,K,L⟩ (k % wd) (k / wd)) w h hb.tab rfl rfl (fun k hk => ?_) (fun j hj => ?_) np.2.2 (fun j hj => ?_)
 ·obtain ⟨a1,a2,a3⟩:=hin k hk
  have kn:=hb.seen.2 (k % wd) (k / wd) a1 a2
  obtain ⟨_,_,sm⟩:=hb.seen.1 (k % wd) (k / wd) (by omega) (by omega) kn
  refine ⟨_,_,_,_,fun c hc => ?_,by unfold pxP;rw[if_pos kn]⟩
  have hc4:=chan_le (K:=K)
  have e:=sm c hc
  replace e:b.rw.smp (4*(k / wd*16+k % wd)+c)=(pix.getD ((k / wd*wd+k % wd)*chan K+c) 0).toNat:=e
  rw[a3] at e
  have hlen:k*chan K+c<pix.length:=by
   rw[ok.pixL]
   have:(k+1)*chan K≤wd*H*chan K:=Nat.mul_le_mul_right _ hk
   rw[Nat.add_mul,Nat.one_mul] at this
   omega
  have hp:=pix_lt ok _ (getD_mem hlen)
  have e2:(b.rw.smp (4*(k / wd*16+k % wd)+c):Int)=pix.getD (k*chan K+c) 0:=by rw[e];omega
  rw[← e2]
  match c,(show c<4 by omega) with
  | 0,_=>rfl
  | 1,_=>rfl
  | 2,_=>rfl
  | 3,_=>rfl
 ·obtain ⟨a1,a2,a3⟩:=hin j hj
  have kn:=hb.seen.2 (j % wd) (j / wd) a1 a2
  rw[nk.2.2 j hj]
  show some (Value.int .i64 (if b.rw.known (j / wd*16+j % wd)=true then 1 else 0))=_
  rw[if_pos kn]
 ·obtain ⟨a1,a2,a3⟩:=hin (j / 4) (by omega)
  have kn:=hb.seen.2 (j / 4 % wd) (j / 4 / wd) a1 a2
  rw[ns.2.2 j hj]
  show some (Value.int .i64 (shP b.rw b.tl ⟨wd,H,D,K,L⟩ (j / 4 % wd) (j / 4 / wd) (j % 4)))=_
  rw[sh_px hL (by omega) (by omega) kn]
theorem pcs_of {W H D K L P V:Nat} {pal clr pix fl kl cl:List Int} {s:ByteArray} (h:FileT W H D K L P V pal clr pix fl kl s) (ok:OkIm W H K D pal clr pix) (hc:OkCh L P V fl kl cl):∃ l0 PL r',bsOf s=headN W H D K L pal clr++(idatsN (l0::PL)++chN iend [])∧Pcs W H D K L pal clr pix l0 PL r'∧SeenP ⟨W,H,D,K,L⟩ pix r':=by
 obtain ⟨PL,rfl,fo⟩:=h
 rw[bsOf_strx (fileX_ok ok hc.l fo.byte)]
 have hL:=hc.l
 have hAb:=allB_bytes (h:=⟨W,H,D,K,L⟩) (pl:=pix) (Or.inr trivial) hc.fb (cntP L)
 have hPL:=fo.ne
 have hPb:=fo.byte
 have hPl:=fo.len
 have hz:=fo.str
 have e:=env_x ok hL hc.fb
 obtain ⟨r',g1,g2⟩:=rows_run e
 obtain ⟨A,hA⟩:∃ A,A=allB ⟨W,H,D,K,L⟩ pix fl (cntP L):=⟨_,rfl⟩
 have hnl:=allX_nl ⟨W,H,D,K,L⟩ pix fl ok.lg (cntP L)
 rw[← hA] at hAb hz hnl
 have hsm:A.length≤2078:=by rw[hA];exact all_small (h:=⟨W,H,D,K,L⟩) ok.lg ok.w2 ok.h2 hL pix fl (cntP L) (Nat.le_refl _)
 have hcn:=(cnt7 hL).1
 have hA0:A≠[]:=by
  intro q
  have:=all_pos (h:=⟨W,H,D,K,L⟩) pix fl ok.w1 ok.h1 (cntP L - 1)
  rw[show cntP L - 1+1=cntP L from by omega,← hA,q] at this
  exact absurd this (by decide)
 have hd:=blL_data (P:=P) (kl:=kl) hc.p1 A.length 0 A (Nat.le_refl _)
 obtain ⟨l,T,rfl⟩:∃ l T,PL=l::T:=by
  cases PL with
  | nil=>exact absurd rfl hPL
  | cons a b=>exact ⟨a,b,rfl⟩
 have hflat:(nl l::T.map nl).flatten=nl (l::T).flatten:=by
  have:∀ T:List (List Int),(T.map nl).flatten=nl T.flatten:=fun T=>by
   induction T with
   | nil=>rfl
   | cons a b ih=>rw[List.map_cons,List.flatten_cons,ih,List.flatten_cons,nl_app]
  exact this (l::T)
 have hg:RwGood r':=g2.good
 have hV:=hc.v
 obtain ⟨st',br,p10⟩:=stream_run (V:=V) (L:=blL P kl A.length 0 A) (r:=Rw.start ⟨W,H,D,K,L⟩ (colN K pal)) (r':=r') (by omega) (blL_ne _ _ _ hA0 (Nat.le_refl _)) (blL_ok hc.p1 _ _ _ hAb) (by rw[hd,nl_len];exact hsm) (by rw[hd,hnl];exact g1) hg
 refine ⟨nl l,T.map nl,r',by rw[fileX_nl];rfl,⟨ok,hL,fun m hm => ?_,st',⟨by rw[hflat,hz];exact br,fun _=>g2.whole⟩,p10⟩,rows_seen ok hL hc.fb g1⟩
 have hm':m ∈ (l::T).map nl:=hm
 obtain ⟨y,hy,rfl⟩:=List.mem_map.1 hm'
 have hsub:∀ x ∈ y,x ∈ (l::T).flatten:=fun x hx=>List.mem_flatten.2 ⟨y,hy,hx⟩
 refine ⟨fun x hx => ?_,?_⟩
 ·obtain ⟨z,hz,rfl⟩:=List.mem_map.1 (show x ∈ y.map Int.toNat from hx)
  have:=hPb z (hsub z hz)
  omega
 ·rw[nl_len]
  have:=List.Sublist.length_le (List.sublist_flatten_of_mem hy)
  omega
def flC (L:List (Nat × List Nat)):List Nat:=L.flatMap (fun c=>chN c.1 c.2)
theorem flC_app (A B:List (Nat × List Nat)):flC (A++B)=flC A++flC B:=List.flatMap_append
def palC (pal:List Int):List (Nat × List Nat):=if pal.length=0 then [] else [(plte,nl pal)]
def clrC (K:Nat) (clr:List Int):List (Nat × List Nat):=if clr.length=0 then [] else [(trns,nl (if (K:Int)=3 then clr else twoB clr))]
theorem palC_fl (pal:List Int):flC (palC pal)=nl (palB pal):=by
 unfold palC palB
 split
 ·rfl
 ·rw[nl_ch];unfold flC;rw[List.flatMap_cons];exact List.append_nil _
theorem clrC_fl (K:Nat) (clr:List Int):flC (clrC K clr)=nl (clrB K clr):=by
 unfold clrC clrB
 split
 ·rfl
 ·rw[nl_ch];unfold flC;rw[List.flatMap_cons];exact List.append_nil _
theorem palC_ty {pal:List Int}:∀ c ∈ palC pal,c.1=plte:=by
 unfold palC
 split
 ·intro c hc;cases hc
 ·intro c hc;rw[List.mem_singleton] at hc;rw[hc]
theorem clrC_ty {K:Nat} {clr:List Int}:∀ c ∈ clrC K clr,c.1=trns:=by
 unfold clrC
 split
 ·intro c hc;cases hc
 ·intro c hc;rw[List.mem_singleton] at hc;rw[hc]
theorem palC_len (pal:List Int):(palC pal).length≤1:=by unfold palC;split<;>simp
theorem clrC_len (K:Nat) (clr:List Int):(clrC K clr).length≤1:=by unfold clrC;split<;>simp
def idC (PL:List (List Nat)):List (Nat × List Nat):=PL.map (fun m=>(idat,m))
theorem idC_fl (PL:List (List Nat)):flC (idC PL)=idatsN PL:=by
 unfold flC idC idatsN
 rw[List.flatMap_map]
def ckL (K:Nat) (pal clr:List Int) (PL:List (List Nat)):List (Nat × List Nat):=(palC pal++clrC K clr)++(idC PL++[(iend,[])])
theorem flC_iend:flC [(iend,[])]=chN iend []:=by unfold flC;rw[List.flatMap_cons];exact List.append_nil _
theorem head_ck (W H D K L:Nat) (pal clr:List Int):headN W H D K L pal clr=sgN W H D K L++flC (palC pal++clrC K clr):=by
 rw[flC_app,palC_fl,clrC_fl]
 unfold headN sgN
 rw[List.append_assoc]
theorem file_ck (W H D K L:Nat) (pal clr:List Int) (PL:List (List Nat)):headN W H D K L pal clr++(idatsN PL++chN iend [])=sgN W H D K L++flC (ckL K pal clr PL):=by
 unfold ckL
 rw[flC_app (palC pal++clrC K clr),flC_app (idC PL),idC_fl,flC_iend,head_ck,List.append_assoc]
theorem sgN_len (W H D K L:Nat):(sgN W H D K L).length=33:=by
 unfold sgN
 rw[List.length_append,chN_len]
 rfl
def InsBad (T:List Nat) (at0 n:Nat):Prop:=∃ x e p,(e=21∨e=4)∧at0+7≤p∧p<at0+n+20∧FeedOk dc0 T∧dc0.feed T=⟨x,p,e,p⟩
def InsGood (W H D K L:Nat) (pal clr pix:List Int) (T:List Nat):Prop:=∃ b,FeedOk dc0 T∧dc0.feed T=⟨b,T.length,0,0⟩∧SeenF W H D K L pal clr pix b
theorem ins_good {W H D K L:Nat} {pal clr pix:List Int} {T:List Nat} {r':Rw} (S:SeenP ⟨W,H,D,K,L⟩ pix r') (hT:T.length≤3000000000) (hb:∀ x ∈ T,x<256) (h:∃ s',Rn rd0 T s'∧s'.part=5∧s'.hd=⟨W,H,D,K,L⟩∧s'.rw=r'∧RdInv s'∧TabO K pal clr s'.tl):InsGood W H D K L pal clr pix T:=by
 obtain ⟨b,h1,h2,h3,h4,h5,h6⟩:=h
 refine ⟨b,Rn.ok (d:=dc0) h1 rfl (by show 0+T.length≤_;omega),?_,h2,h3,⟨h5.hd,h5.clear,h1.smI smI0⟩,h1.palI hb palI0,h6,by rw[h4];exact S⟩
 rw[Rn.feed (d:=dc0) h1 rfl]
 show (⟨b,0+T.length,0,0⟩:Dc)=_
 rw[Nat.zero_add]
theorem ins_any {W H K D L:Nat} {pal clr pix:List Int} {l l0:List Nat} {PL:List (List Nat)} {r':Rw} (P:Pcs W H D K L pal clr pix l0 PL r') (S:SeenP ⟨W,H,D,K,L⟩ pix r') (hl:l.length≤1000) (hb:∀ x ∈ l,x<256) (hF:(sgN W H D K L++flC (ckL K pal clr (l0::PL))).length≤1000000000) (hFb:∀ x ∈ sgN W H D K L++flC (ckL K pal clr (l0::PL)),x<256) (k:Nat) (hk:k<(ckL K pal clr (l0::PL)).length) (A B:List (Nat × List Nat)) (hA:A=(ckL K pal clr (l0::PL)).take k) (hB:B=(ckL K pal clr (l0::PL)).drop k) (T:List Nat) (hT:T=(sgN W H D K L++flC A)++(chN noNe l++flC B)) :
  (0<k∧((ckL K pal clr (l0::PL)).getD k (0,[])).1=idat∧((ckL K pal clr (l0::PL)).getD (k - 1) (0,[])).1=idat∧InsBad T (sgN W H D K L++flC A).length l.length)∨((k=0∨((ckL K pal clr (l0::PL)).getD k (0,[])).1≠idat∨((ckL K pal clr (l0::PL)).getD (k - 1) (0,[])).1≠idat)∧InsGood W H D K L pal clr pix T):=by
 obtain ⟨C,hC⟩:∃ C,C=ckL K pal clr (l0::PL):=⟨_,rfl⟩
 rw[← hC] at hA hB hF hFb hk ⊢
 have hAB:flC C=flC A++flC B:=by rw[← flC_app,hA,hB,List.take_append_drop]
 have hno:(chN noNe l).length=12+l.length:=chN_len _ _
 have hTl:T.length≤3000000000:=by
  rw[hAB] at hF
  rw[hT]
  simp only [List.length_append] at hF ⊢
  omega
 have hnb:∀ x ∈ chN noNe l,x<256:=by
  intro x hx
  unfold chN at hx
  simp only [List.mem_append] at hx
  rcases hx with q | q | q | q
  ·exact beN_lt _ x q
  ·exact beN_lt _ x q
  ·exact hb x q
  ·exact beN_lt _ x q
 have hTb:∀ x ∈ T,x<256:=by
  intro x hx
  rw[hT] at hx
  rw[hAB] at hFb
  simp only [List.mem_append] at hx hFb
  rcases hx with (q | q) | q | q
  ·exact hFb x (Or.inl q)
  ·exact hFb x (Or.inr (Or.inl q))
  ·exact hnb x q
  ·exact hFb x (Or.inr (Or.inr q))
 have l1:=palC_len pal
 have l2:=clrC_len K clr
 obtain ⟨pa,hpa⟩:∃ x,x=palC pal:=⟨_,rfl⟩
 obtain ⟨ca,hca⟩:∃ x,x=clrC K clr:=⟨_,rfl⟩
 have hC2:C=(pa++ca)++(idC (l0::PL)++[(iend,[])]):=by rw[hC,hpa,hca];rfl
 have e1:flC pa=nl (palB pal):=by rw[hpa];exact palC_fl _
 have e2:flC ca=nl (clrB K clr):=by rw[hca];exact clrC_fl _ _
 have t1:∀ c ∈ pa,c.1=plte:=by rw[hpa];exact palC_ty
 have t2:∀ c ∈ ca,c.1=trns:=by rw[hca];exact clrC_ty
 rw[← hpa] at l1
 rw[← hca] at l2
 have hil:(idC (l0::PL)).length=PL.length+1:=by unfold idC;rw[List.length_map];rfl
 have e3:flC (idC (l0::PL)++[(iend,[])])=idatsN (l0::PL)++chN iend []:=by rw[flC_app,idC_fl,flC_iend]
 have hCl:C.length=pa.length+ca.length+(PL.length+2):=by
  rw[hC2,List.length_append,List.length_append,List.length_append,hil];rfl
 by_cases hp:k≤pa.length+ca.length
 ·right
  refine ⟨?_,?_⟩
  ·by_cases h0:k=0
   ·exact Or.inl h0
   ·right;right
    have hlt:k - 1<(pa++ca).length:=by rw[List.length_append];omega
    have:C.getD (k - 1) (0,[]) ∈ pa++ca:=by
     rw[hC2,List.getD_eq_getElem?_getD,List.getElem?_append_left hlt,List.getElem?_eq_getElem hlt]
     exact List.getElem_mem hlt
    rcases List.mem_append.1 this with q | q
    ·rw[t1 _ q];decide
    ·rw[t2 _ q];decide
  ·refine ins_good S hTl hTb ?_
   have key:∀ A' B':List (Nat × List Nat),A=A'→B=B'++(idC (l0::PL)++[(iend,[])])→T=(sgN W H D K L++(flC A'++(chN noNe l++flC B')))++(idatsN (l0::PL)++chN iend []):=fun A' B' h1 h2=>by
    rw[hT,h1,h2,flC_app B',e3]
    simp only [List.append_assoc]
   have hd:∀ k0,k=k0→k0≤(pa++ca).length→A=(pa++ca).take k0∧B=(pa++ca).drop k0++(idC (l0::PL)++[(iend,[])]):=fun k0 e hle=>by
    rw[hA,hB,hC2,e,List.take_append_of_le_length hle,List.drop_append_of_le_length hle]
    exact ⟨rfl,rfl⟩
   rcases (show k=0∨k=pa.length∨k=pa.length+ca.length by omega) with h0 | h0 | h0
   ·obtain ⟨q1,q2⟩:=hd 0 h0 (Nat.zero_le _)
    rw[key [] (pa++ca) q1 q2]
    refine ins_pre (l:=l) P _ (head_ins P.ok P.hL hl hb _ (Or.inl ?_))
    rw[flC_app,e1,e2];rfl
   ·obtain ⟨q1,q2⟩:=hd pa.length h0 (by rw[List.length_append];omega)
    rw[List.take_left] at q1
    rw[List.drop_left] at q2
    rw[key pa ca q1 q2]
    refine ins_pre (l:=l) P _ (head_ins P.ok P.hL hl hb _ (Or.inr (Or.inl ?_)))
    rw[e1,e2]
   ·obtain ⟨q1,q2⟩:=hd (pa++ca).length (by rw[List.length_append];exact h0) (Nat.le_refl _)
    rw[List.take_length] at q1
    rw[List.drop_length] at q2
    rw[key (pa++ca) [] q1 q2]
    refine ins_pre (l:=l) P _ (head_ins P.ok P.hL hl hb _ (Or.inr (Or.inr ?_)))
    rw[flC_app,e1,e2]
    show _=_
    simp only [flC,List.flatMap_nil,List.append_nil,List.append_assoc]
 ·obtain ⟨j,hj⟩:∃ j,k=(pa++ca).length+j:=⟨k - (pa++ca).length,by rw[List.length_append];omega⟩
  have hpl:(pa++ca).length=pa.length+ca.length:=List.length_append
  have q1:A=(pa++ca)++(idC (l0::PL)++[(iend,[])]).take j:=by rw[hA,hC2,hj,List.take_length_add_append]
  have q2:B=(idC (l0::PL)++[(iend,[])]).drop j:=by rw[hB,hC2,hj,List.drop_length_add_append]
  have hh:sgN W H D K L++flC (pa++ca)=headN W H D K L pal clr:=by rw[head_ck,hpa,hca]
  have gk:∀ i,C.getD ((pa++ca).length+i) (0,[])=(idC (l0::PL)++[(iend,[])]).getD i (0,[]):=fun i=>by
   rw[hC2,List.getD_eq_getElem?_getD,List.getElem?_append_right (by omega),Nat.add_sub_cancel_left,← List.getD_eq_getElem?_getD]
  have gi:∀ i,i<PL.length+1→((idC (l0::PL)++[(iend,[])]).getD i (0,[])).1=idat:=fun i hi=>by
   have hlt:i<(idC (l0::PL)).length:=by omega
   rw[List.getD_eq_getElem?_getD,List.getElem?_append_left hlt,List.getElem?_eq_getElem hlt]
   have hm:=List.getElem_mem hlt
   obtain ⟨m,_,em⟩:=List.mem_map.1 hm
   show ((idC (l0::PL))[i]).1=idat
   rw[← em]
  by_cases hjm:j=PL.length+1
  ·right
   refine ⟨Or.inr (Or.inl ?_),?_⟩
   ·rw[hj,gk,hjm,← hil,List.getD_eq_getElem?_getD,List.getElem?_append_right (Nat.le_refl _),Nat.sub_self]
    show iend≠idat
    decide
   ·refine ins_good S hTl hTb ?_
    rw[hjm,← hil,List.take_left] at q1
    rw[hjm,← hil,List.drop_left] at q2
    have:T=headN W H D K L pal clr++(idatsN (l0::PL)++(chN noNe l++chN iend [])):=by
     rw[hT,q1,q2,flC_app,idC_fl,flC_iend,← hh]
     simp only [List.append_assoc]
    rw[this]
    exact ins_post P hl hb
  ·left
   have hj1:0<j:=by omega
   have hj2:j<PL.length+1:=by omega
   refine ⟨by omega,by rw[hj,gk];exact gi j hj2,by rw[show k - 1=(pa++ca).length+(j - 1) by omega,gk];exact gi (j - 1) (by omega),?_⟩
   obtain ⟨a,ha⟩:∃ a,a=PL.take (j - 1):=⟨_,rfl⟩
   obtain ⟨b0,b,hb0⟩:∃ b0 b,PL.drop (j - 1)=b0::b:=by
    cases e:PL.drop (j - 1) with
    | nil=>have:=congrArg List.length e;rw[List.length_drop] at this;simp at this;omega
    | cons x y=>exact ⟨x,y,rfl⟩
   have hPL:PL=a++b0::b:=by rw[ha,← hb0,List.take_append_drop]
   have hal:(idC (l0::a)).length=j:=by
    unfold idC;rw[List.length_map,List.length_cons,ha,List.length_take];omega
   have hsp:idC (l0::PL)++[(iend,[])]=idC (l0::a)++(idC (b0::b)++[(iend,[])]):=by
    rw[hPL];unfold idC;rw[← List.cons_append,List.map_append,List.append_assoc]
   rw[hsp,← hal,List.take_left] at q1
   rw[hsp,← hal,List.drop_left] at q2
   have r1:sgN W H D K L++flC A=headN W H D K L pal clr++idatsN (l0::a):=by
    rw[q1,flC_app,← List.append_assoc,hh,idC_fl]
   have r2:flC B=chN idat b0++(idatsN b++chN iend []):=by
    rw[q2,flC_app,idC_fl,flC_iend]
    unfold idatsN
    rw[List.flatMap_cons,List.append_assoc]
   rw[hPL] at P
   have hlen:(headN W H D K L pal clr++idatsN (l0::a)).length≤3000000000:=by
    rw[← r1]
    rw[hAB] at hF
    simp only [List.length_append] at hF ⊢
    omega
   have:=ins_mid P hl hb hlen (idatsN b++chN iend [])
   unfold InsBad
   rw[hT,r1,r2]
   exact this
theorem infoTr:(Tryz.prog.info? 4).map (fun i=>(i.zero,i.size,i.bytes))=some (some (.bool false),1,1):=by kernel_rfl
def OwnT (w:World) (N:Nat) (v:Value) (l:List Bool):Prop:=w.ownsRow N 4 1 v l.length (l.map Value.bool)
theorem OwnT.nil (w:World) (N:Nat):OwnT w N (.slice none 0 0) []:=World.ownsRow_nil _ _ _ _
theorem ownT_fr {S:Nat→Prop} {w W:World} {N:Nat} {v:Value} {l:List Bool} (h:OwnT w N v l) (k:Fr S w W) (hS:∀ g,v.ownBlock=some g→¬ S g):OwnT W N v l:=by
 refine ⟨h.1,?_⟩
 rcases h.2 with e | ⟨g,cap,cur,hv,hg,hh,r⟩
 ·exact Or.inl e
 ·refine Or.inr ⟨g,cap,cur,hv,hg,?_,r⟩
  have hlt:g<w.heap.size:=(Array.getElem?_eq_some_iff.1 hh).1
  rw[k.block g hlt (hS g (by rw[hv];rfl))];exact hh
theorem OwnT.addr {w:World} {N:Nat} {v:Value} {l:List Bool} (h:OwnT w N v l) (h0:0<l.length):∃ g c,v = .slice (some ⟨g,0,none⟩) l.length c∧∀ i,i<l.length→w.cell? ⟨g,i,none⟩=some (.bool (l.getD i false)):=by
 rcases h.2 with ⟨hv,h1⟩ | ⟨g,cap,cur,hv,hg,r⟩
 ·omega
 ·refine ⟨g,cap,hv,fun i hi => ?_⟩
  have:=h.cells (by rw[hv];rfl) i (.bool (l.getD i false)) (by simp [List.getElem?_map,List.getElem?_eq_getElem hi,List.getD_eq_getElem?_getD])
  have e:(Addr.add ⟨g,0,none⟩ i)=⟨g,0+i,none⟩:=by simp [Addr.add];intro h;exact h.symm
  rw[e,Nat.zero_add] at this;exact this
theorem OwnI.addr0 {w:World} {N:Nat} {v:Value} {l:List Int} (h:OwnI w N v l) (h0:0<l.length):∃ g c,v = .slice (some ⟨g,0,none⟩) l.length c∧∀ i,i<l.length→w.cell? ⟨g,i,none⟩=some (.int .i64 (l.getD i 0)):=by
 rcases h.2 with ⟨hv,h1⟩ | ⟨g,cap,cur,hv,hg,r⟩
 ·omega
 ·refine ⟨g,cap,hv,fun i hi => ?_⟩
  have:=h.cells (by rw[hv];rfl) i (.int .i64 (l.getD i 0)) (by simp [List.getElem?_map,List.getElem?_eq_getElem hi,List.getD_eq_getElem?_getD])
  have e:(Addr.add ⟨g,0,none⟩ i)=⟨g,0+i,none⟩:=by simp [Addr.add];intro h;exact h.symm
  rw[e,Nat.zero_add] at this;exact this
theorem appendW (w:World) {ops:Array Oper} {rest:List Oper} {o:Oper} {a:Act} {Q:Exit→Act→World→Prop}
  (hg:o.guard=none) (s x:Operand) (hop:o.op=Op.call { callee:=Callee.builtin Builtin.append,args:=#[s,x],argTypes:=#[31,31] })
  (N:Nat) (v:Value) (l:List Int) (hs:a.eval s=v) (hown:OwnI w N v l)
  (g c:Nat) (e:Int) (hx:a.eval x = .slice (some ⟨g,0,none⟩) 1 c) (hc:w.cell? ⟨g,0,none⟩=some (.int .i64 e)) (hb:l.length+1≤1000000000) (hbase:N≤w.heap.size)
  (hK:∀ v' w',OwnI w' N v' (l++[e])→Fr (fun k=>v.ownBlock=some k) w w'→(∀ k,v'.ownBlock=some k→v.ownBlock=some k∨w.heap.size≤k)→wpList Tryz.prog ops Q rest (a.put o.dst v') w') :
  wpList Tryz.prog ops Q (o::rest) a w:=by
 refine append_own w 31 31 3 1 8 (.int .i64 0) Tryz.underlying31 infoI rfl (by omega) hg s x hop N v l.length (l.map (Value.int .i64)) hs hown ⟨g,0,none⟩ 1 c [.int .i64 e] hx rfl (by omega) ?_ ?_ (by unfold maxLen;omega) (by omega) hbase ?_ rfl
 ·intro j u hj
  match j,hj with
  | 0,hj=>simp at hj;subst hj;exact hc
  | j+1,hj=>simp at hj
 ·intro u hu;simp at hu;subst hu;rfl
 ·intro v' w' h1 h2 h3
  refine hK v' w' ?_ ⟨h2.os,h2.tape,h2.output,h2.size,fun k hk hn=>h2.block k hk (fun e=>hn e.symm)⟩ h3
  show w'.ownsRow N 3 1 v' (l++[e]).length ((l++[e]).map (Value.int .i64))
  rw[List.length_append,List.map_append]
  exact h1
theorem appendT (w:World) {ops:Array Oper} {rest:List Oper} {o:Oper} {a:Act} {Q:Exit→Act→World→Prop}
  (hg:o.guard=none) (s x:Operand) (hop:o.op=Op.call { callee:=Callee.builtin Builtin.append,args:=#[s,x],argTypes:=#[58,58] })
  (N:Nat) (v:Value) (l:List Bool) (hs:a.eval s=v) (hown:OwnT w N v l)
  (g c:Nat) (e:Bool) (hx:a.eval x = .slice (some ⟨g,0,none⟩) 1 c) (hc:w.cell? ⟨g,0,none⟩=some (.bool e)) (hb:l.length+1≤1000000000) (hbase:N≤w.heap.size)
  (hK:∀ v' w',OwnT w' N v' (l++[e])→Fr (fun k=>v.ownBlock=some k) w w'→(∀ k,v'.ownBlock=some k→v.ownBlock=some k∨w.heap.size≤k)→wpList Tryz.prog ops Q rest (a.put o.dst v') w') :
  wpList Tryz.prog ops Q (o::rest) a w:=by
 refine append_own w 58 58 4 1 1 (.bool false) Tryz.underlying58 infoTr rfl (by omega) hg s x hop N v l.length (l.map Value.bool) hs hown ⟨g,0,none⟩ 1 c [.bool e] hx rfl (by omega) ?_ ?_ (by unfold maxLen;omega) (by omega) hbase ?_ rfl
 ·intro j u hj
  match j,hj with
  | 0,hj=>simp at hj;subst hj;exact hc
  | j+1,hj=>simp at hj
 ·intro u hu;simp at hu;subst hu;rfl
 ·intro v' w' h1 h2 h3
  refine hK v' w' ?_ ⟨h2.os,h2.tape,h2.output,h2.size,fun k hk hn=>h2.block k hk (fun e=>hn e.symm)⟩ h3
  show w'.ownsRow N 4 1 v' (l++[e]).length ((l++[e]).map Value.bool)
  rw[List.length_append,List.map_append]
  exact h1
structure TwoR (w W:World) (v u:Value) (l:List Int) (b:List Bool):Prop where
 kept:Kept w W
 oi:OwnI W w.heap.size v l
 ob:OwnT W w.heap.size u b
 ne:∀ g,v.ownBlock=some g→u.ownBlock≠some g
theorem TwoR.start (w:World):TwoR w w (.slice none 0 0) (.slice none 0 0) [] []:=⟨Kept.refl _,OwnI.nil _ _,OwnT.nil _ _,fun g h=>by cases h⟩
theorem TwoR.on {w W W':World} {v u:Value} {l:List Int} {b:List Bool} (h:TwoR w W v u l b) (k:Kept W W'):TwoR w W' v u l b:=⟨h.kept.trans k,h.oi.kept k,own_kept h.ob k,h.ne⟩
theorem TwoR.growI {w W W':World} {v v' u:Value} {l l':List Int} {b:List Bool} (h:TwoR w W v u l b) (ho:OwnI W' w.heap.size v' l') (f:Fr (fun k=>v.ownBlock=some k) W W') (hn:∀ k,v'.ownBlock=some k→v.ownBlock=some k∨W.heap.size≤k):TwoR w W' v' u l' b:=by
 refine ⟨?_,ho,ownT_fr h.ob f (fun g hg q=>h.ne g q hg),fun g hg q => ?_⟩
 ·refine ⟨f.os.trans h.kept.os,f.tape.trans h.kept.tape,f.output.trans h.kept.output,Nat.le_trans h.kept.size f.size,fun j hj => ?_⟩
  rw[f.block j (Nat.lt_of_lt_of_le hj h.kept.size) (fun q=>by have:=h.oi.ge j q;omega)]
  exact h.kept.block j hj
 ·rcases hn g hg with q1 | q1
  ·exact h.ne g q1 q
  ·have:=(World.ownsRow.lt h.ob g q).2;omega
theorem TwoR.growB {w W W':World} {v u u':Value} {l:List Int} {b b':List Bool} (h:TwoR w W v u l b) (ho:OwnT W' w.heap.size u' b') (f:Fr (fun k=>u.ownBlock=some k) W W') (hn:∀ k,u'.ownBlock=some k→u.ownBlock=some k∨W.heap.size≤k):TwoR w W' v u' l b':=by
 refine ⟨?_,own_fr h.oi f (fun g hg q=>h.ne g hg q),ho,fun g hg q => ?_⟩
 ·refine ⟨f.os.trans h.kept.os,f.tape.trans h.kept.tape,f.output.trans h.kept.output,Nat.le_trans h.kept.size f.size,fun j hj => ?_⟩
  rw[f.block j (Nat.lt_of_lt_of_le hj h.kept.size) (fun q=>by have:=(World.ownsRow.lt h.ob j q).1;omega)]
  exact h.kept.block j hj
 ·rcases hn g q with q1 | q1
  ·exact h.ne g hg q1
  ·have:=(World.ownsRow.lt h.oi g hg).2;omega
theorem bsOf_inj {s t:ByteArray} (h:bsOf s=bsOf t):s=t:=by
 unfold bsOf at h
 have:s.data.toList=t.data.toList:=(List.map_inj_right (fun a b q=>UInt8.toNat_inj.1 q)).1 h
 cases s;cases t
 congr 1
 exact Array.toList_inj.1 this
def offC (C:List (Nat × List Nat)) (i:Nat):Nat:=33+(flC (C.take i)).length
theorem offC_succ (C:List (Nat × List Nat)) (i:Nat) (hi:i<C.length):offC C (i+1)=offC C i+12+(C.getD i (0,[])).2.length:=by
 unfold offC
 rw[List.take_succ_eq_append_getElem hi,flC_app,List.length_append]
 have:(flC [C[i]]).length=12+(C[i]).2.length:=by
  unfold flC
  rw[List.flatMap_cons,List.flatMap_nil,List.append_nil,chN_len]
 rw[this,List.getD_eq_getElem?_getD,List.getElem?_eq_getElem hi]
 show _=_+12+(C[i]).2.length
 omega
structure CkF (ff:ByteArray) (S:List Nat) (C:List (Nat × List Nat)):Prop where
 eq:bsOf ff=S++flC C
 s33:S.length=33
 ty:∀ c ∈ C,c.1<4294967296∧c.2.length<4294967296
theorem CkF.last {ff:ByteArray} {S:List Nat} {C:List (Nat × List Nat)} (h:CkF ff S C):offC C C.length=ff.size:=by
 unfold offC
 rw[List.take_length,← bsOf_length,h.eq,List.length_append,h.s33]
theorem CkF.size {ff:ByteArray} {S:List Nat} {C:List (Nat × List Nat)} (h:CkF ff S C) {i:Nat} (hi:i<C.length):offC C i+12+(C.getD i (0,[])).2.length≤ff.size:=by
 rw[← offC_succ C i hi,← h.last]
 unfold offC
 have:(flC C).length=(flC (C.take (i+1))).length+(flC (C.drop (i+1))).length:=by
  rw[← List.length_append,← flC_app,List.take_append_drop]
 rw[List.take_length]
 omega
theorem CkF.at {ff:ByteArray} {S:List Nat} {C:List (Nat × List Nat)} (h:CkF ff S C) {i:Nat} (hi:i<C.length):∃ r,(bsOf ff).drop (offC C i)=chN (C.getD i (0,[])).1 (C.getD i (0,[])).2++r:=by
 refine ⟨flC (C.drop (i+1)),?_⟩
 have e:C=C.take i++C.getD i (0,[])::C.drop (i+1):=by
  rw[List.getD_eq_getElem?_getD,List.getElem?_eq_getElem hi]
  show C=C.take i++C[i]::C.drop (i+1)
  rw[List.getElem_cons_drop,List.take_append_drop]
 have e2:bsOf ff=(S++flC (C.take i))++flC (C.getD i (0,[])::C.drop (i+1)):=by
  rw[h.eq,List.append_assoc,← flC_app,← e]
 have e3:offC C i=(S++flC (C.take i)).length:=by unfold offC;rw[List.length_append,h.s33]
 rw[e2,e3,List.drop_left]
 unfold flC
 rw[List.flatMap_cons]
theorem CkF.num {ff:ByteArray} {S:List Nat} {C:List (Nat × List Nat)} (h:CkF ff S C) {i:Nat} (hi:i<C.length):∃ y0 y1 y2 y3,(bsOf ff)[offC C i]? = some y0∧(bsOf ff)[offC C i+1]? = some y1∧(bsOf ff)[offC C i+2]? = some y2∧(bsOf ff)[offC C i+3]? = some y3∧16777216*y0+65536*y1+256*y2+y3=(C.getD i (0,[])).2.length:=by
 obtain ⟨r,hr⟩:=h.at hi
 have hm:C.getD i (0,[]) ∈ C:=by rw[List.getD_eq_getElem?_getD,List.getElem?_eq_getElem hi];exact List.getElem_mem hi
 have hb:=(h.ty _ hm).2
 have g:∀ j,(bsOf ff)[offC C i+j]? = (chN (C.getD i (0,[])).1 (C.getD i (0,[])).2++r)[j]? := fun j=>by rw[← hr,List.getElem?_drop]
 refine ⟨_,_,_,_,g 0,g 1,g 2,g 3,?_⟩
 have:=be_num _ hb
 omega
theorem CkF.typ {ff:ByteArray} {S:List Nat} {C:List (Nat × List Nat)} (h:CkF ff S C) {i:Nat} (hi:i<C.length):(ff.extract (offC C i+4) (offC C i+8)=⟨#[73,68,65,84]⟩) ↔ (C.getD i (0,[])).1=idat:=by
 obtain ⟨r,hr⟩:=h.at hi
 have hm:C.getD i (0,[]) ∈ C:=by rw[List.getD_eq_getElem?_getD,List.getElem?_eq_getElem hi];exact List.getElem_mem hi
 have hb:=(h.ty _ hm).1
 have e:bsOf (ff.extract (offC C i+4) (offC C i+8))=beN (C.getD i (0,[])).1:=by
  rw[bsOf_extr,← List.drop_drop,hr,show offC C i+8 - (offC C i+4)=4 by omega]
  rfl
 generalize (C.getD i (0,[])).1=T at *
 constructor
 ·intro q
  rw[q] at e
  have e2:[73,68,65,84]=beN T:=e
  have:=be_num T hb
  unfold beN at e2
  simp only [List.cons.injEq] at e2
  show T=1229209940
  omega
 ·intro q
  apply bsOf_inj
  rw[e,q];rfl
end Go.Proofs.YtmbmecfodigciaaGreatDoor
