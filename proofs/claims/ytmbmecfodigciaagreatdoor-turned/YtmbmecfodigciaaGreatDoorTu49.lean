import Derived.Test.YtmbmecfodigciaaGreatDoorTu47
import Derived.Test.YtmbmecfodigciaaGreatDoorTu48
import Derived.Test.YtmbmecfodigciaaGreatDoorTu46
import Derived.Test.YtmbmecfodigciaaGreatDoorTu20
import Derived.Test.YtmbmecfodigciaaGreatDoorTu13
import Derived.Laws.IdiomStrings
set_option maxRecDepth 100000
set_option maxHeartbeats 6400000
namespace Go.Proofs.YtmbmecfodigciaaGreatDoor
open Go.RowKit Px
set_option linter.unusedSimpArgs false
set_option linter.unusedVariables false
def SnL (L:List Value) (w1:World) (g:Nat) (W:World):Prop:=L.length=11/\(∀ v ∈ L,v.oneCell'=true)/\Kept w1 W/\Blk W g 11 (fun i=>L.getD i undef)
theorem SnL.on {L:List Value} {w1 W W':World} {g:Nat} (h:SnL L w1 g W) (k:Kept W W'):SnL L w1 g W':=⟨h.1,h.2.1,h.2.2.1.trans k,h.2.2.2.kept k⟩
theorem SnL.set {L:List Value} {w1 W:World} {g k:Nat} (h:SnL L w1 g W) (hg:w1.heap.size<=g) (hk:k<11) (v:Value) (hv:v.oneCell'=true):SnL (L.set k v) w1 g (W.setCell ⟨g,k,none⟩ v):=by
 obtain ⟨h1,h2,h3,h4⟩:=h
 refine ⟨by rw[List.length_set];exact h1,fun u hu => ?_,h3.setCell hg v,?_⟩
 ·rcases List.mem_or_eq_of_mem_set hu with q | q
  ·exact h2 u q
  ·rw[q];exact hv
 ·have e:(fun i=>(L.set k v).getD i undef)=upd (fun i=>L.getD i undef) k v:=by
   funext i
   by_cases q:i=k
   ·subst q
    rw[upd_same,List.getD_eq_getElem?_getD,List.getElem?_set_self (by omega)];rfl
   ·rw[upd_ne _ _ _ q,List.getD_eq_getElem?_getD,List.getElem?_set_ne (fun z=>q z.symm),<- List.getD_eq_getElem?_getD]
  rw[e];exact h4.set hk v
theorem SnL.put2 {L:List Value} {w1 W:World} {g:Nat} {DN:Bool} (h:SnL L w1 g W) (hg:w1.heap.size<=g) (v:Value) (hv:v = .bool DN):SnL (L.set 2 (.bool DN)) w1 g (W.setCell ⟨g,2,none⟩ v):=by
 subst hv
 exact h.set hg (by omega) _ rfl
theorem SnL.cell {L:List Value} {w1 W:World} {g:Nat} (h:SnL L w1 g W) (j:Nat) (hj:j<11):∃ OV,W.cell? ⟨g,j,none⟩=some OV:=⟨_,h.2.2.2.cell j hj⟩
def NumC (W:World) (lo g N:Nat) (f:Nat->Int):Prop:=lo<=g/\g<W.heap.size/\∀ j,j<N->W.cell? ⟨g,j,none⟩=some (.int .i64 (f j))
theorem NumC.kept {W W':World} {lo g N:Nat} {f:Nat->Int} (h:NumC W lo g N f) (k:Kept W W'):NumC W' lo g N f:=⟨h.1,Nat.lt_of_lt_of_le h.2.1 k.size,fun j hj=>(k.cell (p:=⟨g,j,none⟩) h.2.1).trans (h.2.2 j hj)⟩
theorem NumC.fr {W W':World} {lo g N:Nat} {f:Nat->Int} {S:Nat->Prop} (h:NumC W lo g N f) (k:Fr S W W') (hS:¬ S g):NumC W' lo g N f:=⟨h.1,Nat.lt_of_lt_of_le h.2.1 k.size,fun j hj=>(k.cell h.2.1 hS).trans (h.2.2 j hj)⟩
def knP (r:Rw) (h:Hd) (j:Nat):Int:=if r.known (j / h.W*16+j % h.W) then 1 else 0
def snNo (d:Dc) (DN:Bool):List Value:=[.int .i64 (d.err:Int),.int .i64 (d.at1:Int),.bool DN,.int .i64 0,.int .i64 0,.int .i64 0,.int .i64 0,.int .i64 0,.slice none 0 0,.slice none 0 0,.slice none 0 0]
def snW (d:Dc) (DN:Bool) (gk gp gs:Nat):List Value:=[.int .i64 (d.err:Int),.int .i64 (d.at1:Int),.bool DN,.int .i64 (d.file.hd.W:Int),.int .i64 (d.file.hd.H:Int),.int .i64 (d.file.hd.K:Int),.int .i64 (d.file.hd.D:Int),.int .i64 (d.file.hd.L:Int),.slice (some ⟨gk,0,none⟩) (d.file.hd.W*d.file.hd.H) (d.file.hd.W*d.file.hd.H),.slice (some ⟨gp,0,none⟩) (4*(d.file.hd.W*d.file.hd.H)) (4*(d.file.hd.W*d.file.hd.H)),.slice (some ⟨gs,0,none⟩) (4*(d.file.hd.W*d.file.hd.H)) (4*(d.file.hd.W*d.file.hd.H))]
def SnX (w:World) (d:Dc) (e:Ending) (w':World):Prop:=Kept w w'/\((d.file.hd.W=0/\e = .returned (.agg (snNo d (decide (d.err=0) && decide (d.file.part=5))).toArray))\/(d.file.hd.W≠0/\∃ gk gp gs,e = .returned (.agg (snW d (decide (d.err=0) && decide (d.file.part=5)) gk gp gs).toArray)/\NumC w' w.heap.size gk (d.file.hd.W*d.file.hd.H) (knP d.file.rw d.file.hd)/\NumC w' w.heap.size gp (4*(d.file.hd.W*d.file.hd.H)) (fun j=>pxP d.file.rw d.file.tl d.file.hd (j / 4 % d.file.hd.W) (j / 4 / d.file.hd.W) (j % 4))/\NumC w' w.heap.size gs (4*(d.file.hd.W*d.file.hd.H)) (fun j=>shP d.file.rw d.file.tl d.file.hd (j / 4 % d.file.hd.W) (j / 4 / d.file.hd.W) (j % 4))))
theorem snap_f (b n:Nat) (c:Nat->Value) (d:Dc) (w:World) (hB:Blk w b n c) (hV:DcV c 0 d) (hn:5957<=n) (hp:d.file.hd.W=0\/PicOk c 4401 24 n d.file.rw d.file.tl d.file.hd) (hpal:∀ j,d.file.tl.pal j<256) (hG:GrdAt w) :
  Calls Tryz.prog 24 #[.pointer (some ⟨b,0,none⟩)] w fun e w'=>SnX w d e w':=by
 have hbw:=hB.lt
 have ke:=hB.at (i:=5955) (by omega) hV.err
 have ka:=hB.at (i:=5956) (by omega) hV.at1
 have HB:Hid (Blk w b n c):=hB
 have HV:Hid (DcV c 0 d):=hV
 have HP0:Hid (d.file.hd.W=0\/PicOk c 4401 24 n d.file.rw d.file.tl d.file.hd):=hp
 obtain ⟨DN,hDN⟩:∃ DN,DN=(decide (d.err=0) && decide (d.file.part=5)):=⟨_,rfl⟩
 unfold SnX
 rw[<- hDN]
 have HPl:Hid (∀ j,d.file.tl.pal j<256):=hpal
 clear hpal
 replace hDN:Hid _:=hDN
 have HG:Hid (GrdAt w):=hG
 have K0:Hid (Kept w (w.alloc (Obj.cells snZ 50))):=Below.alloc (Below.refl _ _) (Nat.le_refl _) _
 have B0:Hid (Blk (w.alloc (Obj.cells snZ 50)) w.heap.size 11 (fun i=>snZ.getD i undef)):=Blk.new w snZ _ 11 rfl
 clear hB hV hp hG
 unfold snZ at K0 B0
 go_enter Tryz.func24,Tryz.ntmps24
 go_upto_region 3 with fail
 generalize w.alloc (Obj.cells #[.int .i64 0,.int .i64 0,.bool false,.int .i64 0,.int .i64 0,.int .i64 0,.int .i64 0,.int .i64 0,.slice none 0 0,.slice none 0 0,.slice none 0 0] 50)=w1 at *
 have ke1:=(K0.out.cell (p:=⟨b,5955,none⟩) hbw).trans ke
 have ka1:=(K0.out.cell (p:=⟨b,5956,none⟩) hbw).trans ka
 have hb1:b<w1.heap.size:=Nat.lt_of_lt_of_le hbw K0.out.size
 replace ke1:w1.cell? ⟨b,5955,none⟩=some (.int .i64 (d.err:Int)):=ke1
 replace ka1:w1.cell? ⟨b,5956,none⟩=some (.int .i64 (d.at1:Int)):=ka1
 clear ke ka
 have HC1:Hid (∀ W,Kept w1 W->(W.cell? ⟨b,5955,none⟩=some (.int .i64 (d.err:Int))/\W.cell? ⟨b,5956,none⟩=some (.int .i64 (d.at1:Int)))):=fun W k=>⟨(k.cell (p:=⟨b,5955,none⟩) hb1).trans ke1,(k.cell (p:=⟨b,5956,none⟩) hb1).trans ka1⟩
 go_region_held3 (fun W=>W.cell? ⟨b,5955,none⟩=some (.int .i64 (d.err:Int))/\W.cell? ⟨b,5956,none⟩=some (.int .i64 (d.at1:Int))) (first | exact ⟨ke1,ka1⟩ | exact HC1.out _ (Below.alloc ((Kept.refl _).drewN 1) (by simp) _) | go_keep) (fail)
 have K2:Hid (Kept w1 (w1.alloc (Obj.cells #[.int .i64 (d.err:Int),.int .i64 (d.at1:Int),.bool false,.int .i64 0,.int .i64 0,.int .i64 0,.int .i64 0,.int .i64 0,.slice none 0 0,.slice none 0 0,.slice none 0 0] 50)).drew):=Kept.drewN (Below.alloc (Below.refl _ _) (Nat.le_refl _) _) 1
 have B2:Hid (Blk (w1.alloc (Obj.cells #[.int .i64 (d.err:Int),.int .i64 (d.at1:Int),.bool false,.int .i64 0,.int .i64 0,.int .i64 0,.int .i64 0,.int .i64 0,.slice none 0 0,.slice none 0 0,.slice none 0 0] 50)).drew w1.heap.size 11 (fun i=>(#[.int .i64 (d.err:Int),.int .i64 (d.at1:Int),.bool false,.int .i64 0,.int .i64 0,.int .i64 0,.int .i64 0,.int .i64 0,.slice none 0 0,.slice none 0 0,.slice none 0 0]:Array Value).getD i undef)):=(Blk.new w1 _ _ 11 rfl).kept ((Kept.refl _).drewN 1)
 have S2:Hid (SnL (snNo d false) w1 w1.heap.size (w1.alloc (Obj.cells #[.int .i64 (d.err:Int),.int .i64 (d.at1:Int),.bool false,.int .i64 0,.int .i64 0,.int .i64 0,.int .i64 0,.int .i64 0,.slice none 0 0,.slice none 0 0,.slice none 0 0] 50)).drew):=by
  refine ⟨rfl,fun v hv => ?_,K2.out,?_⟩
  ·unfold snNo at hv
   simp only [List.mem_cons,List.not_mem_nil,or_false] at hv
   rcases hv with rfl | rfl | rfl | rfl | rfl | rfl | rfl | rfl | rfl | rfl | rfl<;>rfl
  ·have e:(fun i=>(snNo d false).getD i undef)=(fun i=>(#[.int .i64 (d.err:Int),.int .i64 (d.at1:Int),.bool false,.int .i64 0,.int .i64 0,.int .i64 0,.int .i64 0,.int .i64 0,.slice none 0 0,.slice none 0 0,.slice none 0 0]:Array Value).getD i undef):=by
    funext i
    rw[Array.getD_eq_getD_getElem?,List.getElem?_toArray,List.getD_eq_getElem?_getD];rfl
   rw[e];exact B2.out
 clear K2 B2 HC1 ke1 ka1
 generalize (w1.alloc (Obj.cells #[.int .i64 (d.err:Int),.int .i64 (d.at1:Int),.bool false,.int .i64 0,.int .i64 0,.int .i64 0,.int .i64 0,.int .i64 0,.slice none 0 0,.slice none 0 0,.slice none 0 0] 50)).drew=w2 at *
 obtain ⟨g3,hg3⟩:∃ g,g=w1.heap.size:=⟨_,rfl⟩
 rw[<- hg3] at S2 ⊢
 have hgle:w1.heap.size<=g3:=by rw[hg3];exact Nat.le_refl _
 replace hg3:Hid _:=hg3
 obtain ⟨L3,hL3⟩:∃ L3,L3=snNo d DN:=⟨_,rfl⟩
 have HP2:Hid (∀ W v,SnL (snNo d false) w1 g3 W->v = .bool DN->SnL L3 w1 g3 (W.setCell ⟨g3,2,none⟩ v)):=fun W v h e=>by rw[hL3];exact h.put2 hgle v e
 replace hL3:Hid _:=hL3
 have BW:Hid (∀ W,Kept w1 W->Blk W b n c):=fun W k=>(HB.out.kept K0.out).kept k
 have GW:Hid (∀ W,Kept w1 W->GrdAt W):=fun W k=>(HG.out.kept K0.out).kept k
 go_upto_region 4 with fail
 go_cut [] from 17 (fun W=>SnL L3 w1 g3 W)
 case first=>
  have hK2:=S2.out.2.2.1
  have hB2:=S2.out.2.2.2
  have ke:=(BW.out w2 hK2).at (i:=5955) (by omega) HV.out.err
  replace ke:w2.cell? ⟨b,5955,none⟩=some (.int .i64 (d.err:Int)):=ke
  obtain ⟨OV,k2⟩:∃ OV,w2.cell? ⟨g3,2,none⟩=some OV:=⟨_,hB2.cell 2 (by omega)⟩
  have z2:=hB2.fz 2
  have FE:Hid (Calls Tryz.prog 41 #[.pointer (some ⟨b,0,none⟩)] w2 fun e w'=>e = .returned (.bool (decide (d.file.part=5)))/\w'=w2):=rdEnded_x b 0 n c d.file w2 (BW.out w2 hK2) HV.out.file (by omega)
  clear hB2 hK2
  have HDZ:Hid (d.err=0->DN=decide (d.file.part=5)):=fun q=>by rw[hDN.out,decide_eq_true q];rfl
  have HDN:Hid (d.err≠0->DN=false):=fun q=>by rw[hDN.out,decide_eq_false q];rfl
  clear hDN
  generalize decide (d.file.part=5)=EE at *
  by_cases he:d.err=0
  ·have he':((d.err:Int) == 0)=true:=by rw[beq_iff_eq];omega
   have hEE:Hid (DN=EE):=HDZ.out he
   replace he:Hid _:=he
   go_wp2_with fail
   refine FE.out.mono ?_
   rintro e w3 ⟨rfl,hw3⟩
   subst w3
   go_wp2_with fail
   all_goals
    go_meet
    case rel=>exact HP2.out _ _ S2.out (by first | (rw[hEE.out];done) | (rw[hEE.out];rfl) | (have:=hEE.out;simp_all))
  ·have he':((d.err:Int) == 0)=false:=by rw[beq_eq_false_iff_ne];omega
   have hEE:Hid (DN=false):=HDN.out he
   go_wp2_with fail
   go_meet
   case rel=>exact HP2.out _ _ S2.out (by rw[hEE.out])
 case rest=>
  have S3:Hid (SnL L3 w1 g3 wc):=hcut
  clear hcut S2
  have K3:Hid (Kept w1 wc):=S3.out.2.2.1
  go_wp2_with fail
  refine (rdHead_x b 0 n c d.file wc (BW.out wc K3.out) HV.out.file (by omega)).mono ?_
  rintro e w4 ⟨rfl,hk4⟩
  have S5:Hid (SnL L3 w1 g3 (w4.alloc (Obj.cells #[.int .i64 (d.file.hd.W:Int),.int .i64 (d.file.hd.H:Int),.int .i64 (d.file.hd.D:Int),.int .i64 (d.file.hd.K:Int),.int .i64 (d.file.hd.L:Int)] 71))):=(S3.out.on hk4).on (Below.alloc (Below.refl _ _) (Nat.le_refl _) _)
  have C5:Hid (∀ j v,(#[Value.int .i64 (d.file.hd.W:Int),.int .i64 (d.file.hd.H:Int),.int .i64 (d.file.hd.D:Int),.int .i64 (d.file.hd.K:Int),.int .i64 (d.file.hd.L:Int)]:Array Value)[j]? = some v->(w4.alloc (Obj.cells #[.int .i64 (d.file.hd.W:Int),.int .i64 (d.file.hd.H:Int),.int .i64 (d.file.hd.D:Int),.int .i64 (d.file.hd.K:Int),.int .i64 (d.file.hd.L:Int)] 71)).cell? ⟨w4.heap.size,j,none⟩=some v):=fun j v hv=>(World.cell?_alloc_at _ _ _ _ rfl).trans hv
  have hg34:g3<w4.heap.size:=by
   exact Nat.lt_of_lt_of_le S3.out.2.2.2.lt hk4.size
  by_cases hWz:d.file.hd.W=0
  ·have hW0:((d.file.hd.W:Int) == 0)=true:=by rw[beq_iff_eq];omega
   replace hWz:Hid _:=hWz
   clear hk4 S3 K3
   go_upto_region 6 with fail
   generalize w4.alloc (Obj.cells #[.int .i64 (d.file.hd.W:Int),.int .i64 (d.file.hd.H:Int),.int .i64 (d.file.hd.D:Int),.int .i64 (d.file.hd.K:Int),.int .i64 (d.file.hd.L:Int)] 71)=w5 at *
   obtain ⟨g4,hg4⟩:∃ g,g=w4.heap.size:=⟨_,rfl⟩
   rw[<- hg4] at C5 hg34 ⊢
   clear hg4
   have x0:=C5.out 0 _ rfl
   obtain ⟨hcl,hone,K12,B12⟩:=S5.out
   obtain ⟨cs,hcs⟩:∃ cs,cs=L3:=⟨_,rfl⟩
   rw[<- hcs] at hcl hone B12
   have hcr:Hid (w5.rangeAt g3 0 cs):=by
    show w5.rangeAt g3 0 cs
    have:=B12.range (k:=0) (m:=11) (by omega)
    have e:(List.range 11).map (fun j=>(fun i=>cs.getD i undef) (0+j))=cs:=by
     apply List.ext_getElem?
     intro j
     by_cases q:j<11
     ·rw[range_get _ 11 j q,Nat.zero_add]
      show some (cs.getD j undef)=_
      rw[List.getD_eq_getElem?_getD,List.getElem?_eq_getElem (by omega)];rfl
     ·rw[List.getElem?_eq_none (by rw[List.length_map,List.length_range];omega),List.getElem?_eq_none (by omega)]
    rw[e] at this
    exact this
   have hi:Hid ((Tryz.prog.info? 50).map (·.size)=some cs.length):=by show _=_;rw[hcl];exact info11
   have BR:Blk w5 w.heap.size 11 _:=B0.out.kept K12
   have ht:Hid (w5.there w.heap.size 0 cs.length):=by show w5.there _ 0 cs.length;rw[hcl];exact BR.there (by omega)
   have hsc5:(storeCells ⟨w.heap.size,0,none⟩ cs).run Tryz.prog w5 = .ok () (w5.setCells w.heap.size 0 cs):=store_all ht.out hone
   have hld:Hid ((loadVar 50 ⟨w.heap.size,0,none⟩).run Tryz.prog (w5.setCells w.heap.size 0 cs) = .ok (.agg cs.toArray) (w5.setCells w.heap.size 0 cs)) :=
    run_loadVar_mid _ _ _ _ cs _ (World.rangeAt_setCells_same _ _ _ _ ht.out) Tryz.underlying50 rfl hi.out
   have F13:Hid (Fr1 w.heap.size w5 (w5.setCells w.heap.size 0 cs)):=Fr1.sets _ _ (Fr.refl _ _)
   have K13:Hid (Kept w (w5.setCells w.heap.size 0 cs)):=Fr.to_kept (S:=fun j=>j=w.heap.size) (K0.out.trans K12) F13.out (fun i hi e=>by omega)
   replace hcs:Hid _:=hcs
   replace hcl:Hid _:=hcl
   replace hone:Hid _:=hone
   clear B12 BR
   clear K12
   go_upto_region 7 with fail
   go_step
   refine wpList_load_mid rfl 50 _ rfl g3 0 rfl cs _ hcr.out Tryz.underlying50 rfl hi.out ?_
   go_wp2
   exact bodyPost_ret (v := .agg cs.toArray) (results_cell1 rfl _ _ _ _ _ rfl hld.out) rfl ⟨K13.out,Or.inl ⟨hWz.out,by rw[hcs.out,hL3.out]⟩⟩
  have HP:Hid (PicOk c 4401 24 n d.file.rw d.file.tl d.file.hd):=by rcases HP0.out with q | q;exact absurd q hWz;exact q
  have hW0:((d.file.hd.W:Int) == 0)=false:=by have:=HP.out.W1;rw[beq_eq_false_iff_ne];omega
  clear hk4 S3 K3
  go_upto_region 6 with fail
  generalize w4.alloc (Obj.cells #[.int .i64 (d.file.hd.W:Int),.int .i64 (d.file.hd.H:Int),.int .i64 (d.file.hd.D:Int),.int .i64 (d.file.hd.K:Int),.int .i64 (d.file.hd.L:Int)] 71)=w5 at *
  obtain ⟨g4,hg4⟩:∃ g,g=w4.heap.size:=⟨_,rfl⟩
  rw[<- hg4] at C5 hg34 ⊢
  clear hg4
  have x0:=C5.out 0 _ rfl
  have x1:=C5.out 1 _ rfl
  have x2:=C5.out 2 _ rfl
  have x3:=C5.out 3 _ rfl
  have x4:=C5.out 4 _ rfl
  have hne:g4≠g3:=by omega
  have hne':g3≠g4:=by omega
  have YY:Hid (∀ j,j<11->(∃ OV,w5.cell? ⟨g3,j,none⟩=some OV)):=S5.out.cell
  have zz:∀ j,w5.frozen? ⟨g3,j,none⟩=false:=S5.out.2.2.2.fz
  obtain ⟨V3,y3⟩:=YY.out 3 (by omega)
  obtain ⟨V4,y4⟩:=YY.out 4 (by omega)
  obtain ⟨V5,y5⟩:=YY.out 5 (by omega)
  obtain ⟨V6,y6⟩:=YY.out 6 (by omega)
  obtain ⟨V7,y7⟩:=YY.out 7 (by omega)
  have S6:Hid (SnL (((((L3.set 3 (.int .i64 (d.file.hd.W:Int))).set 4 (.int .i64 (d.file.hd.H:Int))).set 5 (.int .i64 (d.file.hd.K:Int))).set 6 (.int .i64 (d.file.hd.D:Int))).set 7 (.int .i64 (d.file.hd.L:Int))) w1 g3 (((((w5.setCell ⟨g3,3,none⟩ (.int .i64 (d.file.hd.W:Int))).setCell ⟨g3,4,none⟩ (.int .i64 (d.file.hd.H:Int))).setCell ⟨g3,5,none⟩ (.int .i64 (d.file.hd.K:Int))).setCell ⟨g3,6,none⟩ (.int .i64 (d.file.hd.D:Int))).setCell ⟨g3,7,none⟩ (.int .i64 (d.file.hd.L:Int)))):=((((S5.out.set hgle (by omega) _ rfl).set hgle (by omega) _ rfl).set hgle (by omega) _ rfl).set hgle (by omega) _ rfl).set hgle (by omega) _ rfl
  obtain ⟨L6,hL6⟩:∃ L6,L6=((((L3.set 3 (.int .i64 (d.file.hd.W:Int))).set 4 (.int .i64 (d.file.hd.H:Int))).set 5 (.int .i64 (d.file.hd.K:Int))).set 6 (.int .i64 (d.file.hd.D:Int))).set 7 (.int .i64 (d.file.hd.L:Int)):=⟨_,rfl⟩
  rw[<- hL6] at S6
  replace hL6:Hid _:=hL6
  go_wp2_with fail
  generalize ((((w5.setCell ⟨g3,3,none⟩ (.int .i64 (d.file.hd.W:Int))).setCell ⟨g3,4,none⟩ (.int .i64 (d.file.hd.H:Int))).setCell ⟨g3,5,none⟩ (.int .i64 (d.file.hd.K:Int))).setCell ⟨g3,6,none⟩ (.int .i64 (d.file.hd.D:Int))).setCell ⟨g3,7,none⟩ (.int .i64 (d.file.hd.L:Int))=w6 at *
  clear x0 x1 x2 x3 x4 y3 y4 y5 y6 y7 YY zz S5 C5 hW0
  have K6:Hid (Kept w1 w6):=S6.out.2.2.1
  refine (rdKnown_x b 0 n c d.file w6 (BW.out w6 K6.out) HV.out.file (by omega) HP.out.W1 HP.out.W2 HP.out.H1 HP.out.H2).mono ?_
  rintro e w7 ⟨⟨gk,rfl,hgk1,hgk2,hgk3⟩,hk7⟩
  have S7:Hid (SnL L6 w1 g3 w7):=S6.out.on hk7
  have hgkg:g3<gk:=Nat.lt_of_lt_of_le S6.out.2.2.2.lt hgk1
  have hww:w.heap.size<=w6.heap.size:=Nat.le_trans K0.out.size K6.out.size
  have N7:Hid (NumC w7 w.heap.size gk (d.file.hd.W*d.file.hd.H) (knP d.file.rw d.file.hd)):=⟨Nat.le_trans hww hgk1,hgk2,hgk3⟩
  have N8:Hid (∀ v,NumC (w7.setCell ⟨g3,8,none⟩ v) w.heap.size gk (d.file.hd.W*d.file.hd.H) (knP d.file.rw d.file.hd)):=fun v=>N7.out.fr (S:=fun j=>j=g3) (Fr1.set (Fr.refl _ _) _ _) (by omega)
  obtain ⟨V8,y8⟩:∃ OV,w7.cell? ⟨g3,8,none⟩=some OV:=S7.out.cell 8 (by omega)
  have z8:∀ j,w7.frozen? ⟨g3,j,none⟩=false:=S7.out.2.2.2.fz
  have S8:Hid (SnL (L6.set 8 (.slice (some ⟨gk,0,none⟩) (d.file.hd.W*d.file.hd.H) (d.file.hd.W*d.file.hd.H))) w1 g3 (w7.setCell ⟨g3,8,none⟩ (.slice (some ⟨gk,0,none⟩) (d.file.hd.W*d.file.hd.H) (d.file.hd.W*d.file.hd.H)))):=S7.out.set hgle (by omega) _ rfl
  obtain ⟨N,hN⟩:∃ N,N=d.file.hd.W*d.file.hd.H:=⟨_,rfl⟩
  rw[<- hN] at S8 N8 ⊢
  have N8b:Hid _:=N8.out (.slice (some ⟨gk,0,none⟩) N N)
  clear N7 N8 hww
  obtain ⟨L8,hL8⟩:∃ L8,L8=L6.set 8 (.slice (some ⟨gk,0,none⟩) N N):=⟨_,rfl⟩
  rw[<- hL8] at S8
  replace hL8:Hid _:=hL8
  replace hN:Hid _:=hN
  clear hgk1 hgk2 hgk3 hk7 S6 K6
  go_wp2_with fail
  generalize w7.setCell ⟨g3,8,none⟩ (.slice (some ⟨gk,0,none⟩) N N)=w8 at *
  clear y8 z8 S7
  have K8:Hid (Kept w1 w8):=S8.out.2.2.1
  refine (rdPix_x b 0 n c d.file w8 (BW.out w8 K8.out) HV.out.file (by omega) HP.out HPl.out).mono ?_
  rintro e w9 ⟨gp,rfl,hp1,hp2,hp3,hk9⟩
  have S9:Hid (SnL L8 w1 g3 w9):=S8.out.on hk9
  have hgpg:g3<gp:=Nat.lt_of_lt_of_le S8.out.2.2.2.lt hp1
  have hww:w.heap.size<=w8.heap.size:=Nat.le_trans K0.out.size K8.out.size
  have N9:Hid (NumC w9 w.heap.size gp (4*(d.file.hd.W*d.file.hd.H)) (fun j=>pxP d.file.rw d.file.tl d.file.hd (j / 4 % d.file.hd.W) (j / 4 / d.file.hd.W) (j % 4))):=⟨Nat.le_trans hww hp1,hp2,hp3⟩
  rw[<- hN.out] at N9 ⊢
  obtain ⟨M,hM⟩:∃ M,M=4*N:=⟨_,rfl⟩
  rw[<- hM] at N9 ⊢
  replace hM:Hid _:=hM
  have N10a:Hid (∀ v,NumC (w9.setCell ⟨g3,9,none⟩ v) w.heap.size gk N (knP d.file.rw d.file.hd)):=fun v=>NumC.fr (NumC.kept N8b.out hk9) (S:=fun j=>j=g3) (Fr1.set (Fr.refl _ _) _ _) (by omega)
  have N10b:Hid (∀ v,NumC (w9.setCell ⟨g3,9,none⟩ v) w.heap.size gp M (fun j=>pxP d.file.rw d.file.tl d.file.hd (j / 4 % d.file.hd.W) (j / 4 / d.file.hd.W) (j % 4))):=fun v=>N9.out.fr (S:=fun j=>j=g3) (Fr1.set (Fr.refl _ _) _ _) (by omega)
  replace N10a:Hid _:=N10a.out (.slice (some ⟨gp,0,none⟩) M M)
  replace N10b:Hid _:=N10b.out (.slice (some ⟨gp,0,none⟩) M M)
  clear hp1 hp2 hp3 N9 N8b hww
  obtain ⟨V9,y9⟩:∃ OV,w9.cell? ⟨g3,9,none⟩=some OV:=S9.out.cell 9 (by omega)
  have z9:∀ j,w9.frozen? ⟨g3,j,none⟩=false:=S9.out.2.2.2.fz
  have S10:Hid (SnL (L8.set 9 (.slice (some ⟨gp,0,none⟩) M M)) w1 g3 (w9.setCell ⟨g3,9,none⟩ (.slice (some ⟨gp,0,none⟩) M M))):=S9.out.set hgle (by omega) _ rfl
  obtain ⟨L10,hL10⟩:∃ L10,L10=L8.set 9 (.slice (some ⟨gp,0,none⟩) M M):=⟨_,rfl⟩
  rw[<- hL10] at S10
  replace hL10:Hid _:=hL10
  clear hk9 S8 K8
  go_wp2_with fail
  generalize w9.setCell ⟨g3,9,none⟩ (.slice (some ⟨gp,0,none⟩) M M)=w10 at *
  clear y9 z9 S9
  have K10:Hid (Kept w1 w10):=S10.out.2.2.1
  refine (rdShow_x b 0 n c d.file w10 (BW.out w10 K10.out) HV.out.file (by omega) HP.out HPl.out (GW.out w10 K10.out)).mono ?_
  rintro e w11 ⟨gs,rfl,hp1,hp2,hp3,hk11⟩
  have S11:Hid (SnL L10 w1 g3 w11):=S10.out.on hk11
  have hgsg:g3<gs:=Nat.lt_of_lt_of_le S10.out.2.2.2.lt hp1
  have hww:w.heap.size<=w10.heap.size:=Nat.le_trans K0.out.size K10.out.size
  have N11:Hid (NumC w11 w.heap.size gs (4*(d.file.hd.W*d.file.hd.H)) (fun j=>shP d.file.rw d.file.tl d.file.hd (j / 4 % d.file.hd.W) (j / 4 / d.file.hd.W) (j % 4))):=⟨Nat.le_trans hww hp1,hp2,hp3⟩
  rw[<- hN.out,<- hM.out] at N11 ⊢
  have N12a:Hid (∀ v,NumC (w11.setCell ⟨g3,10,none⟩ v) w.heap.size gk N (knP d.file.rw d.file.hd)):=fun v=>NumC.fr (NumC.kept N10a.out hk11) (S:=fun j=>j=g3) (Fr1.set (Fr.refl _ _) _ _) (by omega)
  have N12b:Hid (∀ v,NumC (w11.setCell ⟨g3,10,none⟩ v) w.heap.size gp M (fun j=>pxP d.file.rw d.file.tl d.file.hd (j / 4 % d.file.hd.W) (j / 4 / d.file.hd.W) (j % 4))):=fun v=>NumC.fr (NumC.kept N10b.out hk11) (S:=fun j=>j=g3) (Fr1.set (Fr.refl _ _) _ _) (by omega)
  have N12c:Hid (∀ v,NumC (w11.setCell ⟨g3,10,none⟩ v) w.heap.size gs M (fun j=>shP d.file.rw d.file.tl d.file.hd (j / 4 % d.file.hd.W) (j / 4 / d.file.hd.W) (j % 4))):=fun v=>N11.out.fr (S:=fun j=>j=g3) (Fr1.set (Fr.refl _ _) _ _) (by omega)
  replace N12a:Hid _:=N12a.out (.slice (some ⟨gs,0,none⟩) M M)
  replace N12b:Hid _:=N12b.out (.slice (some ⟨gs,0,none⟩) M M)
  replace N12c:Hid _:=N12c.out (.slice (some ⟨gs,0,none⟩) M M)
  clear hp1 hp2 hp3 N11 N10a N10b hww
  obtain ⟨V10,y10⟩:∃ OV,w11.cell? ⟨g3,10,none⟩=some OV:=S11.out.cell 10 (by omega)
  have z10:∀ j,w11.frozen? ⟨g3,j,none⟩=false:=S11.out.2.2.2.fz
  have S12:Hid (SnL (L10.set 10 (.slice (some ⟨gs,0,none⟩) M M)) w1 g3 (w11.setCell ⟨g3,10,none⟩ (.slice (some ⟨gs,0,none⟩) M M))):=S11.out.set hgle (by omega) _ rfl
  clear hk11 S10 K10
  go_upto_region 16 with fail
  generalize w11.setCell ⟨g3,10,none⟩ (.slice (some ⟨gs,0,none⟩) M M)=w12 at *
  clear y10 z10 S11
  obtain ⟨hcl,hone,K12,B12⟩:=S12.out
  obtain ⟨cs,hcs⟩:∃ cs,cs=L10.set 10 (.slice (some ⟨gs,0,none⟩) M M):=⟨_,rfl⟩
  rw[<- hcs] at hcl hone B12
  have hcr:Hid (w12.rangeAt g3 0 cs):=by
   show w12.rangeAt g3 0 cs
   have:=B12.range (k:=0) (m:=11) (by omega)
   have e:(List.range 11).map (fun j=>(fun i=>cs.getD i undef) (0+j))=cs:=by
    apply List.ext_getElem?
    intro j
    by_cases q:j<11
    ·rw[range_get _ 11 j q,Nat.zero_add]
     show some (cs.getD j undef)=_
     rw[List.getD_eq_getElem?_getD,List.getElem?_eq_getElem (by omega)];rfl
    ·rw[List.getElem?_eq_none (by rw[List.length_map,List.length_range];omega),List.getElem?_eq_none (by omega)]
   rw[e] at this
   exact this
  have hi:Hid ((Tryz.prog.info? 50).map (·.size)=some cs.length):=by show _=_;rw[hcl];exact info11
  have BR:Blk w12 w.heap.size 11 _:=B0.out.kept K12
  have ht:Hid (w12.there w.heap.size 0 cs.length):=by show w12.there _ 0 cs.length;rw[hcl];exact BR.there (by omega)
  have hsc5:(storeCells ⟨w.heap.size,0,none⟩ cs).run Tryz.prog w12 = .ok () (w12.setCells w.heap.size 0 cs):=store_all ht.out hone
  have hld:Hid ((loadVar 50 ⟨w.heap.size,0,none⟩).run Tryz.prog (w12.setCells w.heap.size 0 cs) = .ok (.agg cs.toArray) (w12.setCells w.heap.size 0 cs)) :=
   run_loadVar_mid _ _ _ _ cs _ (World.rangeAt_setCells_same _ _ _ _ ht.out) Tryz.underlying50 rfl hi.out
  have F13:Hid (Fr1 w.heap.size w12 (w12.setCells w.heap.size 0 cs)):=Fr1.sets _ _ (Fr.refl _ _)
  have K13:Hid (Kept w (w12.setCells w.heap.size 0 cs)):=Fr.to_kept (S:=fun j=>j=w.heap.size) (K0.out.trans K12) F13.out (fun i hi e=>by omega)
  replace hcs:Hid _:=hcs
  replace hcl:Hid _:=hcl
  replace hone:Hid _:=hone
  clear B12 BR
  clear K12
  go_step
  refine wpList_load_mid rfl 50 _ rfl g3 0 rfl cs _ hcr.out Tryz.underlying50 rfl hi.out ?_
  go_wp2
  refine bodyPost_ret (v := .agg cs.toArray) (results_cell1 rfl _ _ _ _ _ rfl hld.out) rfl ⟨K13.out,Or.inr ⟨by have:=HP.out.W1;omega,gk,gp,gs,?_,?_,?_,?_⟩⟩
  ·rw[hcs.out,hL10.out,hL8.out,hL6.out,hL3.out,hM.out,hN.out];rfl
  ·rw[<- hN.out];exact NumC.fr N12a.out (S:=fun j=>j=w.heap.size) F13.out (by have:=N12a.out.1;have:=hgle;have:=K0.out.size;omega)
  ·rw[<- hN.out,<- hM.out];exact NumC.fr N12b.out (S:=fun j=>j=w.heap.size) F13.out (by have:=hgle;have:=K0.out.size;omega)
  ·rw[<- hN.out,<- hM.out];exact NumC.fr N12c.out (S:=fun j=>j=w.heap.size) F13.out (by have:=hgle;have:=K0.out.size;omega)
structure DI (w W:World) (g:Nat) (d:Dc):Prop where
 kept:Kept w W
 pos:0<w.heap.size
 lo:w.heap.size<=g
 ex:∃ c,Blk W g 5957 c/\DcV c 0 d
theorem DI.glt {w W:World} {g:Nat} {d:Dc} (h:DI w W g d):g<W.heap.size:=by obtain ⟨c,b,_⟩:=h.ex;exact b.lt
theorem DI.on {w W W':World} {g:Nat} {d:Dc} (h:DI w W g d) (k:Kept W W'):DI w W' g d:=by
 obtain ⟨c,b,v⟩:=h.ex
 exact ⟨h.kept.trans k,h.pos,h.lo,c,b.kept k,v⟩
theorem DI.step {w W W':World} {g:Nat} {d d':Dc} (h:DI w W g d) (k:DcStep g 5957 d' W W'):DI w W' g d':=by
 obtain ⟨e,b,v,f⟩:=k
 have h1:=h.lo
 exact ⟨Fr.to_kept h.kept f (fun i hi q=>by omega),h.pos,h.lo,e,b,v⟩
theorem newDI {w W:World} (h:Kept w W) (h0:0<w.heap.size):Calls Tryz.prog 21 #[] W fun e W'=>∃ g,e = .returned (.pointer (some ⟨g,0,none⟩))/\DI w W' g dc0:=by
 refine (new_x W).mono ?_
 rintro e W' ⟨rfl,c,b,v,k⟩
 exact ⟨_,rfl,h.trans k,h0,h.size,c,b,v⟩
structure ShowOk (s:Rd):Prop where
 hd:RdHd s
 clear:∀ j,s.tl.clear j<256
 sm:SmI s
theorem feedOk_err {d:Dc} (h:d.err≠0) (l:List Nat):FeedOk d l:=by
 intro k x _ e
 rw[feed_err h] at e
 exact absurd e h
def snN:Array Value:=#[.int .i64 0,.int .i64 0,.bool false,.int .i64 0,.int .i64 0,.int .i64 0,.int .i64 0,.int .i64 0,.slice none 0 0,.slice none 0 0,.slice none 0 0]
theorem snap_lay (W:World) (cs:List Value) (hl:cs.length=11) (ho:∀ v ∈ cs,v.oneCell'=true) :
  (storeCells ⟨W.heap.size,0,none⟩ cs).run Tryz.prog (W.alloc (Obj.cells snN 50)) = .ok () ((W.alloc (Obj.cells snN 50)).setCells W.heap.size 0 cs)/\((W.alloc (Obj.cells snN 50)).setCells W.heap.size 0 cs).rangeAt W.heap.size 0 cs/\Kept W ((W.alloc (Obj.cells snN 50)).setCells W.heap.size 0 cs):=by
 have B:Blk (W.alloc (Obj.cells snN 50)) W.heap.size 11 (fun i=>snN.getD i undef):=Blk.new W snN _ 11 rfl
 have T:(W.alloc (Obj.cells snN 50)).there W.heap.size 0 cs.length:=by rw[hl];exact B.there (by omega)
 exact ⟨store_all T ho,World.rangeAt_setCells_same _ _ _ _ T,Kept.setCells (Nat.le_refl _) _ _ ((Below.refl _ _).alloc (Nat.le_refl _) _)⟩
def PalI (s:Rd):Prop:=∀ j,s.tl.pal j<256
theorem PalI.note {s:Rd} (h:PalI s):PalI s.note:=by
 have h1:PalI s.note1:=by
  unfold Rd.note1
  split
  ·exact h
  ·split
   ·exact h
   ·split
    ·unfold Rd.begin
     split
     ·exact h
     ·exact h
    ·exact h
 show PalI s.note1.note2
 unfold Rd.note2
 split
 ·exact h1
 ·exact h1
theorem PalI.accept {s:Rd} (h:PalI s):PalI s.accept.1:=by
 unfold PalI
 rw[(accept_tl s).1];exact h
theorem PalI.keep {s:Rd} {x:Nat} (h:PalI s) (hx:x<256):PalI (s.keep x).1:=by
 unfold Rd.keep
 split
 ·exact h
 ·split
  ·intro j
   show upd s.tl.pal s.taken x j<256
   by_cases e:j=s.taken
   ·rw[e,upd_same];exact hx
   ·rw[upd_ne _ _ _ e];exact h j
  ·split
   ·exact h
   ·split
    ·unfold Rd.takeStream
     split
     ·exact h
     ·split
      ·exact h
      ·exact h
    ·exact h
theorem PalI.take {s:Rd} {x:Nat} (h:PalI s) (hx:x<256):PalI (s.take x).1:=by
 unfold Rd.take
 split
 ·unfold Rd.takeSign
  split
  ·exact h
  ·split
   ·exact h
   ·exact h
 ·split
  ·unfold Rd.takeLength
   split
   ·exact h
   ·split
    ·exact h
    ·exact h
  ·split
   ·unfold Rd.takeType
    have ht:PalI (s.typed x):=h
    split
    ·exact h
    ·split
     ·exact ht
     ·split
      ·exact ht.note
      ·exact ht.note
   ·split
    ·have hk:=PalI.keep (s:=s.summed x) (x:=x) h hx
     unfold Rd.takeData
     split
     ·exact hk
     ·show PalI ((s.summed x).keep x).1.dataEnd
      unfold Rd.dataEnd
      split
      ·exact hk
      ·exact hk
    ·split
     ·unfold Rd.takeSum
      have ha:PalI (s.num x).accept.1:=PalI.accept (s:=s.num x) h
      split
      ·exact h
      ·split
       ·exact h
       ·split
        ·exact ha
        ·split
         ·exact ha
         ·exact ha
     ·exact h
theorem Rn.palI:∀ {l:List Nat} {s b:Rd},Rn s l b->(∀ x ∈ l,x<256)->PalI s->PalI b
 | [],s,b,h,_,k=>by cases h;exact k
 | x::l,s,b,h,hb,k=>Rn.palI h.2.2 (fun y hy=>hb y (by simp [hy])) (k.take (hb x (by simp)))
theorem palI0:PalI rd0:=fun _=>by show 0<256;omega
theorem snapFI {w W:World} {g:Nat} {d:Dc} (h:DI w W g d) (hs:ShowOk d.file) (hpal:PalI d.file) (hG:GrdAt w) :
  Calls Tryz.prog 24 #[.pointer (some ⟨g,0,none⟩)] W fun e W'=>SnX W d e W':=by
 obtain ⟨c,B,v⟩:=h.ex
 refine snap_f g 5957 c d W B v (Nat.le_refl _) ?_ hpal (hG.kept h.kept)
 by_cases q:d.file.hd.W=0
 ·exact Or.inl q
 ·refine Or.inr ⟨v.file.rw,v.file.tl,by omega,by omega,hs.clear,hs.sm.1,hs.hd.K,by omega,hs.hd.W,?_,hs.hd.H,hs.hd.L⟩
  rcases hs.sm.2 with e | e
  ·exact absurd e q
  ·exact e
theorem rdJ0:RdJ rd0:=by
 refine ⟨⟨hd0_ok,fun q=>absurd rfl q,by decide,fun i=>by show 0<256;omega,fun j=>by show 0<256;omega,fun q=>by cases q⟩,⟨by decide,fun _=>by decide,fun q => ?_,fun q => ?_,fun q => ?_,by decide,by decide,fun q => ?_,fun q => ?_,fun q => ?_,fun q => ?_⟩⟩
 all_goals first | exact absurd q (by decide)
theorem Rn.rdJ:∀ {l:List Nat} {s b:Rd},Rn s l b->(∀ x ∈ l,x<256)->RdJ s->RdJ b
 | [],s,b,h,_,k=>by cases h;exact k
 | x::l,s,b,h,hb,k=>Rn.rdJ h.2.2 (fun y hy=>hb y (by simp [hy])) (k.take (hb x (by simp)) h.2.1)
structure RdE (s:Rd):Prop where
 hd:RdHd s
 clear:∀ j,s.tl.clear j<256
theorem RdE.same {s t:Rd} (h:RdE s) (e1:t.hd=s.hd) (e2:t.tl.clear=s.tl.clear):RdE t:=by
 obtain ⟨⟨a1,a2,a3,a4,a5⟩,b⟩:=h
 exact ⟨⟨by rw[e1];exact a1,by rw[e1];exact a2,by rw[e1];exact a3,by rw[e1];exact a4,by rw[e1];exact a5⟩,by rw[e2];exact b⟩
theorem RdE.note {s:Rd} (h:RdE s):RdE s.note:=by
 have h1:RdE s.note1:=by
  unfold Rd.note1
  split
  ·exact h.same rfl rfl
  split
  ·exact h.same rfl rfl
  split
  ·unfold Rd.begin
   split
   ·exact h
   ·exact h.same rfl rfl
  ·exact h
 unfold Rd.note Rd.note2
 split
 ·exact h1.same rfl rfl
 ·exact h1
theorem RdE.keep {s:Rd} {x:Nat} (h:RdE s) (hx:x<256):RdE (s.keep x).1:=by
 unfold Rd.keep
 split
 ·exact h.same rfl rfl
 split
 ·exact h.same rfl rfl
 split
 ·exact ⟨⟨h.hd.W,h.hd.H,h.hd.D,h.hd.K,h.hd.L⟩,upd_lt h.clear hx⟩
 split
 ·unfold Rd.takeStream
  split
  ·exact h.same rfl rfl
  split
  ·exact h.same rfl rfl
  ·exact h.same rfl rfl
 ·exact h
theorem RdE.accept {s:Rd} (h:RdE s):RdE s.accept.1:=by
 unfold Rd.accept
 split
 ·unfold Rd.acceptHead
  split
  ·exact h
  ·rename_i q
   obtain ⟨h1,h2,h3,h4,h5,h6⟩:=headOf_lim (Classical.byContradiction q)
   exact ⟨⟨h1,h2,h3,h4,h5⟩,h.clear⟩
 split
 ·exact h
 ·exact h
theorem RdE.take {s:Rd} {x:Nat} (h:RdE s) (hx:x<256):RdE (s.take x).1:=by
 unfold Rd.take
 split
 ·unfold Rd.takeSign
  split
  ·exact h
  split
  ·exact h.same rfl rfl
  ·exact h.same rfl rfl
 split
 ·unfold Rd.takeLength
  split
  ·exact h.same rfl rfl
  split
  ·exact h.same rfl rfl
  ·exact h.same rfl rfl
 split
 ·unfold Rd.takeType
  have ht:RdE (s.typed x):=h.same rfl rfl
  split
  ·exact h.same rfl rfl
  split
  ·exact ht
  split
  ·exact ht.note.same rfl rfl
  ·exact ht.note.same rfl rfl
 split
 ·have hk:=RdE.keep (s:=s.summed x) (x:=x) (h.same rfl rfl) hx
  unfold Rd.takeData
  split
  ·exact hk
  ·show RdE ((s.summed x).keep x).1.dataEnd
   unfold Rd.dataEnd
   split
   ·exact hk.same rfl rfl
   ·exact hk.same rfl rfl
 split
 ·unfold Rd.takeSum
  have ha:RdE (s.num x).accept.1:=RdE.accept (s:=s.num x) (h.same rfl rfl)
  split
  ·exact h.same rfl rfl
  split
  ·exact h.same rfl rfl
  split
  ·exact ha
  split
  ·exact ha.same rfl rfl
  ·exact ha.same rfl rfl
 ·exact h
theorem feed_stop:∀ {l:List Nat} {d:Dc},RdJ d.file->(∀ x ∈ l,x<256)->d.err=0->(d.feed l).err≠0->∃ l1 x l2 b,l=l1++x::l2/\Rn d.file l1 b/\(b.take x).2≠0/\d.feed l=⟨(b.take x).1,d.count+l1.length,(b.take x).2,d.count+l1.length⟩
 | [],d,_,_,h0,he=>absurd h0 he
 | x::l,d,j,hx,h0,he=>by
  have hx0:=hx x (by simp)
  have ok:=j.takeOk hx0
  by_cases e:(d.file.take x).2=0
  ·have e1:d.one x={ d with file:=(d.file.take x).1,count:=d.count+1 }:=one_of h0 e
   have he':((d.one x).feed l).err≠0:=he
   rw[e1] at he'
   obtain ⟨l1,y,l2,b,q1,q2,q3,q4⟩:=feed_stop (l:=l) (d:={ d with file:=(d.file.take x).1,count:=d.count+1 }) (j.take hx0 e) (fun y hy=>hx y (by simp [hy])) h0 he'
   refine ⟨x::l1,y,l2,b,by rw[q1];rfl,⟨ok,e,q2⟩,q3,?_⟩
   show (d.one x).feed l=_
   rw[e1,q4,List.length_cons]
   show (⟨_,d.count+1+l1.length,_,d.count+1+l1.length⟩:Dc)=_
   rw[show d.count+1+l1.length=d.count+(l1.length+1) by omega]
  ·have e1:d.one x={ d with file:=(d.file.take x).1,err:=(d.file.take x).2,at1:=d.count }:=by
    unfold Dc.one;rw[if_neg (fun q=>q h0),if_pos e]
   have ne:(d.one x).err≠0:=by rw[e1];exact e
   refine ⟨[],x,l,d.file,rfl,rfl,e,?_⟩
   show (d.one x).feed l=_
   rw[feed_err ne,e1]
   rfl
theorem RdJ.feedOk {d:Dc} {l:List Nat} (j:RdJ d.file) (hx:∀ x ∈ l,x<256) (h0:d.err=0) (hc:d.count+l.length<=4294967296):FeedOk d l:=by
 intro k x e he
 have hk:k<l.length:=(List.getElem?_eq_some_iff.1 e).1
 have hx':∀ y ∈ l.take k,y<256:=fun y hy=>hx y (List.mem_of_mem_take hy)
 obtain ⟨b,hb⟩:=Rn.all j hx' rfl h0 he
 rw[hb.feed h0]
 refine ⟨(hb.rdJ hx' j).takeOk (hx x (List.mem_of_getElem? e)),?_⟩
 show d.count+(l.take k).length<=_
 rw[List.length_take]
 omega
theorem sign_at:∀ {l:List Nat} {s b:Rd},Rn s l b->s.part=0->s.taken+l.length<8->b.part=0/\b.taken=s.taken+l.length
 | [],s,b,h,p,_=>by cases h;exact ⟨p,rfl⟩
 | x::l,s,b,h,p,ht=>by
  rw[List.length_cons] at ht ⊢
  obtain ⟨_,e,g⟩:=h
  unfold Rd.take at e g
  rw[if_pos p] at e g
  unfold Rd.takeSign at e g
  by_cases q:8<=s.taken\/x≠signB s.taken
  ·rw[if_pos q] at e;exact absurd e (by show ¬ 1=0;omega)
  rw[if_neg q,if_neg (by omega)] at g
  have:=sign_at (s:={ s with taken:=s.taken+1 }) g p (by show s.taken+1+l.length<8;omega)
  refine ⟨this.1,this.2.trans ?_⟩
  show s.taken+1+l.length=_
  omega
theorem sign_one {s:Rd} {x:Nat} (p:s.part=0) (h:(s.take x).2=0):x=signB s.taken:=by
 unfold Rd.take at h
 rw[if_pos p] at h
 unfold Rd.takeSign at h
 by_cases q:8<=s.taken\/x≠signB s.taken
 ·rw[if_pos q] at h;exact absurd h (by show ¬ 1=0;omega)
 ·exact Classical.byContradiction fun e=>q (Or.inr e)
structure Brd (F:List Nat) (c:Nat):Prop where
 le:c<=F.length
 ex:∃ s,Rn rd0 (F.take c) s/\s.part=1/\s.taken=0/\s.number=0
theorem brd8 {F:List Nat} {fin:Rd} (g:Rn rd0 F fin) (h5:fin.part=5):Brd F 8:=by
 have hl:8<=F.length:=Classical.byContradiction fun hc=>by
  have:=sign_at g rfl (by show 0+F.length<8;omega)
  omega
 obtain ⟨a,g1,g2⟩:=g.few (m:=8) hl
 refine ⟨hl,a,g1,?_⟩
 obtain ⟨b,k1,k2⟩:=g1.few (m:=7) (by rw[List.length_take];omega)
 have hb:=sign_at k1 rfl (by show 0+_<8;rw[List.length_take,List.length_take];omega)
 rw[List.length_take,List.length_take,Nat.min_eq_left (by omega)] at hb
 obtain ⟨x,hx⟩:∃ x,(F.take 8).drop 7=[x]:=List.length_eq_one_iff.1 (by rw[List.length_drop,List.length_take];omega)
 rw[hx] at k2
 obtain ⟨_,e,k3⟩:=k2
 have k4:(b.take x).1=a:=k3
 have bt:b.taken=7:=hb.2.trans (by show 0+7=7;rfl)
 unfold Rd.take at e k4
 rw[if_pos hb.1] at e k4
 unfold Rd.takeSign at e k4
 by_cases q:8<=b.taken\/x≠signB b.taken
 ·rw[if_pos q] at e;exact absurd e (by show ¬ 1=0;omega)
 rw[if_neg q,if_pos (by omega)] at k4
 rw[<- k4]
 exact ⟨rfl,rfl,rfl⟩
structure BrdN (F:List Nat) (c n:Nat):Prop where
 num:∃ q0 q1 q2 q3,F[c]? = some q0/\F[c+1]? = some q1/\F[c+2]? = some q2/\F[c+3]? = some q3/\n=16777216*q0+65536*q1+256*q2+q3
 fit:c+12+n<=F.length
 body:∃ P q0 q1 q2 q3 m s a,F=P++([q0,q1,q2,q3]++m)/\P.length=c/\Rn rd0 P s/\Rn s [q0,q1,q2,q3] a/\Bdy a n 0 crcStart/\8+n<=m.length
 next:c+12+n<F.length->Brd F (c+12+n)
theorem Brd.n {F:List Nat} {fin:Rd} {c:Nat} (g:Rn rd0 F fin) (h5:fin.part=5) (h:Brd F c):∃ n,BrdN F c n:=by
 obtain ⟨s,g1,h1,h2,h3⟩:=h.ex
 obtain ⟨s',k1,k2⟩:=g.few h.le
 have es:=k1.det g1
 rw[es] at k2
 obtain ⟨q0,q1,q2,q3,m,n,e1,e2,e3,a,e4,e5,e6,t,e7,e8,e9⟩:=chunk_at k2 h5 h1 h2 h3
 have eF:F=F.take c++([q0,q1,q2,q3]++m):=by rw[<- e1,List.take_append_drop]
 have lc:(F.take c).length=c:=by rw[List.length_take];have:=h.le;omega
 have gt:∀ k,F[c+k]? = ([q0,q1,q2,q3]++m)[k]? := fun k=>by rw[eF,List.getElem?_append_right (by rw[lc];omega),lc,Nat.add_sub_cancel_left]
 have lF:F.length=c+4+m.length:=by
  have:=congrArg List.length eF
  rw[List.length_append,List.length_append,lc] at this
  have e4:[q0,q1,q2,q3].length=4:=rfl
  omega
 refine ⟨n,⟨q0,q1,q2,q3,by have:=gt 0;simpa using this,by have:=gt 1;simpa using this,by have:=gt 2;simpa using this,by have:=gt 3;simpa using this,by omega⟩,by omega,⟨F.take c,q0,q1,q2,q3,m,s,a,eF,lc,g1,e4,e5,e3⟩,fun hlt => ?_⟩
 rcases e9 with e9 | e9
 ·refine ⟨by omega,t,?_,e9⟩
  have et:F.take (c+12+n)=F.take c++([q0,q1,q2,q3]++m.take (8+n)):=by
   rw[show c+12+n=c+(4+(8+n)) by omega,List.take_add,e1,List.take_append,List.take_of_length_le (l:=[q0,q1,q2,q3]) (by show 4<=_;omega)]
   rw[show 4+(8+n) - [q0,q1,q2,q3].length=8+n from by show 4+(8+n) - 4=_;omega]
  rw[et]
  exact g1.append (e4.append e7)
 ·omega
def TurnAt (F:List Nat) (i:Nat):Prop:=i<8\/∃ c n,BrdN F c n/\c+4<=i/\i<c+12+n
theorem turn_no {F:List Nat} {fin a b':Rd} (g:Rn rd0 F fin) (hF:∀ x ∈ F,x<256) {i x y:Nat} (hi:F[i]? = some x) (hy:y<256) (hp:TurnAt F i) (ga:Rn rd0 (F.take i) a) (gy:Rn a (y::F.drop (i+1)) b'):y=x:=by
 have hlt:i<F.length:=(List.getElem?_eq_some_iff.1 hi).1
 have hx:F[i]=x:=(List.getElem?_eq_some_iff.1 hi).2
 have dF:F.drop i=x::F.drop (i+1):=by rw[<- hx];exact (List.getElem_cons_drop hlt).symm
 obtain ⟨a',k1,k2⟩:=g.few (m:=i) (by omega)
 rw[k1.det ga,dF] at k2
 rcases hp with h8 | ⟨c,n,bn,h1,h2⟩
 ·have hs:=sign_at ga rfl (by show 0+_<8;rw[List.length_take];omega)
  rw[sign_one hs.1 gy.2.1,sign_one hs.1 k2.2.1]
 ·obtain ⟨P,q0,q1,q2,q3,m,s,a4,eF,lP,g1,g2,bd,hm⟩:=bn.body
  obtain ⟨j,hj⟩:∃ j,i=c+4+j:=⟨i - (c+4),by omega⟩
  have hjm:j<m.length:=by omega
  have e4:[q0,q1,q2,q3].length=4:=rfl
  have tF:F.take i=P++([q0,q1,q2,q3]++m.take j):=by
   rw[eF,List.take_append,List.take_of_length_le (l:=P) (by omega),List.take_append,List.take_of_length_le (l:=[q0,q1,q2,q3]) (by omega),lP,e4,show i - c - 4=j by omega]
  have dm:m.drop j=x::F.drop (i+1):=by
   rw[<- dF,eF,List.drop_append,List.drop_of_length_le (l:=P) (by omega),List.nil_append,List.drop_append,List.drop_of_length_le (l:=[q0,q1,q2,q3]) (by omega),List.nil_append,lP,e4,show i - c - 4=j by omega]
  rw[tF] at ga
  obtain ⟨s',j1,j2⟩:=ga.cut
  rw[j1.det g1] at j2
  obtain ⟨a5,j3,j4⟩:=j2.cut
  rw[j3.det g2] at j4
  generalize F.drop (i+1)=R at *
  have lR:R.length=m.length - j - 1:=by
   have:=congrArg List.length dm
   rw[List.length_drop,List.length_cons] at this
   omega
  obtain ⟨k,hk⟩:∃ k,8+n=j+(k+1):=⟨8+n - j - 1,by omega⟩
  have sp:∀ z,z::R=(z::R.take k)++R.drop k:=fun z=>by rw[List.cons_append,List.take_append_drop]
  rw[sp] at gy k2
  obtain ⟨u,u1,_⟩:=k2.cut
  obtain ⟨v,v1,_⟩:=gy.cut
  have r1:=j4.append u1
  have r2:=j4.append v1
  have mm:∀ z ∈ m,z ∈ F:=fun z hz=>by rw[eF];simp [hz]
  refine (body_turn bd r1 r2 ?_ ?_ hy).symm
  ·rw[List.length_append,List.length_take,List.length_cons,List.length_take,lR]
   omega
  ·intro z hz
   rcases List.mem_append.1 hz with hz | hz
   ·exact hF z (mm z (List.mem_of_mem_take hz))
   ·refine hF z (mm z (List.mem_of_mem_drop (i:=j) ?_))
    rw[dm]
    rcases List.mem_cons.1 hz with hz | hz
    ·rw[hz];simp
    ·exact List.mem_cons_of_mem _ (List.mem_of_mem_take hz)
structure TurnD (a:Rd) (i:Nat) (G:List Nat) (d:Dc):Prop where
 feed:(⟨a,i,0,0⟩:Dc).feed G=d
 ok:FeedOk ⟨a,i,0,0⟩ G
 err:d.err≠0
 at1:i<=d.at1
 show':ShowOk d.file
 pal:PalI d.file
theorem turn_d {F:List Nat} {fin:Rd} (g:Rn rd0 F fin) (h5:fin.part=5) (hF:∀ x ∈ F,x<256) (hl:F.length<=4294967296) {i x y:Nat} (hi:F[i]? = some x) (hy:y<256) (hne:y≠x) (hp:TurnAt F i):∃ a,Rn rd0 (F.take i) a/\∃ d,TurnD a i (y::F.drop (i+1)) d:=by
 have hlt:i<F.length:=(List.getElem?_eq_some_iff.1 hi).1
 obtain ⟨a,k1,k2⟩:=g.few (m:=i) (by omega)
 have hF1:∀ z ∈ F.take i,z<256:=fun z hz=>hF z (List.mem_of_mem_take hz)
 have j:=k1.rdJ hF1 rdJ0
 have hG:∀ z ∈ y::F.drop (i+1),z<256:=fun z hz=>by
  rcases List.mem_cons.1 hz with hz | hz
  ·rw[hz];exact hy
  ·exact hF z (List.mem_of_mem_drop hz)
 have he:((⟨a,i,0,0⟩:Dc).feed (y::F.drop (i+1))).err≠0:=fun he=>by
  obtain ⟨b',hb⟩:=Rn.all j hG (d:=⟨a,i,0,0⟩) rfl rfl he
  exact hne (turn_no g hF hi hy hp k1 hb)
 have ok:FeedOk ⟨a,i,0,0⟩ (y::F.drop (i+1)):=RdJ.feedOk (d:=⟨a,i,0,0⟩) j hG rfl (by show i+_<=_;rw[List.length_cons,List.length_drop];omega)
 obtain ⟨l1,z,l2,b,q1,q2,q3,q4⟩:=feed_stop (d:=⟨a,i,0,0⟩) j hG rfl he
 have hz:z<256:=hG z (by rw[q1];simp)
 have hl1:∀ w ∈ l1,w<256:=fun w hw=>hG w (by rw[q1];simp [hw])
 have jb:=q2.rdJ hl1 j
 have sb:SmI b:=q2.smI (k1.smI smI0)
 have pb:PalI b:=q2.palI hl1 (k1.palI hF1 palI0)
 have eb:RdE (b.take z).1:=RdE.take ⟨jb.b.hd,jb.b.clear⟩ hz
 refine ⟨a,k1,_,rfl,ok,he,?_,?_,?_⟩
 ·rw[q4];show i<=i+l1.length;omega
 ·rw[q4];exact ⟨eb.hd,eb.clear,sb.take (jb.takeOk hz)⟩
 ·rw[q4];exact pb.take hz
theorem dnumber_x (x c:Nat) (ff:ByteArray) (w:World) (h14:w.cell? ⟨x,14,none⟩=some (.string ff)) (hc:c+4<=ff.size) (hs:ff.size<=1000000000) (y0 y1 y2 y3:Nat) (e0:(bsOf ff)[c]? = some y0) (e1:(bsOf ff)[c+1]? = some y1) (e2:(bsOf ff)[c+2]? = some y2) (e3:(bsOf ff)[c+3]? = some y3) :
  Calls Tryz.prog 30 #[.pointer (some ⟨x,0,none⟩),.int .i64 (c:Int)] w fun r w'=>r = .returned (.int .i64 ((16777216*y0+65536*y1+256*y2+y3:Nat):Int))/\w'=w:=by
 have get:∀ k (h:k<ff.size) y,(bsOf ff)[k]? = some y->ff[k].toNat=y:=fun k h y e=>by
  rw[<- bsOf_get ff k h]
  exact (List.getElem?_eq_some_iff.1 e).2
 have f0:=get c (by omega) y0 e0
 have f1:=get (c+1) (by omega) y1 e1
 have f2:=get (c+2) (by omega) y2 e2
 have f3:=get (c+3) (by omega) y3 e3
 have b0:y0<256:=by rw[<- f0];exact UInt8.toNat_lt _
 have b1:y1<256:=by rw[<- f1];exact UInt8.toNat_lt _
 have b2:y2<256:=by rw[<- f2];exact UInt8.toNat_lt _
 have b3:y3<256:=by rw[<- f3];exact UInt8.toNat_lt _
 have HV:Hid (∃ V:Nat->Nat,V 0=0/\V 4=16777216*y0+65536*y1+256*y2+y3/\(∀ j,j<4->∀ h:c+j<ff.size,V (j+1)=256*V j+ff[c+j].toNat)/\∀ j,j<=4->V j<4294967296):=by
  refine ⟨fun j=>match j with | 0=>0 | 1=>y0 | 2=>256*y0+y1 | 3=>65536*y0+256*y1+y2 | _=>16777216*y0+65536*y1+256*y2+y3,rfl,rfl,fun j hj h => ?_,fun j hj => ?_⟩
  ·match j,hj with
   | 0,_=>show y0=256*0+ff[c].toNat;omega
   | 1,_=>show 256*y0+y1=256*y0+ff[c+1].toNat;omega
   | 2,_=>show 65536*y0+256*y1+y2=256*(256*y0+y1)+ff[c+2].toNat;omega
   | 3,_=>show 16777216*y0+65536*y1+256*y2+y3=256*(65536*y0+256*y1+y2)+ff[c+3].toNat;omega
  ·match j,hj with
   | 0,_=>show 0<4294967296;omega
   | 1,_=>show y0<4294967296;omega
   | 2,_=>show 256*y0+y1<4294967296;omega
   | 3,_=>show 65536*y0+256*y1+y2<4294967296;omega
   | 4,_=>show 16777216*y0+65536*y1+256*y2+y3<4294967296;omega
 obtain ⟨V,v0,v4,vs,vb⟩:=HV.out
 rw[<- v4]
 replace v0:Hid _:=v0
 replace vs:Hid _:=vs
 replace vb:Hid _:=vb
 clear HV v4 f0 f1 f2 f3 e0 e1 e2 e3 get b0 b1 b2 b3
 obtain ⟨c4,hc4⟩:∃ c4,c4=c+4:=⟨_,rfl⟩
 have ec4:(c:Int)+4=(c4:Int):=by omega
 have hc4b:c4<=ff.size:=by omega
 replace hc4:Hid _:=hc4
 go_enter Tryz.func30,Tryz.ntmps30
 go_wp2_with fail
 go_loopg [5,6] 4 (fun m v5 v6 W=>∃ j:Nat,m=4 - j/\j<=4/\v6 = .int .i64 ((c+j:Nat):Int)/\v5 = .int .i64 (V j:Int)/\W=w)
 case atStart=>exact ⟨0,by omega,by omega,rfl,by rw[v0.out];rfl,rfl⟩
 case round=>
  obtain ⟨j,hgj,hj4,rfl,rfl,rfl⟩:=hrel
  replace hgj:Hid _:=hgj
  obtain ⟨d,hd⟩:∃ d,d=c+j:=⟨_,rfl⟩
  rw[<- hd]
  have hVb:=vb.out j hj4
  by_cases hjl:j<4
  ·have hdl:(d:Int)<(c4:Int):=by have:=hc4.out;omega
   have hds:d<ff.size:=by have:=hc4.out;omega
   have hds':(d:Int)<(ff.size:Int):=by omega
   have d0:(0:Int)<=(d:Int):=by omega
   have HN:Hid (V (j+1)=256*V j+ff[d].toNat):=by
    have:=vs.out j hjl (by omega)
    subst hd
    exact this
   have hVb2:=vb.out (j+1) (by omega)
   obtain ⟨d1,hd1⟩:∃ d1,d1=d+1:=⟨_,rfl⟩
   have ed1:(d:Int)+1=(d1:Int):=by omega
   have HD1:Hid (d1=c+(j+1)):=by show d1=_;omega
   have hx:ff[d].toNat<256:=UInt8.toNat_lt _
   obtain ⟨V1,hV1⟩:∃ V1,V1=V (j+1):=⟨_,rfl⟩
   rw[<- hV1] at HN hVb2
   replace hV1:Hid _:=hV1
   generalize V j=V0 at *
   have HE:Hid (V1=256*V0+ff[d].toNat):=HN.out
   have eV:256*(V0:Int)+(ff[d].toNat:Int)=(V1:Int):=by have:=HN.out;omega
   replace hd:Hid _:=hd
   replace hd1:Hid _:=hd1
   go_wp2_with fail
   go_roundg (4 - (j+1))
   case measure=>rw[hgj.out];omega
   case rel=>exact ⟨j+1,rfl,by omega,by rw[<- HD1.out],by rw[<- hV1.out],rfl⟩
  ·have hdl:¬ (d:Int)<(c4:Int):=by have:=hc4.out;omega
   have hj:j=4:=by omega
   subst hj
   replace hd:Hid _:=hd
   go_wp2_with fail
   go_ret
   exact ⟨rfl,rfl⟩
theorem close_err (b n:Nat) (c:Nat->Value) (d:Dc) (w:World) (hB:Blk w b n c) (hV:DcV c 0 d) (hn:5957<=n) (he:d.err≠0) :
  Calls Tryz.prog 23 #[.pointer (some ⟨b,0,none⟩)] w fun e w'=>e = .returned (.tuple #[.int .i64 (d.err:Int),.int .i64 (d.at1:Int)])/\Kept w w':=by
 have k1:=hB.at (i:=5955) (by omega) hV.err
 have k2:=hB.at (i:=5956) (by omega) hV.at1
 replace k1:w.cell? ⟨b,5955,none⟩=some (.int .i64 (d.err:Int)):=k1
 replace k2:w.cell? ⟨b,5956,none⟩=some (.int .i64 (d.at1:Int)):=k2
 have h1:((d.err:Int) == 0)=false:=by rw[beq_eq_false_iff_ne];omega
 generalize d.err=E at *
 generalize d.at1=A at *
 clear hB hV he
 go_enter Tryz.func23,Tryz.ntmps23
 go_wp2_with fail
 go_quiet (fail)
 go_wp2
 go_ret2
 exact ⟨rfl,(Kept.refl _).drewN _⟩
theorem closeErrDI {w W:World} {g:Nat} {d:Dc} (h:DI w W g d) (he:d.err≠0) :
  Calls Tryz.prog 23 #[.pointer (some ⟨g,0,none⟩)] W fun e W'=>e = .returned (.tuple #[.int .i64 (d.err:Int),.int .i64 (d.at1:Int)])/\DI w W' g d/\Kept W W':=by
 obtain ⟨c,b,v⟩:=h.ex
 refine (close_err g 5957 c d W b v (Nat.le_refl _) he).mono ?_
 rintro e W' ⟨rfl,k⟩
 exact ⟨rfl,h.on k,k⟩
theorem feedGI {w W:World} {g:Nat} {d d':Dc} (t:ByteArray) (h:DI w W g d) (hk:FeedOk d (bsOf t)) (hd:d.feed (bsOf t)=d') (hs:t.size<=2147483648) (hG:AllAt w) :
  Calls Tryz.prog 22 #[.pointer (some ⟨g,0,none⟩),.string t] W fun e W'=>e = .returned (.tuple #[.int .i64 (d'.err:Int),.int .i64 (d'.at1:Int)])/\DI w W' g d'/\Fr1 g W W':=by
 obtain ⟨c,b,v⟩:=h.ex
 rw[<- hd]
 refine (feed_x g 5957 t c d W b v (Nat.le_refl _) hk hs (hG.kept h.kept) (hG.new h.lo)).mono ?_
 rintro e W' ⟨rfl,k⟩
 obtain ⟨e',k1,k2,k3⟩:=id k
 exact ⟨rfl,h.step k,k3⟩
def pxL (d:Dc):List Int:=if d.file.hd.W=0 then [] else (List.range (4*(d.file.hd.W*d.file.hd.H))).map (fun j=>pxP d.file.rw d.file.tl d.file.hd (j / 4 % d.file.hd.W) (j / 4 / d.file.hd.W) (j % 4))
def SnT (W:World) (d:Dc) (e:Ending) (W':World):Prop:=∃ (cs:List Value) (p:Option Addr) (n c:Nat),e = .returned (.agg cs.toArray)/\cs.length=11/\(∀ v ∈ cs,v.oneCell'=true)/\cs[0]? = some (.int .i64 (d.err:Int))/\cs[1]? = some (.int .i64 (d.at1:Int))/\cs[2]? = some (.bool false)/\cs[9]? = some (.slice p n c)/\n=(pxL d).length/\LAt W' .i64 (.slice p (pxL d).length c) (pxL d)/\(∀ g',sliceBlock (.slice p n c)=some g'->W.heap.size<=g')/\Kept W W'
theorem snapTI {w W:World} {g:Nat} {d:Dc} (h:DI w W g d) (he:d.err≠0) (hs:ShowOk d.file) (hpal:PalI d.file) (hG:GrdAt w) :
  Calls Tryz.prog 24 #[.pointer (some ⟨g,0,none⟩)] W fun e W'=>SnT W d e W':=by
 refine (snapFI h hs hpal hG).mono ?_
 rintro e W' ⟨k,⟨q,rfl⟩ | ⟨q,gk,gp,gs,rfl,e2,e3,e4⟩⟩
 ·rw[decide_eq_false he,Bool.false_and]
  have ep:pxL d=[]:=if_pos q
  refine ⟨_,none,0,0,rfl,rfl,?_,rfl,rfl,rfl,rfl,by rw[ep];rfl,?_,fun g' q'=>(by cases q'),k⟩
  ·intro v hv
   unfold snNo at hv
   simp only [List.mem_cons,List.not_mem_nil,or_false] at hv
   rcases hv with rfl | rfl | rfl | rfl | rfl | rfl | rfl | rfl | rfl | rfl | rfl<;>rfl
  ·rw[ep]
   exact ⟨⟨none,0,rfl⟩,fun p c _ i hi=>absurd hi (by show ¬ i<0;omega)⟩
 ·rw[decide_eq_false he,Bool.false_and]
  have ep:pxL d=(List.range (4*(d.file.hd.W*d.file.hd.H))).map (fun j=>pxP d.file.rw d.file.tl d.file.hd (j / 4 % d.file.hd.W) (j / 4 / d.file.hd.W) (j % 4)):=if_neg q
  refine ⟨_,some ⟨gp,0,none⟩,4*(d.file.hd.W*d.file.hd.H),4*(d.file.hd.W*d.file.hd.H),rfl,rfl,?_,rfl,rfl,rfl,rfl,by rw[ep,List.length_map,List.length_range],?_,fun g' q'=>(by cases q';exact e3.1),k⟩
  ·intro v hv
   unfold snW at hv
   simp only [List.mem_cons,List.not_mem_nil,or_false] at hv
   rcases hv with rfl | rfl | rfl | rfl | rfl | rfl | rfl | rfl | rfl | rfl | rfl<;>rfl
  ·rw[ep]
   exact lat_of (fun j hj=>by rw[Nat.zero_add];exact e3.2.2 j hj)
theorem pxL_len {d:Dc} (hs:ShowOk d.file):(pxL d).length<=100000:=by
 unfold pxL
 split
 ·show 0<=100000;omega
 ·rw[List.length_map,List.length_range]
  have:d.file.hd.W*d.file.hd.H<=16*16:=Nat.mul_le_mul hs.hd.W hs.hd.H
  omega
structure RowT (W:World) (B:Nat) (ff:ByteArray):Prop where
 lt:B<W.heap.size
 cell:∀ j y:Nat,(bsOf ff)[j]? = some y->W.cell? ⟨B,j,none⟩=some (.int .u8 (y:Int))
 fz:∀ j,j<ff.size->W.frozen? ⟨B,j,none⟩=false
theorem bsOf_data (ff:ByteArray) (j y:Nat) (h:(bsOf ff)[j]? = some y):∃ hj:j<ff.data.size,ff.data[j].toNat=y:=by
 unfold bsOf at h
 rw[List.getElem?_map] at h
 obtain ⟨u,h1,h2⟩:=Option.map_eq_some_iff.1 h
 obtain ⟨h3,h4⟩:=List.getElem?_eq_some_iff.1 h1
 rw[Array.length_toList] at h3
 refine ⟨h3,?_⟩
 rw[<- h2,<- h4,Array.getElem_toList]
theorem conv_t (w:World) (ff:ByteArray):∃ cap W,ff.size<=cap/\(convert 9 56 (.string ff)).run Tryz.prog w = .ok (.slice (some ⟨w.heap.size,0,none⟩) ff.size cap) W/\RowT W w.heap.size ff/\Kept w W:=by
 have hc:=run_bytes_of_string (P:=Tryz.prog) w 9 56 5 ff Tryz.underlying9 Tryz.underlying56 Tryz.underlying5
 have hcap:ff.size<=grownCap w ff.size 0 5:=grownCap_ge w ff.size 0 5
 generalize grownCap w ff.size 0 5=cap at *
 have hsz:ff.size<=(bytesRow ff cap).size:=by
  unfold bytesRow
  rw[Array.size_append,Array.size_map]
  show ff.data.size<=_
  omega
 refine ⟨cap,_,hcap,hc,⟨?_,fun j y e => ?_,fun j hj => ?_⟩,?_⟩
 ·show w.heap.size<(w.heap.push _).size
  rw[Array.size_push];omega
 ·obtain ⟨h1,h2⟩:=bsOf_data ff j y e
  have:=World.cell?_alloc_mark w.drew (bytesRow ff cap) 5 ((bytesRow ff cap).size,(bytesRow ff cap).size+1) j
  rw[bytesRow_at ff cap j h1,h2] at this
  exact this
 ·have:=World.frozen?_alloc_mark w.drew (bytesRow ff cap) 5 (bytesRow ff cap).size ((bytesRow ff cap).size+1) j
  rw[decide_eq_false (by omega),Bool.false_and] at this
  exact this
 ·exact Below.alloc ((Kept.refl w).drewN 1) (Nat.le_refl _) _
