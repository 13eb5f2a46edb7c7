import Derived.Test.YthniahejjamhgaaGreatDoorRoD0
set_option maxRecDepth 100000
set_option maxHeartbeats 6400000
namespace Go.Proofs.YthniahejjamhgaaGreatDoor
open Go.RowKit
set_option linter.unusedSimpArgs false
set_option linter.unusedVariables false
theorem zero288:Tryz.zeroCells133=Array.replicate 288 (.int .u8 0):=by kernel_rfl
theorem size288:(Tryz.prog.info? 133).map (·.size)=some 288:=by kernel_rfl
theorem fixlit_any (w:World) :
  Calls Tryz.prog 98 #[] w fun r w'=>∃ cs:List Value,r = .returned (.agg cs.toArray)/\cs.length=288/\(∀ i,i<288->∃ z:Int,0<=z/\z<16/\cs[i]? = some (.int .u8 z))/\Kept w w':=by
 have hR:Hid (Rng .u8 16 ((w.alloc (Obj.cells Tryz.zeroCells133 133)).alloc (Obj.cells Tryz.zeroCells133 133)) (w.heap.size+1) 0 288):=by
  intro j hj;refine ⟨0,by omega,by omega,?_⟩;rw[World.cell?_alloc_at _ _ _ _ (by simp)];rw[zero288];simp [hj]
 have hT:Hid (((w.alloc (Obj.cells Tryz.zeroCells133 133)).alloc (Obj.cells Tryz.zeroCells133 133)).there w.heap.size 0 288):=by
  refine World.there_alloc ?_ _;intro j hj;refine ⟨?_,World.frozen?_alloc_at _ _ _ _ rfl⟩;rw[World.cell?_alloc_at _ _ _ _ rfl,zero288];simp;omega
 have hF:Hid (∀ k,((w.alloc (Obj.cells Tryz.zeroCells133 133)).alloc (Obj.cells Tryz.zeroCells133 133)).frozen? ⟨w.heap.size+1,k,none⟩=false):=fun k=>World.frozen?_alloc_at _ _ _ _ (by simp)
 have hK:Hid (Kept w ((w.alloc (Obj.cells Tryz.zeroCells133 133)).alloc (Obj.cells Tryz.zeroCells133 133))):=((Below.refl _ _).alloc (Nat.le_refl _) _).alloc (by simp) _;go_enter Tryz.func98,Tryz.ntmps98;go_wp2;generalize ((w.alloc (Obj.cells Tryz.zeroCells133 133)).alloc (Obj.cells Tryz.zeroCells133 133))=w0 at *;go_loopw [2] (fun v W=>∃ k:Nat,k<=288/\v = .int .i64 (k:Int)/\Rng .u8 16 W (w.heap.size+1) 0 288/\W.there w.heap.size 0 288/\(∀ k,W.frozen? ⟨w.heap.size+1,k,none⟩=false)/\Kept w W) (fun v _=>288 - (intOf v).toNat)
 case atStart=>exact ⟨0,by omega,rfl,hR.out,hT.out,hF.out,hK.out⟩
 case round=>
  obtain ⟨k,hk,rfl,hr,ht,hf,hK2⟩:=hrel;have hfk:=hf k;replace hf:Hid (∀ k,wr.frozen? ⟨w.heap.size+1,k,none⟩=false):=hf;replace ht:Hid (wr.there w.heap.size 0 288):=ht;replace hK2:Hid (Kept w wr):=hK2;clear hR hT hF hK;by_cases hlt:k<288
  ·obtain ⟨z,hz0,hz1,hc⟩:=hr k hlt
   replace hr:Hid (Rng .u8 16 wr (w.heap.size+1) 0 288):=hr;rw[Nat.zero_add] at hc;have i0:(0:Int)<=(k:Int):=by omega
   have i1:(k:Int)<288:=by omega
   have fin:∀ y:Int,0<=y->y<16->(Rng .u8 16 (wr.setCell ⟨w.heap.size+1,k,none⟩ (.int .u8 y)) (w.heap.size+1) 0 288/\(wr.setCell ⟨w.heap.size+1,k,none⟩ (.int .u8 y)).there w.heap.size 0 288/\(∀ j,(wr.setCell ⟨w.heap.size+1,k,none⟩ (.int .u8 y)).frozen? ⟨w.heap.size+1,j,none⟩=false)/\Kept w (wr.setCell ⟨w.heap.size+1,k,none⟩ (.int .u8 y))):=by
    intro y h0 h1;refine ⟨hr.out.set k y h0 h1,there_set ht.out _ (by omega),fun j=>by rw[World.frozen?_setCell];exact hf.out j,hK2.out.setCell (by simp) _⟩
   replace fin:Hid _:=fin;have hcase:k<144\/(144<=k/\k<256)\/(256<=k/\k<280)\/280<=k:=by omega
   rcases hcase with q | ⟨q1,q2⟩ | ⟨q1,q2⟩ | q
   all_goals
    go_wp2;exact ⟨⟨k+1,by omega,by go_num,fin.out _ (by omega) (by omega)⟩,by simp [intOf];omega⟩
  ·obtain ⟨cs,hcl,hcr,hcz⟩:=hr.list
   have hone:=ints_one hcl hcz;replace hcz:Hid _:=hcz;replace hone:Hid _:=hone;have hcl':Hid (cs.length=288):=hcl;clear hcl hr;have i1:¬ (k:Int)<288:=by omega
   have hi:(Tryz.prog.info? 133).map (·.size)=some cs.length:=by rw[hcl'.out];exact size288
   replace hi:Hid _:=hi;replace hcr:Hid _:=hcr;go_wp2;refine wp_load_mid 133 _ rfl (w.heap.size+1) 0 rfl cs _ hcr.out Tryz.underlying133 rfl hi.out ?_;have hsc:(storeCells ⟨w.heap.size,0,none⟩ cs).run Tryz.prog wr = .ok () (wr.setCells w.heap.size 0 cs):=by
    have:=run_storeCells_cells (P:=Tryz.prog) w.heap.size 0 cs 0 wr (fun j hj=>by simpa using (ht.out j (by rw[<- hcl'.out];exact hj)).1) (fun j hj=>by simpa using (ht.out j (by rw[<- hcl'.out];exact hj)).2) hone.out
    simpa using this
   go_wp2;have hld:(loadVar 133 ⟨w.heap.size,0,none⟩).run Tryz.prog (wr.setCells w.heap.size 0 cs) = .ok (.agg cs.toArray) (wr.setCells w.heap.size 0 cs) :=
    run_loadVar_mid _ _ _ _ cs _ (World.rangeAt_setCells_same _ _ _ _ (by rw[hcl'.out];exact ht.out)) Tryz.underlying133 rfl hi.out
   refine bodyPost_ret (v := .agg cs.toArray) ?_ rfl ⟨cs,rfl,hcl'.out,hcz.out,Kept.setCells (Nat.le_refl _) _ _ hK2.out⟩;exact results_cell1 rfl _ _ _ _ _ rfl hld
theorem zero576:Tryz.zeroCells135=Array.replicate 288 (.int .u32 0)++Array.replicate 288 (.int .u8 0):=by kernel_rfl
theorem size576:(Tryz.prog.info? 135).map (·.size)=some 576:=by kernel_rfl
theorem get576 (j:Nat) (h:j<288):(Array.replicate 288 (Value.int .u32 0)++Array.replicate 288 (Value.int .u8 0))[j]? = some (.int .u32 0):=by
 rw[Array.getElem?_append_left (by simpa using h)];simp [h]
theorem get576' (j:Nat) (h:j<288):(Array.replicate 288 (Value.int .u32 0)++Array.replicate 288 (Value.int .u8 0))[288+j]? = some (.int .u8 0):=by
 rw[Array.getElem?_append_right (by simp)];simp [h]
structure BkIn (W:World) (b:Nat):Prop where
 cd:Rng .u32 4294967296 W b 0 288
 sz:Rng .u8 16 W b 288 288
 fz:∀ k,W.frozen? ⟨b,k,none⟩=false
theorem BkIn.setc {W:World} {b:Nat} (h:BkIn W b) (i:Nat) (hi:i<288) (z:Int) (h0:0<=z) (h1:z<4294967296):BkIn (W.setCell ⟨b,i,none⟩ (.int .u32 z)) b:=
 ⟨h.cd.set i z h0 h1,h.sz.fr (fun j hj _=>cell_set_other _ _ _ _ _ (by omega)),fun k=>by rw[World.frozen?_setCell];exact h.fz k⟩
theorem BkIn.sets {W:World} {b:Nat} (h:BkIn W b) (i:Nat) (hi:i<288) (z:Int) (h0:0<=z) (h1:z<16):BkIn (W.setCell ⟨b,288+i,none⟩ (.int .u8 z)) b:=
 ⟨h.cd.fr (fun j _ hj=>cell_set_other _ _ _ _ _ (by omega)),h.sz.set (288+i) z h0 h1,fun k=>by rw[World.frozen?_setCell];exact h.fz k⟩
