import Derived.Test.YtmbmecfodigciaaGreatDoorTu03
set_option maxRecDepth 100000
set_option maxHeartbeats 6400000
namespace Go.Proofs.YtmbmecfodigciaaGreatDoor
open Go.RowKit Px
set_option linter.unusedSimpArgs false
set_option linter.unusedVariables false
theorem Blk.congr' {w:World} {b n:Nat} {c d:Nat->Value} (h:Blk w b n c) (e:∀ i,i<n->d i=c i):Blk w b n d:=⟨fun i hi=>by rw[e i hi];exact h.cell i hi,h.fz,h.lt⟩
def fixLen (i:Nat):Nat:=if i<144 then 8 else if i<256 then 9 else if i<280 then 7 else 8
def u8C (f:Nat->Nat) (k:Nat):Nat->Value:=fun j => .int .u8 (((if j<k then f j else 0:Nat)):Int)
theorem u8C_set (f:Nat->Nat) (k j:Nat):u8C f (k+1) j=upd (u8C f k) k (.int .u8 (f k:Int)) j:=by
 unfold u8C upd
 by_cases h:j=k
 ·subst h;rw[if_pos rfl,if_pos (by omega)]
 ·rw[if_neg h]
  show Value.int .u8 (((if j<k+1 then f j else 0:Nat)):Int)=Value.int .u8 (((if j<k then f j else 0:Nat)):Int)
  by_cases h2:j<k
  ·rw[if_pos h2,if_pos (by omega)]
  ·rw[if_neg h2,if_neg (by omega)]
theorem jzero288:Tryz.zeroCells149=Array.replicate 288 (.int .u8 0):=by kernel_rfl
theorem jsize288:(Tryz.prog.info? 149).map (·.size)=some 288:=by kernel_rfl
theorem jzero32:(#[.int .u8 0,.int .u8 0,.int .u8 0,.int .u8 0,.int .u8 0,.int .u8 0,.int .u8 0,.int .u8 0,.int .u8 0,.int .u8 0,.int .u8 0,.int .u8 0,.int .u8 0,.int .u8 0,.int .u8 0,.int .u8 0,.int .u8 0,.int .u8 0,.int .u8 0,.int .u8 0,.int .u8 0,.int .u8 0,.int .u8 0,.int .u8 0,.int .u8 0,.int .u8 0,.int .u8 0,.int .u8 0,.int .u8 0,.int .u8 0,.int .u8 0,.int .u8 0]:Array Value)=Array.replicate 32 (.int .u8 0):=rfl
theorem jsize32:(Tryz.prog.info? 213).map (·.size)=some 32:=by kernel_rfl
theorem blk_rep (w:World) (m:Nat) (v:Value) (t:TypeId) (f:Nat->Nat) (hv:v = .int .u8 0):Blk (w.alloc (Obj.cells (Array.replicate m v) t)) w.heap.size m (u8C f 0):=by
 refine (Blk.new w (Array.replicate m v) t m (by simp)).congr' (fun i hi => ?_)
 unfold u8C
 rw[if_neg (by omega),Array.getD_eq_getD_getElem?,Array.getElem?_replicate,if_pos hi,hv];rfl
theorem u8C_one (f:Nat->Nat) (n:Nat):∀ v ∈ (List.range n).map (u8C f n),v.oneCell'=true:=by
 intro v hv
 rw[List.mem_map] at hv
 obtain ⟨j,_,rfl⟩:=hv
 rfl
theorem fixlit_x (w:World) :
  Calls Tryz.prog 97 #[] w fun r w'=>r = .returned (.agg ((List.range 288).map (u8C fixLen 288)).toArray)/\Kept w w':=by
 obtain ⟨cs,hcs0⟩:∃ cs,cs=(List.range 288).map (u8C fixLen 288):=⟨_,rfl⟩
 rw[<- hcs0]
 have HCS:Hid (cs=(List.range 288).map (u8C fixLen 288)):=hcs0
 clear hcs0
 have B0:Hid (Blk ((w.alloc (Obj.cells Tryz.zeroCells149 149)).alloc (Obj.cells Tryz.zeroCells149 149)) (w.heap.size+1) 288 (u8C fixLen 0)):=by
  have:=blk_rep (w.alloc (Obj.cells Tryz.zeroCells149 149)) 288 (.int .u8 0) 149 fixLen rfl
  rw[<- jzero288] at this
  have e:(w.alloc (Obj.cells Tryz.zeroCells149 149)).heap.size=w.heap.size+1:=by simp
  rw[e] at this
  exact this
 have T0:Hid (((w.alloc (Obj.cells Tryz.zeroCells149 149)).alloc (Obj.cells Tryz.zeroCells149 149)).there w.heap.size 0 288):=by
  refine World.there_alloc ?_ _
  have:=(blk_rep w 288 (.int .u8 0) 149 fixLen rfl).there (k:=0) (m:=288) (by omega)
  rw[<- jzero288] at this
  exact this
 have K0:Hid (Kept w ((w.alloc (Obj.cells Tryz.zeroCells149 149)).alloc (Obj.cells Tryz.zeroCells149 149))):=((Below.refl _ _).alloc (Nat.le_refl _) _).alloc (by simp) _
 go_enter Tryz.func97,Tryz.ntmps97
 go_wp2
 generalize ((w.alloc (Obj.cells Tryz.zeroCells149 149)).alloc (Obj.cells Tryz.zeroCells149 149))=w0 at *
 go_loopw [2] (fun v W=>∃ k:Nat,k<=288/\v = .int .i64 (k:Int)/\Blk W (w.heap.size+1) 288 (u8C fixLen k)/\W.there w.heap.size 0 288/\Kept w W) (fun v _=>288 - (intOf v).toNat)
 case atStart=>exact ⟨0,by omega,rfl,B0.out,T0.out,K0.out⟩
 case round=>
  obtain ⟨k,hk,rfl,hb,ht,hK2⟩:=hrel
  have hfk:=hb.fz k
  clear B0 T0 K0
  replace hb:Hid (Blk wr (w.heap.size+1) 288 (u8C fixLen k)):=hb
  replace ht:Hid (wr.there w.heap.size 0 288):=ht
  replace hK2:Hid (Kept w wr):=hK2
  by_cases hlt:k<288
  ·have hc:=hb.out.cell k hlt
   obtain ⟨OV,hc⟩:∃ OV,wr.cell? ⟨w.heap.size+1,k,none⟩=some OV:=⟨_,hc⟩
   have i0:(0:Int)<=(k:Int):=by omega
   have i1:(k:Int)<288:=by omega
   have fin:Hid (∀ y:Int,y=(fixLen k:Int)->(Blk (wr.setCell ⟨w.heap.size+1,k,none⟩ (.int .u8 y)) (w.heap.size+1) 288 (u8C fixLen (k+1))/\(wr.setCell ⟨w.heap.size+1,k,none⟩ (.int .u8 y)).there w.heap.size 0 288/\Kept w (wr.setCell ⟨w.heap.size+1,k,none⟩ (.int .u8 y)))):=fun y hy=>by
    subst hy
    exact ⟨(hb.out.set hlt _).congr' (fun i _=>u8C_set fixLen k i),there_set ht.out _ (by omega),hK2.out.setCell (by simp) _⟩
   have hcase:k<144\/(144<=k/\k<256)\/(256<=k/\k<280)\/280<=k:=by omega
   rcases hcase with q | ⟨q1,q2⟩ | ⟨q1,q2⟩ | q
   ·have e:=fin.out 8 (by unfold fixLen;rw[if_pos q];rfl)
    replace e:Hid _:=e
    go_wp2
    exact ⟨⟨k+1,by omega,by go_num,e.out⟩,by simp [intOf];omega⟩
   ·have e:=fin.out 9 (by unfold fixLen;rw[if_neg (by omega),if_pos q2];rfl)
    replace e:Hid _:=e
    go_wp2
    exact ⟨⟨k+1,by omega,by go_num,e.out⟩,by simp [intOf];omega⟩
   ·have e:=fin.out 7 (by unfold fixLen;rw[if_neg (by omega),if_neg (by omega),if_pos q2];rfl)
    replace e:Hid _:=e
    go_wp2
    exact ⟨⟨k+1,by omega,by go_num,e.out⟩,by simp [intOf];omega⟩
   ·have e:=fin.out 8 (by unfold fixLen;rw[if_neg (by omega),if_neg (by omega),if_neg (by omega)];rfl)
    replace e:Hid _:=e
    go_wp2
    exact ⟨⟨k+1,by omega,by go_num,e.out⟩,by simp [intOf];omega⟩
  ·have hk8:k=288:=by omega
   have hcs:=HCS.out
   have hcl:cs.length=288:=by rw[hcs];exact range_len _ 288
   have hone:∀ v ∈ cs,v.oneCell'=true:=by rw[hcs];exact u8C_one _ _
   have hcr:Hid (wr.rangeAt (w.heap.size+1) 0 cs):=by
    have:=hb.out.range (k:=0) (m:=288) (by omega)
    rw[hk8] at this
    show wr.rangeAt (w.heap.size+1) 0 cs
    rw[hcs]
    rw[show (fun j=>u8C fixLen 288 (0+j))=u8C fixLen 288 from funext (fun j=>by rw[Nat.zero_add])] at this
    exact this
   have i1:¬ (k:Int)<288:=by omega
   have hi:Hid ((Tryz.prog.info? 149).map (·.size)=some cs.length):=by show _=_;rw[hcl];exact jsize288
   have htl:wr.there w.heap.size 0 cs.length:=by rw[hcl];exact ht.out
   have hsc:(storeCells ⟨w.heap.size,0,none⟩ cs).run Tryz.prog wr = .ok () (wr.setCells w.heap.size 0 cs):=store_all htl hone
   have hld:Hid ((loadVar 149 ⟨w.heap.size,0,none⟩).run Tryz.prog (wr.setCells w.heap.size 0 cs) = .ok (.agg cs.toArray) (wr.setCells w.heap.size 0 cs)) :=
    run_loadVar_mid _ _ _ _ cs _ (World.rangeAt_setCells_same _ _ _ _ htl) Tryz.underlying149 rfl hi.out
   replace hcs:Hid _:=hcs
   replace hcl:Hid _:=hcl
   replace hone:Hid _:=hone
   replace hk8:Hid _:=hk8
   clear htl hb hfk
   go_wp2
   refine wp_load_mid 149 _ rfl (w.heap.size+1) 0 rfl cs _ hcr.out Tryz.underlying149 rfl hi.out ?_
   go_wp2
   exact bodyPost_ret (v := .agg cs.toArray) (results_cell1 rfl _ _ _ _ _ rfl hld.out) rfl ⟨rfl,Kept.setCells (Nat.le_refl _) _ _ hK2.out⟩
theorem fixdist_x (w:World) :
  Calls Tryz.prog 200 #[] w fun r w'=>r = .returned (.agg ((List.range 32).map (u8C (fun _=>5) 32)).toArray)/\Kept w w':=by
 obtain ⟨f5,hf5⟩:∃ f5:Nat->Nat,f5=fun _=>5:=⟨_,rfl⟩
 have Hf:Hid (∀ k,(f5 k:Int)=5):=fun k=>by rw[hf5];rfl
 rw[<- hf5]
 clear hf5
 obtain ⟨cs,hcs0⟩:∃ cs,cs=(List.range 32).map (u8C f5 32):=⟨_,rfl⟩
 rw[<- hcs0]
 have HCS:Hid (cs=(List.range 32).map (u8C f5 32)):=hcs0
 clear hcs0
 have B0:Hid (Blk ((w.alloc (Obj.cells #[.int .u8 0,.int .u8 0,.int .u8 0,.int .u8 0,.int .u8 0,.int .u8 0,.int .u8 0,.int .u8 0,.int .u8 0,.int .u8 0,.int .u8 0,.int .u8 0,.int .u8 0,.int .u8 0,.int .u8 0,.int .u8 0,.int .u8 0,.int .u8 0,.int .u8 0,.int .u8 0,.int .u8 0,.int .u8 0,.int .u8 0,.int .u8 0,.int .u8 0,.int .u8 0,.int .u8 0,.int .u8 0,.int .u8 0,.int .u8 0,.int .u8 0,.int .u8 0] 213)).alloc (Obj.cells #[.int .u8 0,.int .u8 0,.int .u8 0,.int .u8 0,.int .u8 0,.int .u8 0,.int .u8 0,.int .u8 0,.int .u8 0,.int .u8 0,.int .u8 0,.int .u8 0,.int .u8 0,.int .u8 0,.int .u8 0,.int .u8 0,.int .u8 0,.int .u8 0,.int .u8 0,.int .u8 0,.int .u8 0,.int .u8 0,.int .u8 0,.int .u8 0,.int .u8 0,.int .u8 0,.int .u8 0,.int .u8 0,.int .u8 0,.int .u8 0,.int .u8 0,.int .u8 0] 213)) (w.heap.size+1) 32 (u8C f5 0)):=by
  have:=blk_rep (w.alloc (Obj.cells #[.int .u8 0,.int .u8 0,.int .u8 0,.int .u8 0,.int .u8 0,.int .u8 0,.int .u8 0,.int .u8 0,.int .u8 0,.int .u8 0,.int .u8 0,.int .u8 0,.int .u8 0,.int .u8 0,.int .u8 0,.int .u8 0,.int .u8 0,.int .u8 0,.int .u8 0,.int .u8 0,.int .u8 0,.int .u8 0,.int .u8 0,.int .u8 0,.int .u8 0,.int .u8 0,.int .u8 0,.int .u8 0,.int .u8 0,.int .u8 0,.int .u8 0,.int .u8 0] 213)) 32 (.int .u8 0) 213 f5 rfl
  rw[<- jzero32] at this
  have e:(w.alloc (Obj.cells #[.int .u8 0,.int .u8 0,.int .u8 0,.int .u8 0,.int .u8 0,.int .u8 0,.int .u8 0,.int .u8 0,.int .u8 0,.int .u8 0,.int .u8 0,.int .u8 0,.int .u8 0,.int .u8 0,.int .u8 0,.int .u8 0,.int .u8 0,.int .u8 0,.int .u8 0,.int .u8 0,.int .u8 0,.int .u8 0,.int .u8 0,.int .u8 0,.int .u8 0,.int .u8 0,.int .u8 0,.int .u8 0,.int .u8 0,.int .u8 0,.int .u8 0,.int .u8 0] 213)).heap.size=w.heap.size+1:=by simp
  rw[e] at this
  exact this
 have T0:Hid (((w.alloc (Obj.cells #[.int .u8 0,.int .u8 0,.int .u8 0,.int .u8 0,.int .u8 0,.int .u8 0,.int .u8 0,.int .u8 0,.int .u8 0,.int .u8 0,.int .u8 0,.int .u8 0,.int .u8 0,.int .u8 0,.int .u8 0,.int .u8 0,.int .u8 0,.int .u8 0,.int .u8 0,.int .u8 0,.int .u8 0,.int .u8 0,.int .u8 0,.int .u8 0,.int .u8 0,.int .u8 0,.int .u8 0,.int .u8 0,.int .u8 0,.int .u8 0,.int .u8 0,.int .u8 0] 213)).alloc (Obj.cells #[.int .u8 0,.int .u8 0,.int .u8 0,.int .u8 0,.int .u8 0,.int .u8 0,.int .u8 0,.int .u8 0,.int .u8 0,.int .u8 0,.int .u8 0,.int .u8 0,.int .u8 0,.int .u8 0,.int .u8 0,.int .u8 0,.int .u8 0,.int .u8 0,.int .u8 0,.int .u8 0,.int .u8 0,.int .u8 0,.int .u8 0,.int .u8 0,.int .u8 0,.int .u8 0,.int .u8 0,.int .u8 0,.int .u8 0,.int .u8 0,.int .u8 0,.int .u8 0] 213)).there w.heap.size 0 32):=by
  refine World.there_alloc ?_ _
  have:=(blk_rep w 32 (.int .u8 0) 213 f5 rfl).there (k:=0) (m:=32) (by omega)
  rw[<- jzero32] at this
  exact this
 have K0:Hid (Kept w ((w.alloc (Obj.cells #[.int .u8 0,.int .u8 0,.int .u8 0,.int .u8 0,.int .u8 0,.int .u8 0,.int .u8 0,.int .u8 0,.int .u8 0,.int .u8 0,.int .u8 0,.int .u8 0,.int .u8 0,.int .u8 0,.int .u8 0,.int .u8 0,.int .u8 0,.int .u8 0,.int .u8 0,.int .u8 0,.int .u8 0,.int .u8 0,.int .u8 0,.int .u8 0,.int .u8 0,.int .u8 0,.int .u8 0,.int .u8 0,.int .u8 0,.int .u8 0,.int .u8 0,.int .u8 0] 213)).alloc (Obj.cells #[.int .u8 0,.int .u8 0,.int .u8 0,.int .u8 0,.int .u8 0,.int .u8 0,.int .u8 0,.int .u8 0,.int .u8 0,.int .u8 0,.int .u8 0,.int .u8 0,.int .u8 0,.int .u8 0,.int .u8 0,.int .u8 0,.int .u8 0,.int .u8 0,.int .u8 0,.int .u8 0,.int .u8 0,.int .u8 0,.int .u8 0,.int .u8 0,.int .u8 0,.int .u8 0,.int .u8 0,.int .u8 0,.int .u8 0,.int .u8 0,.int .u8 0,.int .u8 0] 213))):=((Below.refl _ _).alloc (Nat.le_refl _) _).alloc (by simp) _
 go_enter Tryz.func200,Tryz.ntmps200
 go_wp2
 generalize ((w.alloc (Obj.cells #[.int .u8 0,.int .u8 0,.int .u8 0,.int .u8 0,.int .u8 0,.int .u8 0,.int .u8 0,.int .u8 0,.int .u8 0,.int .u8 0,.int .u8 0,.int .u8 0,.int .u8 0,.int .u8 0,.int .u8 0,.int .u8 0,.int .u8 0,.int .u8 0,.int .u8 0,.int .u8 0,.int .u8 0,.int .u8 0,.int .u8 0,.int .u8 0,.int .u8 0,.int .u8 0,.int .u8 0,.int .u8 0,.int .u8 0,.int .u8 0,.int .u8 0,.int .u8 0] 213)).alloc (Obj.cells #[.int .u8 0,.int .u8 0,.int .u8 0,.int .u8 0,.int .u8 0,.int .u8 0,.int .u8 0,.int .u8 0,.int .u8 0,.int .u8 0,.int .u8 0,.int .u8 0,.int .u8 0,.int .u8 0,.int .u8 0,.int .u8 0,.int .u8 0,.int .u8 0,.int .u8 0,.int .u8 0,.int .u8 0,.int .u8 0,.int .u8 0,.int .u8 0,.int .u8 0,.int .u8 0,.int .u8 0,.int .u8 0,.int .u8 0,.int .u8 0,.int .u8 0,.int .u8 0] 213))=w0 at *
 go_loopw [2] (fun v W=>∃ k:Nat,k<=32/\v = .int .i64 (k:Int)/\Blk W (w.heap.size+1) 32 (u8C f5 k)/\W.there w.heap.size 0 32/\Kept w W) (fun v _=>32 - (intOf v).toNat)
 case atStart=>exact ⟨0,by omega,rfl,B0.out,T0.out,K0.out⟩
 case round=>
  obtain ⟨k,hk,rfl,hb,ht,hK2⟩:=hrel
  have hfk:=hb.fz k
  clear B0 T0 K0
  replace hb:Hid (Blk wr (w.heap.size+1) 32 (u8C f5 k)):=hb
  replace ht:Hid (wr.there w.heap.size 0 32):=ht
  replace hK2:Hid (Kept w wr):=hK2
  by_cases hlt:k<32
  ·have hc:=hb.out.cell k hlt
   obtain ⟨OV,hc⟩:∃ OV,wr.cell? ⟨w.heap.size+1,k,none⟩=some OV:=⟨_,hc⟩
   have i0:(0:Int)<=(k:Int):=by omega
   have i1:(k:Int)<32:=by omega
   have e:Hid (Blk (wr.setCell ⟨w.heap.size+1,k,none⟩ (.int .u8 5)) (w.heap.size+1) 32 (u8C f5 (k+1))/\(wr.setCell ⟨w.heap.size+1,k,none⟩ (.int .u8 5)).there w.heap.size 0 32/\Kept w (wr.setCell ⟨w.heap.size+1,k,none⟩ (.int .u8 5))):=⟨(hb.out.set hlt _).congr' (fun i _=>by rw[u8C_set f5 k i,Hf.out]),there_set ht.out _ (by omega),hK2.out.setCell (by simp) _⟩
   go_wp2
   exact ⟨⟨k+1,by omega,by go_num,e.out⟩,by simp [intOf];omega⟩
  ·have hk8:k=32:=by omega
   have hcs:=HCS.out
   have hcl:cs.length=32:=by rw[hcs];exact range_len _ 32
   have hone:∀ v ∈ cs,v.oneCell'=true:=by rw[hcs];exact u8C_one _ _
   have hcr:Hid (wr.rangeAt (w.heap.size+1) 0 cs):=by
    have:=hb.out.range (k:=0) (m:=32) (by omega)
    rw[hk8] at this
    show wr.rangeAt (w.heap.size+1) 0 cs
    rw[hcs]
    rw[show (fun j=>u8C f5 32 (0+j))=u8C f5 32 from funext (fun j=>by rw[Nat.zero_add])] at this
    exact this
   have i1:¬ (k:Int)<32:=by omega
   have hi:Hid ((Tryz.prog.info? 213).map (·.size)=some cs.length):=by show _=_;rw[hcl];exact jsize32
   have htl:wr.there w.heap.size 0 cs.length:=by rw[hcl];exact ht.out
   have hsc:(storeCells ⟨w.heap.size,0,none⟩ cs).run Tryz.prog wr = .ok () (wr.setCells w.heap.size 0 cs):=store_all htl hone
   have hld:Hid ((loadVar 213 ⟨w.heap.size,0,none⟩).run Tryz.prog (wr.setCells w.heap.size 0 cs) = .ok (.agg cs.toArray) (wr.setCells w.heap.size 0 cs)) :=
    run_loadVar_mid _ _ _ _ cs _ (World.rangeAt_setCells_same _ _ _ _ htl) Tryz.underlying213 rfl hi.out
   replace hcs:Hid _:=hcs
   replace hcl:Hid _:=hcl
   replace hone:Hid _:=hone
   replace hk8:Hid _:=hk8
   clear htl hb hfk
   go_upto_region 6 with fail
   go_step
   refine wpList_load_mid rfl 213 _ rfl (w.heap.size+1) 0 rfl cs _ hcr.out Tryz.underlying213 rfl hi.out ?_
   go_wp2
   exact bodyPost_ret (v := .agg cs.toArray) (results_cell1 rfl _ _ _ _ _ rfl hld.out) rfl ⟨rfl,Kept.setCells (Nat.le_refl _) _ _ hK2.out⟩
def nC (h:Nat->Nat) (k:Nat):Nat->Value:=fun j => .int .i64 (((if j<=k then h j else 0:Nat)):Int)
theorem nC_set (h:Nat->Nat) (k j:Nat):nC h (k+1) j=upd (nC h k) (k+1) (.int .i64 (h (k+1):Int)) j:=by
 unfold nC upd
 by_cases q:j=k+1
 ·subst q;rw[if_pos rfl,if_pos (by omega)]
 ·rw[if_neg q]
  show Value.int .i64 (((if j<=k+1 then h j else 0:Nat)):Int)=Value.int .i64 (((if j<=k then h j else 0:Nat)):Int)
  by_cases h2:j<=k
  ·rw[if_pos h2,if_pos (by omega)]
  ·rw[if_neg h2,if_neg (by omega)]
def iC (h:Nat->Nat):Nat->Value:=fun j => .int .i64 (h j:Int)
theorem iC_upd (h:Nat->Nat) (k v:Nat):upd (iC h) k (.int .i64 (v:Int))=iC (upd h k v):=by
 funext j
 unfold iC upd
 split<;>rfl
theorem zero16:(#[.int .i64 0,.int .i64 0,.int .i64 0,.int .i64 0,.int .i64 0,.int .i64 0,.int .i64 0,.int .i64 0,.int .i64 0,.int .i64 0,.int .i64 0,.int .i64 0,.int .i64 0,.int .i64 0,.int .i64 0,.int .i64 0]:Array Value)=Array.replicate 16 (.int .i64 0):=rfl
theorem sort_x (b g N C:Nat) (f nx0:Nat->Nat) (nx sy:Nat->Nat->Nat) (c:Nat->Value) (s:CS) (w:World) (hB:Blk w b 306 c) (hV:CSV c 0 s) (hg:∀ i,i<N->w.cell? ⟨g,i,none⟩=some (.int .u8 (f i:Int))) (hgb:g≠b) (hN0:0<N) (hN:N<=288) (hC:N<=C) (hk:CSOk s)
  (x0:nx0 0=0) (x1:nx0 1=0) (x2:∀ k,1<=k->k<15->nx0 (k+1)=nx0 k+s.count k) (x3:∀ k,nx0 k<=5000) (hf:∀ i,i<N->1<=f i/\f i<=15) (y0:∀ j,j<16->nx 0 j=nx0 j) (y1:∀ i,i<N->nx (i+1)=upd (nx i) (f i) (nx i (f i)+1)) (y2:∀ i,i<N->nx i (f i)<288) (z0:sy 0=s.sym) (z1:∀ i,i<N->sy (i+1)=upd (sy i) (nx i (f i)) i) :
  Calls Tryz.prog 201 #[.pointer (some ⟨b,0,none⟩),.slice (some ⟨g,0,none⟩) N C] w fun e w'=>e = .returned (.tuple #[])/\∃ d,Blk w' b 306 d/\CSV d 0 { s with sym:=sy N }/\Fr1 b w w':=by
 have hgs:g<w.heap.size:=World.block_lt_of_cell? _ _ (hg 0 hN0)
 have hbs:=hB.lt
 have A0:Hid (Blk (w.alloc (Obj.cells #[.int .i64 0,.int .i64 0,.int .i64 0,.int .i64 0,.int .i64 0,.int .i64 0,.int .i64 0,.int .i64 0,.int .i64 0,.int .i64 0,.int .i64 0,.int .i64 0,.int .i64 0,.int .i64 0,.int .i64 0,.int .i64 0] 79)) w.heap.size 16 (nC nx0 1)):=by
  show Blk _ _ _ _
  rw[zero16]
  refine (Blk.new w (Array.replicate 16 (.int .i64 0)) 79 16 (by simp)).congr' (fun i hi => ?_)
  rw[Array.getD_eq_getD_getElem?,Array.getElem?_replicate,if_pos hi]
  unfold nC
  split
  ·have:nx0 i=0:=by
    rcases (show i=0\/i=1 by omega) with rfl | rfl
    ·exact x0
    ·exact x1
   rw[this];rfl
  ·rfl
 have K0:Kept w (w.alloc (Obj.cells #[.int .i64 0,.int .i64 0,.int .i64 0,.int .i64 0,.int .i64 0,.int .i64 0,.int .i64 0,.int .i64 0,.int .i64 0,.int .i64 0,.int .i64 0,.int .i64 0,.int .i64 0,.int .i64 0,.int .i64 0,.int .i64 0] 79)):=Below.alloc (Below.refl _ _) (Nat.le_refl _) _
 have B0:Hid (Blk (w.alloc (Obj.cells #[.int .i64 0,.int .i64 0,.int .i64 0,.int .i64 0,.int .i64 0,.int .i64 0,.int .i64 0,.int .i64 0,.int .i64 0,.int .i64 0,.int .i64 0,.int .i64 0,.int .i64 0,.int .i64 0,.int .i64 0,.int .i64 0] 79)) b 306 c):=hB.kept K0
 have F0:Hid (Fr1 b w (w.alloc (Obj.cells #[.int .i64 0,.int .i64 0,.int .i64 0,.int .i64 0,.int .i64 0,.int .i64 0,.int .i64 0,.int .i64 0,.int .i64 0,.int .i64 0,.int .i64 0,.int .i64 0,.int .i64 0,.int .i64 0,.int .i64 0,.int .i64 0] 79))):=Fr.of_kept K0
 have HGc:Hid (∀ W,Fr1 b w W->∀ i,i<N->W.cell? ⟨g,i,none⟩=some (.int .u8 (f i:Int))):=fun W F i hi=>(F.cell hgs hgb).trans (hg i hi)
 have HV:Hid (CSV c 0 s):=hV
 have HCk:Hid (CSOk s):=hk
 have X2:Hid (∀ k,1<=k->k<15->nx0 (k+1)=nx0 k+s.count k):=x2
 have X3:Hid (∀ k,nx0 k<=5000):=x3
 have HF:Hid (∀ i,i<N->1<=f i/\f i<=15):=hf
 have Y0:Hid (∀ j,j<16->nx 0 j=nx0 j):=y0
 have Y1:Hid (∀ i,i<N->nx (i+1)=upd (nx i) (f i) (nx i (f i)+1)):=y1
 have Y2:Hid (∀ i,i<N->nx i (f i)<288):=y2
 have Z0:Hid (sy 0=s.sym):=z0
 have Z1:Hid (∀ i,i<N->sy (i+1)=upd (sy i) (nx i (f i)) i):=z1
 replace K0:Hid _:=K0
 clear hB hV hg hk x0 x1 x2 x3 hf y0 y1 y2 z0 z1
 go_enter Tryz.func201,Tryz.ntmps201
 go_wp2_with fail
 generalize w.alloc (Obj.cells #[.int .i64 0,.int .i64 0,.int .i64 0,.int .i64 0,.int .i64 0,.int .i64 0,.int .i64 0,.int .i64 0,.int .i64 0,.int .i64 0,.int .i64 0,.int .i64 0,.int .i64 0,.int .i64 0,.int .i64 0,.int .i64 0] 79)=w0 at *
 obtain ⟨a,ha⟩:∃ a,a=w.heap.size:=⟨_,rfl⟩
 go_loopw [5] (fun v W=>∃ k:Nat,1<=k/\k<=15/\v = .int .i64 (k:Int)/\Blk W w.heap.size 16 (nC nx0 k)/\Blk W b 306 c/\Fr1 b w W) (fun v _=>15 - (intOf v).toNat)
 case atStart=>exact ⟨1,by omega,by omega,rfl,A0.out,B0.out,F0.out⟩
 case round=>
  obtain ⟨k,hk1,hk15,rfl,hA,hBw,hF⟩:=hrel
  clear A0 B0 F0
  have hA':Hid (Blk wr w.heap.size 16 (nC nx0 k)):=hA
  have hB':Hid (Blk wr b 306 c):=hBw
  have hF':Hid (Fr1 b w wr):=hF
  clear hA hBw hF
  by_cases hlt:k<15
  ·have hlt':(k:Int)<15:=by omega
   have k0:wr.cell? ⟨w.heap.size,k,none⟩=some (.int .i64 (nx0 k:Int)):=by
    rw[hA'.out.cell k (by omega)];unfold nC;rw[if_pos (Nat.le_refl _)]
   have k1:wr.cell? ⟨b,k,none⟩=some (.int .i64 (s.count k:Int)):=by
    have:=hB'.out.at (i:=0+k) (by omega) (HV.out.count k (by omega))
    rwa [Nat.zero_add] at this
   obtain ⟨K1,hK1⟩:∃ K1,K1=k+1:=⟨_,rfl⟩
   obtain ⟨OV,k2⟩:∃ OV,wr.cell? ⟨w.heap.size,K1,none⟩=some OV:=⟨_,hA'.out.cell K1 (by omega)⟩
   have z:=hA'.out.fz
   have c1:=X3.out k
   have c2:=HCk.out.count k (by omega)
   have HS:Hid (nx0 (k+1)=nx0 k+s.count k):=X2.out k hk1 hlt
   obtain ⟨V1,hV1⟩:∃ V1,V1=nx0 k:=⟨_,rfl⟩
   obtain ⟨V2,hV2⟩:∃ V2,V2=s.count k:=⟨_,rfl⟩
   rw[<- hV1] at k0 c1 HS
   rw[<- hV2] at k1 c2 HS
   replace hV1:Hid _:=hV1
   replace hV2:Hid _:=hV2
   have i0:(0:Int)<=(k:Int):=by omega
   have i1:(k:Int)<16:=by omega
   have i2:(0:Int)<=(K1:Int):=by omega
   have i3:(K1:Int)<16:=by omega
   have eK:(k:Int)+1=(K1:Int):=by omega
   have wk:IntKind.i64.wrap ((k:Int)+1)=(K1:Int):=by rw[eK,IntKind.wrap_i64];omega
   obtain ⟨V3,hV3⟩:∃ V3,V3=V1+V2:=⟨_,rfl⟩
   have eV:(V1:Int)+(V2:Int)=(V3:Int):=by omega
   have wv:IntKind.i64.wrap ((V1:Int)+(V2:Int))=(V3:Int):=by rw[eV,IntKind.wrap_i64];omega
   have wk2:IntKind.i64.wrap (K1:Int)=(K1:Int):=by rw[IntKind.wrap_i64];omega
   have wv2:IntKind.i64.wrap (V3:Int)=(V3:Int):=by rw[IntKind.wrap_i64];omega
   have HK1:Hid (K1=k+1):=hK1
   have HV3:Hid (V3=V1+V2):=hV3
   clear hK1 hV3
   have hne:b≠w.heap.size:=by omega
   go_wp2_with fail
   go_region_held3 (fun W=>W.cell? ⟨w.heap.size,k,none⟩=some (.int .i64 (V1:Int))/\W.cell? ⟨b,k,none⟩=some (.int .i64 (V2:Int))) (first | exact ⟨k0,k1⟩ | exact ⟨(cell_set_other _ _ _ _ _ (by omega)).trans k0,(cell_set_blk _ _ _ _ (by omega)).trans k1⟩ | go_keep) (fail)
   have fin:Hid (∀ y:Int,y=(nx0 (k+1):Int)->(Blk (wr.setCell ⟨w.heap.size,K1,none⟩ (.int .i64 y)).drew w.heap.size 16 (nC nx0 (k+1))/\Blk (wr.setCell ⟨w.heap.size,K1,none⟩ (.int .i64 y)).drew b 306 c/\Fr1 b w (wr.setCell ⟨w.heap.size,K1,none⟩ (.int .i64 y)).drew)):=fun y hy=>by
    subst hy
    rw[HK1.out]
    have fr:Fr1 w.heap.size wr (wr.setCell ⟨w.heap.size,k+1,none⟩ (.int .i64 (nx0 (k+1):Int))):=Fr1.set (Fr.refl _ _) _ _
    exact ⟨((hA'.out.set (k:=k+1) (by omega) _).congr' (fun i _=>nC_set nx0 k i)).kept ((Kept.refl _).drewN 1),(hB'.out.fr fr hne).kept ((Kept.refl _).drewN 1),Fr1.drewN (Fr.setCell (S:=fun k=>k=b) hF'.out (Or.inr (Nat.le_refl _)) _ _) 1⟩
   go_wp2
   exact ⟨⟨k+1,by omega,by omega,by go_num,fin.out _ (by have:=HS.out;have:=HV3.out;omega)⟩,by simp [intOf];omega⟩
  ·have hlt':¬ (k:Int)<15:=by omega
   have hk:k=15:=by omega
   have A1:Hid (Blk wr w.heap.size 16 (iC (nx 0))):=hA'.out.congr' (fun i hi=>by unfold iC nC;rw[hk,if_pos (by omega),Y0.out i hi])
   have V1:Hid (CSV c 0 { s with sym:=sy 0 }):=by rw[Z0.out];exact HV.out
   clear hk hA'
   go_wp2
   go_loopw [6] (fun v W=>∃ i:Nat,i<=N/\v = .int .i64 (i:Int)/\Blk W w.heap.size 16 (iC (nx i))/\(∃ d,Blk W b 306 d/\CSV d 0 { s with sym:=sy i })/\Fr1 b w W) (fun v _=>N - (intOf v).toNat)
   case atStart=>exact ⟨0,by omega,rfl,A1.out,⟨c,hB'.out,V1.out⟩,hF'.out⟩
   case round=>
    obtain ⟨i,hiN,rfl,hA2,⟨d,hB2,hV2⟩,hF2⟩:=hrel
    clear A1 V1 hB' hF'
    have A2:Hid (Blk wr w.heap.size 16 (iC (nx i))):=hA2
    have B2:Hid (Blk wr b 306 d):=hB2
    have V2:Hid (CSV d 0 { s with sym:=sy i }):=hV2
    have F2:Hid (Fr1 b w wr):=hF2
    have zA:=hA2.fz
    have zB:=hB2.fz
    clear hA2 hB2 hV2 hF2
    by_cases hlt2:i<N
    ·have hlt2':(i:Int)<(N:Int):=by omega
     have h288:(i:Int)<288:=by omega
     have hfi:=HF.out i hlt2
     have hgi:=HGc.out wr F2.out i hlt2
     have hP:=Y2.out i hlt2
     have YS:Hid (nx (i+1)=upd (nx i) (f i) (nx i (f i)+1)):=Y1.out i hlt2
     have ZS:Hid (sy (i+1)=upd (sy i) (nx i (f i)) i):=Z1.out i hlt2
     obtain ⟨T,hT⟩:∃ T,T=f i:=⟨_,rfl⟩
     rw[<- hT] at hfi hgi hP YS ZS
     replace hT:Hid _:=hT
     obtain ⟨hT1,hT2⟩:=hfi
     have kn:wr.cell? ⟨w.heap.size,T,none⟩=some (.int .i64 (nx i T:Int)):=A2.out.cell T (by omega)
     obtain ⟨Q,hQ⟩:∃ Q,Q=nx i T:=⟨_,rfl⟩
     rw[<- hQ] at kn hP YS ZS
     replace hQ:Hid _:=hQ
     obtain ⟨OV,ks⟩:∃ OV,wr.cell? ⟨b,16+Q,none⟩=some OV:=⟨_,B2.out.cell (16+Q) (by omega)⟩
     have i0:(0:Int)<=(i:Int):=by omega
     have t0:(0:Int)<=(T:Int):=by omega
     have t1:(0:Int)<(T:Int):=by omega
     have t2:(T:Int)<=15:=by omega
     have t3:(T:Int)<16:=by omega
     have q0:(0:Int)<=(Q:Int):=by omega
     have q1:(Q:Int)<288:=by omega
     have hne:b≠w.heap.size:=by omega
     have hne':w.heap.size≠b:=by omega
     obtain ⟨Q1,hQ1⟩:∃ Q1,Q1=Q+1:=⟨_,rfl⟩
     have eQ:(Q:Int)+1=(Q1:Int):=by omega
     rw[<- hQ1] at YS
     replace hQ1:Hid _:=hQ1
     have fin:Hid (Blk ((wr.setCell ⟨b,16+Q,none⟩ (.int .i64 (i:Int))).drew.setCell ⟨w.heap.size,T,none⟩ (.int .i64 (Q1:Int))) w.heap.size 16 (iC (nx (i+1)))/\(∃ d,Blk ((wr.setCell ⟨b,16+Q,none⟩ (.int .i64 (i:Int))).drew.setCell ⟨w.heap.size,T,none⟩ (.int .i64 (Q1:Int))) b 306 d/\CSV d 0 { s with sym:=sy (i+1) })/\Fr1 b w ((wr.setCell ⟨b,16+Q,none⟩ (.int .i64 (i:Int))).drew.setCell ⟨w.heap.size,T,none⟩ (.int .i64 (Q1:Int)))):=by
      have fb:Fr1 b wr (wr.setCell ⟨b,16+Q,none⟩ (.int .i64 (i:Int))).drew:=Fr1.drewN (Fr1.set (Fr.refl _ _) _ _) 1
      have fa:Fr1 w.heap.size (wr.setCell ⟨b,16+Q,none⟩ (.int .i64 (i:Int))).drew ((wr.setCell ⟨b,16+Q,none⟩ (.int .i64 (i:Int))).drew.setCell ⟨w.heap.size,T,none⟩ (.int .i64 (Q1:Int))):=Fr1.set (Fr.refl _ _) _ _
      refine ⟨?_,⟨upd d (16+Q) (.int .i64 (i:Int)),?_,?_⟩,?_⟩
      ·rw[YS.out,<- iC_upd]
       exact (A2.out.fr fb hne').set (by omega) _
      ·exact ((B2.out.set (k:=16+Q) (by omega) _).kept ((Kept.refl _).drewN 1)).fr fa hne
      ·rw[ZS.out]
       have:=V2.out.set_sym Q i hP
       rw[Nat.zero_add] at this
       exact this
      ·exact Fr.setCell (S:=fun k=>k=b) (F2.out.trans fb) (Or.inr (Nat.le_refl _)) _ _
     go_wp2_with fail
     go_region_held3 (fun W=>W.cell? ⟨w.heap.size,T,none⟩=some (.int .i64 (Q:Int))) (first | exact kn | exact (cell_set_blk _ _ _ _ (by omega)).trans kn | go_keep) (fail)
     have kn2:(wr.setCell ⟨b,16+Q,none⟩ (.int .i64 (i:Int))).drew.cell? ⟨w.heap.size,T,none⟩=some (.int .i64 (Q:Int)):=(cell_set_blk _ _ _ _ (by omega)).trans kn
     have zA2:∀ j,(wr.setCell ⟨b,16+Q,none⟩ (.int .i64 (i:Int))).drew.frozen? ⟨w.heap.size,j,none⟩=false:=fun j=>(World.frozen?_setCell _ _ _ _).trans (zA j)
     generalize (wr.setCell ⟨b,16+Q,none⟩ (.int .i64 (i:Int))).drew=w4 at *
     go_wp2
     exact ⟨⟨i+1,by omega,by go_num,fin.out⟩,by simp [intOf];omega⟩
    ·have hlt2':¬ (i:Int)<(N:Int):=by omega
     have hiE:i=N:=by omega
     rw[hiE] at V2
     replace hiE:Hid _:=hiE
     go_wp2
     go_end0
     exact ⟨rfl,d,B2.out,V2.out,F2.out⟩
def csC (s:CS):Nat->Value:=fun j=>if j<16 then .int .i64 (s.count j:Int) else if j<304 then .int .i64 (s.sym (j - 16):Int) else if j=304 then .int .i64 (s.total:Int) else .int .i64 (s.longest:Int)
theorem csC_V (s:CS):CSV (csC s) 0 s:=by
 refine ⟨fun i hi => ?_,fun i hi => ?_,?_,?_⟩
 ·unfold csC;rw[Nat.zero_add,if_pos hi]
 ·unfold csC;rw[if_neg (by omega),if_pos (by omega),show 0+16+i - 16=i from by omega]
 ·unfold csC;rw[if_neg (by omega),if_neg (by omega),if_pos rfl]
 ·unfold csC;rw[if_neg (by omega),if_neg (by omega),if_neg (by omega)]
theorem CSV.cells {c:Nat->Value} {s:CS} (h:CSV c 0 s) (j:Nat) (hj:j<306):csC s j=c j:=by
 unfold csC
 by_cases h1:j<16
 ·rw[if_pos h1];have:=h.count j h1;rw[Nat.zero_add] at this;exact this.symm
 ·rw[if_neg h1]
  by_cases h2:j<304
  ·rw[if_pos h2]
   have:=h.sym (j - 16) (by omega)
   rw[show 0+16+(j - 16)=j from by omega] at this;exact this.symm
  ·rw[if_neg h2]
   by_cases h3:j=304
   ·rw[if_pos h3,h3];have:=h.total;rw[Nat.zero_add] at this;exact this.symm
   ·rw[if_neg h3,show j=305 from by omega];have:=h.longest;rw[Nat.zero_add] at this;exact this.symm
theorem csC_one (s:CS):∀ v ∈ (List.range 306).map (csC s),v.oneCell'=true:=by
 intro v hv
 rw[List.mem_map] at hv
 obtain ⟨j,_,rfl⟩:=hv
 unfold csC
 split
 ·rfl
 ·split
  ·rfl
  ·split<;>rfl
theorem zero306:Tryz.zeroCells82=Array.replicate 306 (.int .i64 0):=by kernel_rfl
theorem info306:(Tryz.prog.info? 82).map (·.size)=some 306:=by kernel_rfl
def cs00:CS:=⟨fun _=>0,fun _=>0,0,0⟩
theorem csC_zero (j:Nat):csC cs00 j = .int .i64 0:=by
 unfold csC cs00
 split
 ·rfl
 ·split
  ·rfl
  ·split<;>rfl
theorem blk306 (w:World) (t:TypeId):Blk (w.alloc (Obj.cells (Array.replicate 306 (.int .i64 0)) t)) w.heap.size 306 (csC cs00):=by
 refine (Blk.new w (Array.replicate 306 (.int .i64 0)) t 306 (by simp)).congr' (fun i hi => ?_)
 rw[csC_zero,Array.getD_eq_getD_getElem?,Array.getElem?_replicate,if_pos hi];rfl
structure MkOk (N:Nat) (f:Nat->Nat) (cnt:Nat->Nat->Nat) (lg:Nat->Nat) (nx0:Nat->Nat) (nx sy:Nat->Nat->Nat):Prop where
 n0:0<N
 n1:N<=288
 fl:∀ i,i<N->1<=f i/\f i<=15
 c0:cnt 0=fun _=>0
 c1:∀ i,i<N->cnt (i+1)=upd (cnt i) (f i) (cnt i (f i)+1)
 cb:∀ i j,i<=N->cnt i j<=288
 l0:lg 0=0
 l1:∀ i,i<N->lg (i+1)=max (lg i) (f i)
 lb:∀ i,lg i<=15
 x0:nx0 0=0
 x1:nx0 1=0
 x2:∀ k,1<=k->k<15->nx0 (k+1)=nx0 k+cnt N k
 x3:∀ k,nx0 k<=5000
 y0:∀ j,j<16->nx 0 j=nx0 j
 y1:∀ i,i<N->nx (i+1)=upd (nx i) (f i) (nx i (f i)+1)
 y2:∀ i,i<N->nx i (f i)<288
 z0:sy 0=fun _=>0
 z1:∀ i,i<N->sy (i+1)=upd (sy i) (nx i (f i)) i
theorem make_x (g N C:Nat) (f:Nat->Nat) (cnt:Nat->Nat->Nat) (lg nx0:Nat->Nat) (nx sy:Nat->Nat->Nat) (w:World) (hg:∀ i,i<N->w.cell? ⟨g,i,none⟩=some (.int .u8 (f i:Int))) (hC:N<=C) (hm:MkOk N f cnt lg nx0 nx sy) :
  Calls Tryz.prog 193 #[.slice (some ⟨g,0,none⟩) N C] w fun e w'=>e = .returned (.agg ((List.range 306).map (csC ⟨cnt N,sy N,N,lg N⟩)).toArray)/\Kept w w':=by
 obtain ⟨SS0,hSS0⟩:∃ S,S=(⟨cnt N,sy N,N,lg N⟩:CS):=⟨_,rfl⟩
 obtain ⟨cs,hcs0⟩:∃ cs,cs=(List.range 306).map (csC ⟨cnt N,sy N,N,lg N⟩):=⟨_,rfl⟩
 rw[<- hcs0]
 rw[<- hSS0] at hcs0
 have HCS:Hid (cs=(List.range 306).map (csC SS0)):=hcs0
 have HSS:Hid (SS0=(⟨cnt N,sy N,N,lg N⟩:CS)):=hSS0
 clear hcs0 hSS0
 have hgs:g<w.heap.size:=World.block_lt_of_cell? _ _ (hg 0 hm.n0)
 have B0:Hid (Blk ((w.alloc (Obj.cells (Array.replicate 306 (.int .i64 0)) 82)).alloc (Obj.cells (Array.replicate 306 (.int .i64 0)) 82)) (w.heap.size+1) 306 (csC cs00)):=by
  have:=blk306 (w.alloc (Obj.cells (Array.replicate 306 (.int .i64 0)) 82)) 82
  have e:(w.alloc (Obj.cells (Array.replicate 306 (.int .i64 0)) 82)).heap.size=w.heap.size+1:=by simp
  rw[e] at this
  exact this
 have T0:Hid (((w.alloc (Obj.cells (Array.replicate 306 (.int .i64 0)) 82)).alloc (Obj.cells (Array.replicate 306 (.int .i64 0)) 82)).there w.heap.size 0 306):=World.there_alloc ((blk306 w 82).there (by omega)) _
 have K0:Hid (Kept w ((w.alloc (Obj.cells (Array.replicate 306 (.int .i64 0)) 82)).alloc (Obj.cells (Array.replicate 306 (.int .i64 0)) 82))):=((Below.refl _ _).alloc (Nat.le_refl _) _).alloc (by simp) _
 have V0:Hid (CSV (csC cs00) 0 ⟨cnt 0,fun _=>0,0,lg 0⟩):=by rw[hm.c0,hm.l0];exact csC_V cs00
 have HG:Hid (∀ W,Kept w W->∀ i,i<N->W.cell? ⟨g,i,none⟩=some (.int .u8 (f i:Int))):=fun W k i hi=>(k.cell (p:=⟨g,i,none⟩) hgs).trans (hg i hi)
 have hN0:=hm.n0
 have hN1:=hm.n1
 have HM:Hid (MkOk N f cnt lg nx0 nx sy):=hm
 clear hg hm
 have R:=zero306
 go_enter Tryz.func193,Tryz.ntmps193
 go_wp2_with fail
 try rw[zero306]
 generalize ((w.alloc (Obj.cells (Array.replicate 306 (.int .i64 0)) 82)).alloc (Obj.cells (Array.replicate 306 (.int .i64 0)) 82))=w0 at *
 clear R
 go_loopw [4] (fun v W=>∃ i:Nat,i<=N/\v = .int .i64 (i:Int)/\(∃ d,Blk W (w.heap.size+1) 306 d/\CSV d 0 ⟨cnt i,fun _=>0,i,lg i⟩)/\W.there w.heap.size 0 306/\Kept w W) (fun v _=>N - (intOf v).toNat)
 case atStart=>exact ⟨0,by omega,rfl,⟨_,B0.out,V0.out⟩,T0.out,K0.out⟩
 case round=>
  obtain ⟨i,hiN,rfl,⟨d,hB,hV⟩,hT,hK⟩:=hrel
  have zB:=hB.fz
  have B1:Hid (Blk wr (w.heap.size+1) 306 d):=hB
  have V1:Hid (CSV d 0 ⟨cnt i,fun _=>0,i,lg i⟩):=hV
  have T1:Hid (wr.there w.heap.size 0 306):=hT
  have K1:Hid (Kept w wr):=hK
  clear hB hV hT hK B0 T0 K0 V0
  by_cases hlt:i<N
  ·have hlt':(i:Int)<(N:Int):=by omega
   have h288:(i:Int)<288:=by omega
   have i0:(0:Int)<=(i:Int):=by omega
   have hfi:=HM.out.fl i hlt
   have hgi:=HG.out wr K1.out i hlt
   have CS1:Hid (cnt (i+1)=upd (cnt i) (f i) (cnt i (f i)+1)):=HM.out.c1 i hlt
   have LS:Hid (lg (i+1)=max (lg i) (f i)):=HM.out.l1 i hlt
   have hcb:=HM.out.cb i (f i) (by omega)
   have hlb:=HM.out.lb i
   obtain ⟨T,hT⟩:∃ T,T=f i:=⟨_,rfl⟩
   rw[<- hT] at hfi hgi CS1 LS hcb
   replace hT:Hid _:=hT
   obtain ⟨hT1,hT2⟩:=hfi
   have k1:wr.cell? ⟨w.heap.size+1,T,none⟩=some (.int .i64 (cnt i T:Int)):=by
    have:=B1.out.at (i:=0+T) (by omega) (V1.out.count T (by omega))
    rwa [Nat.zero_add] at this
   have k2:wr.cell? ⟨w.heap.size+1,304,none⟩=some (.int .i64 (i:Int)):=B1.out.at (i:=304) (by omega) V1.out.total
   have k3:wr.cell? ⟨w.heap.size+1,305,none⟩=some (.int .i64 (lg i:Int)):=B1.out.at (i:=305) (by omega) V1.out.longest
   obtain ⟨Q,hQ⟩:∃ Q,Q=cnt i T:=⟨_,rfl⟩
   rw[<- hQ] at k1 CS1 hcb
   replace hQ:Hid _:=hQ
   obtain ⟨Q1,hQ1⟩:∃ Q1,Q1=Q+1:=⟨_,rfl⟩
   have eQ:(Q:Int)+1=(Q1:Int):=by omega
   rw[<- hQ1] at CS1
   replace hQ1:Hid _:=hQ1
   obtain ⟨I1,hI1⟩:∃ I1,I1=i+1:=⟨_,rfl⟩
   have eI:(i:Int)+1=(I1:Int):=by omega
   replace hI1:Hid _:=hI1
   obtain ⟨G1,hG1⟩:∃ G1,G1=lg i:=⟨_,rfl⟩
   rw[<- hG1] at k3 LS hlb
   replace hG1:Hid _:=hG1
   have t0:(0:Int)<=(T:Int):=by omega
   have t1:(0:Int)<(T:Int):=by omega
   have t2:(T:Int)<=15:=by omega
   have t3:(T:Int)<16:=by omega
   have fin:Hid (∀ y:Int,y=((max G1 T:Nat):Int)->((∃ d,Blk (((wr.setCell ⟨w.heap.size+1,T,none⟩ (.int .i64 (Q1:Int))).setCell ⟨w.heap.size+1,304,none⟩ (.int .i64 (I1:Int))).setCell ⟨w.heap.size+1,305,none⟩ (.int .i64 y)) (w.heap.size+1) 306 d/\CSV d 0 ⟨cnt (i+1),fun _=>0,i+1,lg (i+1)⟩)/\(((wr.setCell ⟨w.heap.size+1,T,none⟩ (.int .i64 (Q1:Int))).setCell ⟨w.heap.size+1,304,none⟩ (.int .i64 (I1:Int))).setCell ⟨w.heap.size+1,305,none⟩ (.int .i64 y)).there w.heap.size 0 306/\Kept w (((wr.setCell ⟨w.heap.size+1,T,none⟩ (.int .i64 (Q1:Int))).setCell ⟨w.heap.size+1,304,none⟩ (.int .i64 (I1:Int))).setCell ⟨w.heap.size+1,305,none⟩ (.int .i64 y)))):=fun y hy=>by
    subst hy
    refine ⟨⟨_,((B1.out.set (k:=T) (by omega) _).set (k:=304) (by omega) _).set (k:=305) (by omega) _,?_⟩,there_set (there_set (there_set T1.out _ (by omega)) _ (by omega)) _ (by omega),((K1.out.setCell (by simp) _).setCell (by simp) _).setCell (by simp) _⟩
    rw[CS1.out,LS.out,<- hI1.out]
    have a1:=V1.out.set_count T Q1 (by omega)
    rw[Nat.zero_add] at a1
    have a2:=a1.set_total I1
    rw[Nat.zero_add] at a2
    have a3:=a2.set_longest (max G1 T)
    rw[Nat.zero_add] at a3
    exact a3
   by_cases hmx:T<=G1
   ·have hmx':(T:Int)<=(G1:Int):=by omega
    have hmx'':¬ (G1:Int)<(T:Int):=by omega
    have e:=fin.out (G1:Int) (by rw[Nat.max_eq_left hmx])
    replace e:Hid _:=e
    go_wp2
    all_goals exact ⟨⟨i+1,by omega,by go_num,e.out⟩,by simp [intOf];omega⟩
   ·have hmx':¬ (T:Int)<=(G1:Int):=by omega
    have hmx'':(G1:Int)<(T:Int):=by omega
    have e:=fin.out (T:Int) (by rw[Nat.max_eq_right (by omega)])
    replace e:Hid _:=e
    go_wp2
    all_goals exact ⟨⟨i+1,by omega,by go_num,e.out⟩,by simp [intOf];omega⟩
  ·have hlt':¬ (i:Int)<(N:Int):=by omega
   have hiE:i=N:=by omega
   rw[hiE] at V1
   have hgne:g≠w.heap.size+1:=by omega
   have FJ:Hid (Calls Tryz.prog 201 #[.pointer (some ⟨w.heap.size+1,0,none⟩),.slice (some ⟨g,0,none⟩) N C] wr fun e w'=>e = .returned (.tuple #[])/\∃ d',Blk w' (w.heap.size+1) 306 d'/\CSV d' 0 ⟨cnt N,sy N,N,lg N⟩/\Fr1 (w.heap.size+1) wr w') :=
    sort_x (w.heap.size+1) g N C f nx0 nx sy d ⟨cnt N,fun _=>0,N,lg N⟩ wr B1.out V1.out (HG.out wr K1.out) hgne hN0 hN1 hC ⟨fun j hj=>HM.out.cb N j (Nat.le_refl _),fun j hj=>by show 0<288;omega,hN1,HM.out.lb N⟩ HM.out.x0 HM.out.x1 HM.out.x2 HM.out.x3 HM.out.fl HM.out.y0 HM.out.y1 HM.out.y2 HM.out.z0 HM.out.z1
   have hws:w.heap.size<wr.heap.size:=Nat.lt_of_lt_of_le (Nat.lt_succ_self _) (Nat.le_of_lt B1.out.lt)
   replace hiE:Hid _:=hiE
   go_wp2_with fail
   refine FJ.out.mono ?_
   rintro e w2 ⟨rfl,d2,hB2,hV2,hF2⟩
   have T2:w2.there w.heap.size 0 306:=fun j hj=>⟨by rw[hF2.cell (c:=w.heap.size) hws (by omega)];exact (T1.out j hj).1,by rw[hF2.frozen (c:=w.heap.size) hws (by omega)];exact (T1.out j hj).2⟩
   have K2:Hid (Kept w w2):=Fr.to_kept K1.out hF2 (fun i hi e=>by omega)
   have hSS:=HSS.out
   rw[<- hSS] at hV2
   have hcs:=HCS.out
   have hcl:cs.length=306:=by rw[hcs];exact range_len _ 306
   have hone:∀ v ∈ cs,v.oneCell'=true:=by rw[hcs];exact csC_one _
   have hcr:Hid (w2.rangeAt (w.heap.size+1) 0 cs):=by
    have:=(hB2.congr' (d:=csC SS0) (fun i hi=>hV2.cells i hi)).range (k:=0) (m:=306) (by omega)
    show w2.rangeAt (w.heap.size+1) 0 cs
    rw[hcs]
    rw[show (fun j=>csC SS0 (0+j))=csC SS0 from funext (fun j=>by rw[Nat.zero_add])] at this
    exact this
   have hi:Hid ((Tryz.prog.info? 82).map (·.size)=some cs.length):=by show _=_;rw[hcl];exact info306
   have htl:w2.there w.heap.size 0 cs.length:=by rw[hcl];exact T2
   have hsc:(storeCells ⟨w.heap.size,0,none⟩ cs).run Tryz.prog w2 = .ok () (w2.setCells w.heap.size 0 cs):=store_all htl hone
   have hld:Hid ((loadVar 82 ⟨w.heap.size,0,none⟩).run Tryz.prog (w2.setCells w.heap.size 0 cs) = .ok (.agg cs.toArray) (w2.setCells w.heap.size 0 cs)) :=
    run_loadVar_mid _ _ _ _ cs _ (World.rangeAt_setCells_same _ _ _ _ htl) Tryz.underlying82 rfl hi.out
   replace hcs:Hid _:=hcs
   replace hcl:Hid _:=hcl
   replace hone:Hid _:=hone
   replace hSS:Hid _:=hSS
   clear htl T2 hB2 hV2 hF2 FJ
   go_wp2
   refine wp_load_mid 82 _ rfl (w.heap.size+1) 0 rfl cs _ hcr.out Tryz.underlying82 rfl hi.out ?_
   go_wp2
   exact bodyPost_ret (v := .agg cs.toArray) (results_cell1 rfl _ _ _ _ _ rfl hld.out) rfl ⟨rfl,Kept.setCells (Nat.le_refl _) _ _ K2.out⟩
def fixSym (p:Nat):Nat:=if p<24 then 256+p else if p<168 then p - 24 else if p<176 then 112+p else p - 32
def fixCnt (b:Nat):Nat:=if b=7 then 24 else if b=8 then 152 else if b=9 then 112 else 0
def fixL:CS:=⟨fixCnt,fixSym,288,9⟩
def fixD:CS:=⟨fun b=>if b=5 then 32 else 0,fun p=>if p<32 then p else 0,32,5⟩
def cntF (i b:Nat):Nat:=if b=7 then min i 280 - min i 256 else if b=8 then min i 144+(i - 280) else if b=9 then min i 256 - min i 144 else 0
def lgF (i:Nat):Nat:=if i=0 then 0 else if i<=144 then 8 else 9
def nx0F (b:Nat):Nat:=if b<=7 then 0 else if b=8 then 24 else if b=9 then 176 else 288
def nxF (i b:Nat):Nat:=nx0F b+cntF i b
def syF (i p:Nat):Nat:=if p<288/\fixSym p<i then fixSym p else 0
theorem fixLen_cases (i:Nat):(i<144/\fixLen i=8)\/(144<=i/\i<256/\fixLen i=9)\/(256<=i/\i<280/\fixLen i=7)\/(280<=i/\fixLen i=8):=by
 unfold fixLen
 by_cases h1:i<144
 ·rw[if_pos h1];omega
 ·rw[if_neg h1]
  by_cases h2:i<256
  ·rw[if_pos h2];omega
  ·rw[if_neg h2]
   by_cases h3:i<280
   ·rw[if_pos h3];omega
   ·rw[if_neg h3];omega
theorem k7 (i:Nat):cntF i 7=min i 280 - min i 256:=rfl
theorem k8 (i:Nat):cntF i 8=min i 144+(i - 280):=rfl
theorem k9 (i:Nat):cntF i 9=min i 256 - min i 144:=rfl
theorem kx (i b:Nat) (h1:b≠7) (h2:b≠8) (h3:b≠9):cntF i b=0:=by unfold cntF;rw[if_neg h1,if_neg h2,if_neg h3]
theorem cnt_step (i b:Nat):cntF (i+1) b=if b=fixLen i then cntF i b+1 else cntF i b:=by
 have hc:=fixLen_cases i
 generalize fixLen i=T at hc
 by_cases q7:b=7
 ·rw[q7,k7 (i+1),k7 i]
  by_cases t:7=T
  ·rw[if_pos t];omega
  ·rw[if_neg t];omega
 ·by_cases q8:b=8
  ·rw[q8,k8 (i+1),k8 i]
   by_cases t:8=T
   ·rw[if_pos t];omega
   ·rw[if_neg t];omega
  ·by_cases q9:b=9
   ·rw[q9,k9 (i+1),k9 i]
    by_cases t:9=T
    ·rw[if_pos t];omega
    ·rw[if_neg t];omega
   ·rw[kx _ _ q7 q8 q9,kx _ _ q7 q8 q9,if_neg (by omega)]
theorem fix_mk:MkOk 288 fixLen cntF lgF nx0F nxF syF:=by
 have c1:∀ i,i<288->cntF (i+1)=upd (cntF i) (fixLen i) (cntF i (fixLen i)+1):=fun i hi=>by
  funext b
  show cntF (i+1) b=if b=fixLen i then cntF i (fixLen i)+1 else cntF i b
  have e:cntF (i+1) b=if b=fixLen i then cntF i b+1 else cntF i b:=cnt_step i b
  rw[e]
  split
  ·rename_i q;rw[q]
  ·rfl
 refine ⟨by omega,by omega,fun i _=>by rcases fixLen_cases i with ⟨_,h⟩ | ⟨_,_,h⟩ | ⟨_,_,h⟩ | ⟨_,h⟩<;>omega,?_,c1,fun i j hi => ?_,rfl,fun i hi => ?_,fun i=>by unfold lgF;split;omega;split<;>omega,rfl,rfl,fun k h1 h2 => ?_,fun k=>by unfold nx0F;split;omega;split;omega;split<;>omega,fun j _ => ?_,fun i hi => ?_,fun i hi => ?_,?_,fun i hi => ?_⟩
 ·funext b;unfold cntF;split;rfl;split;rfl;split<;>rfl
 ·unfold cntF;split;omega;split;omega;split<;>omega
 ·unfold lgF
  rcases fixLen_cases i with ⟨h1,h2⟩ | ⟨h1,h1',h2⟩ | ⟨h1,h1',h2⟩ | ⟨h1,h2⟩
  all_goals
   rw[h2,if_neg (by omega)]
   by_cases i0:i=0
   ·subst i0;first | (exfalso;omega) | decide
   ·rw[if_neg i0];split<;>split<;>omega
 ·unfold nx0F cntF
  rcases (by omega:k<7\/k=7\/k=8\/k=9\/9<k) with q | q | q | q | q
  ·simp only [show ¬ k=7 by omega,show ¬ k=8 by omega,show ¬ k=9 by omega,show k+1<=7 by omega,show k<=7 by omega,if_true,if_false]
  ·subst q;decide
  ·subst q;decide
  ·subst q;decide
  ·simp only [show ¬ k=7 by omega,show ¬ k=8 by omega,show ¬ k=9 by omega,show ¬ k+1<=7 by omega,show ¬ k<=7 by omega,show ¬ k+1=8 by omega,show ¬ k+1=9 by omega,if_false]
 ·unfold nxF cntF;split;omega;split;omega;split<;>omega
 ·funext b
  unfold nxF
  rw[c1 i hi]
  unfold upd
  split
  ·rename_i q;subst q;omega
  ·rfl
 ·rcases fixLen_cases i with ⟨h1,h2⟩ | ⟨h1,h1',h2⟩ | ⟨h1,h1',h2⟩ | ⟨h1,h2⟩
  ·rw[h2];show 24+(min i 144+(i - 280))<288;omega
  ·rw[h2];show 176+(min i 256 - min i 144)<288;omega
  ·rw[h2];show 0+(min i 280 - min i 256)<288;omega
  ·rw[h2];show 24+(min i 144+(i - 280))<288;omega
 ·funext p;unfold syF;rw[if_neg (by omega)]
 ·funext p
  show (if p<288/\fixSym p<i+1 then fixSym p else 0)=if p=nxF i (fixLen i) then i else (if p<288/\fixSym p<i then fixSym p else 0)
  have key:p=nxF i (fixLen i) ↔ p<288/\fixSym p=i:=by
   have fs:(p<24/\fixSym p=256+p)\/(24<=p/\p<168/\fixSym p=p - 24)\/(168<=p/\p<176/\fixSym p=112+p)\/(176<=p/\fixSym p=p - 32):=by
    unfold fixSym
    by_cases a1:p<24
    ·rw[if_pos a1];omega
    ·rw[if_neg a1]
     by_cases a2:p<168
     ·rw[if_pos a2];omega
     ·rw[if_neg a2]
      by_cases a3:p<176
      ·rw[if_pos a3];omega
      ·rw[if_neg a3];omega
   rcases fixLen_cases i with ⟨h1,h2⟩ | ⟨h1,h1',h2⟩ | ⟨h1,h1',h2⟩ | ⟨h1,h2⟩
   ·rw[h2,show nxF i 8=24+(min i 144+(i - 280)) from rfl];omega
   ·rw[h2,show nxF i 9=176+(min i 256 - min i 144) from rfl];omega
   ·rw[h2,show nxF i 7=0+(min i 280 - min i 256) from rfl];omega
   ·rw[h2,show nxF i 8=24+(min i 144+(i - 280)) from rfl];omega
  by_cases q:p=nxF i (fixLen i)
  ·rw[if_pos q]
   obtain ⟨a1,a2⟩:=key.1 q
   rw[if_pos ⟨a1,by omega⟩,a2]
  ·rw[if_neg q]
   by_cases q2:p<288/\fixSym p<i
   ·rw[if_pos q2,if_pos ⟨q2.1,by omega⟩]
   ·rw[if_neg q2,if_neg (fun k=>q2 ⟨k.1,by
     have:fixSym p≠i:=fun t=>q (key.2 ⟨k.1,t⟩)
     omega⟩)]
theorem csC_fixL (j:Nat) (hj:j<306):csC ⟨cntF 288,syF 288,288,lgF 288⟩ j=csC fixL j:=by
 unfold csC
 show (if j<16 then Value.int .i64 (cntF 288 j:Int) else if j<304 then Value.int .i64 (syF 288 (j - 16):Int) else if j=304 then Value.int .i64 ((288:Nat):Int) else Value.int .i64 (lgF 288:Int))=(if j<16 then Value.int .i64 (fixCnt j:Int) else if j<304 then Value.int .i64 (fixSym (j - 16):Int) else if j=304 then Value.int .i64 ((288:Nat):Int) else Value.int .i64 ((9:Nat):Int))
 split
 ·have:cntF 288 j=fixCnt j:=by unfold cntF fixCnt;split;rfl;split;rfl;split<;>rfl
  rw[this]
 ·split
  ·have:syF 288 (j - 16)=fixSym (j - 16):=by
    unfold syF
    rw[if_pos ⟨by omega,by unfold fixSym;split;omega;split;omega;split<;>omega⟩]
   rw[this]
  ·rfl
def cntD (i b:Nat):Nat:=if b=5 then i else 0
def lgD (i:Nat):Nat:=if i=0 then 0 else 5
def nx0D (b:Nat):Nat:=if b<=5 then 0 else 32
def nxD (i b:Nat):Nat:=nx0D b+cntD i b
def syD (i p:Nat):Nat:=if p<i then p else 0
def f5:Nat->Nat:=fun _=>5
theorem dist_mk:MkOk 32 f5 cntD lgD nx0D nxD syD:=by
 refine ⟨by omega,by omega,fun i _=>by show 1<=5/\5<=15;omega,?_,fun i hi => ?_,fun i j hi => ?_,rfl,fun i hi => ?_,fun i=>by unfold lgD;split<;>omega,rfl,rfl,fun k h1 h2 => ?_,fun k=>by unfold nx0D;split<;>omega,fun j _ => ?_,fun i hi => ?_,fun i hi => ?_,?_,fun i hi => ?_⟩
 ·funext b;unfold cntD;split<;>rfl
 ·funext b
  show (if b=5 then i+1 else 0)=if b=5 then cntD i 5+1 else cntD i b
  by_cases q:b=5
  ·rw[if_pos q,if_pos q];rfl
  ·rw[if_neg q,if_neg q];unfold cntD;rw[if_neg q]
 ·unfold cntD;split<;>omega
 ·show (if i+1=0 then 0 else 5)=max (lgD i) 5
  unfold lgD;rw[if_neg (by omega)];split<;>omega
 ·unfold nx0D cntD
  split<;>split<;>(try split)<;>omega
 ·unfold nxD cntD;split<;>omega
 ·funext b
  show nx0D b+(if b=5 then i+1 else 0)=if b=5 then nxD i 5+1 else nxD i b
  by_cases q:b=5
  ·rw[if_pos q,if_pos q,q];show 0+(i+1)=0+i+1;omega
  ·rw[if_neg q,if_neg q];unfold nxD cntD;rw[if_neg q]
 ·show 0+i<288;omega
 ·funext p;unfold syD;rw[if_neg (by omega)]
 ·funext p
  show (if p<i+1 then p else 0)=if p=0+i then i else (if p<i then p else 0)
  by_cases q:p=i
  ·rw[if_pos (by omega),if_pos (by omega),q]
  ·rw[if_neg (show ¬ p=0+i by omega)]
   by_cases q2:p<i
   ·rw[if_pos q2,if_pos (by omega)]
   ·rw[if_neg q2,if_neg (by omega)]
theorem csC_fixD (j:Nat) (hj:j<306):csC ⟨cntD 32,syD 32,32,lgD 32⟩ j=csC fixD j:=by
 unfold csC
 rfl
theorem fixedLits_x (w:World) :
  Calls Tryz.prog 191 #[] w fun e w'=>e = .returned (.agg ((List.range 306).map (csC ⟨cntF 288,syF 288,288,lgF 288⟩)).toArray)/\Kept w w':=by
 obtain ⟨ds,hds0⟩:∃ ds,ds=(List.range 306).map (csC ⟨cntF 288,syF 288,288,lgF 288⟩):=⟨_,rfl⟩
 rw[<- hds0]
 have HDS:Hid (ds=(List.range 306).map (csC ⟨cntF 288,syF 288,288,lgF 288⟩)):=hds0
 clear hds0
 have K0:Hid (Kept w (w.alloc (Obj.cells Tryz.zeroCells82 82))):=Below.alloc (Below.refl _ _) (Nat.le_refl _) _
 have T0:Hid ((w.alloc (Obj.cells Tryz.zeroCells82 82)).there w.heap.size 0 306):=by
  have:=(blk306 w 82).there (k:=0) (m:=306) (by omega)
  rw[<- zero306] at this
  exact this
 have L0:Hid (w.heap.size<(w.alloc (Obj.cells Tryz.zeroCells82 82)).heap.size):=by show _<_;simp
 go_enter Tryz.func191,Tryz.ntmps191
 go_wp2_with fail
 generalize w.alloc (Obj.cells Tryz.zeroCells82 82)=w1 at *
 refine (fixlit_x w1).mono ?_
 rintro e w2 ⟨rfl,hk2⟩
 obtain ⟨cs,hcs⟩:∃ cs,cs=(List.range 288).map (u8C fixLen 288):=⟨_,rfl⟩
 have hcl:cs.length=288:=by rw[hcs];exact range_len _ 288
 have hone:∀ v ∈ cs,v.oneCell'=true:=by rw[hcs];exact u8C_one _ _
 have thA:(w2.alloc (Obj.cells Tryz.zeroCells149 149)).there w2.heap.size 0 288:=by
  have:=(blk_rep w2 288 (.int .u8 0) 149 fixLen rfl).there (k:=0) (m:=288) (by omega)
  first | exact this | (rw[<- jzero288] at this;exact this)
 have htl:(w2.alloc (Obj.cells Tryz.zeroCells149 149)).there w2.heap.size 0 cs.length:=by rw[hcl];exact thA
 have hsc:(storeCells ⟨w2.heap.size,0,none⟩ cs).run Tryz.prog (w2.alloc (Obj.cells Tryz.zeroCells149 149)) = .ok () ((w2.alloc (Obj.cells Tryz.zeroCells149 149)).setCells w2.heap.size 0 cs):=store_all htl hone
 have rg:=World.rangeAt_setCells_same (w2.alloc (Obj.cells Tryz.zeroCells149 149)) w2.heap.size 0 cs htl
 have kA:Kept w2 (w2.alloc (Obj.cells Tryz.zeroCells149 149)):=Below.alloc (Below.refl _ _) (Nat.le_refl _) _
 have K3:Hid (Kept w1 ((w2.alloc (Obj.cells Tryz.zeroCells149 149)).setCells w2.heap.size 0 cs)):=Kept.setCells hk2.size _ _ (hk2.trans kA)
 have HG:Hid (∀ i,i<288->((w2.alloc (Obj.cells Tryz.zeroCells149 149)).setCells w2.heap.size 0 cs).cell? ⟨w2.heap.size,i,none⟩=some (.int .u8 (fixLen i:Int))):=fun i hi=>by
  have:=rg i (.int .u8 (fixLen i:Int)) (by rw[hcs,range_get _ 288 i hi];unfold u8C;rw[if_pos hi])
  rw[Nat.zero_add] at this
  exact this
 first | rw[<- hcs] | rw[show (List.map (u8C (fun _=>5) 32) (List.range 32))=cs from hcs.symm]
 replace hcs:Hid _:=hcs
 replace hcl:Hid _:=hcl
 replace hone:Hid _:=hone
 clear thA htl rg kA hk2
 go_upto_region 2 with fail
 generalize (w2.alloc (Obj.cells Tryz.zeroCells149 149)).setCells w2.heap.size 0 cs=w3 at *
 clear hsc
 have FM:Hid (Calls Tryz.prog 193 #[.slice (some ⟨w2.heap.size,0,none⟩) 288 288] w3 fun e w'=>e = .returned (.agg ((List.range 306).map (csC ⟨cntF 288,syF 288,288,lgF 288⟩)).toArray)/\Kept w3 w'):=make_x w2.heap.size 288 288 fixLen cntF lgF nx0F nxF syF w3 HG.out (Nat.le_refl _) fix_mk
 have hds:=HDS.out
 have hdl:ds.length=306:=by rw[hds];exact range_len _ 306
 have hdo:∀ v ∈ ds,v.oneCell'=true:=by rw[hds];exact csC_one _
 rw[<- hds] at FM
 replace hds:Hid _:=hds
 replace hdl:Hid _:=hdl
 replace hdo:Hid _:=hdo
 go_wp2_with fail
 refine FM.out.mono ?_
 rintro e w4 ⟨rfl,hk4⟩
 have K4:Kept w1 w4:=K3.out.trans hk4
 have th4:w4.there w.heap.size 0 ds.length:=by rw[hdl.out];exact fun j hj=>⟨by rw[K4.cell (p:=⟨w.heap.size,0+j,none⟩) L0.out];exact (T0.out j hj).1,by rw[K4.frozen (p:=⟨w.heap.size,0+j,none⟩) L0.out];exact (T0.out j hj).2⟩
 have hsc:(storeCells ⟨w.heap.size,0,none⟩ ds).run Tryz.prog w4 = .ok () (w4.setCells w.heap.size 0 ds):=store_all th4 hdo.out
 have hi:Hid ((Tryz.prog.info? 82).map (·.size)=some ds.length):=by show _=_;rw[hdl.out];exact info306
 have hld:Hid ((loadVar 82 ⟨w.heap.size,0,none⟩).run Tryz.prog (w4.setCells w.heap.size 0 ds) = .ok (.agg ds.toArray) (w4.setCells w.heap.size 0 ds)) :=
  run_loadVar_mid _ _ _ _ ds _ (World.rangeAt_setCells_same _ _ _ _ th4) Tryz.underlying82 rfl hi.out
 have KE:Hid (Kept w (w4.setCells w.heap.size 0 ds)):=Kept.setCells (Nat.le_refl _) _ _ (K0.out.trans K4)
 clear th4 hk4 K4
 go_wp2
 exact bodyPost_ret (v := .agg ds.toArray) (results_cell1 rfl _ _ _ _ _ rfl hld.out) rfl ⟨rfl,KE.out⟩
theorem fixedDists_x (w:World) :
  Calls Tryz.prog 192 #[] w fun e w'=>e = .returned (.agg ((List.range 306).map (csC ⟨cntD 32,syD 32,32,lgD 32⟩)).toArray)/\Kept w w':=by
 obtain ⟨ds,hds0⟩:∃ ds,ds=(List.range 306).map (csC ⟨cntD 32,syD 32,32,lgD 32⟩):=⟨_,rfl⟩
 rw[<- hds0]
 have HDS:Hid (ds=(List.range 306).map (csC ⟨cntD 32,syD 32,32,lgD 32⟩)):=hds0
 clear hds0
 have K0:Hid (Kept w (w.alloc (Obj.cells Tryz.zeroCells82 82))):=Below.alloc (Below.refl _ _) (Nat.le_refl _) _
 have T0:Hid ((w.alloc (Obj.cells Tryz.zeroCells82 82)).there w.heap.size 0 306):=by
  have:=(blk306 w 82).there (k:=0) (m:=306) (by omega)
  rw[<- zero306] at this
  exact this
 have L0:Hid (w.heap.size<(w.alloc (Obj.cells Tryz.zeroCells82 82)).heap.size):=by show _<_;simp
 go_enter Tryz.func192,Tryz.ntmps192
 go_wp2_with fail
 generalize w.alloc (Obj.cells Tryz.zeroCells82 82)=w1 at *
 refine (fixdist_x w1).mono ?_
 rintro e w2 ⟨rfl,hk2⟩
 obtain ⟨cs,hcs⟩:∃ cs,cs=(List.range 32).map (u8C f5 32):=⟨_,rfl⟩
 have hcl:cs.length=32:=by rw[hcs];exact range_len _ 32
 have hone:∀ v ∈ cs,v.oneCell'=true:=by rw[hcs];exact u8C_one _ _
 have thA:(w2.alloc (Obj.cells #[.int .u8 0,.int .u8 0,.int .u8 0,.int .u8 0,.int .u8 0,.int .u8 0,.int .u8 0,.int .u8 0,.int .u8 0,.int .u8 0,.int .u8 0,.int .u8 0,.int .u8 0,.int .u8 0,.int .u8 0,.int .u8 0,.int .u8 0,.int .u8 0,.int .u8 0,.int .u8 0,.int .u8 0,.int .u8 0,.int .u8 0,.int .u8 0,.int .u8 0,.int .u8 0,.int .u8 0,.int .u8 0,.int .u8 0,.int .u8 0,.int .u8 0,.int .u8 0] 213)).there w2.heap.size 0 32:=by
  have:=(blk_rep w2 32 (.int .u8 0) 213 f5 rfl).there (k:=0) (m:=32) (by omega)
  first | exact this | (rw[<- jzero32] at this;exact this)
 have htl:(w2.alloc (Obj.cells #[.int .u8 0,.int .u8 0,.int .u8 0,.int .u8 0,.int .u8 0,.int .u8 0,.int .u8 0,.int .u8 0,.int .u8 0,.int .u8 0,.int .u8 0,.int .u8 0,.int .u8 0,.int .u8 0,.int .u8 0,.int .u8 0,.int .u8 0,.int .u8 0,.int .u8 0,.int .u8 0,.int .u8 0,.int .u8 0,.int .u8 0,.int .u8 0,.int .u8 0,.int .u8 0,.int .u8 0,.int .u8 0,.int .u8 0,.int .u8 0,.int .u8 0,.int .u8 0] 213)).there w2.heap.size 0 cs.length:=by rw[hcl];exact thA
 have hsc:(storeCells ⟨w2.heap.size,0,none⟩ cs).run Tryz.prog (w2.alloc (Obj.cells #[.int .u8 0,.int .u8 0,.int .u8 0,.int .u8 0,.int .u8 0,.int .u8 0,.int .u8 0,.int .u8 0,.int .u8 0,.int .u8 0,.int .u8 0,.int .u8 0,.int .u8 0,.int .u8 0,.int .u8 0,.int .u8 0,.int .u8 0,.int .u8 0,.int .u8 0,.int .u8 0,.int .u8 0,.int .u8 0,.int .u8 0,.int .u8 0,.int .u8 0,.int .u8 0,.int .u8 0,.int .u8 0,.int .u8 0,.int .u8 0,.int .u8 0,.int .u8 0] 213)) = .ok () ((w2.alloc (Obj.cells #[.int .u8 0,.int .u8 0,.int .u8 0,.int .u8 0,.int .u8 0,.int .u8 0,.int .u8 0,.int .u8 0,.int .u8 0,.int .u8 0,.int .u8 0,.int .u8 0,.int .u8 0,.int .u8 0,.int .u8 0,.int .u8 0,.int .u8 0,.int .u8 0,.int .u8 0,.int .u8 0,.int .u8 0,.int .u8 0,.int .u8 0,.int .u8 0,.int .u8 0,.int .u8 0,.int .u8 0,.int .u8 0,.int .u8 0,.int .u8 0,.int .u8 0,.int .u8 0] 213)).setCells w2.heap.size 0 cs):=store_all htl hone
 have rg:=World.rangeAt_setCells_same (w2.alloc (Obj.cells #[.int .u8 0,.int .u8 0,.int .u8 0,.int .u8 0,.int .u8 0,.int .u8 0,.int .u8 0,.int .u8 0,.int .u8 0,.int .u8 0,.int .u8 0,.int .u8 0,.int .u8 0,.int .u8 0,.int .u8 0,.int .u8 0,.int .u8 0,.int .u8 0,.int .u8 0,.int .u8 0,.int .u8 0,.int .u8 0,.int .u8 0,.int .u8 0,.int .u8 0,.int .u8 0,.int .u8 0,.int .u8 0,.int .u8 0,.int .u8 0,.int .u8 0,.int .u8 0] 213)) w2.heap.size 0 cs htl
 have kA:Kept w2 (w2.alloc (Obj.cells #[.int .u8 0,.int .u8 0,.int .u8 0,.int .u8 0,.int .u8 0,.int .u8 0,.int .u8 0,.int .u8 0,.int .u8 0,.int .u8 0,.int .u8 0,.int .u8 0,.int .u8 0,.int .u8 0,.int .u8 0,.int .u8 0,.int .u8 0,.int .u8 0,.int .u8 0,.int .u8 0,.int .u8 0,.int .u8 0,.int .u8 0,.int .u8 0,.int .u8 0,.int .u8 0,.int .u8 0,.int .u8 0,.int .u8 0,.int .u8 0,.int .u8 0,.int .u8 0] 213)):=Below.alloc (Below.refl _ _) (Nat.le_refl _) _
 have K3:Hid (Kept w1 ((w2.alloc (Obj.cells #[.int .u8 0,.int .u8 0,.int .u8 0,.int .u8 0,.int .u8 0,.int .u8 0,.int .u8 0,.int .u8 0,.int .u8 0,.int .u8 0,.int .u8 0,.int .u8 0,.int .u8 0,.int .u8 0,.int .u8 0,.int .u8 0,.int .u8 0,.int .u8 0,.int .u8 0,.int .u8 0,.int .u8 0,.int .u8 0,.int .u8 0,.int .u8 0,.int .u8 0,.int .u8 0,.int .u8 0,.int .u8 0,.int .u8 0,.int .u8 0,.int .u8 0,.int .u8 0] 213)).setCells w2.heap.size 0 cs)):=Kept.setCells hk2.size _ _ (hk2.trans kA)
 have HG:Hid (∀ i,i<32->((w2.alloc (Obj.cells #[.int .u8 0,.int .u8 0,.int .u8 0,.int .u8 0,.int .u8 0,.int .u8 0,.int .u8 0,.int .u8 0,.int .u8 0,.int .u8 0,.int .u8 0,.int .u8 0,.int .u8 0,.int .u8 0,.int .u8 0,.int .u8 0,.int .u8 0,.int .u8 0,.int .u8 0,.int .u8 0,.int .u8 0,.int .u8 0,.int .u8 0,.int .u8 0,.int .u8 0,.int .u8 0,.int .u8 0,.int .u8 0,.int .u8 0,.int .u8 0,.int .u8 0,.int .u8 0] 213)).setCells w2.heap.size 0 cs).cell? ⟨w2.heap.size,i,none⟩=some (.int .u8 (f5 i:Int))):=fun i hi=>by
  have:=rg i (.int .u8 (f5 i:Int)) (by rw[hcs,range_get _ 32 i hi];unfold u8C;rw[if_pos hi])
  rw[Nat.zero_add] at this
  exact this
 first | rw[<- hcs] | rw[show (List.map (u8C (fun _=>5) 32) (List.range 32))=cs from hcs.symm]
 replace hcs:Hid _:=hcs
 replace hcl:Hid _:=hcl
 replace hone:Hid _:=hone
 clear thA htl rg kA hk2
 go_upto_region 2 with fail
 generalize (w2.alloc (Obj.cells #[.int .u8 0,.int .u8 0,.int .u8 0,.int .u8 0,.int .u8 0,.int .u8 0,.int .u8 0,.int .u8 0,.int .u8 0,.int .u8 0,.int .u8 0,.int .u8 0,.int .u8 0,.int .u8 0,.int .u8 0,.int .u8 0,.int .u8 0,.int .u8 0,.int .u8 0,.int .u8 0,.int .u8 0,.int .u8 0,.int .u8 0,.int .u8 0,.int .u8 0,.int .u8 0,.int .u8 0,.int .u8 0,.int .u8 0,.int .u8 0,.int .u8 0,.int .u8 0] 213)).setCells w2.heap.size 0 cs=w3 at *
 clear hsc
 have FM:Hid (Calls Tryz.prog 193 #[.slice (some ⟨w2.heap.size,0,none⟩) 32 32] w3 fun e w'=>e = .returned (.agg ((List.range 306).map (csC ⟨cntD 32,syD 32,32,lgD 32⟩)).toArray)/\Kept w3 w'):=make_x w2.heap.size 32 32 f5 cntD lgD nx0D nxD syD w3 HG.out (Nat.le_refl _) dist_mk
 have hds:=HDS.out
 have hdl:ds.length=306:=by rw[hds];exact range_len _ 306
 have hdo:∀ v ∈ ds,v.oneCell'=true:=by rw[hds];exact csC_one _
 rw[<- hds] at FM
 replace hds:Hid _:=hds
 replace hdl:Hid _:=hdl
 replace hdo:Hid _:=hdo
 go_wp2_with fail
 refine FM.out.mono ?_
 rintro e w4 ⟨rfl,hk4⟩
 have K4:Kept w1 w4:=K3.out.trans hk4
 have th4:w4.there w.heap.size 0 ds.length:=by rw[hdl.out];exact fun j hj=>⟨by rw[K4.cell (p:=⟨w.heap.size,0+j,none⟩) L0.out];exact (T0.out j hj).1,by rw[K4.frozen (p:=⟨w.heap.size,0+j,none⟩) L0.out];exact (T0.out j hj).2⟩
 have hsc:(storeCells ⟨w.heap.size,0,none⟩ ds).run Tryz.prog w4 = .ok () (w4.setCells w.heap.size 0 ds):=store_all th4 hdo.out
 have hi:Hid ((Tryz.prog.info? 82).map (·.size)=some ds.length):=by show _=_;rw[hdl.out];exact info306
 have hld:Hid ((loadVar 82 ⟨w.heap.size,0,none⟩).run Tryz.prog (w4.setCells w.heap.size 0 ds) = .ok (.agg ds.toArray) (w4.setCells w.heap.size 0 ds)) :=
  run_loadVar_mid _ _ _ _ ds _ (World.rangeAt_setCells_same _ _ _ _ th4) Tryz.underlying82 rfl hi.out
 have KE:Hid (Kept w (w4.setCells w.heap.size 0 ds)):=Kept.setCells (Nat.le_refl _) _ _ (K0.out.trans K4)
 clear th4 hk4 K4
 go_wp2
 exact bodyPost_ret (v := .agg ds.toArray) (results_cell1 rfl _ _ _ _ _ rfl hld.out) rfl ⟨rfl,KE.out⟩
