import Derived.Test.YthniahejjamhgaaGreatDoorRoG5
import Derived.Test.YthniahejjamhgaaGreatDoorRoD0
set_option maxRecDepth 100000
set_option maxHeartbeats 6400000
namespace Go.Proofs.YthniahejjamhgaaGreatDoor
open Go.RowKit
set_option linter.unusedSimpArgs false
set_option linter.unusedVariables false
theorem bookof_g (v:Value) (l:List Int) (w:World) (hl:LAt w .u8 v l) (h0:0<l.length) (hn:l.length<=288) (hB:∀ x ∈ l,0<=x/\x<256) :
  Calls Tryz.prog 131 #[v] w fun r w'=>∃ cs:List Value,r = .returned (.agg cs.toArray)/\cs.length=576/\(∀ i,i<288->∃ z:Int,0<=z/\z<4294967296/\cs[i]? = some (.int .u32 z))/\(∀ i,i<288->∃ z:Int,0<=z/\z<16/\cs[288+i]? = some (.int .u8 z))/\Kept w w':=by
 obtain ⟨g,o,c,rfl,hc⟩:=hl.addr (by omega);obtain ⟨M,hM⟩:∃ M,M=l.length:=⟨_,rfl⟩;rw[<- hM] at hc hn h0 ⊢;have hg:g<w.heap.size:=World.block_lt_of_cell? _ _ (hc 0 (by omega));have hR:Hid (BkIn ((w.alloc (Obj.cells Tryz.zeroCells135 135)).alloc (Obj.cells Tryz.zeroCells135 135)) (w.heap.size+1)):=by
  refine ⟨?_,?_,fun k=>World.frozen?_alloc_at _ _ _ _ (by simp)⟩
  ·intro j hj
   exact ⟨0,by omega,by omega,by rw[World.cell?_alloc_at _ _ _ _ (by simp),zero576];simpa using get576 j hj⟩
  ·intro j hj
   exact ⟨0,by omega,by omega,by rw[World.cell?_alloc_at _ _ _ _ (by simp),zero576];simpa using get576' j hj⟩
 have hT:Hid (((w.alloc (Obj.cells Tryz.zeroCells135 135)).alloc (Obj.cells Tryz.zeroCells135 135)).there w.heap.size 0 576):=by
  refine World.there_alloc ?_ _;intro j hj;refine ⟨?_,World.frozen?_alloc_at _ _ _ _ rfl⟩;rw[World.cell?_alloc_at _ _ _ _ rfl,zero576];by_cases h:j<288
  ·rw[show 0+j=j by omega,get576 j h];rfl
  ·have:=get576' (j - 288) (by omega)
   rw[show 0+j=288+(j - 288) by omega,this];rfl
 have hK:Hid (Kept w ((w.alloc (Obj.cells Tryz.zeroCells135 135)).alloc (Obj.cells Tryz.zeroCells135 135))):=((Below.refl _ _).alloc (Nat.le_refl _) _).alloc (by simp) _;have HC:Hid (∀ i,i<M->w.cell? ⟨g,o+i,none⟩=some (.int .u8 (l.getD i 0))):=hc;have HB:Hid (∀ i,i<M->0<=l.getD i 0/\l.getD i 0<256):=fun i hi=>hB _ (getD_mem (by omega))
 clear hc hB hl hM;go_enter Tryz.func131,Tryz.ntmps131;go_wp2;generalize ((w.alloc (Obj.cells Tryz.zeroCells135 135)).alloc (Obj.cells Tryz.zeroCells135 135))=w0 at *;go_loopw [4,5] (fun u v W=>∃ k:Nat,∃ q:Int,1<=k/\k<=16/\v = .int .u8 (k:Int)/\u = .int .u32 q/\0<=q/\q<4294967296/\BkIn W (w.heap.size+1)/\W.there w.heap.size 0 576/\Kept w W) (fun _ v _=>16 - (intOf v).toNat)
 case atStart=>exact ⟨1,0,by omega,by omega,rfl,rfl,by omega,by omega,hR.out,hT.out,hK.out⟩
 case round=>
  obtain ⟨k,q,hk1,hk2,rfl,rfl,hq0,hq1,hb,ht,hK2⟩:=hrel;replace hb:Hid (BkIn wr (w.heap.size+1)):=hb;replace ht:Hid (wr.there w.heap.size 0 576):=ht;replace hK2:Hid (Kept w wr):=hK2;clear hR hT hK;by_cases hlt:k<=15
  ·have i1:(k:Int)<=15:=by omega
   go_wp2;go_loopw [4,6] (fun u v W=>∃ i:Nat,∃ q:Int,i<=M/\v = .int .i64 (i:Int)/\u = .int .u32 q/\0<=q/\q<4294967296/\BkIn W (w.heap.size+1)/\W.there w.heap.size 0 576/\Kept w W) (fun _ v _=>M - (intOf v).toNat)
   case atStart=>exact ⟨0,q,by omega,rfl,rfl,hq0,hq1,hb.out,ht.out,hK2.out⟩
   case round=>
    clear hb ht hK2;obtain ⟨i,q2,hi,rfl,rfl,hq20,hq21,hb,ht,hK2⟩:=hrel;by_cases hil:i<M
    ·have j0:(0:Int)<=(i:Int):=by omega
     have j1:(i:Int)<(M:Int):=by omega
     have j2:(i:Int)<288:=by omega
     have hi2:i<288:=by omega
     have hcw:wr.cell? ⟨g,o+i,none⟩=some (.int .u8 (l.getD i 0)):=(hK2.cell (p:=⟨g,o+i,none⟩) hg).trans (HC.out i hil);obtain ⟨b0,b1⟩:=HB.out i hil;generalize l.getD i 0=B at *;by_cases he:B=(k:Int)
     ·subst he
      obtain ⟨y1,_,_,hy1⟩:=hb.cd i hi2;obtain ⟨y2,_,_,hy2⟩:=hb.sz i hi2;rw[Nat.zero_add] at hy1;have f1:=hb.fz i;have f2:=hb.fz (288+i);replace hb:Hid (BkIn wr (w.heap.size+1)):=hb;replace ht:Hid (wr.there w.heap.size 0 576):=ht;replace hK2:Hid (Kept w wr):=hK2;go_wp2;refine ⟨⟨i+1,_,by omega,by go_num,rfl,Int.emod_nonneg _ (by omega),Int.emod_lt_of_pos _ (by omega),?_,?_,?_⟩,by simp [intOf];omega⟩
      ·exact (hb.out.setc i hi2 _ hq20 hq21).sets i hi2 _ (by omega) (by omega)
      ·exact there_set (there_set ht.out _ (by omega)) _ (by omega)
      ·exact (hK2.out.setCell (by simp) _).setCell (by simp) _
     ·replace hb:Hid (BkIn wr (w.heap.size+1)):=hb
      replace ht:Hid (wr.there w.heap.size 0 576):=ht;replace hK2:Hid (Kept w wr):=hK2;go_wp2;exact ⟨⟨i+1,_,by omega,by go_num,rfl,hq20,hq21,hb.out,ht.out,hK2.out⟩,by simp [intOf];omega⟩
    ·have j1:¬ (i:Int)<(M:Int):=by omega
     replace hb:Hid (BkIn wr (w.heap.size+1)):=hb;replace ht:Hid (wr.there w.heap.size 0 576):=ht;replace hK2:Hid (Kept w wr):=hK2;go_wp2;exact ⟨⟨k+1,_,by omega,by omega,by go_num,rfl,Int.emod_nonneg _ (by omega),Int.emod_lt_of_pos _ (by omega),hb.out,ht.out,hK2.out⟩,by simp [intOf];omega⟩
  ·have i1:¬ (k:Int)<=15:=by omega
   obtain ⟨c1,hc1l,hc1r,hc1z⟩:=hb.out.cd.list;obtain ⟨c2,hc2l,hc2r,hc2z⟩:=hb.out.sz.list;have hone:Hid (∀ v ∈ c1++c2,v.oneCell'=true):=by
    intro v hv;rcases List.mem_append.1 hv with h | h
    ·exact ints_one hc1l hc1z v h
    ·exact ints_one hc2l hc2z v h
   have hcl':Hid ((c1++c2).length=576):=by show (c1++c2).length=576;rw[List.length_append,hc1l,hc2l]
   have hcr:Hid (wr.rangeAt (w.heap.size+1) 0 (c1++c2)):=by
    intro j v hv;by_cases hj:j<288
    ·rw[List.getElem?_append_left (by omega)] at hv;exact hc1r j v hv
    ·rw[List.getElem?_append_right (by omega),hc1l] at hv
     have:=hc2r _ v hv
     rw[show 0+j=288+(j - 288) by omega];exact this
   have hZ1:Hid (∀ i,i<288->∃ z:Int,0<=z/\z<4294967296/\(c1++c2)[i]? = some (.int .u32 z)):=fun i hi=>by rw[List.getElem?_append_left (by omega)];exact hc1z i hi
   have hZ2:Hid (∀ i,i<288->∃ z:Int,0<=z/\z<16/\(c1++c2)[288+i]? = some (.int .u8 z)):=fun i hi=>by rw[List.getElem?_append_right (by omega),hc1l,show 288+i - 288=i by omega];exact hc2z i hi
   clear hc1l hc1r hc1z hc2l hc2r hc2z;generalize c1++c2=cs at *;have hi:Hid ((Tryz.prog.info? 135).map (·.size)=some cs.length):=by show _=_;rw[hcl'.out];exact size576
   go_wp2;refine wp_load_mid 135 _ rfl (w.heap.size+1) 0 rfl cs _ hcr.out Tryz.underlying135 rfl hi.out ?_;have hsc:(storeCells ⟨w.heap.size,0,none⟩ cs).run Tryz.prog wr = .ok () (wr.setCells w.heap.size 0 cs):=by
    have:=run_storeCells_cells (P:=Tryz.prog) w.heap.size 0 cs 0 wr (fun j hj=>by simpa using (ht.out j (by rw[<- hcl'.out];exact hj)).1) (fun j hj=>by simpa using (ht.out j (by rw[<- hcl'.out];exact hj)).2) hone.out
    simpa using this
   go_wp2;have hld:(loadVar 135 ⟨w.heap.size,0,none⟩).run Tryz.prog (wr.setCells w.heap.size 0 cs) = .ok (.agg cs.toArray) (wr.setCells w.heap.size 0 cs) :=
    run_loadVar_mid _ _ _ _ cs _ (World.rangeAt_setCells_same _ _ _ _ (by rw[hcl'.out];exact ht.out)) Tryz.underlying135 rfl hi.out
   refine bodyPost_ret (v := .agg cs.toArray) ?_ rfl ⟨cs,rfl,hcl'.out,hZ1.out,hZ2.out,Kept.setCells (Nat.le_refl _) _ _ hK2.out⟩;exact results_cell1 rfl _ _ _ _ _ rfl hld
theorem store_there {P:Program} {W:World} {b o:Nat} {cs:List Value} (h:W.there b o cs.length) (h1:∀ v ∈ cs,v.oneCell'=true):(storeCells ⟨b,o,none⟩ cs).run P W = .ok () (W.setCells b o cs):=by
 have:=run_storeCells_cells (P:=P) b o cs 0 W (fun j hj=>by rw[Nat.add_zero];exact (h j hj).1) (fun j hj=>by rw[Nat.add_zero];exact (h j hj).2) h1
 rw[Nat.add_zero] at this;exact this
def zOf:Value->Int
 | .int _ z=>z
 | _=>0
theorem Rng.lat {k:IntKind} {m:Int} {W:World} {b o n:Nat} (h:Rng k m W b o n) (c:Nat):∃ l:List Int,l.length=n/\LAt W k (.slice (some ⟨b,o,none⟩) n c) l/\∀ x ∈ l,0<=x/\x<m:=by
 obtain ⟨cs,h1,h2,h3⟩:=h.list;refine ⟨cs.map zOf,by simp [h1],⟨⟨some ⟨b,o,none⟩,c,by simp [h1]⟩,?_⟩,?_⟩
 ·intro p c' hv i hi
  rw[List.length_map] at hi;obtain ⟨z,z0,z1,hz⟩:=h3 i (by omega)
  injection hv with hp _ _
  refine ⟨b,o,hp.symm,?_⟩;rw[h2 i _ hz];have e:(cs.map zOf).getD i 0=z:=by
   rw[List.getD_eq_getElem?_getD,List.getElem?_map,hz];rfl
  rw[e]
 ·intro x hx
  obtain ⟨v,hv,e⟩:=List.mem_map.1 hx;obtain ⟨j,hj,e2⟩:=List.getElem_of_mem hv;obtain ⟨z,z0,z1,hz⟩:=h3 j (by omega);rw[List.getElem?_eq_getElem hj] at hz
  injection hz with hz
  have:x=z:=by rw[<- e,<- e2,hz];rfl
  omega
theorem turns_any (v:Value) (l:List Int) (k:Nat) (w:World) (hl:LAt w .i64 v l) (h0:0<l.length) (hn:l.length<=1048576) (hk:k<=4611686018427387904) :
  Calls Tryz.prog 71 #[v,.int .i64 (k:Int)] w fun r w'=>r = .returned (.int .i64 (l.getD (k % l.length) 0))/\Kept w w':=by
 obtain ⟨g,o,c,rfl,hc⟩:=hl.addr h0;have hm:k % l.length<l.length:=Nat.mod_lt _ h0;have hcw:=hc _ hm;have e:(k:Int).tmod (l.length:Int)=((k % l.length:Nat):Int):=by rw[Int.tmod_eq_emod_of_nonneg (by omega)];exact Int.natCast_emod k l.length
 have e2:(k:Int) % (l.length:Int)=((k % l.length:Nat):Int):=(Int.natCast_emod k l.length).symm;have i0:(0:Int)<=((k % l.length:Nat):Int):=by omega
 have i1:((k % l.length:Nat):Int)<(l.length:Int):=by omega
 have n0:¬ ((l.length:Int)=0):=by omega
 have n1:¬ (l.length=0):=by omega
 have b0:((l.length:Int) == 0)=false:=by rw[beq_eq_false_iff_ne];exact n0
 have b1:¬ ((k:Int)<0):=by omega
 clear hc hl;generalize l.getD (k % l.length) 0=X at *;generalize k % l.length=M at *;go_enter Tryz.func71,Tryz.ntmps71;go_wp2;go_ret;exact ⟨rfl,Kept.refl _⟩
theorem lay_size (o:Nat):∀ (l:List Value) (n:Nat) (z:Array Value),(List.foldl (fun (cs:Array Value) (x:Value × Nat)=>cs.setIfInBounds (o+x.snd) x.fst) z (l.zipIdx n)).size=z.size
 | [],_,_=>rfl
 | v::r,n,z=>by rw[List.zipIdx_cons,List.foldl_cons,lay_size o r (n+1)];simp
theorem lay_out (o:Nat):∀ (l:List Value) (n:Nat) (z:Array Value) (j:Nat),(j<o+n\/o+n+l.length<=j)->(List.foldl (fun (cs:Array Value) (x:Value × Nat)=>cs.setIfInBounds (o+x.snd) x.fst) z (l.zipIdx n))[j]? = z[j]?
 | [],_,_,_,_=>rfl
 | v::r,n,z,j,h=>by
  rw[List.zipIdx_cons,List.foldl_cons,lay_out o r (n+1) _ j (by simp at h;omega)];rw[Array.getElem?_setIfInBounds_ne (by simp at h;show o+n≠j;omega)]
theorem lay_in (o:Nat):∀ (l:List Value) (n:Nat) (z:Array Value) (j:Nat) (hj:j<l.length),o+n+l.length<=z.size->(List.foldl (fun (cs:Array Value) (x:Value × Nat)=>cs.setIfInBounds (o+x.snd) x.fst) z (l.zipIdx n))[o+n+j]? = l[j]?
 | [],_,_,_,hj,_=>by simp at hj
 | v::r,n,z,j,hj,hz=>by
  rw[List.zipIdx_cons,List.foldl_cons];cases j with
  | zero=>
   rw[lay_out o r (n+1) _ _ (Or.inl (by omega))];simp at hz;rw[Nat.add_zero,Array.getElem?_setIfInBounds_self_of_lt (by omega)];rfl
  | succ j=>
   have:=lay_in o r (n+1) (z.setIfInBounds (o+n) v) j (by simpa using hj) (by simp at hz ⊢;omega)
   rw[show o+n+(j+1)=o+(n+1)+j by omega,this];rfl
theorem setCells_size (b:Nat):∀ (vs:List Value) (o:Nat) (w:World),(w.setCells b o vs).heap.size=w.heap.size
 | [],_,_=>rfl
 | v::r,o,w=>by rw[World.setCells,setCells_size b r];simp [World.setCell]
theorem LAt.lt {w:World} {k:IntKind} {v:Value} {l:List Int} (h:LAt w k v l) (h0:0<l.length):∀ g,sliceBlock v=some g->g<w.heap.size:=by
 obtain ⟨g,o,c,rfl,hc⟩:=h.addr h0;intro g' hg
 have:g=g':=by injection hg
 subst this;exact World.block_lt_of_cell? _ _ (hc 0 h0)
theorem LAt.part {w:World} {k:IntKind} {g o c:Nat} {l:List Int} (h:LAt w k (.slice (some ⟨g,o,none⟩) l.length c) l) (a n c':Nat) (hn:a+n<=l.length):LAt w k (.slice (some ⟨g,o+a,none⟩) n c') ((l.drop a).take n):=by
 have hlen:((l.drop a).take n).length=n:=by simp;omega
 refine ⟨⟨some ⟨g,o+a,none⟩,c',by rw[hlen]⟩,?_⟩;intro p c2 hv i hi;rw[hlen] at hi
 injection hv with hp _ _
 refine ⟨g,o+a,hp.symm,?_⟩;obtain ⟨g1,o1,e1,hc⟩:=h.cells _ _ rfl (a+i) (by omega)
 injection e1 with e1
 injection e1 with e1 e2
 subst e1;subst e2;rw[show o+a+i=o+(a+i) by omega,hc]
 congr 2
 simp [List.getD_eq_getElem?_getD,List.getElem?_take,hi,List.getElem?_drop]
theorem isBytes.part {l:List Int} (h:isBytes l) (a n:Nat):isBytes ((l.drop a).take n):=fun x hx=>h x (List.mem_of_mem_drop (List.mem_of_mem_take hx))
