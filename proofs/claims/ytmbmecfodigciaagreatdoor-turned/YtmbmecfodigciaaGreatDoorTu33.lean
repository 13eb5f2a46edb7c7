import Derived.Test.YtmbmecfodigciaaGreatDoorTu32
import Derived.Test.YtmbmecfodigciaaGreatDoorTu15
set_option maxRecDepth 100000
set_option maxHeartbeats 6400000
namespace Go.Proofs.YtmbmecfodigciaaGreatDoor
open Go.RowKit Px
set_option linter.unusedSimpArgs false
set_option linter.unusedVariables false
def dnB (k i j:Nat):Bool:=decide (fixLen j<k\/(fixLen j=k/\j<i))
theorem dn_iff (k i j:Nat):dnB k i j=true ↔ (fixLen j<k\/(fixLen j=k/\j<i)):=by unfold dnB;exact decide_eq_true_iff
def bkC (k i:Nat):Nat->Value:=fun j=>if j<288 then .int .u32 (((if dnB k i j then fixCode j else 0:Nat)):Int) else .int .u8 (((if dnB k i (j - 288) then fixLen (j - 288) else 0:Nat)):Int)
def bsN (k:Nat):Nat:=if k<=7 then 0 else if k=8 then 48 else if k=9 then 400 else 1024*2^(k - 10)
def nqN (k i:Nat):Nat:=bsN k+cntF i k
theorem bsN_lt (k:Nat) (h:k<=16):bsN k<=65536:=by
 unfold bsN
 split
 ·omega
 ·split
  ·omega
  ·split
   ·omega
   ·have:2^(k - 10)<=2^6:=Nat.pow_le_pow_right (by omega) (by omega)
    omega
theorem cntF_le (i k:Nat) (h:i<=288):cntF i k<=288:=by unfold cntF;split;omega;split;omega;split<;>omega
theorem bsN_succ (k:Nat) (h1:1<=k):bsN (k+1)=2*nqN k 288:=by
 unfold nqN
 rcases (by omega:k<7\/k=7\/k=8\/k=9\/9<k) with q | q | q | q | q
 ·rw[kx 288 k (by omega) (by omega) (by omega)];unfold bsN;rw[if_pos (by omega),if_pos (by omega)]
 ·subst q;decide
 ·subst q;decide
 ·subst q;decide
 ·rw[kx 288 k (by omega) (by omega) (by omega)];unfold bsN
  rw[if_neg (by omega),if_neg (by omega),if_neg (by omega),if_neg (by omega),if_neg (by omega),if_neg (by omega),show k+1 - 10=(k - 10)+1 from by omega,Nat.pow_succ]
  omega
theorem code_at (i:Nat) (h:i<288):nqN (fixLen i) i=fixCode i:=by
 unfold nqN fixCode
 rcases fixLen_cases i with ⟨h1,h2⟩ | ⟨h1,h1',h2⟩ | ⟨h1,h1',h2⟩ | ⟨h1,h2⟩
 ·rw[h2,k8,if_pos h1];show 48+_=_;omega
 ·rw[h2,k9,if_neg (by omega),if_pos h1'];show 400+_=_;omega
 ·rw[h2,k7,if_neg (by omega),if_neg (by omega),if_pos h1'];show 0+_=_;omega
 ·rw[h2,k8,if_neg (by omega),if_neg (by omega),if_neg (by omega)];show 48+_=_;omega
theorem nq_step (k i:Nat):nqN k (i+1)=if k=fixLen i then nqN k i+1 else nqN k i:=by
 unfold nqN;rw[cnt_step];split<;>omega
theorem dn_step (k i j:Nat):dnB k (i+1) j ↔ dnB k i j\/(j=i/\fixLen i=k):=by
 rw[dn_iff,dn_iff]
 constructor
 ·rintro (h | ⟨h,h2⟩)
  ·exact Or.inl (Or.inl h)
  ·by_cases q:j=i
   ·subst q;exact Or.inr ⟨rfl,h⟩
   ·exact Or.inl (Or.inr ⟨h,by omega⟩)
 ·rintro ((h | ⟨h,h2⟩) | ⟨h,h2⟩)
  ·exact Or.inl h
  ·exact Or.inr ⟨h,by omega⟩
  ·subst h;exact Or.inr ⟨h2,by omega⟩
theorem dn_next (k j:Nat) (h:j<288):dnB (k+1) 0 j ↔ dnB k 288 j:=by rw[dn_iff,dn_iff];omega
theorem bk_same (k i:Nat) (h:fixLen i≠k):bkC k (i+1)=bkC k i:=by
 funext j
 unfold bkC
 have e:∀ t,dnB k (i+1) t ↔ dnB k i t:=fun t=>by rw[dn_step];constructor;rintro (q | ⟨_,q⟩);exact q;exact absurd q h;exact Or.inl
 simp only [e]
theorem bk_put (k i:Nat) (hi:i<288) (h:fixLen i=k) (j:Nat):bkC k (i+1) j=upd (upd (bkC k i) i (.int .u32 (fixCode i:Int))) (288+i) (.int .u8 (fixLen i:Int)) j:=by
 have e:∀ t,t≠i->(dnB k (i+1) t ↔ dnB k i t):=fun t q=>by rw[dn_step];constructor;rintro (a | ⟨a,_⟩);exact a;exact absurd a q;exact Or.inl
 have e1:dnB k (i+1) i:=by rw[dn_step];exact Or.inr ⟨rfl,h⟩
 by_cases q2:j=288+i
 ·rw[q2,upd_same];unfold bkC;rw[if_neg (by omega),show 288+i - 288=i from by omega,if_pos e1]
 ·rw[upd_ne _ _ _ q2]
  by_cases q1:j=i
  ·rw[q1,upd_same];unfold bkC;rw[if_pos hi,if_pos e1]
  ·rw[upd_ne _ _ _ q1]
   unfold bkC
   by_cases q3:j<288
   ·rw[if_pos q3,if_pos q3];simp only [e j q1]
   ·rw[if_neg q3,if_neg q3];simp only [e (j - 288) (by omega)]
theorem bk_next (k:Nat) (j:Nat) (hj:j<576):bkC (k+1) 0 j=bkC k 288 j:=by
 unfold bkC
 by_cases q3:j<288
 ·rw[if_pos q3,if_pos q3];simp only [dn_next k j q3]
 ·rw[if_neg q3,if_neg q3];simp only [dn_next k (j - 288) (by omega)]
def bkF:Nat->Value:=fun j=>if j<288 then .int .u32 (fixCode j:Int) else .int .u8 (fixLen (j - 288):Int)
theorem bk_all (j:Nat):bkC 16 0 j=bkF j:=by
 have e:∀ t,dnB 16 0 t:=fun t=>(dn_iff _ _ _).2 (Or.inl (by rcases fixLen_cases t with ⟨_,h⟩ | ⟨_,_,h⟩ | ⟨_,_,h⟩ | ⟨_,h⟩<;>omega))
 unfold bkC bkF
 split
 ·rw[if_pos (e j)]
 ·rw[if_pos (e _)]
theorem bk_one:∀ v ∈ (List.range 576).map bkF,v.oneCell'=true:=by
 intro v hv
 rw[List.mem_map] at hv
 obtain ⟨j,_,rfl⟩:=hv
 unfold bkF
 split<;>rfl
theorem bk_zero (w:World) (t:TypeId):Blk (w.alloc (Obj.cells (Array.replicate 288 (.int .u32 0)++Array.replicate 288 (.int .u8 0)) t)) w.heap.size 576 (bkC 1 0):=by
 refine (Blk.new w _ t 576 (by simp)).congr' (fun i hi => ?_)
 have e:∀ t,¬ dnB 1 0 t:=fun t q=>by
  rw[dn_iff] at q
  rcases fixLen_cases t with ⟨_,h⟩ | ⟨_,_,h⟩ | ⟨_,_,h⟩ | ⟨_,h⟩<;>omega
 unfold bkC
 rw[Array.getD_eq_getD_getElem?]
 by_cases q:i<288
 ·rw[if_pos q,if_neg (e i),get576 i q];rfl
 ·have:=get576' (i - 288) (by omega)
  rw[show 288+(i - 288)=i from by omega] at this
  rw[if_neg q,if_neg (e _),this];rfl
theorem bookof_x (g c:Nat) (w:World) (hc:∀ i,i<288->w.cell? ⟨g,i,none⟩=some (.int .u8 (fixLen i:Int))) :
  Calls Tryz.prog 98 #[.slice (some ⟨g,0,none⟩) 288 c] w fun r w'=>r = .returned (.agg ((List.range 576).map bkF).toArray)/\Kept w w':=by
 obtain ⟨cs,hcs0⟩:∃ cs,cs=(List.range 576).map bkF:=⟨_,rfl⟩
 rw[<- hcs0]
 have HCS:Hid (cs=(List.range 576).map bkF):=hcs0
 clear hcs0
 have hg:g<w.heap.size:=World.block_lt_of_cell? _ _ (hc 0 (by omega))
 have B0:Hid (Blk ((w.alloc (Obj.cells Tryz.zeroCells153 153)).alloc (Obj.cells Tryz.zeroCells153 153)) (w.heap.size+1) 576 (bkC 1 0)):=by
  have:=bk_zero (w.alloc (Obj.cells Tryz.zeroCells153 153)) 153
  rw[<- zero576] at this
  have e:(w.alloc (Obj.cells Tryz.zeroCells153 153)).heap.size=w.heap.size+1:=by simp
  rw[e] at this
  exact this
 have T0:Hid (((w.alloc (Obj.cells Tryz.zeroCells153 153)).alloc (Obj.cells Tryz.zeroCells153 153)).there w.heap.size 0 576):=by
  refine World.there_alloc ?_ _
  have:=(bk_zero w 153).there (k:=0) (m:=576) (by omega)
  rw[<- zero576] at this
  exact this
 have K0:Hid (Kept w ((w.alloc (Obj.cells Tryz.zeroCells153 153)).alloc (Obj.cells Tryz.zeroCells153 153))):=((Below.refl _ _).alloc (Nat.le_refl _) _).alloc (by simp) _
 have HC:Hid (∀ i,i<288->w.cell? ⟨g,i,none⟩=some (.int .u8 (fixLen i:Int))):=hc
 clear hc
 go_enter Tryz.func98,Tryz.ntmps98
 go_wp2
 generalize ((w.alloc (Obj.cells Tryz.zeroCells153 153)).alloc (Obj.cells Tryz.zeroCells153 153))=w0 at *
 go_loopw [4,5] (fun u v W=>∃ k:Nat,1<=k/\k<=16/\v = .int .u8 (k:Int)/\u = .int .u32 (bsN k:Int)/\Blk W (w.heap.size+1) 576 (bkC k 0)/\W.there w.heap.size 0 576/\Kept w W) (fun _ v _=>16 - (intOf v).toNat)
 case atStart=>exact ⟨1,by omega,by omega,rfl,rfl,B0.out,T0.out,K0.out⟩
 case round=>
  obtain ⟨k,hk1,hk2,rfl,rfl,hb,ht,hK2⟩:=hrel
  replace hb:Hid (Blk wr (w.heap.size+1) 576 (bkC k 0)):=hb
  replace ht:Hid (wr.there w.heap.size 0 576):=ht
  replace hK2:Hid (Kept w wr):=hK2
  clear B0 T0 K0
  by_cases hlt:k<=15
  ·have i1:(k:Int)<=15:=by omega
   have hq0:Hid (nqN k 0=bsN k):=by
    show nqN k 0=bsN k
    unfold nqN cntF;split;omega;split;omega;split<;>omega
   go_wp2
   go_loopw [4,6] (fun u v W=>∃ i:Nat,i<=288/\v = .int .i64 (i:Int)/\u = .int .u32 (nqN k i:Int)/\Blk W (w.heap.size+1) 576 (bkC k i)/\W.there w.heap.size 0 576/\Kept w W) (fun _ v _=>288 - (intOf v).toNat)
   case atStart=>exact ⟨0,by omega,rfl,by rw[hq0.out],hb.out,ht.out,hK2.out⟩
   case round=>
    clear hb ht hK2 hq0
    obtain ⟨i,hi,rfl,rfl,hb,ht,hK2⟩:=hrel
    have hbs:=bsN_lt k hk2
    have hcl:=cntF_le i k hi
    by_cases hil:i<288
    ·have j0:(0:Int)<=(i:Int):=by omega
     have j1:(i:Int)<288:=by omega
     have hcw:wr.cell? ⟨g,i,none⟩=some (.int .u8 (fixLen i:Int)):=(hK2.cell (p:=⟨g,i,none⟩) hg).trans (HC.out i hil)
     have hbf:=hb.fz
     obtain ⟨OV1,hy1⟩:∃ OV,wr.cell? ⟨w.heap.size+1,i,none⟩=some OV:=⟨_,hb.cell i (by omega)⟩
     obtain ⟨OV2,hy2⟩:∃ OV,wr.cell? ⟨w.heap.size+1,288+i,none⟩=some OV:=⟨_,hb.cell (288+i) (by omega)⟩
     have QS:Hid (nqN k (i+1)=if k=fixLen i then nqN k i+1 else nqN k i):=nq_step k i
     replace hb:Hid (Blk wr (w.heap.size+1) 576 (bkC k i)):=hb
     replace ht:Hid (wr.there w.heap.size 0 576):=ht
     replace hK2:Hid (Kept w wr):=hK2
     have hnq:nqN k i<=70000:=by unfold nqN;omega
     have ca:=code_at i hil
     have bp:∀ h:fixLen i=k,∀ j,bkC k (i+1) j=upd (upd (bkC k i) i (.int .u32 (fixCode i:Int))) (288+i) (.int .u8 (fixLen i:Int)) j:=fun h j=>bk_put k i hil h j
     have bs':fixLen i≠k->bkC k (i+1)=bkC k i:=bk_same k i
     replace ca:Hid _:=ca
     replace bp:Hid _:=bp
     replace bs':Hid _:=bs'
     obtain ⟨F,hF⟩:∃ F,F=fixLen i:=⟨_,rfl⟩
     obtain ⟨Q,hQ⟩:∃ Q,Q=nqN k i:=⟨_,rfl⟩
     rw[<- hF] at hcw QS ca bp bs'
     rw[<- hQ] at QS hnq ⊢
     replace hQ:Hid _:=hQ
     replace hF:Hid _:=hF
     have hF15:F<=15:=by have:=hF.out;rcases fixLen_cases i with ⟨_,h⟩ | ⟨_,_,h⟩ | ⟨_,_,h⟩ | ⟨_,h⟩<;>omega
     by_cases he:F=k
     ·have eF:(F:Int)=(k:Int):=by omega
      have he':((F:Int) == (k:Int))=true:=by rw[beq_iff_eq];omega
      obtain ⟨Q1,hQ1⟩:∃ Q1,Q1=Q+1:=⟨_,rfl⟩
      have eQ:(Q:Int)+1=(Q1:Int):=by omega
      have HQ:Hid (nqN k (i+1)=Q1):=by show nqN k (i+1)=Q1;rw[QS.out,if_pos he.symm,hQ1]
      have hQ1b:Q1<=70001:=by omega
      have HCo:Hid (Q=fixCode i):=by
       show Q=fixCode i
       have:=ca.out
       rw[he] at this
       rw[hQ.out,this]
      have BP:=bp.out he
      rw[<- HCo.out,he] at BP
      replace BP:Hid _:=BP
      replace hQ1:Hid _:=hQ1
      replace he:Hid _:=he
      rw[eF] at hcw
      clear QS ca bp bs' eF
      go_wp2
      refine ⟨⟨i+1,by omega,by go_num,by rw[HQ.out],?_,?_,?_⟩,by simp [intOf];omega⟩
      ·exact ((hb.out.set (k:=i) (by omega) _).set (k:=288+i) (by omega) _).congr' (fun j _=>BP.out j)
      ·exact there_set (there_set ht.out _ (by omega)) _ (by omega)
      ·exact (hK2.out.setCell (by simp) _).setCell (by simp) _
     ·have he':((F:Int) == (k:Int))=false:=by rw[beq_eq_false_iff_ne];omega
      have HQ:Hid (nqN k (i+1)=Q):=by show nqN k (i+1)=Q;rw[QS.out,if_neg (fun q=>he q.symm)]
      have BS:Hid (bkC k (i+1)=bkC k i):=bs'.out he
      replace he:Hid _:=he
      clear QS ca bp bs'
      go_wp2
      exact ⟨⟨i+1,by omega,by go_num,by rw[HQ.out],by rw[BS.out];exact hb.out,ht.out,hK2.out⟩,by simp [intOf];omega⟩
    ·have j1:¬ (i:Int)<288:=by omega
     have hi8:i=288:=by omega
     have hb2:Hid (Blk wr (w.heap.size+1) 576 (bkC (k+1) 0)):=hb.congr' (fun j hj=>by rw[bk_next k j hj,hi8])
     have HN:Hid (bsN (k+1)=2*nqN k i):=by show bsN (k+1)=_;rw[hi8];exact bsN_succ k hk1
     have hnq:nqN k i<=70000:=by unfold nqN;omega
     obtain ⟨Q,hQ⟩:∃ Q,Q=nqN k i:=⟨_,rfl⟩
     rw[<- hQ] at HN hnq ⊢
     obtain ⟨Q2,hQ2⟩:∃ Q2,Q2=2*Q:=⟨_,rfl⟩
     have eQ:(Q:Int)*2=(Q2:Int):=by omega
     have hQ2b:Q2<=140000:=by omega
     rw[<- hQ2] at HN
     replace hQ:Hid _:=hQ
     replace hQ2:Hid _:=hQ2
     replace hi8:Hid _:=hi8
     replace ht:Hid (wr.there w.heap.size 0 576):=ht
     replace hK2:Hid (Kept w wr):=hK2
     clear hb
     go_wp2
     exact ⟨⟨k+1,by omega,by omega,by go_num,by rw[HN.out],hb2.out,ht.out,hK2.out⟩,by simp [intOf];omega⟩
  ·have i1:¬ (k:Int)<=15:=by omega
   have hk16:k=16:=by omega
   have hcs:=HCS.out
   have hcl:cs.length=576:=by rw[hcs];exact range_len _ 576
   have hone:∀ v ∈ cs,v.oneCell'=true:=by rw[hcs];exact bk_one
   have hcr:Hid (wr.rangeAt (w.heap.size+1) 0 cs):=by
    have:=(hb.out.congr' (d:=bkF) (fun j _=>by rw[hk16];exact (bk_all j).symm)).range (k:=0) (m:=576) (by omega)
    show wr.rangeAt (w.heap.size+1) 0 cs
    rw[hcs]
    rw[show (fun j=>bkF (0+j))=bkF from funext (fun j=>by rw[Nat.zero_add])] at this
    exact this
   have hi:Hid ((Tryz.prog.info? 153).map (·.size)=some cs.length):=by show _=_;rw[hcl];exact size576
   have htl:wr.there w.heap.size 0 cs.length:=by rw[hcl];exact ht.out
   have hsc:(storeCells ⟨w.heap.size,0,none⟩ cs).run Tryz.prog wr = .ok () (wr.setCells w.heap.size 0 cs):=store_all htl hone
   have hld:Hid ((loadVar 153 ⟨w.heap.size,0,none⟩).run Tryz.prog (wr.setCells w.heap.size 0 cs) = .ok (.agg cs.toArray) (wr.setCells w.heap.size 0 cs)) :=
    run_loadVar_mid _ _ _ _ cs _ (World.rangeAt_setCells_same _ _ _ _ htl) Tryz.underlying153 rfl hi.out
   replace hcs:Hid _:=hcs
   replace hcl:Hid _:=hcl
   replace hone:Hid _:=hone
   replace hk16:Hid _:=hk16
   clear htl hb
   go_wp2
   refine wp_load_mid 153 _ rfl (w.heap.size+1) 0 rfl cs _ hcr.out Tryz.underlying153 rfl hi.out ?_
   go_wp2
   exact bodyPost_ret (v := .agg cs.toArray) (results_cell1 rfl _ _ _ _ _ rfl hld.out) rfl ⟨rfl,Kept.setCells (Nat.le_refl _) _ _ hK2.out⟩
