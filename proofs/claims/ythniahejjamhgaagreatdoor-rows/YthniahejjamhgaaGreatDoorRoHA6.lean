import Derived.Test.YthniahejjamhgaaGreatDoorRoHA4
import Derived.Lib.SmallJoins
set_option maxRecDepth 100000
set_option maxHeartbeats 6400000
namespace Go.Proofs.YthniahejjamhgaaGreatDoor
open Go.RowKit
set_option linter.unusedSimpArgs false
set_option linter.unusedVariables false
theorem made8b (n j:Nat) (h:j<n):(madeCells #[Value.int .u8 0] n).toList[j]? = some (.int .u8 0):=by
 simp [madeCells,h,Nat.mod_one]
def LenP (w:World) (n:Nat) (r:Ending) (w':World):Prop:=∃ g,r = .returned (.slice (some ⟨g,0,none⟩) n n)/\w.heap.size<=g/\Rng .u8 256 w' g 0 n
theorem lengths_any (ov:Value) (l:List Int) (M:Int) (w:World) (hl:LAt w .i64 ov l) (h0:0<l.length) (hn:l.length<=1024) :
  Calls Tryz.prog 134 #[ov,.int .i64 M] w fun r w'=>LenP w l.length r w'/\Kept w w':=by
 obtain ⟨p,c,rfl⟩:=hl.form;have HL:Hid (∀ W,Kept w W->LAt W .i64 (.slice p l.length c) l):=fun W k=>hl.kept k
 clear hl;obtain ⟨i0,hi,hz0,hz1,hz2⟩:=info_parts' infoU8;go_enter Tryz.func134,Tryz.ntmps134;go_wp2_with (refine wpList_make_full _ rfl _ _ 105 rfl w.heap.size 5 i0 (.int .u8 0) 1 Tryz.underlying105 hi hz0 hz1 .i64 .i64 (l.length:Int) (l.length:Int) l.length rfl rfl rfl rfl (by rw[hz2];omega) (by unfold maxLen;omega) (Nat.le_refl _) ?_)
 intro w1 ho1 hg1;have hK1:Hid (Kept w w1):=⟨hg1.os,hg1.tape,hg1.output,hg1.size,fun k hk=>hg1.block k hk (by simp)⟩;have hF1:Hid (∀ k,w1.frozen? ⟨w.heap.size,k,none⟩=false):=by
  rcases ho1.2 with ⟨hv,h0⟩ | ⟨g,cap,cur,hv,hg,hh,r⟩
  ·cases hv
  ·injection hv with hv _ _
   injection hv with hv
   injection hv with hv _ _
   rw[<- hv] at hh;exact fun k=>Joins.unfrozen_of_block hh k
 have hR1:Hid (Rng .u8 256 w1 w.heap.size 0 l.length):=by
  intro j hj;refine ⟨0,by omega,by omega,?_⟩
  have:=ho1.cells rfl j _ (made8b l.length j hj)
  rw[Addr.add_mid] at this;exact this
 have hlt1:w.heap.size<w1.heap.size:=by
  obtain ⟨z,_,_,hz⟩:=hR1.out 0 h0;exact World.block_lt_of_cell? _ _ hz
 clear ho1 hg1 hi hz0 hz1 hz2;go_wp2_with fail;refine (sorted_any (.slice p l.length c) l w1 (HL.out w1 hK1.out) hn).mono ?_;rintro r w2 ⟨⟨lv,m,rfl,hm,hOL⟩,hk2⟩;have HLF:Hid (∀ W,Fr1 w.heap.size w2 W->LfAt W lv m l.length):=fun W f=>by
  obtain ⟨xs,o,hx⟩:=hOL;exact (OwnLf.at ⟨xs,o,hx⟩).frS f (fun g e q=>by have:=(o.lt g e).1;omega)
 obtain ⟨p6,c6,rfl⟩:=hOL.at.form;have hK2:Hid (Kept w w2):=hK1.out.trans hk2;have hR2:Hid (Rng .u8 256 w2 w.heap.size 0 l.length):=hR1.out.kept hk2;have hF2:Hid (∀ k,w2.frozen? ⟨w.heap.size,k,none⟩=false):=fun k=>(hk2.frozen (p:=⟨w.heap.size,k,none⟩) hlt1).trans (hF1.out k)
 have hlt2:w.heap.size<w2.heap.size:=Nat.lt_of_lt_of_le hlt1 hk2.size;clear hOL hk2 hK1 hF1 hR1 HL;by_cases c1:m=1
 ·subst c1
  obtain ⟨g,s,z,rfl,hs,y0,y1⟩:=(HLF.out w2 (Fr1.refl _ _)).often (i:=0) (by omega);rw[Nat.zero_mul] at y0;obtain ⟨z2,_,_,hc⟩:=hR2.out s hs;rw[Nat.zero_add] at hc;have f1:=hF2.out s;have s0:(0:Int)<=(s:Int):=by omega
  have s1:(s:Int)<(l.length:Int):=by omega
  go_wp2;go_ret;exact ⟨⟨w.heap.size,rfl,Nat.le_refl _,hR2.out.set s 1 (by omega) (by omega)⟩,hK2.out.setCell (by simp) _⟩
 ·have c1':¬ (m:Int)=1:=by omega
  have c1'':((m:Int) == 1)=false:=by rw[beq_eq_false_iff_ne];exact c1'
  go_wp2_with fail;refine (rowsof_any (.slice p6 m c6) m l.length M w2 (HLF.out w2 (Fr1.refl _ _)) (by omega)).mono ?_;rintro r w3 ⟨⟨rv,q,rfl,hq,hRW⟩,hk3⟩;obtain ⟨p7,c7,rfl⟩:=hRW.form;have HRW:Hid (∀ W,Fr1 w.heap.size w3 W->RwsAt W w2.heap.size (.slice p7 q c7) q (2*m)):=fun W f=>hRW.frS f (fun g e=>by omega)
  have HLF3:Hid (∀ W,Fr1 w.heap.size w3 W->LfAt W (.slice p6 m c6) m l.length):=fun W f=>HLF.out W ((Fr.of_kept hk3).trans f)
  have hK3:Hid (Kept w w3):=hK2.out.trans hk3;have hR3:Hid (Rng .u8 256 w3 w.heap.size 0 l.length):=hR2.out.kept hk3;have hF3:Hid (∀ k,w3.frozen? ⟨w.heap.size,k,none⟩=false):=fun k=>(hk3.frozen (p:=⟨w.heap.size,k,none⟩) hlt2).trans (hF2.out k)
  clear hRW hk3 HLF hR2 hF2 hK2;go_wp2;go_loopw [8,9,10,11] (fun v8 v9 _ _ W=>∃ (t:Int) (b:Nat),b<=q/\v8 = .int .i64 t/\v9 = .int .i64 ((b:Int) - 1)/\Rng .u8 256 W w.heap.size 0 l.length/\(∀ k,W.frozen? ⟨w.heap.size,k,none⟩=false)/\Fr1 w.heap.size w3 W) (fun _ v9 _ _ _=>(intOf v9+1).toNat)
  case atStart=>exact ⟨_,q,Nat.le_refl _,rfl,rfl,hR3.out,hF3.out,Fr1.refl _ _⟩
  case round=>
   obtain ⟨t,b,hb,rfl,rfl,hR,hF,hFr⟩:=hrel;have HR:Hid (Rng .u8 256 wr w.heap.size 0 l.length):=hR;have HF:Hid (∀ k,wr.frozen? ⟨w.heap.size,k,none⟩=false):=hF;have HFr:Hid (Fr1 w.heap.size w3 wr):=hFr;clear hR hF hFr hR3 hF3;by_cases c2:0<b
   ·obtain ⟨d,rfl⟩:∃ d,b=d+1:=⟨b - 1,by omega⟩
    have e1:((d+1:Nat):Int) - 1=(d:Int):=by omega
    rw[e1];have e2:(0:Int)<=(d:Int):=by omega
    have e3:(d:Int)<(q:Int):=by omega
    obtain ⟨g,c',u,n,e,hN,hn2,hc,hI,hgu⟩:=(HRW.out wr HFr.out).cells d (by omega)
    injection e with e4 _ e5
    subst e4;subst e5;have F1:Hid (Calls Tryz.prog 156 #[u,.int .i64 t] wr fun r w'=>LvP t r/\Kept wr w'):=leavesof_any u n t wr hI (by omega);obtain ⟨pu,cu,rfl⟩:=hI.form;clear hI hgu;go_wp2_with fail;refine F1.out.mono ?_;rintro r w4 ⟨⟨k,hk,rfl⟩,hk4⟩;have hlt3:w.heap.size<wr.heap.size:=by
     obtain ⟨z,_,_,hz⟩:=HR.out 0 h0;exact World.block_lt_of_cell? _ _ hz
    have HR4:Hid (Rng .u8 256 w4 w.heap.size 0 l.length):=HR.out.kept hk4;have HF4:Hid (∀ k,w4.frozen? ⟨w.heap.size,k,none⟩=false):=fun k=>(hk4.frozen (p:=⟨w.heap.size,k,none⟩) hlt3).trans (HF.out k)
    have HFr4:Hid (Fr1 w.heap.size w3 w4):=Fr.kept HFr.out hk4;clear F1 hk4 HR HF HFr hc hk;go_wp2_with fail;go_loopw [11] (fun v11 W=>∃ i:Nat,i<=m/\v11 = .int .i64 (i:Int)/\Rng .u8 256 W w.heap.size 0 l.length/\(∀ k,W.frozen? ⟨w.heap.size,k,none⟩=false)/\Fr1 w.heap.size w3 W) (fun v11 _=>m - (intOf v11).toNat)
    case atStart=>exact ⟨0,by omega,rfl,HR4.out,HF4.out,HFr4.out⟩
    case round=>
     clear HR4 HF4 HFr4;obtain ⟨i,hi,rfl,hR,hF,hFr⟩:=hrel;have HR:Hid (Rng .u8 256 wr w.heap.size 0 l.length):=hR;have HF:Hid (∀ k,wr.frozen? ⟨w.heap.size,k,none⟩=false):=hF;have HFr:Hid (Fr1 w.heap.size w3 wr):=hFr;by_cases c3:i<k
     ·have c3':(i:Int)<(k:Int):=by omega
      by_cases c4:i<m
      ·have c4':(i:Int)<(m:Int):=by omega
       obtain ⟨g2,s,z,rfl,hs,y0,y1⟩:=(HLF3.out wr hFr).often c4;obtain ⟨z2,z20,z21,hc⟩:=hR s hs;rw[Nat.zero_add] at hc;have f1:=hF s;have s0:(0:Int)<=(s:Int):=by omega
       have s1:(s:Int)<(l.length:Int):=by omega
       have i0:(0:Int)<=(i:Int):=by omega
       clear hR hF hFr y1;go_wp2;exact ⟨⟨i+1,by omega,by go_num,HR.out.set s _ (Int.emod_nonneg _ (by omega)) (Int.emod_lt_of_pos _ (by omega)),fun k=>by rw[World.frozen?_setCell];exact HF.out k,HFr.out.set _ _⟩,by simp [intOf];omega⟩
      ·have c4':¬ (i:Int)<(m:Int):=by omega
       clear hR hF hFr;go_wp2;exact ⟨⟨_,d,by omega,rfl,rfl,HR.out,HF.out,HFr.out⟩,by simp [intOf]⟩
     ·have c3':¬ (i:Int)<(k:Int):=by omega
      clear hR hF hFr;go_wp2;exact ⟨⟨_,d,by omega,rfl,rfl,HR.out,HF.out,HFr.out⟩,by simp [intOf]⟩
   ·have b0:b=0:=by omega
    subst b0;go_wp2;go_ret;exact ⟨⟨w.heap.size,rfl,Nat.le_refl _,HR.out⟩,Fr.to_kept hK3.out HFr.out (fun i hi e=>by omega)⟩
def IR (W:World) (b o n:Nat):Prop:=∀ j,j<n->∃ z:Int,W.cell? ⟨b,o+j,none⟩=some (.int .i64 z)
theorem IR.kept {w W:World} {b o n:Nat} (h:IR w b o n) (f:Kept w W):IR W b o n:=by
 intro j hj;obtain ⟨z,d⟩:=h j hj;exact ⟨z,(f.cell (p:=⟨b,o+j,none⟩) (World.block_lt_of_cell? _ _ d)).trans d⟩
theorem IR.set {W:World} {b o n:Nat} (h:IR W b o n) (i:Nat) (z:Int):IR (W.setCell ⟨b,i,none⟩ (.int .i64 z)) b o n:=by
 intro j hj;obtain ⟨y,d⟩:=h j hj;by_cases e:i=o+j
 ·subst e;exact ⟨z,cell_set_same d _⟩
 ·exact ⟨y,(cell_set_other _ _ _ _ _ e).trans d⟩
theorem IR.list {W:World} {b o:Nat}:∀ {n:Nat},IR W b o n->∃ cs:List Value,cs.length=n/\W.rangeAt b o cs/\∀ j,j<n->∃ z:Int,cs[j]? = some (.int .i64 z)
 | 0,_=>⟨[],rfl,fun j v h=>by simp at h,fun j h=>by omega⟩
 | n+1,h=>by
  obtain ⟨cs,h1,h2,h3⟩:=IR.list (n:=n) (fun j hj=>h j (by omega));obtain ⟨z,hz⟩:=h n (by omega);refine ⟨cs++[.int .i64 z],by simp [h1],fun j v hv => ?_,fun j hj => ?_⟩
  ·by_cases c:j<cs.length
   ·rw[List.getElem?_append_left c] at hv;exact h2 j v hv
   ·rw[List.getElem?_append_right (by omega)] at hv
    have hj2:j - cs.length<1:=by
     have:=(List.getElem?_eq_some_iff.1 hv).1
     simpa using this
    have e:j=n:=by omega
    subst e;rw[h1,Nat.sub_self] at hv;simp at hv;subst hv;exact hz
  ·by_cases c:j<n
   ·obtain ⟨y,hy⟩:=h3 j c
    exact ⟨y,by rw[List.getElem?_append_left (by omega)];exact hy⟩
   ·have e:j=n:=by omega
    subst e;exact ⟨z,by rw[List.getElem?_append_right (by omega),h1,Nat.sub_self];rfl⟩
theorem IR.one {cs:List Value} {n:Nat} (hl:cs.length=n) (h:∀ j,j<n->∃ z:Int,cs[j]? = some (.int .i64 z)):∀ v ∈ cs,v.oneCell'=true:=by
 intro v hv;obtain ⟨j,hj,e⟩:=List.getElem_of_mem hv;obtain ⟨z,hz⟩:=h j (by omega);rw[List.getElem?_eq_getElem hj,e] at hz
 injection hz with hz
 subst hz;rfl
def vOf:Value->Int
 | .int _ z=>z
 | _=>0
theorem IR.lat {W:World} {b o n:Nat} (h:IR W b o n) (c:Nat):∃ l:List Int,l.length=n/\LAt W .i64 (.slice (some ⟨b,o,none⟩) n c) l:=by
 obtain ⟨cs,h1,h2,h3⟩:=h.list;refine ⟨cs.map vOf,by simp [h1],⟨⟨some ⟨b,o,none⟩,c,by simp [h1]⟩,?_⟩⟩;intro p c' hv i hi;rw[List.length_map] at hi
 injection hv with hv _ _
 obtain ⟨z,hz⟩:=h3 i (by omega);refine ⟨b,o,hv.symm,?_⟩;rw[h2 i _ hz];simp [List.getD_eq_getElem?_getD,List.getElem?_map,hz,vOf]
theorem zero316:Tryz.zeroCells194=Array.replicate 316 (.int .i64 0):=by kernel_rfl
theorem size316:(Tryz.prog.info? 194).map (·.size)=some 316:=by kernel_rfl
def CntP (r:Ending):Prop:=∃ cs:List Value,r = .returned (.agg cs.toArray)/\cs.length=316/\∀ i,i<316->∃ z:Int,cs[i]? = some (.int .i64 z)
theorem countsof_any (lv:Value) (n:Nat) (w:World) (hl:TkAt w lv n) (hT:TbsAt w) (hn:n<=1048576) :
  Calls Tryz.prog 133 #[lv] w fun r w'=>CntP r/\Kept w w':=by
 obtain ⟨p,c,rfl⟩:=hl.form;have HL:Hid (∀ W,Kept w W->TkAt W (.slice p n c) n):=fun W k=>hl.kept k
 have HT:Hid (∀ W,Kept w W->TbsAt W):=fun W k=>hT.kept k
 clear hl hT;have hR:Hid (IR ((w.alloc (Obj.cells Tryz.zeroCells194 194)).alloc (Obj.cells Tryz.zeroCells194 194)) (w.heap.size+1) 0 316):=by
  intro j hj;refine ⟨0,?_⟩;rw[World.cell?_alloc_at _ _ _ _ (by simp)];rw[zero316];simp [hj]
 have hTh:Hid (((w.alloc (Obj.cells Tryz.zeroCells194 194)).alloc (Obj.cells Tryz.zeroCells194 194)).there w.heap.size 0 316):=by
  refine World.there_alloc ?_ _;intro j hj;refine ⟨?_,World.frozen?_alloc_at _ _ _ _ rfl⟩;rw[World.cell?_alloc_at _ _ _ _ rfl,zero316];simp;omega
 have hF:Hid (∀ k,((w.alloc (Obj.cells Tryz.zeroCells194 194)).alloc (Obj.cells Tryz.zeroCells194 194)).frozen? ⟨w.heap.size+1,k,none⟩=false):=fun k=>World.frozen?_alloc_at _ _ _ _ (by simp)
 have hK:Hid (Kept w ((w.alloc (Obj.cells Tryz.zeroCells194 194)).alloc (Obj.cells Tryz.zeroCells194 194))):=((Below.refl _ _).alloc (Nat.le_refl _) _).alloc (by simp) _;go_enter Tryz.func133,Tryz.ntmps133;go_upto_region 2 with fail
 generalize ((w.alloc (Obj.cells Tryz.zeroCells194 194)).alloc (Obj.cells Tryz.zeroCells194 194))=w0 at *;obtain ⟨z0,hc0⟩:=hR.out 256 (by omega);rw[Nat.zero_add] at hc0;have hf0:=hF.out 256;go_wp2;go_loopw [4,5,6] (fun v _ _ W=>∃ k:Nat,k<=n/\v = .int .i64 (k:Int)/\IR W (w.heap.size+1) 0 316/\W.there w.heap.size 0 316/\(∀ k,W.frozen? ⟨w.heap.size+1,k,none⟩=false)/\Kept w W) (fun v _ _ _=>n - (intOf v).toNat)
 case atStart=>exact ⟨0,by omega,rfl,hR.out.set _ _,there_set hTh.out _ (by omega),fun j=>by rw[World.frozen?_setCell];exact hF.out j,hK.out.setCell (by simp) _⟩
 case round=>
  obtain ⟨k,hk,rfl,hr,ht,hf,hK2⟩:=hrel;have HR:Hid (IR wr (w.heap.size+1) 0 316):=hr;have HF:Hid (∀ k,wr.frozen? ⟨w.heap.size+1,k,none⟩=false):=hf;have HTh:Hid (wr.there w.heap.size 0 316):=ht;have HK:Hid (Kept w wr):=hK2;clear hR hTh hF hK hr ht hf hc0 hf0;by_cases c1:k<n
  ·have c1':(k:Int)<(n:Int):=by omega
   have k0:(0:Int)<=(k:Int):=by omega
   obtain ⟨g,c',B,L,D,e,b0,b1,l0,l1,d0,d1,y0,y1,y2⟩:=(HL.out wr hK2).cells k c1
   injection e with e1 _ e3
   subst e1;subst e3;clear hK2;by_cases c2:L=0
   ·subst c2
    obtain ⟨b,rfl⟩:∃ b:Nat,B=(b:Int):=⟨B.toNat,by omega⟩;have b2:(b:Int)<286:=by omega
    obtain ⟨z,hz⟩:=HR.out b (by omega);rw[Nat.zero_add] at hz;have f1:=HF.out b;go_wp2;exact ⟨⟨k+1,by omega,by go_num,HR.out.set _ _,there_set HTh.out _ (by omega),fun j=>by rw[World.frozen?_setCell];exact HF.out j,HK.out.setCell (by simp) _⟩,by simp [intOf];omega⟩
   ·have c2':(L == 0)=false:=by rw[beq_eq_false_iff_ne];exact c2
    go_wp2_with fail;refine (lensym_any L wr (HT.out wr HK.out)).mono ?_;rintro r w1 ⟨⟨s,hs,rfl⟩,hk1⟩;have hlt:w.heap.size+1<wr.heap.size:=by
     obtain ⟨z,hz⟩:=HR.out 0 (by omega);exact World.block_lt_of_cell? _ _ hz
    have HR1:Hid (IR w1 (w.heap.size+1) 0 316):=HR.out.kept hk1;have HF1:Hid (∀ k,w1.frozen? ⟨w.heap.size+1,k,none⟩=false):=fun j=>(hk1.frozen (p:=⟨w.heap.size+1,j,none⟩) hlt).trans (HF.out j)
    have HTh1:Hid (w1.there w.heap.size 0 316):=there_kept HTh.out hk1;have HK1:Hid (Kept w w1):=HK.out.trans hk1;have gl:=World.block_lt_of_cell? _ _ y2;have y3:w1.cell? ⟨g,k*3+2,none⟩=some (.int .i64 D):=(hk1.cell (p:=⟨g,k*3+2,none⟩) gl).trans y2;have gw:g≠w.heap.size+1:=by
     intro e;obtain ⟨g',c'',B',L',D',e',_,_,_,_,_,_,x0,_,_⟩:=(HL.out w (Kept.refl _)).cells k c1
     injection e' with e1 _ _
     injection e1 with e1
     injection e1 with e1 _ _
     have:=World.block_lt_of_cell? _ _ x0
     simp at this;omega
    clear hk1 HR HF HTh HK y0 y1 y2 c2 c2' gl;have s0:(0:Int)<=(s:Int):=by omega
    have s1:(s:Int)<286:=by omega
    obtain ⟨z,hz⟩:=HR1.out s (by omega);rw[Nat.zero_add] at hz;have f1:=HF1.out s;have y4:∀ u,(w1.setCell ⟨w.heap.size+1,s,none⟩ u).cell? ⟨g,k*3+2,none⟩=some (.int .i64 D):=fun u=>(World.cell?_setCell_other _ _ _ _ (by intro e;injection e with e _ _;exact gw e.symm)).trans y3
    go_upto_region 11 with fail
    have HR2:Hid (IR (w1.setCell ⟨w.heap.size+1,s,none⟩ (.int .i64 (wrap64 (z+1)))) (w.heap.size+1) 0 316):=HR1.out.set _ _;have HF2:Hid (∀ k,(w1.setCell ⟨w.heap.size+1,s,none⟩ (.int .i64 (wrap64 (z+1)))).frozen? ⟨w.heap.size+1,k,none⟩=false):=fun j=>by show _=_;rw[World.frozen?_setCell];exact HF1.out j
    have HTh2:Hid ((w1.setCell ⟨w.heap.size+1,s,none⟩ (.int .i64 (wrap64 (z+1)))).there w.heap.size 0 316):=there_set HTh1.out _ (by omega);have HK2:Hid (Kept w (w1.setCell ⟨w.heap.size+1,s,none⟩ (.int .i64 (wrap64 (z+1))))):=HK1.out.setCell (by simp) _;replace y4:=y4 (.int .i64 (wrap64 (z+1)));generalize w1.setCell ⟨w.heap.size+1,s,none⟩ (.int .i64 (wrap64 (z+1)))=w2 at *;clear HR1 HF1 HTh1 HK1 hz f1 y3;go_wp2_with fail;refine (dissym_any D w2 (HT.out w2 HK2.out)).mono ?_;rintro r w3 ⟨⟨t,ht0,ht1,rfl⟩,hk3⟩;have hlt2:w.heap.size+1<w2.heap.size:=by
     obtain ⟨z,hz⟩:=HR2.out 0 (by omega);exact World.block_lt_of_cell? _ _ hz
    have HR3:Hid (IR w3 (w.heap.size+1) 0 316):=HR2.out.kept hk3;have HF3:Hid (∀ k,w3.frozen? ⟨w.heap.size+1,k,none⟩=false):=fun j=>(hk3.frozen (p:=⟨w.heap.size+1,j,none⟩) hlt2).trans (HF2.out j)
    have HTh3:Hid (w3.there w.heap.size 0 316):=there_kept HTh2.out hk3;have HK3:Hid (Kept w w3):=HK2.out.trans hk3;clear hk3 HR2 HF2 HTh2 HK2 y4;by_cases c3:0<=t
    ·obtain ⟨d,rfl⟩:∃ d:Nat,t=(d:Int):=⟨t.toNat,by omega⟩
     obtain ⟨z,hz⟩:=HR3.out (286+d) (by omega);rw[Nat.zero_add] at hz;have f1:=HF3.out (286+d);go_wp2;exact ⟨⟨k+1,by omega,by go_num,HR3.out.set _ _,there_set HTh3.out _ (by omega),fun j=>by rw[World.frozen?_setCell];exact HF3.out j,HK3.out.setCell (by simp) _⟩,by simp [intOf];omega⟩
    ·go_wp2
     exact ⟨⟨k+1,by omega,by go_num,HR3.out,HTh3.out,HF3.out,HK3.out⟩,by simp [intOf];omega⟩
  ·have c1':¬ (k:Int)<(n:Int):=by omega
   obtain ⟨cs,hcl,hcr,hcz⟩:=HR.out.list;have hone:Hid _:=IR.one hcl hcz;have hcz':Hid (∀ j,j<316->∃ z:Int,cs[j]? = some (.int .i64 z)):=hcz;have hcl':Hid (cs.length=316):=hcl;have hcr':Hid (wr.rangeAt (w.heap.size+1) 0 cs):=hcr;clear hcl hcz hcr hK2;have hi:Hid ((Tryz.prog.info? 194).map (·.size)=some cs.length):=by show _=_;rw[hcl'.out];exact size316
   go_wp2;refine wp_load_mid 194 _ rfl (w.heap.size+1) 0 rfl cs _ hcr'.out Tryz.underlying194 rfl hi.out ?_;have hsc:(storeCells ⟨w.heap.size,0,none⟩ cs).run Tryz.prog wr = .ok () (wr.setCells w.heap.size 0 cs):=by
    have:=run_storeCells_cells (P:=Tryz.prog) w.heap.size 0 cs 0 wr (fun j hj=>by simpa using (HTh.out j (by rw[<- hcl'.out];exact hj)).1) (fun j hj=>by simpa using (HTh.out j (by rw[<- hcl'.out];exact hj)).2) hone.out
    simpa using this
   go_wp2;have hld:(loadVar 194 ⟨w.heap.size,0,none⟩).run Tryz.prog (wr.setCells w.heap.size 0 cs) = .ok (.agg cs.toArray) (wr.setCells w.heap.size 0 cs) :=
    run_loadVar_mid _ _ _ _ cs _ (World.rangeAt_setCells_same _ _ _ _ (by rw[hcl'.out];exact HTh.out)) Tryz.underlying194 rfl hi.out
   refine bodyPost_ret (v := .agg cs.toArray) ?_ rfl ⟨⟨cs,rfl,hcl'.out,hcz'.out⟩,Kept.setCells (Nat.le_refl _) _ _ HK.out⟩;exact results_cell1 rfl _ _ _ _ _ rfl hld
