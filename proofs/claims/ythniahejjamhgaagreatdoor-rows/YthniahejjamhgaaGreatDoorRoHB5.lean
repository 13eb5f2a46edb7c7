import Derived.Test.YthniahejjamhgaaGreatDoorRoHB1
set_option maxRecDepth 100000
set_option maxHeartbeats 6400000
namespace Go.Proofs.YthniahejjamhgaaGreatDoor
open Go.RowKit
set_option linter.unusedSimpArgs false
set_option linter.unusedVariables false
theorem size1152:(Tryz.zeroCells137).size=1152:=by kernel_rfl
theorem tsize1152:(Tryz.prog.info? 137).map (·.size)=some 1152:=by kernel_rfl
theorem there_new (w:World) (zs:Array Value) (t:TypeId) (n:Nat) (h:zs.size=n):(w.alloc (Obj.cells zs t)).there w.heap.size 0 n:=by
 intro j hj;refine ⟨?_,World.frozen?_alloc_at _ _ _ _ rfl⟩;rw[World.cell?_alloc_at _ _ _ _ rfl]
 have:j<zs.size:=by omega
 show (zs[0+j]?).isSome=true
 rw[Nat.zero_add,Array.getElem?_eq_getElem this];rfl
theorem there_part {w:World} {b o n:Nat} (h:w.there b 0 n) (m:Nat) (hm:o+m<=n):w.there b o m:=fun j hj=>by
 have:=h (o+j) (by omega)
 rw[Nat.zero_add] at this;exact this
theorem range_kept {w W:World} {b o:Nat} {cs:List Value} (h:w.rangeAt b o cs) (k:Kept w W):W.rangeAt b o cs:=fun j v hv=>by
 have:=h j v hv
 exact (k.cell (p:=⟨b,o+j,none⟩) (World.block_lt_of_cell? _ _ this)).trans this
theorem range_two {w:World} {b o:Nat} {c1 c2:List Value} (h1:w.rangeAt b o c1) (h2:w.rangeAt b (o+c1.length) c2):w.rangeAt b o (c1++c2):=fun j v hv=>by
 by_cases c:j<c1.length
 ·rw[List.getElem?_append_left c] at hv;exact h1 j v hv
 ·rw[List.getElem?_append_right (by omega)] at hv
  have:=h2 _ v hv
  rw[show o+c1.length+(j - c1.length)=o+j by omega] at this;exact this
theorem BkC.bkl {c1 c2:List Value} (h1:BkC c1) (h2:BkC c2):BkL (c1++c2).toArray:=by
 have l1:=h1.1;intro o ho i hi;rcases ho with rfl | rfl
 ·obtain ⟨c,c0,c1',hc⟩:=h1.2.1 i hi
  obtain ⟨z,z0,z1,hz⟩:=h1.2.2 i hi;obtain ⟨k,rfl⟩:∃ k:Nat,z=(k:Int):=⟨z.toNat,by omega⟩;refine ⟨c,k,c0,c1',by omega,?_,?_⟩
  ·rw[List.getElem?_toArray,List.getElem?_append_left (by omega),Nat.zero_add];exact hc
  ·rw[List.getElem?_toArray,List.getElem?_append_left (by omega),Nat.zero_add];exact hz
 ·obtain ⟨c,c0,c1',hc⟩:=h2.2.1 i hi
  obtain ⟨z,z0,z1,hz⟩:=h2.2.2 i hi;obtain ⟨k,rfl⟩:∃ k:Nat,z=(k:Int):=⟨z.toNat,by omega⟩;refine ⟨c,k,c0,c1',by omega,?_,?_⟩
  ·rw[List.getElem?_toArray,List.getElem?_append_right (by omega),l1,show 576+i - 576=i by omega];exact hc
  ·rw[List.getElem?_toArray,List.getElem?_append_right (by omega),l1,show 576+288+i - 576=288+i by omega];exact hz
def BksP (r:Ending):Prop:=∃ c1 c2:List Value,r = .returned (.agg (c1++c2).toArray)/\BkC c1/\BkC c2
theorem booksof_any (g1 n1 k1 g2 n2 k2:Nat) (w:World) (h1:Rng .u8 256 w g1 0 n1) (h2:Rng .u8 256 w g2 0 n2) (p1:0<n1) (q1:n1<=288) (p2:0<n2) (q2:n2<=288) :
  Calls Tryz.prog 100 #[.slice (some ⟨g1,0,none⟩) n1 k1,.slice (some ⟨g2,0,none⟩) n2 k2] w fun r w'=>BksP r/\Kept w w':=by
 have F1:Hid (∀ W,Kept w W->Calls Tryz.prog 131 #[.slice (some ⟨g1,0,none⟩) n1 k1] W fun r w'=>BkP r/\Kept W w'):=fun W k=>bookof_p g1 n1 k1 W (h1.kept k) p1 q1
 have F2:Hid (∀ W,Kept w W->Calls Tryz.prog 131 #[.slice (some ⟨g2,0,none⟩) n2 k2] W fun r w'=>BkP r/\Kept W w'):=fun W k=>bookof_p g2 n2 k2 W (h2.kept k) p2 q2
 have hT0:Hid (((w.alloc (Obj.cells Tryz.zeroCells137 137)).alloc (Obj.cells Tryz.zeroCells137 137)).there w.heap.size 0 1152):=World.there_alloc (there_new _ _ _ _ size1152) _;have hT1:Hid (((w.alloc (Obj.cells Tryz.zeroCells137 137)).alloc (Obj.cells Tryz.zeroCells137 137)).there (w.heap.size+1) 0 1152):=by
  have:=there_new (w.alloc (Obj.cells Tryz.zeroCells137 137)) Tryz.zeroCells137 137 1152 size1152
  rw[World.size_alloc] at this;exact this
 have hK0:Hid (Kept w ((w.alloc (Obj.cells Tryz.zeroCells137 137)).alloc (Obj.cells Tryz.zeroCells137 137))):=((Below.refl _ _).alloc (Nat.le_refl _) _).alloc (by simp) _;clear h1 h2 p1 q1 p2 q2;go_enter Tryz.func100,Tryz.ntmps100;go_upto_region 2 with fail
 generalize ((w.alloc (Obj.cells Tryz.zeroCells137 137)).alloc (Obj.cells Tryz.zeroCells137 137))=w0 at *;go_wp2_with fail;refine (F1.out w0 hK0.out).mono ?_;rintro r w1 ⟨⟨c1,rfl,hb1⟩,hk1⟩;have B1:Hid (BkC c1):=hb1;have l1:c1.length=576:=hb1.1;have T1:Hid (w1.there (w.heap.size+1) 0 1152):=there_kept hT1.out hk1;have T0:Hid (w1.there w.heap.size 0 1152):=there_kept hT0.out hk1;have hsc:(storeCells ⟨w.heap.size+1,0,none⟩ c1).run Tryz.prog w1 = .ok () (w1.setCells (w.heap.size+1) 0 c1):=store_there (by rw[l1];exact there_part T1.out 576 (by omega)) hb1.one;have R1:Hid ((w1.setCells (w.heap.size+1) 0 c1).rangeAt (w.heap.size+1) 0 c1):=World.rangeAt_setCells_same _ _ _ _ (by rw[l1];exact there_part T1.out 576 (by omega));have T12:Hid ((w1.setCells (w.heap.size+1) 0 c1).there (w.heap.size+1) 0 1152):=World.there_setCells T1.out _ _ _;have T02:Hid ((w1.setCells (w.heap.size+1) 0 c1).there w.heap.size 0 1152):=World.there_setCells T0.out _ _ _;have K2:Hid (Kept w (w1.setCells (w.heap.size+1) 0 c1)):=Kept.setCells (by omega) _ _ (hK0.out.trans hk1);clear hk1 hb1 T1 T0 hT0 hT1 hK0;go_wp2_with fail;generalize w1.setCells (w.heap.size+1) 0 c1=w2 at *;clear hsc;refine (F2.out w2 K2.out).mono ?_;rintro r w3 ⟨⟨c2,rfl,hb2⟩,hk3⟩;have B2:Hid (BkC c2):=hb2;have l2:c2.length=576:=hb2.1;have T13:Hid (w3.there (w.heap.size+1) 0 1152):=there_kept T12.out hk3;have T03:Hid (w3.there w.heap.size 0 1152):=there_kept T02.out hk3;have hsc:(storeCells ⟨w.heap.size+1,576,none⟩ c2).run Tryz.prog w3 = .ok () (w3.setCells (w.heap.size+1) 576 c2):=store_there (by rw[l2];exact there_part T13.out 576 (by omega)) hb2.one;have R3:Hid ((w3.setCells (w.heap.size+1) 576 c2).rangeAt (w.heap.size+1) 0 (c1++c2)):=by
  refine range_two (World.rangeAt_setCells_apart (range_kept R1.out hk3) _ _ _ (Or.inr (Or.inl (by omega)))) ?_;rw[l1];exact World.rangeAt_setCells_same _ _ _ _ (by rw[l2];exact there_part T13.out 576 (by omega))
 have T04:Hid ((w3.setCells (w.heap.size+1) 576 c2).there w.heap.size 0 1152):=World.there_setCells T03.out _ _ _;have K4:Hid (Kept w (w3.setCells (w.heap.size+1) 576 c2)):=Kept.setCells (by omega) _ _ (K2.out.trans hk3);have hone:Hid (∀ v ∈ c1++c2,v.oneCell'=true):=by
  intro v hv;rcases List.mem_append.1 hv with h | h
  ·exact B1.out.one v h
  ·exact B2.out.one v h
 have hll:Hid ((c1++c2).length=1152):=by show _=_;rw[List.length_append];omega
 clear hk3 hb2 T13 T03 T12 T02 R1 K2;go_wp2_with fail;generalize w3.setCells (w.heap.size+1) 576 c2=w4 at *;clear hsc;have hi:Hid ((Tryz.prog.info? 137).map (·.size)=some (c1++c2).length):=by show _=_;rw[hll.out];exact tsize1152
 refine wp_load_mid 137 _ rfl (w.heap.size+1) 0 rfl (c1++c2) _ R3.out Tryz.underlying137 rfl hi.out ?_;have hE:Hid (BkC c1/\BkC c2/\Ending.returned (.agg (c1++c2).toArray) = .returned (.agg (c1++c2).toArray)):=⟨B1.out,B2.out,rfl⟩;have hP:Hid (∀ W,Kept w W->BksP (.returned (.agg (c1++c2).toArray))/\Kept w W):=fun W k=>⟨⟨c1,c2,rfl,B1.out,B2.out⟩,k⟩
 clear hE B1 B2 l1 l2;generalize c1++c2=cs at *;have hcl:cs.length=1152:=hll.out;have hsc:(storeCells ⟨w.heap.size,0,none⟩ cs).run Tryz.prog w4 = .ok () (w4.setCells w.heap.size 0 cs):=store_there (by rw[hcl];exact T04.out) hone.out;go_wp2;have hld:(loadVar 137 ⟨w.heap.size,0,none⟩).run Tryz.prog (w4.setCells w.heap.size 0 cs) = .ok (.agg cs.toArray) (w4.setCells w.heap.size 0 cs) :=
  run_loadVar_mid _ _ _ _ cs _ (World.rangeAt_setCells_same _ _ _ _ (by rw[hcl];exact T04.out)) Tryz.underlying137 rfl hi.out
 refine bodyPost_ret (v := .agg cs.toArray) ?_ rfl (hP.out _ (Kept.setCells (Nat.le_refl _) _ _ K4.out));exact results_cell1 rfl _ _ _ _ _ rfl hld
theorem zero32s:#[Value.int .u8 0,Value.int .u8 0,Value.int .u8 0,Value.int .u8 0,Value.int .u8 0,Value.int .u8 0,Value.int .u8 0,Value.int .u8 0,Value.int .u8 0,Value.int .u8 0,Value.int .u8 0,Value.int .u8 0,Value.int .u8 0,Value.int .u8 0,Value.int .u8 0,Value.int .u8 0,Value.int .u8 0,Value.int .u8 0,Value.int .u8 0,Value.int .u8 0,Value.int .u8 0,Value.int .u8 0,Value.int .u8 0,Value.int .u8 0,Value.int .u8 0,Value.int .u8 0,Value.int .u8 0,Value.int .u8 0,Value.int .u8 0,Value.int .u8 0,Value.int .u8 0,Value.int .u8 0]=Array.replicate 32 (Value.int .u8 0):=by rfl
theorem size32s:(Tryz.prog.info? 167).map (·.size)=some 32:=by kernel_rfl
theorem Rng.mono {k:IntKind} {m m':Int} {W:World} {b o n:Nat} (h:Rng k m W b o n) (e:m<=m'):Rng k m' W b o n:=fun j hj=>by
 obtain ⟨z,z0,z1,hz⟩:=h j hj;exact ⟨z,z0,by omega,hz⟩
def BksC (cs:List Value):Prop:=∃ c1 c2,cs=c1++c2/\BkC c1/\BkC c2
theorem BksC.len {cs:List Value} (h:BksC cs):cs.length=1152:=by
 obtain ⟨c1,c2,rfl,h1,h2⟩:=h;rw[List.length_append,h1.1,h2.1]
theorem BksC.one {cs:List Value} (h:BksC cs):∀ v ∈ cs,v.oneCell'=true:=by
 obtain ⟨c1,c2,rfl,h1,h2⟩:=h;intro v hv;rcases List.mem_append.1 hv with q | q
 ·exact h1.one v q
 ·exact h2.one v q
theorem BksC.bkl {cs:List Value} (h:BksC cs):BkL cs.toArray:=by
 obtain ⟨c1,c2,rfl,h1,h2⟩:=h;exact h1.bkl h2
theorem BksP.cs {r:Ending} (h:BksP r):∃ cs,r = .returned (.agg cs.toArray)/\BksC cs:=by
 obtain ⟨c1,c2,rfl,h1,h2⟩:=h;exact ⟨c1++c2,rfl,c1,c2,rfl,h1,h2⟩
theorem BksC.p {cs:List Value} (h:BksC cs):BksP (.returned (.agg cs.toArray)):=by
 obtain ⟨c1,c2,rfl,h1,h2⟩:=h;exact ⟨c1,c2,rfl,h1,h2⟩
def B16P (n:Nat) (r:Ending):Prop:=∃ cs:List Value,r = .returned (.agg cs.toArray)/\cs.length=n/\∀ i,i<n->∃ z:Int,0<=z/\z<16/\cs[i]? = some (.int .u8 z)
theorem fixdist_any (w:World) :
  Calls Tryz.prog 99 #[] w fun r w'=>B16P 32 r/\Kept w w':=by
 have hR:Hid (Rng .u8 16 ((w.alloc (Obj.cells #[Value.int .u8 0,Value.int .u8 0,Value.int .u8 0,Value.int .u8 0,Value.int .u8 0,Value.int .u8 0,Value.int .u8 0,Value.int .u8 0,Value.int .u8 0,Value.int .u8 0,Value.int .u8 0,Value.int .u8 0,Value.int .u8 0,Value.int .u8 0,Value.int .u8 0,Value.int .u8 0,Value.int .u8 0,Value.int .u8 0,Value.int .u8 0,Value.int .u8 0,Value.int .u8 0,Value.int .u8 0,Value.int .u8 0,Value.int .u8 0,Value.int .u8 0,Value.int .u8 0,Value.int .u8 0,Value.int .u8 0,Value.int .u8 0,Value.int .u8 0,Value.int .u8 0,Value.int .u8 0] 167)).alloc (Obj.cells #[Value.int .u8 0,Value.int .u8 0,Value.int .u8 0,Value.int .u8 0,Value.int .u8 0,Value.int .u8 0,Value.int .u8 0,Value.int .u8 0,Value.int .u8 0,Value.int .u8 0,Value.int .u8 0,Value.int .u8 0,Value.int .u8 0,Value.int .u8 0,Value.int .u8 0,Value.int .u8 0,Value.int .u8 0,Value.int .u8 0,Value.int .u8 0,Value.int .u8 0,Value.int .u8 0,Value.int .u8 0,Value.int .u8 0,Value.int .u8 0,Value.int .u8 0,Value.int .u8 0,Value.int .u8 0,Value.int .u8 0,Value.int .u8 0,Value.int .u8 0,Value.int .u8 0,Value.int .u8 0] 167)) (w.heap.size+1) 0 32):=by
  intro j hj;refine ⟨0,by omega,by omega,?_⟩;rw[World.cell?_alloc_at _ _ _ _ (by simp)];rw[zero32s];simp [hj]
 have hT:Hid (((w.alloc (Obj.cells #[Value.int .u8 0,Value.int .u8 0,Value.int .u8 0,Value.int .u8 0,Value.int .u8 0,Value.int .u8 0,Value.int .u8 0,Value.int .u8 0,Value.int .u8 0,Value.int .u8 0,Value.int .u8 0,Value.int .u8 0,Value.int .u8 0,Value.int .u8 0,Value.int .u8 0,Value.int .u8 0,Value.int .u8 0,Value.int .u8 0,Value.int .u8 0,Value.int .u8 0,Value.int .u8 0,Value.int .u8 0,Value.int .u8 0,Value.int .u8 0,Value.int .u8 0,Value.int .u8 0,Value.int .u8 0,Value.int .u8 0,Value.int .u8 0,Value.int .u8 0,Value.int .u8 0,Value.int .u8 0] 167)).alloc (Obj.cells #[Value.int .u8 0,Value.int .u8 0,Value.int .u8 0,Value.int .u8 0,Value.int .u8 0,Value.int .u8 0,Value.int .u8 0,Value.int .u8 0,Value.int .u8 0,Value.int .u8 0,Value.int .u8 0,Value.int .u8 0,Value.int .u8 0,Value.int .u8 0,Value.int .u8 0,Value.int .u8 0,Value.int .u8 0,Value.int .u8 0,Value.int .u8 0,Value.int .u8 0,Value.int .u8 0,Value.int .u8 0,Value.int .u8 0,Value.int .u8 0,Value.int .u8 0,Value.int .u8 0,Value.int .u8 0,Value.int .u8 0,Value.int .u8 0,Value.int .u8 0,Value.int .u8 0,Value.int .u8 0] 167)).there w.heap.size 0 32):=World.there_alloc (there_new _ _ _ _ rfl) _;have hF:Hid (∀ k,((w.alloc (Obj.cells #[Value.int .u8 0,Value.int .u8 0,Value.int .u8 0,Value.int .u8 0,Value.int .u8 0,Value.int .u8 0,Value.int .u8 0,Value.int .u8 0,Value.int .u8 0,Value.int .u8 0,Value.int .u8 0,Value.int .u8 0,Value.int .u8 0,Value.int .u8 0,Value.int .u8 0,Value.int .u8 0,Value.int .u8 0,Value.int .u8 0,Value.int .u8 0,Value.int .u8 0,Value.int .u8 0,Value.int .u8 0,Value.int .u8 0,Value.int .u8 0,Value.int .u8 0,Value.int .u8 0,Value.int .u8 0,Value.int .u8 0,Value.int .u8 0,Value.int .u8 0,Value.int .u8 0,Value.int .u8 0] 167)).alloc (Obj.cells #[Value.int .u8 0,Value.int .u8 0,Value.int .u8 0,Value.int .u8 0,Value.int .u8 0,Value.int .u8 0,Value.int .u8 0,Value.int .u8 0,Value.int .u8 0,Value.int .u8 0,Value.int .u8 0,Value.int .u8 0,Value.int .u8 0,Value.int .u8 0,Value.int .u8 0,Value.int .u8 0,Value.int .u8 0,Value.int .u8 0,Value.int .u8 0,Value.int .u8 0,Value.int .u8 0,Value.int .u8 0,Value.int .u8 0,Value.int .u8 0,Value.int .u8 0,Value.int .u8 0,Value.int .u8 0,Value.int .u8 0,Value.int .u8 0,Value.int .u8 0,Value.int .u8 0,Value.int .u8 0] 167)).frozen? ⟨w.heap.size+1,k,none⟩=false):=fun k=>World.frozen?_alloc_at _ _ _ _ (by simp)
 have hK:Hid (Kept w ((w.alloc (Obj.cells #[Value.int .u8 0,Value.int .u8 0,Value.int .u8 0,Value.int .u8 0,Value.int .u8 0,Value.int .u8 0,Value.int .u8 0,Value.int .u8 0,Value.int .u8 0,Value.int .u8 0,Value.int .u8 0,Value.int .u8 0,Value.int .u8 0,Value.int .u8 0,Value.int .u8 0,Value.int .u8 0,Value.int .u8 0,Value.int .u8 0,Value.int .u8 0,Value.int .u8 0,Value.int .u8 0,Value.int .u8 0,Value.int .u8 0,Value.int .u8 0,Value.int .u8 0,Value.int .u8 0,Value.int .u8 0,Value.int .u8 0,Value.int .u8 0,Value.int .u8 0,Value.int .u8 0,Value.int .u8 0] 167)).alloc (Obj.cells #[Value.int .u8 0,Value.int .u8 0,Value.int .u8 0,Value.int .u8 0,Value.int .u8 0,Value.int .u8 0,Value.int .u8 0,Value.int .u8 0,Value.int .u8 0,Value.int .u8 0,Value.int .u8 0,Value.int .u8 0,Value.int .u8 0,Value.int .u8 0,Value.int .u8 0,Value.int .u8 0,Value.int .u8 0,Value.int .u8 0,Value.int .u8 0,Value.int .u8 0,Value.int .u8 0,Value.int .u8 0,Value.int .u8 0,Value.int .u8 0,Value.int .u8 0,Value.int .u8 0,Value.int .u8 0,Value.int .u8 0,Value.int .u8 0,Value.int .u8 0,Value.int .u8 0,Value.int .u8 0] 167))):=((Below.refl _ _).alloc (Nat.le_refl _) _).alloc (by simp) _;go_enter Tryz.func99,Tryz.ntmps99;go_wp2;generalize ((w.alloc (Obj.cells #[Value.int .u8 0,Value.int .u8 0,Value.int .u8 0,Value.int .u8 0,Value.int .u8 0,Value.int .u8 0,Value.int .u8 0,Value.int .u8 0,Value.int .u8 0,Value.int .u8 0,Value.int .u8 0,Value.int .u8 0,Value.int .u8 0,Value.int .u8 0,Value.int .u8 0,Value.int .u8 0,Value.int .u8 0,Value.int .u8 0,Value.int .u8 0,Value.int .u8 0,Value.int .u8 0,Value.int .u8 0,Value.int .u8 0,Value.int .u8 0,Value.int .u8 0,Value.int .u8 0,Value.int .u8 0,Value.int .u8 0,Value.int .u8 0,Value.int .u8 0,Value.int .u8 0,Value.int .u8 0] 167)).alloc (Obj.cells #[Value.int .u8 0,Value.int .u8 0,Value.int .u8 0,Value.int .u8 0,Value.int .u8 0,Value.int .u8 0,Value.int .u8 0,Value.int .u8 0,Value.int .u8 0,Value.int .u8 0,Value.int .u8 0,Value.int .u8 0,Value.int .u8 0,Value.int .u8 0,Value.int .u8 0,Value.int .u8 0,Value.int .u8 0,Value.int .u8 0,Value.int .u8 0,Value.int .u8 0,Value.int .u8 0,Value.int .u8 0,Value.int .u8 0,Value.int .u8 0,Value.int .u8 0,Value.int .u8 0,Value.int .u8 0,Value.int .u8 0,Value.int .u8 0,Value.int .u8 0,Value.int .u8 0,Value.int .u8 0] 167))=w0 at *
 go_loopw [2] (fun v W=>∃ k:Nat,k<=32/\v = .int .i64 (k:Int)/\Rng .u8 16 W (w.heap.size+1) 0 32/\W.there w.heap.size 0 32/\(∀ k,W.frozen? ⟨w.heap.size+1,k,none⟩=false)/\Kept w W) (fun v _=>32 - (intOf v).toNat)
 case atStart=>exact ⟨0,by omega,rfl,hR.out,hT.out,hF.out,hK.out⟩
 case round=>
  obtain ⟨k,hk,rfl,hr,ht,hf,hK2⟩:=hrel;have HR:Hid (Rng .u8 16 wr (w.heap.size+1) 0 32):=hr;have HT:Hid (wr.there w.heap.size 0 32):=ht;have HF:Hid (∀ k,wr.frozen? ⟨w.heap.size+1,k,none⟩=false):=hf;have HK:Hid (Kept w wr):=hK2;clear hR hT hF hK hr ht hf hK2;by_cases hlt:k<32
  ·obtain ⟨z,_,_,hc⟩:=HR.out k hlt
   rw[Nat.zero_add] at hc;have fk:=HF.out k;have i0:(0:Int)<=(k:Int):=by omega
   have i1:(k:Int)<32:=by omega
   go_wp2;exact ⟨⟨k+1,by omega,by go_num,HR.out.set k 5 (by omega) (by omega),there_set HT.out _ (by omega),fun j=>by rw[World.frozen?_setCell];exact HF.out j,HK.out.setCell (by simp) _⟩,by simp [intOf];omega⟩
  ·obtain ⟨cs,hcl,hcr,hcz⟩:=HR.out.list
   have i1:¬ (k:Int)<32:=by omega
   have hi:Hid ((Tryz.prog.info? 167).map (·.size)=some cs.length):=by show _=_;rw[hcl];exact size32s
   have htl:wr.there w.heap.size 0 cs.length:=by rw[hcl];exact HT.out
   have hsc:(storeCells ⟨w.heap.size,0,none⟩ cs).run Tryz.prog wr = .ok () (wr.setCells w.heap.size 0 cs):=store_there htl (ints_one hcl hcz);have hld:Hid ((loadVar 167 ⟨w.heap.size,0,none⟩).run Tryz.prog (wr.setCells w.heap.size 0 cs) = .ok (.agg cs.toArray) (wr.setCells w.heap.size 0 cs)) :=
    run_loadVar_mid _ _ _ _ cs _ (World.rangeAt_setCells_same _ _ _ _ htl) Tryz.underlying167 rfl hi.out
   have hP:Hid (B16P 32 (.returned (.agg cs.toArray))):=⟨cs,rfl,hcl,hcz⟩;replace hcl:Hid _:=hcl;replace hcr:Hid _:=hcr;clear htl hcz;go_upto_region 6 with fail
   go_step;refine wpList_load_mid rfl 167 _ rfl (w.heap.size+1) 0 rfl cs _ hcr.out Tryz.underlying167 rfl hi.out ?_;go_wp2;exact bodyPost_ret (v := .agg cs.toArray) (results_cell1 rfl _ _ _ _ _ rfl hld.out) rfl ⟨hP.out,Kept.setCells (Nat.le_refl _) _ _ HK.out⟩
theorem fixbooks_any (w:World) :
  Calls Tryz.prog 68 #[] w fun r w'=>BksP r/\Kept w w':=by
 have F1:Hid (∀ W,Calls Tryz.prog 98 #[] W fun r w'=>B16P 288 r/\Kept W w'):=fun W=>(fixlit_any W).mono (fun r w' q=>by obtain ⟨cs,a,b,c,d⟩:=q;exact ⟨⟨cs,a,b,c⟩,d⟩)
 have F2:Hid (∀ W,Calls Tryz.prog 99 #[] W fun r w'=>B16P 32 r/\Kept W w'):=fixdist_any;have F3:Hid (∀ (W:World) (g1 g2:Nat),Rng .u8 256 W g1 0 288->Rng .u8 256 W g2 0 32->Calls Tryz.prog 100 #[.slice (some ⟨g1,0,none⟩) 288 288,.slice (some ⟨g2,0,none⟩) 32 32] W fun r w'=>BksP r/\Kept W w'):=fun W g1 g2 h1 h2=>booksof_any g1 288 288 g2 32 32 W h1 h2 (by omega) (by omega) (by omega) (by omega)
 obtain ⟨w0,hw0⟩:∃ w0,w0=w.alloc (Obj.cells Tryz.zeroCells137 137):=⟨_,rfl⟩;have T0:Hid (w0.there w.heap.size 0 1152):=by rw[hw0];exact there_new _ _ _ _ size1152
 have K0:Hid (Kept w w0):=by rw[hw0];exact (Below.refl _ _).alloc (Nat.le_refl _) _
 go_enter Tryz.func68,Tryz.ntmps68;go_upto_region 1 with fail
 rw[<- hw0];clear hw0;go_wp2_with fail;refine (F1.out w0).mono ?_;rintro r w1 ⟨⟨c1,rfl,l1,z1⟩,hk1⟩;obtain ⟨w2,hw2⟩:∃ w2,w2=w1.alloc (Obj.cells Tryz.zeroCells133 133):=⟨_,rfl⟩;have T2:w2.there w1.heap.size 0 c1.length:=by rw[hw2,l1];exact there_new _ _ _ _ (by rw[zero288];simp)
 have hsc:(storeCells ⟨w1.heap.size,0,none⟩ c1).run Tryz.prog w2 = .ok () (w2.setCells w1.heap.size 0 c1):=store_there T2 (ints_one l1 z1);have R3:Hid (Rng .u8 256 (w2.setCells w1.heap.size 0 c1) w1.heap.size 0 288):=(Rng.of_range (World.rangeAt_setCells_same _ _ _ _ T2) z1).mono (by omega);have K3:Hid (Kept w0 (w2.setCells w1.heap.size 0 c1)):=hk1.trans (Kept.setCells (Nat.le_refl _) _ _ (by rw[hw2];exact (Below.refl _ _).alloc (Nat.le_refl _) _));rw[hw2] at hsc;clear T2 z1 hk1;go_upto_region 2 with fail
 rw[<- hw2];clear hsc hw2;generalize w2.setCells w1.heap.size 0 c1=w3 at *;generalize w1.heap.size=b1 at *;generalize c1.toArray=A1 at *;clear l1;go_wp2_with fail;refine (F2.out w3).mono ?_;rintro r w4 ⟨⟨c2,rfl,l2,z2⟩,hk4⟩;obtain ⟨w5,hw5⟩:∃ w5,w5=w4.alloc (Obj.cells #[Value.int .u8 0,Value.int .u8 0,Value.int .u8 0,Value.int .u8 0,Value.int .u8 0,Value.int .u8 0,Value.int .u8 0,Value.int .u8 0,Value.int .u8 0,Value.int .u8 0,Value.int .u8 0,Value.int .u8 0,Value.int .u8 0,Value.int .u8 0,Value.int .u8 0,Value.int .u8 0,Value.int .u8 0,Value.int .u8 0,Value.int .u8 0,Value.int .u8 0,Value.int .u8 0,Value.int .u8 0,Value.int .u8 0,Value.int .u8 0,Value.int .u8 0,Value.int .u8 0,Value.int .u8 0,Value.int .u8 0,Value.int .u8 0,Value.int .u8 0,Value.int .u8 0,Value.int .u8 0] 167):=⟨_,rfl⟩;have T5:w5.there w4.heap.size 0 c2.length:=by rw[hw5,l2];exact there_new _ _ _ _ rfl
 have hsc:(storeCells ⟨w4.heap.size,0,none⟩ c2).run Tryz.prog w5 = .ok () (w5.setCells w4.heap.size 0 c2):=store_there T5 (ints_one l2 z2);have K45:Kept w4 (w5.setCells w4.heap.size 0 c2):=Kept.setCells (Nat.le_refl _) _ _ (by rw[hw5];exact (Below.refl _ _).alloc (Nat.le_refl _) _);have R6:Hid (Rng .u8 256 (w5.setCells w4.heap.size 0 c2) w4.heap.size 0 32):=(Rng.of_range (World.rangeAt_setCells_same _ _ _ _ T5) z2).mono (by omega);have R36:Hid (Rng .u8 256 (w5.setCells w4.heap.size 0 c2) b1 0 288):=R3.out.kept (hk4.trans K45);have K6:Hid (Kept w0 (w5.setCells w4.heap.size 0 c2)):=K3.out.trans (hk4.trans K45);rw[hw5] at hsc;clear T5 z2 hk4 K45 R3 K3;go_upto_region 3 with fail
 rw[<- hw5];clear hsc hw5;generalize w5.setCells w4.heap.size 0 c2=w6 at *;generalize w4.heap.size=b2 at *;generalize c2.toArray=A2 at *;clear l2;have F4:Hid (Calls Tryz.prog 100 #[.slice (some ⟨b1,0,none⟩) 288 288,.slice (some ⟨b2,0,none⟩) 32 32] w6.drew fun r w'=>BksP r/\Kept w6.drew w'):=F3.out w6.drew b1 b2 (R36.out.kept ((Kept.refl _).drewN 1)) (R6.out.kept ((Kept.refl _).drewN 1));clear F1 F2 F3 R36 R6;have T6:Hid (w6.there w.heap.size 0 1152):=there_kept T0.out K6.out;have K7:Hid (Kept w w6):=K0.out.trans K6.out;clear T0 K0 K6;go_region_held3 (fun W=>True) (trivial) ((go_at_call 100;refine F4.out.mono ?_;rintro r w7 ⟨hbk,hk7⟩;obtain ⟨cs,rfl,hcs⟩:=hbk.cs;have hcl:cs.length=1152:=hcs.len;have T7:w7.there w.heap.size 0 1152:=there_kept (there_kept T6.out ((Kept.refl _).drewN 1)) hk7;have hsc:(storeCells ⟨w.heap.size,0,none⟩ cs).run Tryz.prog w7 = .ok () (w7.setCells w.heap.size 0 cs):=store_there (by rw[hcl];exact T7) hcs.one;replace T7:Hid _:=T7;replace hcs:Hid _:=hcs;replace hk7:Hid _:=hk7;clear hbk))
 go_wp2;have hi:(Tryz.prog.info? 137).map (·.size)=some cs.length:=by rw[hcl];exact tsize1152
 have hld:(loadVar 137 ⟨w.heap.size,0,none⟩).run Tryz.prog (w7.setCells w.heap.size 0 cs) = .ok (.agg cs.toArray) (w7.setCells w.heap.size 0 cs) :=
  run_loadVar_mid _ _ _ _ cs _ (World.rangeAt_setCells_same _ _ _ _ (by rw[hcl];exact T7.out)) Tryz.underlying137 rfl hi
 refine bodyPost_ret (v := .agg cs.toArray) ?_ rfl ⟨BksC.p hcs.out,Kept.setCells (Nat.le_refl _) _ _ ((K7.out.drewN 1).trans hk7.out)⟩;exact results_cell1 rfl _ _ _ _ _ rfl hld
