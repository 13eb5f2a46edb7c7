import Derived.Test.YtgooinallljbpaaGreatDoorTd09
set_option maxRecDepth 100000
set_option maxHeartbeats 6400000
namespace Go.Proofs.YtgooinallljbpaaGreatDoor
open Go.RowKit Px
set_option linter.unusedSimpArgs false
set_option linter.unusedVariables false
theorem GA (w:World) :
  Calls Tryz.prog 123 #[] w fun e w'=>∃ cs:List Value,e = .returned (.agg cs.toArray)/\cs.length=3351/\StV (fun i=>cs.getD i undef) 0 St.start/\(∀ v ∈ cs,v.oneCell'=true)/\Kept w w':=by
 obtain ⟨A,hAe,hAl,hAV⟩:=LV;have aone:∀ v ∈ A,v.oneCell'=true:=by
  intro v hv;obtain ⟨j,hj,e⟩:=List.getElem_of_mem hv
  have:=hAV.one j (by omega)
  rw[Nat.zero_add,List.getD_eq_getElem?_getD,List.getElem?_eq_getElem hj] at this;rw[<- e];exact this
 obtain ⟨w2,hw2⟩:∃ w2,w2=w.alloc (Obj.cells Tryz.zeroCells63 63):=⟨_,rfl⟩;have hs2:w2.heap.size=w.heap.size+1:=by rw[hw2];simp
 have hk2:Kept w w2:=by rw[hw2];exact Below.alloc (Below.refl _ _) (Nat.le_refl _) _
 have B2:=Blk.new w Tryz.zeroCells63 63 3351 zR;rw[<- hw2] at B2;obtain ⟨w3,hw3⟩:∃ w3,w3=w2.alloc (Obj.cells Tryz.zeroCells63 63):=⟨_,rfl⟩;have hk3:Kept w2 w3:=by rw[hw3];exact Below.alloc (Below.refl _ _) (Nat.le_refl _) _
 have B3:=Blk.new w2 Tryz.zeroCells63 63 3351 zR;rw[<- hw3,hs2] at B3;have B2':Blk w3 w.heap.size 3351 _:=B2.kept hk3;have hsc:(storeCells ⟨w.heap.size+1,0,none⟩ A).run Tryz.prog w3 = .ok () (w3.setCells (w.heap.size+1) 0 A):=aU (by rw[hAl];exact B3.there (by omega)) aone;have B4:Blk (w3.setCells (w.heap.size+1) 0 A) (w.heap.size+1) 3351 _:=B3.sets (k:=0) (m:=3351) (by omega) (fun j=>A.getD j undef) hAl (fun j hj=>by
  show A[j]? = some (A.getD j undef)
  rw[List.getD_eq_getElem?_getD,List.getElem?_eq_getElem (by omega)];rfl)
 have V4:=hAV.congr (d:=updL (fun i=>Tryz.zeroCells63.getD i undef) 0 3351 (fun j=>A.getD j undef)) (fun i _ hi=>by
  have:=ff (c:=fun i=>Tryz.zeroCells63.getD i undef) (k:=0) (f:=fun j=>A.getD j undef) (show i<3351 by omega)
  rw[Nat.zero_add] at this;exact this)
 have F4:Fr1 (w.heap.size+1) w3 (w3.setCells (w.heap.size+1) 0 A):=Fr1.sets _ _ (Fr.refl _ _);have K4:Kept w (w3.setCells (w.heap.size+1) 0 A):=Fr.to_kept (S:=fun j=>j=w.heap.size+1) (hk2.trans hk3) F4 (fun i hi e=>by omega);have B24:Blk (w3.setCells (w.heap.size+1) 0 A) w.heap.size 3351 _:=B2'.fr F4 (by omega);have FN:Hid (∀ W,W=w3.setCells (w.heap.size+1) 0 A->Calls Tryz.prog 138 #[.pointer (some ⟨w.heap.size+1,0,none⟩),.int .i64 0,.int .u64 16] W fun e w'=>e = .returned (.tuple #[])/\ai (w.heap.size+1) 0 3351 (updL (fun i=>Tryz.zeroCells63.getD i undef) 0 3351 (fun j=>A.getD j undef)) St.start W w'):=fun W e=>by
  rw[e];exact aX _ 0 3351 0 16 _ (st0 1) _ B4 V4 (by omega)
 rw[hw3,hw2] at hsc;replace B24:Hid _:=B24;replace K4:Hid _:=K4;rw[hw3,hw2] at FN B24 K4;clear hAV aone hw2 hw3 hk2 hk3 B2 B3 B2' B4 V4 F4 hs2;replace hAl:Hid _:=hAl;go_enter Tryz.func123,Tryz.ntmps123;go_wp2_with fail;refine (FN.out _ rfl).mono ?_;rintro e w5 ⟨rfl,d,hB5,hV5,hC5,hF5⟩;have B5:Hid (Blk w5 (w.heap.size+1) 3351 d):=hB5;have B25:Hid (Blk w5 w.heap.size 3351 (fun i=>Tryz.zeroCells63.getD i undef)):=B24.out.fr hF5 (by omega);have K5:Hid (Kept w w5):=Fr.to_kept (S:=fun j=>j=w.heap.size+1) K4.out hF5 (fun i hi e=>by omega);obtain ⟨cs,hcs⟩:∃ cs,cs=(List.range 3351).map d:=⟨_,rfl⟩;have hcl:cs.length=3351:=by rw[hcs];exact bS d 3351
 have HV:Hid (StV (fun i=>cs.getD i undef) 0 St.start):=hV5.congr (fun i _ hi=>by show cs.getD i undef=d i;rw[hcs];exact vS d 3351 i (by omega));have hone:∀ v ∈ cs,v.oneCell'=true:=by
  intro v hv;rw[hcs,List.mem_map] at hv;obtain ⟨j,hj,rfl⟩:=hv
  have:=hV5.one j (List.mem_range.1 hj)
  rw[Nat.zero_add] at this;exact this
 have hcr:Hid (w5.rangeAt (w.heap.size+1) 0 cs):=by
  show w5.rangeAt (w.heap.size+1) 0 cs
  have:=hB5.range (k:=0) (m:=3351) (by omega)
  rw[hcs];rw[show (fun j=>d (0+j))=d from funext (fun j=>by rw[Nat.zero_add])] at this;exact this
 have hi:Hid ((Tryz.prog.info? 63).map (·.size)=some cs.length):=by show _=_;rw[hcl];exact Ig
 have ht:Hid (w5.there w.heap.size 0 cs.length):=by show w5.there _ 0 cs.length;rw[hcl];exact B25.out.there (by omega)
 have hsc5:(storeCells ⟨w.heap.size,0,none⟩ cs).run Tryz.prog w5 = .ok () (w5.setCells w.heap.size 0 cs):=aU ht.out hone;have hld:Hid ((loadVar 63 ⟨w.heap.size,0,none⟩).run Tryz.prog (w5.setCells w.heap.size 0 cs) = .ok (.agg cs.toArray) (w5.setCells w.heap.size 0 cs)) :=
  run_loadVar_mid _ _ _ _ cs _ (World.rangeAt_setCells_same _ _ _ _ ht.out) Tryz.underlying63 rfl hi.out
 have K6:Hid (Kept w (w5.setCells w.heap.size 0 cs)):=Fr.to_kept (S:=fun j=>j=w.heap.size) K5.out (Fr1.sets _ _ (Fr.refl _ _)) (fun i hi e=>by omega);replace hcs:Hid _:=hcs;replace hcl:Hid _:=hcl;replace hone:Hid _:=hone;clear hsc FN hB5 hV5 hC5 hF5 B24 K4 hAe hAl;go_wp2_with fail;refine wp_load_mid 63 _ rfl (w.heap.size+1) 0 rfl cs _ hcr.out Tryz.underlying63 rfl hi.out ?_;go_wp2;refine bodyPost_ret (v := .agg cs.toArray) ?_ rfl ⟨cs,rfl,hcl.out,HV.out,hone.out,K6.out⟩;exact bm rfl _ _ _ _ _ rfl hld.out
