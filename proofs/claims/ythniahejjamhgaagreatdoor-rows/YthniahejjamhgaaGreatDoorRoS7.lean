import Derived.Test.YthniahejjamhgaaGreatDoorRoS4
import Derived.Laws.BitsAllLaws
set_option maxRecDepth 100000
set_option maxHeartbeats 6400000
namespace Go.Proofs.YthniahejjamhgaaGreatDoor
open Go.RowKit Px
set_option linter.unusedSimpArgs false
set_option linter.unusedVariables false
def cs0:CS:=⟨fun _=>0,fun _=>0,0,0⟩
def tb0:Tb:=⟨0,0,0,cs0,fun _=>0,fun _=>0,0,0⟩
def st0 (sum:Nat):St:=⟨0,0,0,0,⟨0,0,0⟩,false,0,false,0,cs0,cs0,tb0,0,0,fun _=>0,0,sum⟩
def St.start:St:=(st0 1).enter 0 16
def stH:List Value:=[.int .i64 0,.int .u32 0,.int .u64 0,.int .u64 0,.int .i64 0,.int .i64 0,.int .i64 0,.bool false,.int .i64 0,.bool false]
def stT:List Value:=List.replicate 922 (.int .i64 0)++(List.replicate 335 (.int .u8 0)++(List.replicate 4 (.int .i64 0)++List.replicate 2078 (.int .u8 0)))
theorem stT_len:stT.length=3339:=by unfold stT;rw[List.length_append,List.length_append,List.length_append,List.length_replicate,List.length_replicate,List.length_replicate,List.length_replicate]
theorem zero3351:Tryz.zeroCells84.toList=stH++(stT++[.int .i64 0,.int .u32 0]):=by kernel_rfl
theorem size3351:Tryz.zeroCells84.size=3351:=by
 rw[<- Array.length_toList,zero3351,List.length_append,List.length_append,stT_len,show stH.length=10 from rfl];simp only [List.length_cons,List.length_nil]
theorem info3351:(Tryz.prog.info? 84).map (·.size)=some 3351:=by kernel_rfl
theorem stT_a (j:Nat) (hj:j<922):stT.getD j undef = .int .i64 0:=getD_rep _ _ _ _ hj
theorem stT_b (j:Nat) (hj:j<335):stT.getD (922+j) undef = .int .u8 0:=(getD_skip _ _ 922 j (List.length_replicate ..)).trans (getD_rep _ _ _ _ hj)
theorem stT_c (j:Nat) (hj:j<4):stT.getD (922+(335+j)) undef = .int .i64 0:=(getD_skip _ _ 922 _ (List.length_replicate ..)).trans ((getD_skip _ _ 335 j (List.length_replicate ..)).trans (getD_rep _ _ _ _ hj))
theorem stT_d (j:Nat) (hj:j<2078):stT.getD (922+(335+(4+j))) undef = .int .u8 0:=(getD_skip _ _ 922 _ (List.length_replicate ..)).trans ((getD_skip _ _ 335 _ (List.length_replicate ..)).trans ((getD_skip _ _ 4 j (List.length_replicate ..)).trans (by
 have:=getD_rep 2078 j (.int .u8 0) [] hj
 rw[List.append_nil] at this;exact this)))
theorem stV_of (sum:Nat):StV (fun j=>(stH++(stT++[Value.int .i64 0,.int .u32 (sum:Int)])).getD j undef) 0 (st0 sum):=by
 have h10:stH.length=10:=rfl;obtain ⟨L,hL⟩:∃ L,L=stH++(stT++[Value.int .i64 0,.int .u32 (sum:Int)]):=⟨_,rfl⟩;rw[<- hL];have g:∀ i v,i<10->stH.getD i undef=v->L.getD i undef=v:=fun i v hi e=>by rw[hL];exact (getD_front _ _ i (by rw[h10];exact hi)).trans e
 have t:∀ j v,j<3339->stT.getD j undef=v->L.getD (10+j) undef=v:=fun j v hj e=>by
  rw[hL];exact (getD_skip _ _ 10 j h10).trans ((getD_front _ _ j (by rw[stT_len];exact hj)).trans e)
 have u:∀ j v,[Value.int .i64 0,.int .u32 (sum:Int)].getD j undef=v->L.getD (3349+j) undef=v:=fun j v e=>by
  rw[hL,show 3349+j=10+(3339+j) from by omega];exact (getD_skip _ _ 10 _ h10).trans ((getD_skip _ _ 3339 j stT_len).trans e)
 have A:∀ i,10<=i->i<932->L.getD i undef = .int .i64 0:=fun i h1 h2=>by
  have:=t (i - 10) _ (by omega) (stT_a (i - 10) (by omega))
  rw[show 10+(i - 10)=i from by omega] at this;exact this
 have B:∀ i,932<=i->i<1267->L.getD i undef = .int .u8 0:=fun i h1 h2=>by
  have:=t (922+(i - 932)) _ (by omega) (stT_b (i - 932) (by omega))
  rw[show 10+(922+(i - 932))=i from by omega] at this;exact this
 have C:∀ i,1267<=i->i<1271->L.getD i undef = .int .i64 0:=fun i h1 h2=>by
  have:=t (922+(335+(i - 1267))) _ (by omega) (stT_c (i - 1267) (by omega))
  rw[show 10+(922+(335+(i - 1267)))=i from by omega] at this;exact this
 have D:∀ i,1271<=i->i<3349->L.getD i undef = .int .u8 0:=fun i h1 h2=>by
  have:=t (922+(335+(4+(i - 1271)))) _ (by omega) (stT_d (i - 1271) (by omega))
  rw[show 10+(922+(335+(4+(i - 1271))))=i from by omega] at this;exact this
 clear hL t;refine ⟨g 0 _ (by omega) rfl,g 1 _ (by omega) rfl,g 2 _ (by omega) rfl,g 3 _ (by omega) rfl,⟨g 4 _ (by omega) rfl,g 5 _ (by omega) rfl,g 6 _ (by omega) rfl⟩,g 7 _ (by omega) rfl,g 8 _ (by omega) rfl,g 9 _ (by omega) rfl,A _ (by omega) (by omega),?_,?_,?_,C _ (by omega) (by omega),C _ (by omega) (by omega),fun i hi=>D _ (by omega) (by omega),u 0 _ rfl,u 1 _ rfl⟩
 ·exact ⟨fun i hi=>A _ (by omega) (by omega),fun i hi=>A _ (by omega) (by omega),A _ (by omega) (by omega),A _ (by omega) (by omega)⟩
 ·exact ⟨fun i hi=>A _ (by omega) (by omega),fun i hi=>A _ (by omega) (by omega),A _ (by omega) (by omega),A _ (by omega) (by omega)⟩
 ·exact ⟨A _ (by omega) (by omega),A _ (by omega) (by omega),A _ (by omega) (by omega),⟨fun i hi=>A _ (by omega) (by omega),fun i hi=>A _ (by omega) (by omega),A _ (by omega) (by omega),A _ (by omega) (by omega)⟩,fun i hi=>B _ (by omega) (by omega),fun i hi=>B _ (by omega) (by omega),C _ (by omega) (by omega),C _ (by omega) (by omega)⟩
theorem set_last2 (P T:List Value) (a z v:Value) (n:Nat) (hn:P.length+T.length+1=n):(P++(T++[a,z])).set n v=P++(T++[a,v]):=by
 rw[List.set_append_right _ _ (by omega),List.set_append_right _ _ (by omega),show n - P.length - T.length=1 from by omega];rfl
theorem lay_st:∃ A:List Value,Tryz.zeroCells84.toList.set 3350 (.int .u32 1)=A/\A.length=3351/\StV (fun j=>A.getD j undef) 0 (st0 1):=by
 have h10:stH.length=10:=rfl;rw[zero3351,set_last2 stH stT _ _ _ 3350 (by rw[stT_len,h10])];refine ⟨_,rfl,?_,stV_of 1⟩;rw[List.length_append,List.length_append,stT_len,h10];simp only [List.length_cons,List.length_nil]
theorem CSV.one {c:Nat->Value} {o:Nat} {s:CS} (h:CSV c o s) (i:Nat) (hi:i<306):(c (o+i)).oneCell'=true:=by
 by_cases h0:i<16
 ·rw[h.count i h0];rfl
 ·by_cases h1:i<304
  ·have:=h.sym (i - 16) (by omega)
   rw[show o+16+(i - 16)=o+i from by omega] at this;rw[this];rfl
  ·have:i=304\/i=305:=by omega
   rcases this with rfl | rfl
   ·rw[h.total];rfl
   ·rw[h.longest];rfl
theorem TbV.one {c:Nat->Value} {o:Nat} {s:Tb} (h:TbV c o s) (i:Nat) (hi:i<646):(c (o+i)).oneCell'=true:=by
 by_cases h0:i<3
 ·have:i=0\/i=1\/i=2:=by omega
  rcases this with rfl | rfl | rfl
  ·rw[show c (o+0)=_ from h.literals];rfl
  ·rw[h.distances];rfl
  ·rw[h.shorts];rfl
 ·by_cases h1:i<309
  ·have:=h.short.one (i - 3) (by omega)
   rw[show o+3+(i - 3)=o+i from by omega] at this;exact this
  ·by_cases h2:i<328
   ·have:=h.sl (i - 309) (by omega)
    rw[show o+309+(i - 309)=o+i from by omega] at this;rw[this];rfl
   ·by_cases h3:i<644
    ·have:=h.ls (i - 328) (by omega)
     rw[show o+328+(i - 328)=o+i from by omega] at this;rw[this];rfl
    ·have:i=644\/i=645:=by omega
     rcases this with rfl | rfl
     ·rw[h.told];rfl
     ·rw[h.rep];rfl
theorem StV.one {c:Nat->Value} {o:Nat} {s:St} (h:StV c o s) (i:Nat) (hi:i<3351):(c (o+i)).oneCell'=true:=by
 by_cases h0:i<11
 ·have:i=0\/i=1\/i=2\/i=3\/i=4\/i=5\/i=6\/i=7\/i=8\/i=9\/i=10:=by omega
  rcases this with rfl | rfl | rfl | rfl | rfl | rfl | rfl | rfl | rfl | rfl | rfl
  ·rw[show c (o+0)=_ from h.part];rfl
  ·rw[h.number];rfl
  ·rw[h.got];rfl
  ·rw[h.wanted];rfl
  ·rw[h.path.bits];rfl
  ·rw[show c (o+5)=_ from h.path.offset];rfl
  ·rw[show c (o+6)=_ from h.path.ahead];rfl
  ·rw[h.skip];rfl
  ·rw[h.window];rfl
  ·rw[h.last];rfl
  ·rw[h.left];rfl
 ·by_cases h1:i<317
  ·have:=h.lit.one (i - 11) (by omega)
   rw[show o+11+(i - 11)=o+i from by omega] at this;exact this
  ·by_cases h2:i<623
   ·have:=h.dist.one (i - 317) (by omega)
    rw[show o+317+(i - 317)=o+i from by omega] at this;exact this
   ·by_cases h3:i<1269
    ·have:=h.tb.one (i - 623) (by omega)
     rw[show o+623+(i - 623)=o+i from by omega] at this;exact this
    ·by_cases h4:i<1271
     ·have:i=1269\/i=1270:=by omega
      rcases this with rfl | rfl
      ·rw[h.length];rfl
      ·rw[h.base];rfl
     ·by_cases h5:i<3349
      ·have:=h.hist (i - 1271) (by omega)
       rw[show o+1271+(i - 1271)=o+i from by omega] at this;rw[this];rfl
      ·have:i=3349\/i=3350:=by omega
       rcases this with rfl | rfl
       ·rw[h.count];rfl
       ·rw[h.sum];rfl
theorem sbegin_x (w:World) :
  Calls Tryz.prog 139 #[] w fun e w'=>∃ cs:List Value,e = .returned (.agg cs.toArray)/\cs.length=3351/\StV (fun i=>cs.getD i undef) 0 St.start/\(∀ v ∈ cs,v.oneCell'=true)/\Kept w w':=by
 obtain ⟨A,hAe,hAl,hAV⟩:=lay_st;have aone:∀ v ∈ A,v.oneCell'=true:=by
  intro v hv;obtain ⟨j,hj,e⟩:=List.getElem_of_mem hv
  have:=hAV.one j (by omega)
  rw[Nat.zero_add,List.getD_eq_getElem?_getD,List.getElem?_eq_getElem hj] at this;rw[<- e];exact this
 obtain ⟨w2,hw2⟩:∃ w2,w2=w.alloc (Obj.cells Tryz.zeroCells84 84):=⟨_,rfl⟩;have hs2:w2.heap.size=w.heap.size+1:=by rw[hw2];simp
 have hk2:Kept w w2:=by rw[hw2];exact Below.alloc (Below.refl _ _) (Nat.le_refl _) _
 have B2:=Blk.new w Tryz.zeroCells84 84 3351 size3351;rw[<- hw2] at B2;obtain ⟨w3,hw3⟩:∃ w3,w3=w2.alloc (Obj.cells Tryz.zeroCells84 84):=⟨_,rfl⟩;have hk3:Kept w2 w3:=by rw[hw3];exact Below.alloc (Below.refl _ _) (Nat.le_refl _) _
 have B3:=Blk.new w2 Tryz.zeroCells84 84 3351 size3351;rw[<- hw3,hs2] at B3;have B2':Blk w3 w.heap.size 3351 _:=B2.kept hk3;have hsc:(storeCells ⟨w.heap.size+1,0,none⟩ A).run Tryz.prog w3 = .ok () (w3.setCells (w.heap.size+1) 0 A):=store_all (by rw[hAl];exact B3.there (by omega)) aone;have B4:Blk (w3.setCells (w.heap.size+1) 0 A) (w.heap.size+1) 3351 _:=B3.sets (k:=0) (m:=3351) (by omega) (fun j=>A.getD j undef) hAl (fun j hj=>by
  show A[j]? = some (A.getD j undef)
  rw[List.getD_eq_getElem?_getD,List.getElem?_eq_getElem (by omega)];rfl)
 have V4:=hAV.congr (d:=updL (fun i=>Tryz.zeroCells84.getD i undef) 0 3351 (fun j=>A.getD j undef)) (fun i _ hi=>by
  have:=updL_in (c:=fun i=>Tryz.zeroCells84.getD i undef) (k:=0) (f:=fun j=>A.getD j undef) (show i<3351 by omega)
  rw[Nat.zero_add] at this;exact this)
 have F4:Fr1 (w.heap.size+1) w3 (w3.setCells (w.heap.size+1) 0 A):=Fr1.sets _ _ (Fr.refl _ _);have K4:Kept w (w3.setCells (w.heap.size+1) 0 A):=Fr.to_kept (S:=fun j=>j=w.heap.size+1) (hk2.trans hk3) F4 (fun i hi e=>by omega);have B24:Blk (w3.setCells (w.heap.size+1) 0 A) w.heap.size 3351 _:=B2'.fr F4 (by omega);have FN:Hid (∀ W,W=w3.setCells (w.heap.size+1) 0 A->Calls Tryz.prog 164 #[.pointer (some ⟨w.heap.size+1,0,none⟩),.int .i64 0,.int .u64 16] W fun e w'=>e = .returned (.tuple #[])/\StStep (w.heap.size+1) 0 3351 (updL (fun i=>Tryz.zeroCells84.getD i undef) 0 3351 (fun j=>A.getD j undef)) St.start W w'):=fun W e=>by
  rw[e];exact senter_x _ 0 3351 0 16 _ (st0 1) _ B4 V4 (by omega)
 rw[hw3,hw2] at hsc;replace B24:Hid _:=B24;replace K4:Hid _:=K4;rw[hw3,hw2] at FN B24 K4;clear hAV aone hw2 hw3 hk2 hk3 B2 B3 B2' B4 V4 F4 hs2;replace hAl:Hid _:=hAl;go_enter Tryz.func139,Tryz.ntmps139;go_wp2_with fail;refine (FN.out _ rfl).mono ?_;rintro e w5 ⟨rfl,d,hB5,hV5,hC5,hF5⟩;have B5:Hid (Blk w5 (w.heap.size+1) 3351 d):=hB5;have B25:Hid (Blk w5 w.heap.size 3351 (fun i=>Tryz.zeroCells84.getD i undef)):=B24.out.fr hF5 (by omega);have K5:Hid (Kept w w5):=Fr.to_kept (S:=fun j=>j=w.heap.size+1) K4.out hF5 (fun i hi e=>by omega);obtain ⟨cs,hcs⟩:∃ cs,cs=(List.range 3351).map d:=⟨_,rfl⟩;have hcl:cs.length=3351:=by rw[hcs];exact range_len d 3351
 have HV:Hid (StV (fun i=>cs.getD i undef) 0 St.start):=hV5.congr (fun i _ hi=>by show cs.getD i undef=d i;rw[hcs];exact range_getD d 3351 i (by omega));have hone:∀ v ∈ cs,v.oneCell'=true:=by
  intro v hv;rw[hcs,List.mem_map] at hv;obtain ⟨j,hj,rfl⟩:=hv
  have:=hV5.one j (List.mem_range.1 hj)
  rw[Nat.zero_add] at this;exact this
 have hcr:Hid (w5.rangeAt (w.heap.size+1) 0 cs):=by
  show w5.rangeAt (w.heap.size+1) 0 cs
  have:=hB5.range (k:=0) (m:=3351) (by omega)
  rw[hcs];rw[show (fun j=>d (0+j))=d from funext (fun j=>by rw[Nat.zero_add])] at this;exact this
 have hi:Hid ((Tryz.prog.info? 84).map (·.size)=some cs.length):=by show _=_;rw[hcl];exact info3351
 have ht:Hid (w5.there w.heap.size 0 cs.length):=by show w5.there _ 0 cs.length;rw[hcl];exact B25.out.there (by omega)
 have hsc5:(storeCells ⟨w.heap.size,0,none⟩ cs).run Tryz.prog w5 = .ok () (w5.setCells w.heap.size 0 cs):=store_all ht.out hone;have hld:Hid ((loadVar 84 ⟨w.heap.size,0,none⟩).run Tryz.prog (w5.setCells w.heap.size 0 cs) = .ok (.agg cs.toArray) (w5.setCells w.heap.size 0 cs)) :=
  run_loadVar_mid _ _ _ _ cs _ (World.rangeAt_setCells_same _ _ _ _ ht.out) Tryz.underlying84 rfl hi.out
 have K6:Hid (Kept w (w5.setCells w.heap.size 0 cs)):=Fr.to_kept (S:=fun j=>j=w.heap.size) K5.out (Fr1.sets _ _ (Fr.refl _ _)) (fun i hi e=>by omega);replace hcs:Hid _:=hcs;replace hcl:Hid _:=hcl;replace hone:Hid _:=hone;clear hsc FN hB5 hV5 hC5 hF5 B24 K4 hAe hAl;go_wp2_with fail;refine wp_load_mid 84 _ rfl (w.heap.size+1) 0 rfl cs _ hcr.out Tryz.underlying84 rfl hi.out ?_;go_wp2;refine bodyPost_ret (v := .agg cs.toArray) ?_ rfl ⟨cs,rfl,hcl.out,HV.out,hone.out,K6.out⟩;exact results_cell1 rfl _ _ _ _ _ rfl hld.out
end Go.Proofs.YthniahejjamhgaaGreatDoor
namespace Px
def crcBit (s:Nat):Nat:=if s % 2=1 then (s / 2) ^^^ 3988292384 else s / 2
def crcBits:Nat->Nat->Nat
 | 0,s=>s
 | k+1,s=>crcBit (crcBits k s)
def crcAdd (s b:Nat):Nat:=crcBits 8 (s ^^^ b)
def crcL (s:Nat) (l:List Nat):Nat:=l.foldl crcAdd s
def crcStart:Nat:=4294967295
def crcEnd (s:Nat):Nat:=s ^^^ 4294967295
def capB (b:Nat):Bool:=decide (65<=b/\b<=90)
def lowB (b:Nat):Bool:=decide (97<=b/\b<=122)
def letB (b:Nat):Bool:=capB b || lowB b
def tyB (n:Nat):Bool:=letB (n / 16777216 % 256) && letB (n / 65536 % 256) && capB (n / 256 % 256) && letB (n % 256)
def legB (k d:Nat):Bool:=
 if k=0 then decide (d=1\/d=2\/d=4\/d=8\/d=16)
 else if k=3 then decide (d=1\/d=2\/d=4\/d=8)
 else if k=2\/k=4\/k=6 then decide (d=8\/d=16)
 else false
def ihdr:Nat:=1229472850
def plte:Nat:=1347179589
def trns:Nat:=1951551059
def idat:Nat:=1229209940
def iend:Nat:=1229278788
def signB (i:Nat):Nat:=[137,80,78,71,13,10,26,10].getD i 0
end Px
namespace Go.Proofs.YthniahejjamhgaaGreatDoor
open Go.RowKit
set_option linter.unusedSimpArgs false
set_option linter.unusedVariables false
theorem isCapital_any (b:Nat) (w:World) :
  Calls Tryz.prog 115 #[.int .u8 (b:Int)] w fun e w'=>e = .returned (.bool (Px.capB b))/\w'=w:=by
 go_enter Tryz.func115,Tryz.ntmps115;go_wp2
 all_goals go_ret
 all_goals exact ⟨ret_bool (by unfold Px.capB;first | (symm;rw[decide_eq_false_iff_not];omega) | (rw[Bool.eq_iff_iff,decide_eq_true_iff,decide_eq_true_iff];omega)),rfl⟩
theorem isLetter_any (b:Nat) (w:World) :
  Calls Tryz.prog 137 #[.int .u8 (b:Int)] w fun e w'=>e = .returned (.bool (Px.letB b))/\w'=w:=by
 cases hc:Px.capB b
 ·have hl:Px.letB b=Px.lowB b:=by simp [Px.letB,hc]
  have HL:Hid (Px.letB b=Px.lowB b):=hl;clear hl;go_enter Tryz.func137,Tryz.ntmps137;go_wp2_with (go_at_call 115;refine (isCapital_any _ _).mono ?_;rintro e w' ⟨rfl,rfl⟩)
  all_goals go_ret
  all_goals exact ⟨ret_bool (by rw[HL.out];unfold Px.lowB;first | (symm;rw[decide_eq_false_iff_not];omega) | (rw[Bool.eq_iff_iff,decide_eq_true_iff,decide_eq_true_iff];omega)),rfl⟩
 ·have hl:Px.letB b=true:=by simp [Px.letB,hc]
  have HL:Hid (Px.letB b=true):=hl;clear hl;go_enter Tryz.func137,Tryz.ntmps137;go_wp2_with (go_at_call 115;refine (isCapital_any _ _).mono ?_;rintro e w' ⟨rfl,rfl⟩)
  all_goals go_ret
  all_goals exact ⟨ret_bool HL.out.symm,rfl⟩
theorem isCapital_i (b:Int) (w:World) (h:0<=b) :
  Calls Tryz.prog 115 #[.int .u8 b] w fun e w'=>e = .returned (.bool (Px.capB b.toNat))/\w'=w:=by
 obtain ⟨n,rfl⟩:=Int.eq_ofNat_of_zero_le h;exact isCapital_any n w
theorem isLetter_i (b:Int) (w:World) (h:0<=b) :
  Calls Tryz.prog 137 #[.int .u8 b] w fun e w'=>e = .returned (.bool (Px.letB b.toNat))/\w'=w:=by
 obtain ⟨n,rfl⟩:=Int.eq_ofNat_of_zero_le h;exact isLetter_any n w
theorem tyB_of (n:Nat) (hn:n<4294967296):Px.tyB n=(Px.letB ((n:Int) / 16777216).toNat && Px.letB ((n:Int) / 65536 % 256).toNat && Px.capB ((n:Int) / 256 % 256).toNat && Px.letB (n % 256)):=by
 unfold Px.tyB;rw[show ((n:Int) / 16777216).toNat=n / 16777216 % 256 from by omega,show ((n:Int) / 65536 % 256).toNat=n / 65536 % 256 from by omega,show ((n:Int) / 256 % 256).toNat=n / 256 % 256 from by omega]
theorem isType_any (n:Nat) (w:World) (hn:n<4294967296) :
  Calls Tryz.prog 108 #[.int .u32 (n:Int)] w fun e w'=>e = .returned (.bool (Px.tyB n))/\w'=w:=by
 rw[tyB_of n hn];cases h1:Px.letB ((n:Int) / 16777216).toNat<;>cases h2:Px.letB ((n:Int) / 65536 % 256).toNat<;>cases h3:Px.capB ((n:Int) / 256 % 256).toNat
 all_goals
  go_enter Tryz.func108,Tryz.ntmps108;go_wp2_with (first | (go_at_call 137;refine (isLetter_i _ _ (by omega)).mono ?_;rintro e w' ⟨rfl,rfl⟩) | (go_at_call 115;refine (isCapital_i _ _ (by omega)).mono ?_;rintro e w' ⟨rfl,rfl⟩))
  go_ret;exact ⟨ret_bool (by simp only [Bool.true_and,Bool.false_and,Bool.and_false]),rfl⟩
theorem crcBits_lt (k s:Nat) (h:s<4294967296):Px.crcBits k s<4294967296:=by
 induction k with
 | zero=>exact h
 | succ k ih=>
  show Px.crcBit _<_
  unfold Px.crcBit;split
  ·exact Nat.xor_lt_two_pow (n:=32) (by omega) (by omega)
  ·omega
theorem and1 (n:Nat) (h:n<4294967296):bits BinOp.and IntKind.u32 (n:Int) 1=((n % 2:Nat):Int):=by
 have:=u32_and_nat n 1 h (by omega);rw[show ((1:Int))=((1:Nat):Int) from rfl,this,nat_mask1]
theorem xorP (n:Nat) (h:n<4294967296):bits BinOp.xor IntKind.u32 ((n:Int) / 2) 3988292384=(((n / 2) ^^^ 3988292384:Nat):Int):=by
 have:=u32_xor_nat (n / 2) 3988292384 (by omega) (by omega)
 rw[show ((n:Int) / 2)=((n / 2:Nat):Int) from by omega,show ((3988292384:Int))=((3988292384:Nat):Int) from rfl,this]
theorem crc_step (k s:Nat) (h:s<4294967296) (c:Nat) (hc:c=Px.crcBits k s)
  (t:(bits BinOp.and IntKind.u32 (c:Int) 1 == 1)=true):bits BinOp.xor IntKind.u32 ((c:Int) / 2) 3988292384=(Px.crcBits (k+1) s:Nat):=by
 have hl:=crcBits_lt k s h;subst hc;rw[and1 _ hl] at t;rw[xorP _ hl]
 have:Px.crcBits k s % 2=1:=by simp at t;omega
 show _=((Px.crcBit (Px.crcBits k s):Nat):Int)
 unfold Px.crcBit;rw[if_pos this]
theorem crc_step' (k s:Nat) (h:s<4294967296) (c:Nat) (hc:c=Px.crcBits k s)
  (t:(bits BinOp.and IntKind.u32 (c:Int) 1 == 1)=false):(c:Int) / 2=(Px.crcBits (k+1) s:Nat):=by
 have hl:=crcBits_lt k s h;subst hc;rw[and1 _ hl] at t
 have:¬ Px.crcBits k s % 2=1:=by simp at t;omega
 show _=((Px.crcBit (Px.crcBits k s):Nat):Int)
 unfold Px.crcBit;rw[if_neg this];omega
theorem xor_lt32 (s b:Nat) (hs:s<4294967296) (hb:b<256):s ^^^ b<4294967296:=Nat.xor_lt_two_pow (n:=32) (by omega) (by omega)
theorem crcAdd_lt (s b:Nat) (hs:s<4294967296) (hb:b<256):Px.crcAdd s b<4294967296:=crcBits_lt _ _ (xor_lt32 s b hs hb)
theorem crcAdd_any (s b:Nat) (w:World) (hs:s<4294967296) (hb:b<256) :
  Calls Tryz.prog 82 #[.int .u32 (s:Int),.int .u8 (b:Int)] w fun e w'=>e = .returned (.int .u32 (Px.crcAdd s b:Nat))/\w'=w:=by
 have hx:=xor_lt32 s b hs hb;go_enter Tryz.func82,Tryz.ntmps82;go_wp2;go_loop [0,5] (fun c i=>∃ k:Nat,k<=8/\i = .int .i64 k/\c = .int .u32 (Px.crcBits k (s ^^^ b):Nat)) (fun _ i=>8 - (intOf i).toNat)
 case atStart=>exact ⟨0,by omega,rfl,val_int (by rw[u32_xor_nat s b hs (by omega)];rfl)⟩
 case round=>
  obtain ⟨k,hk,rfl,rfl⟩:=hrel;go_wp2
  ·exact ⟨⟨k+1,by omega,by go_num,val_int (crc_step k _ hx _ rfl ‹_›)⟩,by simp [intOf];omega⟩
  ·exact ⟨⟨k+1,by omega,by go_num,val_int (crc_step' k _ hx _ rfl ‹_›)⟩,by simp [intOf];omega⟩
  ·go_ret
   exact ⟨ret_int (by rw[show k=8 from by omega];rfl),rfl⟩
theorem crcEnd_any (s:Nat) (w:World) (hs:s<4294967296) :
  Calls Tryz.prog 86 #[.int .u32 (s:Int)] w fun e w'=>e = .returned (.int .u32 (Px.crcEnd s:Nat))/\w'=w:=by
 go_enter Tryz.func86,Tryz.ntmps86;go_wp2;go_ret;exact ⟨ret_int (by
  have:=u32_xor_nat 4294967295 s (by omega) hs
  rw[show IntKind.u32.max=((4294967295:Nat):Int) from rfl,this,Nat.xor_comm];rfl),rfl⟩
theorem ors (a b c d:Nat) (ha:a<256) (hb:b<256) (hc:c<256) (hd:d<256) :
  bits BinOp.or IntKind.u32 (bits BinOp.or IntKind.u32 (bits BinOp.or IntKind.u32 ((a:Int)*16777216) ((b:Int)*65536)) ((c:Int)*256)) d=((((a*256+b)*256+c)*256+d:Nat):Int):=by
 rw[show (a:Int)*16777216=((a*16777216:Nat):Int) from by omega,show (b:Int)*65536=((b*65536:Nat):Int) from by omega,show (c:Int)*256=((c*256:Nat):Int) from by omega];rw[u32_or_nat _ _ (by omega) (by omega),nat_join 24 (a*16777216) (b*65536) (by omega) (by omega)];rw[u32_or_nat _ _ (by omega) (by omega),nat_join 16 (a*16777216+b*65536) (c*256) (by omega) (by omega)];rw[u32_or_nat _ _ (by omega) (by omega),nat_join 8 (a*16777216+b*65536+c*256) d (by omega) (by omega)];omega
theorem unumber_any (a b c d:Nat) (w:World) (ha:a<256) (hb:b<256) (hc:c<256) (hd:d<256) :
  Calls Tryz.prog 167 #[.int .u8 (a:Int),.int .u8 (b:Int),.int .u8 (c:Int),.int .u8 (d:Int)] w fun e w'=>e = .returned (.int .u32 ((((a*256+b)*256+c)*256+d:Nat):Int))/\w'=w:=by
 go_enter Tryz.func167,Tryz.ntmps167;go_wp2;go_ret;exact ⟨ret_int (ors a b c d ha hb hc hd),rfl⟩
def sideB (n:Nat):Bool:=decide (n≠0/\n<2147483648)
theorem uisSide_any (n:Nat) (w:World) :
  Calls Tryz.prog 168 #[.int .u32 (n:Int)] w fun e w'=>e = .returned (.bool (sideB n))/\w'=w:=by
 go_enter Tryz.func168,Tryz.ntmps168;go_wp2
 all_goals go_ret
 ·exact ⟨ret_bool (by unfold sideB;simp_all),rfl⟩
 ·exact ⟨ret_bool (by unfold sideB;rw[Bool.eq_iff_iff];simp;omega),rfl⟩
theorem pow_lt (D:Nat) (h:D<=16):2^D<=65536:=by
 have:=Nat.pow_le_pow_right (n:=2) (by omega) h;simpa using this
theorem pow_mod (D:Nat) (h:D<=16):(2:Int)^D % 4294967296=((2^D:Nat):Int):=by
 have:=pow_lt D h
 rw[show (2:Int)^D=((2^D:Nat):Int) from by simp];generalize 2^D=m at *;omega
theorem ulevels_any (W H D K L:Nat) (w:World) (h:D<=16) :
  Calls Tryz.prog 93 #[.agg #[.int .i64 W,.int .i64 H,.int .i64 D,.int .i64 K,.int .i64 L]] w fun e w'=>e = .returned (.int .u32 ((2^D:Nat):Int))/\w'=w.alloc (.cells #[.int .i64 W,.int .i64 H,.int .i64 D,.int .i64 K,.int .i64 L] 66):=by
 go_enter Tryz.func93,Tryz.ntmps93;go_wp2;go_ret;exact ⟨ret_int (pow_mod D h),rfl⟩
theorem kinds (k:Nat):k=0\/k=2\/k=3\/k=4\/k=6\/(k≠0/\k≠2/\k≠3/\k≠4/\k≠6):=by omega
theorem ufits_any (k d:Nat) (w:World) :
  Calls Tryz.prog 35 #[.int .i64 (k:Int),.int .i64 (d:Int)] w fun e w'=>e = .returned (.bool (Px.legB k d))/\w'=w:=by
 rcases kinds k with rfl | rfl | rfl | rfl | rfl | ⟨h0,h2,h3,h4,h6⟩
 case' inr.inr.inr.inr.inr=>
  have H:Hid (Px.legB k d=false):=by unfold Px.legB Hid;simp [*]
  have g0:((k:Int) == 0)=false:=beq_eq_false_iff_ne.2 (by omega);have g2:((k:Int) == 2)=false:=beq_eq_false_iff_ne.2 (by omega);have g3:((k:Int) == 3)=false:=beq_eq_false_iff_ne.2 (by omega);have g4:((k:Int) == 4)=false:=beq_eq_false_iff_ne.2 (by omega);have g6:((k:Int) == 6)=false:=beq_eq_false_iff_ne.2 (by omega);clear h0 h2 h3 h4 h6
 all_goals
  go_enter Tryz.func35,Tryz.ntmps35;go_wp2
  all_goals go_ret
  all_goals first | exact ⟨ret_bool (by rw[H.out]),rfl⟩ | exact ⟨ret_bool (by unfold Px.legB;rw[Bool.eq_iff_iff];simp;try omega),rfl⟩
