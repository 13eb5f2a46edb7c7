import Derived.Test.YtmbmecfodigciaaGreatDoorMo08
import Derived.Test.YtmbmecfodigciaaGreatDoorMo05
import Derived.Lib.SmallJoins
import Derived.Laws.BytesArg
import Derived.Test.YtmbmecfodigciaaGreatDoorMo14
import Derived.Test.YtmbmecfodigciaaGreatDoorMo15
import Derived.Test.YtmbmecfodigciaaGreatDoorMo12
set_option maxRecDepth 100000
set_option maxHeartbeats 6400000
namespace Go.Proofs.YtmbmecfodigciaaGreatDoor
open Go.RowKit
set_option linter.unusedSimpArgs false
set_option linter.unusedVariables false
theorem heap_alloc_at (w:World) (o:Obj) (n:Nat) (hn:n=w.heap.size):(w.alloc o).heap[n]? = some o:=by subst hn;exact heap_alloc_new w o
theorem count_any (L:Nat) (w:World) (h:L≤1) :
  Calls Tryz.prog 94 #[.int .i64 (L:Int)] w fun r w'=>r = .returned (.int .i64 ((if L=1 then 7 else 1:Nat):Int))∧w'=w:=by
 have:L=0∨L=1:=by omega
 rcases this with rfl | rfl
 all_goals
  go_enter Tryz.func94,Tryz.ntmps94
  go_wp2
  go_ret
  exact ⟨rfl,rfl⟩
def gridL:List Int:=[0,0,8,8,8,8,4,0,8,8,4,8,0,4,4,8,4,4,2,0,4,4,2,4,0,2,2,4,2,2,1,0,2,2,1,2,0,1,1,2,1,1]
def GridAt (w:World):Prop:=∀ j,j<42→w.cell? ⟨0,j,none⟩=some (.int .i64 (gridL.getD j 0))
theorem GridAt.kept {w w':World} (h:GridAt w) (k:Kept w w'):GridAt w':=fun j hj=>(k.cell (p:=⟨0,j,none⟩) (World.block_lt_of_cell? _ _ (h j hj))).trans (h j hj)
theorem GridAt.fr {S:Nat→Prop} {w w':World} (h:GridAt w) (k:Fr S w w') (h0:¬ S 0):GridAt w':=fun j hj=>(k.cell (World.block_lt_of_cell? _ _ (h j hj)) h0).trans (h j hj)
theorem zero263:Tryz.zeroCells142=#[.int .i64 0,.int .i64 0,.int .i64 0,.int .i64 0,.int .i64 0,.slice none 0 0,.int .i64 0]++Array.replicate 256 (.int .u8 0):=by kernel_rfl
theorem size263:(Tryz.zeroCells142).toList.length=263:=by rw[zero263,Array.toList_append,Array.toList_replicate,List.length_append,List.length_replicate];rfl
theorem lay_lines (W H D K L:Nat):∃ A:List Value,(((((Tryz.zeroCells142.toList.set 0 (.int .i64 (W:Int))).set 1 (.int .i64 (H:Int))).set 2 (.int .i64 (D:Int))).set 3 (.int .i64 (K:Int))).set 4 (.int .i64 (L:Int)))=A∧A.length=263∧A[0]? = some (.int .i64 (W:Int))∧A[1]? = some (.int .i64 (H:Int))∧A[2]? = some (.int .i64 (D:Int))∧A[3]? = some (.int .i64 (K:Int))∧A[4]? = some (.int .i64 (L:Int))∧A[5]? = some (.slice none 0 0)∧A[6]? = some (.int .i64 0)∧(∀ j,j<256→A[7+j]? = some (.int .u8 0))∧(∀ v ∈ A,v.oneCell'=true):=by
 have e:(((((Tryz.zeroCells142.toList.set 0 (.int .i64 (W:Int))).set 1 (.int .i64 (H:Int))).set 2 (.int .i64 (D:Int))).set 3 (.int .i64 (K:Int))).set 4 (.int .i64 (L:Int)))=[.int .i64 (W:Int),.int .i64 (H:Int),.int .i64 (D:Int),.int .i64 (K:Int),.int .i64 (L:Int),.slice none 0 0,.int .i64 0]++List.replicate 256 (.int .u8 0):=by
  rw[zero263,Array.toList_append,Array.toList_replicate]
  rfl
 refine ⟨_,e,by rw[List.length_append,List.length_replicate];rfl,rfl,rfl,rfl,rfl,rfl,rfl,rfl,?_,?_⟩
 ·intro j hj
  rw[List.getElem?_append_right (by simp)]
  rw[show 7+j - [Value.int .i64 (W:Int),.int .i64 (H:Int),.int .i64 (D:Int),.int .i64 (K:Int),.int .i64 (L:Int),.slice none 0 0,.int .i64 0].length=j by simp,List.getElem?_replicate,if_pos hj]
 ·intro v hv
  rcases List.mem_append.1 hv with h | h
  ·simp at h
   rcases h with rfl | rfl | rfl | rfl | rfl | rfl | rfl<;>rfl
  ·rw[(List.mem_replicate.1 h).2];rfl
end Go.Proofs.YtmbmecfodigciaaGreatDoor
namespace Go.Proofs.YtmbmecfodigciaaGreatDoor
open Go.RowKit Px
set_option linter.unusedSimpArgs false
set_option linter.unusedVariables false
theorem in_pix (W H C i c k:Nat) (h1:i<H) (h2:c<W) (h3:k<C):((0+i*1)*W+(0+c*1))*C+k<W*H*C:=by
 have e1:(i+1)*W≤H*W:=Nat.mul_le_mul_right _ h1
 rw[Nat.add_mul,Nat.one_mul] at e1
 have e2:(i*W+c+1)*C≤H*W*C:=Nat.mul_le_mul_right _ (by omega)
 rw[Nat.add_mul _ 1,Nat.one_mul] at e2
 rw[Nat.mul_comm W H,Nat.zero_add,Nat.mul_one,Nat.zero_add,Nat.mul_one]
 omega
def RdStep (b o n:Nat) (c:Nat→Value) (s':Rd) (w w':World):Prop:=∃ d,Blk w' b n d∧RdV d o s'∧FrC b o (o+5954) c d∧Fr1 b w w'
theorem RdStep.refl {b o n:Nat} {c:Nat→Value} {s:Rd} {w:World} (hB:Blk w b n c) (hV:RdV c o s):RdStep b o n c s w w:=⟨c,hB,hV,FrC.refl _ _ _ _,Fr.refl _ _⟩
theorem RdStep.of_kept {b o n:Nat} {c:Nat→Value} {s:Rd} {w w':World} (hB:Blk w b n c) (hV:RdV c o s) (k:Kept w w'):RdStep b o n c s w w':=⟨c,hB.kept k,hV,FrC.refl _ _ _ _,Fr.of_kept k⟩
theorem RdStep.next {b o n:Nat} {c d:Nat→Value} {s:Rd} {w w1 w':World} (hC:FrC b o (o+5954) c d) (hF:Fr1 b w w1) (k:RdStep b o n d s w1 w'):RdStep b o n c s w w':=by
 obtain ⟨e,h1,h2,h4,h5⟩:=k
 exact ⟨e,h1,h2,hC.trans h4,hF.trans h5⟩
def Rd.enter (s:Rd) (p:Nat):Rd:={ s with part:=p,taken:=0,number:=0 }
theorem renter_x (b o n p:Nat) (c:Nat→Value) (s:Rd) (w:World) (hB:Blk w b n c) (hV:RdV c o s) (hn:o+5954≤n) :
  Calls Tryz.prog 79 #[.pointer (some ⟨b,o,none⟩),.int .i64 (p:Int)] w fun e w'=>e = .returned (.tuple #[])∧RdStep b o n c (s.enter p) w w':=by
 have k0:=hB.at (i:=o) (by omega) hV.part
 have k1:=hB.at (i:=o+1) (by omega) hV.taken
 have k2:=hB.at (i:=o+2) (by omega) hV.number
 have z:=hB.fz
 have HB:Hid (Blk w b n c):=hB
 have HV:Hid (RdV c o s):=hV
 clear hB hV
 go_enter Tryz.func79,Tryz.ntmps79
 go_wp2
 go_end0
 exact ⟨rfl,_,((HB.out.set (k:=o) (by omega) _).set (k:=o+1) (by omega) _).set (k:=o+2) (by omega) _,((HV.out.set_part p).set_taken 0).set_number 0,((FrC.upd _ (by omega) (by omega)).trans (FrC.upd _ (by omega) (by omega))).trans (FrC.upd _ (by omega) (by omega)),Fr1.set (Fr1.set (Fr1.set (Fr.refl _ _) _ _) _ _) _ _⟩
def Rd.num (s:Rd) (x:Nat):Rd:={ s with number:=s.number*256+x,taken:=s.taken+1 }
theorem u32_or8 (m x:Nat) (hm:m<16777216) (hx:x<256):bits .or .u32 ((m:Int)*256) (x:Int)=((m*256+x:Nat):Int):=by
 rw[show (m:Int)*256=((m*256:Nat):Int) from by omega,u32_or_nat _ _ (by omega) (by omega),nat_join 8 (m*256) x (by omega) (by omega)]
theorem rnum_x (b o n x:Nat) (c:Nat→Value) (s:Rd) (w:World) (hB:Blk w b n c) (hV:RdV c o s) (hn:o+5954≤n) (ht:s.taken<1000) (hm:s.number<16777216) (hx:x<256) :
  Calls Tryz.prog 80 #[.pointer (some ⟨b,o,none⟩),.int .u8 (x:Int)] w fun e w'=>e = .returned (.bool (decide (s.taken+1=4)))∧RdStep b o n c (s.num x) w w':=by
 have k1:=hB.at (i:=o+1) (by omega) hV.taken
 have k2:=hB.at (i:=o+2) (by omega) hV.number
 have z:=hB.fz
 have eo:=u32_or8 s.number x hm hx
 have HB:Hid (Blk w b n c):=hB
 have HV:Hid (RdV c o s):=hV
 obtain ⟨N,hN⟩:∃ N,N=s.number*256+x:=⟨_,rfl⟩
 obtain ⟨T,hT⟩:∃ T,T=s.taken+1:=⟨_,rfl⟩
 have eT:(s.taken:Int)+1=(T:Int):=by omega
 rw[← hN] at eo
 have HE:Hid (s.num x={ s with number:=N,taken:=T }):=by show s.num x=_;unfold Rd.num;rw[hN,hT]
 rw[← hT]
 have hT2:T≤1000:=by omega
 clear hB hV hN hT
 go_enter Tryz.func80,Tryz.ntmps80
 go_wp2
 go_ret
 refine ⟨ret_bool (by rw[Bool.eq_iff_iff,beq_iff_eq,decide_eq_true_iff];omega),?_⟩
 rw[HE.out]
 exact ⟨_,(HB.out.set (k:=o+2) (by omega) _).set (k:=o+1) (by omega) _,(HV.out.set_number N).set_taken T,(FrC.upd _ (by omega) (by omega)).trans (FrC.upd _ (by omega) (by omega)),Fr1.set (Fr1.set (Fr.refl _ _) _ _) _ _⟩
theorem signB_eq:∀ (i:Nat) (h:i<8) (h':i<(ByteArray.mk #[137,80,78,71,13,10,26,10]).size),((ByteArray.mk #[137,80,78,71,13,10,26,10])[i]'h').toNat=signB i
 | 0,_,_=>rfl
 | 1,_,_=>rfl
 | 2,_,_=>rfl
 | 3,_,_=>rfl
 | 4,_,_=>rfl
 | 5,_,_=>rfl
 | 6,_,_=>rfl
 | 7,_,_=>rfl
def Rd.takeSign (s:Rd) (x:Nat):Rd × Nat:=
 if 8≤s.taken∨x≠signB s.taken then (s,1)
 else if s.taken+1=8 then (({ s with taken:=s.taken+1 }:Rd).enter 1,0) else ({ s with taken:=s.taken+1 },0)
theorem takeSign_x (b o n x:Nat) (c:Nat→Value) (s:Rd) (w:World) (hB:Blk w b n c) (hV:RdV c o s) (hn:o+5954≤n) (ht:s.taken<1000) (hx:x<256) :
  Calls Tryz.prog 51 #[.pointer (some ⟨b,o,none⟩),.int .u8 (x:Int)] w fun e w'=>e = .returned (.int .i64 ((s.takeSign x).2:Int))∧RdStep b o n c (s.takeSign x).1 w w':=by
 have k1:=hB.at (i:=o+1) (by omega) hV.taken
 have z:=hB.fz
 have HB:Hid (Blk w b n c):=hB
 have HV:Hid (RdV c o s):=hV
 have HE:Hid (s.takeSign x=if 8≤s.taken∨x≠signB s.taken then (s,1) else if s.taken+1=8 then (({ s with taken:=s.taken+1 }:Rd).enter 1,0) else ({ s with taken:=s.taken+1 },0)):=rfl
 clear hB hV
 by_cases h8:8≤s.taken
 ·have h8':(8:Int)≤(s.taken:Int):=by omega
  go_enter Tryz.func51,Tryz.ntmps51
  go_wp2
  go_ret
  rw[HE.out,if_pos (Or.inl h8)]
  exact ⟨rfl,RdStep.refl HB.out HV.out⟩
 ·have h8':¬ (8:Int)≤(s.taken:Int):=by omega
  have H8:Hid (s.taken<8):=by show s.taken<8;omega
  obtain ⟨T,hT⟩:∃ T,T=s.taken+1:=⟨_,rfl⟩
  have eT:(s.taken:Int)+1=(T:Int):=by omega
  rw[← hT] at HE
  have hT8:T≤8:=by omega
  replace hT:Hid _:=hT
  have C1:Hid (FrC b o (o+5954) c (upd c (o+1) (.int .u32 (T:Int)))):=FrC.upd _ (by omega) (by omega)
  go_enter Tryz.func51,Tryz.ntmps51
  go_wp2_with fail
  ·go_ret
   rename_i hq
   have hb:=signB_eq s.taken H8.out (by show _<8;exact H8.out)
   rw[bne_iff_ne,hb] at hq
   rw[HE.out,if_pos (Or.inr (by omega))]
   exact ⟨rfl,RdStep.refl HB.out HV.out⟩
  ·refine (renter_x b o n 1 _ { s with taken:=T } _ (HB.out.set (by omega) _) (HV.out.set_taken T) hn).mono ?_
   rintro e w1 ⟨rfl,h1⟩
   go_wp2_with fail
   go_ret
   rename_i hq hr
   have hb:=signB_eq s.taken H8.out (by show _<8;exact H8.out)
   rw[bne_eq_false_iff_eq,hb] at hq
   rw[beq_iff_eq] at hr
   rw[HE.out,if_neg (by have:=H8.out;omega),if_pos (by omega)]
   exact ⟨rfl,RdStep.next C1.out (Fr1.set (Fr.refl _ _) _ _) h1⟩
  ·go_ret
   rename_i hq hr
   have hb:=signB_eq s.taken H8.out (by show _<8;exact H8.out)
   rw[bne_eq_false_iff_eq,hb] at hq
   rw[beq_eq_false_iff_ne] at hr
   rw[HE.out,if_neg (by have:=H8.out;omega),if_neg (by omega)]
   exact ⟨rfl,_,HB.out.set (by omega) _,HV.out.set_taken T,C1.out,Fr1.set (Fr.refl _ _) _ _⟩
theorem crcStart_int:((crcStart:Nat):Int)=4294967295:=by unfold crcStart;rfl
def Rd.takeLength (s:Rd) (x:Nat):Rd × Nat:=
 if s.taken+1≠4 then (s.num x,0)
 else if 2147483648≤s.number*256+x then (s.num x,2)
 else (({ s.num x with length:=s.number*256+x,sum:=crcStart }:Rd).enter 2,0)
theorem takeLength_x (b o n x:Nat) (c:Nat→Value) (s:Rd) (w:World) (hB:Blk w b n c) (hV:RdV c o s) (hn:o+5954≤n) (ht:s.taken<1000) (hm:s.number<16777216) (hx:x<256) :
  Calls Tryz.prog 52 #[.pointer (some ⟨b,o,none⟩),.int .u8 (x:Int)] w fun e w'=>e = .returned (.int .i64 ((s.takeLength x).2:Int))∧RdStep b o n c (s.takeLength x).1 w w':=by
 have FN:Hid (Calls Tryz.prog 80 #[.pointer (some ⟨b,o,none⟩),.int .u8 (x:Int)] w fun e w'=>e = .returned (.bool (decide (s.taken+1=4)))∧RdStep b o n c (s.num x) w w'):=rnum_x b o n x c s w hB hV hn ht hm hx
 have HE:Hid (s.takeLength x=if s.taken+1≠4 then (s.num x,0) else if 2147483648≤s.number*256+x then (s.num x,2) else (({ s.num x with length:=s.number*256+x,sum:=crcStart }:Rd).enter 2,0)):=rfl
 obtain ⟨N,hN⟩:∃ N,N=s.number*256+x:=⟨_,rfl⟩
 have HN:Hid ((s.num x).number=N):=hN.symm
 rw[← hN] at HE
 have hN2:N<4294967296:=by omega
 obtain ⟨q,hq⟩:∃ q,q=s.num x:=⟨_,rfl⟩
 rw[← hq] at FN HE HN
 clear hB hV hN hq
 by_cases h4:s.taken+1=4
 ·rw[decide_eq_true h4] at FN
  have HE2:Hid (s.takeLength x=if 2147483648≤N then (q,2) else (({ q with length:=N,sum:=crcStart }:Rd).enter 2,0)):=by show s.takeLength x=_;rw[HE.out,if_neg (fun k=>k h4)]
  clear HE h4
  go_enter Tryz.func52,Tryz.ntmps52
  go_wp2_with fail
  refine FN.out.mono ?_
  rintro e w1 ⟨rfl,d,hB1,hV1,hC1,hF1⟩
  have k2:=hB1.at (i:=o+2) (by omega) hV1.number
  have k3:=hB1.at (i:=o+3) (by omega) hV1.length
  have k5:=hB1.at (i:=o+5) (by omega) hV1.sum
  have z:=hB1.fz
  rw[HN.out] at k2
  have B1:Hid (Blk w1 b n d):=hB1
  have V1:Hid (RdV d o q):=hV1
  have C1:Hid (FrC b o (o+5954) c d):=hC1
  have F1:Hid (Fr1 b w w1):=hF1
  clear hB1 hV1 hC1 hF1 FN
  by_cases h:2147483648≤N
  ·have h':(2147483648:Int)≤(N:Int):=by omega
   go_wp2_with fail
   go_ret
   rw[HE2.out,if_pos h]
   exact ⟨rfl,d,B1.out,V1.out,C1.out,F1.out⟩
  ·have h':decide ((2147483648:Int)≤(N:Int))=false:=decide_eq_false (by omega)
   replace h:Hid _:=h
   replace hN2:Hid _:=hN2
   go_wp2_with fail
   have V2:RdV (upd (upd d (o+3) (.int .u32 (N:Int))) (o+5) (.int .u32 4294967295)) o { q with length:=N,sum:=crcStart }:=by
    have:=(V1.out.set_length N).set_sum crcStart
    rw[crcStart_int] at this
    exact this
   refine (renter_x b o n 2 _ { q with length:=N,sum:=crcStart } _ ((B1.out.set (k:=o+3) (by omega) (.int .u32 (N:Int))).set (k:=o+5) (by omega) (.int .u32 4294967295)) V2 hn).mono ?_
   rintro e w2 ⟨rfl,h2⟩
   go_wp2_with fail
   go_ret
   rw[HE2.out,if_neg h.out]
   exact ⟨rfl,RdStep.next ((C1.out.trans (FrC.upd _ (by omega) (by omega))).trans (FrC.upd _ (by omega) (by omega))) (Fr1.set (Fr1.set F1.out _ _) _ _) h2⟩
 ·rw[decide_eq_false h4] at FN
  have HE2:Hid (s.takeLength x=(q,0)):=by show s.takeLength x=_;rw[HE.out,if_pos h4]
  clear HE h4
  go_enter Tryz.func52,Tryz.ntmps52
  go_wp2_with fail
  refine FN.out.mono ?_
  rintro e w1 ⟨rfl,h1⟩
  go_wp2_with fail
  go_ret
  rw[HE2.out]
  exact ⟨rfl,h1⟩
def Rd.checkFirst (s:Rd):Nat:=if s.ctype≠ihdr then 4 else if s.length≠13 then 5 else 0
def Rd.checkData (s:Rd):Nat:=if s.dov || (decide (s.hd.K=3) && !s.sp) then 4 else 0
def Rd.checkEnd (s:Rd):Nat:=if s.sd=false then 4 else if s.length≠0 then 5 else 0
def Rd.checkAlphas (s:Rd):Nat:=if s.sp=false then 4 else if s.length<1∨s.tl.colours<s.length then 5 else 0
theorem checkFirst_x (b o n:Nat) (c:Nat→Value) (s:Rd) (w:World) (hB:Blk w b n c) (hV:RdV c o s) (hn:o+5954≤n) :
  Calls Tryz.prog 109 #[.pointer (some ⟨b,o,none⟩)] w fun e w'=>e = .returned (.int .i64 (s.checkFirst:Int))∧w'=w:=by
 have k4:=hB.at (i:=o+4) (by omega) hV.ctype
 have k3:=hB.at (i:=o+3) (by omega) hV.length
 have HE:Hid (s.checkFirst=if s.ctype≠ihdr then 4 else if s.length≠13 then 5 else 0):=rfl
 clear hB hV
 by_cases h1:s.ctype=ihdr
 ·rw[h1] at k4
  by_cases h2:s.length=13
  ·rw[h2] at k3
   have HE2:Hid (s.checkFirst=0):=by show s.checkFirst=0;rw[HE.out,if_neg (fun k=>k h1),if_neg (fun k=>k h2)]
   clear h1 h2 HE
   go_enter Tryz.func109,Tryz.ntmps109
   unfold ihdr at *
   go_wp2
   go_ret
   exact ⟨ret_int (by rw[HE2.out];rfl),rfl⟩
  ·have h2':((s.length:Int) != 13)=true:=by rw[bne_iff_ne];omega
   have HE2:Hid (s.checkFirst=5):=by show s.checkFirst=5;rw[HE.out,if_neg (fun k=>k h1),if_pos h2]
   clear h1 h2 HE
   go_enter Tryz.func109,Tryz.ntmps109
   unfold ihdr at *
   go_wp2
   go_ret
   exact ⟨ret_int (by rw[HE2.out];rfl),rfl⟩
 ·have h1':((s.ctype:Int) != 1229472850)=true:=by
   rw[bne_iff_ne];intro e;apply h1;unfold ihdr;omega
  have HE2:Hid (s.checkFirst=4):=by show s.checkFirst=4;rw[HE.out,if_pos h1]
  clear h1 HE
  go_enter Tryz.func109,Tryz.ntmps109
  go_wp2
  go_ret
  exact ⟨ret_int (by rw[HE2.out];rfl),rfl⟩
theorem checkData_x (b o n:Nat) (c:Nat→Value) (s:Rd) (w:World) (hB:Blk w b n c) (hV:RdV c o s) (hn:o+5954≤n) :
  Calls Tryz.prog 113 #[.pointer (some ⟨b,o,none⟩)] w fun e w'=>e = .returned (.int .i64 (s.checkData:Int))∧w'=w:=by
 have kd:=hB.at (i:=o+5953) (by omega) hV.dov
 have kk:=hB.at (i:=o+6+3) (by omega) hV.hd.K
 have kp:=hB.at (i:=o+5950) (by omega) hV.sp
 have HE:Hid (s.checkData=if s.dov || (decide (s.hd.K=3) && !s.sp) then 4 else 0):=rfl
 clear hB hV
 by_cases h3:s.hd.K=3
 ·rw[h3] at kk
  rw[decide_eq_true h3] at HE
  clear h3
  cases hd:s.dov<;>cases hp:s.sp
  all_goals
   rw[hd] at kd
   rw[hp] at kp
   rw[hd,hp] at HE
   clear hd hp
   go_enter Tryz.func113,Tryz.ntmps113
   go_wp2
   go_ret
   exact ⟨ret_int (by rw[HE.out];rfl),rfl⟩
 ·have h3':((s.hd.K:Int) == 3)=false:=by rw[beq_eq_false_iff_ne];omega
  rw[decide_eq_false h3] at HE
  clear h3
  cases hd:s.dov
  all_goals
   rw[hd] at kd
   rw[hd] at HE
   clear hd
   go_enter Tryz.func113,Tryz.ntmps113
   go_wp2
   go_ret
   exact ⟨ret_int (by rw[HE.out];rfl),rfl⟩
theorem checkEnd_x (b o n:Nat) (c:Nat→Value) (s:Rd) (w:World) (hB:Blk w b n c) (hV:RdV c o s) (hn:o+5954≤n) :
  Calls Tryz.prog 114 #[.pointer (some ⟨b,o,none⟩)] w fun e w'=>e = .returned (.int .i64 (s.checkEnd:Int))∧w'=w:=by
 have kd:=hB.at (i:=o+5952) (by omega) hV.sd
 have k3:=hB.at (i:=o+3) (by omega) hV.length
 have HE:Hid (s.checkEnd=if s.sd=false then 4 else if s.length≠0 then 5 else 0):=rfl
 clear hB hV
 cases hd:s.sd
 ·rw[hd] at kd
  rw[hd] at HE
  clear hd
  go_enter Tryz.func114,Tryz.ntmps114
  go_wp2
  go_ret
  exact ⟨ret_int (by rw[HE.out];rfl),rfl⟩
 ·rw[hd] at kd
  rw[hd] at HE
  clear hd
  by_cases h:s.length=0
  ·have h':((s.length:Int) != 0)=false:=by rw[bne_eq_false_iff_eq];omega
   replace h:Hid _:=h
   go_enter Tryz.func114,Tryz.ntmps114
   go_wp2
   go_ret
   exact ⟨ret_int (by rw[HE.out,h.out];rfl),rfl⟩
  ·have h':((s.length:Int) != 0)=true:=by rw[bne_iff_ne];omega
   go_enter Tryz.func114,Tryz.ntmps114
   go_wp2
   go_ret
   exact ⟨ret_int (by rw[HE.out,if_neg (by simp),if_pos h];rfl),rfl⟩
theorem colours_x (b o n:Nat) (c:Nat→Value) (t:Tl) (w:World) (hB:Blk w b n c) (hV:TlV c o t) (hn:o+1026≤n) :
  Calls Tryz.prog 142 #[.pointer (some ⟨b,o,none⟩)] w fun e w'=>e = .returned (.int .i64 (t.colours:Int))∧w'=w:=by
 have k:=hB.at (i:=o+1024) (by omega) hV.colours
 clear hB hV
 go_enter Tryz.func142,Tryz.ntmps142
 go_wp2
 go_ret
 exact ⟨rfl,rfl⟩
theorem checkAlphas_x (b o n:Nat) (c:Nat→Value) (s:Rd) (w:World) (hB:Blk w b n c) (hV:RdV c o s) (hn:o+5954≤n) (hc:s.tl.colours≤256) :
  Calls Tryz.prog 139 #[.pointer (some ⟨b,o,none⟩)] w fun e w'=>e = .returned (.int .i64 (s.checkAlphas:Int))∧∃ q,w'=w.drewN q:=by
 have kp:=hB.at (i:=o+5950) (by omega) hV.sp
 have k3:=hB.at (i:=o+3) (by omega) hV.length
 have HE:Hid (s.checkAlphas=if s.sp=false then 4 else if s.length<1∨s.tl.colours<s.length then 5 else 0):=rfl
 have FC:Hid (∀ q,Calls Tryz.prog 142 #[.pointer (some ⟨b,o+24,none⟩)] (w.drewN q) fun e w'=>e = .returned (.int .i64 (s.tl.colours:Int))∧w'=w.drewN q):=fun q=>colours_x b (o+24) n c s.tl _ (hB.kept ((Kept.refl _).drewN q)) hV.tl (by omega)
 clear hB hV
 generalize s.tl.colours=C at *
 have eC:IntKind.u32.wrap (C:Int)=(C:Int):=by rw[IntKind.wrap_u32];omega
 cases hp:s.sp
 ·rw[hp] at kp
  rw[hp] at HE
  clear hp
  go_enter Tryz.func139,Tryz.ntmps139
  go_wp2
  go_ret
  exact ⟨ret_int (by rw[HE.out];rfl),0,rfl⟩
 ·rw[hp] at kp
  rw[hp] at HE
  clear hp
  have HE1:Hid (s.checkAlphas=if s.length<1∨C<s.length then 5 else 0):=by show s.checkAlphas=_;rw[HE.out,if_neg (by simp)]
  clear HE
  by_cases h1:s.length<1
  ·have h1':(s.length:Int)<1:=by omega
   go_enter Tryz.func139,Tryz.ntmps139
   go_wp2_with fail
   go_quiet ((go_at_call 142;exact Calls.quiet_of_same (FC.out _)))
   go_wp2
   go_ret
   exact ⟨ret_int (by rw[HE1.out,if_pos (Or.inl h1)];rfl),_,rfl⟩
  ·have h1':¬ (s.length:Int)<1:=by omega
   by_cases h2:C<s.length
   ·have h2':(C:Int)<(s.length:Int):=by omega
    go_enter Tryz.func139,Tryz.ntmps139
    go_wp2_with fail
    go_quiet ((go_at_call 142;exact Calls.quiet_of_same (FC.out _)))
    go_wp2
    go_ret
    exact ⟨ret_int (by rw[HE1.out,if_pos (Or.inr h2)];rfl),_,rfl⟩
   ·have h2':¬ (C:Int)<(s.length:Int):=by omega
    go_enter Tryz.func139,Tryz.ntmps139
    go_wp2_with fail
    go_quiet ((go_at_call 142;exact Calls.quiet_of_same (FC.out _)))
    go_wp2
    go_ret
    exact ⟨ret_int (by rw[HE1.out,if_neg (fun k=>by omega)];rfl),_,rfl⟩
end Go.Proofs.YtmbmecfodigciaaGreatDoor
