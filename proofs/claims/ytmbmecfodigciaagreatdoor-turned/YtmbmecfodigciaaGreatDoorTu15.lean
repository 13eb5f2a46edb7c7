import Derived.Test.YtmbmecfodigciaaGreatDoorTu14
import Derived.Deep.RegionHeld3
import Derived.Test.YtmbmecfodigciaaGreatDoorTu01
import Derived.Lib.SmallJoins
import Derived.Laws.BytesArg
set_option maxRecDepth 100000
set_option maxHeartbeats 6400000
namespace Go.Proofs.YtmbmecfodigciaaGreatDoor
open Go.RowKit Px
set_option linter.unusedSimpArgs false
set_option linter.unusedVariables false
def chB (T:Nat) (l:List Int):List Int:=beB l.length++(beB T++(l++beB (crcEnd (crcI crcStart (beB T++l)))))
theorem chB_len (T:Nat) (l:List Int):(chB T l).length=l.length+12:=by
 unfold chB
 rw[List.length_append,List.length_append,List.length_append,beB_len,beB_len,beB_len];omega
theorem crcI_lt (s:Nat) (l:List Int) (h:s<4294967296) (hb:isBytes l):crcI s l<4294967296:=by
 unfold crcI
 induction l generalizing s with
 | nil=>exact h
 | cons x l ih=>
  have hx:=hb x (by simp)
  exact ih _ (crcAdd_lt _ _ h (by omega)) (fun y hy=>hb y (by simp [hy]))
theorem crcStart_i:Value.int .u32 4294967295=Value.int .u32 ((crcI crcStart []:Nat):Int):=rfl
theorem add_core_b (x N T:Nat) (L:List Int) (S:Nat->Prop) (v:Value) (l:List Int) (w:World) (h:∀ q:Nat,q<4294967296->Calls Tryz.prog 137 #[.pointer (some ⟨x,0,none⟩),.int .u32 (q:Int)] w fun r w'=>r = .returned (.tuple #[])/\PutB x N (L++beB q) S w w') (hm0:0<L.length) (hl:LAt w .u8 v l) (hB:isBytes l) (hpc:∀ n c,v = .slice none n c->c=0) (hS:∀ g,sliceBlock v=some g->¬ S g) (hm:L.length<=100000000) (hn:l.length<=1000000) (hT:T<4294967296) :
  Calls Tryz.prog 105 #[.pointer (some ⟨x,0,none⟩),.int .u32 (T:Int),v] w fun r w'=>r = .returned (.tuple #[])/\PutB x N (L++chB T l) S w w':=by
 obtain ⟨p,c,rfl⟩:=hl.form
 obtain ⟨m,hmL⟩:∃ m,L.length=m:=⟨_,rfl⟩
 obtain ⟨n,hnl⟩:∃ n,l.length=n:=⟨_,rfl⟩
 have F1:Hid (∀ (W:World) (K:List Int) (q:Nat),q<4294967296->K.length<=1000000000->WrB W x N K S->Calls Tryz.prog 137 #[.pointer (some ⟨x,0,none⟩),.int .u32 (q:Int)] W fun r w'=>r = .returned (.tuple #[])/\PutB x N (K++beB q) S W w'):=fun W K q hq hK hW=>num4_b x N q K W S hW hq hK
 have F2:Hid (∀ (W:World) (s b:Nat),s<4294967296->b<256->Calls Tryz.prog 81 #[.int .u32 (s:Int),.int .u8 (b:Int)] W fun r w'=>r = .returned (.int .u32 (crcAdd s b:Nat))/\w'=W):=fun W s b h0 h1=>crcAdd_any s b W h0 h1
 have F3:Hid (∀ (W:World) (s:Nat),s<4294967296->Calls Tryz.prog 85 #[.int .u32 (s:Int)] W fun r w'=>r = .returned (.int .u32 (crcEnd s:Nat))/\w'=W):=fun W s h0=>crcEnd_any s W h0
 have H0:Hid (∀ q:Nat,q<4294967296->Calls Tryz.prog 137 #[.pointer (some ⟨x,0,none⟩),.int .u32 (q:Int)] w fun r w'=>r = .returned (.tuple #[])/\PutB x N (L++beB q) S w w'):=h
 have HL:Hid (LAt w .u8 (.slice p l.length c) l):=hl
 have HS:Hid (∀ g,sliceBlock (.slice p l.length c)=some g->¬ S g):=hS
 have HB:Hid (isBytes l):=hB
 have HPC:Hid (p=none->c=0):=fun e=>hpc l.length c (by rw[e])
 rw[hnl] at HL HS hn ⊢
 rw[hmL] at hm hm0
 have hL1:Hid (L.length<=1000000000):=by show L.length<=1000000000;omega
 have hL2:Hid ((L++beB n).length=m+4):=by show (L++beB n).length=m+4;rw[List.length_append,hmL,beB_len]
 have hL3:Hid ((L++beB n++beB T).length=m+8):=by show (L++beB n++beB T).length=m+8;rw[List.length_append,List.length_append,hmL,beB_len,beB_len]
 have hL4:Hid ((L++beB n++beB T++l).length=m+8+n):=by show (L++beB n++beB T++l).length=m+8+n;rw[List.length_append,List.length_append,List.length_append,hmL,beB_len,beB_len,hnl]
 obtain ⟨K1,hK1⟩:∃ K1,K1=L++beB n:=⟨_,rfl⟩
 obtain ⟨K2,hK2⟩:∃ K2,K2=L++beB n++beB T:=⟨_,rfl⟩
 have HNL:Hid (l.length=n):=hnl
 have HDr:Hid ((L++beB n++beB T++l).drop (m+4)=beB T++l):=by
  show (L++beB n++beB T++l).drop (m+4)=beB T++l
  rw[List.append_assoc (L++beB n),List.drop_append_of_le_length (by rw[hL2.out];omega),List.drop_of_length_le (by rw[hL2.out];omega),List.nil_append]
 have HBa:Hid (isBytes (beB T++l)):=(beB_ok T).app hB
 have HE:Hid (L++chB T l=L++beB n++beB T++l++beB (crcEnd (crcI crcStart (beB T++l)))):=by
  show L++chB T l=_
  unfold chB
  rw[hnl]
  simp only [List.append_assoc]
 rw[<- hK2] at hL3 hL4 HDr HE
 rw[<- hK1] at hL2
 have HK1:Hid (K1=L++beB n):=hK1
 have HK2:Hid (K1++beB T=K2):=by show K1++beB T=K2;rw[hK1,hK2]
 clear h hl hS hB hpc hmL hnl hK1 hK2
 have n32:n<4294967296:=by omega
 go_enter Tryz.func105,Tryz.ntmps105
 go_wp2_with fail
 refine (H0.out n n32).mono ?_
 rintro r w1 ⟨rfl,hw1⟩
 rw[<- HK1.out] at hw1
 obtain ⟨ov1,c01,ho1,hs1⟩:=hw1.at'.out
 obtain ⟨p1,cc1,rfl⟩:=ho1.slice' hL2.out
 replace hw1:Hid (PutB x N K1 S w w1):=hw1
 clear ho1 hs1
 go_wp2_with fail
 refine (F1.out _ _ T hT (by rw[hL2.out];omega) hw1.out.at').mono ?_
 rintro r w2 ⟨rfl,hw2⟩
 rw[HK2.out] at hw2
 replace hw2:Hid (PutB x N K2 S w w2):=hw1.out.trans hw2
 obtain ⟨ov2,c02,ho2,hs2⟩:=hw2.out.at'.out
 obtain ⟨p2,cc2,rfl⟩:=ho2.slice' hL3.out
 have hf2:=hw2.out.at'.fz 0
 have hN2:=hw2.out.at'.size
 have hlt:=hw2.out.at'.lt
 have hne:¬ (Value.slice p2 (m+8) cc2).ownBlock=some x:=fun e=>by have:=ho2.ge x e;omega
 have hxs:x<w2.heap.size:=by omega
 have HO2:Hid (OwnB w2 N (.slice p2 (m+8) cc2) K2):=ho2
 replace hs2:Hid _:=hs2
 clear hw1 c01 ho2
 have HL2:Hid (LAt w2 .u8 (.slice p n c) l):=HL.out.fr hw2.out.fr HS.out
 clear HL
 have HX:Hid (Value.slice p n c = .slice p l.length c):=by show Value.slice p n c = .slice p l.length c;rw[HNL.out]
 go_wp2_with (at_builtin;refine appendBA _ rfl _ _ rfl N (.slice p2 (m+8) cc2) K2 rfl HO2.out (by rw[hL3.out];omega) p c l HX.out (by rw[<- HX.out];exact HL2.out) HB.out HPC.out (by rw[hL3.out,HNL.out];omega) (by omega) ?_)
 intro v' w3 ho3 hf3 hn3
 obtain ⟨p3,c3,rfl⟩:=ho3.slice' hL4.out
 have k0:=(hf3.cell (k:=0) hxs hne).trans c02
 have g0:=(hf3.frozen (k:=0) hxs hne).trans hf2
 have HP3:Hid (PutB x N (K2++l) S w (w3.setCell ⟨x,0,none⟩ (.slice p3 (m+8+n) c3))):=by
  have hse:(w3.setCell ⟨x,0,none⟩ (Value.slice p3 (m+8+n) c3)).heap.size=w3.heap.size:=by simp [World.setCell]
  have hA:=hw2.out.at'
  have hz:=hf3.size
  refine ⟨⟨hlt,by rw[hse];omega,fun k=>by rw[World.frozen?_setCell];exact (hf3.frozen hxs hne).trans (hA.fz k),hA.sx,fun g hg=>hA.new g (by rw[hse] at hg;omega),⟨_,cell_set_same k0 _,ho3.set hlt _ _,?_⟩⟩,?_⟩
  ·intro g hg
   rcases hn3 g hg with h | h
   ·exact hs2.out g h
   ·exact hA.new g h
  ·exact (hw2.out.fr.trans (hf3.mono (fun i _ e=>hs2.out i e))).setCell (Or.inl hA.sx) _ _
 have kk:=cell_set_same k0 (.slice p3 (m+8+n) c3)
 clear hf3 ho3 hn3 HL2 hw2 hs2 HO2 HX
 go_wp2_with fail
 generalize w3.setCell ⟨x,0,none⟩ (.slice p3 (m+8+n) c3)=w4 at *
 obtain ⟨LL,hLL⟩:∃ LL,LL=K2++l:=⟨_,rfl⟩
 rw[<- hLL] at HP3 hL4 HDr HE
 clear hLL
 go_loopg [7,8] (n+4) (fun mm u v W=>∃ k:Nat,mm=m+8+n - k/\m+4<=k/\k<=m+8+n/\v = .int .i64 (k:Int)/\u = .int .u32 (crcI crcStart ((LL.drop (m+4)).take (k - (m+4))):Nat)/\Kept w4 W)
 case atStart=>exact ⟨m+4,by omega,by omega,by omega,by go_num,by rw[Nat.sub_self,List.take_zero];exact crcStart_i,Kept.refl _⟩
 case round=>
  obtain ⟨k,hgk,hk0,hk1,rfl,rfl,hK⟩:=hrel
  replace hgk:Hid _:=hgk
  have hP:Hid (PutB x N LL S w wr):=HP3.out.kept hK
  have kw:wr.cell? ⟨x,0,none⟩=some (.slice p3 (m+8+n) c3):=(hK.cell (p:=⟨x,0,none⟩) (World.block_lt_of_cell? _ _ kk)).trans kk
  replace hK:Hid (Kept w4 wr):=hK
  clear kk HP3
  have hq1:crcI crcStart ((LL.drop (m+4)).take (k - (m+4)))<4294967296:=crcI_lt _ _ (by unfold crcStart;omega) (fun y hy=>by rw[HDr.out] at hy;exact HBa.out y (List.mem_of_mem_take hy))
  by_cases hlt2:k<m+8+n
  ·obtain ⟨ov,e0,ho,_⟩:=hP.out.at'.out
   rw[kw] at e0
   injection e0 with e0
   subst e0
   have hLat:=ho.lat
   have hLb:=ho.1
   obtain ⟨g,o,rfl,hc⟩:∃ g o,p3=some ⟨g,o,none⟩/\wr.cell? ⟨g,o+k,none⟩=some (.int .u8 (LL.getD k 0)):=by
    obtain ⟨g,o,c',e,hc⟩:=hLat.addr (by rw[hL4.out];omega)
    injection e with e _ _
    exact ⟨g,o,e,hc k (by rw[hL4.out];omega)⟩
   have hkL:k<LL.length:=by rw[hL4.out];omega
   have hb:=hLb _ (getD_mem hkL)
   obtain ⟨B,hBB⟩:∃ B:Nat,LL.getD k 0=(B:Int):=⟨(LL.getD k 0).toNat,by omega⟩
   have HNx:Hid (crcI crcStart ((LL.drop (m+4)).take (k+1 - (m+4)))=crcAdd (crcI crcStart ((LL.drop (m+4)).take (k - (m+4)))) B):=by
    show crcI crcStart ((LL.drop (m+4)).take (k+1 - (m+4)))=_
    rw[<- crcI_snoc]
    have hlt3:k - (m+4)<(LL.drop (m+4)).length:=by rw[List.length_drop,hL4.out];omega
    have hg:(LL.drop (m+4))[k - (m+4)]=(B:Int):=by
     rw[List.getElem_drop,<- hBB,List.getD_eq_getElem?_getD,List.getElem?_eq_getElem hkL]
     simp only [show m+4+(k - (m+4))=k from by omega,Option.getD_some]
    rw[show k+1 - (m+4)=(k - (m+4))+1 from by omega,List.take_succ_eq_append_getElem hlt3,hg]
   rw[hBB] at hc hb
   have hb1:B<256:=by omega
   clear hb ho hLb hLat hBB
   replace hkL:Hid _:=hkL
   have hlt':(k:Int)<(m:Int)+8+(n:Int):=by omega
   have hk00:(0:Int)<=(k:Int):=by omega
   obtain ⟨q,hq⟩:∃ q,q=crcI crcStart ((LL.drop (m+4)).take (k - (m+4))):=⟨_,rfl⟩
   rw[<- hq] at HNx hq1 ⊢
   clear hq
   go_wp2_with fail
   refine (F2.out _ q B hq1 hb1).mono ?_
   rintro r w5 ⟨rfl,hw5⟩
   subst w5
   go_wp2_with fail
   go_roundg (m+8+n - (k+1))
   case measure=>rw[hgk.out];omega
   case rel=>exact ⟨k+1,rfl,by omega,by omega,by go_num,by rw[HNx.out],hK.out⟩
  ·have hlt':¬ (k:Int)<(m:Int)+8+(n:Int):=by omega
   have hke:k=m+8+n:=by omega
   have HQ:Hid (crcI crcStart ((LL.drop (m+4)).take (k - (m+4)))=crcI crcStart (beB T++l)):=by
    show crcI crcStart ((LL.drop (m+4)).take (k - (m+4)))=_
    rw[List.take_of_length_le (by rw[List.length_drop,hL4.out];omega),HDr.out]
   obtain ⟨q,hq⟩:∃ q,q=crcI crcStart ((LL.drop (m+4)).take (k - (m+4))):=⟨_,rfl⟩
   rw[<- hq] at HQ hq1 ⊢
   clear hq
   replace hke:Hid _:=hke
   have hq5:crcEnd q<4294967296:=by unfold crcEnd;exact Nat.xor_lt_two_pow (n:=32) (by omega) (by omega)
   have HQ5:Hid (crcEnd q=crcEnd (crcI crcStart (beB T++l))):=by show crcEnd q=_;rw[HQ.out]
   have F3q:=F3.out wr q hq1
   generalize crcEnd q=q5 at *
   replace F3q:Hid (Calls Tryz.prog 85 #[.int .u32 (q:Int)] wr fun r w'=>r = .returned (.int .u32 (q5:Int))/\w'=wr):=F3q
   go_wp2_with fail
   refine F3q.out.mono ?_
   rintro r w5 ⟨rfl,hw5⟩
   subst w5
   go_wp2_with fail
   refine (F1.out _ LL q5 hq5 (by rw[hL4.out];omega) hP.out.at').mono ?_
   rintro r w6 ⟨rfl,hw6⟩
   have HP6:Hid (PutB x N (L++chB T l) S w w6):=by
    rw[HE.out,<- HQ5.out];exact hP.out.trans hw6
   go_wp2_with fail
   go_end0
   exact ⟨rfl,HP6.out⟩
theorem add_b (x N T:Nat) (L:List Int) (S:Nat->Prop) (v:Value) (l:List Int) (w:World) (h:WrB w x N L S) (hm0:0<L.length) (hl:LAt w .u8 v l) (hB:isBytes l) (hpc:∀ n c,v = .slice none n c->c=0) (hS:∀ g,sliceBlock v=some g->¬ S g) (hm:L.length<=100000000) (hn:l.length<=1000000) (hT:T<4294967296) :
  Calls Tryz.prog 105 #[.pointer (some ⟨x,0,none⟩),.int .u32 (T:Int),v] w fun r w'=>r = .returned (.tuple #[])/\PutB x N (L++chB T l) S w w' :=
 add_core_b x N T L S v l w (fun q hq=>num4_b x N q L w S h hq (by omega)) hm0 hl hB hpc hS hm hn hT
theorem palw_b (x N:Nat) (L:List Int) (S:Nat->Prop) (v:Value) (l:List Int) (w:World) (h:WrB w x N L S) (hm0:0<L.length) (hl:LAt w .u8 v l) (hB:isBytes l) (hpc:∀ n c,v = .slice none n c->c=0) (hS:∀ g,sliceBlock v=some g->¬ S g) (hm:L.length<=100000000) (hn:l.length<=1000000) :
  Calls Tryz.prog 72 #[.pointer (some ⟨x,0,none⟩),v] w fun r w'=>r = .returned (.tuple #[])/\PutB x N (L++chB plte l) S w w':=by
 have F:=fun (T:Nat) (hT:T<4294967296)=>add_b x N T L S v l w h hm0 hl hB hpc hS hm hn hT
 have F1:Hid (Calls Tryz.prog 105 #[.pointer (some ⟨x,0,none⟩),.int .u32 1347179589,v] w fun r w'=>r = .returned (.tuple #[])/\PutB x N (L++chB plte l) S w w'):=F plte (by decide)
 clear F
 obtain ⟨p,c,rfl⟩:=hl.form
 clear h hl hB hpc hS
 go_enter Tryz.func72,Tryz.ntmps72
 go_wp2_with fail
 refine F1.out.mono ?_
 rintro r w1 ⟨rfl,hw1⟩
 go_wp2
 go_end0
 exact ⟨rfl,hw1⟩
theorem clrw_b (x N:Nat) (L:List Int) (S:Nat->Prop) (v:Value) (l:List Int) (w:World) (h:WrB w x N L S) (hm0:0<L.length) (hl:LAt w .u8 v l) (hB:isBytes l) (hpc:∀ n c,v = .slice none n c->c=0) (hS:∀ g,sliceBlock v=some g->¬ S g) (hm:L.length<=100000000) (hn:l.length<=1000000) :
  Calls Tryz.prog 74 #[.pointer (some ⟨x,0,none⟩),v] w fun r w'=>r = .returned (.tuple #[])/\PutB x N (L++chB trns l) S w w':=by
 have F:=fun (T:Nat) (hT:T<4294967296)=>add_b x N T L S v l w h hm0 hl hB hpc hS hm hn hT
 have F1:Hid (Calls Tryz.prog 105 #[.pointer (some ⟨x,0,none⟩),.int .u32 1951551059,v] w fun r w'=>r = .returned (.tuple #[])/\PutB x N (L++chB trns l) S w w'):=F trns (by decide)
 clear F
 obtain ⟨p,c,rfl⟩:=hl.form
 clear h hl hB hpc hS
 go_enter Tryz.func74,Tryz.ntmps74
 go_wp2_with fail
 refine F1.out.mono ?_
 rintro r w1 ⟨rfl,hw1⟩
 go_wp2
 go_end0
 exact ⟨rfl,hw1⟩
theorem dataw_b (x N:Nat) (L:List Int) (S:Nat->Prop) (v:Value) (l:List Int) (w:World) (h:WrB w x N L S) (hm0:0<L.length) (hl:LAt w .u8 v l) (hB:isBytes l) (hpc:∀ n c,v = .slice none n c->c=0) (hS:∀ g,sliceBlock v=some g->¬ S g) (hm:L.length<=100000000) (hn:l.length<=1000000) :
  Calls Tryz.prog 107 #[.pointer (some ⟨x,0,none⟩),v] w fun r w'=>r = .returned (.tuple #[])/\PutB x N (L++chB idat l) S w w':=by
 have F:=fun (T:Nat) (hT:T<4294967296)=>add_b x N T L S v l w h hm0 hl hB hpc hS hm hn hT
 have F1:Hid (Calls Tryz.prog 105 #[.pointer (some ⟨x,0,none⟩),.int .u32 1229209940,v] w fun r w'=>r = .returned (.tuple #[])/\PutB x N (L++chB idat l) S w w'):=F idat (by decide)
 clear F
 obtain ⟨p,c,rfl⟩:=hl.form
 clear h hl hB hpc hS
 go_enter Tryz.func107,Tryz.ntmps107
 go_wp2_with fail
 refine F1.out.mono ?_
 rintro r w1 ⟨rfl,hw1⟩
 go_wp2
 go_end0
 exact ⟨rfl,hw1⟩
theorem endw_b (x N:Nat) (L:List Int) (S:Nat->Prop) (w:World) (h:WrB w x N L S) (hm0:0<L.length) (hm:L.length<=100000000) :
  Calls Tryz.prog 77 #[.pointer (some ⟨x,0,none⟩)] w fun r w'=>r = .returned (.tuple #[])/\PutB x N (L++chB iend []) S w w':=by
 have F:=fun (T:Nat) (hT:T<4294967296)=>add_b x N T L S (.slice none 0 0) [] w h hm0 LAt.nil isBytes.nil (fun n c e=>by injection e with _ _ e;exact e.symm) (fun g hg=>by cases hg) hm (by simp) hT
 have F1:Hid (Calls Tryz.prog 105 #[.pointer (some ⟨x,0,none⟩),.int .u32 1229278788,(.slice none 0 0)] w fun r w'=>r = .returned (.tuple #[])/\PutB x N (L++chB iend []) S w w'):=F iend (by decide)
 clear F
 clear h
 go_enter Tryz.func77,Tryz.ntmps77
 go_wp2_with fail
 refine F1.out.mono ?_
 rintro r w1 ⟨rfl,hw1⟩
 go_wp2
 go_end0
 exact ⟨rfl,hw1⟩
end Go.Proofs.YtmbmecfodigciaaGreatDoor
namespace Go.Proofs.YtmbmecfodigciaaGreatDoor
open Go.RowKit
set_option linter.unusedSimpArgs false
set_option linter.unusedVariables false
theorem bcode_any (x i:Nat) (c z:Int) (w:World) (hi:i<288) (hc0:0<=c) (hc1:c<4294967296) (hz0:0<=z) (hz1:z<16) (h1:w.cell? ⟨x,3+i,none⟩=some (.int .u32 c)) (h2:w.cell? ⟨x,3+288+i,none⟩=some (.int .u8 z)) :
  Calls Tryz.prog 161 #[.pointer (some ⟨x,3,none⟩),.int .i64 (i:Int)] w fun r w'=>r = .returned (.tuple #[.int .u32 c,.int .u64 z])/\Kept w w':=by
 have i0:(0:Int)<=(i:Int):=by omega
 have i1:(i:Int)<288:=by omega
 go_enter Tryz.func161,Tryz.ntmps161
 go_wp2
 go_quiet (fail)
 go_wp2
 go_ret2
 exact ⟨rfl,(Kept.refl _).drewN _⟩
theorem zero288:Tryz.zeroCells149=Array.replicate 288 (.int .u8 0):=by kernel_rfl
theorem zero576:Tryz.zeroCells153=Array.replicate 288 (.int .u32 0)++Array.replicate 288 (.int .u8 0):=by kernel_rfl
theorem size576:(Tryz.prog.info? 153).map (·.size)=some 576:=by kernel_rfl
theorem get576 (j:Nat) (h:j<288):(Array.replicate 288 (Value.int .u32 0)++Array.replicate 288 (Value.int .u8 0))[j]? = some (.int .u32 0):=by
 rw[Array.getElem?_append_left (by simpa using h)];simp [h]
theorem get576' (j:Nat) (h:j<288):(Array.replicate 288 (Value.int .u32 0)++Array.replicate 288 (Value.int .u8 0))[288+j]? = some (.int .u8 0):=by
 rw[Array.getElem?_append_right (by simp)];simp [h]
theorem store_there {P:Program} {W:World} {b o:Nat} {cs:List Value} (h:W.there b o cs.length) (h1:∀ v ∈ cs,v.oneCell'=true):(storeCells ⟨b,o,none⟩ cs).run P W = .ok () (W.setCells b o cs):=by
 have:=run_storeCells_cells (P:=P) b o cs 0 W (fun j hj=>by rw[Nat.add_zero];exact (h j hj).1) (fun j hj=>by rw[Nat.add_zero];exact (h j hj).2) h1
 rw[Nat.add_zero] at this
 exact this
theorem turns_any (v:Value) (l:List Int) (k:Nat) (w:World) (hl:LAt w .i64 v l) (h0:0<l.length) (hn:l.length<=1048576) (hk:k<=4611686018427387904) :
  Calls Tryz.prog 100 #[v,.int .i64 (k:Int)] w fun r w'=>r = .returned (.int .i64 (l.getD (k % l.length) 0))/\Kept w w':=by
 obtain ⟨g,o,c,rfl,hc⟩:=hl.addr h0
 have hm:k % l.length<l.length:=Nat.mod_lt _ h0
 have hcw:=hc _ hm
 have e:(k:Int).tmod (l.length:Int)=((k % l.length:Nat):Int):=by rw[Int.tmod_eq_emod_of_nonneg (by omega)];exact Int.natCast_emod k l.length
 have e2:(k:Int) % (l.length:Int)=((k % l.length:Nat):Int):=(Int.natCast_emod k l.length).symm
 have i0:(0:Int)<=((k % l.length:Nat):Int):=by omega
 have i1:((k % l.length:Nat):Int)<(l.length:Int):=by omega
 have n0:¬ ((l.length:Int)=0):=by omega
 have n1:¬ (l.length=0):=by omega
 have b0:((l.length:Int) == 0)=false:=by rw[beq_eq_false_iff_ne];exact n0
 have b1:¬ ((k:Int)<0):=by omega
 clear hc hl
 generalize l.getD (k % l.length) 0=X at *
 generalize k % l.length=M at *
 go_enter Tryz.func100,Tryz.ntmps100
 go_wp2
 go_ret
 exact ⟨rfl,Kept.refl _⟩
theorem heap_alloc_at (w:World) (o:Obj) (n:Nat) (hn:n=w.heap.size):(w.alloc o).heap[n]? = some o:=by subst hn;exact heap_alloc_new w o
theorem lay_size (o:Nat):∀ (l:List Value) (n:Nat) (z:Array Value),(List.foldl (fun (cs:Array Value) (x:Value × Nat)=>cs.setIfInBounds (o+x.snd) x.fst) z (l.zipIdx n)).size=z.size
 | [],_,_=>rfl
 | v::r,n,z=>by rw[List.zipIdx_cons,List.foldl_cons,lay_size o r (n+1)];simp
theorem lay_out (o:Nat):∀ (l:List Value) (n:Nat) (z:Array Value) (j:Nat),(j<o+n\/o+n+l.length<=j)->(List.foldl (fun (cs:Array Value) (x:Value × Nat)=>cs.setIfInBounds (o+x.snd) x.fst) z (l.zipIdx n))[j]? = z[j]?
 | [],_,_,_,_=>rfl
 | v::r,n,z,j,h=>by
  rw[List.zipIdx_cons,List.foldl_cons,lay_out o r (n+1) _ j (by simp at h;omega)]
  rw[Array.getElem?_setIfInBounds_ne (by simp at h;show o+n≠j;omega)]
theorem lay_in (o:Nat):∀ (l:List Value) (n:Nat) (z:Array Value) (j:Nat) (hj:j<l.length),o+n+l.length<=z.size->(List.foldl (fun (cs:Array Value) (x:Value × Nat)=>cs.setIfInBounds (o+x.snd) x.fst) z (l.zipIdx n))[o+n+j]? = l[j]?
 | [],_,_,_,hj,_=>by simp at hj
 | v::r,n,z,j,hj,hz=>by
  rw[List.zipIdx_cons,List.foldl_cons]
  cases j with
  | zero=>
   rw[lay_out o r (n+1) _ _ (Or.inl (by omega))]
   simp at hz
   rw[Nat.add_zero,Array.getElem?_setIfInBounds_self_of_lt (by omega)]
   rfl
  | succ j=>
   have:=lay_in o r (n+1) (z.setIfInBounds (o+n) v) j (by simpa using hj) (by simp at hz ⊢;omega)
   rw[show o+n+(j+1)=o+(n+1)+j by omega,this]
   rfl
theorem setCells_size (b:Nat):∀ (vs:List Value) (o:Nat) (w:World),(w.setCells b o vs).heap.size=w.heap.size
 | [],_,_=>rfl
 | v::r,o,w=>by rw[World.setCells,setCells_size b r];simp [World.setCell]
theorem LAt.lt {w:World} {k:IntKind} {v:Value} {l:List Int} (h:LAt w k v l) (h0:0<l.length):∀ g,sliceBlock v=some g->g<w.heap.size:=by
 obtain ⟨g,o,c,rfl,hc⟩:=h.addr h0
 intro g' hg
 have:g=g':=by injection hg
 subst this
 exact World.block_lt_of_cell? _ _ (hc 0 h0)
theorem LAt.part {w:World} {k:IntKind} {g o c:Nat} {l:List Int} (h:LAt w k (.slice (some ⟨g,o,none⟩) l.length c) l) (a n c':Nat) (hn:a+n<=l.length):LAt w k (.slice (some ⟨g,o+a,none⟩) n c') ((l.drop a).take n):=by
 have hlen:((l.drop a).take n).length=n:=by simp;omega
 refine ⟨⟨some ⟨g,o+a,none⟩,c',by rw[hlen]⟩,?_⟩
 intro p c2 hv i hi
 rw[hlen] at hi
 injection hv with hp _ _
 refine ⟨g,o+a,hp.symm,?_⟩
 obtain ⟨g1,o1,e1,hc⟩:=h.cells _ _ rfl (a+i) (by omega)
 injection e1 with e1
 injection e1 with e1 e2
 subst e1;subst e2
 rw[show o+a+i=o+(a+i) by omega,hc]
 congr 2
 simp [List.getD_eq_getElem?_getD,List.getElem?_take,hi,List.getElem?_drop]
theorem isBytes.part {l:List Int} (h:isBytes l) (a n:Nat):isBytes ((l.drop a).take n):=fun x hx=>h x (List.mem_of_mem_drop (List.mem_of_mem_take hx))
def S0 (x N:Nat):Nat->Prop:=fun g=>g=x\/N<=g
def S1 (x N d:Nat):Nat->Prop:=fun g=>(g=x\/N<=g)/\g≠d
end Go.Proofs.YtmbmecfodigciaaGreatDoor
namespace Go.Proofs.YtmbmecfodigciaaGreatDoor
open Go.RowKit Px
set_option linter.unusedSimpArgs false
set_option linter.unusedVariables false
def signI:List Int:=[137,80,78,71,13,10,26,10]
theorem signI_len:signI.length=8:=rfl
theorem signI_ok:isBytes signI:=by
 intro y hy
 simp [signI] at hy
 rcases hy with rfl | rfl | rfl | rfl | rfl | rfl | rfl | rfl<;>omega
structure WrFB (W:World) (x N g:Nat) (S:Nat->Prop):Prop where
 lt:x<N
 size:N<=W.heap.size
 fz:∀ k,W.frozen? ⟨x,k,none⟩=false
 sx:S x
 new:∀ g,W.heap.size<=g->S g
 out:W.cell? ⟨x,0,none⟩=some (.slice (some ⟨g,0,none⟩) 8 8)
 gx:g≠x
 cl:∀ j,j<8->W.cell? ⟨g,j,none⟩=some (.int .u8 (signI.getD j 0))
theorem appendBF (w:World) {ops:Array Oper} {rest:List Oper} {o:Oper} {a:Act} {Q:Exit->Act->World->Prop}
  (hg:o.guard=none) (s x:Operand) (hop:o.op=Op.call { callee:=Callee.builtin Builtin.append,args:=#[s,x],argTypes:=#[56,56] })
  (N g n:Nat) (hs:a.eval s = .slice (some ⟨g,0,none⟩) n n) (ol:List Int) (hol:ol.length=n) (hob:isBytes ol) (hoc:∀ j,j<n->w.cell? ⟨g,j,none⟩=some (.int .u8 (ol.getD j 0)))
  (g2:Nat) (m c:Nat) (es:List Int) (hx:a.eval x = .slice (some ⟨g2,0,none⟩) m c) (hm:m=es.length) (h0:0<m) (hE:isBytes es) (hc:∀ j,j<m->w.cell? ⟨g2,0+j,none⟩=some (.int .u8 (es.getD j 0))) (hb:n+m<=1099511627776) (hbase:N<=w.heap.size)
  (hK:∀ v' w',OwnB w' N v' (ol++es)->Kept w w'->(∀ k,v'.ownBlock=some k->w.heap.size<=k)->wpList Tryz.prog ops Q rest (a.put o.dst v') w') :
  wpList Tryz.prog ops Q (o::rest) a w:=by
 subst hm
 obtain ⟨i0,hi,hz0,hz1,hz2⟩:=info_parts' infoU8
 have get8:∀ (L:List Int) (j:Nat) (u:Value),(u8s L)[j]? = some u->j<L.length/\u = .int .u8 (L.getD j 0):=by
  intro L j u hj
  have hlt:j<L.length:=by
   have:=(List.getElem?_eq_some_iff.1 hj).1
   simpa [u8s] using this
  refine ⟨hlt,?_⟩
  simp [u8s,List.getElem?_map,List.getElem?_eq_getElem hlt] at hj
  rw[<- hj]
  simp [List.getD_eq_getElem?_getD,List.getElem?_eq_getElem hlt]
 refine wpList_append_grows w hg s x 56 hop 5 i0 (.int .u8 0) 1 1 Tryz.underlying56 hi hz0 hz1 hz2 rfl (by omega) (some ⟨g,0,none⟩) n n (u8s ol) hs (fun e=>by cases e) (by simp [u8s,hol]) ?_ ⟨g2,0,none⟩ es.length c (u8s es) hx (by simp [u8s]) ?_ ?_ (by omega) (by unfold maxLen;omega) (by omega) ?_
 ·intro b hb j u hj
  cases hb
  obtain ⟨h1,rfl⟩:=get8 ol j u hj
  rw[Addr.add_mid,Nat.zero_add];exact hoc j (by omega)
 ·intro j u hj
  obtain ⟨h1,rfl⟩:=get8 es j u hj
  rw[Addr.add_mid];exact hc j h1
 ·intro u hu;simp [u8s] at hu;obtain ⟨y,_,rfl⟩:=hu;rfl
 ·intro v' w' h1 h2
  have h1':OwnB w' w.heap.size v' (ol++es):=⟨hob.app hE,by simpa [u8s,hol] using h1⟩
  exact hK v' w' ⟨h1'.1,own_base h1'.2 hbase⟩ ⟨h2.os,h2.tape,h2.output,h2.size,fun k hk=>h2.block k hk (by simp)⟩ h1'.ge
theorem num4_full_b (x N g n:Nat) (w:World) (S:Nat->Prop) (h:WrFB w x N g S) (hn1:n<4294967296) :
  Calls Tryz.prog 137 #[.pointer (some ⟨x,0,none⟩),.int .u32 (n:Int)] w fun r w'=>r = .returned (.tuple #[])/\PutB x N (signI++beB n) S w w':=by
 obtain ⟨hlt,hsz,hfz,hSx,hSn,h0,hgx,hoc⟩:=h
 have hfa:=hfz 0
 replace hfz:Hid (∀ k,w.frozen? ⟨x,k,none⟩=false):=hfz
 replace hSn:Hid (∀ g,w.heap.size<=g->S g):=hSn
 have hxs:x<w.heap.size:=by omega
 have HOC:Hid (∀ j,j<8->(w.alloc (Obj.cells #[Value.int IntKind.u8 ((n:Int) / 16777216),Value.int IntKind.u8 ((n:Int) / 65536 % 256),Value.int IntKind.u8 ((n:Int) / 256 % 256),Value.int IntKind.u8 ((n:Int) % 256)] 5)).cell? ⟨g,j,none⟩=some (.int .u8 (signI.getD j 0))):=by
  intro j hj
  rw[World.cell?_alloc_lt _ _ _ (World.block_lt_of_cell? w _ (hoc j hj))];exact hoc j hj
 clear hoc
 have HE:Hid (isBytes [(n:Int) / 16777216,(n:Int) / 65536 % 256,(n:Int) / 256 % 256,(n:Int) % 256]):=by
  intro y hy
  simp at hy
  rcases hy with rfl | rfl | rfl | rfl<;>omega
 have HC:Hid (∀ j,j<4->(w.alloc (Obj.cells #[Value.int IntKind.u8 ((n:Int) / 16777216),Value.int IntKind.u8 ((n:Int) / 65536 % 256),Value.int IntKind.u8 ((n:Int) / 256 % 256),Value.int IntKind.u8 ((n:Int) % 256)] 5)).cell? ⟨w.heap.size,0+j,none⟩=some (.int .u8 ([(n:Int) / 16777216,(n:Int) / 65536 % 256,(n:Int) / 256 % 256,(n:Int) % 256].getD j 0))):=by
  intro j hj
  rw[Nat.zero_add]
  rw[World.cell?_alloc_at _ _ _ _ rfl]
  have:j=0\/j=1\/j=2\/j=3:=by omega
  rcases this with rfl | rfl | rfl | rfl<;>rfl
 have EB:Hid _:=beB_int n hn1
 have hML4:Hid ((signI++beB n).length=8+4):=rfl
 go_enter Tryz.func137,Tryz.ntmps137
 go_wp2_with (at_builtin;refine appendBF _ rfl _ _ rfl N g 8 rfl signI signI_len signI_ok HOC.out w.heap.size 4 4 [(n:Int) / 16777216,(n:Int) / 65536 % 256,(n:Int) / 256 % 256,(n:Int) % 256] rfl rfl (by omega) HE.out HC.out (by omega) (by simp;omega) ?_)
 intro v' w2 ho2 hf2 hn2
 rw[EB.out] at ho2
 obtain ⟨p',c',rfl⟩:=ho2.slice' hML4.out
 have fk:Kept w w2:=Kept.trans (Below.alloc (Below.refl _ _) (Nat.le_refl _) _) hf2
 have k0:=(fk.cell (p:=⟨x,0,none⟩) hxs).trans h0
 have g0:=(fk.frozen (p:=⟨x,0,none⟩) hxs).trans hfa
 have HO2:Hid (OwnB w2 N (.slice p' (8+4) c') (signI++beB n)):=ho2
 have HF2:Hid (Fr S w w2):=Fr.of_kept fk
 have HN2:Hid (∀ k,(Value.slice p' (8+4) c').ownBlock=some k->S k):=fun k hk=>hSn.out k (by have:=hn2 k hk;first | omega | (simp at this;omega))
 have HG2:Hid (∀ k,w2.frozen? ⟨x,k,none⟩=false):=fun k=>(fk.frozen (p:=⟨x,k,none⟩) hxs).trans (hfz.out k)
 clear hf2 ho2 fk hn2
 go_wp2
 go_end0
 have hse:(w2.setCell ⟨x,0,none⟩ (Value.slice p' (8+4) c')).heap.size=w2.heap.size:=by simp [World.setCell]
 exact ⟨rfl,⟨hlt,by rw[hse];exact Nat.le_trans hsz HF2.out.size,fun k=>by rw[World.frozen?_setCell];exact HG2.out k,hSx,fun g hg=>hSn.out g (by rw[hse] at hg;have:=HF2.out.size;omega),⟨_,cell_set_same k0 _,HO2.out.set hlt _ _,HN2.out⟩⟩,HF2.out.setCell (Or.inl hSx) _ _⟩
theorem begin_b (w:World) :
  Calls Tryz.prog 70 #[] w fun r w'=>∃ g,r = .returned (.agg #[.slice (some ⟨g,0,none⟩) 8 8])/\w.heap.size<=g/\(∀ j,j<8->w'.cell? ⟨g,j,none⟩=some (.int .u8 (signI.getD j 0)))/\Kept w w':=by
 have kc:=fun (w:World) (C:Array Value) (n c g:Nat) (hg:g=w.heap.size)=>Joins.run_convert_bytes_const_at (P:=Tryz.prog) w 56 5 C n c g hg Tryz.underlying56 Tryz.underlying5
 go_enter Tryz.func70,Tryz.ntmps70
 have hi:(Tryz.prog.info? 122).map (·.size)=some 1:=by kernel_rfl
 go_wp2
 refine bodyPost_ret (v := .agg #[.slice (some ⟨w.heap.size+1,0,none⟩) 8 8]) (results_cell1 rfl _ _ w.heap.size 0 _ rfl ?_) rfl ?_
 ·refine run_loadVar_row _ _ 122 122 _ (0,0) _ ?_ Tryz.underlying122 rfl hi
  rw[heap_alloc_old _ _ (by simp)]
  exact heap_alloc_at _ _ _ rfl
 ·refine ⟨w.heap.size+1,rfl,by omega,?_,Below.alloc (Below.alloc (Below.refl _ _) (Nat.le_refl _) _) (by simp) _⟩
  ·intro j hj
   rw[Joins.cell_alloc_mark_at _ _ _ _ _ _ (by simp)]
   have:j=0\/j=1\/j=2\/j=3\/j=4\/j=5\/j=6\/j=7:=by omega
   rcases this with rfl | rfl | rfl | rfl | rfl | rfl | rfl | rfl<;>rfl
def hdI (W H D K L:Nat):List Int:=[0,0,0,(W:Int),0,0,0,(H:Int),(D:Int),(K:Int),0,0,(L:Int)]
theorem hdI_ok (W H D K L:Nat) (h1:W<=16) (h2:H<=16) (h3:D<=16) (h4:K<=6) (h5:L<=1):isBytes (hdI W H D K L):=by
 intro y hy
 simp only [hdI,List.mem_cons,List.not_mem_nil,or_false] at hy
 omega
theorem hdata_b (W H D K L:Nat) (w:World) (h1:W<=16) (h2:H<=16) (h3:D<=16) (h4:K<=6) (h5:L<=1) :
  Calls Tryz.prog 104 #[.agg #[.int .i64 (W:Int),.int .i64 (H:Int),.int .i64 (D:Int),.int .i64 (K:Int),.int .i64 (L:Int)]] w fun r w'=>r = .returned (.agg (u8s (hdI W H D K L)).toArray)/\Kept w w':=by
 have hi:(Tryz.prog.info? 72).map (·.size)=some 13:=by kernel_rfl
 go_enter Tryz.func104,Tryz.ntmps104
 go_wp2
 refine bodyPost_ret (v := .agg #[.int .u8 ((W:Int) / 16777216),.int .u8 ((W:Int) / 65536),.int .u8 ((W:Int) / 256),.int .u8 (W:Int),.int .u8 ((H:Int) / 16777216),.int .u8 ((H:Int) / 65536),.int .u8 ((H:Int) / 256),.int .u8 (H:Int),.int .u8 (D:Int),.int .u8 (K:Int),.int .u8 0,.int .u8 0,.int .u8 (L:Int)]) (results_cell1 rfl _ _ (w.heap.size+1) 0 _ rfl ?_) rfl ?_
 ·refine run_loadVar_row _ _ 72 72 _ (0,0) _ ?_ Tryz.underlying72 rfl hi
  exact heap_alloc_at _ _ _ (by simp)
 ·refine ⟨?_,Below.alloc (Below.alloc (Below.refl _ _) (Nat.le_refl _) _) (by simp) _⟩
  rw[show (W:Int) / 16777216=0 from by omega,show (W:Int) / 65536=0 from by omega,show (W:Int) / 256=0 from by omega,show (H:Int) / 16777216=0 from by omega,show (H:Int) / 65536=0 from by omega,show (H:Int) / 256=0 from by omega]
  rfl
theorem text_b (x N:Nat) (L:List Int) (S:Nat->Prop) (w:World) (h:WrB w x N L S) (hm0:0<L.length) (hm:L.length<=100000000) :
  Calls Tryz.prog 78 #[.pointer (some ⟨x,0,none⟩)] w fun r w'=>r = .returned (.string (strOfNums L))/\Kept w w':=by
 obtain ⟨hlt,hsz,hfz,sx,nw,ov,h0,h5,h6⟩:=h
 have hLat:=h5.lat
 obtain ⟨m,hmL⟩:∃ m,L.length=m:=⟨_,rfl⟩
 obtain ⟨g,o,c,rfl,hc⟩:=hLat.addr (by omega)
 have hcv:=run_convert_bytes_arg (P:=Tryz.prog) w 56 5 Tryz.underlying56 Tryz.underlying5 g o L.length c L rfl hc 9 Tryz.underlying9
 clear h5 h6 hLat hc
 rw[hmL] at hm0 hm h0 hcv
 replace hmL:Hid (L.length=m):=hmL
 obtain ⟨sL,hsL⟩:∃ s,s=strOfNums L:=⟨_,rfl⟩
 rw[<- hsL] at hcv ⊢
 clear hsL
 go_enter Tryz.func78,Tryz.ntmps78
 go_wp2
 go_ret
 exact ⟨rfl,Kept.refl _⟩
theorem PutB.widen {x N:Nat} {n:List Int} {S S':Nat->Prop} {w w':World} (h:PutB x N n S' w w') (hS:∀ g,S' g->S g) (hn:∀ g,w'.heap.size<=g->S g):PutB x N n S w w' :=
 ⟨h.at'.turn (fun g _ e=>hS g e) hn,h.fr.mono (fun g _ e=>hS g e)⟩
theorem WrFB.turn {W:World} {x N g:Nat} {S S':Nat->Prop} (h:WrFB W x N g S) (hx:S' x) (hn:∀ g,W.heap.size<=g->S' g):WrFB W x N g S':=⟨h.lt,h.size,h.fz,hx,hn,h.out,h.gx,h.cl⟩
theorem WrFB.kept {W W':World} {x N g:Nat} {S:Nat->Prop} (h:WrFB W x N g S) (k:Kept W W'):WrFB W' x N g S:=by
 obtain ⟨h1,h2,h3,sx,nw,o,gx,c⟩:=h
 have hx:x<W.heap.size:=by omega
 exact ⟨h1,Nat.le_trans h2 k.size,fun j=>(k.frozen (p:=⟨x,j,none⟩) hx).trans (h3 j),sx,fun g hg=>nw g (Nat.le_trans k.size hg),(k.cell (p:=⟨x,0,none⟩) hx).trans o,gx,fun j hj=>(k.cell (p:=⟨g,j,none⟩) (World.block_lt_of_cell? _ _ (c j hj))).trans (c j hj)⟩
theorem headC_b (x N g W H D K L:Nat) (w:World) (h:WrFB w x N g (S0 x N)) (h1:W<=16) (h2:H<=16) (h3:D<=16) (h4:K<=6) (h5:L<=1) :
  Calls Tryz.prog 71 #[.pointer (some ⟨x,0,none⟩),.agg #[.int .i64 (W:Int),.int .i64 (H:Int),.int .i64 (D:Int),.int .i64 (K:Int),.int .i64 (L:Int)]] w fun r w'=>r = .returned (.tuple #[])/\PutB x N (signI++chB ihdr (hdI W H D K L)) (S0 x N) w w':=by
 have F1:Hid (∀ W':World,Calls Tryz.prog 104 #[.agg #[.int .i64 (W:Int),.int .i64 (H:Int),.int .i64 (D:Int),.int .i64 (K:Int),.int .i64 (L:Int)]] W' fun r w'=>r = .returned (.agg (u8s (hdI W H D K L)).toArray)/\Kept W' w'):=fun W'=>hdata_b W H D K L W' h1 h2 h3 h4 h5
 have hk0:Hid (Kept w (w.alloc (Obj.cells #[.int .i64 (W:Int),.int .i64 (H:Int),.int .i64 (D:Int),.int .i64 (K:Int),.int .i64 (L:Int)] 71))):=Below.alloc (Below.refl _ _) (Nat.le_refl _) _
 have HDO:Hid (isBytes (hdI W H D K L)):=hdI_ok W H D K L h1 h2 h3 h4 h5
 have HDL:Hid ((hdI W H D K L).length=13):=rfl
 generalize hdI W H D K L=hd at *
 have H0:Hid (WrFB w x N g (S0 x N)):=h
 have hlt:=h.lt
 have hsz:=h.size
 clear h
 go_enter Tryz.func71,Tryz.ntmps71
 go_wp2_with fail
 generalize (w.alloc (Obj.cells #[.int .i64 (W:Int),.int .i64 (H:Int),.int .i64 (D:Int),.int .i64 (K:Int),.int .i64 (L:Int)] 71))=w0 at *
 refine (F1.out _).mono ?_
 rintro r w1 ⟨rfl,hk1⟩
 have hcl:(u8s hd).length=13:=by rw[<- HDL.out];simp [u8s]
 have hcz:∀ j,j<13->∃ z:Int,0<=z/\z<256/\(u8s hd)[j]? = some (.int .u8 z):=by
  intro j hj
  have hj':j<hd.length:=by rw[HDL.out];exact hj
  have:=HDO.out hd[j] (List.getElem_mem hj')
  exact ⟨hd[j],by omega,by omega,by simp [u8s,List.getElem?_map,List.getElem?_eq_getElem hj']⟩
 have hcE:Hid (∀ j,j<13->(u8s hd)[j]? = some (.int .u8 (hd.getD j 0))):=by
  intro j hj
  have hj':j<hd.length:=by rw[HDL.out];exact hj
  simp [u8s,List.getElem?_map,List.getElem?_eq_getElem hj',List.getD_eq_getElem?_getD]
 generalize u8s hd=cs at *
 have hone:Hid (∀ v ∈ cs,v.oneCell'=true):=ints_one hcl hcz
 have hT:Hid ((w1.alloc (Obj.cells #[Value.int .u8 0,.int .u8 0,.int .u8 0,.int .u8 0,.int .u8 0,.int .u8 0,.int .u8 0,.int .u8 0,.int .u8 0,.int .u8 0,.int .u8 0,.int .u8 0,.int .u8 0] 72)).there w1.heap.size 0 cs.length):=by
  intro j hj
  refine ⟨?_,World.frozen?_alloc_at _ _ _ _ rfl⟩
  rw[World.cell?_alloc_at _ _ _ _ rfl,Nat.zero_add]
  have:j<13:=by omega
  rw[Array.getElem?_eq_getElem (by simpa using this)];rfl
 have hsc:(storeCells ⟨w1.heap.size,0,none⟩ cs).run Tryz.prog (w1.alloc (Obj.cells #[Value.int .u8 0,.int .u8 0,.int .u8 0,.int .u8 0,.int .u8 0,.int .u8 0,.int .u8 0,.int .u8 0,.int .u8 0,.int .u8 0,.int .u8 0,.int .u8 0,.int .u8 0] 72)) = .ok () ((w1.alloc (Obj.cells #[Value.int .u8 0,.int .u8 0,.int .u8 0,.int .u8 0,.int .u8 0,.int .u8 0,.int .u8 0,.int .u8 0,.int .u8 0,.int .u8 0,.int .u8 0,.int .u8 0,.int .u8 0] 72)).setCells w1.heap.size 0 cs):=store_there hT.out hone.out
 have hr2:Hid (LAt ((w1.alloc (Obj.cells #[Value.int .u8 0,.int .u8 0,.int .u8 0,.int .u8 0,.int .u8 0,.int .u8 0,.int .u8 0,.int .u8 0,.int .u8 0,.int .u8 0,.int .u8 0,.int .u8 0,.int .u8 0] 72)).setCells w1.heap.size 0 cs) .u8 (.slice (some ⟨w1.heap.size,0,none⟩) 13 13) hd):=by
  refine ⟨⟨some ⟨w1.heap.size,0,none⟩,13,by rw[HDL.out]⟩,?_⟩
  intro p c hv i hi
  rw[HDL.out] at hi hv
  injection hv with hp _ _
  exact ⟨w1.heap.size,0,hp.symm,World.rangeAt_setCells_same _ _ _ _ hT.out i _ (hcE.out i hi)⟩
 have hk2:Hid (Kept w1 ((w1.alloc (Obj.cells #[Value.int .u8 0,.int .u8 0,.int .u8 0,.int .u8 0,.int .u8 0,.int .u8 0,.int .u8 0,.int .u8 0,.int .u8 0,.int .u8 0,.int .u8 0,.int .u8 0,.int .u8 0] 72)).setCells w1.heap.size 0 cs)):=Kept.setCells (Nat.le_refl _) _ _ (Below.alloc (Below.refl _ _) (Nat.le_refl _) _)
 have hsz2:Hid (((w1.alloc (Obj.cells #[Value.int .u8 0,.int .u8 0,.int .u8 0,.int .u8 0,.int .u8 0,.int .u8 0,.int .u8 0,.int .u8 0,.int .u8 0,.int .u8 0,.int .u8 0,.int .u8 0,.int .u8 0] 72)).setCells w1.heap.size 0 cs).heap.size=w1.heap.size+1):=by show _=_;rw[setCells_size];simp
 have HK:Hid (Kept w ((w1.alloc (Obj.cells #[Value.int .u8 0,.int .u8 0,.int .u8 0,.int .u8 0,.int .u8 0,.int .u8 0,.int .u8 0,.int .u8 0,.int .u8 0,.int .u8 0,.int .u8 0,.int .u8 0,.int .u8 0] 72)).setCells w1.heap.size 0 cs)):=(hk0.out.trans hk1).trans hk2.out
 have hsw:w.heap.size<=w1.heap.size:=(hk0.out.trans hk1).size
 clear hcz hT hone
 have hcl':=hcl
 go_wp2_with fail
 generalize (w1.alloc (Obj.cells #[Value.int .u8 0,.int .u8 0,.int .u8 0,.int .u8 0,.int .u8 0,.int .u8 0,.int .u8 0,.int .u8 0,.int .u8 0,.int .u8 0,.int .u8 0,.int .u8 0,.int .u8 0] 72)).setCells w1.heap.size 0 cs=w2 at *
 clear hsc
 have hla:=hr2.out
 have HF:WrFB w2 x N g (S1 x N w1.heap.size):=(H0.out.kept HK.out).turn ⟨Or.inl rfl,by omega⟩ (fun g' hg'=>⟨Or.inr (by rw[hsz2.out] at hg';omega),by rw[hsz2.out] at hg';omega⟩)
 have FA:=fun (T:Nat) (hT:T<4294967296)=>add_core_b x N T signI (S1 x N w1.heap.size) (.slice (some ⟨w1.heap.size,0,none⟩) 13 13) hd w2 (fun q h1=>num4_full_b x N g q w2 _ HF h1) (by decide) hla HDO.out (fun n c e=>by injection e with e _ _;cases e) (fun b hb e=>by
  have:w1.heap.size=b:=by injection hb
  exact e.2 this.symm) (by decide) (by rw[HDL.out];decide) hT
 replace FA:Hid _:=FA
 refine Calls.mono (FA.out ihdr ?_) ?_
 rotate_left
 ·rintro r w3 ⟨rfl,hw3⟩
  have H3:Hid (PutB x N (signI++chB ihdr hd) (S0 x N) w w3):=by
   have hz:=hw3.fr.size
   have hz2:=hsz2.out
   have:=hw3.widen (S:=S0 x N) (fun g e=>e.1) (fun g hg=>Or.inr (by omega))
   exact ⟨this.at',Fr.trans (Fr.of_kept HK.out) this.fr⟩
  go_wp2
  go_end0
  exact ⟨rfl,H3.out⟩
 ·decide
end Go.Proofs.YtmbmecfodigciaaGreatDoor
namespace Go.Proofs.YtmbmecfodigciaaGreatDoor
open Go.RowKit
set_option linter.unusedSimpArgs false
set_option linter.unusedVariables false
theorem made8 (n j:Nat) (h:j<n):(madeCells #[Value.int .u8 0] n).toList[j]? = some (.int .u8 0):=by
 simp [madeCells,h,Nat.mod_one]
end Go.Proofs.YtmbmecfodigciaaGreatDoor
namespace Go.Proofs.YtmbmecfodigciaaGreatDoor
open Go.RowKit Px
set_option linter.unusedSimpArgs false
set_option linter.unusedVariables false
structure MadeB (w w':World) (ov:Value) (L:List Int):Prop where
 ok:isBytes L
 lat:LAt w' .u8 ov L
 nn:∀ n c,ov = .slice none n c->c=0
 new:∀ g,sliceBlock ov=some g->w.heap.size<=g
 kept:Kept w w'
theorem singles_b (v:Value) (l:List Int) (w:World) (hl:LAt w .i64 v l) (hn:l.length<=65536) (hB:isBytes l) :
  Calls Tryz.prog 73 #[v] w fun r w'=>∃ ov:Value,r = .returned ov/\MadeB w w' ov l:=by
 obtain ⟨p,c,rfl⟩:=hl.form
 have HL:Hid (LAt w .i64 (.slice p l.length c) l):=hl
 have HB:Hid (isBytes l):=hB
 clear hl hB
 obtain ⟨i0,hi,hz0,hz1,hz2⟩:=info_parts' infoU8
 go_enter Tryz.func73,Tryz.ntmps73
 go_wp2_with (refine wpList_make_full _ rfl _ _ 56 rfl w.heap.size 5 i0 (.int .u8 0) 1 Tryz.underlying56 hi hz0 hz1 .i64 .i64 (l.length:Int) (l.length:Int) l.length rfl rfl rfl rfl (by rw[hz2];omega) (by unfold maxLen;omega) (Nat.le_refl _) ?_)
 intro w1 ho1 hg1
 have hK1:Hid (Kept w w1):=⟨hg1.os,hg1.tape,hg1.output,hg1.size,fun k hk=>hg1.block k hk (by simp)⟩
 have hF1:Hid (∀ k,w1.frozen? ⟨w.heap.size,k,none⟩=false):=by
  rcases ho1.2 with ⟨hv,h0⟩ | ⟨g,cap,cur,hv,hg,hh,r⟩
  ·cases hv
  ·injection hv with hv _ _
   injection hv with hv
   injection hv with hv _ _
   rw[<- hv] at hh
   exact fun k=>Joins.unfrozen_of_block hh k
 have hR1:Hid (∀ j,j<l.length->w1.cell? ⟨w.heap.size,j,none⟩=some (.int .u8 (if j<0 then l.getD j 0 else 0))):=by
  intro j hj
  have:=ho1.cells rfl j _ (made8 l.length j hj)
  rw[Addr.add_mid,Nat.zero_add] at this
  rw[if_neg (by omega)]
  exact this
 clear ho1 hg1
 go_wp2
 go_loopw [4] (fun v W=>∃ k:Nat,k<=l.length/\v = .int .i64 (k:Int)/\(∀ j,j<l.length->W.cell? ⟨w.heap.size,j,none⟩=some (.int .u8 (if j<k then l.getD j 0 else 0)))/\(∀ k,W.frozen? ⟨w.heap.size,k,none⟩=false)/\Kept w W) (fun v _=>l.length - (intOf v).toNat)
 case atStart=>exact ⟨0,by omega,rfl,hR1.out,hF1.out,hK1.out⟩
 case round=>
  obtain ⟨k,hk,rfl,hR,hF,hK⟩:=hrel
  clear hR1 hF1 hK1
  by_cases hlt:k<l.length
  ·obtain ⟨g,o,rfl,hc⟩:=(HL.out.kept hK).cellAt k hlt
   have hgw:g<w.heap.size:=by
    obtain ⟨g',o',e,hc'⟩:=HL.out.cellAt k hlt
    injection e with e
    injection e with e _
    subst e
    exact World.block_lt_of_cell? _ _ hc'
   have hz:=hR k hlt
   rw[if_neg (by omega)] at hz
   have hb:=HB.out _ (getD_mem hlt)
   have hb0:=hb.1
   have hb1:=hb.2
   clear hb
   obtain ⟨B,hBe⟩:∃ B,B=l.getD k 0:=⟨_,rfl⟩
   rw[<- hBe] at hc hb0 hb1
   replace hBe:Hid _:=hBe
   have hfk:=hF k
   have hlt':(k:Int)<(l.length:Int):=by omega
   have hk0:(0:Int)<=(k:Int):=by omega
   replace hR:Hid (∀ j,j<l.length->wr.cell? ⟨w.heap.size,j,none⟩=some (.int .u8 (if j<k then l.getD j 0 else 0))):=hR
   replace hF:Hid (∀ k,wr.frozen? ⟨w.heap.size,k,none⟩=false):=hF
   replace hK:Hid (Kept w wr):=hK
   go_wp2
   refine ⟨⟨k+1,by omega,by go_num,fun j hj => ?_,fun j=>by rw[World.frozen?_setCell];exact hF.out j,hK.out.setCell (Nat.le_refl _) _⟩,by simp [intOf];omega⟩
   by_cases hjk:j=k
   ·subst hjk
    rw[if_pos (by omega),<- hBe.out]
    first | exact cell_set_same hz _ | (rw[cell_set_same hz _,Int.emod_eq_of_lt hb0 hb1])
   ·rw[cell_set_other _ _ _ _ _ (fun e=>hjk e.symm)]
    rw[hR.out j hj]
    by_cases h5:j<k
    ·rw[if_pos h5,if_pos (by omega)]
    ·rw[if_neg h5,if_neg (by omega)]
  ·have hke:k=l.length:=by omega
   subst hke
   replace hR:Hid (∀ j,j<l.length->wr.cell? ⟨w.heap.size,j,none⟩=some (.int .u8 (if j<l.length then l.getD j 0 else 0))):=hR
   replace hF:Hid (∀ k,wr.frozen? ⟨w.heap.size,k,none⟩=false):=hF
   replace hK:Hid (Kept w wr):=hK
   go_wp2
   go_ret
   refine ⟨.slice (some ⟨w.heap.size,0,none⟩) l.length l.length,rfl,HB.out,⟨⟨_,_,rfl⟩,?_⟩,?_,?_,hK.out⟩
   ·intro p' c' e i hi
    injection e with e _ _
    refine ⟨w.heap.size,0,e.symm,?_⟩
    rw[Nat.zero_add,hR.out i hi,if_pos hi]
   ·intro n c' e;injection e with e _ _;cases e
   ·intro g hg
    have:w.heap.size=g:=by injection hg
    omega
def twoB (l:List Int):List Int:=l.flatMap (fun x=>[x / 256,x % 256])
theorem twoB_len (l:List Int):(twoB l).length=2*l.length:=by
 unfold twoB
 induction l with
 | nil=>rfl
 | cons x l ih=>rw[List.flatMap_cons,List.length_append,ih];simp;omega
theorem twoB_snoc (l:List Int) (x:Int):twoB (l++[x])=twoB l++[x / 256,x % 256]:=by
 unfold twoB;rw[List.flatMap_append];simp
theorem pairs_b (v:Value) (l:List Int) (w:World) (hl:LAt w .i64 v l) (hn:l.length<=65536) (hB:∀ x ∈ l,0<=x/\x<65536) :
  Calls Tryz.prog 106 #[v] w fun r w'=>∃ ov:Value,r = .returned ov/\MadeB w w' ov (twoB l):=by
 obtain ⟨p,c,rfl⟩:=hl.form
 have HL:Hid (LAt w .i64 (.slice p l.length c) l):=hl
 have HB:Hid _:=hB
 clear hl hB
 go_enter Tryz.func106,Tryz.ntmps106
 go_wp2
 go_loopw [3,4] (fun u v W=>∃ k:Nat,k<=l.length/\v = .int .i64 (k:Int)/\OwnB W w.heap.size u (twoB (l.take k))/\Kept w W) (fun _ v _=>l.length - (intOf v).toNat)
 case atStart=>exact ⟨0,by omega,rfl,OwnB.nil _ _,Kept.refl _⟩
 case round=>
  obtain ⟨k,hk,rfl,ho,hK⟩:=hrel
  have HLn:Hid ((twoB (l.take k)).length=2*k):=by
   show (twoB (l.take k)).length=2*k
   rw[twoB_len,List.length_take];omega
  obtain ⟨pp,cc,rfl⟩:=ho.slice' HLn.out
  have hsz:=hK.size
  by_cases hlt:k<l.length
  ·obtain ⟨g,o,rfl,hc⟩:=(HL.out.kept hK).cellAt k hlt
   have hgw:g<w.heap.size:=by
    obtain ⟨g',o',e,hc'⟩:=HL.out.cellAt k hlt
    injection e with e
    injection e with e _
    subst e
    exact World.block_lt_of_cell? _ _ hc'
   have hb:=HB.out _ (getD_mem hlt)
   have hb0:=hb.1
   have hb1:=hb.2
   clear hb
   have HNx:Hid (twoB (l.take (k+1))=twoB (l.take k)++[l.getD k 0 / 256,l.getD k 0 % 256]):=by
    show twoB (l.take (k+1))=_
    rw[<- twoB_snoc,List.take_succ_eq_append_getElem hlt]
    simp [List.getD_eq_getElem?_getD,List.getElem?_eq_getElem hlt]
   generalize l.getD k 0=B at *
   obtain ⟨T0,hT0⟩:∃ T0,T0=twoB (l.take k):=⟨_,rfl⟩
   rw[<- hT0] at HNx HLn ho
   clear hT0
   have HW1:Hid (IntKind.u8.wrap (B / 256)=B / 256):=by show IntKind.u8.wrap (B / 256)=_;rw[IntKind.wrap_u8];omega
   have HW2:Hid (IntKind.u8.wrap B=B % 256):=IntKind.wrap_u8 B
   have hlt':(k:Int)<(l.length:Int):=by omega
   have hk0:(0:Int)<=(k:Int):=by omega
   replace hK:Hid (Kept w wr):=hK
   have HO:Hid (OwnB wr w.heap.size (.slice pp (2*k) cc) T0):=ho
   clear ho
   have HE:Hid (isBytes [IntKind.u8.wrap (B / 256),IntKind.u8.wrap B]):=by
    intro y hy
    simp at hy
    rcases hy with rfl | rfl
    ·have:=bounds_u8 (wf_wrap .u8 (B / 256));omega
    ·have:=bounds_u8 (wf_wrap .u8 B);omega
   have HC:Hid (∀ j,j<2->((wr.alloc (Obj.cells #[Value.int IntKind.u8 (IntKind.u8.wrap (B / 256)),Value.int IntKind.u8 (IntKind.u8.wrap B)] 5)).drewN 1).cell? ⟨wr.heap.size,j,none⟩=some (.int .u8 ([IntKind.u8.wrap (B / 256),IntKind.u8.wrap B].getD j 0))):=by
    intro j hj
    show (wr.alloc _).cell? _=_
    rw[World.cell?_alloc_at _ _ _ _ rfl]
    have:j=0\/j=1:=by omega
    rcases this with rfl | rfl<;>rfl
   go_wp2_with fail
   go_region_held3 (fun W=>W.cell? ⟨g,o+k,none⟩=some (.int .i64 B)) (first | exact hc | exact hc5 | go_keep) ((refine stepB (by rfl) _ _ (by rfl) w.heap.size (.slice pp (2*k) cc) T0 (by rfl) (by exact (HO.out.alloc _).drewN 1) wr.heap.size 2 2 [IntKind.u8.wrap (B / 256),IntKind.u8.wrap B] (by rfl) rfl (by omega) HE.out (by exact HC.out) (by rw[HLn.out];omega) (by simp;omega) ?_;intro g' cap w2 ho2 hf2;have fk:Fr (fun k'=>(Value.slice pp (2*k) cc).ownBlock=some k') wr w2:=(((Fr.refl _ wr).alloc _).drewN 1).trans hf2;have hc5:w2.cell? ⟨g,o+k,none⟩=some (.int .i64 B):=(fk.cell (World.block_lt_of_cell? _ _ hc) (fun e=>by have:=HO.out.ge g e;omega)).trans hc))
   have HO2:Hid (OwnB w2 w.heap.size (.slice (some ⟨g',0,none⟩) (T0.length+2) cap) (twoB (l.take (k+1)))):=by
    show OwnB _ _ _ _
    rw[HNx.out]
    have h5:=ho2
    rw[HW1.out,HW2.out] at h5
    exact h5
   have HK2:Hid (Kept w w2):=Fr.to_kept hK.out fk (fun i hi e=>by have:=HO.out.ge i e;omega)
   clear ho2 hf2 fk
   go_wp2
   exact ⟨⟨k+1,by omega,by go_num,HO2.out,HK2.out⟩,by simp [intOf];omega⟩
  ·have hke:k=l.length:=by omega
   subst hke
   have HO:Hid (OwnB wr w.heap.size (.slice pp (2*l.length) cc) (twoB l)):=by
    show OwnB _ _ _ _
    rw[List.take_of_length_le (Nat.le_refl _)] at ho;exact ho
   replace hK:Hid (Kept w wr):=hK
   clear ho
   go_wp2
   go_ret
   have hLo:=HO.out.2
   refine ⟨.slice pp (2*l.length) cc,rfl,HO.out.1,HO.out.lat,?_,?_,hK.out⟩
   ·intro n c' e
    rcases hLo.2 with ⟨hv,h0⟩ | ⟨g,cap,cur,hv,hg,r⟩
    ·rw[hv] at e;injection e with _ _ e;omega
    ·rw[hv] at e;injection e with e _ _;cases e
   ·intro g hg
    rw[sliceBlock_own _ hLo] at hg
    exact (hLo.lt g hg).1
theorem clearOf_b (W H K D:Int) (pv cv xv:Value) (l:List Int) (w:World) (hl:LAt w .i64 cv l) (hn:l.length<=65536) (hB:∀ x ∈ l,0<=x/\x<65536) (hB3:K=3->isBytes l) :
  Calls Tryz.prog 75 #[.agg #[.int .i64 W,.int .i64 H,.int .i64 K,.int .i64 D,pv,cv,xv]] w fun r w'=>∃ ov:Value,r = .returned ov/\MadeB w w' ov (if K=3 then l else twoB l):=by
 have hk0:Kept w (w.alloc (Obj.cells #[Value.int .i64 W,.int .i64 H,.int .i64 K,.int .i64 D,pv,cv,xv] 33)):=Below.alloc (Below.refl _ _) (Nat.le_refl _) _
 have F1:Hid (K=3->Calls Tryz.prog 73 #[cv] (w.alloc (Obj.cells #[Value.int .i64 W,.int .i64 H,.int .i64 K,.int .i64 D,pv,cv,xv] 33)) fun r w'=>∃ ov:Value,r = .returned ov/\MadeB (w.alloc (Obj.cells #[Value.int .i64 W,.int .i64 H,.int .i64 K,.int .i64 D,pv,cv,xv] 33)) w' ov l):=fun h3=>singles_b cv l _ (hl.kept hk0) hn (hB3 h3)
 have F2:Hid (Calls Tryz.prog 106 #[cv] (w.alloc (Obj.cells #[Value.int .i64 W,.int .i64 H,.int .i64 K,.int .i64 D,pv,cv,xv] 33)) fun r w'=>∃ ov:Value,r = .returned ov/\MadeB (w.alloc (Obj.cells #[Value.int .i64 W,.int .i64 H,.int .i64 K,.int .i64 D,pv,cv,xv] 33)) w' ov (twoB l)):=pairs_b cv l _ (hl.kept hk0) hn hB
 replace hk0:Hid _:=hk0
 clear hl hB hB3
 by_cases hK:K=3
 ·subst hK
  rw[if_pos rfl]
  replace F1:=F1.out rfl
  replace F1:Hid _:=F1
  go_enter Tryz.func75,Tryz.ntmps75
  go_wp2_with fail
  refine Calls.mono F1.out ?_
  rintro r w1 ⟨ov,rfl,h⟩
  go_wp2
  go_ret
  exact ⟨ov,rfl,h.ok,h.lat,h.nn,fun g hg=>Nat.le_trans hk0.out.size (h.new g hg),Kept.trans hk0.out h.kept⟩
 ·rw[if_neg hK]
  have hK':(K == 3)=false:=by rw[beq_eq_false_iff_ne];exact hK
  clear hK
  go_enter Tryz.func75,Tryz.ntmps75
  go_wp2_with fail
  refine F2.out.mono ?_
  rintro r w1 ⟨ov,rfl,h⟩
  go_wp2
  go_ret
  exact ⟨ov,rfl,h.ok,h.lat,h.nn,fun g hg=>Nat.le_trans hk0.out.size (h.new g hg),Kept.trans hk0.out h.kept⟩
end Go.Proofs.YtmbmecfodigciaaGreatDoor
namespace Go.Proofs.YtmbmecfodigciaaGreatDoor
open Go.RowKit
set_option linter.unusedSimpArgs false
set_option linter.unusedVariables false
end Go.Proofs.YtmbmecfodigciaaGreatDoor
namespace Go.Proofs.YtmbmecfodigciaaGreatDoor
open Go.RowKit Px
set_option linter.unusedSimpArgs false
set_option linter.unusedVariables false
