import Derived.Test.YtmbmecfodigciaaGreatDoorTu33
import Derived.Test.YtmbmecfodigciaaGreatDoorTu19
import Derived.Test.YtmbmecfodigciaaGreatDoorTu15
import Derived.Test.YtmbmecfodigciaaGreatDoorTu14
import Derived.Test.YtmbmecfodigciaaGreatDoorTu20
set_option maxRecDepth 100000
set_option maxHeartbeats 6400000
namespace Go.Proofs.YtmbmecfodigciaaGreatDoor
open Go.RowKit Px
set_option linter.unusedSimpArgs false
set_option linter.unusedVariables false
def BkX (W:World) (x:Nat):Prop:=∀ i,i<288->W.cell? ⟨x,3+i,none⟩=some (.int .u32 (fixCode i:Int))/\W.cell? ⟨x,3+288+i,none⟩=some (.int .u8 (fixLen i:Int))
theorem BkX.far {x:Nat} {w W:World} (h:BkX w x) (k:∀ j,3<=j->W.cell? ⟨x,j,none⟩=w.cell? ⟨x,j,none⟩):BkX W x:=fun i hi=>⟨by rw[k _ (by omega)];exact (h i hi).1,by rw[k _ (by omega)];exact (h i hi).2⟩
theorem fixCode_lt (i:Nat) (h:i<288):fixCode i<1024:=by unfold fixCode;split;omega;split;omega;split<;>omega
theorem fixLen_le (i:Nat):fixLen i<=9:=by rcases fixLen_cases i with ⟨_,h⟩ | ⟨_,_,h⟩ | ⟨_,_,h⟩ | ⟨_,h⟩<;>omega
theorem symw_x (x N i:Nat) (bs:List Nat) (w:World) (h:BX w x N bs) (hB:BkX w x) (hi:i<288) (hT:bs.length<=268435456) :
  Calls Tryz.prog 153 #[.pointer (some ⟨x,0,none⟩),.int .i64 (i:Int)] w fun r w'=>r = .returned (.tuple #[])/\WX x N (bs++cb (fixCode i) (fixLen i)) w w':=by
 have hc:=fixCode_lt i hi
 have hz:=fixLen_le i
 have F1:Hid (Calls Tryz.prog 161 #[.pointer (some ⟨x,3,none⟩),.int .i64 (i:Int)] w fun r w'=>r = .returned (.tuple #[.int .u32 (fixCode i:Int),.int .u64 (fixLen i:Int)])/\Kept w w'):=bcode_any x i _ _ w hi (by omega) (by omega) (by omega) (by omega) (hB i hi).1 (hB i hi).2
 have F2:Hid (∀ W,Kept w W->Calls Tryz.prog 162 #[.pointer (some ⟨x,0,none⟩),.int .u32 (fixCode i:Int),.int .u64 (fixLen i:Int)] W fun r w'=>r = .returned (.tuple #[])/\WX x N (bs++cb (fixCode i) (fixLen i)) W w'):=fun W hK=>code_x x N (fixCode i) (fixLen i) bs W (h.kept hK) (by omega) (by omega) (by omega)
 have HW:Hid (BX w x N bs):=h
 generalize bs++cb (fixCode i) (fixLen i)=E at *
 generalize fixCode i=CC at *
 generalize fixLen i=LL at *
 clear h hB
 go_enter Tryz.func153,Tryz.ntmps153
 go_wp2_with fail
 refine F1.out.mono ?_
 rintro r w1 ⟨rfl,hk1⟩
 go_wp2_with fail
 refine (F2.out _ hk1).mono ?_
 rintro r w2 ⟨rfl,hw2⟩
 go_wp2
 go_end0
 exact ⟨rfl,((WX.refl HW.out).kept hk1).trans hw2⟩
theorem flat8_snoc (l:List Int) (k:Nat) (h:k<l.length):flat8 (nl (l.take (k+1)))=flat8 (nl (l.take k))++xb (l.getD k 0).toNat 0 8:=by
 rw[List.take_succ_eq_append_getElem h,nl_app,flat8_app,List.getD_eq_getElem?_getD,List.getElem?_eq_getElem h]
 show _++flat8 [_]=_
 rw[flat8_cons]
 show _++(_++[])=_
 rw[List.append_nil];rfl
theorem flat8_take_len (l:List Int) (k:Nat) (h:k<=l.length):(flat8 (nl (l.take k))).length=8*k:=by rw[flat8_len,nl_len,List.length_take,Nat.min_eq_left h]
theorem stored_x (x N:Nat) (bs:List Nat) (v:Value) (l:List Int) (w:World) (h:BX w x N bs) (hl:LAt w .u8 v l) (hB:isBytes l) (hS:∀ g,sliceBlock v=some g->¬ (g=x\/N<=g)) (hn:l.length<=65535) (hT:bs.length<=134217728) :
  Calls Tryz.prog 134 #[.pointer (some ⟨x,0,none⟩),v] w fun r w'=>r = .returned (.tuple #[])/\WX x N (((bs++xb 0 0 2)++List.replicate ((8 - (bs++xb 0 0 2).length % 8) % 8) 0)++xb l.length 0 16++xb (4294967295 - l.length) 0 16++flat8 (nl l)) w w':=by
 obtain ⟨p,c,rfl⟩:=hl.form
 obtain ⟨b1,hb1⟩:∃ b1,b1=bs++xb 0 0 2:=⟨_,rfl⟩
 obtain ⟨b2,hb2⟩:∃ b2,b2=b1++List.replicate ((8 - b1.length % 8) % 8) 0:=⟨_,rfl⟩
 obtain ⟨b3,hb3⟩:∃ b3,b3=b2++xb l.length 0 16:=⟨_,rfl⟩
 obtain ⟨b4,hb4⟩:∃ b4,b4=b3++xb (4294967295 - l.length) 0 16:=⟨_,rfl⟩
 rw[<- hb1,<- hb2,<- hb3,<- hb4]
 have e1:b1.length<=bs.length+2:=by rw[hb1,List.length_append,xb_len];omega
 have e2:b2.length<=bs.length+16:=by rw[hb2,List.length_append,List.length_replicate];omega
 have e3:b3.length<=bs.length+32:=by rw[hb3,List.length_append,xb_len];omega
 have e4:b4.length<=bs.length+48:=by rw[hb4,List.length_append,xb_len];omega
 have F1:Hid (Calls Tryz.prog 133 #[.pointer (some ⟨x,0,none⟩),.int .u32 ((0:Nat):Int),.int .u64 ((2:Nat):Int)] w fun r w'=>r = .returned (.tuple #[])/\WX x N b1 w w'):=by rw[hb1];exact number_x x N 0 2 bs w h (by omega) (by omega) (by omega)
 have F2:Hid (∀ W,BX W x N b1->Calls Tryz.prog 102 #[.pointer (some ⟨x,0,none⟩)] W fun r w'=>r = .returned (.tuple #[])/\WX x N b2 W w'):=fun W hB=>by rw[hb2];exact fill_x x N b1 W hB (by omega)
 have F3:Hid (∀ W,BX W x N b2->Calls Tryz.prog 133 #[.pointer (some ⟨x,0,none⟩),.int .u32 (l.length:Int),.int .u64 ((16:Nat):Int)] W fun r w'=>r = .returned (.tuple #[])/\WX x N b3 W w'):=fun W hB=>by rw[hb3];exact number_x x N l.length 16 b2 W hB (by omega) (by omega) (by omega)
 have F4:Hid (∀ W,BX W x N b3->Calls Tryz.prog 133 #[.pointer (some ⟨x,0,none⟩),.int .u32 ((4294967295 - l.length:Nat):Int),.int .u64 ((16:Nat):Int)] W fun r w'=>r = .returned (.tuple #[])/\WX x N b4 W w'):=fun W hB=>by rw[hb4];exact number_x x N (4294967295 - l.length) 16 b3 W hB (by omega) (by omega) (by omega)
 have F5:Hid (∀ (W:World) (k q:Nat),k<l.length->(l.getD k 0).toNat=q->q<256->BX W x N (b4++flat8 (nl (l.take k)))->Calls Tryz.prog 133 #[.pointer (some ⟨x,0,none⟩),.int .u32 (q:Int),.int .u64 ((8:Nat):Int)] W fun r w'=>r = .returned (.tuple #[])/\WX x N (b4++flat8 (nl (l.take (k+1)))) W w'):=fun W k q hk hq hq2 hB=>by
  rw[flat8_snoc l k hk,<- List.append_assoc,hq]
  exact number_x x N q 8 _ W hB (by omega) (by omega) (by rw[List.length_append,flat8_take_len l k (by omega)];omega)
 have eY:=u32_not l.length (by omega)
 have HL:Hid (LAt w .u8 (.slice p l.length c) l):=hl
 have HS:Hid (∀ g,sliceBlock (.slice p l.length c)=some g->¬ (g=x\/N<=g)):=hS
 have HB:Hid (isBytes l):=hB
 have HE:Hid (flat8 (nl (l.take l.length))=flat8 (nl l)):=by show _=_;rw[List.take_length]
 have H0:Hid (b4++flat8 (nl (l.take 0))=b4):=by show _=_;rw[List.take_zero];exact List.append_nil _
 clear h hl hS hB hb1 hb2 hb3 hb4 e1 e2 e3 e4
 obtain ⟨Y,hY⟩:∃ Y,Y=4294967295 - l.length:=⟨_,rfl⟩
 rw[<- hY] at F4 eY
 have hYb:Y<4294967296:=by omega
 replace hY:Hid _:=hY
 go_enter Tryz.func134,Tryz.ntmps134
 go_wp2_with fail
 refine F1.out.mono ?_
 rintro r w1 ⟨rfl,hw1⟩
 replace hw1:Hid (WX x N b1 w w1):=hw1
 go_wp2_with fail
 refine (F2.out _ hw1.out.bits).mono ?_
 rintro r w2 ⟨rfl,hw2⟩
 replace hw2:Hid (WX x N b2 w w2):=hw1.out.trans hw2
 clear hw1
 go_wp2_with fail
 refine (F3.out _ hw2.out.bits).mono ?_
 rintro r w3 ⟨rfl,hw3⟩
 replace hw3:Hid (WX x N b3 w w3):=hw2.out.trans hw3
 clear hw2
 go_wp2_with fail
 refine (F4.out _ hw3.out.bits).mono ?_
 rintro r w4 ⟨rfl,hw4⟩
 replace hw4:Hid (WX x N b4 w w4):=hw3.out.trans hw4
 clear hw3
 go_wp2
 go_loopw [5] (fun v W=>∃ k:Nat,k<=l.length/\v = .int .i64 (k:Int)/\WX x N (b4++flat8 (nl (l.take k))) w W) (fun v _=>l.length - (intOf v).toNat)
 case atStart=>exact ⟨0,by omega,rfl,by rw[H0.out];exact hw4.out⟩
 case round=>
  obtain ⟨k,hk,rfl,hW⟩:=hrel
  by_cases hlt:k<l.length
  ·obtain ⟨g,o,rfl,hc⟩:=(HL.out.fr hW.fr HS.out).cellAt k hlt
   have hb:=HB.out _ (getD_mem hlt)
   obtain ⟨q,hq⟩:∃ q:Nat,l.getD k 0=(q:Int):=⟨(l.getD k 0).toNat,by omega⟩
   have F6:Hid (∀ W,BX W x N (b4++flat8 (nl (l.take k)))->Calls Tryz.prog 133 #[.pointer (some ⟨x,0,none⟩),.int .u32 (q:Int),.int .u64 ((8:Nat):Int)] W fun r w'=>r = .returned (.tuple #[])/\WX x N (b4++flat8 (nl (l.take (k+1)))) W w'):=fun W hB=>F5.out W k q hlt (by rw[hq];rfl) (by omega) hB
   have hq2:q<256:=by omega
   rw[hq] at hc
   have wq:IntKind.u32.wrap (q:Int)=(q:Int):=by rw[IntKind.wrap_u32];omega
   clear hb
   replace hq:Hid _:=hq
   have hlt':(k:Int)<(l.length:Int):=by omega
   have hk0:(0:Int)<=(k:Int):=by omega
   have HE2:Hid (∃ E1,E1=b4++flat8 (nl (l.take (k+1)))):=⟨_,rfl⟩
   obtain ⟨E1,hE1⟩:=HE2.out
   obtain ⟨E0,hE0⟩:∃ E0,E0=b4++flat8 (nl (l.take k)):=⟨_,rfl⟩
   rw[<- hE1,<- hE0] at F6
   rw[<- hE0] at hW
   replace hE1:Hid _:=hE1
   replace hE0:Hid _:=hE0
   replace hW:Hid (WX x N E0 w wr):=hW
   have hWd:Hid (WX x N E0 w (wr.drewN 1)):=hW.out.drewN 1
   go_wp2_with fail
   go_region_held3 (fun W=>W.cell? ⟨g,o+k,none⟩=some (.int .u8 (q:Int))) (first | exact hc | exact hc5 | go_keep) ((go_at_call 133;refine (F6.out _ (by exact hWd.out.bits)).mono ?_;rintro r w5 ⟨rfl,hw5⟩;have hc5:w5.cell? ⟨g,o+k,none⟩=some (.int .u8 (q:Int)):=(hw5.fr.cell (World.block_lt_of_cell? _ _ hc) (HS.out g rfl)).trans hc;replace hw5:Hid (WX x N E1 w w5):=hWd.out.trans hw5))
   go_wp2
   exact ⟨⟨k+1,by omega,by go_num,by rw[<- hE1.out];exact hw5.out⟩,by simp [intOf];omega⟩
  ·have hke:k=l.length:=by omega
   subst hke
   rw[HE.out] at hW
   go_wp2
   go_end0
   exact ⟨rfl,hW⟩
def fxI (l:List Int) (k:Nat):List Nat:=(nl (l.take k)).flatMap (fun x=>cb (fixCode x) (fixLen x))
theorem fxI_snoc (l:List Int) (k:Nat) (h:k<l.length):fxI l (k+1)=fxI l k++cb (fixCode (l.getD k 0).toNat) (fixLen (l.getD k 0).toNat):=by
 unfold fxI
 rw[List.take_succ_eq_append_getElem h,nl_app,List.flatMap_append,List.getD_eq_getElem?_getD,List.getElem?_eq_getElem h]
 show _++(_++[])=_
 rw[List.append_nil];rfl
theorem fxI_len (l:List Int):∀ k,k<=l.length->(fxI l k).length<=9*k
 | 0,_=>by show 0<=_;omega
 | k+1,h=>by
  rw[fxI_snoc l k (by omega),List.length_append,cb_len]
  have:=fxI_len l k (by omega)
  have:=fixLen_le (l.getD k 0).toNat
  omega
theorem fixedw_x (x N:Nat) (bs:List Nat) (v:Value) (l:List Int) (w:World) (h:BX w x N bs) (hBk:BkX w x) (hl:LAt w .u8 v l) (hB:isBytes l) (hS:∀ g,sliceBlock v=some g->¬ (g=x\/N<=g)) (hn:l.length<=65535) (hT:bs.length<=134217728) :
  Calls Tryz.prog 135 #[.pointer (some ⟨x,0,none⟩),v] w fun r w'=>r = .returned (.tuple #[])/\WX x N ((bs++xb 1 0 2)++fxB (nl l)) w w':=by
 obtain ⟨p,c,rfl⟩:=hl.form
 obtain ⟨b1,hb1⟩:∃ b1,b1=bs++xb 1 0 2:=⟨_,rfl⟩
 rw[<- hb1]
 have e1:b1.length<=bs.length+2:=by rw[hb1,List.length_append,xb_len];omega
 have F1:Hid (Calls Tryz.prog 133 #[.pointer (some ⟨x,0,none⟩),.int .u32 ((1:Nat):Int),.int .u64 ((2:Nat):Int)] w fun r w'=>r = .returned (.tuple #[])/\WX x N b1 w w'):=by rw[hb1];exact number_x x N 1 2 bs w h (by omega) (by omega) (by omega)
 have F2:Hid (∀ (W:World) (k q:Nat),k<l.length->(l.getD k 0).toNat=q->q<256->WX x N (b1++fxI l k) w W->Calls Tryz.prog 153 #[.pointer (some ⟨x,0,none⟩),.int .i64 (q:Int)] W fun r w'=>r = .returned (.tuple #[])/\WX x N (b1++fxI l (k+1)) W w'):=fun W k q hk hq hq2 hW=>by
  rw[fxI_snoc l k hk,<- List.append_assoc,hq]
  have:=fxI_len l k (by omega)
  exact symw_x x N q _ W hW.bits (hBk.far hW.far) (by omega) (by rw[List.length_append];omega)
 have F3:Hid (∀ (W:World),WX x N (b1++fxI l l.length) w W->Calls Tryz.prog 153 #[.pointer (some ⟨x,0,none⟩),.int .i64 ((256:Nat):Int)] W fun r w'=>r = .returned (.tuple #[])/\WX x N (b1++fxB (nl l)) W w'):=fun W hW=>by
  have e:b1++fxB (nl l)=b1++fxI l l.length++cb (fixCode 256) (fixLen 256):=by unfold fxB fxI;rw[List.take_length,List.append_assoc];rfl
  rw[e]
  have:=fxI_len l l.length (Nat.le_refl _)
  exact symw_x x N 256 _ W hW.bits (hBk.far hW.far) (by omega) (by rw[List.length_append];omega)
 have HL:Hid (LAt w .u8 (.slice p l.length c) l):=hl
 have HS:Hid (∀ g,sliceBlock (.slice p l.length c)=some g->¬ (g=x\/N<=g)):=hS
 have HB:Hid (isBytes l):=hB
 have H0:Hid (b1++fxI l 0=b1):=by show _=_;exact List.append_nil _
 obtain ⟨EE,hEE⟩:∃ E,E=b1++fxB (nl l):=⟨_,rfl⟩
 rw[<- hEE] at F3 ⊢
 replace hEE:Hid _:=hEE
 clear h hl hS hB hBk hb1 e1
 go_enter Tryz.func135,Tryz.ntmps135
 go_wp2_with fail
 refine F1.out.mono ?_
 rintro r w1 ⟨rfl,hw1⟩
 replace hw1:Hid (WX x N b1 w w1):=hw1
 go_wp2
 go_loopw [4] (fun v W=>∃ k:Nat,k<=l.length/\v = .int .i64 (k:Int)/\WX x N (b1++fxI l k) w W) (fun v _=>l.length - (intOf v).toNat)
 case atStart=>exact ⟨0,by omega,rfl,by rw[H0.out];exact hw1.out⟩
 case round=>
  obtain ⟨k,hk,rfl,hW⟩:=hrel
  by_cases hlt:k<l.length
  ·obtain ⟨g,o,rfl,hc⟩:=(HL.out.fr hW.fr HS.out).cellAt k hlt
   have hb:=HB.out _ (getD_mem hlt)
   obtain ⟨q,hq⟩:∃ q:Nat,l.getD k 0=(q:Int):=⟨(l.getD k 0).toNat,by omega⟩
   have F6:Hid (Calls Tryz.prog 153 #[.pointer (some ⟨x,0,none⟩),.int .i64 (q:Int)] wr fun r w'=>r = .returned (.tuple #[])/\WX x N (b1++fxI l (k+1)) wr w'):=F2.out wr k q hlt (by rw[hq];rfl) (by omega) hW
   have hq2:q<256:=by omega
   rw[hq] at hc
   clear hb
   replace hq:Hid _:=hq
   have hlt':(k:Int)<(l.length:Int):=by omega
   have hk0:(0:Int)<=(k:Int):=by omega
   replace hW:Hid (WX x N (b1++fxI l k) w wr):=hW
   go_wp2_with fail
   refine F6.out.mono ?_
   rintro r w5 ⟨rfl,hw5⟩
   replace hw5:Hid (WX x N (b1++fxI l (k+1)) w w5):=hW.out.trans hw5
   go_wp2
   exact ⟨⟨k+1,by omega,by go_num,hw5.out⟩,by simp [intOf];omega⟩
  ·have hke:k=l.length:=by omega
   subst hke
   have FE:=F3.out wr hW
   replace FE:Hid (Calls Tryz.prog 153 #[.pointer (some ⟨x,0,none⟩),.int .i64 256] wr fun r w'=>r = .returned (.tuple #[])/\WX x N EE wr w'):=FE
   replace hW:Hid (WX x N (b1++fxI l l.length) w wr):=hW
   go_wp2_with fail
   refine FE.out.mono ?_
   rintro r w5 ⟨rfl,hw5⟩
   go_wp2
   go_end0
   exact ⟨rfl,hW.out.trans hw5⟩
theorem xb_two (n:Nat) (h:n<=65535):xb n 0 16++xb (4294967295 - n) 0 16=xb (n+65536*(65535 - n)) 0 32:=by
 have:=xb_put n 16 (4294967295 - n) 16 (by omega)
 rw[<- this]
 congr 1
 unfold putR
 rw[show (2:Nat)^16=65536 from by decide]
 have:(4294967295 - n) % 65536=65535 - n:=by omega
 rw[this,Nat.mul_comm]
theorem xb_three (m κ:Nat) (hm:m<=1) (hκ:κ<=1):xb m 0 1++xb κ 0 2=xb (m+2*κ) 0 3:=by
 have:=xb_put m 1 κ 2 (by omega)
 rw[<- this]
 congr 1
 unfold putR
 have:κ % 2^2=κ:=Nat.mod_eq_of_lt (by omega)
 rw[this,Nat.pow_one,Nat.mul_comm]
theorem blockw_x (x N kd:Nat) (last:Bool) (bs:List Nat) (v:Value) (l:List Int) (w:World) (h:BX w x N bs) (hBk:BkX w x) (hl:LAt w .u8 v l) (hB:isBytes l) (hS:∀ g,sliceBlock v=some g->¬ (g=x\/N<=g)) (hn:l.length<=65535) (hT:bs.length<=67108864) (hkd:kd<=2) :
  Calls Tryz.prog 101 #[.pointer (some ⟨x,0,none⟩),.int .i64 (kd:Int),v,.bool last] w fun r w'=>r = .returned (.tuple #[])/\WX x N (bs++blkB (bs.length % 8) (if kd=0 then 0 else 1) last (nl l)) w w':=by
 obtain ⟨p,c,rfl⟩:=hl.form
 obtain ⟨m,hm⟩:∃ m:Nat,m=if last then 1 else 0:=⟨_,rfl⟩
 have hm1:m<=1:=by rw[hm];split<;>omega
 obtain ⟨b1,hb1⟩:∃ b1,b1=bs++xb m 0 1:=⟨_,rfl⟩
 have e1:b1.length=bs.length+1:=by rw[hb1,List.length_append,xb_len]
 have F1:Hid (Calls Tryz.prog 133 #[.pointer (some ⟨x,0,none⟩),.int .u32 (m:Int),.int .u64 ((1:Nat):Int)] w fun r w'=>r = .returned (.tuple #[])/\WX x N b1 w w'):=by rw[hb1];exact number_x x N m 1 bs w h (by omega) (by omega) (by omega)
 have E0:kd=0->((b1++xb 0 0 2)++List.replicate ((8 - (b1++xb 0 0 2).length % 8) % 8) 0)++xb l.length 0 16++xb (4294967295 - l.length) 0 16++flat8 (nl l)=bs++blkB (bs.length % 8) (if kd=0 then 0 else 1) last (nl l):=fun q=>by
  rw[if_pos q]
  unfold blkB
  rw[if_pos rfl,<- hm,<- xb_three m 0 hm1 (by omega),nl_len,<- xb_two l.length hn,List.length_append,e1,xb_len,hb1,show (8 - (bs.length+1+2) % 8) % 8=(8 - (bs.length % 8+3) % 8) % 8 from by omega]
  simp only [List.append_assoc]
 have E1:kd≠0->(b1++xb 1 0 2)++fxB (nl l)=bs++blkB (bs.length % 8) (if kd=0 then 0 else 1) last (nl l):=fun q=>by
  rw[if_neg q]
  unfold blkB
  rw[<- hm,if_neg (show ¬ (1:Nat)=0 by omega),<- xb_three m 1 hm1 (by omega),hb1]
  simp only [List.append_assoc]
 have F2:Hid (kd=0->∀ W,WX x N b1 w W->Calls Tryz.prog 134 #[.pointer (some ⟨x,0,none⟩),.slice p l.length c] W fun r w'=>r = .returned (.tuple #[])/\WX x N (bs++blkB (bs.length % 8) (if kd=0 then 0 else 1) last (nl l)) W w'):=fun q W hW=>by rw[<- E0 q];exact stored_x x N b1 _ l W hW.bits (hl.fr hW.fr hS) hB hS hn (by omega)
 have F3:Hid (kd≠0->∀ W,WX x N b1 w W->Calls Tryz.prog 135 #[.pointer (some ⟨x,0,none⟩),.slice p l.length c] W fun r w'=>r = .returned (.tuple #[])/\WX x N (bs++blkB (bs.length % 8) (if kd=0 then 0 else 1) last (nl l)) W w'):=fun q W hW=>by rw[<- E1 q];exact fixedw_x x N b1 _ l W hW.bits (hBk.far hW.far) (hl.fr hW.fr hS) hB hS hn (by omega)
 generalize bs++blkB (bs.length % 8) (if kd=0 then 0 else 1) last (nl l)=EE at *
 clear h hl hS hB hBk E0 E1 hb1 e1
 have hkd':kd=0\/kd=1\/kd=2:=by omega
 rcases hkd' with rfl | rfl | rfl
 ·have F4:=F2.out rfl
  replace F4:Hid _:=F4
  cases last
  all_goals
   first
   | (have hm0:m=0:=hm)
   | (have hm0:m=1:=hm)
   subst hm0
   clear hm hm1
   go_enter Tryz.func101,Tryz.ntmps101
   go_wp2_with fail
   refine F1.out.mono ?_
   rintro r w1 ⟨rfl,hw1⟩
   replace hw1:Hid (WX x N b1 w w1):=hw1
   go_wp2_with fail
   refine Calls.mono (F4.out _ hw1.out) ?_
   rintro r w2 ⟨rfl,hw2⟩
   replace hw2:Hid (WX x N EE w w2):=hw1.out.trans hw2
   go_wp2
   refine bodyPost_ret (results_none rfl _ _ _) rfl ?_
   exact ⟨rfl,hw2.out⟩
 all_goals
  have F4:=F3.out (by omega)
  replace F4:Hid _:=F4
  cases last
  all_goals
   first
   | (have hm0:m=0:=hm)
   | (have hm0:m=1:=hm)
   subst hm0
   clear hm hm1
   go_enter Tryz.func101,Tryz.ntmps101
   go_wp2_with fail
   refine F1.out.mono ?_
   rintro r w1 ⟨rfl,hw1⟩
   replace hw1:Hid (WX x N b1 w w1):=hw1
   go_wp2_with fail
   refine Calls.mono (F4.out _ hw1.out) ?_
   rintro r w2 ⟨rfl,hw2⟩
   replace hw2:Hid (WX x N EE w w2):=hw1.out.trans hw2
   go_wp2
   go_end0
   exact ⟨rfl,hw2.out⟩
def kdN (kl:List Int) (k:Nat):Nat:=if kl.getD (k % kl.length) 0=0 then 0 else 1
def blL (P:Nat) (kl:List Int):Nat->Nat->List Int->List (Nat × List Nat)
 | 0,_,_=>[]
 | n+1,k,d=>if d.isEmpty then [] else (kdN kl k,nl (d.take P))::blL P kl n (k+1) (d.drop P)
theorem blL_nil (P:Nat) (kl:List Int) (n k:Nat):blL P kl n k []=[]:=by cases n<;>rfl
theorem blL_cons (P:Nat) (kl:List Int) (n k:Nat) (d:List Int) (h:d≠[]):blL P kl (n+1) k d=(kdN kl k,nl (d.take P))::blL P kl n (k+1) (d.drop P):=by
 have e:d.isEmpty=false:=by cases d with | nil=>exact absurd rfl h | cons a t=>rfl
 show (if d.isEmpty then [] else _)=_
 rw[e];rfl
theorem blL_data {P:Nat} {kl:List Int} (hP:1<=P):∀ (n k:Nat) (d:List Int),d.length<=n->dataB (blL P kl n k d)=nl d
 | 0,k,d,h=>by
  have:d=[]:=List.length_eq_zero_iff.1 (by omega)
  subst this;rfl
 | n+1,k,d,h=>by
  by_cases q:d=[]
  ·subst q;rw[blL_nil];rfl
  ·have hd:0<d.length:=List.length_pos_iff.2 q
   rw[blL_cons _ _ _ _ _ q]
   show nl (d.take P)++dataB (blL P kl n (k+1) (d.drop P))=nl d
   rw[blL_data hP n (k+1) (d.drop P) (by rw[List.length_drop];omega),<- nl_app,List.take_append_drop]
theorem kdN_le (kl:List Int) (k:Nat):kdN kl k<=1:=by unfold kdN;split<;>omega
theorem blL_ok {P:Nat} {kl:List Int} (hP:1<=P):∀ (n k:Nat) (d:List Int),isBytes d->∀ b ∈ blL P kl n k d,BlkOk b
 | 0,k,d,h=>by intro b hb;cases hb
 | n+1,k,d,h=>by
  intro b hb
  by_cases q:d=[]
  ·subst q;rw[blL_nil] at hb;cases hb
  ·rw[blL_cons _ _ _ _ _ q,List.mem_cons] at hb
   rcases hb with rfl | hb
   ·refine ⟨kdN_le _ _,?_,?_⟩
    ·intro e
     have e2:=congrArg List.length e
     have hd:0<d.length:=List.length_pos_iff.2 q
     rw[nl_len,List.length_take] at e2
     have:min P d.length=0:=e2
     omega
    ·intro x hx
     obtain ⟨y,hy,rfl⟩:=List.mem_map.1 (show x ∈ (d.take P).map Int.toNat from hx)
     have:=h y (List.mem_of_mem_take hy)
     omega
   ·exact blL_ok hP n (k+1) (d.drop P) (fun y hy=>h y (List.mem_of_mem_drop hy)) b hb
theorem blL_ne {P:Nat} {kl:List Int} (n k:Nat) (d:List Int) (hd:d≠[]) (h:d.length<=n):blL P kl n k d≠[]:=by
 have:0<d.length:=List.length_pos_iff.2 hd
 obtain ⟨m,rfl⟩:∃ m,n=m+1:=⟨n - 1,by omega⟩
 rw[blL_cons _ _ _ _ _ hd]
 exact List.cons_ne_nil _ _
theorem blL_last (P:Nat) (kl:List Int) (n k:Nat) (l:List Int) (f:Nat) (hf:f<=l.length) (h:l.length - f<=n):(blL P kl n k (l.drop f)).isEmpty=decide (f=l.length):=by
 by_cases q:f=l.length
 ·subst q;rw[List.drop_length,blL_nil,decide_eq_true rfl];rfl
 ·have ne:l.drop f≠[]:=by
   intro e
   have:=congrArg List.length e
   rw[List.length_drop] at this
   have:l.length - f=0:=this
   omega
  have:=blL_ne (P:=P) (kl:=kl) n k (l.drop f) ne (by rw[List.length_drop];omega)
  rw[decide_eq_false q]
  cases hb:blL P kl n k (l.drop f) with
  | nil=>exact absurd hb this
  | cons a t=>rfl
theorem blk_step (P:Nat) (kl:List Int) (n k:Nat) (l:List Int) (cs:List Nat) (f f' m:Nat) (hP:1<=P) (hf:f<l.length) (hm:m=min P (l.length - f)) (hf':f'=f+m) (h:l.length - f<=n) :
  ∃ n',l.length - f'<=n'/\cs++blksB (cs.length % 8) (blL P kl n k (l.drop f))=(cs++blkB (cs.length % 8) (kdN kl k) (decide (f'=l.length)) (nl ((l.drop f).take m)))++blksB ((cs++blkB (cs.length % 8) (kdN kl k) (decide (f'=l.length)) (nl ((l.drop f).take m))).length % 8) (blL P kl n' (k+1) (l.drop f')):=by
 obtain ⟨n',rfl⟩:∃ n',n=n'+1:=⟨n - 1,by omega⟩
 refine ⟨n',by omega,?_⟩
 have ne:l.drop f≠[]:=by
  intro e
  have:=congrArg List.length e
  rw[List.length_drop] at this
  have:l.length - f=0:=this
  omega
 have et:(l.drop f).take P=(l.drop f).take m:=by
  by_cases q:P<=l.length - f
  ·rw[hm,Nat.min_eq_left q]
  ·rw[hm,Nat.min_eq_right (by omega),List.take_of_length_le (by rw[List.length_drop];omega),List.take_of_length_le (by rw[List.length_drop];omega)]
 have ed:(l.drop f).drop P=l.drop f':=by
  rw[List.drop_drop]
  by_cases q:P<=l.length - f
  ·rw[hf',hm,Nat.min_eq_left q]
  ·rw[List.drop_of_length_le (by omega),List.drop_of_length_le (by omega)]
 rw[blL_cons _ _ _ _ _ ne,et,ed]
 show cs++(blkB (cs.length % 8) (kdN kl k) (blL P kl n' (k+1) (l.drop f')).isEmpty (nl ((l.drop f).take m))++blksB ((cs.length % 8+(blkB (cs.length % 8) (kdN kl k) (blL P kl n' (k+1) (l.drop f')).isEmpty (nl ((l.drop f).take m))).length) % 8) (blL P kl n' (k+1) (l.drop f')))=_
 rw[blL_last P kl n' (k+1) l f' (by omega) (by omega),<- List.append_assoc,List.length_append,Nat.mod_add_mod]
theorem blkB_len (j κ:Nat) (b:Bool) (l:List Int):(blkB j κ b (nl l)).length<=42+9*l.length:=by
 unfold blkB
 rw[List.length_append,xb_len]
 split
 ·rw[List.length_append,List.length_append,List.length_replicate,xb_len,flat8_len,nl_len];omega
 ·have e:(fxB (nl l)).length<=9*l.length+9:=by
   have h1:=fxI_len l l.length (Nat.le_refl _)
   unfold fxI at h1
   rw[List.take_length] at h1
   unfold fxB
   rw[List.length_append,cb_len]
   have h2:flen 256<=9:=by decide
   have h3:((nl l).flatMap (fun x=>cb (fixCode x) (flen x))).length<=9*l.length:=h1
   omega
  omega
theorem bs_dig (a b c d:Nat) (la:a<256) (lb:b<256) (lc:c<256) (ld:d<256):(a*16777216+b*65536+c*256+d) % 256=d/\(a*16777216+b*65536+c*256+d) / 256 % 256=c/\(a*16777216+b*65536+c*256+d) / 256 / 256 % 256=b/\(a*16777216+b*65536+c*256+d) / 256 / 256 / 256 % 256=a:=by
 have q:∀ x d:Nat,d<256->(x*256+d) / 256=x/\(x*256+d) % 256=d:=fun x d h=>⟨by omega,by omega⟩
 have e:a*16777216+b*65536+c*256+d=((a*256+b)*256+c)*256+d:=by
  rw[Nat.add_mul,Nat.add_mul,Nat.add_mul,Nat.mul_assoc,Nat.mul_assoc,Nat.mul_assoc]
 rw[e,(q _ d ld).1,(q _ d ld).2,(q _ c lc).1,(q _ c lc).2,(q _ b lb).1,(q _ b lb).2]
 exact ⟨rfl,rfl,rfl,Nat.mod_eq_of_lt la⟩
theorem beB_bits (s:Nat) (h:s<4294967296):flat8 (nl (beB s))=xb (bswap s) 0 32:=by
 have e:beB s=leB 4 (bswap s):=by
  obtain ⟨a,ha⟩:∃ a,a=s % 256:=⟨_,rfl⟩
  obtain ⟨b,hb⟩:∃ b,b=s / 256 % 256:=⟨_,rfl⟩
  obtain ⟨c,hc⟩:∃ c,c=s / 65536 % 256:=⟨_,rfl⟩
  obtain ⟨d,hd⟩:∃ d,d=s / 16777216:=⟨_,rfl⟩
  have la:a<256:=by omega
  have lb:b<256:=by omega
  have lc:c<256:=by omega
  have ld:d<256:=by omega
  have hd2:s / 16777216 % 256=d:=by omega
  have e0:bswap s=a*16777216+b*65536+c*256+d:=by unfold bswap;rw[<- ha,<- hb,<- hc,<- hd]
  obtain ⟨k1,k2,k3,k4⟩:=bs_dig a b c d la lb lc ld
  rw[<- e0] at k1 k2 k3 k4
  have h1:bswap s % 256=s / 16777216 % 256:=k1.trans hd2.symm
  have h2:bswap s / 256 % 256=s / 65536 % 256:=k2.trans hc
  have h3:bswap s / 256 / 256 % 256=s / 256 % 256:=k3.trans hb
  have h4:bswap s / 256 / 256 / 256 % 256=s % 256:=k4.trans ha
  show _=[((bswap s % 256:Nat):Int),((bswap s / 256 % 256:Nat):Int),((bswap s / 256 / 256 % 256:Nat):Int),((bswap s / 256 / 256 / 256 % 256:Nat):Int)]
  rw[h1,h2,h3,h4];rfl
 rw[e,xb_le 4]
theorem adl_nl (l:List Int):∀ s,adlN s (nl l)=adlL s l:=by
 induction l with
 | nil=>intro s;rfl
 | cons a t ih=>intro s;exact ih (adl s a.toNat)
theorem head_bits (V:Nat) (h:V<=7):flat8 (nl [((8+16*V:Nat):Int),(zFlg V:Int)])=xb (zN V) 0 16:=by
 have e:[((8+16*V:Nat):Int),(zFlg V:Int)]=leB 2 (zN V):=by
  have hz:zFlg V<256:=by unfold zFlg;omega
  have h1:zN V % 256=8+16*V:=by unfold zN;omega
  have h2:zN V / 256 % 256=zFlg V:=by unfold zN;omega
  show _=[((zN V % 256:Nat):Int),((zN V / 256 % 256:Nat):Int)]
  rw[h1,h2]
 rw[e,xb_le 2]
theorem str_bits (V P:Nat) (kl l:List Int) (L0:List Int) (hP:1<=P) (h:flat8 (nl L0)=(xb (zN V) 0 16++blksB 0 (blL P kl l.length 0 l))++List.replicate ((8 - (xb (zN V) 0 16++blksB 0 (blL P kl l.length 0 l)).length % 8) % 8) 0) :
  flat8 (nl (L0++beB (adlL 1 l)))=strB V (blL P kl l.length 0 l):=by
 have hs:=adlL_lt 1 l (by omega)
 unfold strB
 rw[nl_app,flat8_app,h,beB_bits _ hs,blL_data hP _ _ _ (Nat.le_refl _),adl_nl,List.length_append,xb_len,List.append_assoc,List.append_assoc,show (16+(blksB 0 (blL P kl l.length 0 l)).length) % 8=(blksB 0 (blL P kl l.length 0 l)).length % 8 from by omega]
