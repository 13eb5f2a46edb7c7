import Derived.Test.YtmbmecfodigciaaGreatDoorGr22
import Derived.Test.YtmbmecfodigciaaGreatDoorGr04
import Derived.Test.YtmbmecfodigciaaGreatDoorGr16
set_option maxRecDepth 100000
set_option maxHeartbeats 6400000
namespace Go.Proofs.YtmbmecfodigciaaGreatDoor
open Go.RowKit Px
set_option linter.unusedSimpArgs false
set_option linter.unusedVariables false
def putR (r m n s:Nat):Nat:=r+n % 2^s*2^m
theorem putR_lt {r m n s:Nat} (hr:r<2^m):putR r m n s<2^(m+s):=by
 unfold putR
 have h1:n % 2^s<2^s:=Nat.mod_lt _ (Nat.two_pow_pos s)
 have h2:(n % 2^s+1)*2^m≤2^s*2^m:=Nat.mul_le_mul_right _ h1
 rw[Nat.add_mul,Nat.one_mul] at h2
 rw[Nat.pow_add,Nat.mul_comm (2^m)]
 omega
theorem pow24 {k:Nat} (h:k≤23):2^k≤8388608:=Nat.le_trans (Nat.pow_le_pow_right (by omega) h) (by decide)
theorem number_b (x N:Nat) (l:List Int) (r m n s:Nat) (w:World) (h:BitB w x N l r m) (hr:r<2^m) (hm7:m≤7) (hs:s≤16) (hn1:n<4294967296) (hl:l.length≤1073741824) :
  Calls Tryz.prog 133 #[.pointer (some ⟨x,0,none⟩),.int .u32 (n:Int),.int .u64 (s:Int)] w fun e w'=>e = .returned (.tuple #[])∧BitB w' x N (l++leB ((m+s) / 8) (putR r m n s)) (putR r m n s / 256^((m+s) / 8)) ((m+s) % 8)∧FrN x N w w'∧(∀ j,3≤j→w'.cell? ⟨x,j,none⟩=w.cell? ⟨x,j,none⟩):=by
 obtain ⟨hlt,hsz,hfz,⟨ov,h0,hown⟩,h1,h2⟩:=h
 obtain ⟨p,c,rfl⟩:=hown.slice
 have hfa:=hfz 0
 have hfb:=hfz 1
 have hfc:=hfz 2
 have HO:Hid (OwnB w N (.slice p l.length c) l):=hown
 have hpR:=putR_lt (n:=n) (s:=s) hr
 have hp24:=pow24 (k:=m+s) (by omega)
 obtain ⟨PR,hPR⟩:∃ PR,PR=putR r m n s:=⟨_,rfl⟩
 have HR:Hid (∀ q:Int,q=bits BinOp.or IntKind.u32 (r:Int) (bits BinOp.and IntKind.u32 (n:Int) ((2^s - 1) % 4294967296)*2^m % 4294967296)→q=(PR:Int)):=fun q hq=>by
  have hp:=pow24 (k:=s) (by omega)
  have hs1:1≤2^s:=Nat.one_le_two_pow
  have e1:((2:Int)^s - 1) % 4294967296=((2^s - 1:Nat):Int):=by
   have:(2:Int)^s=((2^s:Nat):Int):=by simp
   rw[this];omega
  have hnm:n % 2^s*2^m≤putR r m n s:=by unfold putR;omega
  have e2:((n % 2^s:Nat):Int)*2^m % 4294967296=((n % 2^s*2^m:Nat):Int):=by
   have:((n % 2^s:Nat):Int)*2^m=((n % 2^s*2^m:Nat):Int):=by simp
   rw[this]
   obtain ⟨Z,hZ⟩:∃ Z,Z=n % 2^s*2^m:=⟨_,rfl⟩
   rw[← hZ] at hnm ⊢
   omega
  rw[hq,e1,u32_and_mask n s hn1 (by omega),e2,u32_or_shl r m _ hr (by show putR r m n s<_;omega),hPR]
  rfl
 rw[← hPR] at hpR ⊢
 have hPRb:PR<8388608:=by omega
 clear hown hPR hpR hp24
 obtain ⟨MS,hMS⟩:∃ MS,MS=m+s:=⟨_,rfl⟩
 have eMS:(m:Int)+(s:Int)=(MS:Int):=by omega
 have hMS23:MS≤23:=by omega
 rw[← hMS]
 clear hMS
 go_enter Tryz.func133,Tryz.ntmps133
 go_wp2
 go_region
 rw[HR.out _ rfl]
 have hD:((w.setCell { block:=x,off:=1 } (Value.int IntKind.u32 (PR:Int))).drew)=((w.setCell { block:=x,off:=1 } (Value.int IntKind.u32 (PR:Int))).drewN 1):=rfl
 rw[hD]
 clear hD
 have a0:((w.setCell ⟨x,1,none⟩ (Value.int IntKind.u32 (PR:Int))).drewN 1).cell? ⟨x,0,none⟩=some (Value.slice p l.length c):=(cell_set_other _ _ _ _ _ (by omega)).trans h0
 have a1:((w.setCell ⟨x,1,none⟩ (Value.int IntKind.u32 (PR:Int))).drewN 1).cell? ⟨x,1,none⟩=some (Value.int IntKind.u32 (PR:Int)):=cell_set_same h1 _
 have a2:((w.setCell ⟨x,1,none⟩ (Value.int IntKind.u32 (PR:Int))).drewN 1).cell? ⟨x,2,none⟩=some (Value.int IntKind.u64 (m:Int)):=(cell_set_other _ _ _ _ _ (by omega)).trans h2
 have af:∀ k,((w.setCell ⟨x,1,none⟩ (Value.int IntKind.u32 (PR:Int))).drewN 1).frozen? ⟨x,k,none⟩=false:=fun k=>by show (w.setCell _ _).frozen? _=false;rw[World.frozen?_setCell];exact hfz k
 have HO1:Hid (OwnB ((w.setCell ⟨x,1,none⟩ (Value.int IntKind.u32 (PR:Int))).drewN 1) N (.slice p l.length c) l):=(HO.out.set hlt _ _).drewN _
 have HF1:Hid (FrN x N w ((w.setCell ⟨x,1,none⟩ (Value.int IntKind.u32 (PR:Int))).drewN 1)):=((Fr.refl _ _).setCell (Or.inl (Or.inl rfl)) _ _).drewN _
 have HJ1:Hid (∀ j,3≤j→((w.setCell ⟨x,1,none⟩ (Value.int IntKind.u32 (PR:Int))).drewN 1).cell? ⟨x,j,none⟩=w.cell? ⟨x,j,none⟩):=fun j hj=>cell_set_other _ _ _ _ _ (by omega)
 generalize (w.setCell ⟨x,1,none⟩ (Value.int IntKind.u32 (PR:Int))).drewN 1=w1 at *
 clear h0 h1 h2 hfa hfb hfc
 have hfa:=af 0
 have hfb:=af 1
 have hfc:=af 2
 go_wp2
 generalize ((2:Int)^s % 4294967296 - 1) % 4294967296=Z1
 go_loopw [] (fun W=>∃ k q:Nat,∃ ov:Value,8*q+k=MS∧W.cell? ⟨x,2,none⟩=some (.int .u64 (k:Int))∧W.cell? ⟨x,0,none⟩=some ov∧OwnB W N ov (l++leB q PR)∧W.cell? ⟨x,1,none⟩=some (.int .u32 ((PR / 256^q:Nat):Int))∧(∀ k,W.frozen? ⟨x,k,none⟩=false)∧FrN x N w W∧(∀ j,3≤j→W.cell? ⟨x,j,none⟩=w.cell? ⟨x,j,none⟩)) (fun W=>szOf W x)
 case atStart=>
  refine ⟨MS,0,_,by omega,?_,(cell_set_other _ _ _ _ _ (by omega)).trans a0,?_,?_,?_,HF1.out.setCell (Or.inl (Or.inl rfl)) _ _,?_⟩
  ·exact cell_set_same a2 _
  ·rw[show leB 0 PR=[] from rfl,List.append_nil];exact HO1.out.set hlt _ _
  ·rw[Nat.pow_zero,Nat.div_one];exact (cell_set_other _ _ _ _ _ (by omega)).trans a1
  ·intro k;rw[World.frozen?_setCell];exact af k
  ·intro j hj;rw[cell_set_other _ _ _ _ _ (by omega)];exact HJ1.out j hj
 case round=>
  obtain ⟨k,q,ov,he,c2,c0,ho,c1,ff,hF,hJ⟩:=hrel
  obtain ⟨p2,cc,rfl⟩:=ho.slice
  have f0:=ff 0
  have f1:=ff 1
  have f2:=ff 2
  have hN:N≤wr.heap.size:=Nat.le_trans hsz hF.size
  have HF:Hid (FrN x N w wr):=hF
  have HJ:Hid (∀ j,3≤j→wr.cell? ⟨x,j,none⟩=w.cell? ⟨x,j,none⟩):=hJ
  obtain ⟨LL,hLL⟩:∃ LL,LL=l++leB q PR:=⟨_,rfl⟩
  have hLLl:LL.length=l.length+q:=by rw[hLL,List.length_append,leB_len]
  rw[← hLL] at ho c0
  have HO2:Hid (OwnB wr N (.slice p2 LL.length cc) LL):=ho
  replace ff:Hid (∀ k,wr.frozen? ⟨x,k,none⟩=false):=ff
  obtain ⟨RQ,hRQ⟩:∃ RQ,RQ=PR / 256^q:=⟨_,rfl⟩
  have hRQb:RQ≤PR:=by rw[hRQ];exact Nat.div_le_self _ _
  rw[← hRQ] at c1
  obtain ⟨QL,hQL⟩:∃ QL,QL=LL.length:=⟨_,rfl⟩
  rw[← hQL] at HO2 c0
  have hQLb:QL≤1073741824+3:=by omega
  have hLLb:LL.length≤1073741824+3:=by omega
  replace hLLl:Hid _:=hLLl
  clear ho hF hJ af HO HO1 HF1 HJ1
  by_cases hge:8≤k
  ·have hge':(8:Int)≤(k:Int):=by omega
   have e8:IntKind.u8.wrap (RQ:Int)=((RQ % 256:Nat):Int):=u8_wrap RQ
   have e0:0≤IntKind.u8.wrap (RQ:Int):=by rw[e8];omega
   have e1:IntKind.u8.wrap (RQ:Int)<256:=by rw[e8];omega
   have HLq:Hid (LL++[IntKind.u8.wrap (RQ:Int)]=l++leB (q+1) PR):=by
    show LL++[IntKind.u8.wrap (RQ:Int)]=l++leB (q+1) PR
    rw[e8,hLL,leB_snoc,hRQ,List.append_assoc]
   have HRq:Hid (RQ / 256=PR / 256^(q+1)):=by
    show RQ / 256=PR / 256^(q+1)
    rw[hRQ,Nat.div_div_eq_div_mul,Nat.pow_succ]
   have hne:¬ (Value.slice p2 QL cc).ownBlock=some x:=fun e=>by have:=HO2.out.ge x e;omega
   have hxs:x<wr.heap.size:=by omega
   have HQ:Hid (QL=LL.length):=hQL
   have HO2':Hid (OwnB wr N (.slice p2 QL cc) LL):=HO2.out
   clear e8 hLL hRQ hQL
   go_wp2
   go_region_law ((refine stepB_1 (by rfl) _ _ (by rfl) N (.slice p2 QL cc) LL (by rfl) (by first | exact HO2.out.alloc _ | exact (HO2.out.drewN _).alloc _ | exact (HO2.out.alloc _).drewN _) wr.heap.size 1 (IntKind.u8.wrap (RQ:Int)) (by rfl) e0 e1 (by simp) (by omega) (by simp;omega) ?_;intro g' cap w2 ho2 hf2;have fk:Fr (fun k=>(Value.slice p2 QL cc).ownBlock=some k) wr w2:=(((Fr.refl _ wr).drewN 1).alloc _).trans hf2;have k0:=(fk.cell (k:=0) hxs hne).trans c0;have k1:=(fk.cell (k:=1) hxs hne).trans c1;have k2:=(fk.cell (k:=2) hxs hne).trans c2;have g0:=(fk.frozen (k:=0) hxs hne).trans f0;have g1:=(fk.frozen (k:=1) hxs hne).trans f1;have g2:=(fk.frozen (k:=2) hxs hne).trans f2))
   all_goals
    have HO3:Hid (OwnB (w2.setCell ⟨x,0,none⟩ (Value.slice (some ⟨g',0,none⟩) (LL.length+1) cap)) N (Value.slice (some ⟨g',0,none⟩) (LL.length+1) cap) (l++leB (q+1) PR)):=by rw[← HLq.out];exact ho2.set hlt _ _
    have HF3:Hid (FrN x N w (w2.setCell ⟨x,0,none⟩ (Value.slice (some ⟨g',0,none⟩) (LL.length+1) cap))):=(HF.out.trans' fk (fun i _ e=>Or.inr (HO2.out.ge i e))).setCell (Or.inl (Or.inl rfl)) _ _
    have HJ3:Hid (∀ j,3≤j→(w2.setCell ⟨x,0,none⟩ (Value.slice (some ⟨g',0,none⟩) (LL.length+1) cap)).cell? ⟨x,j,none⟩=w.cell? ⟨x,j,none⟩):=fun j hj=>(cell_set_other _ _ _ _ _ (by omega)).trans ((fk.cell hxs hne).trans (HJ.out j hj))
    have HG3:Hid (∀ k,(w2.setCell ⟨x,0,none⟩ (Value.slice (some ⟨g',0,none⟩) (LL.length+1) cap)).frozen? ⟨x,k,none⟩=false):=fun k=>by rw[World.frozen?_setCell];exact (fk.frozen hxs hne).trans (ff.out k)
    have m0:=cell_set_same k0 (Value.slice (some ⟨g',0,none⟩) (LL.length+1) cap)
    have m1:=(cell_set_other w2 x 0 1 (Value.slice (some ⟨g',0,none⟩) (LL.length+1) cap) (by omega)).trans k1
    have m2:=(cell_set_other w2 x 0 2 (Value.slice (some ⟨g',0,none⟩) (LL.length+1) cap) (by omega)).trans k2
    have hsz':szOf wr x=k:=by unfold szOf;rw[c2];simp
    generalize w2.setCell ⟨x,0,none⟩ (Value.slice (some ⟨g',0,none⟩) (LL.length+1) cap)=w3 at *
    have n0:=HG3.out 0
    have n1:=HG3.out 1
    have n2:=HG3.out 2
    clear fk hf2 ho2 HO2 HO2' HF HJ k0 k1 k2 g0 g1 g2 c0 c1 c2 f0 f1 f2
    go_wp2
    refine ⟨⟨k - 8,q+1,_,by omega,?_,(cell_set_other _ _ _ _ _ (by omega)).trans ((cell_set_other _ _ _ _ _ (by omega)).trans m0),(HO3.out.set hlt _ _).set hlt _ _,?_,?_,(HF3.out.setCell (Or.inl (Or.inl rfl)) _ _).setCell (Or.inl (Or.inl rfl)) _ _,?_⟩,?_⟩
    ·rw[cell_set_same ((cell_set_other _ _ _ _ _ (by omega)).trans m2)]
     exact congrArg some (val_int (by omega))
    ·rw[cell_set_other _ _ _ _ _ (by omega),cell_set_same m1]
     exact congrArg some (val_int (by rw[← HRq.out];omega))
    ·intro k;rw[World.frozen?_setCell,World.frozen?_setCell];exact HG3.out k
    ·intro j hj;rw[cell_set_other _ _ _ _ _ (by omega),cell_set_other _ _ _ _ _ (by omega)];exact HJ3.out j hj
    ·rw[hsz']
     unfold szOf
     rw[cell_set_same ((cell_set_other _ _ _ _ _ (by omega)).trans m2)]
     show ((k:Int) - 8).toNat<k
     omega
  ·have hge':¬ (8:Int)≤(k:Int):=by omega
   have HL:Hid (LL=l++leB q PR):=hLL
   have HRQ:Hid (RQ=PR / 256^q):=hRQ
   clear hLL hRQ hQL
   go_wp2
   go_end0
   have hq:MS / 8=q:=by omega
   have hk:MS % 8=k:=by omega
   rw[hq,hk,← HRQ.out,← HL.out]
   exact ⟨rfl,⟨hlt,hN,ff.out,⟨_,c0,HO2.out⟩,c1,c2⟩,HF.out,HJ.out⟩
structure WroteB (x N:Nat) (l:List Int) (r m:Nat) (w w':World):Prop where
 bits:BitB w' x N l r m
 fr:FrN x N w w'
 far:∀ j,3≤j→w'.cell? ⟨x,j,none⟩=w.cell? ⟨x,j,none⟩
theorem WroteB.refl {x N:Nat} {l:List Int} {r m:Nat} {w:World} (h:BitB w x N l r m):WroteB x N l r m w w:=⟨h,Fr.refl _ _,fun _ _=>rfl⟩
theorem WroteB.trans {x N:Nat} {l l':List Int} {r m r' m':Nat} {a b c:World} (h:WroteB x N l r m a b) (k:WroteB x N l' r' m' b c):WroteB x N l' r' m' a c:=⟨k.bits,h.fr.trans k.fr,fun j hj=>(k.far j hj).trans (h.far j hj)⟩
theorem BitB.kept {x N:Nat} {l:List Int} {r m:Nat} {w w':World} (h:BitB w x N l r m) (k:Kept w w'):BitB w' x N l r m:=by
 have hx:x<w.heap.size:=Nat.lt_of_lt_of_le h.lt h.size
 obtain ⟨ov,h0,ho⟩:=h.out
 exact ⟨h.lt,Nat.le_trans h.size k.size,fun j=>(k.frozen (p:=⟨x,j,none⟩) hx).trans (h.fz j),⟨ov,(k.cell (p:=⟨x,0,none⟩) hx).trans h0,ho.kept k⟩,(k.cell (p:=⟨x,1,none⟩) hx).trans h.rest,(k.cell (p:=⟨x,2,none⟩) hx).trans h.sz⟩
theorem WroteB.kept {x N:Nat} {l:List Int} {r m:Nat} {a b c:World} (h:WroteB x N l r m a b) (k:Kept b c):WroteB x N l r m a c:=by
 have hx:x<b.heap.size:=Nat.lt_of_lt_of_le h.bits.lt h.bits.size
 exact ⟨h.bits.kept k,h.fr.kept k,fun j hj=>(k.cell (p:=⟨x,j,none⟩) hx).trans (h.far j hj)⟩
theorem number_wb (x N:Nat) (l:List Int) (r m n s:Nat) (l':List Int) (r' m':Nat) (w:World) (h:BitB w x N l r m) (hr:r<2^m) (hm7:m≤7) (hs:s≤16) (hn1:n<4294967296) (hl:l.length≤1073741824) (e1:l'=l++leB ((m+s) / 8) (putR r m n s)) (e2:r'=putR r m n s / 256^((m+s) / 8)) (e3:m'=(m+s) % 8) :
  Calls Tryz.prog 133 #[.pointer (some ⟨x,0,none⟩),.int .u32 (n:Int),.int .u64 (s:Int)] w fun e w'=>e = .returned (.tuple #[])∧WroteB x N l' r' m' w w':=by
 subst e1;subst e2;subst e3
 exact (number_b x N l r m n s w h hr hm7 hs hn1 hl).mono (fun e w' ⟨q1,q2,q3,q4⟩=>⟨q1,q2,q3,q4⟩)
theorem byte_b (x N:Nat) (l:List Int) (n:Nat) (w:World) (h:BitB w x N l 0 0) (hn1:n<4294967296) (hl:l.length≤1073741824) :
  Calls Tryz.prog 133 #[.pointer (some ⟨x,0,none⟩),.int .u32 (n:Int),.int .u64 8] w fun e w'=>e = .returned (.tuple #[])∧WroteB x N (l++[((n % 256:Nat):Int)]) 0 0 w w':=by
 refine number_wb x N l 0 0 n 8 _ 0 0 w h (by omega) (by omega) (by omega) hn1 hl ?_ ?_ rfl
 ·show _=l++[(((0+n % 256*1) % 256:Nat):Int)]
  rw[Nat.zero_add,Nat.mul_one,Nat.mod_mod]
 ·show 0=(0+n % 256*1) / 256
  omega
def zFlg (v:Nat):Nat:=(31 - 256*(8+16*v) % 31) % 31
theorem head_b (x N v:Nat) (l:List Int) (w:World) (h:BitB w x N l 0 0) (hv:v≤7) (hl:l.length≤1000000) :
  Calls Tryz.prog 99 #[.pointer (some ⟨x,0,none⟩),.int .i64 (v:Int)] w fun e w'=>e = .returned (.tuple #[])∧WroteB x N (l++[((8+16*v:Nat):Int),(zFlg v:Int)]) 0 0 w w':=by
 have F1:Hid (∀ n:Nat,n<4294967296→Calls Tryz.prog 133 #[.pointer (some ⟨x,0,none⟩),.int .u32 (n:Int),.int .u64 8] w fun e w'=>e = .returned (.tuple #[])∧WroteB x N (l++[((n % 256:Nat):Int)]) 0 0 w w'):=fun n hn=>byte_b x N l n w h hn (by omega)
 have F2:Hid (∀ (W:World) (l1:List Int) (n:Nat),n<4294967296→l1.length≤1000001→BitB W x N l1 0 0→Calls Tryz.prog 133 #[.pointer (some ⟨x,0,none⟩),.int .u32 (n:Int),.int .u64 8] W fun e w'=>e = .returned (.tuple #[])∧WroteB x N (l1++[((n % 256:Nat):Int)]) 0 0 W w'):=fun W l1 n hn hl1 hb=>byte_b x N l1 n W hb hn (by omega)
 clear h
 have hv':v=0∨v=1∨v=2∨v=3∨v=4∨v=5∨v=6∨v=7:=by omega
 rcases hv' with rfl | rfl | rfl | rfl | rfl | rfl | rfl | rfl
 ·clear hv
  have e1:(zFlg 0:Int)=29:=by decide
  have e2:((8+16*0:Nat):Int)=8:=by decide
  rw[e1,e2]
  clear e1 e2
  have G1:=F1.out 8 (by decide)
  have G2:=fun W l1=>F2.out W l1 29 (by decide)
  replace G1:Hid (Calls Tryz.prog 133 #[.pointer (some ⟨x,0,none⟩),.int .u32 8,.int .u64 8] w fun e w'=>e = .returned (.tuple #[])∧WroteB x N (l++[8]) 0 0 w w'):=G1
  replace G2:Hid (∀ (W:World) (l1:List Int),l1.length≤1000001→BitB W x N l1 0 0→Calls Tryz.prog 133 #[.pointer (some ⟨x,0,none⟩),.int .u32 29,.int .u64 8] W fun e w'=>e = .returned (.tuple #[])∧WroteB x N (l1++[29]) 0 0 W w'):=G2
  clear F1 F2
  go_enter Tryz.func99,Tryz.ntmps99
  go_wp2_with fail
  refine G1.out.mono ?_
  rintro e w1 ⟨rfl,hw1⟩
  go_wp2_with fail
  refine (G2.out _ _ (by simp;omega) hw1.bits).mono ?_
  rintro e w2 ⟨rfl,hw2⟩
  go_wp2
  go_end0
  refine ⟨rfl,?_⟩
  have:=hw1.trans hw2
  rw[List.append_assoc] at this
  exact this
 ·clear hv
  have e1:(zFlg 1:Int)=25:=by decide
  have e2:((8+16*1:Nat):Int)=24:=by decide
  rw[e1,e2]
  clear e1 e2
  have G1:=F1.out 24 (by decide)
  have G2:=fun W l1=>F2.out W l1 25 (by decide)
  replace G1:Hid (Calls Tryz.prog 133 #[.pointer (some ⟨x,0,none⟩),.int .u32 24,.int .u64 8] w fun e w'=>e = .returned (.tuple #[])∧WroteB x N (l++[24]) 0 0 w w'):=G1
  replace G2:Hid (∀ (W:World) (l1:List Int),l1.length≤1000001→BitB W x N l1 0 0→Calls Tryz.prog 133 #[.pointer (some ⟨x,0,none⟩),.int .u32 25,.int .u64 8] W fun e w'=>e = .returned (.tuple #[])∧WroteB x N (l1++[25]) 0 0 W w'):=G2
  clear F1 F2
  go_enter Tryz.func99,Tryz.ntmps99
  go_wp2_with fail
  refine G1.out.mono ?_
  rintro e w1 ⟨rfl,hw1⟩
  go_wp2_with fail
  refine (G2.out _ _ (by simp;omega) hw1.bits).mono ?_
  rintro e w2 ⟨rfl,hw2⟩
  go_wp2
  go_end0
  refine ⟨rfl,?_⟩
  have:=hw1.trans hw2
  rw[List.append_assoc] at this
  exact this
 ·clear hv
  have e1:(zFlg 2:Int)=21:=by decide
  have e2:((8+16*2:Nat):Int)=40:=by decide
  rw[e1,e2]
  clear e1 e2
  have G1:=F1.out 40 (by decide)
  have G2:=fun W l1=>F2.out W l1 21 (by decide)
  replace G1:Hid (Calls Tryz.prog 133 #[.pointer (some ⟨x,0,none⟩),.int .u32 40,.int .u64 8] w fun e w'=>e = .returned (.tuple #[])∧WroteB x N (l++[40]) 0 0 w w'):=G1
  replace G2:Hid (∀ (W:World) (l1:List Int),l1.length≤1000001→BitB W x N l1 0 0→Calls Tryz.prog 133 #[.pointer (some ⟨x,0,none⟩),.int .u32 21,.int .u64 8] W fun e w'=>e = .returned (.tuple #[])∧WroteB x N (l1++[21]) 0 0 W w'):=G2
  clear F1 F2
  go_enter Tryz.func99,Tryz.ntmps99
  go_wp2_with fail
  refine G1.out.mono ?_
  rintro e w1 ⟨rfl,hw1⟩
  go_wp2_with fail
  refine (G2.out _ _ (by simp;omega) hw1.bits).mono ?_
  rintro e w2 ⟨rfl,hw2⟩
  go_wp2
  go_end0
  refine ⟨rfl,?_⟩
  have:=hw1.trans hw2
  rw[List.append_assoc] at this
  exact this
 ·clear hv
  have e1:(zFlg 3:Int)=17:=by decide
  have e2:((8+16*3:Nat):Int)=56:=by decide
  rw[e1,e2]
  clear e1 e2
  have G1:=F1.out 56 (by decide)
  have G2:=fun W l1=>F2.out W l1 17 (by decide)
  replace G1:Hid (Calls Tryz.prog 133 #[.pointer (some ⟨x,0,none⟩),.int .u32 56,.int .u64 8] w fun e w'=>e = .returned (.tuple #[])∧WroteB x N (l++[56]) 0 0 w w'):=G1
  replace G2:Hid (∀ (W:World) (l1:List Int),l1.length≤1000001→BitB W x N l1 0 0→Calls Tryz.prog 133 #[.pointer (some ⟨x,0,none⟩),.int .u32 17,.int .u64 8] W fun e w'=>e = .returned (.tuple #[])∧WroteB x N (l1++[17]) 0 0 W w'):=G2
  clear F1 F2
  go_enter Tryz.func99,Tryz.ntmps99
  go_wp2_with fail
  refine G1.out.mono ?_
  rintro e w1 ⟨rfl,hw1⟩
  go_wp2_with fail
  refine (G2.out _ _ (by simp;omega) hw1.bits).mono ?_
  rintro e w2 ⟨rfl,hw2⟩
  go_wp2
  go_end0
  refine ⟨rfl,?_⟩
  have:=hw1.trans hw2
  rw[List.append_assoc] at this
  exact this
 ·clear hv
  have e1:(zFlg 4:Int)=13:=by decide
  have e2:((8+16*4:Nat):Int)=72:=by decide
  rw[e1,e2]
  clear e1 e2
  have G1:=F1.out 72 (by decide)
  have G2:=fun W l1=>F2.out W l1 13 (by decide)
  replace G1:Hid (Calls Tryz.prog 133 #[.pointer (some ⟨x,0,none⟩),.int .u32 72,.int .u64 8] w fun e w'=>e = .returned (.tuple #[])∧WroteB x N (l++[72]) 0 0 w w'):=G1
  replace G2:Hid (∀ (W:World) (l1:List Int),l1.length≤1000001→BitB W x N l1 0 0→Calls Tryz.prog 133 #[.pointer (some ⟨x,0,none⟩),.int .u32 13,.int .u64 8] W fun e w'=>e = .returned (.tuple #[])∧WroteB x N (l1++[13]) 0 0 W w'):=G2
  clear F1 F2
  go_enter Tryz.func99,Tryz.ntmps99
  go_wp2_with fail
  refine G1.out.mono ?_
  rintro e w1 ⟨rfl,hw1⟩
  go_wp2_with fail
  refine (G2.out _ _ (by simp;omega) hw1.bits).mono ?_
  rintro e w2 ⟨rfl,hw2⟩
  go_wp2
  go_end0
  refine ⟨rfl,?_⟩
  have:=hw1.trans hw2
  rw[List.append_assoc] at this
  exact this
 ·clear hv
  have e1:(zFlg 5:Int)=9:=by decide
  have e2:((8+16*5:Nat):Int)=88:=by decide
  rw[e1,e2]
  clear e1 e2
  have G1:=F1.out 88 (by decide)
  have G2:=fun W l1=>F2.out W l1 9 (by decide)
  replace G1:Hid (Calls Tryz.prog 133 #[.pointer (some ⟨x,0,none⟩),.int .u32 88,.int .u64 8] w fun e w'=>e = .returned (.tuple #[])∧WroteB x N (l++[88]) 0 0 w w'):=G1
  replace G2:Hid (∀ (W:World) (l1:List Int),l1.length≤1000001→BitB W x N l1 0 0→Calls Tryz.prog 133 #[.pointer (some ⟨x,0,none⟩),.int .u32 9,.int .u64 8] W fun e w'=>e = .returned (.tuple #[])∧WroteB x N (l1++[9]) 0 0 W w'):=G2
  clear F1 F2
  go_enter Tryz.func99,Tryz.ntmps99
  go_wp2_with fail
  refine G1.out.mono ?_
  rintro e w1 ⟨rfl,hw1⟩
  go_wp2_with fail
  refine (G2.out _ _ (by simp;omega) hw1.bits).mono ?_
  rintro e w2 ⟨rfl,hw2⟩
  go_wp2
  go_end0
  refine ⟨rfl,?_⟩
  have:=hw1.trans hw2
  rw[List.append_assoc] at this
  exact this
 ·clear hv
  have e1:(zFlg 6:Int)=5:=by decide
  have e2:((8+16*6:Nat):Int)=104:=by decide
  rw[e1,e2]
  clear e1 e2
  have G1:=F1.out 104 (by decide)
  have G2:=fun W l1=>F2.out W l1 5 (by decide)
  replace G1:Hid (Calls Tryz.prog 133 #[.pointer (some ⟨x,0,none⟩),.int .u32 104,.int .u64 8] w fun e w'=>e = .returned (.tuple #[])∧WroteB x N (l++[104]) 0 0 w w'):=G1
  replace G2:Hid (∀ (W:World) (l1:List Int),l1.length≤1000001→BitB W x N l1 0 0→Calls Tryz.prog 133 #[.pointer (some ⟨x,0,none⟩),.int .u32 5,.int .u64 8] W fun e w'=>e = .returned (.tuple #[])∧WroteB x N (l1++[5]) 0 0 W w'):=G2
  clear F1 F2
  go_enter Tryz.func99,Tryz.ntmps99
  go_wp2_with fail
  refine G1.out.mono ?_
  rintro e w1 ⟨rfl,hw1⟩
  go_wp2_with fail
  refine (G2.out _ _ (by simp;omega) hw1.bits).mono ?_
  rintro e w2 ⟨rfl,hw2⟩
  go_wp2
  go_end0
  refine ⟨rfl,?_⟩
  have:=hw1.trans hw2
  rw[List.append_assoc] at this
  exact this
 ·clear hv
  have e1:(zFlg 7:Int)=1:=by decide
  have e2:((8+16*7:Nat):Int)=120:=by decide
  rw[e1,e2]
  clear e1 e2
  have G1:=F1.out 120 (by decide)
  have G2:=fun W l1=>F2.out W l1 1 (by decide)
  replace G1:Hid (Calls Tryz.prog 133 #[.pointer (some ⟨x,0,none⟩),.int .u32 120,.int .u64 8] w fun e w'=>e = .returned (.tuple #[])∧WroteB x N (l++[120]) 0 0 w w'):=G1
  replace G2:Hid (∀ (W:World) (l1:List Int),l1.length≤1000001→BitB W x N l1 0 0→Calls Tryz.prog 133 #[.pointer (some ⟨x,0,none⟩),.int .u32 1,.int .u64 8] W fun e w'=>e = .returned (.tuple #[])∧WroteB x N (l1++[1]) 0 0 W w'):=G2
  clear F1 F2
  go_enter Tryz.func99,Tryz.ntmps99
  go_wp2_with fail
  refine G1.out.mono ?_
  rintro e w1 ⟨rfl,hw1⟩
  go_wp2_with fail
  refine (G2.out _ _ (by simp;omega) hw1.bits).mono ?_
  rintro e w2 ⟨rfl,hw2⟩
  go_wp2
  go_end0
  refine ⟨rfl,?_⟩
  have:=hw1.trans hw2
  rw[List.append_assoc] at this
  exact this
theorem u32_not (n:Nat) (h:n<4294967296):bits BinOp.xor IntKind.u32 IntKind.u32.max (n:Int)=((4294967295 - n:Nat):Int):=by
 rw[show IntKind.u32.max=((4294967295:Nat):Int) from rfl,u32_xor_nat 4294967295 n (by omega) h]
 have:4294967295 ^^^ n=4294967295 - n:=by
  have e:(BitVec.allOnes 32 ^^^ BitVec.ofNat 32 n).toNat=(~~~ BitVec.ofNat 32 n).toNat:=by rw[BitVec.allOnes_xor]
  rw[BitVec.toNat_xor,BitVec.toNat_not,BitVec.toNat_allOnes,BitVec.toNat_ofNat,Nat.mod_eq_of_lt (by omega)] at e
  exact e
 rw[this]
end Go.Proofs.YtmbmecfodigciaaGreatDoor
namespace Px
def adlL (s:Nat) (l:List Int):Nat:=l.foldl (fun s x=>adl s x.toNat) s
theorem adlL_lt (s:Nat) (l:List Int) (h:s<4294967296):adlL s l<4294967296:=by
 unfold adlL
 induction l generalizing s with
 | nil=>exact h
 | cons x l ih=>exact ih _ (adl_lt _ _)
end Px
namespace Go.Proofs.YtmbmecfodigciaaGreatDoor
open Go.RowKit Px
set_option linter.unusedSimpArgs false
set_option linter.unusedVariables false
def beB (n:Nat):List Int:=[((n / 16777216 % 256:Nat):Int),((n / 65536 % 256:Nat):Int),((n / 256 % 256:Nat):Int),((n % 256:Nat):Int)]
theorem sum_b (x N:Nat) (l:List Int) (v:Value) (d:List Int) (w:World) (h:BitB w x N l 0 0) (hl:LAt w .u8 v d) (hB:isBytes d) (hn:d.length≤65535) (hll:l.length≤100000) :
  Calls Tryz.prog 103 #[.pointer (some ⟨x,0,none⟩),v] w fun e w'=>e = .returned (.tuple #[])∧WroteB x N (l++beB (adlL 1 d)) 0 0 w w':=by
 obtain ⟨p,c,rfl⟩:=hl.form
 have F5:Hid (∀ (W:World) (l1:List Int) (n:Nat),n<4294967296→l1.length≤1000000→BitB W x N l1 0 0→Calls Tryz.prog 133 #[.pointer (some ⟨x,0,none⟩),.int .u32 (n:Int),.int .u64 8] W fun e w'=>e = .returned (.tuple #[])∧WroteB x N (l1++[((n % 256:Nat):Int)]) 0 0 W w'):=fun W l1 n hn hl1 hb=>byte_b x N l1 n W hb hn (by omega)
 have HL:Hid (LAt w .u8 (.slice p d.length c) d):=hl
 have HB:Hid (isBytes d):=hB
 have H0:Hid (BitB w x N l 0 0):=h
 clear h hl hB
 go_enter Tryz.func103,Tryz.ntmps103
 go_wp2_with fail
 go_loopg [4,5] d.length (fun m u v W=>∃ k:Nat,m=d.length - k∧k≤d.length∧v = .int .i64 (k:Int)∧u = .int .u32 (adlL 1 (d.take k):Int)∧Kept w W)
 case atStart=>exact ⟨0,by omega,by omega,rfl,rfl,Kept.refl _⟩
 case round=>
  obtain ⟨k,hgk,hk,rfl,rfl,hK⟩:=hrel
  replace hgk:Hid _:=hgk
  have hq1:adlL 1 (d.take k)<4294967296:=adlL_lt _ _ (by omega)
  by_cases hlt:k<d.length
  ·obtain ⟨g,o,rfl,hc⟩:=(HL.out.kept hK).cellAt k hlt
   have hb:=HB.out _ (getD_mem hlt)
   obtain ⟨B,hBB⟩:∃ B:Nat,d.getD k 0=(B:Int):=⟨(d.getD k 0).toNat,by omega⟩
   have HTk:Hid (adlL 1 (d.take (k+1))=adl (adlL 1 (d.take k)) B):=by
    show adlL 1 (d.take (k+1))=_
    have hg:d[k]=(B:Int):=by rw[← hBB,List.getD_eq_getElem?_getD,List.getElem?_eq_getElem hlt];rfl
    rw[List.take_succ_eq_append_getElem hlt,hg]
    unfold adlL
    rw[List.foldl_append]
    rfl
   rw[hBB] at hc hb
   have hb1:B<256:=by omega
   clear hb hBB
   have hlt':(k:Int)<(d.length:Int):=by omega
   have hk0:(0:Int)≤(k:Int):=by omega
   obtain ⟨q,hq⟩:∃ q,q=adlL 1 (d.take k):=⟨_,rfl⟩
   rw[← hq] at HTk hq1 ⊢
   clear hq
   have FA:Hid (∀ W,Calls Tryz.prog 136 #[.int .u32 (q:Int),.int .u8 (B:Int)] W fun e w'=>e = .returned (.int .u32 (adl q B:Int))∧w'=W):=fun W=>adler_x q B W hq1 hb1
   replace hK:Hid (Kept w wr):=hK
   go_wp2_with fail
   refine (FA.out _).mono ?_
   rintro e w5 ⟨rfl,hw5⟩
   subst w5
   go_wp2_with fail
   go_roundg (d.length - (k+1))
   case measure=>rw[hgk.out];omega
   case rel=>exact ⟨k+1,rfl,by omega,by go_num,by rw[HTk.out],hK.out⟩
  ·replace hK:Hid (Kept w wr):=hK
   have hke:k=d.length:=by omega
   have hlt':¬ (k:Int)<(d.length:Int):=by omega
   have HA:Hid (adlL 1 (d.take k)=adlL 1 d):=by show adlL 1 (d.take k)=adlL 1 d;rw[hke,List.take_length]
   obtain ⟨q,hq⟩:∃ q,q=adlL 1 (d.take k):=⟨_,rfl⟩
   rw[← hq] at HA hq1 ⊢
   clear hq
   replace hke:Hid _:=hke
   have H1:Hid (WroteB x N l 0 0 w wr):=(WroteB.refl H0.out).kept hK.out
   clear hK
   have e24:(q:Int) / 16777216=((q / 16777216:Nat):Int):=by omega
   have e16:(q:Int) / 65536=((q / 65536:Nat):Int):=by omega
   have e8:(q:Int) / 256=((q / 256:Nat):Int):=by omega
   obtain ⟨q3,hq3⟩:∃ q3,q3=q / 16777216:=⟨_,rfl⟩
   obtain ⟨q2,hq2⟩:∃ q2,q2=q / 65536:=⟨_,rfl⟩
   obtain ⟨qq,hqq⟩:∃ qq,qq=q / 256:=⟨_,rfl⟩
   rw[← hq3] at e24
   rw[← hq2] at e16
   rw[← hqq] at e8
   have HBe:Hid (l++beB (adlL 1 d)=l++[((q3 % 256:Nat):Int)]++[((q2 % 256:Nat):Int)]++[((qq % 256:Nat):Int)]++[((q % 256:Nat):Int)]):=by
    show l++beB (adlL 1 d)=_
    rw[← HA.out,hq3,hq2,hqq]
    simp [beB]
   have h3:q3<4294967296:=by omega
   have h2:q2<4294967296:=by omega
   have h1':qq<4294967296:=by omega
   clear hq3 hq2 hqq
   go_wp2_with fail
   go_loopg [6] 4 (fun m v W=>(m=4∧v = .int .i64 32∧WroteB x N l 0 0 w W)∨(m=3∧v = .int .i64 24∧WroteB x N (l++[((q3 % 256:Nat):Int)]) 0 0 w W)∨(m=2∧v = .int .i64 16∧WroteB x N (l++[((q3 % 256:Nat):Int)]++[((q2 % 256:Nat):Int)]) 0 0 w W)∨(m=1∧v = .int .i64 8∧WroteB x N (l++[((q3 % 256:Nat):Int)]++[((q2 % 256:Nat):Int)]++[((qq % 256:Nat):Int)]) 0 0 w W)∨(m=0∧v = .int .i64 0∧WroteB x N (l++[((q3 % 256:Nat):Int)]++[((q2 % 256:Nat):Int)]++[((qq % 256:Nat):Int)]++[((q % 256:Nat):Int)]) 0 0 w W))
   case atStart=>exact Or.inl ⟨rfl,rfl,H1.out⟩
   case round=>
    rcases hrel with ⟨hm,rfl,hW⟩ | ⟨hm,rfl,hW⟩ | ⟨hm,rfl,hW⟩ | ⟨hm,rfl,hW⟩ | ⟨hm,rfl,hW⟩
    ·have FF:Hid (Calls Tryz.prog 133 #[.pointer (some ⟨x,0,none⟩),.int .u32 (q3:Int),.int .u64 8] wr fun e w'=>e = .returned (.tuple #[])∧WroteB x N (l++[((q3 % 256:Nat):Int)]) 0 0 wr w'):=F5.out wr _ q3 h3 (by first | omega | (simp;omega)) hW.bits
     replace hW:Hid (WroteB x N (l) 0 0 w wr):=hW
     replace hm:Hid _:=hm
     go_wp2_with fail
     refine FF.out.mono ?_
     rintro e w6 ⟨rfl,hw6⟩
     replace hw6:Hid (WroteB x N (l++[((q3 % 256:Nat):Int)]) 0 0 w w6):=hW.out.trans hw6
     go_wp2_with fail
     go_roundg 3
     case measure=>rw[hm.out];omega
     case rel=>exact Or.inr (Or.inl ⟨rfl,by first | rfl | go_num,hw6.out⟩)
    ·have FF:Hid (Calls Tryz.prog 133 #[.pointer (some ⟨x,0,none⟩),.int .u32 (q2:Int),.int .u64 8] wr fun e w'=>e = .returned (.tuple #[])∧WroteB x N (l++[((q3 % 256:Nat):Int)]++[((q2 % 256:Nat):Int)]) 0 0 wr w'):=F5.out wr _ q2 h2 (by first | omega | (simp;omega)) hW.bits
     replace hW:Hid (WroteB x N (l++[((q3 % 256:Nat):Int)]) 0 0 w wr):=hW
     replace hm:Hid _:=hm
     go_wp2_with fail
     refine FF.out.mono ?_
     rintro e w6 ⟨rfl,hw6⟩
     replace hw6:Hid (WroteB x N (l++[((q3 % 256:Nat):Int)]++[((q2 % 256:Nat):Int)]) 0 0 w w6):=hW.out.trans hw6
     go_wp2_with fail
     go_roundg 2
     case measure=>rw[hm.out];omega
     case rel=>exact Or.inr (Or.inr (Or.inl ⟨rfl,by first | rfl | go_num,hw6.out⟩))
    ·have FF:Hid (Calls Tryz.prog 133 #[.pointer (some ⟨x,0,none⟩),.int .u32 (qq:Int),.int .u64 8] wr fun e w'=>e = .returned (.tuple #[])∧WroteB x N (l++[((q3 % 256:Nat):Int)]++[((q2 % 256:Nat):Int)]++[((qq % 256:Nat):Int)]) 0 0 wr w'):=F5.out wr _ qq h1' (by first | omega | (simp;omega)) hW.bits
     replace hW:Hid (WroteB x N (l++[((q3 % 256:Nat):Int)]++[((q2 % 256:Nat):Int)]) 0 0 w wr):=hW
     replace hm:Hid _:=hm
     go_wp2_with fail
     refine FF.out.mono ?_
     rintro e w6 ⟨rfl,hw6⟩
     replace hw6:Hid (WroteB x N (l++[((q3 % 256:Nat):Int)]++[((q2 % 256:Nat):Int)]++[((qq % 256:Nat):Int)]) 0 0 w w6):=hW.out.trans hw6
     go_wp2_with fail
     go_roundg 1
     case measure=>rw[hm.out];omega
     case rel=>exact Or.inr (Or.inr (Or.inr (Or.inl ⟨rfl,by first | rfl | go_num,hw6.out⟩)))
    ·have FF:Hid (Calls Tryz.prog 133 #[.pointer (some ⟨x,0,none⟩),.int .u32 (q:Int),.int .u64 8] wr fun e w'=>e = .returned (.tuple #[])∧WroteB x N (l++[((q3 % 256:Nat):Int)]++[((q2 % 256:Nat):Int)]++[((qq % 256:Nat):Int)]++[((q % 256:Nat):Int)]) 0 0 wr w'):=F5.out wr _ q hq1 (by first | omega | (simp;omega)) hW.bits
     replace hW:Hid (WroteB x N (l++[((q3 % 256:Nat):Int)]++[((q2 % 256:Nat):Int)]++[((qq % 256:Nat):Int)]) 0 0 w wr):=hW
     replace hm:Hid _:=hm
     go_wp2_with fail
     refine FF.out.mono ?_
     rintro e w6 ⟨rfl,hw6⟩
     replace hw6:Hid (WroteB x N (l++[((q3 % 256:Nat):Int)]++[((q2 % 256:Nat):Int)]++[((qq % 256:Nat):Int)]++[((q % 256:Nat):Int)]) 0 0 w w6):=hW.out.trans hw6
     go_wp2_with fail
     go_roundg 0
     case measure=>rw[hm.out];omega
     case rel=>exact Or.inr (Or.inr (Or.inr (Or.inr ⟨rfl,by first | rfl | go_num,hw6.out⟩)))
    ·replace hW:Hid (WroteB x N (l++[((q3 % 256:Nat):Int)]++[((q2 % 256:Nat):Int)]++[((qq % 256:Nat):Int)]++[((q % 256:Nat):Int)]) 0 0 w wr):=hW
     replace hm:Hid _:=hm
     go_wp2_with fail
     go_end0
     rw[HBe.out]
     exact ⟨rfl,hW.out⟩
end Go.Proofs.YtmbmecfodigciaaGreatDoor
namespace Px
def crcI (s:Nat) (l:List Int):Nat:=l.foldl (fun s x=>crcAdd s x.toNat) s
theorem crcI_snoc (s:Nat) (l:List Int) (b:Nat):crcI s (l++[(b:Int)])=crcAdd (crcI s l) b:=by unfold crcI;rw[List.foldl_append];rfl
end Px
namespace Go.Proofs.YtmbmecfodigciaaGreatDoor
open Go.RowKit Px
set_option linter.unusedSimpArgs false
set_option linter.unusedVariables false
theorem OwnB.slice' {w:World} {N:Nat} {v:Value} {l:List Int} (h:OwnB w N v l) {n:Nat} (e:l.length=n):∃ p c,v = .slice p n c:=by subst e;exact h.slice
theorem appendB' (w:World) {ops:Array Oper} {rest:List Oper} {o:Oper} {a:Act} {Q:Exit→Act→World→Prop}
  (hg:o.guard=none) (s x:Operand) (hop:o.op=Op.call { callee:=Callee.builtin Builtin.append,args:=#[s,x],argTypes:=#[56,56] })
  (N:Nat) (v:Value) (L:List Int) (hs:a.eval s=v) (hown:OwnB w N v L)
  (g o':Nat) (m c:Nat) (es:List Int) (hx:a.eval x = .slice (some ⟨g,o',none⟩) m c) (hm:m=es.length) (h0:0<m) (hE:isBytes es) (hc:∀ j,j<m→w.cell? ⟨g,o'+j,none⟩=some (.int .u8 (es.getD j 0))) (hb:L.length+m≤1099511627776) (hbase:N≤w.heap.size)
  (hK:∀ v' w',OwnB w' N v' (L++es)→Fr (fun k=>v.ownBlock=some k) w w'→(∀ k,v'.ownBlock=some k→v.ownBlock=some k∨w.heap.size≤k)→wpList Tryz.prog ops Q rest (a.put o.dst v') w') :
  wpList Tryz.prog ops Q (o::rest) a w:=by
 obtain ⟨hB,ho⟩:=hown
 subst hm
 refine append_own w 56 56 5 1 1 (.int .u8 0) Tryz.underlying56 infoU8 rfl (by omega) hg s x hop N v L.length (u8s L) hs ho ⟨g,o',none⟩ es.length c (u8s es) hx (by simp [u8s]) h0 ?_ ?_ (by unfold maxLen;omega) (by omega) hbase ?_ rfl
 ·intro j u hj
  have hlt:j<es.length:=by
   have:=(List.getElem?_eq_some_iff.1 hj).1
   simpa [u8s] using this
  rw[Addr.add_mid,hc j hlt]
  simp [u8s,List.getElem?_map,List.getElem?_eq_getElem hlt] at hj
  rw[← hj]
  simp [List.getD_eq_getElem?_getD,List.getElem?_eq_getElem hlt]
 ·intro u hu;simp [u8s] at hu;obtain ⟨y,_,rfl⟩:=hu;rfl
 ·intro v' w' h1 h2 h3
  exact hK v' w' ⟨hB.app hE,by simpa [u8s] using h1⟩ ⟨h2.os,h2.tape,h2.output,h2.size,fun k hk hn=>h2.block k hk (fun e=>hn e.symm)⟩ h3
theorem appendBA (w:World) {ops:Array Oper} {rest:List Oper} {o:Oper} {a:Act} {Q:Exit→Act→World→Prop}
  (hg:o.guard=none) (s x:Operand) (hop:o.op=Op.call { callee:=Callee.builtin Builtin.append,args:=#[s,x],argTypes:=#[56,56] })
  (N:Nat) (v:Value) (L:List Int) (hs:a.eval s=v) (hown:OwnB w N v L) (h0:0<L.length)
  (p:Option Addr) (c:Nat) (l:List Int) (hx:a.eval x = .slice p l.length c) (hl:LAt w .u8 (.slice p l.length c) l) (hE:isBytes l) (hpc:p=none→c=0) (hb:L.length+l.length≤1099511627776) (hbase:N≤w.heap.size)
  (hK:∀ v' w',OwnB w' N v' (L++l)→Fr (fun k=>v.ownBlock=some k) w w'→(∀ k,v'.ownBlock=some k→v.ownBlock=some k∨w.heap.size≤k)→wpList Tryz.prog ops Q rest (a.put o.dst v') w') :
  wpList Tryz.prog ops Q (o::rest) a w:=by
 by_cases hl0:l.length=0
 ·obtain ⟨hxb,ho⟩:=hown
  have ho':=ho
  rcases ho.2 with ⟨hv,hz⟩ | ⟨g,cap,cur,hv,hgb,hh,hnc,hcm,hcs,htk⟩
  ·omega
  ·subst hv
   have hle:l=[]:=List.eq_nil_of_length_eq_zero hl0
   obtain ⟨i0,hi,hz0,hz1,hz2⟩:=info_parts' infoU8
   refine wpList_append_fits_any w hg s x 56 hop N 5 i0 1 Tryz.underlying56 hi hz1 g L.length cap (u8s L) hs ho' p l.length c [] hx (by simp [hl0]) (fun e=>⟨hl0,hpc e⟩) (fun ad _ j u hj=>by simp at hj) (fun u hu=>by simp at hu) (by omega) ?_
   intro w' h1 h2
   refine hK _ w' ?_ ⟨h2.os,h2.tape,h2.output,h2.size,fun k hk hn=>h2.block k hk (fun e=>hn e.symm)⟩ (fun k hk=>Or.inl hk)
   rw[hle,List.append_nil]
   refine ⟨hxb,?_⟩
   simpa [hl0] using h1
 ·obtain ⟨g,o',c',e,hc⟩:=hl.addr (by omega)
  injection e with e _ _
  subst e
  exact appendB' w hg s x hop N v L hs hown g o' l.length c l hx rfl (by omega) hE hc hb hbase hK
structure WrB (W:World) (x N:Nat) (L:List Int) (S:Nat→Prop):Prop where
 lt:x<N
 size:N≤W.heap.size
 fz:∀ k,W.frozen? ⟨x,k,none⟩=false
 sx:S x
 new:∀ g,W.heap.size≤g→S g
 out:∃ ov,W.cell? ⟨x,0,none⟩=some ov∧OwnB W N ov L∧∀ g,ov.ownBlock=some g→S g
theorem WrB.kept {W W':World} {x N:Nat} {L:List Int} {S:Nat→Prop} (h:WrB W x N L S) (k:Kept W W'):WrB W' x N L S:=by
 obtain ⟨h1,h2,h3,sx,nw,ov,h4,h5,h6⟩:=h
 have hx:x<W.heap.size:=by omega
 exact ⟨h1,Nat.le_trans h2 k.size,fun j=>(k.frozen (p:=⟨x,j,none⟩) hx).trans (h3 j),sx,fun g hg=>nw g (Nat.le_trans k.size hg),ov,(k.cell (p:=⟨x,0,none⟩) hx).trans h4,h5.kept k,h6⟩
theorem WrB.turn {W:World} {x N:Nat} {L:List Int} {S S':Nat→Prop} (h:WrB W x N L S) (hS:∀ g,g<W.heap.size→S g→S' g) (hn:∀ g,W.heap.size≤g→S' g):WrB W x N L S':=by
 obtain ⟨h1,h2,h3,sx,nw,ov,h4,h5,h6⟩:=h
 exact ⟨h1,h2,h3,hS x (by omega) sx,hn,ov,h4,h5,fun g hg=>hS g (h5.2.lt g hg).2 (h6 g hg)⟩
structure PutB (x N:Nat) (L:List Int) (S:Nat→Prop) (w w':World):Prop where
 at':WrB w' x N L S
 fr:Fr S w w'
theorem PutB.trans {x N:Nat} {L M:List Int} {S:Nat→Prop} {a b c:World} (h:PutB x N L S a b) (k:PutB x N M S b c):PutB x N M S a c:=⟨k.at',h.fr.trans k.fr⟩
theorem PutB.refl {x N:Nat} {L:List Int} {S:Nat→Prop} {a:World} (h:WrB a x N L S):PutB x N L S a a:=⟨h,Fr.refl _ _⟩
theorem PutB.kept {x N:Nat} {L:List Int} {S:Nat→Prop} {a b c:World} (h:PutB x N L S a b) (k:Kept b c):PutB x N L S a c:=⟨h.at'.kept k,h.fr.kept k⟩
theorem beB_int (n:Nat) (h:n<4294967296):[(n:Int) / 16777216,(n:Int) / 65536 % 256,(n:Int) / 256 % 256,(n:Int) % 256]=beB n:=by
 unfold beB
 rw[show (n:Int) / 16777216=((n / 16777216 % 256:Nat):Int) from by omega,show (n:Int) / 65536 % 256=((n / 65536 % 256:Nat):Int) from by omega,show (n:Int) / 256 % 256=((n / 256 % 256:Nat):Int) from by omega,show (n:Int) % 256=((n % 256:Nat):Int) from by omega]
theorem beB_len (n:Nat):(beB n).length=4:=rfl
theorem beB_ok (n:Nat):isBytes (beB n):=by
 intro y hy
 unfold beB at hy
 simp only [List.mem_cons,List.not_mem_nil,or_false] at hy
 rcases hy with rfl | rfl | rfl | rfl<;>omega
theorem num4_b (x N n:Nat) (L:List Int) (w:World) (S:Nat→Prop) (h:WrB w x N L S) (hn1:n<4294967296) (hm:L.length≤1000000000) :
  Calls Tryz.prog 137 #[.pointer (some ⟨x,0,none⟩),.int .u32 (n:Int)] w fun r w'=>r = .returned (.tuple #[])∧PutB x N (L++beB n) S w w':=by
 obtain ⟨hlt,hsz,hfz,hSx,hSn,ov,h0,hown,hSo⟩:=h
 obtain ⟨m,hmL⟩:∃ m,L.length=m:=⟨_,rfl⟩
 obtain ⟨p,c,rfl⟩:=hown.slice' hmL
 rw[hmL] at hm
 have hfa:=hfz 0
 have HO:Hid (OwnB w N (.slice p m c) L):=hown
 replace hfz:Hid (∀ k,w.frozen? ⟨x,k,none⟩=false):=hfz
 have hne:¬ (Value.slice p m c).ownBlock=some x:=fun e=>by have:=HO.out.ge x e;omega
 have hxs:x<w.heap.size:=by omega
 replace hSo:Hid _:=hSo
 replace hSn:Hid (∀ g,w.heap.size≤g→S g):=hSn
 have HML:Hid (L.length=m):=hmL
 have hML4:Hid ((L++beB n).length=m+4):=by show (L++beB n).length=m+4;rw[List.length_append,hmL,beB_len]
 have hbnd:Hid (L.length+4≤1099511627776):=by show L.length+4≤1099511627776;omega
 clear hown hmL
 go_enter Tryz.func137,Tryz.ntmps137
 have EB:Hid _:=beB_int n hn1
 have HE:Hid (isBytes [(n:Int) / 16777216,(n:Int) / 65536 % 256,(n:Int) / 256 % 256,(n:Int) % 256]):=by rw[EB.out];exact beB_ok n
 have HC:Hid (∀ j,j<4→(w.alloc (Obj.cells #[Value.int IntKind.u8 ((n:Int) / 16777216),Value.int IntKind.u8 ((n:Int) / 65536 % 256),Value.int IntKind.u8 ((n:Int) / 256 % 256),Value.int IntKind.u8 ((n:Int) % 256)] 5)).cell? ⟨w.heap.size,0+j,none⟩=some (.int .u8 ([(n:Int) / 16777216,(n:Int) / 65536 % 256,(n:Int) / 256 % 256,(n:Int) % 256].getD j 0))):=by
  intro j hj
  rw[Nat.zero_add]
  rw[World.cell?_alloc_at _ _ _ _ rfl]
  have:j=0∨j=1∨j=2∨j=3:=by omega
  rcases this with rfl | rfl | rfl | rfl<;>rfl
 go_wp2_with (at_builtin;refine appendB' _ rfl _ _ rfl N (.slice p m c) L rfl (HO.out.alloc _) w.heap.size 0 4 4 [(n:Int) / 16777216,(n:Int) / 65536 % 256,(n:Int) / 256 % 256,(n:Int) % 256] rfl rfl (by omega) HE.out HC.out hbnd.out (by simp;omega) ?_)
 intro v' w2 ho2 hf2 hn2
 rw[EB.out] at ho2
 obtain ⟨p',c',rfl⟩:=ho2.slice' hML4.out
 have fk:Fr (fun k=>(Value.slice p m c).ownBlock=some k) w w2:=((Fr.refl _ w).alloc _).trans hf2
 have k0:=(fk.cell (k:=0) hxs hne).trans h0
 have g0:=(fk.frozen (k:=0) hxs hne).trans hfa
 have HO2:Hid (OwnB w2 N (.slice p' (m+4) c') (L++beB n)):=ho2
 have HF2:Hid (Fr S w w2):=fk.mono (fun i _ e=>hSo.out i e)
 have HN2:Hid (∀ k,(Value.slice p' (m+4) c').ownBlock=some k→S k):=fun k hk=>by
  rcases hn2 k hk with h | h
  ·exact hSo.out k h
  ·exact hSn.out k (by first | omega | (simp at h;omega))
 have HG2:Hid (∀ k,w2.frozen? ⟨x,k,none⟩=false):=fun k=>(fk.frozen hxs hne).trans (hfz.out k)
 clear hf2 ho2 fk hn2
 go_wp2
 go_end0
 have hse:(w2.setCell ⟨x,0,none⟩ (Value.slice p' (m+4) c')).heap.size=w2.heap.size:=by simp [World.setCell]
 exact ⟨rfl,⟨hlt,by rw[hse];exact Nat.le_trans hsz HF2.out.size,fun k=>by rw[World.frozen?_setCell];exact HG2.out k,hSx,fun g hg=>hSn.out g (by rw[hse] at hg;have:=HF2.out.size;omega),⟨_,cell_set_same k0 _,HO2.out.set hlt _ _,HN2.out⟩⟩,HF2.out.setCell (Or.inl hSx) _ _⟩
end Go.Proofs.YtmbmecfodigciaaGreatDoor
