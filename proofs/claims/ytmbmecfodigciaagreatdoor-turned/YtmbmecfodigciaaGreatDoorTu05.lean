import Derived.Test.YtmbmecfodigciaaGreatDoorTu04
set_option maxRecDepth 100000
set_option maxHeartbeats 6400000
namespace Go.Proofs.YtmbmecfodigciaaGreatDoor
open Go.RowKit Px
set_option linter.unusedSimpArgs false
set_option linter.unusedVariables false
theorem CSV.of_cells {d:Nat->Value} {o:Nat} {s:CS} (h:∀ j,j<306->d (o+j)=csC s j):CSV d o s:=by
 have k:=csC_V s
 refine ⟨fun i hi => ?_,fun i hi => ?_,?_,?_⟩
 ·rw[h i (by omega)];have:=k.count i hi;rwa [Nat.zero_add] at this
 ·rw[show o+16+i=o+(16+i) from by omega,h (16+i) (by omega)];have:=k.sym i hi;rwa [show 0+16+i=16+i from by omega] at this
 ·rw[h 304 (by omega)];have:=k.total;rwa [Nat.zero_add] at this
 ·rw[h 305 (by omega)];have:=k.longest;rwa [Nat.zero_add] at this
def St.block1 (s:St) (v:Nat):St:=({ s with last:=decide (v % 2=1),lit:=fixL,dist:=fixD }:St).enter 12 0
theorem takeBlock1_x (b o n v:Nat) (c:Nat->Value) (s:St) (w:World) (hB:Blk w b n c) (hV:StV c o s) (hn:o+3351<=n) (hv:v=2\/v=3) :
  Calls Tryz.prog 178 #[.pointer (some ⟨b,o,none⟩),.int .u32 (v:Int)] w fun e w'=>e = .returned (.int .i64 0)/\StStep b o n c (s.block1 v) w w':=by
 have k9:=hB.at (i:=o+9) (by omega) hV.last
 have z:=hB.fz
 have HB:Hid (Blk w b n c):=hB
 have HV:Hid (StV c o s):=hV
 have ea:=u32_and_1 v (by omega)
 have e2:(v:Int) / 2=1:=by omega
 obtain ⟨B1,hB1⟩:∃ B1,B1=v % 2:=⟨_,rfl⟩
 rw[<- hB1] at ea
 have HL:Hid (((B1:Int) == 1)=decide (v % 2=1)):=by show ((B1:Int) == 1)=decide (v % 2=1);rw[Bool.eq_iff_iff,beq_iff_eq,decide_eq_true_iff];omega
 have HE:Hid (s.block1 v=({ s with last:=decide (v % 2=1),lit:=fixL,dist:=fixD }:St).enter 12 0):=rfl
 generalize decide (v % 2=1)=LL at *
 replace hB1:Hid _:=hB1
 clear hB hV hv
 go_enter Tryz.func178,Tryz.ntmps178
 go_wp2_with fail
 rw[HL.out]
 have BB1:Hid (Blk (w.setCell ⟨b,o+9,none⟩ (.bool LL)) b n (upd c (o+9) (.bool LL))):=HB.out.set (by omega) _
 have VV1:Hid (StV (upd c (o+9) (.bool LL)) o { s with last:=LL }):=HV.out.set_last LL
 have FF1:Hid (Fr1 b w (w.setCell ⟨b,o+9,none⟩ (.bool LL))):=Fr1.set (Fr.refl _ _) _ _
 have CC1:Hid (FrC b o (o+3351) c (upd c (o+9) (.bool LL))):=FrC.upd _ (by omega) (by omega)
 generalize w.setCell ⟨b,o+9,none⟩ (.bool LL)=w1 at *
 generalize upd c (o+9) (.bool LL)=c1 at *
 clear k9 z HB HV
 refine (fixedLits_x w1).mono ?_
 rintro e w2 ⟨rfl,hk2⟩
 obtain ⟨ds,hds⟩:∃ ds,ds=(List.range 306).map (csC ⟨cntF 288,syF 288,288,lgF 288⟩):=⟨_,rfl⟩
 have hdl:ds.length=306:=by rw[hds];exact range_len _ 306
 have hdo:∀ v ∈ ds,v.oneCell'=true:=by rw[hds];exact csC_one _
 have hdg:∀ j,j<306->ds[j]? = some (csC fixL j):=fun j hj=>by rw[hds,range_get _ 306 j hj,csC_fixL j hj]
 rw[<- hds]
 have B2:Blk w2 b n c1:=BB1.out.kept hk2
 have hsc:(storeCells ⟨b,o+11,none⟩ ds).run Tryz.prog w2 = .ok () (w2.setCells b (o+11) ds):=store_all (by rw[hdl];exact B2.there (by omega)) hdo
 have BB3:Hid (Blk (w2.setCells b (o+11) ds) b n (updL c1 (o+11) 306 (csC fixL))):=B2.sets (by omega) _ hdl hdg
 have VV3:Hid (StV (updL c1 (o+11) 306 (csC fixL)) o { s with last:=LL,lit:=fixL }):=VV1.out.set_lit fixL (CSV.of_cells (fun j hj=>updL_in hj)) (fun i hi=>updL_out (fun q=>hi ⟨q.1,by omega⟩))
 have FF3:Hid (Fr1 b w (w2.setCells b (o+11) ds)):=Fr1.sets _ _ (FF1.out.kept hk2)
 have CC3:Hid (FrC b o (o+3351) c (updL c1 (o+11) 306 (csC fixL))):=CC1.out.trans (FrC.updL (by omega) (by omega))
 replace hds:Hid _:=hds
 replace hdl:Hid _:=hdl
 replace hdo:Hid _:=hdo
 replace hdg:Hid _:=hdg
 clear B2 hk2 BB1 VV1 FF1 CC1
 go_upto_region 9 with fail
 generalize w2.setCells b (o+11) ds=w3 at *
 generalize updL c1 (o+11) 306 (csC fixL)=c3 at *
 clear hsc
 go_wp2_with fail
 refine (fixedDists_x w3).mono ?_
 rintro e w4 ⟨rfl,hk4⟩
 obtain ⟨es,hes⟩:∃ ds,ds=(List.range 306).map (csC ⟨cntD 32,syD 32,32,lgD 32⟩):=⟨_,rfl⟩
 have hel:es.length=306:=by rw[hes];exact range_len _ 306
 have heo:∀ v ∈ es,v.oneCell'=true:=by rw[hes];exact csC_one _
 have heg:∀ j,j<306->es[j]? = some (csC fixD j):=fun j hj=>by rw[hes,range_get _ 306 j hj,csC_fixD j hj]
 rw[<- hes]
 have B4:Blk w4 b n c3:=BB3.out.kept hk4
 have hsc:(storeCells ⟨b,o+317,none⟩ es).run Tryz.prog w4 = .ok () (w4.setCells b (o+317) es):=store_all (by rw[hel];exact B4.there (by omega)) heo
 have BB5:Hid (Blk (w4.setCells b (o+317) es) b n (updL c3 (o+317) 306 (csC fixD))):=B4.sets (by omega) _ hel heg
 have VV5:Hid (StV (updL c3 (o+317) 306 (csC fixD)) o { s with last:=LL,lit:=fixL,dist:=fixD }):=VV3.out.set_dist fixD (CSV.of_cells (fun j hj=>updL_in hj)) (fun i hi=>updL_out (fun q=>hi ⟨q.1,by omega⟩))
 have FF5:Hid (Fr1 b w (w4.setCells b (o+317) es)):=Fr1.sets _ _ (FF3.out.kept hk4)
 have CC5:Hid (FrC b o (o+3351) c (updL c3 (o+317) 306 (csC fixD))):=CC3.out.trans (FrC.updL (by omega) (by omega))
 replace hes:Hid _:=hes
 replace hel:Hid _:=hel
 replace heo:Hid _:=heo
 replace heg:Hid _:=heg
 clear B4 hk4 BB3 VV3 FF3 CC3
 go_upto_region 10 with fail
 generalize w4.setCells b (o+317) es=w5 at *
 generalize updL c3 (o+317) 306 (csC fixD)=c5 at *
 clear hsc
 go_wp2_with fail
 refine (senter_x b o n 12 0 c5 { s with last:=LL,lit:=fixL,dist:=fixD } w5 BB5.out VV5.out hn).mono ?_
 rintro e w6 ⟨rfl,d,h1,h2,h3,h4⟩
 go_wp2_with fail
 go_ret
 rw[HE.out]
 exact ⟨rfl,d,h1,h2,CC5.out.trans h3,FF5.out.trans h4⟩
theorem and_mask (a m k:Nat):a &&& ((2^m - 1)*2^k)=a / 2^k % 2^m*2^k:=by
 apply Nat.eq_of_testBit_eq
 intro i
 rw[Nat.testBit_and,Nat.testBit_mul_two_pow,Nat.testBit_mul_two_pow,Nat.testBit_two_pow_sub_one,Nat.testBit_mod_two_pow,Nat.testBit_div_two_pow]
 by_cases h:k<=i
 ·simp only [h,decide_true,Bool.true_and]
  rw[show i - k+k=i from by omega,Bool.and_comm]
 ·simp only [h,decide_false,Bool.false_and,Bool.and_false]
theorem u32_and_n (a c:Nat) (ha:a<4294967296) (hc:c<4294967296):bits .and .u32 (a:Int) (c:Int)=((a &&& c:Nat):Int):=by
 show IntKind.u32.wrap ((BitVec.ofInt 32 (a:Int) &&& BitVec.ofInt 32 (c:Int)).toNat:Int)=_
 have e1:(BitVec.ofInt 32 (a:Int)).toNat=a:=by rw[BitVec.ofInt_natCast,BitVec.toNat_ofNat];exact Nat.mod_eq_of_lt (by omega)
 have e2:(BitVec.ofInt 32 (c:Int)).toNat=c:=by rw[BitVec.ofInt_natCast,BitVec.toNat_ofNat];exact Nat.mod_eq_of_lt (by omega)
 have:a &&& c<=a:=Nat.and_le_left
 rw[BitVec.toNat_and,e1,e2,IntKind.wrap_u32]
 omega
theorem u32_or_n (a c k:Nat) (h1:a % 2^k=0) (h2:c<2^k) (h3:a+c<4294967296):bits .or .u32 (a:Int) (c:Int)=((a+c:Nat):Int):=by
 show IntKind.u32.wrap ((BitVec.ofInt 32 (a:Int) ||| BitVec.ofInt 32 (c:Int)).toNat:Int)=_
 have e1:(BitVec.ofInt 32 (a:Int)).toNat=a:=by rw[BitVec.ofInt_natCast,BitVec.toNat_ofNat];exact Nat.mod_eq_of_lt (by omega)
 have e2:(BitVec.ofInt 32 (c:Int)).toNat=c:=by rw[BitVec.ofInt_natCast,BitVec.toNat_ofNat];exact Nat.mod_eq_of_lt (by omega)
 have e3:a ||| c=a+c:=by
  have hd:a=2^k*(a / 2^k):=by have:=Nat.div_add_mod a (2^k);omega
  have:=Nat.shiftLeft_add_eq_or_of_lt (b:=c) (i:=k) h2 (a / 2^k)
  rw[Nat.shiftLeft_eq,Nat.mul_comm,<- hd] at this
  exact this.symm
 rw[BitVec.toNat_or,e1,e2,e3,IntKind.wrap_u32]
 omega
def bswap (v:Nat):Nat:=v % 256*16777216+v / 256 % 256*65536+v / 65536 % 256*256+v / 16777216
def St.takeSum (s:St) (v:Nat):St × Nat:=if bswap v=s.sum then (s.enter 10 0,0) else (s,19)
theorem swap_x (v:Nat) (hv:v<4294967296):bits .or .u32 (bits .or .u32 (bits .or .u32 ((v:Int)*16777216 % 4294967296) (bits .and .u32 ((v:Int)*256 % 4294967296) 16711680)) (bits .and .u32 ((v:Int) / 256) 65280)) ((v:Int) / 16777216)=(bswap v:Int):=by
 obtain ⟨a,ha⟩:∃ a,a=v % 256:=⟨_,rfl⟩
 obtain ⟨b,hb⟩:∃ b,b=v / 256 % 256:=⟨_,rfl⟩
 obtain ⟨c,hc⟩:∃ c,c=v / 65536 % 256:=⟨_,rfl⟩
 obtain ⟨d,hd⟩:∃ d,d=v / 16777216:=⟨_,rfl⟩
 have a1:a<256:=by omega
 have b1:b<256:=by omega
 have c1:c<256:=by omega
 have d1:d<256:=by omega
 have e:bswap v=a*16777216+b*65536+c*256+d:=by unfold bswap;rw[ha,hb,hc,hd]
 have p1:(v:Int)*16777216 % 4294967296=((a*16777216:Nat):Int):=by omega
 have p2:(v:Int)*256 % 4294967296=((v % 16777216*256:Nat):Int):=by omega
 have p3:(v:Int) / 256=((v / 256:Nat):Int):=by omega
 have p4:(v:Int) / 16777216=(d:Int):=by omega
 have m1:v % 16777216*256 &&& 16711680=b*65536:=by
  have:=and_mask (v % 16777216*256) 8 16
  rw[show (2^8 - 1)*2^16=16711680 from by decide] at this
  rw[this,hb,show (2:Nat)^16=65536 from by decide,show (2:Nat)^8=256 from by decide]
  have:v % 16777216*256 / 65536 % 256=v / 256 % 256:=by omega
  rw[this]
 have m2:v / 256 &&& 65280=c*256:=by
  have:=and_mask (v / 256) 8 8
  rw[show (2^8 - 1)*2^8=65280 from by decide] at this
  rw[this,hc,show (2:Nat)^8=256 from by decide,Nat.div_div_eq_div_mul]
 have q1:bits .and .u32 ((v % 16777216*256:Nat):Int) 16711680=((b*65536:Nat):Int):=by
  have:=u32_and_n (v % 16777216*256) 16711680 (by omega) (by omega)
  rw[m1] at this;exact this
 have q2:bits .and .u32 ((v / 256:Nat):Int) 65280=((c*256:Nat):Int):=by
  have:=u32_and_n (v / 256) 65280 (by omega) (by omega)
  rw[m2] at this;exact this
 rw[p1,p2,p3,p4,q1,q2,e]
 clear p1 p2 p3 p4 m1 m2 q1 q2 e ha hb hc hd hv
 rw[u32_or_n (a*16777216) (b*65536) 24 (by rw[show (2:Nat)^24=16777216 from by decide];omega) (by rw[show (2:Nat)^24=16777216 from by decide];omega) (by omega)]
 rw[u32_or_n (a*16777216+b*65536) (c*256) 16 (by rw[show (2:Nat)^16=65536 from by decide];omega) (by rw[show (2:Nat)^16=65536 from by decide];omega) (by omega)]
 rw[u32_or_n (a*16777216+b*65536+c*256) d 8 (by rw[show (2:Nat)^8=256 from by decide];omega) (by rw[show (2:Nat)^8=256 from by decide];omega) (by omega)]
theorem takeSum_x (b o n v:Nat) (c:Nat->Value) (s:St) (w:World) (hB:Blk w b n c) (hV:StV c o s) (hn:o+3351<=n) (hv:v<4294967296) :
  Calls Tryz.prog 186 #[.pointer (some ⟨b,o,none⟩),.int .u32 (v:Int)] w fun e w'=>e = .returned (.int .i64 ((s.takeSum v).2:Int))/\StStep b o n c (s.takeSum v).1 w w':=by
 have k0:=hB.at (i:=o+3350) (by omega) hV.sum
 have HB:Hid (Blk w b n c):=hB
 have HV:Hid (StV c o s):=hV
 have eS:=swap_x v hv
 unfold St.takeSum
 obtain ⟨Y,hY⟩:∃ Y,Y=bswap v:=⟨_,rfl⟩
 rw[<- hY] at eS ⊢
 clear hB hV hY
 by_cases h1:Y=s.sum
 ·have h1':((Y:Int) != (s.sum:Int))=false:=by rw[bne_eq_false_iff_eq];omega
  rw[if_pos h1]
  replace h1:Hid _:=h1
  go_enter Tryz.func186,Tryz.ntmps186
  go_wp2_with fail
  refine (senter_x b o n 10 0 c s w HB.out HV.out hn).mono ?_
  rintro e w6 ⟨rfl,h2⟩
  go_wp2_with fail
  go_ret
  exact ⟨rfl,h2⟩
 ·have h1':((Y:Int) != (s.sum:Int))=true:=by rw[bne_iff_ne];omega
  rw[if_neg h1]
  go_enter Tryz.func186,Tryz.ntmps186
  go_wp2
  go_ret
  exact ⟨rfl,c,HB.out,HV.out,FrC.refl _ _ _ _,Fr.refl _ _⟩
abbrev okL (x:Nat):Prop:=1<=x/\x<=15
def mkC (f:Nat->Nat):Nat->Nat->Nat
 | 0=>fun _=>0
 | i+1=>if okL (f i) then upd (mkC f i) (f i) (mkC f i (f i)+1) else mkC f i
def mkT (f:Nat->Nat):Nat->Nat
 | 0=>0
 | i+1=>if okL (f i) then mkT f i+1 else mkT f i
def mkG (f:Nat->Nat):Nat->Nat
 | 0=>0
 | i+1=>if okL (f i) then max (mkG f i) (f i) else mkG f i
def mkX (t:Nat->Nat):Nat->Nat
 | 0=>0
 | 1=>0
 | k+2=>mkX t (k+1)+t (k+1)
def mkN (f n0:Nat->Nat):Nat->Nat->Nat
 | 0=>n0
 | i+1=>if okL (f i)/\mkN f n0 i (f i)<288 then upd (mkN f n0 i) (f i) (mkN f n0 i (f i)+1) else mkN f n0 i
def mkS (f n0 s0:Nat->Nat):Nat->Nat->Nat
 | 0=>s0
 | i+1=>if okL (f i)/\mkN f n0 i (f i)<288 then upd (mkS f n0 s0 i) (mkN f n0 i (f i)) i else mkS f n0 s0 i
theorem mkC_le (f:Nat->Nat):∀ i j,mkC f i j<=i
 | 0,_=>Nat.le_refl _
 | i+1,j=>by
  have h:=mkC_le f i j
  have h':=mkC_le f i (f i)
  unfold mkC
  split
  ·by_cases e:j=f i
   ·rw[e,upd_same];omega
   ·rw[upd_ne _ _ _ e];omega
  ·omega
theorem mkT_le (f:Nat->Nat):∀ i,mkT f i<=i
 | 0=>Nat.le_refl _
 | i+1=>by have:=mkT_le f i;unfold mkT;split<;>omega
theorem mkG_le (f:Nat->Nat):∀ i,mkG f i<=15
 | 0=>by show 0<=15;omega
 | i+1=>by
  have:=mkG_le f i
  unfold mkG
  split
  ·rename_i h;have:=h.2;omega
  ·exact this
theorem mkX_le (t:Nat->Nat) (ht:∀ k,k<16->t k<=288):∀ k,k<=15->mkX t k<=288*k
 | 0,_=>by show 0<=_;omega
 | 1,_=>by show 0<=_;omega
 | k+2,h=>by
  have h1:=mkX_le t ht (k+1) (by omega)
  have h2:=ht (k+1) (by omega)
  show mkX t (k+1)+t (k+1)<=_
  omega
theorem mkX_succ (t:Nat->Nat) (k:Nat) (h:1<=k):mkX t (k+1)=mkX t k+t k:=by
 obtain ⟨m,rfl⟩:∃ m,k=m+1:=⟨k - 1,by omega⟩
 rfl
theorem mkS_lt (f n0 s0:Nat->Nat) (N:Nat) (h0:∀ j,s0 j<N):∀ i,i<=N->∀ j,mkS f n0 s0 i j<N
 | 0,_,j=>h0 j
 | i+1,hi,j=>by
  have h:=mkS_lt f n0 s0 N h0 i (by omega) j
  unfold mkS
  split
  ·by_cases e:j=mkN f n0 i (f i)
   ·rw[e,upd_same];omega
   ·rw[upd_ne _ _ _ e];exact h
  ·exact h
theorem sort_g (b g q N C:Nat) (f:Nat->Nat) (c:Nat->Value) (s:CS) (w:World) (hB:Blk w b 306 c) (hV:CSV c 0 s) (hg:∀ i,i<N->w.cell? ⟨g,q+i,none⟩=some (.int .u8 (f i:Int))) (hfb:∀ i,i<N->f i<256) (hgb:g≠b) (hN0:0<N) (hN:N<=288) (hC:N<=C) (hk:CSOk s) :
  Calls Tryz.prog 201 #[.pointer (some ⟨b,0,none⟩),.slice (some ⟨g,q,none⟩) N C] w fun e w'=>e = .returned (.tuple #[])/\∃ d,Blk w' b 306 d/\CSV d 0 { s with sym:=mkS f (mkX s.count) s.sym N }/\Fr1 b w w':=by
 have hgs:g<w.heap.size:=World.block_lt_of_cell? _ _ (hg 0 hN0)
 have hbs:=hB.lt
 obtain ⟨nx0,hnx0⟩:∃ x,x=mkX s.count:=⟨_,rfl⟩
 have x0:nx0 0=0:=by rw[hnx0];rfl
 have x1:nx0 1=0:=by rw[hnx0];rfl
 have A0:Hid (Blk (w.alloc (Obj.cells #[.int .i64 0,.int .i64 0,.int .i64 0,.int .i64 0,.int .i64 0,.int .i64 0,.int .i64 0,.int .i64 0,.int .i64 0,.int .i64 0,.int .i64 0,.int .i64 0,.int .i64 0,.int .i64 0,.int .i64 0,.int .i64 0] 79)) w.heap.size 16 (nC nx0 1)):=by
  show Blk _ _ _ _
  rw[zero16]
  refine (Blk.new w (Array.replicate 16 (.int .i64 0)) 79 16 (by simp)).congr' (fun i hi => ?_)
  rw[Array.getD_eq_getD_getElem?,Array.getElem?_replicate,if_pos hi]
  unfold nC
  split
  ·have:nx0 i=0:=by
    rcases (show i=0\/i=1 by omega) with rfl | rfl
    ·exact x0
    ·exact x1
   rw[this];rfl
  ·rfl
 have K0:Kept w (w.alloc (Obj.cells #[.int .i64 0,.int .i64 0,.int .i64 0,.int .i64 0,.int .i64 0,.int .i64 0,.int .i64 0,.int .i64 0,.int .i64 0,.int .i64 0,.int .i64 0,.int .i64 0,.int .i64 0,.int .i64 0,.int .i64 0,.int .i64 0] 79)):=Below.alloc (Below.refl _ _) (Nat.le_refl _) _
 have B0:Hid (Blk (w.alloc (Obj.cells #[.int .i64 0,.int .i64 0,.int .i64 0,.int .i64 0,.int .i64 0,.int .i64 0,.int .i64 0,.int .i64 0,.int .i64 0,.int .i64 0,.int .i64 0,.int .i64 0,.int .i64 0,.int .i64 0,.int .i64 0,.int .i64 0] 79)) b 306 c):=hB.kept K0
 have F0:Hid (Fr1 b w (w.alloc (Obj.cells #[.int .i64 0,.int .i64 0,.int .i64 0,.int .i64 0,.int .i64 0,.int .i64 0,.int .i64 0,.int .i64 0,.int .i64 0,.int .i64 0,.int .i64 0,.int .i64 0,.int .i64 0,.int .i64 0,.int .i64 0,.int .i64 0] 79))):=Fr.of_kept K0
 have HGc:Hid (∀ W,Fr1 b w W->∀ i,i<N->W.cell? ⟨g,q+i,none⟩=some (.int .u8 (f i:Int))):=fun W F i hi=>(F.cell hgs hgb).trans (hg i hi)
 have HV:Hid (CSV c 0 s):=hV
 have HCk:Hid (CSOk s):=hk
 have X2:Hid (∀ k,1<=k->k<15->nx0 (k+1)=nx0 k+s.count k):=fun k h1 _=>by rw[hnx0];exact mkX_succ _ _ h1
 have X3:Hid (∀ k,k<=15->nx0 k<=5000):=fun k h=>by have:=mkX_le s.count hk.count k h;rw[hnx0];omega
 have HF:Hid (∀ i,i<N->f i<256):=hfb
 have Y2:Hid (∀ i j,j<=15->mkN f nx0 i j<=5000):=fun i=>by
  induction i with
  | zero=>exact fun j hj=>X3.out j hj
  | succ i ih=>
   intro j hj
   unfold mkN
   split
   ·rename_i h
    by_cases e:j=f i
    ·rw[e,upd_same];omega
    ·rw[upd_ne _ _ _ e];exact ih j hj
   ·exact ih j hj
 rw[<- hnx0]
 replace hnx0:Hid _:=hnx0
 replace K0:Hid _:=K0
 clear hB hV hg hk x0 x1 hfb
 go_enter Tryz.func201,Tryz.ntmps201
 go_wp2_with fail
 generalize w.alloc (Obj.cells #[.int .i64 0,.int .i64 0,.int .i64 0,.int .i64 0,.int .i64 0,.int .i64 0,.int .i64 0,.int .i64 0,.int .i64 0,.int .i64 0,.int .i64 0,.int .i64 0,.int .i64 0,.int .i64 0,.int .i64 0,.int .i64 0] 79)=w0 at *
 obtain ⟨a,ha⟩:∃ a,a=w.heap.size:=⟨_,rfl⟩
 go_loopw [5] (fun v W=>∃ k:Nat,1<=k/\k<=15/\v = .int .i64 (k:Int)/\Blk W w.heap.size 16 (nC nx0 k)/\Blk W b 306 c/\Fr1 b w W) (fun v _=>15 - (intOf v).toNat)
 case atStart=>exact ⟨1,by omega,by omega,rfl,A0.out,B0.out,F0.out⟩
 case round=>
  obtain ⟨k,hk1,hk15,rfl,hA,hBw,hF⟩:=hrel
  clear A0 B0 F0
  have hA':Hid (Blk wr w.heap.size 16 (nC nx0 k)):=hA
  have hB':Hid (Blk wr b 306 c):=hBw
  have hF':Hid (Fr1 b w wr):=hF
  clear hA hBw hF
  by_cases hlt:k<15
  ·have hlt':(k:Int)<15:=by omega
   have k0:wr.cell? ⟨w.heap.size,k,none⟩=some (.int .i64 (nx0 k:Int)):=by
    rw[hA'.out.cell k (by omega)];unfold nC;rw[if_pos (Nat.le_refl _)]
   have k1:wr.cell? ⟨b,k,none⟩=some (.int .i64 (s.count k:Int)):=by
    have:=hB'.out.at (i:=0+k) (by omega) (HV.out.count k (by omega))
    rwa [Nat.zero_add] at this
   obtain ⟨K1,hK1⟩:∃ K1,K1=k+1:=⟨_,rfl⟩
   obtain ⟨OV,k2⟩:∃ OV,wr.cell? ⟨w.heap.size,K1,none⟩=some OV:=⟨_,hA'.out.cell K1 (by omega)⟩
   have z:=hA'.out.fz
   have c1:=X3.out k (by omega)
   have c2:=HCk.out.count k (by omega)
   have HS:Hid (nx0 (k+1)=nx0 k+s.count k):=X2.out k hk1 hlt
   obtain ⟨V1,hV1⟩:∃ V1,V1=nx0 k:=⟨_,rfl⟩
   obtain ⟨V2,hV2⟩:∃ V2,V2=s.count k:=⟨_,rfl⟩
   rw[<- hV1] at k0 c1 HS
   rw[<- hV2] at k1 c2 HS
   replace hV1:Hid _:=hV1
   replace hV2:Hid _:=hV2
   have i0:(0:Int)<=(k:Int):=by omega
   have i1:(k:Int)<16:=by omega
   have i2:(0:Int)<=(K1:Int):=by omega
   have i3:(K1:Int)<16:=by omega
   have eK:(k:Int)+1=(K1:Int):=by omega
   have wk:IntKind.i64.wrap ((k:Int)+1)=(K1:Int):=by rw[eK,IntKind.wrap_i64];omega
   obtain ⟨V3,hV3⟩:∃ V3,V3=V1+V2:=⟨_,rfl⟩
   have eV:(V1:Int)+(V2:Int)=(V3:Int):=by omega
   have wv:IntKind.i64.wrap ((V1:Int)+(V2:Int))=(V3:Int):=by rw[eV,IntKind.wrap_i64];omega
   have wk2:IntKind.i64.wrap (K1:Int)=(K1:Int):=by rw[IntKind.wrap_i64];omega
   have wv2:IntKind.i64.wrap (V3:Int)=(V3:Int):=by rw[IntKind.wrap_i64];omega
   have HK1:Hid (K1=k+1):=hK1
   have HV3:Hid (V3=V1+V2):=hV3
   clear hK1 hV3
   have hne:b≠w.heap.size:=by omega
   go_wp2_with fail
   go_region_held3 (fun W=>W.cell? ⟨w.heap.size,k,none⟩=some (.int .i64 (V1:Int))/\W.cell? ⟨b,k,none⟩=some (.int .i64 (V2:Int))) (first | exact ⟨k0,k1⟩ | exact ⟨(cell_set_other _ _ _ _ _ (by omega)).trans k0,(cell_set_blk _ _ _ _ (by omega)).trans k1⟩ | go_keep) (fail)
   have fin:Hid (∀ y:Int,y=(nx0 (k+1):Int)->(Blk (wr.setCell ⟨w.heap.size,K1,none⟩ (.int .i64 y)).drew w.heap.size 16 (nC nx0 (k+1))/\Blk (wr.setCell ⟨w.heap.size,K1,none⟩ (.int .i64 y)).drew b 306 c/\Fr1 b w (wr.setCell ⟨w.heap.size,K1,none⟩ (.int .i64 y)).drew)):=fun y hy=>by
    subst hy
    rw[HK1.out]
    have fr:Fr1 w.heap.size wr (wr.setCell ⟨w.heap.size,k+1,none⟩ (.int .i64 (nx0 (k+1):Int))):=Fr1.set (Fr.refl _ _) _ _
    exact ⟨((hA'.out.set (k:=k+1) (by omega) _).congr' (fun i _=>nC_set nx0 k i)).kept ((Kept.refl _).drewN 1),(hB'.out.fr fr hne).kept ((Kept.refl _).drewN 1),Fr1.drewN (Fr.setCell (S:=fun k=>k=b) hF'.out (Or.inr (Nat.le_refl _)) _ _) 1⟩
   go_wp2
   exact ⟨⟨k+1,by omega,by omega,by go_num,fin.out _ (by have:=HS.out;have:=HV3.out;omega)⟩,by simp [intOf];omega⟩
  ·have hlt':¬ (k:Int)<15:=by omega
   have hk:k=15:=by omega
   have A1:Hid (Blk wr w.heap.size 16 (iC (mkN f nx0 0))):=hA'.out.congr' (fun i hi=>by unfold iC nC;rw[hk,if_pos (by omega)];rfl)
   have V1:Hid (CSV c 0 { s with sym:=mkS f nx0 s.sym 0 }):=HV.out
   clear hk hA'
   go_wp2
   go_loopw [6] (fun v W=>∃ i:Nat,i<=N/\v = .int .i64 (i:Int)/\Blk W w.heap.size 16 (iC (mkN f nx0 i))/\(∃ d,Blk W b 306 d/\CSV d 0 { s with sym:=mkS f nx0 s.sym i })/\Fr1 b w W) (fun v _=>N - (intOf v).toNat)
   case atStart=>exact ⟨0,by omega,rfl,A1.out,⟨c,hB'.out,V1.out⟩,hF'.out⟩
   case round=>
    obtain ⟨i,hiN,rfl,hA2,⟨d,hB2,hV2⟩,hF2⟩:=hrel
    clear A1 V1 hB' hF'
    have A2:Hid (Blk wr w.heap.size 16 (iC (mkN f nx0 i))):=hA2
    have B2:Hid (Blk wr b 306 d):=hB2
    have V2:Hid (CSV d 0 { s with sym:=mkS f nx0 s.sym i }):=hV2
    have F2:Hid (Fr1 b w wr):=hF2
    have zA:=hA2.fz
    have zB:=hB2.fz
    clear hA2 hB2 hV2 hF2
    by_cases hlt2:i<N
    ·have hlt2':(i:Int)<(N:Int):=by omega
     have h288:(i:Int)<288:=by omega
     have hfi:=HF.out i hlt2
     have hgi:=HGc.out wr F2.out i hlt2
     have i0:(0:Int)<=(i:Int):=by omega
     have hne:b≠w.heap.size:=by omega
     have hne':w.heap.size≠b:=by omega
     by_cases hok:okL (f i)
     ·have hP0:=Y2.out i (f i) hok.2
      by_cases hP:mkN f nx0 i (f i)<288
      ·have YS:Hid (mkN f nx0 (i+1)=upd (mkN f nx0 i) (f i) (mkN f nx0 i (f i)+1)):=if_pos ⟨hok,hP⟩
       have ZS:Hid (mkS f nx0 s.sym (i+1)=upd (mkS f nx0 s.sym i) (mkN f nx0 i (f i)) i):=if_pos ⟨hok,hP⟩
       obtain ⟨T,hT⟩:∃ T,T=f i:=⟨_,rfl⟩
       rw[<- hT] at hfi hgi hP hP0 hok YS ZS
       replace hT:Hid _:=hT
       obtain ⟨hT1,hT2⟩:=hok
       have kn:wr.cell? ⟨w.heap.size,T,none⟩=some (.int .i64 (mkN f nx0 i T:Int)):=A2.out.cell T (by omega)
       obtain ⟨Q,hQ⟩:∃ Q,Q=mkN f nx0 i T:=⟨_,rfl⟩
       rw[<- hQ] at kn hP hP0 YS ZS
       replace hQ:Hid _:=hQ
       obtain ⟨OV,ks⟩:∃ OV,wr.cell? ⟨b,16+Q,none⟩=some OV:=⟨_,B2.out.cell (16+Q) (by omega)⟩
       have t0:(0:Int)<=(T:Int):=by omega
       have t1:(0:Int)<(T:Int):=by omega
       have t2:(T:Int)<=15:=by omega
       have t3:(T:Int)<16:=by omega
       have q0:(0:Int)<=(Q:Int):=by omega
       have q1:(Q:Int)<288:=by omega
       obtain ⟨Q1,hQ1⟩:∃ Q1,Q1=Q+1:=⟨_,rfl⟩
       have eQ:(Q:Int)+1=(Q1:Int):=by omega
       rw[<- hQ1] at YS
       replace hQ1:Hid _:=hQ1
       have fin:Hid (Blk ((wr.setCell ⟨b,16+Q,none⟩ (.int .i64 (i:Int))).drew.setCell ⟨w.heap.size,T,none⟩ (.int .i64 (Q1:Int))) w.heap.size 16 (iC (mkN f nx0 (i+1)))/\(∃ d,Blk ((wr.setCell ⟨b,16+Q,none⟩ (.int .i64 (i:Int))).drew.setCell ⟨w.heap.size,T,none⟩ (.int .i64 (Q1:Int))) b 306 d/\CSV d 0 { s with sym:=mkS f nx0 s.sym (i+1) })/\Fr1 b w ((wr.setCell ⟨b,16+Q,none⟩ (.int .i64 (i:Int))).drew.setCell ⟨w.heap.size,T,none⟩ (.int .i64 (Q1:Int)))):=by
        have fb:Fr1 b wr (wr.setCell ⟨b,16+Q,none⟩ (.int .i64 (i:Int))).drew:=Fr1.drewN (Fr1.set (Fr.refl _ _) _ _) 1
        have fa:Fr1 w.heap.size (wr.setCell ⟨b,16+Q,none⟩ (.int .i64 (i:Int))).drew ((wr.setCell ⟨b,16+Q,none⟩ (.int .i64 (i:Int))).drew.setCell ⟨w.heap.size,T,none⟩ (.int .i64 (Q1:Int))):=Fr1.set (Fr.refl _ _) _ _
        refine ⟨?_,⟨upd d (16+Q) (.int .i64 (i:Int)),?_,?_⟩,?_⟩
        ·rw[YS.out,<- iC_upd]
         exact (A2.out.fr fb hne').set (by omega) _
        ·exact ((B2.out.set (k:=16+Q) (by omega) _).kept ((Kept.refl _).drewN 1)).fr fa hne
        ·rw[ZS.out]
         have:=V2.out.set_sym Q i hP
         rw[Nat.zero_add] at this
         exact this
        ·exact Fr.setCell (S:=fun k=>k=b) (F2.out.trans fb) (Or.inr (Nat.le_refl _)) _ _
       go_wp2_with fail
       go_region_held3 (fun W=>W.cell? ⟨w.heap.size,T,none⟩=some (.int .i64 (Q:Int))) (first | exact kn | exact (cell_set_blk _ _ _ _ (by omega)).trans kn | go_keep) (fail)
       have kn2:(wr.setCell ⟨b,16+Q,none⟩ (.int .i64 (i:Int))).drew.cell? ⟨w.heap.size,T,none⟩=some (.int .i64 (Q:Int)):=(cell_set_blk _ _ _ _ (by omega)).trans kn
       have zA2:∀ j,(wr.setCell ⟨b,16+Q,none⟩ (.int .i64 (i:Int))).drew.frozen? ⟨w.heap.size,j,none⟩=false:=fun j=>(World.frozen?_setCell _ _ _ _).trans (zA j)
       generalize (wr.setCell ⟨b,16+Q,none⟩ (.int .i64 (i:Int))).drew=w4 at *
       go_wp2
       exact ⟨⟨i+1,by omega,by go_num,fin.out⟩,by simp [intOf];omega⟩
      ·have YS:Hid (mkN f nx0 (i+1)=mkN f nx0 i):=if_neg (fun z=>hP z.2)
       have ZS:Hid (mkS f nx0 s.sym (i+1)=mkS f nx0 s.sym i):=if_neg (fun z=>hP z.2)
       obtain ⟨T,hT⟩:∃ T,T=f i:=⟨_,rfl⟩
       rw[<- hT] at hfi hgi hP hP0 hok
       replace hT:Hid _:=hT
       obtain ⟨hT1,hT2⟩:=hok
       have kn:wr.cell? ⟨w.heap.size,T,none⟩=some (.int .i64 (mkN f nx0 i T:Int)):=A2.out.cell T (by omega)
       obtain ⟨Q,hQ⟩:∃ Q,Q=mkN f nx0 i T:=⟨_,rfl⟩
       rw[<- hQ] at kn hP hP0
       replace hQ:Hid _:=hQ
       have t0:(0:Int)<=(T:Int):=by omega
       have t1:(0:Int)<(T:Int):=by omega
       have t2:(T:Int)<=15:=by omega
       have t3:(T:Int)<16:=by omega
       have q1:¬ (Q:Int)<288:=by omega
       go_wp2
       exact ⟨⟨i+1,by omega,by go_num,by rw[YS.out];exact A2.out,⟨d,B2.out,by rw[ZS.out];exact V2.out⟩,F2.out⟩,by simp [intOf];omega⟩
     ·have YS:Hid (mkN f nx0 (i+1)=mkN f nx0 i):=if_neg (fun z=>hok z.1)
      have ZS:Hid (mkS f nx0 s.sym (i+1)=mkS f nx0 s.sym i):=if_neg (fun z=>hok z.1)
      obtain ⟨T,hT⟩:∃ T,T=f i:=⟨_,rfl⟩
      rw[<- hT] at hfi hgi hok
      replace hT:Hid _:=hT
      by_cases hT0:T=0
      ·subst hT0
       go_wp2
       exact ⟨⟨i+1,by omega,by go_num,by rw[YS.out];exact A2.out,⟨d,B2.out,by rw[ZS.out];exact V2.out⟩,F2.out⟩,by simp [intOf];omega⟩
      ·have t1:(0:Int)<(T:Int):=by omega
       have t2:¬ (T:Int)<=15:=by
        intro z
        exact hok ⟨by omega,by omega⟩
       clear hok hT0
       go_wp2
       exact ⟨⟨i+1,by omega,by go_num,by rw[YS.out];exact A2.out,⟨d,B2.out,by rw[ZS.out];exact V2.out⟩,F2.out⟩,by simp [intOf];omega⟩
    ·have hlt2':¬ (i:Int)<(N:Int):=by omega
     have hiE:i=N:=by omega
     rw[hiE] at V2
     replace hiE:Hid _:=hiE
     go_wp2
     go_end0
     exact ⟨rfl,d,B2.out,V2.out,F2.out⟩
def setP (f:Nat->Nat) (N:Nat):CS:=⟨mkC f N,mkS f (mkX (mkC f N)) (fun _=>0) N,mkT f N,mkG f N⟩
theorem setP_ok (f:Nat->Nat) (N:Nat) (h0:0<N) (h:N<=288):CSOk (setP f N):=⟨fun j _=>Nat.le_trans (mkC_le f N j) h,fun j _=>Nat.lt_of_lt_of_le (mkS_lt f _ _ N (fun _=>h0) N (Nat.le_refl _) j) h,Nat.le_trans (mkT_le f N) h,mkG_le f N⟩
theorem make_g (g q N C:Nat) (f:Nat->Nat) (w:World) (hg:∀ i,i<N->w.cell? ⟨g,q+i,none⟩=some (.int .u8 (f i:Int))) (hfb:∀ i,i<N->f i<256) (hN0:0<N) (hN1:N<=288) (hC:N<=C) :
  Calls Tryz.prog 193 #[.slice (some ⟨g,q,none⟩) N C] w fun e w'=>e = .returned (.agg ((List.range 306).map (csC (setP f N))).toArray)/\Kept w w':=by
 obtain ⟨SS0,hSS0⟩:∃ S,S=(setP f N:CS):=⟨_,rfl⟩
 obtain ⟨cs,hcs0⟩:∃ cs,cs=(List.range 306).map (csC (setP f N)):=⟨_,rfl⟩
 rw[<- hcs0]
 rw[<- hSS0] at hcs0
 have HCS:Hid (cs=(List.range 306).map (csC SS0)):=hcs0
 have HSS:Hid (SS0=(setP f N:CS)):=hSS0
 clear hcs0 hSS0
 have hgs:g<w.heap.size:=World.block_lt_of_cell? _ _ (hg 0 hN0)
 have B0:Hid (Blk ((w.alloc (Obj.cells (Array.replicate 306 (.int .i64 0)) 82)).alloc (Obj.cells (Array.replicate 306 (.int .i64 0)) 82)) (w.heap.size+1) 306 (csC cs00)):=by
  have:=blk306 (w.alloc (Obj.cells (Array.replicate 306 (.int .i64 0)) 82)) 82
  have e:(w.alloc (Obj.cells (Array.replicate 306 (.int .i64 0)) 82)).heap.size=w.heap.size+1:=by simp
  rw[e] at this
  exact this
 have T0:Hid (((w.alloc (Obj.cells (Array.replicate 306 (.int .i64 0)) 82)).alloc (Obj.cells (Array.replicate 306 (.int .i64 0)) 82)).there w.heap.size 0 306):=World.there_alloc ((blk306 w 82).there (by omega)) _
 have K0:Hid (Kept w ((w.alloc (Obj.cells (Array.replicate 306 (.int .i64 0)) 82)).alloc (Obj.cells (Array.replicate 306 (.int .i64 0)) 82))):=((Below.refl _ _).alloc (Nat.le_refl _) _).alloc (by simp) _
 have V0:Hid (CSV (csC cs00) 0 ⟨mkC f 0,fun _=>0,mkT f 0,mkG f 0⟩):=csC_V cs00
 have HG:Hid (∀ W,Kept w W->∀ i,i<N->W.cell? ⟨g,q+i,none⟩=some (.int .u8 (f i:Int))):=fun W k i hi=>(k.cell (p:=⟨g,q+i,none⟩) hgs).trans (hg i hi)
 have HF:Hid (∀ i,i<N->f i<256):=hfb
 clear hg hfb
 have R:=zero306
 go_enter Tryz.func193,Tryz.ntmps193
 go_wp2_with fail
 try rw[zero306]
 generalize ((w.alloc (Obj.cells (Array.replicate 306 (.int .i64 0)) 82)).alloc (Obj.cells (Array.replicate 306 (.int .i64 0)) 82))=w0 at *
 clear R
 go_loopw [4] (fun v W=>∃ i:Nat,i<=N/\v = .int .i64 (i:Int)/\(∃ d,Blk W (w.heap.size+1) 306 d/\CSV d 0 ⟨mkC f i,fun _=>0,mkT f i,mkG f i⟩)/\W.there w.heap.size 0 306/\Kept w W) (fun v _=>N - (intOf v).toNat)
 case atStart=>exact ⟨0,by omega,rfl,⟨_,B0.out,V0.out⟩,T0.out,K0.out⟩
 case round=>
  obtain ⟨i,hiN,rfl,⟨d,hB,hV⟩,hT,hK⟩:=hrel
  have zB:=hB.fz
  have B1:Hid (Blk wr (w.heap.size+1) 306 d):=hB
  have V1:Hid (CSV d 0 ⟨mkC f i,fun _=>0,mkT f i,mkG f i⟩):=hV
  have T1:Hid (wr.there w.heap.size 0 306):=hT
  have K1:Hid (Kept w wr):=hK
  clear hB hV hT hK B0 T0 K0 V0
  by_cases hlt:i<N
  ·have hlt':(i:Int)<(N:Int):=by omega
   have h288:(i:Int)<288:=by omega
   have i0:(0:Int)<=(i:Int):=by omega
   have hfi:=HF.out i hlt
   have hgi:=HG.out wr K1.out i hlt
   have hcb:mkC f i (f i)<=288:=Nat.le_trans (mkC_le f i (f i)) (by omega)
   have htb:mkT f i<=288:=Nat.le_trans (mkT_le f i) (by omega)
   have hlb:=mkG_le f i
   by_cases hok:okL (f i)
   ·have CS1:Hid (mkC f (i+1)=upd (mkC f i) (f i) (mkC f i (f i)+1)):=if_pos hok
    have LS:Hid (mkG f (i+1)=max (mkG f i) (f i)):=if_pos hok
    have TS:Hid (mkT f (i+1)=mkT f i+1):=if_pos hok
    obtain ⟨T,hT⟩:∃ T,T=f i:=⟨_,rfl⟩
    rw[<- hT] at hfi hgi CS1 LS hcb hok
    replace hT:Hid _:=hT
    obtain ⟨hT1,hT2⟩:=hok
    have k1:wr.cell? ⟨w.heap.size+1,T,none⟩=some (.int .i64 (mkC f i T:Int)):=by
     have:=B1.out.at (i:=0+T) (by omega) (V1.out.count T (by omega))
     rwa [Nat.zero_add] at this
    have k2:wr.cell? ⟨w.heap.size+1,304,none⟩=some (.int .i64 (mkT f i:Int)):=B1.out.at (i:=304) (by omega) V1.out.total
    have k3:wr.cell? ⟨w.heap.size+1,305,none⟩=some (.int .i64 (mkG f i:Int)):=B1.out.at (i:=305) (by omega) V1.out.longest
    obtain ⟨Q,hQ⟩:∃ Q,Q=mkC f i T:=⟨_,rfl⟩
    rw[<- hQ] at k1 CS1 hcb
    replace hQ:Hid _:=hQ
    obtain ⟨Q1,hQ1⟩:∃ Q1,Q1=Q+1:=⟨_,rfl⟩
    have eQ:(Q:Int)+1=(Q1:Int):=by omega
    rw[<- hQ1] at CS1
    replace hQ1:Hid _:=hQ1
    obtain ⟨J1,hJ1⟩:∃ J1,J1=mkT f i:=⟨_,rfl⟩
    rw[<- hJ1] at k2 TS htb
    replace hJ1:Hid _:=hJ1
    obtain ⟨I1,hI1⟩:∃ I1,I1=J1+1:=⟨_,rfl⟩
    have eI:(J1:Int)+1=(I1:Int):=by omega
    rw[<- hI1] at TS
    replace hI1:Hid _:=hI1
    obtain ⟨G1,hG1⟩:∃ G1,G1=mkG f i:=⟨_,rfl⟩
    rw[<- hG1] at k3 LS hlb
    replace hG1:Hid _:=hG1
    have t0:(0:Int)<=(T:Int):=by omega
    have t1:(0:Int)<(T:Int):=by omega
    have t2:(T:Int)<=15:=by omega
    have t3:(T:Int)<16:=by omega
    have fin:Hid (∀ y:Int,y=((max G1 T:Nat):Int)->((∃ d,Blk (((wr.setCell ⟨w.heap.size+1,T,none⟩ (.int .i64 (Q1:Int))).setCell ⟨w.heap.size+1,304,none⟩ (.int .i64 (I1:Int))).setCell ⟨w.heap.size+1,305,none⟩ (.int .i64 y)) (w.heap.size+1) 306 d/\CSV d 0 ⟨mkC f (i+1),fun _=>0,mkT f (i+1),mkG f (i+1)⟩)/\(((wr.setCell ⟨w.heap.size+1,T,none⟩ (.int .i64 (Q1:Int))).setCell ⟨w.heap.size+1,304,none⟩ (.int .i64 (I1:Int))).setCell ⟨w.heap.size+1,305,none⟩ (.int .i64 y)).there w.heap.size 0 306/\Kept w (((wr.setCell ⟨w.heap.size+1,T,none⟩ (.int .i64 (Q1:Int))).setCell ⟨w.heap.size+1,304,none⟩ (.int .i64 (I1:Int))).setCell ⟨w.heap.size+1,305,none⟩ (.int .i64 y)))):=fun y hy=>by
     subst hy
     refine ⟨⟨_,((B1.out.set (k:=T) (by omega) _).set (k:=304) (by omega) _).set (k:=305) (by omega) _,?_⟩,there_set (there_set (there_set T1.out _ (by omega)) _ (by omega)) _ (by omega),((K1.out.setCell (by simp) _).setCell (by simp) _).setCell (by simp) _⟩
     rw[CS1.out,LS.out,TS.out]
     have a1:=V1.out.set_count T Q1 (by omega)
     rw[Nat.zero_add] at a1
     have a2:=a1.set_total I1
     rw[Nat.zero_add] at a2
     have a3:=a2.set_longest (max G1 T)
     rw[Nat.zero_add] at a3
     exact a3
    by_cases hmx:T<=G1
    ·have hmx':(T:Int)<=(G1:Int):=by omega
     have hmx'':¬ (G1:Int)<(T:Int):=by omega
     have e:=fin.out (G1:Int) (by rw[Nat.max_eq_left hmx])
     replace e:Hid _:=e
     go_wp2
     all_goals exact ⟨⟨i+1,by omega,by go_num,e.out⟩,by simp [intOf];omega⟩
    ·have hmx':¬ (T:Int)<=(G1:Int):=by omega
     have hmx'':(G1:Int)<(T:Int):=by omega
     have e:=fin.out (T:Int) (by rw[Nat.max_eq_right (by omega)])
     replace e:Hid _:=e
     go_wp2
     all_goals exact ⟨⟨i+1,by omega,by go_num,e.out⟩,by simp [intOf];omega⟩
   ·have CS1:Hid (mkC f (i+1)=mkC f i):=if_neg hok
    have LS:Hid (mkG f (i+1)=mkG f i):=if_neg hok
    have TS:Hid (mkT f (i+1)=mkT f i):=if_neg hok
    obtain ⟨T,hT⟩:∃ T,T=f i:=⟨_,rfl⟩
    rw[<- hT] at hfi hgi hok
    replace hT:Hid _:=hT
    have fin:Hid (∃ d,Blk wr (w.heap.size+1) 306 d/\CSV d 0 ⟨mkC f (i+1),fun _=>0,mkT f (i+1),mkG f (i+1)⟩):=⟨d,B1.out,by rw[CS1.out,LS.out,TS.out];exact V1.out⟩
    by_cases hT0:T=0
    ·subst hT0
     go_wp2
     exact ⟨⟨i+1,by omega,by go_num,fin.out,T1.out,K1.out⟩,by simp [intOf];omega⟩
    ·have t1:(0:Int)<(T:Int):=by omega
     have t2:¬ (T:Int)<=15:=by
      intro z
      exact hok ⟨by omega,by omega⟩
     clear hok hT0
     go_wp2
     exact ⟨⟨i+1,by omega,by go_num,fin.out,T1.out,K1.out⟩,by simp [intOf];omega⟩
  ·have hlt':¬ (i:Int)<(N:Int):=by omega
   have hiE:i=N:=by omega
   rw[hiE] at V1
   have hgne:g≠w.heap.size+1:=by omega
   have FJ:Hid (Calls Tryz.prog 201 #[.pointer (some ⟨w.heap.size+1,0,none⟩),.slice (some ⟨g,q,none⟩) N C] wr fun e w'=>e = .returned (.tuple #[])/\∃ d',Blk w' (w.heap.size+1) 306 d'/\CSV d' 0 (setP f N)/\Fr1 (w.heap.size+1) wr w') :=
    sort_g (w.heap.size+1) g q N C f d ⟨mkC f N,fun _=>0,mkT f N,mkG f N⟩ wr B1.out V1.out (HG.out wr K1.out) HF.out hgne hN0 hN1 hC ⟨fun j hj=>Nat.le_trans (mkC_le f N j) hN1,fun j hj=>by show 0<288;omega,Nat.le_trans (mkT_le f N) hN1,mkG_le f N⟩
   have hws:w.heap.size<wr.heap.size:=Nat.lt_of_lt_of_le (Nat.lt_succ_self _) (Nat.le_of_lt B1.out.lt)
   replace hiE:Hid _:=hiE
   go_wp2_with fail
   refine FJ.out.mono ?_
   rintro e w2 ⟨rfl,d2,hB2,hV2,hF2⟩
   have T2:w2.there w.heap.size 0 306:=fun j hj=>⟨by rw[hF2.cell (c:=w.heap.size) hws (by omega)];exact (T1.out j hj).1,by rw[hF2.frozen (c:=w.heap.size) hws (by omega)];exact (T1.out j hj).2⟩
   have K2:Hid (Kept w w2):=Fr.to_kept K1.out hF2 (fun i hi e=>by omega)
   have hSS:=HSS.out
   rw[<- hSS] at hV2
   have hcs:=HCS.out
   have hcl:cs.length=306:=by rw[hcs];exact range_len _ 306
   have hone:∀ v ∈ cs,v.oneCell'=true:=by rw[hcs];exact csC_one _
   have hcr:Hid (w2.rangeAt (w.heap.size+1) 0 cs):=by
    have:=(hB2.congr' (d:=csC SS0) (fun i hi=>hV2.cells i hi)).range (k:=0) (m:=306) (by omega)
    show w2.rangeAt (w.heap.size+1) 0 cs
    rw[hcs]
    rw[show (fun j=>csC SS0 (0+j))=csC SS0 from funext (fun j=>by rw[Nat.zero_add])] at this
    exact this
   have hi:Hid ((Tryz.prog.info? 82).map (·.size)=some cs.length):=by show _=_;rw[hcl];exact info306
   have htl:w2.there w.heap.size 0 cs.length:=by rw[hcl];exact T2
   have hsc:(storeCells ⟨w.heap.size,0,none⟩ cs).run Tryz.prog w2 = .ok () (w2.setCells w.heap.size 0 cs):=store_all htl hone
   have hld:Hid ((loadVar 82 ⟨w.heap.size,0,none⟩).run Tryz.prog (w2.setCells w.heap.size 0 cs) = .ok (.agg cs.toArray) (w2.setCells w.heap.size 0 cs)) :=
    run_loadVar_mid _ _ _ _ cs _ (World.rangeAt_setCells_same _ _ _ _ htl) Tryz.underlying82 rfl hi.out
   replace hcs:Hid _:=hcs
   replace hcl:Hid _:=hcl
   replace hone:Hid _:=hone
   replace hSS:Hid _:=hSS
   clear htl T2 hB2 hV2 hF2 FJ
   go_wp2
   refine wp_load_mid 82 _ rfl (w.heap.size+1) 0 rfl cs _ hcr.out Tryz.underlying82 rfl hi.out ?_
   go_wp2
   exact bodyPost_ret (v := .agg cs.toArray) (results_cell1 rfl _ _ _ _ _ rfl hld.out) rfl ⟨rfl,Kept.setCells (Nat.le_refl _) _ _ K2.out⟩
def fullGo (s:CS):Nat->Nat->Nat->Bool
 | 0,f,_=>decide (f=0)
 | n+1,f,k=>if 2*f<s.count k then false else fullGo s n (2*f - s.count k) (k+1)
def CS.full (s:CS):Bool:=fullGo s 15 1 1
def CS.lone (s:CS):Bool:=decide (s.total=1) && decide (s.count 1=1)
def CS.empty (s:CS):Bool:=decide (s.total=0)
theorem full_x (b o n:Nat) (c:Nat->Value) (s:CS) (w:World) (hB:Blk w b n c) (hV:CSV c o s) (hn:o+306<=n) (hk:CSOk s) :
  Calls Tryz.prog 194 #[.pointer (some ⟨b,o,none⟩)] w fun e w'=>e = .returned (.bool s.full)/\w'=w:=by
 have HC:Hid (∀ k,k<16->w.cell? ⟨b,o+k,none⟩=some (.int .i64 (s.count k:Int))):=fun k hk=>hB.at (by omega) (hV.count k hk)
 have HK:Hid (CSOk s):=hk
 have F0:Hid (s.full=fullGo s 15 1 1):=rfl
 generalize s.full=R at *
 clear hB hV hk
 go_enter Tryz.func194,Tryz.ntmps194
 go_wp2_with fail
 go_loopg [3,4] 15 (fun m v3 v4 W=>∃ k f:Nat,m=16 - k/\1<=k/\k<=16/\f<=2^(k - 1)/\v4 = .int .i64 (k:Int)/\v3 = .int .i64 (f:Int)/\R=fullGo s (16 - k) f k/\W=w)
 case atStart=>exact ⟨1,1,by omega,by omega,by omega,by decide,rfl,rfl,F0.out,rfl⟩
 case round=>
  obtain ⟨k,f,hgk,h1,h16,hf,rfl,rfl,hR,rfl⟩:=hrel
  replace hgk:Hid _:=hgk
  have hp:2^(k - 1)<=2^15:=Nat.pow_le_pow_right (by omega) (by omega)
  have hf2:f<=32768:=Nat.le_trans hf hp
  clear hp
  by_cases hlt:k<=15
  ·have hlt':(k:Int)<=15:=by omega
   have kc:=HC.out k (by omega)
   have hc:=HK.out.count k (by omega)
   have hR':R=if 2*f<s.count k then false else fullGo s (15 - k) (2*f - s.count k) (k+1):=by
    rw[hR,show 16 - k=(15 - k)+1 by omega];rfl
   clear hR
   generalize s.count k=T at *
   have k0:(0:Int)<=(k:Int):=by omega
   have k1:(k:Int)<16:=by omega
   by_cases hlow:2*f<T
   ·have hl':2*(f:Int) - (T:Int)<0:=by omega
    rw[if_pos hlow] at hR'
    replace hR':Hid _:=hR'
    replace hf:Hid _:=hf
    clear hlow
    go_wp2
    go_ret
    exact ⟨by rw[hR'.out];rfl,rfl⟩
   ·have hl':¬ (2*(f:Int) - (T:Int)<0):=by omega
    rw[if_neg hlow] at hR'
    obtain ⟨F,hF⟩:∃ F,F=2*f - T:=⟨_,rfl⟩
    have eF:2*(f:Int) - (T:Int)=(F:Int):=by omega
    rw[<- hF] at hR'
    have hF2:F<=2^(k+1 - 1):=by
     have:2^(k+1 - 1)=2*2^(k - 1):=by
      rw[show k+1 - 1=(k - 1)+1 by omega,Nat.pow_succ];omega
     rw[this];omega
    replace hR':Hid _:=hR'
    replace hF2:Hid _:=hF2
    replace hF:Hid _:=hF
    replace hf:Hid _:=hf
    clear hlow
    go_wp2
    go_roundg (16 - (k+1))
    case measure=>rw[hgk.out];omega
    case rel=>exact ⟨k+1,F,rfl,by omega,by omega,hF2.out,by go_num,rfl,by rw[show 16 - (k+1)=15 - k by omega];exact hR'.out,rfl⟩
  ·have hlt':¬ (k:Int)<=15:=by omega
   have hR':R=decide (f=0):=by
    rw[hR,show 16 - k=0 by omega];rfl
   replace hR':Hid _:=hR'
   replace hf:Hid _:=hf
   clear hR
   by_cases h0:f=0
   ·subst h0
    go_wp2
    go_ret
    exact ⟨by rw[hR'.out];rfl,rfl⟩
   ·have h0':((f:Int) == 0)=false:=by rw[beq_eq_false_iff_ne];omega
    have hd:Hid (decide (f=0)=false):=decide_eq_false h0
    clear h0
    go_wp2
    go_ret
    exact ⟨by rw[hR'.out,hd.out];rfl,rfl⟩
theorem lone_x (b o n:Nat) (c:Nat->Value) (s:CS) (w:World) (hB:Blk w b n c) (hV:CSV c o s) (hn:o+306<=n) :
  Calls Tryz.prog 195 #[.pointer (some ⟨b,o,none⟩)] w fun e w'=>e = .returned (.bool s.lone)/\w'=w:=by
 have k1:=hB.at (i:=o+304) (by omega) hV.total
 have k2:=hB.at (i:=o+1) (by omega) (hV.count 1 (by omega))
 have HL:Hid (s.lone=(decide (s.total=1) && decide (s.count 1=1))):=rfl
 generalize s.lone=R at *
 generalize s.total=T at *
 generalize s.count 1=Q at *
 clear hB hV
 by_cases e1:T=1
 ·by_cases e2:Q=1
  ·subst e1 e2
   go_enter Tryz.func195,Tryz.ntmps195
   go_wp2
   go_ret
   exact ⟨by rw[HL.out];rfl,rfl⟩
  ·subst e1
   have e3:((Q:Int) == 1)=false:=by rw[beq_eq_false_iff_ne];omega
   have hd:Hid (decide (Q=1)=false):=decide_eq_false e2
   clear e2
   go_enter Tryz.func195,Tryz.ntmps195
   go_wp2
   go_ret
   exact ⟨by rw[HL.out,hd.out];rfl,rfl⟩
 ·have e3:((T:Int) == 1)=false:=by rw[beq_eq_false_iff_ne];omega
  have hd:Hid (decide (T=1)=false):=decide_eq_false e1
  clear e1
  go_enter Tryz.func195,Tryz.ntmps195
  go_wp2
  go_ret
  exact ⟨by rw[HL.out,hd.out];rfl,rfl⟩
theorem empty_x (b o n:Nat) (c:Nat->Value) (s:CS) (w:World) (hB:Blk w b n c) (hV:CSV c o s) (hn:o+306<=n) :
  Calls Tryz.prog 196 #[.pointer (some ⟨b,o,none⟩)] w fun e w'=>e = .returned (.bool s.empty)/\w'=w:=by
 have k1:=hB.at (i:=o+304) (by omega) hV.total
 have HL:Hid (s.empty=decide (s.total=0)):=rfl
 generalize s.empty=R at *
 generalize s.total=T at *
 clear hB hV
 by_cases e1:T=0
 ·subst e1
  go_enter Tryz.func196,Tryz.ntmps196
  go_wp2
  go_ret
  exact ⟨by rw[HL.out];rfl,rfl⟩
 ·have e3:((T:Int) == 0)=false:=by rw[beq_eq_false_iff_ne];omega
  have hd:Hid (decide (T=0)=false):=decide_eq_false e1
  clear e1
  go_enter Tryz.func196,Tryz.ntmps196
  go_wp2
  go_ret
  exact ⟨by rw[HL.out,hd.out];rfl,rfl⟩
def lenT:List Nat:=[3,4,5,6,7,8,9,10,11,13,15,17,19,23,27,31,35,43,51,59,67,83,99,115,131,163,195,227,258]
def lbtT:List Nat:=[0,0,0,0,0,0,0,0,1,1,1,1,2,2,2,2,3,3,3,3,4,4,4,4,5,5,5,5,0]
def disT:List Nat:=[1,2,3,4,5,7,9,13,17,25,33,49,65,97,129,193,257,385,513,769,1025,1537,2049,3073,4097,6145,8193,12289,16385,24577]
def ordT:List Nat:=[16,17,18,0,8,7,9,6,10,5,11,4,12,3,13,2,14,1,15]
structure TabsAt (w:World):Prop where
 len:∀ j,j<29->w.cell? ⟨3,j,none⟩=some (.int .i64 (lenT.getD j 0:Nat))
 lbt:∀ j,j<29->w.cell? ⟨4,j,none⟩=some (.int .i64 (lbtT.getD j 0:Nat))
 dis:∀ j,j<30->w.cell? ⟨1,j,none⟩=some (.int .i64 (disT.getD j 0:Nat))
 ord:∀ j,j<19->w.cell? ⟨2,j,none⟩=some (.int .i64 (ordT.getD j 0:Nat))
theorem TabsAt.kept {w W:World} (h:TabsAt w) (k:Kept w W):TabsAt W:=
 ⟨fun j hj=>(k.cell (World.block_lt_of_cell? _ _ (h.len j hj))).trans (h.len j hj),fun j hj=>(k.cell (World.block_lt_of_cell? _ _ (h.lbt j hj))).trans (h.lbt j hj),fun j hj=>(k.cell (World.block_lt_of_cell? _ _ (h.dis j hj))).trans (h.dis j hj),fun j hj=>(k.cell (World.block_lt_of_cell? _ _ (h.ord j hj))).trans (h.ord j hj)⟩
theorem TabsAt.fr {w W:World} {b:Nat} (h:TabsAt w) (k:Fr1 b w W) (h1:b≠3) (h2:b≠4) (h3:b≠1) (h4:b≠2):TabsAt W:=
 ⟨fun j hj=>(k.cell (World.block_lt_of_cell? _ _ (h.len j hj)) (fun e=>h1 e.symm)).trans (h.len j hj),fun j hj=>(k.cell (World.block_lt_of_cell? _ _ (h.lbt j hj)) (fun e=>h2 e.symm)).trans (h.lbt j hj),fun j hj=>(k.cell (World.block_lt_of_cell? _ _ (h.dis j hj)) (fun e=>h3 e.symm)).trans (h.dis j hj),fun j hj=>(k.cell (World.block_lt_of_cell? _ _ (h.ord j hj)) (fun e=>h4 e.symm)).trans (h.ord j hj)⟩
structure NT (b:Nat):Prop where
 grd:b≠0
 len:b≠3
 lbt:b≠4
 dis:b≠1
 ord:b≠2
structure AllAt (w:World):Prop where
 grd:GrdAt w
 tabs:TabsAt w
theorem AllAt.kept {w W:World} (h:AllAt w) (k:Kept w W):AllAt W:=⟨h.grd.kept k,h.tabs.kept k⟩
theorem AllAt.fr {w W:World} {b:Nat} (h:AllAt w) (k:Fr1 b w W) (hb:NT b):AllAt W:=⟨h.grd.fr k (fun q=>hb.grd q.symm),h.tabs.fr k hb.len hb.lbt hb.dis hb.ord⟩
theorem AllAt.new {w:World} {b:Nat} (h:AllAt w) (hb:w.heap.size<=b):NT b:=by
 have h0:0<w.heap.size:=World.block_lt_of_cell? _ _ (h.grd 0 (by omega))
 have h1:3<w.heap.size:=World.block_lt_of_cell? _ _ (h.tabs.len 0 (by omega))
 have h2:4<w.heap.size:=World.block_lt_of_cell? _ _ (h.tabs.lbt 0 (by omega))
 have h3:1<w.heap.size:=World.block_lt_of_cell? _ _ (h.tabs.dis 0 (by omega))
 have h4:2<w.heap.size:=World.block_lt_of_cell? _ _ (h.tabs.ord 0 (by omega))
 exact ⟨by omega,by omega,by omega,by omega,by omega⟩
theorem lenT_le:∀ j,j<29->3<=lenT.getD j 0/\lenT.getD j 0<=258/\lbtT.getD j 0<=5:=by decide
theorem disT_le:∀ j,j<30->1<=disT.getD j 0/\disT.getD j 0<=24577:=by decide
theorem ordT_le:∀ j,j<19->ordT.getD j 0<19:=by decide
theorem clength_x (j:Nat) (σ:Int) (w:World) (hT:TabsAt w) (hσ:σ=((257+j:Nat):Int)) (hj:j<29) :
  Calls Tryz.prog 189 #[.int .i64 σ] w fun e w'=>e = .returned (.tuple #[.int .i64 (lenT.getD j 0:Nat),.int .i64 (lbtT.getD j 0:Nat)])/\Kept w w':=by
 have k1:=hT.len j hj
 have k2:=hT.lbt j hj
 have e1:σ - 257=(j:Int):=by omega
 have b1:σ<1000:=by omega
 have b2:0<=σ:=by omega
 have j0:¬ (j:Int)<0:=by omega
 have j1:¬ (29:Int)<=(j:Int):=by omega
 have j2:(0:Int)<=(j:Int):=by omega
 have j3:(j:Int)<29:=by omega
 generalize lenT.getD j 0=A at *
 generalize lbtT.getD j 0=B at *
 clear hT hσ
 go_enter Tryz.func189,Tryz.ntmps189
 go_wp2_with fail
 go_quiet (fail)
 go_wp2
 go_ret2
 exact ⟨rfl,(Kept.refl _).drewN _⟩
theorem cdistance_x (j:Nat) (w:World) (hT:TabsAt w) (hj:j<30) :
  Calls Tryz.prog 175 #[.int .i64 (j:Int)] w fun e w'=>e = .returned (.tuple #[.int .i64 (disT.getD j 0:Nat),.int .i64 ((j / 2 - 1:Nat):Int)])/\w'=w:=by
 have k1:=hT.dis j hj
 have j0:¬ (j:Int)<0:=by omega
 have j1:¬ (30:Int)<=(j:Int):=by omega
 have j2:(0:Int)<=(j:Int):=by omega
 have j3:(j:Int)<30:=by omega
 generalize disT.getD j 0=A at *
 obtain ⟨Q,hQ⟩:∃ Q,Q=j / 2:=⟨_,rfl⟩
 have eQ:(j:Int).tdiv 2=(Q:Int):=by rw[Int.tdiv_eq_ediv_of_nonneg (by omega)];omega
 have eQ':(j:Int) / 2=(Q:Int):=by omega
 rw[<- hQ]
 have hQb:Q<15:=by omega
 clear hT
 replace hQ:Hid _:=hQ
 by_cases h0:Q=0
 ·subst h0
  go_enter Tryz.func175,Tryz.ntmps175
  go_wp2
  go_ret2
  exact ⟨rfl,rfl⟩
 ·obtain ⟨R,hR⟩:∃ R,R=Q - 1:=⟨_,rfl⟩
  have eR:(Q:Int) - 1=(R:Int):=by omega
  rw[<- hR]
  replace hR:Hid _:=hR
  clear h0
  by_cases h1:R=0
  ·subst h1
   go_enter Tryz.func175,Tryz.ntmps175
   go_wp2
   go_ret2
   exact ⟨rfl,rfl⟩
  ·have r0:(0:Int)<(R:Int):=by omega
   have r1:¬ (R:Int)<=0:=by omega
   have r2:¬ (R:Int)<0:=by omega
   have r3:(0:Int)<=(R:Int):=by omega
   clear h1
   go_enter Tryz.func175,Tryz.ntmps175
   go_wp2
   all_goals (go_ret2;exact ⟨rfl,rfl⟩)
def copyGo:Nat->Nat->St->Rw->St × Rw × Nat
 | 0,_,s,r=>(s.enter 12 0,r,0)
 | k+1,D,s,r=>if (giveP s r (s.hist (s.count - D))).2.2=0 then copyGo k D (giveP s r (s.hist (s.count - D))).1 (giveP s r (s.hist (s.count - D))).2.1 else giveP s r (s.hist (s.count - D))
structure CpOk (D:Nat) (s:St) (r:Rw):Prop where
 good:RwGood r
 sum:s.sum<4294967296
 cnt:s.count<=2078
 far:D<=s.count
 hist:∀ j,s.hist j<256
def CopyOk:Nat->Nat->St->Rw->Prop
 | 0,_,_,_=>True
 | k+1,D,s,r=>CpOk D s r/\((giveP s r (s.hist (s.count - D))).2.2=0->CopyOk k D (giveP s r (s.hist (s.count - D))).1 (giveP s r (s.hist (s.count - D))).2.1)
def copyP (s:St) (r:Rw) (D:Nat):St × Rw × Nat:=if D<1\/s.count<D\/s.window<D then (s,r,14) else copyGo s.length D s r
theorem giveP_len (s:St) (r:Rw) (x:Nat):(giveP s r x).1.length=s.length:=by
 unfold giveP
 split
 ·split<;>rfl
 ·rfl
theorem giveCopy_x (b o n D:Nat) (c:Nat->Value) (s:St) (r:Rw) (w:World) (hB:Blk w b n c) (hS:StV c o s) (hR:RwV c (o+3351) r) (hn:o+4900<=n) (hG:GrdAt w) (hb:b≠0) (hD:D<=100000) (hc:s.count<=2078) (hw:s.window<=100000) (hl:s.length<=100000) (hk:1<=D->D<=s.count->D<=s.window->CopyOk s.length D s r) :
  Calls Tryz.prog 176 #[.pointer (some ⟨b,o,none⟩),.int .i64 (D:Int),.pointer (some ⟨b,o+3351,none⟩)] w fun e w'=>e = .returned (.int .i64 ((copyP s r D).2.2:Int))/\SRStep b o n c (copyP s r D).1 (copyP s r D).2.1 w w':=by
 have k1:=hB.at (i:=o+3349) (by omega) hS.count
 have k2:=hB.at (i:=o+8) (by omega) hS.window
 have H0:Hid (SRStep b o n c s r w w):=SRStep.refl hB hS hR
 by_cases hbad:D<1\/s.count<D\/s.window<D
 ·have HE:Hid (copyP s r D=(s,r,14)):=if_pos hbad
  clear hB hS hR hG hk
  by_cases h1:D<1
  ·have h1':(D:Int)<1:=by omega
   clear hbad
   go_enter Tryz.func176,Tryz.ntmps176
   go_wp2
   go_ret
   rw[HE.out]
   exact ⟨rfl,H0.out⟩
  ·have h1':¬ (D:Int)<1:=by omega
   by_cases h2:s.count<D
   ·have h2':(s.count:Int)<(D:Int):=by omega
    clear hbad
    go_enter Tryz.func176,Tryz.ntmps176
    go_wp2
    go_ret
    rw[HE.out]
    exact ⟨rfl,H0.out⟩
   ·have h2':¬ (s.count:Int)<(D:Int):=by omega
    have h3':(s.window:Int)<(D:Int):=by omega
    clear hbad
    go_enter Tryz.func176,Tryz.ntmps176
    go_wp2
    go_ret
    rw[HE.out]
    exact ⟨rfl,H0.out⟩
 ·have HE:Hid (copyP s r D=copyGo s.length D s r):=if_neg hbad
  have h1':¬ (D:Int)<1:=by omega
  have h2':¬ (s.count:Int)<(D:Int):=by omega
  have h3':¬ (s.window:Int)<(D:Int):=by omega
  have HC:Hid (CopyOk s.length D s r):=hk (by omega) (by omega) (by omega)
  have FG:Hid (∀ (W:World) (d:Nat->Value) (s':St) (r':Rw) (x:Nat),Blk W b n d->StV d o s'->RwV d (o+3351) r'->Fr1 b w W->RwGood r'->s'.sum<4294967296->x<256->Calls Tryz.prog 174 #[.pointer (some ⟨b,o,none⟩),.int .u8 (x:Int),.pointer (some ⟨b,o+3351,none⟩)] W fun e w'=>e = .returned (.int .i64 ((giveP s' r' x).2.2:Int))/\SRStep b o n d (giveP s' r' x).1 (giveP s' r' x).2.1 W w'):=fun W d s' r' x a1 a2 a3 a4 a5 a6 a7=>give_x b o n x d s' r' W a1 a2 a3 hn a5 (hG.fr a4 (fun q=>hb q.symm)) hb a7 a6
  have FE:Hid (∀ (W:World) (d:Nat->Value) (s':St),Blk W b n d->StV d o s'->Calls Tryz.prog 154 #[.pointer (some ⟨b,o,none⟩),.int .i64 ((12:Nat):Int),.int .u64 ((0:Nat):Int)] W fun e w'=>e = .returned (.tuple #[])/\StStep b o n d (s'.enter 12 0) W w'):=fun W d s' a1 a2=>senter_x b o n 12 0 d s' W a1 a2 (by omega)
  obtain ⟨N,hN⟩:∃ N,N=s.length:=⟨_,rfl⟩
  rw[<- hN] at HE HC hl
  replace hN:Hid _:=hN
  generalize copyP s r D=CP at *
  clear hB hS hR hG hk
  go_enter Tryz.func176,Tryz.ntmps176
  go_wp2_with fail
  go_loopg [7,8,9,10] N (fun m v7 v8 v9 v10 W=>∃ (i:Nat) (s':St) (r':Rw),m=N - i/\i<=N/\v7 = .int .i64 (i:Int)/\SRStep b o n c s' r' w W/\s'.length=N/\CopyOk (N - i) D s' r'/\CP=copyGo (N - i) D s' r')
  case atStart=>exact ⟨0,s,r,by omega,by omega,rfl,H0.out,hN.out.symm,HC.out,HE.out⟩
  case round=>
   obtain ⟨i,s',r',hgk,hi,rfl,hst,hlen,hco,hcp⟩:=hrel
   replace hgk:Hid _:=hgk
   obtain ⟨d,B1,S1,R1,C1,F1⟩:=hst
   clear k1 k2
   have y1:=B1.at (i:=o+1269) (by omega) S1.length
   rw[hlen] at y1
   have y2:=B1.at (i:=o+3349) (by omega) S1.count
   by_cases hlt:i<N
   ·have hlt':(i:Int)<(N:Int):=by omega
    rw[show N - i=(N - (i+1))+1 by omega] at hco hcp
    obtain ⟨cp,hnx⟩:=hco
    have c1:=cp.cnt
    have c2:=cp.far
    have hx:=cp.hist (s'.count - D)
    obtain ⟨Q,hQ⟩:∃ Q,Q=s'.count - D:=⟨_,rfl⟩
    have eQ:(s'.count:Int) - (D:Int)=(Q:Int):=by omega
    have y3:=B1.at (i:=o+1271+Q) (by omega) (S1.hist Q (by omega))
    have hcp':CP=if (giveP s' r' (s'.hist Q)).2.2=0 then copyGo (N - (i+1)) D (giveP s' r' (s'.hist Q)).1 (giveP s' r' (s'.hist Q)).2.1 else giveP s' r' (s'.hist Q):=by rw[hcp,hQ];rfl
    rw[<- hQ] at hnx hx
    have q0:¬ (Q:Int)<0:=by omega
    have q1:¬ (2078:Int)<=(Q:Int):=by omega
    have q2:(0:Int)<=(Q:Int):=by omega
    have q3:(Q:Int)<2078:=by omega
    have FX:=FG.out wr d s' r' (s'.hist Q) B1 S1 R1 F1 cp.good cp.sum hx
    have hgl:=giveP_len s' r' (s'.hist Q)
    rw[hlen] at hgl
    generalize s'.hist Q=X at *
    generalize giveP s' r' X=GP at *
    replace FX:Hid _:=FX
    replace hcp':Hid _:=hcp'
    replace hnx:Hid _:=hnx
    replace hgl:Hid _:=hgl
    replace hQ:Hid _:=hQ
    replace C1:Hid (FrC b o (o+4900) c d):=C1
    replace F1:Hid (Fr1 b w wr):=F1
    clear hcp cp B1 S1 R1 hlen
    go_wp2_with fail
    refine Calls.mono FX.out ?_
    rintro e w1 ⟨rfl,hs1⟩
    replace hs1:Hid (SRStep b o n c GP.1 GP.2.1 w w1):=SRStep.next C1.out F1.out hs1
    by_cases hE:GP.2.2=0
    ·have hE':((GP.2.2:Int) != 0)=false:=by rw[bne_eq_false_iff_eq];omega
     have hcp2:Hid (CP=copyGo (N - (i+1)) D GP.1 GP.2.1):=by show CP=_;rw[hcp'.out,if_pos hE]
     have hco2:Hid (CopyOk (N - (i+1)) D GP.1 GP.2.1):=hnx.out hE
     replace hE:Hid _:=hE
     go_wp2
     go_roundg (N - (i+1))
     case measure=>rw[hgk.out];omega
     case rel=>exact ⟨i+1,GP.1,GP.2.1,rfl,by omega,by go_num,hs1.out,hgl.out,hco2.out,hcp2.out⟩
    ·have hE':((GP.2.2:Int) != 0)=true:=by rw[bne_iff_ne];omega
     have hcp2:Hid (CP=GP):=by show CP=_;rw[hcp'.out,if_neg hE]
     replace hE:Hid _:=hE
     go_wp2
     go_ret
     rw[hcp2.out]
     exact ⟨rfl,hs1.out⟩
   ·have hlt':¬ (i:Int)<(N:Int):=by omega
    rw[show N - i=0 by omega] at hcp
    have hcp2:Hid (CP=(s'.enter 12 0,r',0)):=hcp
    have FX:Hid _:=FE.out wr d s' B1 S1
    have R2:Hid (RwV d (o+3351) r'):=R1
    replace C1:Hid (FrC b o (o+4900) c d):=C1
    replace F1:Hid (Fr1 b w wr):=F1
    clear hcp hco B1 S1 R1 hlen
    go_wp2_with fail
    refine Calls.mono FX.out ?_
    rintro e w1 ⟨rfl,hs1⟩
    have hs2:Hid (SRStep b o n c (s'.enter 12 0) r' w w1):=SRStep.next C1.out F1.out (SRStep.of_st R2.out hs1)
    clear hs1
    go_wp2
    go_ret
    rw[hcp2.out]
    exact ⟨rfl,hs2.out⟩
def St.copy (s:St) (j:Nat):St:=if lbtT.getD j 0=0 then ({ s with length:=lenT.getD j 0 }:St).enter 13 0 else ({ s with length:=lenT.getD j 0 }:St).enter 7 (lbtT.getD j 0)
def St.lengthRest (s:St) (v:Nat):St:=({ s with length:=s.length+v }:St).enter 13 0
def distP (s:St) (r:Rw) (σ:Int):St × Rw × Nat:=
 if σ = -1 then (s,r,0) else if σ<0\/30<=σ then (s,r,13)
 else if σ.toNat / 2 - 1=0 then copyP s r (disT.getD σ.toNat 0) else (({ s with base:=disT.getD σ.toNat 0 }:St).enter 8 (σ.toNat / 2 - 1),r,0)
def distRestP (s:St) (r:Rw) (v:Nat):St × Rw × Nat:=copyP s r (s.base+v)
theorem beginCopy_x (b o n j:Nat) (σ:Int) (c:Nat->Value) (s:St) (w:World) (hB:Blk w b n c) (hV:StV c o s) (hn:o+3351<=n) (hT:TabsAt w) (hσ:σ=((257+j:Nat):Int)) (hj:j<29) :
  Calls Tryz.prog 173 #[.pointer (some ⟨b,o,none⟩),.int .i64 σ] w fun e w'=>e = .returned (.int .i64 0)/\StStep b o n c (s.copy j) w w':=by
 have FL:Hid (Calls Tryz.prog 189 #[.int .i64 σ] w fun e w'=>e = .returned (.tuple #[.int .i64 (lenT.getD j 0:Nat),.int .i64 (lbtT.getD j 0:Nat)])/\Kept w w'):=clength_x j σ w hT hσ hj
 have hle:=lenT_le j hj
 have HE:Hid (s.copy j=if lbtT.getD j 0=0 then ({ s with length:=lenT.getD j 0 }:St).enter 13 0 else ({ s with length:=lenT.getD j 0 }:St).enter 7 (lbtT.getD j 0)):=rfl
 generalize lenT.getD j 0=A at *
 generalize lbtT.getD j 0=Q at *
 generalize s.copy j=SC at *
 have HB:Hid (∀ W,Kept w W->Blk W b n c):=fun W k=>hB.kept k
 have HV:Hid (StV c o s):=hV
 have hA1:=hle.2.1
 have hQ1:=hle.2.2
 clear hB hV hT hσ hle
 by_cases h0:Q=0
 ·have h0':((Q:Int) == 0)=true:=by rw[beq_iff_eq];omega
  have HE2:Hid (SC=({ s with length:=A }:St).enter 13 0):=by show SC=_;rw[HE.out,if_pos h0]
  replace h0:Hid _:=h0
  go_enter Tryz.func173,Tryz.ntmps173
  go_wp2_with fail
  refine FL.out.mono ?_
  rintro e w1 ⟨rfl,hk⟩
  have B1:=HB.out w1 hk
  have k12:=B1.at (i:=o+1269) (by omega) HV.out.length
  have z:=B1.fz (o+1269)
  replace B1:Hid _:=B1
  replace hk:Hid (Kept w w1):=hk
  go_wp2_with fail
  refine (senter_x b o n 13 0 _ { s with length:=A } _ (B1.out.set (by omega) _) (HV.out.set_length A) hn).mono ?_
  rintro e w2 ⟨rfl,d,h1,h2,h3,h4⟩
  go_wp2_with fail
  go_ret
  rw[HE2.out]
  exact ⟨rfl,d,h1,h2,(FrC.upd _ (by omega) (by omega)).trans h3,(Fr.of_kept hk.out).trans ((Fr1.set (Fr.refl _ _) _ _).trans h4)⟩
 ·have h0':((Q:Int) == 0)=false:=by rw[beq_eq_false_iff_ne];omega
  have HE2:Hid (SC=({ s with length:=A }:St).enter 7 Q):=by show SC=_;rw[HE.out,if_neg h0]
  have q0:(0:Int)<=(Q:Int):=by omega
  have q1:(Q:Int)<4294967296:=by omega
  replace h0:Hid _:=h0
  go_enter Tryz.func173,Tryz.ntmps173
  go_wp2_with fail
  refine FL.out.mono ?_
  rintro e w1 ⟨rfl,hk⟩
  have B1:=HB.out w1 hk
  have k12:=B1.at (i:=o+1269) (by omega) HV.out.length
  have z:=B1.fz (o+1269)
  replace B1:Hid _:=B1
  replace hk:Hid (Kept w w1):=hk
  go_wp2_with fail
  refine (senter_x b o n 7 Q _ { s with length:=A } _ (B1.out.set (by omega) _) (HV.out.set_length A) hn).mono ?_
  rintro e w2 ⟨rfl,d,h1,h2,h3,h4⟩
  go_wp2_with fail
  go_ret
  rw[HE2.out]
  exact ⟨rfl,d,h1,h2,(FrC.upd _ (by omega) (by omega)).trans h3,(Fr.of_kept hk.out).trans ((Fr1.set (Fr.refl _ _) _ _).trans h4)⟩
theorem lengthRest_x (b o n v:Nat) (c:Nat->Value) (s:St) (w:World) (hB:Blk w b n c) (hV:StV c o s) (hn:o+3351<=n) (hl:s.length<=100000) (hv:v<4294967296) :
  Calls Tryz.prog 184 #[.pointer (some ⟨b,o,none⟩),.int .u32 (v:Int)] w fun e w'=>e = .returned (.int .i64 0)/\StStep b o n c (s.lengthRest v) w w':=by
 have k12:=hB.at (i:=o+1269) (by omega) hV.length
 have z:=hB.fz (o+1269)
 have HB:Hid (Blk w b n c):=hB
 have HV:Hid (StV c o s):=hV
 obtain ⟨Q,hQ⟩:∃ Q,Q=s.length+v:=⟨_,rfl⟩
 have eQ:(s.length:Int)+(v:Int)=(Q:Int):=by omega
 have HE:Hid (s.lengthRest v=({ s with length:=Q }:St).enter 13 0):=by show s.lengthRest v=_;rw[hQ];rfl
 generalize s.lengthRest v=SC at *
 replace hQ:Hid _:=hQ
 clear hB hV
 go_enter Tryz.func184,Tryz.ntmps184
 go_wp2_with fail
 refine (senter_x b o n 13 0 _ { s with length:=Q } _ (HB.out.set (by omega) _) (HV.out.set_length Q) hn).mono ?_
 rintro e w2 ⟨rfl,d,h1,h2,h3,h4⟩
 go_wp2_with fail
 go_ret
 rw[HE.out]
 exact ⟨rfl,d,h1,h2,(FrC.upd _ (by omega) (by omega)).trans h3,(Fr1.set (Fr.refl _ _) _ _).trans h4⟩
theorem distRest_x (b o n v:Nat) (c:Nat->Value) (s:St) (r:Rw) (w:World) (hB:Blk w b n c) (hS:StV c o s) (hR:RwV c (o+3351) r) (hn:o+4900<=n) (hG:GrdAt w) (hb:b≠0) (hv:v<=50000) (hbs:s.base<=50000) (hc:s.count<=2078) (hw:s.window<=100000) (hl:s.length<=100000) (hk:1<=s.base+v->s.base+v<=s.count->s.base+v<=s.window->CopyOk s.length (s.base+v) s r) :
  Calls Tryz.prog 185 #[.pointer (some ⟨b,o,none⟩),.int .u32 (v:Int),.pointer (some ⟨b,o+3351,none⟩)] w fun e w'=>e = .returned (.int .i64 ((distRestP s r v).2.2:Int))/\SRStep b o n c (distRestP s r v).1 (distRestP s r v).2.1 w w':=by
 have k13:=hB.at (i:=o+1270) (by omega) hS.base
 have HE:Hid (distRestP s r v=copyP s r (s.base+v)):=rfl
 obtain ⟨D,hD⟩:∃ D,D=s.base+v:=⟨_,rfl⟩
 have eD:(s.base:Int)+(v:Int)=(D:Int):=by omega
 rw[<- hD] at hk HE
 have FX:Hid _:=giveCopy_x b o n D c s r w hB hS hR hn hG hb (by omega) hc hw hl hk
 replace hD:Hid _:=hD
 generalize distRestP s r v=DP at *
 generalize copyP s r D=CP at *
 clear hB hS hR hG hk
 go_enter Tryz.func185,Tryz.ntmps185
 go_wp2_with fail
 refine Calls.mono FX.out ?_
 rintro e w1 ⟨rfl,h1⟩
 go_wp2_with fail
 go_ret
 rw[HE.out]
 exact ⟨rfl,h1⟩
theorem distance_x (b o n:Nat) (σ:Int) (c:Nat->Value) (s:St) (r:Rw) (w:World) (hB:Blk w b n c) (hS:StV c o s) (hR:RwV c (o+3351) r) (hn:o+4900<=n) (hG:GrdAt w) (hb:b≠0) (hT:TabsAt w) (hσ1 : -2<=σ) (hσ2:σ<=1000) (hc:s.count<=2078) (hw:s.window<=100000) (hl:s.length<=100000) (hk:∀ D,1<=D->D<=s.count->D<=s.window->CopyOk s.length D s r) :
  Calls Tryz.prog 167 #[.pointer (some ⟨b,o,none⟩),.int .i64 σ,.pointer (some ⟨b,o+3351,none⟩)] w fun e w'=>e = .returned (.int .i64 ((distP s r σ).2.2:Int))/\SRStep b o n c (distP s r σ).1 (distP s r σ).2.1 w w':=by
 have H0:Hid (SRStep b o n c s r w w):=SRStep.refl hB hS hR
 by_cases h1:σ = -1
 ·subst h1
  have HE:Hid (distP s r (-1)=(s,r,0)):=if_pos rfl
  clear hB hS hR hG hk hT
  go_enter Tryz.func167,Tryz.ntmps167
  go_wp2
  go_ret
  rw[HE.out]
  exact ⟨rfl,H0.out⟩
 have h1':(σ == -1)=false:=by rw[beq_eq_false_iff_ne];exact h1
 by_cases h2:σ<0\/30<=σ
 ·have HE:Hid (distP s r σ=(s,r,13)):=by show distP s r σ=_;unfold distP;rw[if_neg h1,if_pos h2]
  clear hB hS hR hG hk hT
  by_cases h3:σ<0
  ·clear h2
   go_enter Tryz.func167,Tryz.ntmps167
   go_wp2
   go_ret
   rw[HE.out]
   exact ⟨rfl,H0.out⟩
  ·have h4:(30:Int)<=σ:=by omega
   clear h2
   go_enter Tryz.func167,Tryz.ntmps167
   go_wp2
   go_ret
   rw[HE.out]
   exact ⟨rfl,H0.out⟩
 obtain ⟨j,hj⟩:∃ j:Nat,σ=(j:Int):=⟨σ.toNat,by omega⟩
 subst hj
 have hj:j<30:=by omega
 have g0:¬ (j:Int)<0:=by omega
 have g1:¬ (30:Int)<=(j:Int):=by omega
 have FL:Hid (Calls Tryz.prog 175 #[.int .i64 (j:Int)] w fun e w'=>e = .returned (.tuple #[.int .i64 (disT.getD j 0:Nat),.int .i64 ((j / 2 - 1:Nat):Int)])/\w'=w):=cdistance_x j w hT hj
 have hle:=disT_le j hj
 have HE:Hid (distP s r (j:Int)=if j / 2 - 1=0 then copyP s r (disT.getD j 0) else (({ s with base:=disT.getD j 0 }:St).enter 8 (j / 2 - 1),r,0)):=by
  show distP s r (j:Int)=_
  unfold distP
  rw[if_neg h1,if_neg h2,Int.toNat_natCast]
 generalize disT.getD j 0=A at *
 have hQ1:j / 2 - 1<=13:=by omega
 generalize j / 2 - 1=Q at *
 generalize distP s r (j:Int)=DP at *
 have hA1:=hle.2
 by_cases h0:Q=0
 ·have h0':((Q:Int) == 0)=true:=by rw[beq_iff_eq];omega
  have HE2:Hid (DP=copyP s r A):=by show DP=_;rw[HE.out,if_pos h0]
  have FX:Hid _:=giveCopy_x b o n A c s r w hB hS hR hn hG hb (by omega) hc hw hl (hk A)
  generalize copyP s r A=CP at *
  replace h0:Hid _:=h0
  clear hB hS hR hG hk hT h2 hle
  go_enter Tryz.func167,Tryz.ntmps167
  go_wp2_with fail
  refine FL.out.mono ?_
  rintro e w1 ⟨rfl,hw1⟩
  subst w1
  go_wp2_with fail
  refine Calls.mono FX.out ?_
  rintro e w1 ⟨rfl,h1⟩
  go_wp2_with fail
  go_ret
  rw[HE2.out]
  exact ⟨rfl,h1⟩
 ·have h0':((Q:Int) == 0)=false:=by rw[beq_eq_false_iff_ne];omega
  have HE2:Hid (DP=(({ s with base:=A }:St).enter 8 Q,r,0)):=by show DP=_;rw[HE.out,if_neg h0]
  have k13:=hB.at (i:=o+1270) (by omega) hS.base
  have z:=hB.fz (o+1270)
  have HB:Hid (Blk w b n c):=hB
  have HV:Hid (StV c o s):=hS
  have HR:Hid (RwV c (o+3351) r):=hR
  have q0:(0:Int)<=(Q:Int):=by omega
  have q1:(Q:Int)<4294967296:=by omega
  replace h0:Hid _:=h0
  clear hB hS hR hG hk hT h2 hle
  go_enter Tryz.func167,Tryz.ntmps167
  go_wp2_with fail
  refine FL.out.mono ?_
  rintro e w1 ⟨rfl,hw1⟩
  subst w1
  go_wp2_with fail
  refine (senter_x b o n 8 Q _ { s with base:=A } _ (HB.out.set (by omega) _) (HV.out.set_base A) (by omega)).mono ?_
  rintro e w2 ⟨rfl,d,h1,h2,h3,h4⟩
  go_wp2_with fail
  go_ret
  rw[HE2.out]
  exact ⟨rfl,SRStep.of_st HR.out ⟨d,h1,h2,(FrC.upd _ (by omega) (by omega)).trans h3,(Fr1.set (Fr.refl _ _) _ _).trans h4⟩⟩
