import Derived.Test.YtmbmecfodigciaaGreatDoorMo09
set_option maxRecDepth 100000
set_option maxHeartbeats 6400000
namespace Go.Proofs.YtmbmecfodigciaaGreatDoor
open Go.RowKit Px
set_option linter.unusedSimpArgs false
set_option linter.unusedVariables false
theorem CSV.of_cells {d:Nat→Value} {o:Nat} {s:CS} (h:∀ j,j<306→d (o+j)=csC s j):CSV d o s:=by
 have k:=csC_V s
 refine ⟨fun i hi => ?_,fun i hi => ?_,?_,?_⟩
 ·rw[h i (by omega)];have:=k.count i hi;rwa [Nat.zero_add] at this
 ·rw[show o+16+i=o+(16+i) from by omega,h (16+i) (by omega)];have:=k.sym i hi;rwa [show 0+16+i=16+i from by omega] at this
 ·rw[h 304 (by omega)];have:=k.total;rwa [Nat.zero_add] at this
 ·rw[h 305 (by omega)];have:=k.longest;rwa [Nat.zero_add] at this
def St.block1 (s:St) (v:Nat):St:=({ s with last:=decide (v % 2=1),lit:=fixL,dist:=fixD }:St).enter 12 0
theorem takeBlock1_x (b o n v:Nat) (c:Nat→Value) (s:St) (w:World) (hB:Blk w b n c) (hV:StV c o s) (hn:o+3351≤n) (hv:v=2∨v=3) :
  Calls Tryz.prog 178 #[.pointer (some ⟨b,o,none⟩),.int .u32 (v:Int)] w fun e w'=>e = .returned (.int .i64 0)∧StStep b o n c (s.block1 v) w w':=by
 have k9:=hB.at (i:=o+9) (by omega) hV.last
 have z:=hB.fz
 have HB:Hid (Blk w b n c):=hB
 have HV:Hid (StV c o s):=hV
 have ea:=u32_and_1 v (by omega)
 have e2:(v:Int) / 2=1:=by omega
 obtain ⟨B1,hB1⟩:∃ B1,B1=v % 2:=⟨_,rfl⟩
 rw[← hB1] at ea
 have HL:Hid (((B1:Int) == 1)=decide (v % 2=1)):=by show ((B1:Int) == 1)=decide (v % 2=1);rw[Bool.eq_iff_iff,beq_iff_eq,decide_eq_true_iff];omega
 have HE:Hid (s.block1 v=({ s with last:=decide (v % 2=1),lit:=fixL,dist:=fixD }:St).enter 12 0):=rfl
 generalize decide (v % 2=1)=LL at *
 replace hB1:Hid _:=hB1
 clear hB hV hv
 go_enter Tryz.func178,Tryz.ntmps178
 go_wp2_with fail
 rw[HL.out]
 have BB1:Hid (Blk (w.setCell ⟨b,o+9,none⟩ (.bool LL)) b n (upd c (o+9) (.bool LL))):=HB.out.set (by omega) _
 have VV1:Hid (StV (upd c (o+9) (.bool LL)) o { s with last:=LL }):=HV.out.set_last LL
 have FF1:Hid (Fr1 b w (w.setCell ⟨b,o+9,none⟩ (.bool LL))):=Fr1.set (Fr.refl _ _) _ _
 have CC1:Hid (FrC b o (o+3351) c (upd c (o+9) (.bool LL))):=FrC.upd _ (by omega) (by omega)
 generalize w.setCell ⟨b,o+9,none⟩ (.bool LL)=w1 at *
 generalize upd c (o+9) (.bool LL)=c1 at *
 clear k9 z HB HV
 refine (fixedLits_x w1).mono ?_
 rintro e w2 ⟨rfl,hk2⟩
 obtain ⟨ds,hds⟩:∃ ds,ds=(List.range 306).map (csC ⟨cntF 288,syF 288,288,lgF 288⟩):=⟨_,rfl⟩
 have hdl:ds.length=306:=by rw[hds];exact range_len _ 306
 have hdo:∀ v ∈ ds,v.oneCell'=true:=by rw[hds];exact csC_one _
 have hdg:∀ j,j<306→ds[j]? = some (csC fixL j):=fun j hj=>by rw[hds,range_get _ 306 j hj,csC_fixL j hj]
 rw[← hds]
 have B2:Blk w2 b n c1:=BB1.out.kept hk2
 have hsc:(storeCells ⟨b,o+11,none⟩ ds).run Tryz.prog w2 = .ok () (w2.setCells b (o+11) ds):=store_all (by rw[hdl];exact B2.there (by omega)) hdo
 have BB3:Hid (Blk (w2.setCells b (o+11) ds) b n (updL c1 (o+11) 306 (csC fixL))):=B2.sets (by omega) _ hdl hdg
 have VV3:Hid (StV (updL c1 (o+11) 306 (csC fixL)) o { s with last:=LL,lit:=fixL }):=VV1.out.set_lit fixL (CSV.of_cells (fun j hj=>updL_in hj)) (fun i hi=>updL_out (fun q=>hi ⟨q.1,by omega⟩))
 have FF3:Hid (Fr1 b w (w2.setCells b (o+11) ds)):=Fr1.sets _ _ (FF1.out.kept hk2)
 have CC3:Hid (FrC b o (o+3351) c (updL c1 (o+11) 306 (csC fixL))):=CC1.out.trans (FrC.updL (by omega) (by omega))
 replace hds:Hid _:=hds
 replace hdl:Hid _:=hdl
 replace hdo:Hid _:=hdo
 replace hdg:Hid _:=hdg
 clear B2 hk2 BB1 VV1 FF1 CC1
 go_upto_region 9 with fail
 generalize w2.setCells b (o+11) ds=w3 at *
 generalize updL c1 (o+11) 306 (csC fixL)=c3 at *
 clear hsc
 go_wp2_with fail
 refine (fixedDists_x w3).mono ?_
 rintro e w4 ⟨rfl,hk4⟩
 obtain ⟨es,hes⟩:∃ ds,ds=(List.range 306).map (csC ⟨cntD 32,syD 32,32,lgD 32⟩):=⟨_,rfl⟩
 have hel:es.length=306:=by rw[hes];exact range_len _ 306
 have heo:∀ v ∈ es,v.oneCell'=true:=by rw[hes];exact csC_one _
 have heg:∀ j,j<306→es[j]? = some (csC fixD j):=fun j hj=>by rw[hes,range_get _ 306 j hj,csC_fixD j hj]
 rw[← hes]
 have B4:Blk w4 b n c3:=BB3.out.kept hk4
 have hsc:(storeCells ⟨b,o+317,none⟩ es).run Tryz.prog w4 = .ok () (w4.setCells b (o+317) es):=store_all (by rw[hel];exact B4.there (by omega)) heo
 have BB5:Hid (Blk (w4.setCells b (o+317) es) b n (updL c3 (o+317) 306 (csC fixD))):=B4.sets (by omega) _ hel heg
 have VV5:Hid (StV (updL c3 (o+317) 306 (csC fixD)) o { s with last:=LL,lit:=fixL,dist:=fixD }):=VV3.out.set_dist fixD (CSV.of_cells (fun j hj=>updL_in hj)) (fun i hi=>updL_out (fun q=>hi ⟨q.1,by omega⟩))
 have FF5:Hid (Fr1 b w (w4.setCells b (o+317) es)):=Fr1.sets _ _ (FF3.out.kept hk4)
 have CC5:Hid (FrC b o (o+3351) c (updL c3 (o+317) 306 (csC fixD))):=CC3.out.trans (FrC.updL (by omega) (by omega))
 replace hes:Hid _:=hes
 replace hel:Hid _:=hel
 replace heo:Hid _:=heo
 replace heg:Hid _:=heg
 clear B4 hk4 BB3 VV3 FF3 CC3
 go_upto_region 10 with fail
 generalize w4.setCells b (o+317) es=w5 at *
 generalize updL c3 (o+317) 306 (csC fixD)=c5 at *
 clear hsc
 go_wp2_with fail
 refine (senter_x b o n 12 0 c5 { s with last:=LL,lit:=fixL,dist:=fixD } w5 BB5.out VV5.out hn).mono ?_
 rintro e w6 ⟨rfl,d,h1,h2,h3,h4⟩
 go_wp2_with fail
 go_ret
 rw[HE.out]
 exact ⟨rfl,d,h1,h2,CC5.out.trans h3,FF5.out.trans h4⟩
def symT (s:St) (r:Rw) (σ:Int):St × Rw × Nat:=if σ = -1 then (s,r,0) else if σ=256 then (s.endBlock,r,0) else giveP (s.enter 12 0) r σ.toNat
theorem takeSymbol_x (b o n:Nat) (σ:Int) (c:Nat→Value) (s:St) (r:Rw) (w:World) (hB:Blk w b n c) (hS:StV c o s) (hR:RwV c (o+3351) r) (hn:o+4900≤n) (hk:RwGood r) (hG:GrdAt w) (hb:b≠0) (hs:s.sum<4294967296) (hσ:σ = -1∨(0≤σ∧σ≤256)) :
  Calls Tryz.prog 166 #[.pointer (some ⟨b,o,none⟩),.int .i64 σ,.pointer (some ⟨b,o+3351,none⟩)] w fun e w'=>e = .returned (.int .i64 ((symT s r σ).2.2:Int))∧SRStep b o n c (symT s r σ).1 (symT s r σ).2.1 w w':=by
 by_cases h1:σ = -1
 ·subst h1
  have H0:Hid (SRStep b o n c s r w w):=SRStep.refl hB hS hR
  have HE:Hid (symT s r (-1)=(s,r,0)):=by show symT s r (-1)=_;unfold symT;rw[if_pos rfl]
  clear hB hS hR hk hG hσ
  go_enter Tryz.func166,Tryz.ntmps166
  go_wp2
  go_ret
  rw[HE.out]
  exact ⟨rfl,H0.out⟩
 ·have h1':(σ == -1)=false:=by rw[beq_eq_false_iff_ne];exact h1
  have g0:¬ σ<0:=by omega
  have g1:¬ (286:Int)≤σ:=by omega
  by_cases h6:σ=256
  ·subst h6
   have FE:Hid (Calls Tryz.prog 172 #[.pointer (some ⟨b,o,none⟩)] w fun e w'=>e = .returned (.int .i64 0)∧StStep b o n c s.endBlock w w'):=endBlock_x b o n c s w hB hS (by omega)
   have HR:Hid (RwV c (o+3351) r):=hR
   have HE:Hid (symT s r 256=(s.endBlock,r,0)):=by show symT s r 256=_;unfold symT;rw[if_neg (by decide),if_pos rfl]
   clear hB hS hR hk hG hσ
   go_enter Tryz.func166,Tryz.ntmps166
   go_wp2_with fail
   refine FE.out.mono ?_
   rintro e w1 ⟨rfl,k1⟩
   go_wp2_with fail
   go_ret
   rw[HE.out]
   exact ⟨rfl,SRStep.of_st HR.out k1⟩
  ·have h6':(σ == 256)=false:=by rw[beq_eq_false_iff_ne];exact h6
   have g2:¬ (257:Int)≤σ:=by omega
   obtain ⟨x,hx⟩:∃ x:Nat,σ=(x:Int):=⟨σ.toNat,by omega⟩
   subst hx
   have hx2:x<256:=by omega
   have F1:Hid (Calls Tryz.prog 154 #[.pointer (some ⟨b,o,none⟩),.int .i64 ((12:Nat):Int),.int .u64 ((0:Nat):Int)] w fun e w'=>e = .returned (.tuple #[])∧StStep b o n c (s.enter 12 0) w w'):=senter_x b o n 12 0 c s w hB hS (by omega)
   have HR:Hid (RwV c (o+3351) r):=hR
   have F2:Hid (∀ (W:World) (d:Nat→Value),Blk W b n d→StV d o (s.enter 12 0)→RwV d (o+3351) r→Fr1 b w W→Calls Tryz.prog 174 #[.pointer (some ⟨b,o,none⟩),.int .u8 (x:Int),.pointer (some ⟨b,o+3351,none⟩)] W fun e w'=>e = .returned (.int .i64 ((giveP (s.enter 12 0) r x).2.2:Int))∧SRStep b o n d (giveP (s.enter 12 0) r x).1 (giveP (s.enter 12 0) r x).2.1 W w'):=fun W d a1 a2 a3 a4=>give_x b o n x d (s.enter 12 0) r W a1 a2 a3 hn hk (hG.fr a4 (fun q=>hb q.symm)) hb hx2 hs
   obtain ⟨GP,hGP⟩:∃ G,G=giveP (s.enter 12 0) r x:=⟨_,rfl⟩
   rw[← hGP] at F2
   have HGP:Hid (symT s r (x:Int)=GP):=by
    show symT s r (x:Int)=GP
    unfold symT
    rw[if_neg h1,if_neg h6,Int.toNat_natCast,hGP]
   clear hB hS hR hk hG hσ hGP
   go_enter Tryz.func166,Tryz.ntmps166
   go_wp2_with fail
   refine F1.out.mono ?_
   rintro e w1 ⟨rfl,d,k1,k2,k3,k4⟩
   have R1:RwV d (o+3351) r:=HR.out.congr (fun i h1 h2=>k3.out i (by omega))
   have C1:Hid (FrC b o (o+4900) c d):=k3.mono (by omega) (by omega)
   have F3:=F2.out w1 d k1 k2 R1 k4
   replace F3:Hid _:=F3
   have F4:Hid (Fr1 b w w1):=k4
   clear k1 k2 k3 k4 R1 F2
   go_wp2_with fail
   refine Calls.mono F3.out ?_
   rintro e w2 ⟨rfl,k5⟩
   go_wp2_with fail
   go_ret
   rw[HGP.out]
   exact ⟨rfl,SRStep.next C1.out F4.out k5⟩
theorem and_mask (a m k:Nat):a &&& ((2^m - 1)*2^k)=a / 2^k % 2^m*2^k:=by
 apply Nat.eq_of_testBit_eq
 intro i
 rw[Nat.testBit_and,Nat.testBit_mul_two_pow,Nat.testBit_mul_two_pow,Nat.testBit_two_pow_sub_one,Nat.testBit_mod_two_pow,Nat.testBit_div_two_pow]
 by_cases h:k≤i
 ·simp only [h,decide_true,Bool.true_and]
  rw[show i - k+k=i from by omega,Bool.and_comm]
 ·simp only [h,decide_false,Bool.false_and,Bool.and_false]
theorem u32_and_n (a c:Nat) (ha:a<4294967296) (hc:c<4294967296):bits .and .u32 (a:Int) (c:Int)=((a &&& c:Nat):Int):=by
 show IntKind.u32.wrap ((BitVec.ofInt 32 (a:Int) &&& BitVec.ofInt 32 (c:Int)).toNat:Int)=_
 have e1:(BitVec.ofInt 32 (a:Int)).toNat=a:=by rw[BitVec.ofInt_natCast,BitVec.toNat_ofNat];exact Nat.mod_eq_of_lt (by omega)
 have e2:(BitVec.ofInt 32 (c:Int)).toNat=c:=by rw[BitVec.ofInt_natCast,BitVec.toNat_ofNat];exact Nat.mod_eq_of_lt (by omega)
 have:a &&& c≤a:=Nat.and_le_left
 rw[BitVec.toNat_and,e1,e2,IntKind.wrap_u32]
 omega
theorem u32_or_n (a c k:Nat) (h1:a % 2^k=0) (h2:c<2^k) (h3:a+c<4294967296):bits .or .u32 (a:Int) (c:Int)=((a+c:Nat):Int):=by
 show IntKind.u32.wrap ((BitVec.ofInt 32 (a:Int) ||| BitVec.ofInt 32 (c:Int)).toNat:Int)=_
 have e1:(BitVec.ofInt 32 (a:Int)).toNat=a:=by rw[BitVec.ofInt_natCast,BitVec.toNat_ofNat];exact Nat.mod_eq_of_lt (by omega)
 have e2:(BitVec.ofInt 32 (c:Int)).toNat=c:=by rw[BitVec.ofInt_natCast,BitVec.toNat_ofNat];exact Nat.mod_eq_of_lt (by omega)
 have e3:a ||| c=a+c:=by
  have hd:a=2^k*(a / 2^k):=by have:=Nat.div_add_mod a (2^k);omega
  have:=Nat.shiftLeft_add_eq_or_of_lt (b:=c) (i:=k) h2 (a / 2^k)
  rw[Nat.shiftLeft_eq,Nat.mul_comm,← hd] at this
  exact this.symm
 rw[BitVec.toNat_or,e1,e2,e3,IntKind.wrap_u32]
 omega
def bswap (v:Nat):Nat:=v % 256*16777216+v / 256 % 256*65536+v / 65536 % 256*256+v / 16777216
def St.takeSum (s:St) (v:Nat):St × Nat:=if bswap v=s.sum then (s.enter 10 0,0) else (s,19)
theorem swap_x (v:Nat) (hv:v<4294967296):bits .or .u32 (bits .or .u32 (bits .or .u32 ((v:Int)*16777216 % 4294967296) (bits .and .u32 ((v:Int)*256 % 4294967296) 16711680)) (bits .and .u32 ((v:Int) / 256) 65280)) ((v:Int) / 16777216)=(bswap v:Int):=by
 obtain ⟨a,ha⟩:∃ a,a=v % 256:=⟨_,rfl⟩
 obtain ⟨b,hb⟩:∃ b,b=v / 256 % 256:=⟨_,rfl⟩
 obtain ⟨c,hc⟩:∃ c,c=v / 65536 % 256:=⟨_,rfl⟩
 obtain ⟨d,hd⟩:∃ d,d=v / 16777216:=⟨_,rfl⟩
 have a1:a<256:=by omega
 have b1:b<256:=by omega
 have c1:c<256:=by omega
 have d1:d<256:=by omega
 have e:bswap v=a*16777216+b*65536+c*256+d:=by unfold bswap;rw[ha,hb,hc,hd]
 have p1:(v:Int)*16777216 % 4294967296=((a*16777216:Nat):Int):=by omega
 have p2:(v:Int)*256 % 4294967296=((v % 16777216*256:Nat):Int):=by omega
 have p3:(v:Int) / 256=((v / 256:Nat):Int):=by omega
 have p4:(v:Int) / 16777216=(d:Int):=by omega
 have m1:v % 16777216*256 &&& 16711680=b*65536:=by
  have:=and_mask (v % 16777216*256) 8 16
  rw[show (2^8 - 1)*2^16=16711680 from by decide] at this
  rw[this,hb,show (2:Nat)^16=65536 from by decide,show (2:Nat)^8=256 from by decide]
  have:v % 16777216*256 / 65536 % 256=v / 256 % 256:=by omega
  rw[this]
 have m2:v / 256 &&& 65280=c*256:=by
  have:=and_mask (v / 256) 8 8
  rw[show (2^8 - 1)*2^8=65280 from by decide] at this
  rw[this,hc,show (2:Nat)^8=256 from by decide,Nat.div_div_eq_div_mul]
 have q1:bits .and .u32 ((v % 16777216*256:Nat):Int) 16711680=((b*65536:Nat):Int):=by
  have:=u32_and_n (v % 16777216*256) 16711680 (by omega) (by omega)
  rw[m1] at this;exact this
 have q2:bits .and .u32 ((v / 256:Nat):Int) 65280=((c*256:Nat):Int):=by
  have:=u32_and_n (v / 256) 65280 (by omega) (by omega)
  rw[m2] at this;exact this
 rw[p1,p2,p3,p4,q1,q2,e]
 clear p1 p2 p3 p4 m1 m2 q1 q2 e ha hb hc hd hv
 rw[u32_or_n (a*16777216) (b*65536) 24 (by rw[show (2:Nat)^24=16777216 from by decide];omega) (by rw[show (2:Nat)^24=16777216 from by decide];omega) (by omega)]
 rw[u32_or_n (a*16777216+b*65536) (c*256) 16 (by rw[show (2:Nat)^16=65536 from by decide];omega) (by rw[show (2:Nat)^16=65536 from by decide];omega) (by omega)]
 rw[u32_or_n (a*16777216+b*65536+c*256) d 8 (by rw[show (2:Nat)^8=256 from by decide];omega) (by rw[show (2:Nat)^8=256 from by decide];omega) (by omega)]
theorem takeSum_x (b o n v:Nat) (c:Nat→Value) (s:St) (w:World) (hB:Blk w b n c) (hV:StV c o s) (hn:o+3351≤n) (hv:v<4294967296) :
  Calls Tryz.prog 186 #[.pointer (some ⟨b,o,none⟩),.int .u32 (v:Int)] w fun e w'=>e = .returned (.int .i64 ((s.takeSum v).2:Int))∧StStep b o n c (s.takeSum v).1 w w':=by
 have k0:=hB.at (i:=o+3350) (by omega) hV.sum
 have HB:Hid (Blk w b n c):=hB
 have HV:Hid (StV c o s):=hV
 have eS:=swap_x v hv
 unfold St.takeSum
 obtain ⟨Y,hY⟩:∃ Y,Y=bswap v:=⟨_,rfl⟩
 rw[← hY] at eS ⊢
 clear hB hV hY
 by_cases h1:Y=s.sum
 ·have h1':((Y:Int) != (s.sum:Int))=false:=by rw[bne_eq_false_iff_eq];omega
  rw[if_pos h1]
  replace h1:Hid _:=h1
  go_enter Tryz.func186,Tryz.ntmps186
  go_wp2_with fail
  refine (senter_x b o n 10 0 c s w HB.out HV.out hn).mono ?_
  rintro e w6 ⟨rfl,h2⟩
  go_wp2_with fail
  go_ret
  exact ⟨rfl,h2⟩
 ·have h1':((Y:Int) != (s.sum:Int))=true:=by rw[bne_iff_ne];omega
  rw[if_neg h1]
  go_enter Tryz.func186,Tryz.ntmps186
  go_wp2
  go_ret
  exact ⟨rfl,c,HB.out,HV.out,FrC.refl _ _ _ _,Fr.refl _ _⟩
def St.block (s:St) (v:Nat):St:=if v / 2=0 then s.block0 v else s.block1 v
def numP (s:St) (r:Rw) (v:Nat):St × Rw × Nat:=
 if s.part=0 then ((s.takeHead v).1,r,(s.takeHead v).2)
 else if s.part=1 then (s.block v,r,0)
 else if s.part=2 then ((s.takeSize v).1,r,(s.takeSize v).2)
 else if s.part=3 then storedP s r v
 else ((s.takeSum v).1,r,(s.takeSum v).2)
structure NumOk (s:St) (r:Rw) (v:Nat):Prop where
 part:s.part≤3∨s.part=9
 v0:s.part=0→v<65536
 v1:s.part=1→v<4
 v3:s.part=3→v<256
 v:v<4294967296
 l1:s.part=3→1≤s.left
 l2:s.part=3→s.left≤65535
 good:s.part=3→RwGood r
 sum:s.sum<4294967296
theorem takeNum0_x (b o n v:Nat) (c:Nat→Value) (s:St) (r:Rw) (w:World) (hB:Blk w b n c) (hS:StV c o s) (hR:RwV c (o+3351) r) (hn:o+4900≤n) (hk:NumOk s r v) (h:s.part=0) (hG:GrdAt w) (hb:b≠0) :
  Calls Tryz.prog 168 #[.pointer (some ⟨b,o,none⟩),.int .u32 (v:Int),.pointer (some ⟨b,o+3351,none⟩)] w fun e w'=>e = .returned (.int .i64 ((numP s r v).2.2:Int))∧SRStep b o n c (numP s r v).1 (numP s r v).2.1 w w':=by
 have k0:=hB.at (i:=o) (by omega) hS.part
 have HB:Hid (Blk w b n c):=hB
 have HS:Hid (StV c o s):=hS
 have HR:Hid (RwV c (o+3351) r):=hR
 have HK:Hid (NumOk s r v):=hk
 have HG:Hid (GrdAt w):=hG
 have hp:=hk.part
 clear hB hS hR hG hk
 have HE:Hid (numP s r v=((s.takeHead v).1,r,(s.takeHead v).2)):=by show numP s r v=_;unfold numP;rw[if_pos h]
 have FH:Hid (Calls Tryz.prog 177 #[.pointer (some ⟨b,o,none⟩),.int .u32 (v:Int)] w fun e w'=>e = .returned (.int .i64 ((s.takeHead v).2:Int))∧StStep b o n c (s.takeHead v).1 w w'):=takeHead_x b o n v c s w HB.out HS.out (by omega) (HK.out.v0 h)
 rw[h] at k0
 clear h hp
 go_enter Tryz.func168,Tryz.ntmps168
 go_wp2_with fail
 refine FH.out.mono ?_
 rintro e w1 ⟨rfl,h1⟩
 go_wp2_with fail
 go_ret
 rw[HE.out]
 exact ⟨rfl,SRStep.of_st HR.out h1⟩
theorem takeNum1_x (b o n v:Nat) (c:Nat→Value) (s:St) (r:Rw) (w:World) (hB:Blk w b n c) (hS:StV c o s) (hR:RwV c (o+3351) r) (hn:o+4900≤n) (hk:NumOk s r v) (h:s.part=1) (hG:GrdAt w) (hb:b≠0) :
  Calls Tryz.prog 168 #[.pointer (some ⟨b,o,none⟩),.int .u32 (v:Int),.pointer (some ⟨b,o+3351,none⟩)] w fun e w'=>e = .returned (.int .i64 ((numP s r v).2.2:Int))∧SRStep b o n c (numP s r v).1 (numP s r v).2.1 w w':=by
 have k0:=hB.at (i:=o) (by omega) hS.part
 have HB:Hid (Blk w b n c):=hB
 have HS:Hid (StV c o s):=hS
 have HR:Hid (RwV c (o+3351) r):=hR
 have HK:Hid (NumOk s r v):=hk
 have HG:Hid (GrdAt w):=hG
 have hp:=hk.part
 clear hB hS hR hG hk
 have HE:Hid (numP s r v=(s.block v,r,0)):=by show numP s r v=_;unfold numP;rw[if_neg (by omega),if_pos h]
 have FH:Hid (Calls Tryz.prog 178 #[.pointer (some ⟨b,o,none⟩),.int .u32 (v:Int)] w fun e w'=>e = .returned (.int .i64 0)∧StStep b o n c (s.block v) w w'):=by
  have hv4:=HK.out.v1 h
  unfold St.block
  by_cases q:v / 2=0
  ·rw[if_pos q];exact takeBlock0_x b o n v c s w HB.out HS.out (by omega) (by omega)
  ·rw[if_neg q];exact takeBlock1_x b o n v c s w HB.out HS.out (by omega) (by omega)
 rw[h] at k0
 clear h hp
 go_enter Tryz.func168,Tryz.ntmps168
 go_wp2_with fail
 refine FH.out.mono ?_
 rintro e w1 ⟨rfl,h1⟩
 go_wp2_with fail
 go_ret
 rw[HE.out]
 exact ⟨rfl,SRStep.of_st HR.out h1⟩
theorem takeNum2_x (b o n v:Nat) (c:Nat→Value) (s:St) (r:Rw) (w:World) (hB:Blk w b n c) (hS:StV c o s) (hR:RwV c (o+3351) r) (hn:o+4900≤n) (hk:NumOk s r v) (h:s.part=2) (hG:GrdAt w) (hb:b≠0) :
  Calls Tryz.prog 168 #[.pointer (some ⟨b,o,none⟩),.int .u32 (v:Int),.pointer (some ⟨b,o+3351,none⟩)] w fun e w'=>e = .returned (.int .i64 ((numP s r v).2.2:Int))∧SRStep b o n c (numP s r v).1 (numP s r v).2.1 w w':=by
 have k0:=hB.at (i:=o) (by omega) hS.part
 have HB:Hid (Blk w b n c):=hB
 have HS:Hid (StV c o s):=hS
 have HR:Hid (RwV c (o+3351) r):=hR
 have HK:Hid (NumOk s r v):=hk
 have HG:Hid (GrdAt w):=hG
 have hp:=hk.part
 clear hB hS hR hG hk
 have HE:Hid (numP s r v=((s.takeSize v).1,r,(s.takeSize v).2)):=by show numP s r v=_;unfold numP;rw[if_neg (by omega),if_neg (by omega),if_pos h]
 have FH:Hid (Calls Tryz.prog 179 #[.pointer (some ⟨b,o,none⟩),.int .u32 (v:Int)] w fun e w'=>e = .returned (.int .i64 ((s.takeSize v).2:Int))∧StStep b o n c (s.takeSize v).1 w w'):=takeSize_x b o n v c s w HB.out HS.out (by omega) HK.out.v
 rw[h] at k0
 clear h hp
 go_enter Tryz.func168,Tryz.ntmps168
 go_wp2_with fail
 refine FH.out.mono ?_
 rintro e w1 ⟨rfl,h1⟩
 go_wp2_with fail
 go_ret
 rw[HE.out]
 exact ⟨rfl,SRStep.of_st HR.out h1⟩
theorem takeNum3_x (b o n v:Nat) (c:Nat→Value) (s:St) (r:Rw) (w:World) (hB:Blk w b n c) (hS:StV c o s) (hR:RwV c (o+3351) r) (hn:o+4900≤n) (hk:NumOk s r v) (h:s.part=3) (hG:GrdAt w) (hb:b≠0) :
  Calls Tryz.prog 168 #[.pointer (some ⟨b,o,none⟩),.int .u32 (v:Int),.pointer (some ⟨b,o+3351,none⟩)] w fun e w'=>e = .returned (.int .i64 ((numP s r v).2.2:Int))∧SRStep b o n c (numP s r v).1 (numP s r v).2.1 w w':=by
 have k0:=hB.at (i:=o) (by omega) hS.part
 have HB:Hid (Blk w b n c):=hB
 have HS:Hid (StV c o s):=hS
 have HR:Hid (RwV c (o+3351) r):=hR
 have HK:Hid (NumOk s r v):=hk
 have HG:Hid (GrdAt w):=hG
 have hp:=hk.part
 clear hB hS hR hG hk
 have HE:Hid (numP s r v=storedP s r v):=by show numP s r v=_;unfold numP;rw[if_neg (by omega),if_neg (by omega),if_neg (by omega),if_pos h]
 have FH:Hid (Calls Tryz.prog 180 #[.pointer (some ⟨b,o,none⟩),.int .u8 (v:Int),.pointer (some ⟨b,o+3351,none⟩)] w fun e w'=>e = .returned (.int .i64 ((storedP s r v).2.2:Int))∧SRStep b o n c (storedP s r v).1 (storedP s r v).2.1 w w'):=takeStored_x b o n v c s r w HB.out HS.out HR.out hn (HK.out.good h) HG.out hb (HK.out.v3 h) HK.out.sum (HK.out.l1 h) (HK.out.l2 h)
 have hv:=HK.out.v3 h
 rw[h] at k0
 clear h hp
 go_enter Tryz.func168,Tryz.ntmps168
 go_wp2_with fail
 refine FH.out.mono ?_
 rintro e w1 ⟨rfl,h1⟩
 go_wp2_with fail
 go_ret
 rw[HE.out]
 exact ⟨rfl,h1⟩
theorem takeNum9_x (b o n v:Nat) (c:Nat→Value) (s:St) (r:Rw) (w:World) (hB:Blk w b n c) (hS:StV c o s) (hR:RwV c (o+3351) r) (hn:o+4900≤n) (hk:NumOk s r v) (h:s.part=9) (hG:GrdAt w) (hb:b≠0) :
  Calls Tryz.prog 168 #[.pointer (some ⟨b,o,none⟩),.int .u32 (v:Int),.pointer (some ⟨b,o+3351,none⟩)] w fun e w'=>e = .returned (.int .i64 ((numP s r v).2.2:Int))∧SRStep b o n c (numP s r v).1 (numP s r v).2.1 w w':=by
 have k0:=hB.at (i:=o) (by omega) hS.part
 have HB:Hid (Blk w b n c):=hB
 have HS:Hid (StV c o s):=hS
 have HR:Hid (RwV c (o+3351) r):=hR
 have HK:Hid (NumOk s r v):=hk
 have HG:Hid (GrdAt w):=hG
 have hp:=hk.part
 clear hB hS hR hG hk
 have HE:Hid (numP s r v=((s.takeSum v).1,r,(s.takeSum v).2)):=by show numP s r v=_;unfold numP;rw[if_neg (by omega),if_neg (by omega),if_neg (by omega),if_neg (by omega)]
 have FH:Hid (Calls Tryz.prog 186 #[.pointer (some ⟨b,o,none⟩),.int .u32 (v:Int)] w fun e w'=>e = .returned (.int .i64 ((s.takeSum v).2:Int))∧StStep b o n c (s.takeSum v).1 w w'):=takeSum_x b o n v c s w HB.out HS.out (by omega) HK.out.v
 obtain ⟨TS,hTS⟩:∃ TS,TS=s.takeSum v:=⟨_,rfl⟩
 rw[← hTS] at HE FH
 clear hTS
 have n0:((s.part:Int) == 0)=false:=by rw[beq_eq_false_iff_ne];omega
 have n1:((s.part:Int) == 1)=false:=by rw[beq_eq_false_iff_ne];omega
 have n2:((s.part:Int) == 2)=false:=by rw[beq_eq_false_iff_ne];omega
 have n3:((s.part:Int) == 3)=false:=by rw[beq_eq_false_iff_ne];omega
 have n4:((s.part:Int) == 4)=false:=by rw[beq_eq_false_iff_ne];omega
 have n5:((s.part:Int) == 5)=false:=by rw[beq_eq_false_iff_ne];omega
 have n6:((s.part:Int) == 6)=false:=by rw[beq_eq_false_iff_ne];omega
 have n7:((s.part:Int) == 7)=false:=by rw[beq_eq_false_iff_ne];omega
 have n8:((s.part:Int) == 8)=false:=by rw[beq_eq_false_iff_ne];omega
 clear h hp
 go_enter Tryz.func168,Tryz.ntmps168
 go_upto_block 0 with fail
 go_cut [] from 7 (fun W=>W=w)
 case first=>
  go_wp2_with fail
  go_meet
  case rel=>rfl
 case rest=>
  subst hcut
  clear n0 n1 n2 n3 n4 n5 n6 n7 n8
  go_wp2_with fail
  refine FH.out.mono ?_
  rintro e w1 ⟨rfl,h1⟩
  go_wp2_with fail
  go_ret
  rw[HE.out]
  exact ⟨rfl,SRStep.of_st HR.out h1⟩
theorem takeNumber_x (b o n v:Nat) (c:Nat→Value) (s:St) (r:Rw) (w:World) (hB:Blk w b n c) (hS:StV c o s) (hR:RwV c (o+3351) r) (hn:o+4900≤n) (hk:NumOk s r v) (hG:GrdAt w) (hb:b≠0) :
  Calls Tryz.prog 168 #[.pointer (some ⟨b,o,none⟩),.int .u32 (v:Int),.pointer (some ⟨b,o+3351,none⟩)] w fun e w'=>e = .returned (.int .i64 ((numP s r v).2.2:Int))∧SRStep b o n c (numP s r v).1 (numP s r v).2.1 w w':=by
 have hp:=hk.part
 have hc:s.part=0∨s.part=1∨s.part=2∨s.part=3∨s.part=9:=by omega
 rcases hc with h | h | h | h | h
 ·exact takeNum0_x b o n v c s r w hB hS hR hn hk h hG hb
 ·exact takeNum1_x b o n v c s r w hB hS hR hn hk h hG hb
 ·exact takeNum2_x b o n v c s r w hB hS hR hn hk h hG hb
 ·exact takeNum3_x b o n v c s r w hB hS hR hn hk h hG hb
 ·exact takeNum9_x b o n v c s r w hB hS hR hn hk h hG hb
theorem u32_or_bit (m g t:Nat) (hm:m<2^g) (hg:g<32) (ht:t≤1):bits .or .u32 (m:Int) (((t*2^g:Nat)):Int)=((m+t*2^g:Nat):Int):=by
 have hp:2^g*2≤2^32:=by rw[← Nat.pow_succ];exact Nat.pow_le_pow_right (by omega) (by omega)
 have ht2:t*2^g≤1*2^g:=Nat.mul_le_mul_right _ ht
 show IntKind.u32.wrap ((BitVec.ofInt 32 (m:Int) ||| BitVec.ofInt 32 ((t*2^g:Nat):Int)).toNat:Int)=_
 have e1:(BitVec.ofInt 32 (m:Int)).toNat=m:=by rw[BitVec.ofInt_natCast,BitVec.toNat_ofNat];exact Nat.mod_eq_of_lt (by omega)
 have e2:(BitVec.ofInt 32 ((t*2^g:Nat):Int)).toNat=t*2^g:=by rw[BitVec.ofInt_natCast,BitVec.toNat_ofNat];exact Nat.mod_eq_of_lt (by omega)
 have e3:m ||| t*2^g=m+t*2^g:=by
  have:=Nat.shiftLeft_add_eq_or_of_lt (b:=m) (i:=g) hm t
  rw[Nat.shiftLeft_eq] at this
  rw[Nat.or_comm];omega
 rw[BitVec.toNat_or,e1,e2,e3,IntKind.wrap_u32]
 omega
def St.oneBit (s:St) (t:Nat):St:={ s with number:=s.number+t*2^s.got,got:=s.got+1 }
def symP (s:St) (r:Rw) (t:Nat):St × Rw × Nat:=
 if (s.lit.step s.path t).2 = -1 then ({ s with path:=(s.lit.step s.path t).1 },r,0)
 else if (s.lit.step s.path t).2=256 then (({ s with path:=(s.lit.step s.path t).1 }:St).endBlock,r,0)
 else giveP (({ s with path:=(s.lit.step s.path t).1 }:St).enter 12 0) r (s.lit.step s.path t).2.toNat
structure SymOk (s:St) (r:Rw) (t:Nat):Prop where
 lit:CSOk s.lit
 path:PtOk s.path
 bit:t≤1
 sym:(s.lit.step s.path t).2 = -1∨(0≤(s.lit.step s.path t).2∧(s.lit.step s.path t).2≤256)
 good:RwGood r
 sum:s.sum<4294967296
def bitP (s:St) (r:Rw) (t:Nat):St × Rw × Nat:=if s.part=12 then symP s r t else if s.got+1<s.wanted then (s.oneBit t,r,0) else numP (s.oneBit t) r (s.number+t*2^s.got)
structure BitOk (s:St) (r:Rw) (t:Nat):Prop where
 part:s.part≤3∨s.part=9∨s.part=12
 sym:s.part=12→SymOk s r t
 got:s.part≠12→s.got<32
 wanted:s.part≠12→s.wanted≤32
 number:s.part≠12→s.number<2^s.got
 bit:t≤1
 num:s.part≠12→¬ s.got+1<s.wanted→NumOk (s.oneBit t) r (s.number+t*2^s.got)
theorem symP_T (s:St) (r:Rw) (t:Nat):symP s r t=symT { s with path:=(s.lit.step s.path t).1 } r (s.lit.step s.path t).2:=rfl
theorem takeBitN_x (b o n t:Nat) (c:Nat→Value) (s:St) (r:Rw) (w:World) (hB:Blk w b n c) (hS:StV c o s) (hR:RwV c (o+3351) r) (hn:o+4900≤n) (hk:BitOk s r t) (h12:s.part≠12) (hG:GrdAt w) (hb:b≠0) :
  Calls Tryz.prog 156 #[.pointer (some ⟨b,o,none⟩),.int .u32 (t:Int),.pointer (some ⟨b,o+3351,none⟩)] w fun e w'=>e = .returned (.int .i64 ((bitP s r t).2.2:Int))∧SRStep b o n c (bitP s r t).1 (bitP s r t).2.1 w w':=by
 have k0:=hB.at (i:=o) (by omega) hS.part
 have k1:=hB.at (i:=o+1) (by omega) hS.number
 have k2:=hB.at (i:=o+2) (by omega) hS.got
 have z:=hB.fz
 have HB:Hid (Blk w b n c):=hB
 have HS:Hid (StV c o s):=hS
 have HR:Hid (RwV c (o+3351) r):=hR
 have HK:Hid (BitOk s r t):=hk
 have HG:Hid (∀ W,Fr1 b w W→GrdAt W):=fun W f=>hG.fr f (fun q=>hb q.symm)
 have hp:=hk.part
 have n11:((s.part:Int) == 11)=false:=by rw[beq_eq_false_iff_ne];omega
 have n12:((s.part:Int) == 12)=false:=by rw[beq_eq_false_iff_ne];omega
 have n13:((s.part:Int) == 13)=false:=by rw[beq_eq_false_iff_ne];omega
 have hgot:=hk.got h12
 have hwan:=hk.wanted h12
 have hbit:=hk.bit
 have hnum:=hk.number h12
 obtain ⟨G,hGe⟩:∃ G,G=s.got+1:=⟨_,rfl⟩
 have eG:(s.got:Int)+1=(G:Int):=by omega
 have HGe:Hid (G=s.got+1):=hGe
 obtain ⟨N,hNe⟩:∃ N,N=s.number+t*2^s.got:=⟨_,rfl⟩
 have HNe:Hid (N=s.number+t*2^s.got):=hNe
 have eOr:bits .or .u32 (s.number:Int) ((t:Int)*2^s.got % 4294967296)=(N:Int):=by
  have hp2:2^s.got≤2^31:=Nat.pow_le_pow_right (by omega) (by omega)
  have ht2:t*2^s.got≤1*2^31:=Nat.mul_le_mul hbit hp2
  have e:(t:Int)*2^s.got=((t*2^s.got:Nat):Int):=by simp
  rw[hNe,← u32_or_bit _ _ _ hnum hgot hbit,e,Int.emod_eq_of_lt (by omega) (by omega)]
 have HE:Hid (bitP s r t=if G<s.wanted then ({ s with number:=N,got:=G },r,0) else numP { s with number:=N,got:=G } r N):=by
  show bitP s r t=_
  unfold bitP St.oneBit;rw[if_neg h12,hGe,hNe]
 have HNum:Hid (¬ G<s.wanted→NumOk { s with number:=N,got:=G } r N):=by
  show ¬ G<s.wanted→NumOk { s with number:=N,got:=G } r N
  rw[hGe,hNe];exact hk.num h12
 clear hB hS hR hG hk hGe hNe
 have hG32:G≤32:=by have:=HGe.out;omega
 have S1:Hid (StV (upd (upd c (o+1) (.int .u32 (N:Int))) (o+2) (.int .u64 (G:Int))) o { s with number:=N,got:=G }):=(HS.out.set_number N).set_got G
 have R1:Hid (RwV (upd (upd c (o+1) (.int .u32 (N:Int))) (o+2) (.int .u64 (G:Int))) (o+3351) r):=HR.out.congr (fun i h1 h2=>by rw[upd_ne _ _ _ (by omega),upd_ne _ _ _ (by omega)])
 have C1:Hid (FrC b o (o+4900) c (upd (upd c (o+1) (.int .u32 (N:Int))) (o+2) (.int .u64 (G:Int)))):=(FrC.upd _ (by omega) (by omega)).trans (FrC.upd _ (by omega) (by omega))
 replace hnum:Hid _:=hnum
 go_enter Tryz.func156,Tryz.ntmps156
 go_wp2_with fail
 go_quiet (fail)
 have B1:Hid (Blk (((w.drewN nq).setCell ⟨b,o+1,none⟩ (.int .u32 (N:Int))).setCell ⟨b,o+2,none⟩ (.int .u64 (G:Int))) b n (upd (upd c (o+1) (.int .u32 (N:Int))) (o+2) (.int .u64 (G:Int)))):=((HB.out.kept ((Kept.refl _).drewN nq)).set (by omega) _).set (by omega) _
 have F1:Hid (Fr1 b w (((w.drewN nq).setCell ⟨b,o+1,none⟩ (.int .u32 (N:Int))).setCell ⟨b,o+2,none⟩ (.int .u64 (G:Int)))):=Fr1.set (Fr1.set (Fr1.drewN (Fr.refl _ _) nq) _ _) _ _
 go_upto_region 14 with fail
 generalize ((w.drewN nq).setCell ⟨b,o+1,none⟩ (.int .u32 (N:Int))).setCell ⟨b,o+2,none⟩ (.int .u64 (G:Int))=w1 at *
 generalize upd (upd c (o+1) (.int .u32 (N:Int))) (o+2) (.int .u64 (G:Int))=c1 at *
 clear k0 k1 k2 z HB HS HR
 have k2:=B1.out.at (i:=o+2) (by omega) S1.out.got
 have k3:=B1.out.at (i:=o+3) (by omega) S1.out.wanted
 replace k2:w1.cell? ⟨b,o+2,none⟩=some (.int .u64 (G:Int)):=k2
 replace k3:w1.cell? ⟨b,o+3,none⟩=some (.int .u64 (s.wanted:Int)):=k3
 by_cases hw:G<s.wanted
 ·have hw':(G:Int)<(s.wanted:Int):=by omega
  go_quiet (fail)
  go_wp2_with fail
  go_ret
  rw[HE.out,if_pos hw]
  exact ⟨rfl,c1,B1.out.kept ((Kept.refl _).drewN _),S1.out,R1.out,C1.out,F1.out.kept ((Kept.refl _).drewN _)⟩
 ·have hw':¬ (G:Int)<(s.wanted:Int):=by omega
  go_quiet (fail)
  go_wp2_with fail
  refine (takeNumber_x b o n N c1 { s with number:=N,got:=G } r _ (B1.out.kept ((Kept.refl _).drewN _)) S1.out R1.out hn (HNum.out hw) (HG.out _ (F1.out.kept ((Kept.refl _).drewN _))) hb).mono ?_
  rintro e w2 ⟨rfl,h2⟩
  go_wp2_with fail
  go_ret
  rw[HE.out,if_neg hw]
  exact ⟨rfl,SRStep.next C1.out (F1.out.kept ((Kept.refl _).drewN _)) h2⟩
theorem takeBitS_x (b o n t:Nat) (c:Nat→Value) (s:St) (r:Rw) (w:World) (hB:Blk w b n c) (hS:StV c o s) (hR:RwV c (o+3351) r) (hn:o+4900≤n) (h12:s.part=12) (hk:SymOk s r t) (hG:GrdAt w) (hb:b≠0) :
  Calls Tryz.prog 156 #[.pointer (some ⟨b,o,none⟩),.int .u32 (t:Int),.pointer (some ⟨b,o+3351,none⟩)] w fun e w'=>e = .returned (.int .i64 ((symP s r t).2.2:Int))∧SRStep b o n c (symP s r t).1 (symP s r t).2.1 w w':=by
 have k0:=hB.at (i:=o) (by omega) hS.part
 rw[h12] at k0
 have hbit:=hk.bit
 have F1:Hid (∀ W,Kept w W→Calls Tryz.prog 164 #[.pointer (some ⟨b,o+11,none⟩),.pointer (some ⟨b,o+4,none⟩),.int .i64 (t:Int)] W fun e w'=>e = .returned (.int .i64 (s.lit.step s.path t).2)∧∃ d,Blk w' b n d∧PtV d (o+4) (s.lit.step s.path t).1∧FrC b (o+4) (o+4+3) c d∧Fr1 b W w'):=fun W k=>cstep_x b (o+11) (o+4) n t c s.lit s.path W (hB.kept k) hS.lit hS.path (by omega) (by omega) hk.lit hk.path hbit
 have F2:Hid (∀ (W:World) (d:Nat→Value),Blk W b n d→PtV d (o+4) (s.lit.step s.path t).1→FrC b (o+4) (o+4+3) c d→Fr1 b w W→Calls Tryz.prog 166 #[.pointer (some ⟨b,o,none⟩),.int .i64 (s.lit.step s.path t).2,.pointer (some ⟨b,o+3351,none⟩)] W fun e w'=>e = .returned (.int .i64 ((symP s r t).2.2:Int))∧SRStep b o n d (symP s r t).1 (symP s r t).2.1 W w'):=fun W d a1 a2 a3 a4=>by
  rw[symP_T]
  exact takeSymbol_x b o n _ d { s with path:=(s.lit.step s.path t).1 } r W a1 (hS.set_path _ a2 (fun i hi=>a3.out i (fun q=>hi ⟨q.1,by omega⟩))) (hR.congr (fun i h1 h2=>a3.out i (by omega))) hn hk.good (hG.fr a4 (fun q=>hb q.symm)) hb hk.sum hk.sym
 generalize symP s r t=T at *
 generalize (s.lit.step s.path t).2=SY at *
 generalize (s.lit.step s.path t).1=PP at *
 clear hB hS hR hG hk
 have wt:IntKind.i64.wrap (t:Int)=(t:Int):=by rw[IntKind.wrap_i64];omega
 go_enter Tryz.func156,Tryz.ntmps156
 go_wp2_with fail
 go_region_held3 (fun W=>True) (trivial) ((go_at_call 164;refine (F1.out _ ((Kept.refl _).drewN 1)).mono ?_;rintro e' w1 ⟨rfl,hst⟩))
 obtain ⟨d,d1,d2,d3,d4'⟩:=hst
 have d4:Fr1 b w w1:=Fr.trans (Fr1.drewN (Fr.refl _ _) 1) d4'
 clear d4'
 have F3:=F2.out w1 d d1 d2 d3 d4
 replace F3:Hid _:=F3
 have C1:Hid (FrC b o (o+4900) c d):=d3.mono (by omega) (by omega)
 have F4:Hid (Fr1 b w w1):=d4
 clear d1 d2 d3 d4 F1 F2
 go_wp2_with fail
 refine Calls.mono F3.out ?_
 rintro e w2 ⟨rfl,k5⟩
 go_wp2_with fail
 go_ret
 exact ⟨rfl,SRStep.next C1.out F4.out k5⟩
theorem takeBit_x (b o n t:Nat) (c:Nat→Value) (s:St) (r:Rw) (w:World) (hB:Blk w b n c) (hS:StV c o s) (hR:RwV c (o+3351) r) (hn:o+4900≤n) (hk:BitOk s r t) (hG:GrdAt w) (hb:b≠0) :
  Calls Tryz.prog 156 #[.pointer (some ⟨b,o,none⟩),.int .u32 (t:Int),.pointer (some ⟨b,o+3351,none⟩)] w fun e w'=>e = .returned (.int .i64 ((bitP s r t).2.2:Int))∧SRStep b o n c (bitP s r t).1 (bitP s r t).2.1 w w':=by
 by_cases h12:s.part=12
 ·have e:bitP s r t=symP s r t:=by unfold bitP;rw[if_pos h12]
  rw[e]
  exact takeBitS_x b o n t c s r w hB hS hR hn h12 (hk.sym h12) hG hb
 ·exact takeBitN_x b o n t c s r w hB hS hR hn hk h12 hG hb
def bitsGo:Nat→Nat→St→Rw→Nat→St × Rw × Nat
 | 0,_,s,r,_=>(s,r,0)
 | k+1,i,s,r,x=>if s.skip then (s,r,0) else if (bitP s r (x / 2^i % 2)).2.2=0 then bitsGo k (i+1) (bitP s r (x / 2^i % 2)).1 (bitP s r (x / 2^i % 2)).2.1 x else bitP s r (x / 2^i % 2)
def BitsOk:Nat→Nat→St→Rw→Nat→Prop
 | 0,_,_,_,_=>True
 | k+1,i,s,r,x=>s.skip=true∨(BitOk s r (x / 2^i % 2)∧((bitP s r (x / 2^i % 2)).2.2=0→BitsOk k (i+1) (bitP s r (x / 2^i % 2)).1 (bitP s r (x / 2^i % 2)).2.1 x))
def takeB (s:St) (r:Rw) (x:Nat):St × Rw × Nat:=bitsGo 8 0 { s with skip:=false } r x
structure BtR (b o n:Nat) (c:Nat→Value) (w:World) (x i:Nat) (T:St × Rw × Nat) (d:Nat→Value) (s:St) (r:Rw) (W:World):Prop where
 B:Blk W b n d
 S:StV d o s
 R:RwV d (o+3351) r
 C:FrC b o (o+4900) c d
 F:Fr1 b w W
 i8:i≤8
 eq:bitsGo (8 - i) i s r x=T
 ok:BitsOk (8 - i) i s r x
theorem u32_bit (x i:Nat) (hx:x<256):bits .and .u32 ((x:Int) / 2^i) 1=((x / 2^i % 2:Nat):Int):=by
 have e:(x:Int) / 2^i=((x / 2^i:Nat):Int):=by simp
 rw[e]
 exact u32_and_1 _ (Nat.lt_of_le_of_lt (Nat.div_le_self _ _) (by omega))
theorem u32_bit' (x i:Nat) (hx:x<256):bits .and .u32 ((x:Int) / 2^i % 4294967296) 1=((x / 2^i % 2:Nat):Int):=by
 have e:(x:Int) / 2^i=((x / 2^i:Nat):Int):=by simp
 have h:x / 2^i≤x:=Nat.div_le_self _ _
 obtain ⟨q,hq⟩:∃ q,q=x / 2^i:=⟨_,rfl⟩
 rw[← u32_bit x i hx,e]
 rw[← hq] at h ⊢
 rw[Int.emod_eq_of_lt (by omega) (by omega)]
theorem stake_x (b o n x:Nat) (c:Nat→Value) (s:St) (r:Rw) (w:World) (hB:Blk w b n c) (hS:StV c o s) (hR:RwV c (o+3351) r) (hn:o+4900≤n) (hp:s.part≠10) (hk:BitsOk 8 0 { s with skip:=false } r x) (hG:GrdAt w) (hb:b≠0) (hx:x<256) :
  Calls Tryz.prog 143 #[.pointer (some ⟨b,o,none⟩),.int .u8 (x:Int),.pointer (some ⟨b,o+3351,none⟩)] w fun e w'=>e = .returned (.int .i64 ((takeB s r x).2.2:Int))∧SRStep b o n c (takeB s r x).1 (takeB s r x).2.1 w w':=by
 have k7:=hB.at (i:=o+7) (by omega) hS.skip
 have z:=hB.fz (o+7)
 have FE:Hid (Calls Tryz.prog 110 #[.pointer (some ⟨b,o,none⟩)] w fun e w'=>e = .returned (.bool false)∧w'=w):=by
  have:=sended_x b o n c s w hB hS (by omega)
  rw[decide_eq_false hp] at this
  exact this
 have HG:Hid (∀ W,Fr1 b w W→GrdAt W):=fun W f=>hG.fr f (fun q=>hb q.symm)
 obtain ⟨T,hT⟩:∃ T,T=takeB s r x:=⟨_,rfl⟩
 rw[← hT]
 have H0:Hid (BtR b o n c w x 0 T (upd c (o+7) (.bool false)) { s with skip:=false } r (w.setCell ⟨b,o+7,none⟩ (.bool false))) :=
  ⟨hB.set (by omega) _,hS.set_skip false,hR.congr (fun i h1 h2=>upd_ne _ _ _ (by omega)),FrC.upd _ (by omega) (by omega),Fr1.set (Fr.refl _ _) _ _,by omega,by rw[hT];rfl,hk⟩
 clear hT hB hS hR hk hG
 go_enter Tryz.func143,Tryz.ntmps143
 go_wp2_with fail
 refine FE.out.mono ?_
 rintro e w1 ⟨rfl,hw1⟩
 subst w1
 go_wp2_with fail
 go_loopg [7,8] 8 (fun k v u W=>∃ i d,∃ s':St,∃ r':Rw,k=8 - i∧v = .int .u64 (i:Int)∧BtR b o n c w x i T d s' r' W)
 case atStart=>exact ⟨0,_,_,_,rfl,rfl,H0.out⟩
 case round=>
  obtain ⟨i,d,s',r',hgk,rfl,hI⟩:=hrel
  clear H0 FE k7 z
  have HI:Hid (BtR b o n c w x i T d s' r' wr):=hI
  replace hgk:Hid _:=hgk
  have hi8:=hI.i8
  have k7:=hI.B.at (i:=o+7) (by omega) hI.S.skip
  clear hI
  by_cases h8:i<8
  ·have h8':(i:Int)<8:=by omega
   obtain ⟨m,hm⟩:∃ m,8 - i=m+1:=⟨7 - i,by omega⟩
   cases hsk:s'.skip with
   | true=>
    rw[hsk] at k7
    have HT:Hid (T=(s',r',0)):=by
     show T=_
     rw[← HI.out.eq,hm]
     show bitsGo (m+1) i s' r' x=_
     rw[bitsGo,hsk]
     exact if_pos rfl
    replace hsk:Hid _:=hsk
    replace hm:Hid _:=hm
    go_wp2_with fail
    go_ret
    rw[HT.out]
    exact ⟨rfl,d,HI.out.B,HI.out.S,HI.out.R,HI.out.C,HI.out.F⟩
   | false=>
    rw[hsk] at k7
    obtain ⟨t,ht⟩:∃ t,t=x / 2^i % 2:=⟨_,rfl⟩
    have et:bits .and .u32 ((x:Int) / 2^i % 4294967296) 1=(t:Int):=by rw[ht];exact u32_bit' x i hx
    have HT:Hid (T=if (bitP s' r' t).2.2=0 then bitsGo m (i+1) (bitP s' r' t).1 (bitP s' r' t).2.1 x else bitP s' r' t):=by
     show T=_
     rw[← HI.out.eq,hm]
     show bitsGo (m+1) i s' r' x=_
     rw[bitsGo,hsk,ht]
     exact if_neg (by decide)
    have HO:Hid (BitOk s' r' t∧((bitP s' r' t).2.2=0→BitsOk m (i+1) (bitP s' r' t).1 (bitP s' r' t).2.1 x)):=by
     have h:=HI.out.ok
     rw[hm] at h
     rw[ht]
     rcases h with h | h
     ·rw[hsk] at h;exact absurd h (by simp)
     ·exact h
    have ht1:t≤1:=by omega
    clear ht
    have FB:Hid (Calls Tryz.prog 156 #[.pointer (some ⟨b,o,none⟩),.int .u32 (t:Int),.pointer (some ⟨b,o+3351,none⟩)] wr fun e w'=>e = .returned (.int .i64 ((bitP s' r' t).2.2:Int))∧SRStep b o n d (bitP s' r' t).1 (bitP s' r' t).2.1 wr w'):=takeBit_x b o n t d s' r' wr HI.out.B HI.out.S HI.out.R hn HO.out.1 (HG.out _ HI.out.F) hb
    obtain ⟨E,hE⟩:∃ E,E=(bitP s' r' t).2.2:=⟨_,rfl⟩
    have HE:Hid (E=(bitP s' r' t).2.2):=hE
    rw[← hE] at FB HT
    rw[← hE] at HO
    replace hsk:Hid _:=hsk
    replace hm:Hid _:=hm
    clear hE
    go_wp2_with fail
    refine FB.out.mono ?_
    rintro e w2 ⟨rfl,d2,hB2,hS2,hR2,hC2,hF2⟩
    have B2:Hid (Blk w2 b n d2):=hB2
    have S2:Hid (StV d2 o (bitP s' r' t).1):=hS2
    have R2:Hid (RwV d2 (o+3351) (bitP s' r' t).2.1):=hR2
    have C2:Hid (FrC b o (o+4900) c d2):=HI.out.C.trans hC2
    have F2:Hid (Fr1 b w w2):=HI.out.F.trans hF2
    clear hB2 hS2 hR2 hC2 hF2 FB
    by_cases h0:E=0
    ·have h0':((E:Int) != 0)=false:=by rw[bne_eq_false_iff_eq];omega
     have HT2:Hid (T=bitsGo m (i+1) (bitP s' r' t).1 (bitP s' r' t).2.1 x):=by show T=_;rw[HT.out,if_pos h0]
     have HO2:Hid (BitsOk m (i+1) (bitP s' r' t).1 (bitP s' r' t).2.1 x):=HO.out.2 h0
     replace h0:Hid _:=h0
     go_wp2_with fail
     go_roundg (8 - (i+1))
     case measure=>rw[hgk.out];omega
     case rel=>
      have hmm:8 - (i+1)=m:=by have:=hm.out;omega
      exact ⟨i+1,d2,_,_,rfl,by go_num,B2.out,S2.out,R2.out,C2.out,F2.out,by omega,by rw[hmm];exact HT2.out.symm,by rw[hmm];exact HO2.out⟩
    ·have h0':((E:Int) != 0)=true:=by rw[bne_iff_ne];omega
     have HT2:Hid (T=bitP s' r' t):=by show T=_;rw[HT.out,if_neg h0]
     go_wp2_with fail
     go_ret
     rw[HT2.out]
     exact ⟨ret_int (by rw[HE.out]),d2,B2.out,S2.out,R2.out,C2.out,F2.out⟩
  ·have h8':¬ (i:Int)<8:=by omega
   have HT:Hid (T=(s',r',0)):=by
    show T=_
    rw[← HI.out.eq,show 8 - i=0 from by omega];rfl
   go_wp2_with fail
   go_ret
   rw[HT.out]
   exact ⟨rfl,d,HI.out.B,HI.out.S,HI.out.R,HI.out.C,HI.out.F⟩
def cs0:CS:=⟨fun _=>0,fun _=>0,0,0⟩
def tb0:Tb:=⟨0,0,0,cs0,fun _=>0,fun _=>0,0,0⟩
def st0 (sum:Nat):St:=⟨0,0,0,0,⟨0,0,0⟩,false,0,false,0,cs0,cs0,tb0,0,0,fun _=>0,0,sum⟩
def St.start:St:=(st0 1).enter 0 16
def stH:List Value:=[.int .i64 0,.int .u32 0,.int .u64 0,.int .u64 0,.int .i64 0,.int .i64 0,.int .i64 0,.bool false,.int .i64 0,.bool false]
def stT:List Value:=List.replicate 922 (.int .i64 0)++(List.replicate 335 (.int .u8 0)++(List.replicate 4 (.int .i64 0)++List.replicate 2078 (.int .u8 0)))
theorem stT_len:stT.length=3339:=by unfold stT;rw[List.length_append,List.length_append,List.length_append,List.length_replicate,List.length_replicate,List.length_replicate,List.length_replicate]
theorem zero3351:Tryz.zeroCells89.toList=stH++(stT++[.int .i64 0,.int .u32 0]):=by kernel_rfl
theorem size3351:Tryz.zeroCells89.size=3351:=by
 rw[← Array.length_toList,zero3351,List.length_append,List.length_append,stT_len,show stH.length=10 from rfl]
 simp only [List.length_cons,List.length_nil]
theorem info3351:(Tryz.prog.info? 89).map (·.size)=some 3351:=by kernel_rfl
theorem stT_a (j:Nat) (hj:j<922):stT.getD j undef = .int .i64 0:=getD_rep _ _ _ _ hj
theorem stT_b (j:Nat) (hj:j<335):stT.getD (922+j) undef = .int .u8 0:=(getD_skip _ _ 922 j (List.length_replicate ..)).trans (getD_rep _ _ _ _ hj)
theorem stT_c (j:Nat) (hj:j<4):stT.getD (922+(335+j)) undef = .int .i64 0:=(getD_skip _ _ 922 _ (List.length_replicate ..)).trans ((getD_skip _ _ 335 j (List.length_replicate ..)).trans (getD_rep _ _ _ _ hj))
theorem stT_d (j:Nat) (hj:j<2078):stT.getD (922+(335+(4+j))) undef = .int .u8 0:=(getD_skip _ _ 922 _ (List.length_replicate ..)).trans ((getD_skip _ _ 335 _ (List.length_replicate ..)).trans ((getD_skip _ _ 4 j (List.length_replicate ..)).trans (by
 have:=getD_rep 2078 j (.int .u8 0) [] hj
 rw[List.append_nil] at this;exact this)))
theorem stV_of (sum:Nat):StV (fun j=>(stH++(stT++[Value.int .i64 0,.int .u32 (sum:Int)])).getD j undef) 0 (st0 sum):=by
 have h10:stH.length=10:=rfl
 obtain ⟨L,hL⟩:∃ L,L=stH++(stT++[Value.int .i64 0,.int .u32 (sum:Int)]):=⟨_,rfl⟩
 rw[← hL]
 have g:∀ i v,i<10→stH.getD i undef=v→L.getD i undef=v:=fun i v hi e=>by rw[hL];exact (getD_front _ _ i (by rw[h10];exact hi)).trans e
 have t:∀ j v,j<3339→stT.getD j undef=v→L.getD (10+j) undef=v:=fun j v hj e=>by
  rw[hL]
  exact (getD_skip _ _ 10 j h10).trans ((getD_front _ _ j (by rw[stT_len];exact hj)).trans e)
 have u:∀ j v,[Value.int .i64 0,.int .u32 (sum:Int)].getD j undef=v→L.getD (3349+j) undef=v:=fun j v e=>by
  rw[hL,show 3349+j=10+(3339+j) from by omega]
  exact (getD_skip _ _ 10 _ h10).trans ((getD_skip _ _ 3339 j stT_len).trans e)
 have A:∀ i,10≤i→i<932→L.getD i undef = .int .i64 0:=fun i h1 h2=>by
  have:=t (i - 10) _ (by omega) (stT_a (i - 10) (by omega))
  rw[show 10+(i - 10)=i from by omega] at this;exact this
 have B:∀ i,932≤i→i<1267→L.getD i undef = .int .u8 0:=fun i h1 h2=>by
  have:=t (922+(i - 932)) _ (by omega) (stT_b (i - 932) (by omega))
  rw[show 10+(922+(i - 932))=i from by omega] at this;exact this
 have C:∀ i,1267≤i→i<1271→L.getD i undef = .int .i64 0:=fun i h1 h2=>by
  have:=t (922+(335+(i - 1267))) _ (by omega) (stT_c (i - 1267) (by omega))
  rw[show 10+(922+(335+(i - 1267)))=i from by omega] at this;exact this
 have D:∀ i,1271≤i→i<3349→L.getD i undef = .int .u8 0:=fun i h1 h2=>by
  have:=t (922+(335+(4+(i - 1271)))) _ (by omega) (stT_d (i - 1271) (by omega))
  rw[show 10+(922+(335+(4+(i - 1271))))=i from by omega] at this;exact this
 clear hL t
 refine ⟨g 0 _ (by omega) rfl,g 1 _ (by omega) rfl,g 2 _ (by omega) rfl,g 3 _ (by omega) rfl,⟨g 4 _ (by omega) rfl,g 5 _ (by omega) rfl,g 6 _ (by omega) rfl⟩,g 7 _ (by omega) rfl,g 8 _ (by omega) rfl,g 9 _ (by omega) rfl,A _ (by omega) (by omega),?_,?_,?_,C _ (by omega) (by omega),C _ (by omega) (by omega),fun i hi=>D _ (by omega) (by omega),u 0 _ rfl,u 1 _ rfl⟩
 ·exact ⟨fun i hi=>A _ (by omega) (by omega),fun i hi=>A _ (by omega) (by omega),A _ (by omega) (by omega),A _ (by omega) (by omega)⟩
 ·exact ⟨fun i hi=>A _ (by omega) (by omega),fun i hi=>A _ (by omega) (by omega),A _ (by omega) (by omega),A _ (by omega) (by omega)⟩
 ·exact ⟨A _ (by omega) (by omega),A _ (by omega) (by omega),A _ (by omega) (by omega),⟨fun i hi=>A _ (by omega) (by omega),fun i hi=>A _ (by omega) (by omega),A _ (by omega) (by omega),A _ (by omega) (by omega)⟩,fun i hi=>B _ (by omega) (by omega),fun i hi=>B _ (by omega) (by omega),C _ (by omega) (by omega),C _ (by omega) (by omega)⟩
theorem set_last2 (P T:List Value) (a z v:Value) (n:Nat) (hn:P.length+T.length+1=n):(P++(T++[a,z])).set n v=P++(T++[a,v]):=by
 rw[List.set_append_right _ _ (by omega),List.set_append_right _ _ (by omega),show n - P.length - T.length=1 from by omega];rfl
theorem lay_st:∃ A:List Value,Tryz.zeroCells89.toList.set 3350 (.int .u32 1)=A∧A.length=3351∧StV (fun j=>A.getD j undef) 0 (st0 1):=by
 have h10:stH.length=10:=rfl
 rw[zero3351,set_last2 stH stT _ _ _ 3350 (by rw[stT_len,h10])]
 refine ⟨_,rfl,?_,stV_of 1⟩
 rw[List.length_append,List.length_append,stT_len,h10]
 simp only [List.length_cons,List.length_nil]
theorem CSV.one {c:Nat→Value} {o:Nat} {s:CS} (h:CSV c o s) (i:Nat) (hi:i<306):(c (o+i)).oneCell'=true:=by
 by_cases h0:i<16
 ·rw[h.count i h0];rfl
 ·by_cases h1:i<304
  ·have:=h.sym (i - 16) (by omega)
   rw[show o+16+(i - 16)=o+i from by omega] at this;rw[this];rfl
  ·have:i=304∨i=305:=by omega
   rcases this with rfl | rfl
   ·rw[h.total];rfl
   ·rw[h.longest];rfl
theorem TbV.one {c:Nat→Value} {o:Nat} {s:Tb} (h:TbV c o s) (i:Nat) (hi:i<646):(c (o+i)).oneCell'=true:=by
 by_cases h0:i<3
 ·have:i=0∨i=1∨i=2:=by omega
  rcases this with rfl | rfl | rfl
  ·rw[show c (o+0)=_ from h.literals];rfl
  ·rw[h.distances];rfl
  ·rw[h.shorts];rfl
 ·by_cases h1:i<309
  ·have:=h.short.one (i - 3) (by omega)
   rw[show o+3+(i - 3)=o+i from by omega] at this;exact this
  ·by_cases h2:i<328
   ·have:=h.sl (i - 309) (by omega)
    rw[show o+309+(i - 309)=o+i from by omega] at this;rw[this];rfl
   ·by_cases h3:i<644
    ·have:=h.ls (i - 328) (by omega)
     rw[show o+328+(i - 328)=o+i from by omega] at this;rw[this];rfl
    ·have:i=644∨i=645:=by omega
     rcases this with rfl | rfl
     ·rw[h.told];rfl
     ·rw[h.rep];rfl
theorem StV.one {c:Nat→Value} {o:Nat} {s:St} (h:StV c o s) (i:Nat) (hi:i<3351):(c (o+i)).oneCell'=true:=by
 by_cases h0:i<11
 ·have:i=0∨i=1∨i=2∨i=3∨i=4∨i=5∨i=6∨i=7∨i=8∨i=9∨i=10:=by omega
  rcases this with rfl | rfl | rfl | rfl | rfl | rfl | rfl | rfl | rfl | rfl | rfl
  ·rw[show c (o+0)=_ from h.part];rfl
  ·rw[h.number];rfl
  ·rw[h.got];rfl
  ·rw[h.wanted];rfl
  ·rw[h.path.bits];rfl
  ·rw[show c (o+5)=_ from h.path.offset];rfl
  ·rw[show c (o+6)=_ from h.path.ahead];rfl
  ·rw[h.skip];rfl
  ·rw[h.window];rfl
  ·rw[h.last];rfl
  ·rw[h.left];rfl
 ·by_cases h1:i<317
  ·have:=h.lit.one (i - 11) (by omega)
   rw[show o+11+(i - 11)=o+i from by omega] at this;exact this
  ·by_cases h2:i<623
   ·have:=h.dist.one (i - 317) (by omega)
    rw[show o+317+(i - 317)=o+i from by omega] at this;exact this
   ·by_cases h3:i<1269
    ·have:=h.tb.one (i - 623) (by omega)
     rw[show o+623+(i - 623)=o+i from by omega] at this;exact this
    ·by_cases h4:i<1271
     ·have:i=1269∨i=1270:=by omega
      rcases this with rfl | rfl
      ·rw[h.length];rfl
      ·rw[h.base];rfl
     ·by_cases h5:i<3349
      ·have:=h.hist (i - 1271) (by omega)
       rw[show o+1271+(i - 1271)=o+i from by omega] at this;rw[this];rfl
      ·have:i=3349∨i=3350:=by omega
       rcases this with rfl | rfl
       ·rw[h.count];rfl
       ·rw[h.sum];rfl
end Go.Proofs.YtmbmecfodigciaaGreatDoor
