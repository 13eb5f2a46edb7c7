import Derived.Test.YtgooinallljbpaaGreatDoorTd06
set_option maxRecDepth 100000
set_option maxHeartbeats 6400000
namespace Go.Proofs.YtgooinallljbpaaGreatDoor
open Go.RowKit Px
set_option linter.unusedSimpArgs false
set_option linter.unusedVariables false
def St.copy (s:St) (j:Nat):St:=if uL.getD j 0=0 then ({ s with length:=sF.getD j 0 }:St).enter 13 0 else ({ s with length:=sF.getD j 0 }:St).enter 7 (uL.getD j 0)
def St.lengthRest (s:St) (v:Nat):St:=({ s with length:=s.length+v }:St).enter 13 0
def eY (s:St) (r:Rw) (σ:Int):St × Rw × Nat:=
 if σ = -1 then (s,r,0) else if σ<0\/30<=σ then (s,r,13)
 else if σ.toNat / 2 - 1=0 then ft s r (sJ.getD σ.toNat 0) else (({ s with base:=sJ.getD σ.toNat 0 }:St).enter 8 (σ.toNat / 2 - 1),r,0)
def cP (s:St) (r:Rw) (v:Nat):St × Rw × Nat:=ft s r (s.base+v)
theorem AU (b o n j:Nat) (σ:Int) (c:Nat->Value) (s:St) (w:World) (hB:Blk w b n c) (hV:StV c o s) (hn:o+3351<=n) (hT:iI w) (hσ:σ=((257+j:Nat):Int)) (hj:j<29) :
  Calls Tryz.prog 155 #[.pointer (some ⟨b,o,none⟩),.int .i64 σ] w fun e w'=>e = .returned (.int .i64 0)/\ai b o n c (s.copy j) w w':=by
 have FL:Hid (Calls Tryz.prog 170 #[.int .i64 σ] w fun e w'=>e = .returned (.tuple #[.int .i64 (sF.getD j 0:Nat),.int .i64 (uL.getD j 0:Nat)])/\Kept w w'):=Fj j σ w hT hσ hj;have hle:=Do j hj;have HE:Hid (s.copy j=if uL.getD j 0=0 then ({ s with length:=sF.getD j 0 }:St).enter 13 0 else ({ s with length:=sF.getD j 0 }:St).enter 7 (uL.getD j 0)):=rfl;generalize sF.getD j 0=A at *;generalize uL.getD j 0=Q at *;generalize s.copy j=SC at *;have HB:Hid (∀ W,Kept w W->Blk W b n c):=fun W k=>hB.kept k
 have HV:Hid (StV c o s):=hV;have hA1:=hle.2.1;have hQ1:=hle.2.2;clear hB hV hT hσ hle;by_cases h0:Q=0
 ·have h0':((Q:Int) == 0)=true:=by rw[beq_iff_eq];omega
  have HE2:Hid (SC=({ s with length:=A }:St).enter 13 0):=by show SC=_;rw[HE.out,if_pos h0]
  replace h0:Hid _:=h0;go_enter Tryz.func155,Tryz.ntmps155;go_wp2_with fail;refine FL.out.mono ?_;rintro e w1 ⟨rfl,hk⟩;have B1:=HB.out w1 hk;have k12:=B1.at (i:=o+1269) (by omega) HV.out.length;have z:=B1.fz (o+1269);replace B1:Hid _:=B1;replace hk:Hid (Kept w w1):=hk;go_wp2_with fail;refine (aX b o n 13 0 _ { s with length:=A } _ (B1.out.set (by omega) _) (HV.out.set_length A) hn).mono ?_;rintro e w2 ⟨rfl,d,h1,h2,h3,h4⟩;go_wp2_with fail;go_ret;rw[HE2.out];exact ⟨rfl,d,h1,h2,(FrC.upd _ (by omega) (by omega)).trans h3,(Fr.of_kept hk.out).trans ((Fr1.set (Fr.refl _ _) _ _).trans h4)⟩
 ·have h0':((Q:Int) == 0)=false:=by rw[beq_eq_false_iff_ne];omega
  have HE2:Hid (SC=({ s with length:=A }:St).enter 7 Q):=by show SC=_;rw[HE.out,if_neg h0]
  have q0:(0:Int)<=(Q:Int):=by omega
  have q1:(Q:Int)<4294967296:=by omega
  replace h0:Hid _:=h0;go_enter Tryz.func155,Tryz.ntmps155;go_wp2_with fail;refine FL.out.mono ?_;rintro e w1 ⟨rfl,hk⟩;have B1:=HB.out w1 hk;have k12:=B1.at (i:=o+1269) (by omega) HV.out.length;have z:=B1.fz (o+1269);replace B1:Hid _:=B1;replace hk:Hid (Kept w w1):=hk;go_wp2_with fail;refine (aX b o n 7 Q _ { s with length:=A } _ (B1.out.set (by omega) _) (HV.out.set_length A) hn).mono ?_;rintro e w2 ⟨rfl,d,h1,h2,h3,h4⟩;go_wp2_with fail;go_ret;rw[HE2.out];exact ⟨rfl,d,h1,h2,(FrC.upd _ (by omega) (by omega)).trans h3,(Fr.of_kept hk.out).trans ((Fr1.set (Fr.refl _ _) _ _).trans h4)⟩
theorem yd (b o n v:Nat) (c:Nat->Value) (s:St) (w:World) (hB:Blk w b n c) (hV:StV c o s) (hn:o+3351<=n) (hl:s.length<=100000) (hv:v<4294967296) :
  Calls Tryz.prog 166 #[.pointer (some ⟨b,o,none⟩),.int .u32 (v:Int)] w fun e w'=>e = .returned (.int .i64 0)/\ai b o n c (s.lengthRest v) w w':=by
 have k12:=hB.at (i:=o+1269) (by omega) hV.length;have z:=hB.fz (o+1269);have HB:Hid (Blk w b n c):=hB;have HV:Hid (StV c o s):=hV;obtain ⟨Q,hQ⟩:∃ Q,Q=s.length+v:=⟨_,rfl⟩;have eQ:(s.length:Int)+(v:Int)=(Q:Int):=by omega
 have HE:Hid (s.lengthRest v=({ s with length:=Q }:St).enter 13 0):=by show s.lengthRest v=_;rw[hQ];rfl
 generalize s.lengthRest v=SC at *;replace hQ:Hid _:=hQ;clear hB hV;go_enter Tryz.func166,Tryz.ntmps166;go_wp2_with fail;refine (aX b o n 13 0 _ { s with length:=Q } _ (HB.out.set (by omega) _) (HV.out.set_length Q) hn).mono ?_;rintro e w2 ⟨rfl,d,h1,h2,h3,h4⟩;go_wp2_with fail;go_ret;rw[HE.out];exact ⟨rfl,d,h1,h2,(FrC.upd _ (by omega) (by omega)).trans h3,(Fr1.set (Fr.refl _ _) _ _).trans h4⟩
theorem Cs (b o n v:Nat) (c:Nat->Value) (s:St) (r:Rw) (w:World) (hB:Blk w b n c) (hS:StV c o s) (hR:RwV c (o+3351) r) (hn:o+4900<=n) (hG:cJ w) (hb:b≠0) (hv:v<=50000) (hbs:s.base<=50000) (hc:s.count<=2078) (hw:s.window<=100000) (hl:s.length<=100000) (hk:1<=s.base+v->s.base+v<=s.count->s.base+v<=s.window->mH s.length (s.base+v) s r) :
  Calls Tryz.prog 167 #[.pointer (some ⟨b,o,none⟩),.int .u32 (v:Int),.pointer (some ⟨b,o+3351,none⟩)] w fun e w'=>e = .returned (.int .i64 ((cP s r v).2.2:Int))/\ao b o n c (cP s r v).1 (cP s r v).2.1 w w':=by
 have k13:=hB.at (i:=o+1270) (by omega) hS.base;have HE:Hid (cP s r v=ft s r (s.base+v)):=rfl;obtain ⟨D,hD⟩:∃ D,D=s.base+v:=⟨_,rfl⟩;have eD:(s.base:Int)+(v:Int)=(D:Int):=by omega
 rw[<- hD] at hk HE;have FX:Hid _:=wu b o n D c s r w hB hS hR hn hG hb (by omega) hc hw hl hk;replace hD:Hid _:=hD;generalize cP s r v=DP at *;generalize ft s r D=CP at *;clear hB hS hR hG hk;go_enter Tryz.func167,Tryz.ntmps167;go_wp2_with fail;refine Calls.mono FX.out ?_;rintro e w1 ⟨rfl,h1⟩;go_wp2_with fail;go_ret;rw[HE.out];exact ⟨rfl,h1⟩
theorem Cr (b o n:Nat) (σ:Int) (c:Nat->Value) (s:St) (r:Rw) (w:World) (hB:Blk w b n c) (hS:StV c o s) (hR:RwV c (o+3351) r) (hn:o+4900<=n) (hG:cJ w) (hb:b≠0) (hT:iI w) (hσ1 : -2<=σ) (hσ2:σ<=1000) (hc:s.count<=2078) (hw:s.window<=100000) (hl:s.length<=100000) (hk:∀ D,1<=D->D<=s.count->D<=s.window->mH s.length D s r) :
  Calls Tryz.prog 149 #[.pointer (some ⟨b,o,none⟩),.int .i64 σ,.pointer (some ⟨b,o+3351,none⟩)] w fun e w'=>e = .returned (.int .i64 ((eY s r σ).2.2:Int))/\ao b o n c (eY s r σ).1 (eY s r σ).2.1 w w':=by
 have H0:Hid (ao b o n c s r w w):=ao.refl hB hS hR;by_cases h1:σ = -1
 ·subst h1
  have HE:Hid (eY s r (-1)=(s,r,0)):=if_pos rfl;clear hB hS hR hG hk hT;go_enter Tryz.func149,Tryz.ntmps149;go_wp2;go_ret;rw[HE.out];exact ⟨rfl,H0.out⟩
 have h1':(σ == -1)=false:=by rw[beq_eq_false_iff_ne];exact h1
 by_cases h2:σ<0\/30<=σ
 ·have HE:Hid (eY s r σ=(s,r,13)):=by show eY s r σ=_;unfold eY;rw[if_neg h1,if_pos h2]
  clear hB hS hR hG hk hT;by_cases h3:σ<0
  ·clear h2
   go_enter Tryz.func149,Tryz.ntmps149;go_wp2;go_ret;rw[HE.out];exact ⟨rfl,H0.out⟩
  ·have h4:(30:Int)<=σ:=by omega
   clear h2;go_enter Tryz.func149,Tryz.ntmps149;go_wp2;go_ret;rw[HE.out];exact ⟨rfl,H0.out⟩
 obtain ⟨j,hj⟩:∃ j:Nat,σ=(j:Int):=⟨σ.toNat,by omega⟩;subst hj;have hj:j<30:=by omega
 have g0:¬ (j:Int)<0:=by omega
 have g1:¬ (30:Int)<=(j:Int):=by omega
 have FL:Hid (Calls Tryz.prog 157 #[.int .i64 (j:Int)] w fun e w'=>e = .returned (.tuple #[.int .i64 (sJ.getD j 0:Nat),.int .i64 ((j / 2 - 1:Nat):Int)])/\w'=w):=AP j w hT hj;have hle:=DM j hj;have HE:Hid (eY s r (j:Int)=if j / 2 - 1=0 then ft s r (sJ.getD j 0) else (({ s with base:=sJ.getD j 0 }:St).enter 8 (j / 2 - 1),r,0)):=by
  show eY s r (j:Int)=_
  unfold eY;rw[if_neg h1,if_neg h2,Int.toNat_natCast]
 generalize sJ.getD j 0=A at *;have hQ1:j / 2 - 1<=13:=by omega
 generalize j / 2 - 1=Q at *;generalize eY s r (j:Int)=DP at *;have hA1:=hle.2;by_cases h0:Q=0
 ·have h0':((Q:Int) == 0)=true:=by rw[beq_iff_eq];omega
  have HE2:Hid (DP=ft s r A):=by show DP=_;rw[HE.out,if_pos h0]
  have FX:Hid _:=wu b o n A c s r w hB hS hR hn hG hb (by omega) hc hw hl (hk A);generalize ft s r A=CP at *;replace h0:Hid _:=h0;clear hB hS hR hG hk hT h2 hle;go_enter Tryz.func149,Tryz.ntmps149;go_wp2_with fail;refine FL.out.mono ?_;rintro e w1 ⟨rfl,hw1⟩;subst w1;go_wp2_with fail;refine Calls.mono FX.out ?_;rintro e w1 ⟨rfl,h1⟩;go_wp2_with fail;go_ret;rw[HE2.out];exact ⟨rfl,h1⟩
 ·have h0':((Q:Int) == 0)=false:=by rw[beq_eq_false_iff_ne];omega
  have HE2:Hid (DP=(({ s with base:=A }:St).enter 8 Q,r,0)):=by show DP=_;rw[HE.out,if_neg h0]
  have k13:=hB.at (i:=o+1270) (by omega) hS.base;have z:=hB.fz (o+1270);have HB:Hid (Blk w b n c):=hB;have HV:Hid (StV c o s):=hS;have HR:Hid (RwV c (o+3351) r):=hR;have q0:(0:Int)<=(Q:Int):=by omega
  have q1:(Q:Int)<4294967296:=by omega
  replace h0:Hid _:=h0;clear hB hS hR hG hk hT h2 hle;go_enter Tryz.func149,Tryz.ntmps149;go_wp2_with fail;refine FL.out.mono ?_;rintro e w1 ⟨rfl,hw1⟩;subst w1;go_wp2_with fail;refine (aX b o n 8 Q _ { s with base:=A } _ (HB.out.set (by omega) _) (HV.out.set_base A) (by omega)).mono ?_;rintro e w2 ⟨rfl,d,h1,h2,h3,h4⟩;go_wp2_with fail;go_ret;rw[HE2.out];exact ⟨rfl,ao.of_st HR.out ⟨d,h1,h2,(FrC.upd _ (by omega) (by omega)).trans h3,(Fr1.set (Fr.refl _ _) _ _).trans h4⟩⟩
theorem Jm:Tryz.zeroCells60.toList=[.int .i64 0,.int .i64 0,.int .i64 0]++(List.replicate 306 (.int .i64 0)++(List.replicate 335 (.int .u8 0)++List.replicate 2 (.int .i64 0))):=by kernel_rfl
def tbL (a b c:Nat):List Value:=[.int .i64 (a:Int),.int .i64 (b:Int),.int .i64 (c:Int)]++(List.replicate 306 (.int .i64 0)++(List.replicate 335 (.int .u8 0)++List.replicate 2 (.int .i64 0)))
theorem Ju (a b c:Nat):(tbL a b c).length=646:=by
 unfold tbL;simp only [List.length_append,List.length_replicate,List.length_cons,List.length_nil]
theorem Js (a b c:Nat):((Tryz.zeroCells60.toList.set 0 (.int .i64 (a:Int))).set 1 (.int .i64 (b:Int))).set 2 (.int .i64 (c:Int))=tbL a b c:=by
 rw[Jm];rfl
def tbN (a b c:Nat):Tb:=⟨a,b,c,wA,fun _=>0,fun _=>0,0,0⟩
theorem MN (a b c:Nat):TbV (fun j=>(tbL a b c).getD j undef) 0 (tbN a b c):=by
 have A:∀ i,i<306->(tbL a b c).getD (3+i) undef = .int .i64 0:=fun i hi=>(av _ _ 3 i rfl).trans (da _ _ _ _ hi)
 have B:∀ i,i<335->(tbL a b c).getD (3+(306+i)) undef = .int .u8 0:=fun i hi=>(av _ _ 3 _ rfl).trans ((av _ _ 306 i (List.length_replicate ..)).trans (da _ _ _ _ hi))
 have C:∀ i,i<2->(tbL a b c).getD (3+(306+(335+i))) undef = .int .i64 0:=fun i hi=>(av _ _ 3 _ rfl).trans ((av _ _ 306 _ (List.length_replicate ..)).trans ((av _ _ 335 i (List.length_replicate ..)).trans (by
  have:=da 2 i (.int .i64 0) [] hi
  rw[List.append_nil] at this;exact this)))
 have A':∀ i,3<=i->i<309->(tbL a b c).getD i undef = .int .i64 0:=fun i h1 h2=>by
  have:=A (i - 3) (by omega);rwa [show 3+(i - 3)=i by omega] at this
 have B':∀ i,309<=i->i<644->(tbL a b c).getD i undef = .int .u8 0:=fun i h1 h2=>by
  have:=B (i - 309) (by omega);rwa [show 3+(306+(i - 309))=i by omega] at this
 have C':∀ i,644<=i->i<646->(tbL a b c).getD i undef = .int .i64 0:=fun i h1 h2=>by
  have:=C (i - 644) (by omega);rwa [show 3+(306+(335+(i - 644)))=i by omega] at this
 exact ⟨rfl,rfl,rfl,⟨fun i hi=>A' _ (by omega) (by omega),fun i hi=>A' _ (by omega) (by omega),A' _ (by omega) (by omega),A' _ (by omega) (by omega)⟩,fun i hi=>B' _ (by omega) (by omega),fun i hi=>B' _ (by omega) (by omega),C' _ (by omega) (by omega),C' _ (by omega) (by omega)⟩
theorem Jt (a b c:Nat):∀ v ∈ tbL a b c,v.oneCell'=true:=by
 intro v hv;unfold tbL at hv;simp only [List.mem_append,List.mem_cons,List.not_mem_nil,or_false,List.mem_replicate] at hv;rcases hv with (rfl | rfl | rfl) | ⟨_,rfl⟩ | ⟨_,rfl⟩ | ⟨_,rfl⟩<;>rfl
theorem wW (v:Nat) (hv:v<4294967296):bits .and .u32 (v:Int) 31=((v % 32:Nat):Int):=by
 have:=uD v 31 hv (by omega)
 rw[show (31:Int)=((31:Nat):Int) from rfl,this]
 congr 1
 exact Nat.and_two_pow_sub_one_eq_mod v 5
theorem StV.put_tb {c d:Nat->Value} {o:Nat} {s:St} {t:Tb} (h:StV c o s) (e:∀ i,o<=i->i<o+3351->(i<o+623\/o+1269<=i)->d i=c i) (ht:TbV d (o+623) t):StV d o { s with tb:=t } :=
 ⟨(e _ (by omega) (by omega) (by omega)).trans h.part,(e _ (by omega) (by omega) (by omega)).trans h.number,(e _ (by omega) (by omega) (by omega)).trans h.got,(e _ (by omega) (by omega) (by omega)).trans h.wanted,h.path.congr (fun i h1 h2=>e i (by omega) (by omega) (by omega)),(e _ (by omega) (by omega) (by omega)).trans h.skip,(e _ (by omega) (by omega) (by omega)).trans h.window,(e _ (by omega) (by omega) (by omega)).trans h.last,(e _ (by omega) (by omega) (by omega)).trans h.left,h.lit.congr (fun i h1 h2=>e i (by omega) (by omega) (by omega)),h.dist.congr (fun i h1 h2=>e i (by omega) (by omega) (by omega)),ht,(e _ (by omega) (by omega) (by omega)).trans h.length,(e _ (by omega) (by omega) (by omega)).trans h.base,fun i hi=>(e _ (by omega) (by omega) (by omega)).trans (h.hist i hi),(e _ (by omega) (by omega) (by omega)).trans h.count,(e _ (by omega) (by omega) (by omega)).trans h.sum⟩
theorem CSV.shift {c d:Nat->Value} {o p:Nat} {s:CS} (e:∀ j,j<306->d (p+j)=c (o+j)) (h:CSV c o s):CSV d p s:=
 ⟨fun i hi=>(e i (by omega)).trans (h.count i hi),fun i hi=>by rw[Nat.add_assoc];exact (e (16+i) (by omega)).trans (by rw[<- Nat.add_assoc];exact h.sym i hi),(e 304 (by omega)).trans h.total,(e 305 (by omega)).trans h.longest⟩
theorem TbV.shift {c d:Nat->Value} {p:Nat} {s:Tb} (e:∀ j,j<646->d (p+j)=c j) (h:TbV c 0 s):TbV d p s:=by
 have f:∀ j v,j<646->c (0+j)=v->d (p+j)=v:=fun j v hj q=>(e j hj).trans (by rw[Nat.zero_add] at q;exact q)
 refine ⟨f 0 _ (by omega) h.literals,f 1 _ (by omega) h.distances,f 2 _ (by omega) h.shorts,h.short.shift (fun j hj => ?_),fun i hi => ?_,fun i hi => ?_,f 644 _ (by omega) h.told,f 645 _ (by omega) h.rep⟩
 ·rw[Nat.add_assoc,e (3+j) (by omega)]
 ·rw[Nat.add_assoc];exact f (309+i) _ (by omega) (by rw[<- Nat.add_assoc];exact h.sl i hi)
 ·rw[Nat.add_assoc];exact f (328+i) _ (by omega) (by rw[<- Nat.add_assoc];exact h.ls i hi)
def St.counts (s:St) (v:Nat):St × Nat:=if 286<v % 32+257\/30<v / 32 % 32+1 then ({ s with tb:=tbN (v % 32+257) (v / 32 % 32+1) (v / 1024+4) },12) else (({ s with tb:=tbN (v % 32+257) (v / 32 % 32+1) (v / 1024+4) }:St).enter 5 3,0)
theorem xR (b o n v:Nat) (c:Nat->Value) (s:St) (w:World) (hB:Blk w b n c) (hV:StV c o s) (hn:o+3351<=n) (hv:v<16384) :
  Calls Tryz.prog 163 #[.pointer (some ⟨b,o,none⟩),.int .u32 (v:Int)] w fun e w'=>e = .returned (.int .i64 ((s.counts v).2:Int))/\ai b o n c (s.counts v).1 w w':=by
 have ea:=wW v (by omega);have eb:=wW (v / 32) (by omega);obtain ⟨A,hA⟩:∃ A,A=v % 32+257:=⟨_,rfl⟩;obtain ⟨Q,hQ⟩:∃ Q,Q=v / 32 % 32+1:=⟨_,rfl⟩;obtain ⟨C,hC⟩:∃ C,C=v / 1024+4:=⟨_,rfl⟩;obtain ⟨V5,h5⟩:∃ V5,V5=v / 32:=⟨_,rfl⟩;obtain ⟨V10,h10⟩:∃ V10,V10=v / 1024:=⟨_,rfl⟩;obtain ⟨A0,hA0⟩:∃ A0,A0=v % 32:=⟨_,rfl⟩;obtain ⟨Q0,hQ0⟩:∃ Q0,Q0=v / 32 % 32:=⟨_,rfl⟩;rw[<- hA0] at ea;rw[<- hQ0,<- h5] at eb;have e5:(v:Int) / 32=(V5:Int):=by omega
 have e10:(v:Int) / 1024=(V10:Int):=by omega
 have eA:(A0:Int)+257=(A:Int):=by omega
 have eQ:(Q0:Int)+1=(Q:Int):=by omega
 have eC:(V10:Int)+4=(C:Int):=by omega
 have bA:A<300:=by omega
 have bQ:Q<40:=by omega
 have bC:C<30:=by omega
 replace hA0:Hid _:=hA0;replace hQ0:Hid _:=hQ0;replace h5:Hid _:=h5;replace h10:Hid _:=h10;have HE:Hid (s.counts v=if 286<A\/30<Q then ({ s with tb:=tbN A Q C },12) else (({ s with tb:=tbN A Q C }:St).enter 5 3,0)):=by
  show s.counts v=_
  rw[hA,hQ,hC];rfl
 replace hA:Hid _:=hA;replace hQ:Hid _:=hQ;replace hC:Hid _:=hC;generalize s.counts v=SC at *;obtain ⟨L,hL⟩:∃ L,L=tbL A Q C:=⟨_,rfl⟩;have hset:=Js A Q C;rw[<- hL] at hset;have hll:L.length=646:=by rw[hL];exact Ju _ _ _
 have hsc:(storeCells ⟨b,o+623,none⟩ L).run Tryz.prog w = .ok () (w.setCells b (o+623) L):=aU (by rw[hll];exact hB.there (by omega)) (by rw[hL];exact Jt _ _ _);have B1:Blk (w.setCells b (o+623) L) b n (updL c (o+623) 646 (fun j=>L.getD j undef)):=hB.sets (k:=o+623) (m:=646) (by omega) (fun j=>L.getD j undef) hll (fun j hj=>by
  show L[j]? = some (L.getD j undef)
  rw[List.getD_eq_getElem?_getD,List.getElem?_eq_getElem (by omega)];rfl)
 have T1:TbV (updL c (o+623) 646 (fun j=>L.getD j undef)) (o+623) (tbN A Q C):=TbV.shift (fun j hj=>by
  rw[ff hj,hL]) (MN A Q C)
 have V1:StV (updL c (o+623) 646 (fun j=>L.getD j undef)) o { s with tb:=tbN A Q C }:=hV.put_tb (fun i _ _ h=>dw (by omega)) T1;have C1:FrC b o (o+3351) c (updL c (o+623) 646 (fun j=>L.getD j undef)):=⟨fun i hi=>dw (by omega)⟩;have F1:Fr1 b w (w.setCells b (o+623) L):=Fr1.sets _ _ (Fr.refl _ _);have y0:=B1.at (i:=o+623) (by omega) T1.literals;have y1:=B1.at (i:=o+623+1) (by omega) T1.distances;replace y0:(w.setCells b (o+623) L).cell? ⟨b,o+623,none⟩=some (.int .i64 (A:Int)):=y0;replace y1:(w.setCells b (o+623) L).cell? ⟨b,o+623+1,none⟩=some (.int .i64 (Q:Int)):=y1;replace B1:Hid _:=B1;replace T1:Hid _:=T1;replace V1:Hid _:=V1;replace C1:Hid _:=C1;replace F1:Hid _:=F1;replace hL:Hid _:=hL;replace hll:Hid _:=hll;clear hB hV;generalize w.setCells b (o+623) L=w1 at *;by_cases hbad:286<A\/30<Q
 ·have HE2:Hid (SC=({ s with tb:=tbN A Q C },12)):=by show SC=_;rw[HE.out,if_pos hbad]
  by_cases h1:286<A
  ·have h1':(286:Int)<(A:Int):=by omega
   clear hbad;go_enter Tryz.func163,Tryz.ntmps163;go_wp2;go_ret;rw[HE2.out];exact ⟨rfl,_,B1.out,V1.out,C1.out,F1.out⟩
  ·have h1':¬ (286:Int)<(A:Int):=by omega
   have h2':(30:Int)<(Q:Int):=by omega
   clear hbad;go_enter Tryz.func163,Tryz.ntmps163;go_wp2;go_ret;rw[HE2.out];exact ⟨rfl,_,B1.out,V1.out,C1.out,F1.out⟩
 ·have HE2:Hid (SC=(({ s with tb:=tbN A Q C }:St).enter 5 3,0)):=by show SC=_;rw[HE.out,if_neg hbad]
  have h1':¬ (286:Int)<(A:Int):=by omega
  have h2':¬ (30:Int)<(Q:Int):=by omega
  have FE:Hid _:=aX b o n 5 3 _ { s with tb:=tbN A Q C } w1 B1.out V1.out hn;go_enter Tryz.func163,Tryz.ntmps163;go_wp2_with fail;refine Calls.mono FE.out ?_;rintro e w2 ⟨rfl,d,h1,h2,h3,h4⟩;go_wp2_with fail;go_ret;rw[HE2.out];exact ⟨rfl,d,h1,h2,C1.out.trans h3,F1.out.trans h4⟩
theorem ai.one {b o n:Nat} {c:Nat->Value} {s:St} {w W:World} (h:ai b o n c s w W) (k:Nat) (v:Value) (t:Tb) (hn:o+3351<=n) (hk:k<646) (ht:∀ d,TbV d (o+623) s.tb->TbV (upd d (o+623+k) v) (o+623) t):ai b o n c { s with tb:=t } w (W.setCell ⟨b,o+623+k,none⟩ v):=by
 obtain ⟨d,h1,h2,h3,h4⟩:=h;exact ⟨_,h1.set (k:=o+623+k) (by omega) _,h2.put_tb (fun i _ _ q=>upd_ne _ _ _ (by omega)) (ht d h2.tb),h3.trans (FrC.upd _ (by omega) (by omega)),Fr1.set h4 _ _⟩
theorem ai.sl {b o n:Nat} {c:Nat->Value} {s:St} {w W:World} (h:ai b o n c s w W) (hn:o+3351<=n) (k v:Nat) (hk:k<19):ai b o n c { s with tb:={ s.tb with sl:=upd s.tb.sl k v } } w (W.setCell ⟨b,o+623+309+k,none⟩ (.int .u8 (v:Int))):=by
 have:=h.one (309+k) (.int .u8 (v:Int)) { s.tb with sl:=upd s.tb.sl k v } hn (by omega) (fun d q=>by rw[<- Nat.add_assoc];exact q.set_sl k v hk)
 rw[<- Nat.add_assoc] at this;exact this
theorem ai.ls {b o n:Nat} {c:Nat->Value} {s:St} {w W:World} (h:ai b o n c s w W) (hn:o+3351<=n) (k v:Nat) (hk:k<316):ai b o n c { s with tb:={ s.tb with ls:=upd s.tb.ls k v } } w (W.setCell ⟨b,o+623+328+k,none⟩ (.int .u8 (v:Int))):=by
 have:=h.one (328+k) (.int .u8 (v:Int)) { s.tb with ls:=upd s.tb.ls k v } hn (by omega) (fun d q=>by rw[<- Nat.add_assoc];exact q.set_ls k v hk)
 rw[<- Nat.add_assoc] at this;exact this
theorem ai.told {b o n:Nat} {c:Nat->Value} {s:St} {w W:World} (h:ai b o n c s w W) (hn:o+3351<=n) (v:Nat):ai b o n c { s with tb:={ s.tb with told:=v } } w (W.setCell ⟨b,o+623+644,none⟩ (.int .i64 (v:Int))):=h.one 644 _ _ hn (by omega) (fun d q=>q.set_told v)
theorem ai.rep {b o n:Nat} {c:Nat->Value} {s:St} {w W:World} (h:ai b o n c s w W) (hn:o+3351<=n) (v:Int):ai b o n c { s with tb:={ s.tb with rep:=v } } w (W.setCell ⟨b,o+623+645,none⟩ (.int .i64 v)):=h.one 645 _ _ hn (by omega) (fun d q=>q.set_rep v)
theorem ai.kept {b o n:Nat} {c:Nat->Value} {s:St} {w W W':World} (h:ai b o n c s w W) (k:Kept W W'):ai b o n c s w W':=by
 obtain ⟨d,h1,h2,h3,h4⟩:=h;exact ⟨d,h1.kept k,h2,h3,h4.kept k⟩
theorem ai.set {b o n:Nat} {c:Nat->Value} {s:St} {w W:World} (h:ai b o n c s w W) (hn:o+3351<=n) (k:Nat) (x:CS) (s':St) (cs:List Value) (hcs:cs=(List.range 306).map (csC x)) (hk:k+306<=3351) (hs:∀ d e,StV d o s->CSV e (o+k) x->(∀ i,¬ (o+k<=i/\i<o+k+306)->e i=d i)->StV e o s'):(storeCells ⟨b,o+k,none⟩ cs).run Tryz.prog W = .ok () (W.setCells b (o+k) cs)/\ai b o n c s' w (W.setCells b (o+k) cs):=by
 obtain ⟨d,h1,h2,h3,h4⟩:=h;have hdl:cs.length=306:=by rw[hcs];exact bS _ 306
 refine ⟨aU (by rw[hdl];exact h1.there (by omega)) (by rw[hcs];exact qa _),updL d (o+k) 306 (csC x),h1.sets (by omega) _ hdl (fun j hj=>by rw[hcs,pQ _ 306 j hj]),hs d _ h2 (CSV.of_cells (fun j hj=>ff hj)) (fun i hi=>dw hi),h3.trans (FrC.updL (by omega) (by omega)),Fr1.sets _ _ h4⟩
theorem ai.short {b o n:Nat} {c:Nat->Value} {s:St} {w W:World} (h:ai b o n c s w W) (hn:o+3351<=n) (x:CS) (cs:List Value) (hcs:cs=(List.range 306).map (csC x)):(storeCells ⟨b,o+623+3,none⟩ cs).run Tryz.prog W = .ok () (W.setCells b (o+623+3) cs)/\ai b o n c { s with tb:={ s.tb with short:=x } } w (W.setCells b (o+623+3) cs) :=
 h.set hn 626 x _ cs hcs (by omega) (fun d e q1 q2 q3=>q1.put_tb (fun i _ _ q=>q3 i (by omega)) (q1.tb.set_short x q2 (fun i q=>q3 i (fun z=>q ⟨by omega,by omega⟩))))
theorem ai.lit {b o n:Nat} {c:Nat->Value} {s:St} {w W:World} (h:ai b o n c s w W) (hn:o+3351<=n) (x:CS) (cs:List Value) (hcs:cs=(List.range 306).map (csC x)):(storeCells ⟨b,o+11,none⟩ cs).run Tryz.prog W = .ok () (W.setCells b (o+11) cs)/\ai b o n c { s with lit:=x } w (W.setCells b (o+11) cs) :=
 h.set hn 11 x _ cs hcs (by omega) (fun d e q1 q2 q3=>q1.set_lit x q2 (fun i q=>q3 i (fun z=>q ⟨by omega,by omega⟩)))
theorem ai.dist {b o n:Nat} {c:Nat->Value} {s:St} {w W:World} (h:ai b o n c s w W) (hn:o+3351<=n) (x:CS) (cs:List Value) (hcs:cs=(List.range 306).map (csC x)):(storeCells ⟨b,o+317,none⟩ cs).run Tryz.prog W = .ok () (W.setCells b (o+317) cs)/\ai b o n c { s with dist:=x } w (W.setCells b (o+317) cs) :=
 h.set hn 317 x _ cs hcs (by omega) (fun d e q1 q2 q3=>q1.set_dist x q2 (fun i q=>q3 i (fun z=>q ⟨by omega,by omega⟩)))
theorem ai.refl {b o n:Nat} {c:Nat->Value} {s:St} {w:World} (hB:Blk w b n c) (hV:StV c o s):ai b o n c s w w:=⟨c,hB,hV,FrC.refl _ _ _ _,Fr.refl _ _⟩
theorem ai.tbc {b o n:Nat} {c:Nat->Value} {s:St} {w W:World} (h:ai b o n c s w W) (hn:o+3351<=n):W.cell? ⟨b,o+623,none⟩=some (.int .i64 (s.tb.literals:Int))/\W.cell? ⟨b,o+623+1,none⟩=some (.int .i64 (s.tb.distances:Int))/\W.cell? ⟨b,o+623+2,none⟩=some (.int .i64 (s.tb.shorts:Int))/\W.cell? ⟨b,o+623+644,none⟩=some (.int .i64 (s.tb.told:Int))/\W.cell? ⟨b,o+623+645,none⟩=some (.int .i64 s.tb.rep)/\(∀ k,k<19->W.cell? ⟨b,o+623+309+k,none⟩=some (.int .u8 (s.tb.sl k:Int)))/\(∀ k,k<316->W.cell? ⟨b,o+623+328+k,none⟩=some (.int .u8 (s.tb.ls k:Int)))/\∀ k,W.frozen? ⟨b,k,none⟩=false:=by
 obtain ⟨d,h1,h2,h3,h4⟩:=h;exact ⟨h1.at (by omega) h2.tb.literals,h1.at (by omega) h2.tb.distances,h1.at (by omega) h2.tb.shorts,h1.at (by omega) h2.tb.told,h1.at (by omega) h2.tb.rep,fun k hk=>h1.at (by omega) (h2.tb.sl k hk),fun k hk=>h1.at (by omega) (h2.tb.ls k hk),h1.fz⟩
def St.short1 (s:St) (v:Nat):St:={ s with tb:={ s.tb with sl:=upd s.tb.sl (uJ.getD s.tb.told 0) v,told:=s.tb.told+1 } }
def St.short2 (s:St):St:={ s with tb:={ s.tb with short:=cw s.tb.sl 19 } }
def St.shortLen (s:St) (v:Nat):St × Nat:=
 if s.tb.told+1<s.tb.shorts then ((s.short1 v).enter 5 3,0)
 else if (s.short1 v).short2.tb.short.full=true then (({ (s.short1 v).short2 with tb:={ (s.short1 v).short2.tb with told:=0 } }:St).enter 11 0,0)
 else ((s.short1 v).short2,12)
theorem D4 (T R:Nat) (w:World) (ht:T<19) (yo:w.cell? ⟨4,T,none⟩=some (.int .i64 (R:Int))) :
  Calls Tryz.prog 175 #[.int .i64 (T:Int)] w fun e w'=>e = .returned (.int .i64 (R:Int))/\w'=w:=by
 have i0:(0:Int)<=(T:Int):=by omega
 have i0':¬ (T:Int)<0:=by omega
 have i1:(T:Int)<19:=by omega
 have i1':¬ (19:Int)<=(T:Int):=by omega
 go_enter Tryz.func175,Tryz.ntmps175;go_wp2;go_ret;exact ⟨rfl,rfl⟩
theorem BL (w:World):Calls Tryz.prog 152 #[.int .i64 16] w fun e w'=>e = .returned (.tuple #[.int .i64 3,.int .i64 2])/\w'=w:=by
 go_enter Tryz.func152,Tryz.ntmps152;go_wp2;go_ret2;exact ⟨rfl,rfl⟩
theorem GE (w:World):Calls Tryz.prog 152 #[.int .i64 17] w fun e w'=>e = .returned (.tuple #[.int .i64 3,.int .i64 3])/\w'=w:=by
 go_enter Tryz.func152,Tryz.ntmps152;go_wp2;go_ret2;exact ⟨rfl,rfl⟩
theorem GD (w:World):Calls Tryz.prog 152 #[.int .i64 18] w fun e w'=>e = .returned (.tuple #[.int .i64 11,.int .i64 7])/\w'=w:=by
 go_enter Tryz.func152,Tryz.ntmps152;go_wp2;go_ret2;exact ⟨rfl,rfl⟩
theorem MZ (x:Nat) (w:World) (h6:x≠16) (h7:x≠17) (h8:x≠18):Calls Tryz.prog 152 #[.int .i64 (x:Int)] w fun e w'=>e = .returned (.tuple #[.int .i64 1,.int .i64 0])/\w'=w:=by
 have a:((x:Int) == 16)=false:=by rw[beq_eq_false_iff_ne];omega
 have b:((x:Int) == 17)=false:=by rw[beq_eq_false_iff_ne];omega
 have c:((x:Int) == 18)=false:=by rw[beq_eq_false_iff_ne];omega
 clear h6 h7 h8;go_enter Tryz.func152,Tryz.ntmps152;go_wp2;go_ret2;exact ⟨rfl,rfl⟩
theorem BG (b o n v:Nat) (c:Nat->Value) (s:St) (w:World) (hB:Blk w b n c) (hV:StV c o s) (hn:o+3351<=n) (hT:iI w) (hb:b≠4) (hv:v<256) (ht:s.tb.told<19) (hs:s.tb.shorts<=19) (hsl:∀ i,i<19->s.tb.sl i<256) :
  Calls Tryz.prog 164 #[.pointer (some ⟨b,o,none⟩),.int .u32 (v:Int)] w fun e w'=>e = .returned (.int .i64 ((s.shortLen v).2:Int))/\ai b o n c (s.shortLen v).1 w w':=by
 have S0:ai b o n c s w w:=ai.refl hB hV;obtain ⟨-,-,y2,y4,-,y6,-,z⟩:=S0.tbc hn;have yo:=hT.ord s.tb.told ht;have ho:=JS s.tb.told ht;have HE:Hid (s.shortLen v=if s.tb.told+1<s.tb.shorts then ((s.short1 v).enter 5 3,0) else if (s.short1 v).short2.tb.short.full=true then (({ (s.short1 v).short2 with tb:={ (s.short1 v).short2.tb with told:=0 } }:St).enter 11 0,0) else ((s.short1 v).short2,12)):=rfl;obtain ⟨T,hTe⟩:∃ T,T=s.tb.told:=⟨_,rfl⟩;obtain ⟨R,hR⟩:∃ R,R=uJ.getD s.tb.told 0:=⟨_,rfl⟩;rw[<- hR] at yo ho;have y7:=y6 R ho;obtain ⟨OV,hOV⟩:∃ OV,OV=s.tb.sl R:=⟨_,rfl⟩;rw[<- hOV] at y7;have S1:Hid (ai b o n c (s.short1 v) w ((w.setCell ⟨b,o+623+309+R,none⟩ (.int .u8 (v:Int))).setCell ⟨b,o+623+644,none⟩ (.int .i64 ((T+1:Nat):Int)))):=by
  have:=(S0.sl hn R v ho).told hn (T+1)
  rw[hTe] at this ⊢;unfold St.short1;rw[<- hR];exact this
 have hsl1:∀ i,i<19->(s.short1 v).tb.sl i<256:=fun i hi=>by
  show upd s.tb.sl (uJ.getD s.tb.told 0) v i<256
  by_cases e:i=uJ.getD s.tb.told 0
  ·rw[e,upd_same];exact hv
  ·rw[upd_ne _ _ _ e];exact hsl i hi
 have t1:(s.short1 v).tb.told=T+1:=by rw[hTe];rfl
 have t2:(s.short1 v).tb.shorts=s.tb.shorts:=rfl;rw[<- hTe] at y4 yo ht HE;generalize s.short1 v=s1 at *;generalize s.shortLen v=SC at *;obtain ⟨H,hH⟩:∃ H,H=s.tb.shorts:=⟨_,rfl⟩;rw[<- hH] at t2 HE hs y2;replace hR:Hid _:=hR;replace hTe:Hid _:=hTe;replace hOV:Hid _:=hOV;replace hH:Hid _:=hH;replace y6:Hid _:=y6;have HSL:Hid (∀ i,i<19->s1.tb.sl i<256):=hsl1;have T1:Hid (s1.tb.told=T+1):=t1;have T2:Hid (s1.tb.shorts=H):=t2;clear S0 hB hV hT hsl hsl1 t1 t2;obtain ⟨T',hT'⟩:∃ T',T'=T+1:=⟨_,rfl⟩;rw[<- hT'] at S1 T1 HE;have eT:(T:Int)+1=(T':Int):=by omega
 have i0:(0:Int)<=(T:Int):=by omega
 have i1:(T:Int)<19:=by omega
 have r0:(0:Int)<=(R:Int):=by omega
 have r1:(R:Int)<19:=by omega
 have wv:IntKind.u8.wrap (v:Int)=(v:Int):=by rw[IntKind.wrap_u8];omega
 have z1:∀ k,(w.setCell ⟨b,o+623+309+R,none⟩ (.int .u8 (v:Int))).frozen? ⟨b,k,none⟩=false:=fun k=>(World.frozen?_setCell _ _ _ _).trans (z k)
 have y4':(w.setCell ⟨b,o+623+309+R,none⟩ (.int .u8 (v:Int))).cell? ⟨b,o+623+644,none⟩=some (.int .i64 (T:Int)):=(aa _ _ _ _ _ (by omega)).trans y4;replace hT':Hid _:=hT';have Fd:Hid (Calls Tryz.prog 175 #[.int .i64 (T:Int)] w fun e w'=>e = .returned (.int .i64 (R:Int))/\w'=w):=D4 T R w ht yo;clear yo;have r0':¬ (R:Int)<0:=by omega
 go_enter Tryz.func164,Tryz.ntmps164;go_wp2_with fail;refine Fd.out.mono ?_;rintro e w0 ⟨rfl,hw0⟩;subst w0;go_upto_region 5 with fail
 generalize w.setCell ⟨b,o+623+309+R,none⟩ (.int .u8 (v:Int))=w1 at *;clear z y4 y2 y7 Fd;go_upto_region 6 with fail
 generalize w1.setCell ⟨b,o+623+644,none⟩ (.int .i64 (T':Int))=w2 at *;clear z1 y4';obtain ⟨-,-,y2,y4,-,-,-,z⟩:=S1.out.tbc hn;rw[T2.out] at y2;rw[T1.out] at y4;go_wp2_with fail;go_quiet (fail);have S2:=S1.out.kept ((Kept.refl w2).drewN nq);generalize w2.drewN nq=w3 at *;clear y2 y4 z S1;replace S2:Hid (ai b o n c s1 w w3):=S2;by_cases h1:T'<H
 ·have h1':(T':Int)<(H:Int):=by omega
  have HE2:Hid (SC=(s1.enter 5 3,0)):=by show SC=_;rw[HE.out,if_pos h1]
  have FE:Hid (Calls Tryz.prog 138 #[.pointer (some ⟨b,o,none⟩),.int .i64 ((5:Nat):Int),.int .u64 ((3:Nat):Int)] w3 fun e w'=>e = .returned (.tuple #[])/\ai b o n c (s1.enter 5 3) w w'):=by
   obtain ⟨d,k1,k2,k3,k4⟩:=S2.out;refine (aX b o n 5 3 d s1 w3 k1 k2 hn).mono ?_;rintro e w' ⟨rfl,d',m1,m2,m3,m4⟩;exact ⟨rfl,d',m1,m2,k3.trans m3,k4.trans m4⟩
  go_wp2_with fail;refine FE.out.mono ?_;rintro e w4 ⟨rfl,S4⟩;go_wp2;go_ret;rw[HE2.out];exact ⟨rfl,S4⟩
 ·have h1':¬ (T':Int)<(H:Int):=by omega
  obtain ⟨-,-,-,-,-,y6,-,z⟩:=S2.out.tbc hn;have FM:Hid _:=Hr b (o+623+309) 19 19 s1.tb.sl w3 y6 HSL.out (by omega) (by omega) (by omega);have HE2:Hid (SC=if s1.short2.tb.short.full=true then (({ s1.short2 with tb:={ s1.short2.tb with told:=0 } }:St).enter 11 0,0) else (s1.short2,12)):=by show SC=_;rw[HE.out,if_neg h1]
  clear y6;go_wp2_with fail;refine Calls.mono FM.out ?_;rintro e w4 ⟨rfl,hk4⟩;obtain ⟨cs,hcs⟩:∃ cs,cs=(List.range 306).map (csC (cw s1.tb.sl 19)):=⟨_,rfl⟩;rw[<- hcs];obtain ⟨hsc,S5⟩:=(S2.out.kept hk4).short hn (cw s1.tb.sl 19) cs hcs;replace S5:Hid (ai b o n c s1.short2 w (w4.setCells b (o+623+3) cs)):=S5;have ok5:Hid (mI s1.short2.tb.short):=rO s1.tb.sl 19 (by omega) (by omega);have hcl:cs.length=306:=by rw[hcs];exact bS _ 306
  replace hcs:Hid _:=hcs;clear hk4 z;generalize s1.short2=s2 at *;go_upto_region 10 with fail
  generalize w4.setCells b (o+623+3) cs=w5 at *;clear hsc hcl;have FF:Hid (Calls Tryz.prog 177 #[.pointer (some ⟨b,o+623+3,none⟩)] w5 fun e w'=>e = .returned (.bool s2.tb.short.full)/\w'=w5):=by
   obtain ⟨d,k1,k2,k3,k4⟩:=S5.out;exact Ck b (o+623+3) n d s2.tb.short w5 k1 k2.tb.short (by omega) ok5.out
  obtain ⟨BF,hBF⟩:∃ BF,BF=s2.tb.short.full:=⟨_,rfl⟩;rw[<- hBF] at FF HE2;replace hBF:Hid _:=hBF;go_wp2_with fail;refine FF.out.mono ?_;rintro e w6 ⟨rfl,hw6⟩;subst w6;cases BF with
  | false=>
   have HE3:Hid (SC=(s2,12)):=HE2.out;go_wp2;go_ret;rw[HE3.out];exact ⟨rfl,S5.out⟩
  | true=>
   have HE3:Hid (SC=(({ s2 with tb:={ s2.tb with told:=0 } }:St).enter 11 0,0)):=HE2.out;obtain ⟨-,-,-,y4,-,-,-,z⟩:=S5.out.tbc hn;have S6:Hid _:=S5.out.told hn 0;have FE:Hid (∀ W,ai b o n c { s2 with tb:={ s2.tb with told:=0 } } w W->Calls Tryz.prog 138 #[.pointer (some ⟨b,o,none⟩),.int .i64 ((11:Nat):Int),.int .u64 ((0:Nat):Int)] W fun e w'=>e = .returned (.tuple #[])/\ai b o n c (({ s2 with tb:={ s2.tb with told:=0 } }:St).enter 11 0) w w'):=fun W hW=>by
    obtain ⟨d,k1,k2,k3,k4⟩:=hW;refine (aX b o n 11 0 d { s2 with tb:={ s2.tb with told:=0 } } W k1 k2 hn).mono ?_;rintro e w' ⟨rfl,d',m1,m2,m3,m4⟩;exact ⟨rfl,d',m1,m2,k3.trans m3,k4.trans m4⟩
   go_wp2_with fail;refine (FE.out _ S6.out).mono ?_;rintro e w7 ⟨rfl,S7⟩;go_wp2;go_ret;rw[HE3.out];exact ⟨rfl,S7⟩
def St.mkLit (s:St):St:={ s with lit:=cw s.tb.ls s.tb.literals }
def St.mkDist (s:St):St:={ s with dist:=cw (fun i=>s.tb.ls (s.tb.literals+i)) (s.tb.told - s.tb.literals) }
def St.makeCodes (s:St):St × Nat:=
 if (s.mkLit.mkDist.lit.full || s.mkLit.mkDist.lit.lone)=false then (s.mkLit.mkDist,12)
 else if (s.mkLit.mkDist.dist.full || (s.mkLit.mkDist.dist.lone || s.mkLit.mkDist.dist.empty))=false then (s.mkLit.mkDist,12)
 else if s.tb.ls 256=0 then (s.mkLit.mkDist,12) else (s.mkLit.mkDist.enter 12 0,0)
def CsX (x:CS) (W:World) (e:Ending) (W':World):Prop:=∃ cs:List Value,e = .returned (.agg cs.toArray)/\Hid (cs=(List.range 306).map (csC x))/\cs.length=306/\Kept W W'
theorem Hq (b q N C:Nat) (f:Nat->Nat) (w:World) (hg:∀ i,i<N->w.cell? ⟨b,q+i,none⟩=some (.int .u8 (f i:Int))) (hfb:∀ i,i<N->f i<256) (h0:0<N) (h1:N<=288) (hC:N<=C):Calls Tryz.prog 176 #[.slice (some ⟨b,q,none⟩) N C] w fun e w'=>CsX (cw f N) w e w' :=
 (Hr b q N C f w hg hfb h0 h1 hC).mono (fun e w' ⟨h1,h2⟩=>⟨_,h1,rfl,bS _ 306,h2⟩)
theorem Ak (b o n:Nat) (c:Nat->Value) (s:St) (w:World) (hB:Blk w b n c) (hV:StV c o s) (hn:o+3351<=n) (hA1:257<=s.tb.literals) (hA2:s.tb.literals<=286) (ht1:s.tb.literals<s.tb.told) (ht2:s.tb.told<=s.tb.literals+30) (hls:∀ i,i<316->s.tb.ls i<256) :
  Calls Tryz.prog 169 #[.pointer (some ⟨b,o,none⟩)] w fun e w'=>e = .returned (.int .i64 (s.makeCodes.2:Int))/\ai b o n c s.makeCodes.1 w w':=by
 have S0:ai b o n c s w w:=ai.refl hB hV;obtain ⟨y0,-,-,y4,-,-,y7,z⟩:=S0.tbc hn;have hbl:=hB.lt;have HE:Hid (s.makeCodes=if (s.mkLit.mkDist.lit.full || s.mkLit.mkDist.lit.lone)=false then (s.mkLit.mkDist,12) else if (s.mkLit.mkDist.dist.full || (s.mkLit.mkDist.dist.lone || s.mkLit.mkDist.dist.empty))=false then (s.mkLit.mkDist,12) else if s.tb.ls 256=0 then (s.mkLit.mkDist,12) else (s.mkLit.mkDist.enter 12 0,0)):=rfl;have HLS:Hid (∀ i,i<316->s.tb.ls i<256):=hls;have S1:Hid (ai b o n c s w w):=S0;have e1:s.mkLit.tb=s.tb:=rfl;have e2:s.mkLit.mkDist.tb=s.tb:=rfl;have o1:mI s.mkLit.mkDist.lit:=rO _ _ (by omega) (by omega);have o2:mI s.mkLit.mkDist.dist:=rO (fun i=>s.tb.ls (s.tb.literals+i)) (s.tb.told - s.tb.literals) (by omega) (by omega);have d1:Hid (s.mkLit={ s with lit:=cw s.tb.ls s.tb.literals }):=rfl;have d2:Hid (s.mkLit.mkDist={ s.mkLit with dist:=cw (fun i=>s.tb.ls (s.tb.literals+i)) (s.tb.told - s.tb.literals) }):=rfl;generalize s.mkLit.mkDist=s2 at *;generalize s.mkLit=s1 at *;generalize s.makeCodes=SC at *;obtain ⟨A,hA⟩:∃ A,A=s.tb.literals:=⟨_,rfl⟩;obtain ⟨T,hT⟩:∃ T,T=s.tb.told:=⟨_,rfl⟩;obtain ⟨f,hf⟩:∃ f,f=s.tb.ls:=⟨_,rfl⟩;obtain ⟨M,hM⟩:∃ M,M=s.tb.told - s.tb.literals:=⟨_,rfl⟩;rw[<- hA] at hA1 hA2 ht1 ht2 y0 d1 d2;rw[<- hT] at ht1 ht2 y4 d2;rw[<- hf] at HLS HE y7 d1 d2;rw[<- hA,<- hT] at hM;rw[<- hM] at d2;have Y7:Hid (∀ W,Kept w W->∀ k,k<316->W.cell? ⟨b,o+623+328+k,none⟩=some (.int .u8 (f k:Int))):=fun W kW k hk=>(kW.cell (p:=⟨b,o+623+328+k,none⟩) hbl).trans (y7 k hk)
 have FM1:Hid (∀ W,Kept w W->Calls Tryz.prog 176 #[.slice (some ⟨b,o+623+328,none⟩) A 316] W fun e w'=>CsX (cw f A) W e w'):=fun W kW=>Hq b (o+623+328) A 316 f W (fun i hi=>Y7.out W kW i (by omega)) (fun i hi=>HLS.out i (by omega)) (by omega) (by omega) (by omega)
 have H0a:Hid (∀ W,Kept w W->W.cell? ⟨b,o+623,none⟩=some (.int .i64 (A:Int))):=fun W kW=>(kW.cell (p:=⟨b,o+623,none⟩) hbl).trans y0
 have H0b:Hid (∀ (W:World) (cs:List Value),Kept w W->cs.length=306->(W.setCells b (o+11) cs).cell? ⟨b,o+623,none⟩=some (.int .i64 (A:Int))):=fun W cs kW hc=>(World.cell?_setCells_out b cs (o+11) W ⟨b,o+623,none⟩ (fun _ _=>Or.inr (by rw[hc];show o+11+306<=o+623;omega))).trans (H0a.out W kW)
 replace hA:Hid _:=hA;replace hT:Hid _:=hT;replace hf:Hid _:=hf;have HM:Hid (M=T - A):=hM;have bM:0<M/\M<=30:=by omega
 clear hM;have a0:decide ((A:Int)<0)=false:=decide_eq_false (by omega);have a1:decide ((T:Int)<(A:Int))=false:=decide_eq_false (by omega);have a2:decide ((316:Int)<(T:Int))=false:=decide_eq_false (by omega);have a1':decide (T<A)=false:=decide_eq_false (by omega);have a2':decide (316<T)=false:=decide_eq_false (by omega);have a3:(0:Int)<=(A:Int):=by omega
 have a4:(A:Int)<=316:=by omega
 have a5:(A:Int)<=(T:Int):=by omega
 have a6:(T:Int)<=316:=by omega
 replace y7:Hid _:=y7;replace e1:Hid _:=e1;replace e2:Hid _:=e2;replace o1:Hid _:=o1;replace o2:Hid _:=o2;clear hB hV hls S0;go_enter Tryz.func169,Tryz.ntmps169;go_wp2_with fail;go_quiet (fail);have K1:Kept w (w.drewN nq):=(Kept.refl w).drewN nq;have S2:=S1.out.kept K1;generalize w.drewN nq=w1 at *;replace S2:Hid (ai b o n c s w w1):=S2;replace K1:Hid (Kept w w1):=K1;have y01:=H0a.out w1 K1.out;have hb1:b<w1.heap.size:=Nat.lt_of_lt_of_le hbl K1.out.size;clear y0 y4 z y7 S1;go_upto_region 4 with fail
 go_region_held3 (fun W=>W.cell? ⟨b,o+623,none⟩=some (.int .i64 (A:Int))) (first | exact y01 | exact H0b.out _ _ hk5 hcl | exact H0a.out _ hk5 | exact H0a.out _ (K1.out.trans ((Kept.refl _).drewN 1)) | go_keep) ((go_at_call 176;refine (FM1.out _ (K1.out.trans ((Kept.refl _).drewN 1))).mono ?_;rintro e w5 ⟨cs,rfl,hcs,hcl,hk5'⟩;have hk5:Kept w w5:=(K1.out.trans ((Kept.refl _).drewN 1)).trans hk5';have hk15:Kept w1 w5:=((Kept.refl _).drewN 1).trans hk5';have hsc5:=((S2.out.kept hk15).lit hn (cw f A) cs hcs.out).1))
 have S3:ai b o n c s1 w (w5.setCells b (o+11) cs):=by
  have q:=((S2.out.kept hk15).lit hn (cw f A) cs hcs.out).2;rw[<- d1.out] at q;exact q
 clear hsc5 hcl hk5' hk5 hk15 hcs;generalize w5.setCells b (o+11) cs=w6 at *;obtain ⟨y0,-,-,y4,-,-,y7,z⟩:=S3.tbc hn;rw[e1.out,<- hA.out] at y0;rw[e1.out,<- hT.out] at y4;rw[e1.out,<- hf.out] at y7;have hb6:b<w6.heap.size:=World.block_lt_of_cell? _ _ y0;have FM2:Hid (∀ W,Kept w6 W->Calls Tryz.prog 176 #[.slice (some ⟨b,o+623+328+A,none⟩) M (316 - A)] W fun e w'=>CsX (cw (fun i=>f (A+i)) M) W e w'):=fun W kW=>Hq b (o+623+328+A) M (316 - A) (fun i=>f (A+i)) W (fun i hi=>by
  rw[Nat.add_assoc (o+623+328)];exact (kW.cell (p:=⟨b,o+623+328+(A+i),none⟩) hb6).trans (y7 (A+i) (by omega))) (fun i hi=>HLS.out (A+i) (by omega)) bM.1 (by omega) (by omega)
 rw[HM.out] at FM2;have H1a:Hid (∀ W,Kept w6 W->W.cell? ⟨b,o+623,none⟩=some (.int .i64 (A:Int))/\W.cell? ⟨b,o+623+644,none⟩=some (.int .i64 (T:Int))):=fun W kW=>⟨(kW.cell (p:=⟨b,o+623,none⟩) hb6).trans y0,(kW.cell (p:=⟨b,o+623+644,none⟩) hb6).trans y4⟩
 have H1b:Hid (∀ (W:World) (cs:List Value),Kept w6 W->cs.length=306->(W.setCells b (o+317) cs).cell? ⟨b,o+623,none⟩=some (.int .i64 (A:Int))/\(W.setCells b (o+317) cs).cell? ⟨b,o+623+644,none⟩=some (.int .i64 (T:Int))):=fun W cs kW hc=>⟨(World.cell?_setCells_out b cs (o+317) W ⟨b,o+623,none⟩ (fun _ _=>Or.inr (by rw[hc];show o+317+306<=o+623;omega))).trans (H1a.out W kW).1,(World.cell?_setCells_out b cs (o+317) W ⟨b,o+623+644,none⟩ (fun _ _=>Or.inr (by rw[hc];show o+317+306<=o+623+644;omega))).trans (H1a.out W kW).2⟩
 replace S3:Hid (ai b o n c s1 w w6):=S3;have yy:w6.cell? ⟨b,o+623,none⟩=some (.int .i64 (A:Int))/\w6.cell? ⟨b,o+623+644,none⟩=some (.int .i64 (T:Int)):=⟨y0,y4⟩;replace yy:Hid _:=yy;clear y7 z S2 H0a H0b y01 FM1;have a7:¬ (316=A):=by omega
 go_upto_region 5 with fail
 go_region_held3 (fun W=>W.cell? ⟨b,o+623,none⟩=some (.int .i64 (A:Int))/\W.cell? ⟨b,o+623+644,none⟩=some (.int .i64 (T:Int))) (first | exact yy.out | exact H1b.out _ _ hk7 hcl | exact H1a.out _ hk7 | exact H1a.out _ ((Kept.refl _).drewN 1) | go_keep) ((go_at_call 176;refine (FM2.out _ ((Kept.refl _).drewN 1)).mono ?_;rintro e w7 ⟨cs2,rfl,hcs,hcl,hk7'⟩;have hk7:Kept w6 w7:=((Kept.refl _).drewN 1).trans hk7';have hsc7:=((S3.out.kept hk7).dist hn (cw (fun i=>f (A+i)) (T - A)) cs2 hcs.out).1))
 have S4:ai b o n c s2 w (w7.setCells b (o+317) cs2):=by
  have q:=((S3.out.kept hk7).dist hn (cw (fun i=>f (A+i)) (T - A)) cs2 hcs.out).2;rw[<- HM.out,<- d2.out] at q;exact q
 clear hsc7 hcl hk7' hk7 hcs;generalize w7.setCells b (o+317) cs2=w8 at *;replace S4:Hid (ai b o n c s2 w w8):=S4;have FU1:Hid (Calls Tryz.prog 177 #[.pointer (some ⟨b,o+11,none⟩)] w8 fun e w'=>e = .returned (.bool s2.lit.full)/\w'=w8):=by
  obtain ⟨d,k1,k2,k3,k4⟩:=S4.out;exact Ck b (o+11) n d s2.lit w8 k1 k2.lit (by omega) o1.out
 have FL1:Hid (Calls Tryz.prog 178 #[.pointer (some ⟨b,o+11,none⟩)] w8 fun e w'=>e = .returned (.bool s2.lit.lone)/\w'=w8):=by
  obtain ⟨d,k1,k2,k3,k4⟩:=S4.out;exact Ht b (o+11) n d s2.lit w8 k1 k2.lit (by omega)
 have FU2:Hid (Calls Tryz.prog 177 #[.pointer (some ⟨b,o+317,none⟩)] w8 fun e w'=>e = .returned (.bool s2.dist.full)/\w'=w8):=by
  obtain ⟨d,k1,k2,k3,k4⟩:=S4.out;exact Ck b (o+317) n d s2.dist w8 k1 k2.dist (by omega) o2.out
 have FL2:Hid (Calls Tryz.prog 178 #[.pointer (some ⟨b,o+317,none⟩)] w8 fun e w'=>e = .returned (.bool s2.dist.lone)/\w'=w8):=by
  obtain ⟨d,k1,k2,k3,k4⟩:=S4.out;exact Ht b (o+317) n d s2.dist w8 k1 k2.dist (by omega)
 have FE2:Hid (Calls Tryz.prog 179 #[.pointer (some ⟨b,o+317,none⟩)] w8 fun e w'=>e = .returned (.bool s2.dist.empty)/\w'=w8):=by
  obtain ⟨d,k1,k2,k3,k4⟩:=S4.out;exact Ku b (o+317) n d s2.dist w8 k1 k2.dist (by omega)
 have FN:Hid (Calls Tryz.prog 138 #[.pointer (some ⟨b,o,none⟩),.int .i64 ((12:Nat):Int),.int .u64 ((0:Nat):Int)] w8 fun e w'=>e = .returned (.tuple #[])/\ai b o n c (s2.enter 12 0) w w'):=by
  obtain ⟨d,k1,k2,k3,k4⟩:=S4.out;refine (aX b o n 12 0 d s2 w8 k1 k2 hn).mono ?_;rintro e w' ⟨rfl,d',m1,m2,m3,m4⟩;exact ⟨rfl,d',m1,m2,k3.trans m3,k4.trans m4⟩
 obtain ⟨-,-,-,-,-,-,y7,-⟩:=S4.out.tbc hn;rw[e2.out,<- hf.out] at y7;have y256:=y7 256 (by omega);clear y7 S3 yy H1a H1b FM2 y0 y4 a7;generalize s2.lit.full=p1 at *;generalize s2.lit.lone=p2 at *;generalize s2.dist.full=p3 at *;generalize s2.dist.lone=p4 at *;generalize s2.dist.empty=p5 at *;generalize hz:f 256=Z at *;replace hz:Hid _:=hz;cases p1 with
 | true=>
  go_wp2_with fail;refine FU1.out.mono ?_;rintro e w9 ⟨rfl,hw9⟩;subst w9;cases p3 with
  | true=>
   go_wp2_with fail;refine FU2.out.mono ?_;rintro e w9 ⟨rfl,hw9⟩;subst w9;by_cases hZ:Z=0
   ·have hZ':((Z:Int) == 0)=true:=by rw[beq_iff_eq];omega
    have HE2:Hid (SC=(s2,12)):=HE.out.trans (if_pos hZ);replace hZ:Hid _:=hZ;go_wp2;go_ret;rw[HE2.out];exact ⟨rfl,S4.out⟩
   ·have hZ':((Z:Int) == 0)=false:=by rw[beq_eq_false_iff_ne];omega
    have HE2:Hid (SC=(s2.enter 12 0,0)):=HE.out.trans (if_neg hZ);replace hZ:Hid _:=hZ;go_wp2_with fail;refine FN.out.mono ?_;rintro e w9 ⟨rfl,S9⟩;go_wp2;go_ret;rw[HE2.out];exact ⟨rfl,S9⟩
  | false=>
   go_wp2_with fail;refine FU2.out.mono ?_;rintro e w9 ⟨rfl,hw9⟩;subst w9;cases p4 with
   | true=>
    go_wp2_with fail;refine FL2.out.mono ?_;rintro e w9 ⟨rfl,hw9⟩;subst w9;by_cases hZ:Z=0
    ·have hZ':((Z:Int) == 0)=true:=by rw[beq_iff_eq];omega
     have HE2:Hid (SC=(s2,12)):=HE.out.trans (if_pos hZ);replace hZ:Hid _:=hZ;go_wp2;go_ret;rw[HE2.out];exact ⟨rfl,S4.out⟩
    ·have hZ':((Z:Int) == 0)=false:=by rw[beq_eq_false_iff_ne];omega
     have HE2:Hid (SC=(s2.enter 12 0,0)):=HE.out.trans (if_neg hZ);replace hZ:Hid _:=hZ;go_wp2_with fail;refine FN.out.mono ?_;rintro e w9 ⟨rfl,S9⟩;go_wp2;go_ret;rw[HE2.out];exact ⟨rfl,S9⟩
   | false=>
    go_wp2_with fail;refine FL2.out.mono ?_;rintro e w9 ⟨rfl,hw9⟩;subst w9;cases p5 with
    | true=>
     go_wp2_with fail;refine FE2.out.mono ?_;rintro e w9 ⟨rfl,hw9⟩;subst w9;by_cases hZ:Z=0
     ·have hZ':((Z:Int) == 0)=true:=by rw[beq_iff_eq];omega
      have HE2:Hid (SC=(s2,12)):=HE.out.trans (if_pos hZ);replace hZ:Hid _:=hZ;go_wp2;go_ret;rw[HE2.out];exact ⟨rfl,S4.out⟩
     ·have hZ':((Z:Int) == 0)=false:=by rw[beq_eq_false_iff_ne];omega
      have HE2:Hid (SC=(s2.enter 12 0,0)):=HE.out.trans (if_neg hZ);replace hZ:Hid _:=hZ;go_wp2_with fail;refine FN.out.mono ?_;rintro e w9 ⟨rfl,S9⟩;go_wp2;go_ret;rw[HE2.out];exact ⟨rfl,S9⟩
    | false=>
     go_wp2_with fail;refine FE2.out.mono ?_;rintro e w9 ⟨rfl,hw9⟩;subst w9;have HE2:Hid (SC=(s2,12)):=HE.out;go_wp2;go_ret;rw[HE2.out];exact ⟨rfl,S4.out⟩
 | false=>
  go_wp2_with fail;refine FU1.out.mono ?_;rintro e w9 ⟨rfl,hw9⟩;subst w9;cases p2 with
  | true=>
   go_wp2_with fail;refine FL1.out.mono ?_;rintro e w9 ⟨rfl,hw9⟩;subst w9;cases p3 with
   | true=>
    go_wp2_with fail;refine FU2.out.mono ?_;rintro e w9 ⟨rfl,hw9⟩;subst w9;by_cases hZ:Z=0
    ·have hZ':((Z:Int) == 0)=true:=by rw[beq_iff_eq];omega
     have HE2:Hid (SC=(s2,12)):=HE.out.trans (if_pos hZ);replace hZ:Hid _:=hZ;go_wp2;go_ret;rw[HE2.out];exact ⟨rfl,S4.out⟩
    ·have hZ':((Z:Int) == 0)=false:=by rw[beq_eq_false_iff_ne];omega
     have HE2:Hid (SC=(s2.enter 12 0,0)):=HE.out.trans (if_neg hZ);replace hZ:Hid _:=hZ;go_wp2_with fail;refine FN.out.mono ?_;rintro e w9 ⟨rfl,S9⟩;go_wp2;go_ret;rw[HE2.out];exact ⟨rfl,S9⟩
   | false=>
    go_wp2_with fail;refine FU2.out.mono ?_;rintro e w9 ⟨rfl,hw9⟩;subst w9;cases p4 with
    | true=>
     go_wp2_with fail;refine FL2.out.mono ?_;rintro e w9 ⟨rfl,hw9⟩;subst w9;by_cases hZ:Z=0
     ·have hZ':((Z:Int) == 0)=true:=by rw[beq_iff_eq];omega
      have HE2:Hid (SC=(s2,12)):=HE.out.trans (if_pos hZ);replace hZ:Hid _:=hZ;go_wp2;go_ret;rw[HE2.out];exact ⟨rfl,S4.out⟩
     ·have hZ':((Z:Int) == 0)=false:=by rw[beq_eq_false_iff_ne];omega
      have HE2:Hid (SC=(s2.enter 12 0,0)):=HE.out.trans (if_neg hZ);replace hZ:Hid _:=hZ;go_wp2_with fail;refine FN.out.mono ?_;rintro e w9 ⟨rfl,S9⟩;go_wp2;go_ret;rw[HE2.out];exact ⟨rfl,S9⟩
    | false=>
     go_wp2_with fail;refine FL2.out.mono ?_;rintro e w9 ⟨rfl,hw9⟩;subst w9;cases p5 with
     | true=>
      go_wp2_with fail;refine FE2.out.mono ?_;rintro e w9 ⟨rfl,hw9⟩;subst w9;by_cases hZ:Z=0
      ·have hZ':((Z:Int) == 0)=true:=by rw[beq_iff_eq];omega
       have HE2:Hid (SC=(s2,12)):=HE.out.trans (if_pos hZ);replace hZ:Hid _:=hZ;go_wp2;go_ret;rw[HE2.out];exact ⟨rfl,S4.out⟩
      ·have hZ':((Z:Int) == 0)=false:=by rw[beq_eq_false_iff_ne];omega
       have HE2:Hid (SC=(s2.enter 12 0,0)):=HE.out.trans (if_neg hZ);replace hZ:Hid _:=hZ;go_wp2_with fail;refine FN.out.mono ?_;rintro e w9 ⟨rfl,S9⟩;go_wp2;go_ret;rw[HE2.out];exact ⟨rfl,S9⟩
     | false=>
      go_wp2_with fail;refine FE2.out.mono ?_;rintro e w9 ⟨rfl,hw9⟩;subst w9;have HE2:Hid (SC=(s2,12)):=HE.out;go_wp2;go_ret;rw[HE2.out];exact ⟨rfl,S4.out⟩
  | false=>
   go_wp2_with fail;refine FL1.out.mono ?_;rintro e w9 ⟨rfl,hw9⟩;subst w9;have HE2:Hid (SC=(s2,12)):=HE.out;go_wp2;go_ret;rw[HE2.out];exact ⟨rfl,S4.out⟩
structure od (t:Tb):Prop where
 l1:257<=t.literals
 l2:t.literals<=286
 d1:1<=t.distances
 d2:t.distances<=30
 td:t.told<=t.literals+t.distances
 ls:∀ i,t.ls i<256
def St.lay1 (s:St) (x:Nat):St:={ s with tb:={ s.tb with ls:=upd s.tb.ls s.tb.told x,told:=s.tb.told+1 } }
def St.layN:Nat->Nat->St->St
 | 0,_,s=>s
 | k+1,x,s=>St.layN k x (s.lay1 x)
def St.lay (s:St) (x k:Nat):St × Nat:=
 if s.tb.literals+s.tb.distances<s.tb.told+k then (s,12)
 else if (St.layN k x s).tb.told<s.tb.literals+s.tb.distances then ((St.layN k x s).enter 11 0,0)
 else (St.layN k x s).makeCodes
theorem od.lay1 {s:St} {x:Nat} (h:od s.tb) (hx:x<256) (hr:s.tb.told+1<=s.tb.literals+s.tb.distances):od (s.lay1 x).tb:=⟨h.l1,h.l2,h.d1,h.d2,hr,fun i=>by
 show upd s.tb.ls s.tb.told x i<256
 by_cases e:i=s.tb.told
 ·rw[e,upd_same];exact hx
 ·rw[upd_ne _ _ _ e];exact h.ls i⟩
theorem En (b o n x k:Nat) (c:Nat->Value) (s:St) (w:World) (hB:Blk w b n c) (hV:StV c o s) (hn:o+3351<=n) (hx:x<256) (hk:k<=1000) (ht:od s.tb) :
  Calls Tryz.prog 153 #[.pointer (some ⟨b,o,none⟩),.int .u8 (x:Int),.int .i64 (k:Int)] w fun e w'=>e = .returned (.int .i64 ((s.lay x k).2:Int))/\ai b o n c (s.lay x k).1 w w':=by
 have S0:ai b o n c s w w:=ai.refl hB hV;obtain ⟨y0,y1,-,y4,-,-,-,z⟩:=S0.tbc hn;have HE:Hid (s.lay x k=if s.tb.literals+s.tb.distances<s.tb.told+k then (s,12) else if (St.layN k x s).tb.told<s.tb.literals+s.tb.distances then ((St.layN k x s).enter 11 0,0) else (St.layN k x s).makeCodes):=rfl;have S1:Hid (ai b o n c s w w):=S0;have HT:Hid (od s.tb):=ht;have HL:Hid (St.layN k x s=St.layN k x s):=rfl;have b1:=ht.l1;have b2:=ht.l2;have b3:=ht.d1;have b4:=ht.d2;have b5:=ht.td;obtain ⟨A,hA⟩:∃ A,A=s.tb.literals:=⟨_,rfl⟩;obtain ⟨Q,hQ⟩:∃ Q,Q=s.tb.distances:=⟨_,rfl⟩;obtain ⟨T,hT⟩:∃ T,T=s.tb.told:=⟨_,rfl⟩;obtain ⟨SL,hSL⟩:∃ SL,SL=St.layN k x s:=⟨_,rfl⟩;rw[<- hSL] at HE;rw[<- hA,<- hQ,<- hT] at HE b5;rw[<- hA] at b1 b2 y0;rw[<- hQ] at b3 b4 y1;rw[<- hT] at y4;generalize s.lay x k=SC at *;obtain ⟨AQ,hAQ⟩:∃ AQ,AQ=A+Q:=⟨_,rfl⟩;have eAQ:(A:Int)+(Q:Int)=(AQ:Int):=by omega
 obtain ⟨Tk,hTk⟩:∃ Tk,Tk=T+k:=⟨_,rfl⟩;have eTk:(T:Int)+(k:Int)=(Tk:Int):=by omega
 rw[<- hAQ,<- hTk] at HE;rw[<- hAQ] at b5;have bAQ:AQ<=316/\A<AQ/\AQ<=A+30:=by omega
 have bTk:Tk<=2000:=by omega
 replace hSL:Hid _:=hSL;replace hA:Hid _:=hA;replace hQ:Hid _:=hQ;replace hT:Hid _:=hT;replace hAQ:Hid _:=hAQ;clear hB hV S0 HL ht;go_enter Tryz.func153,Tryz.ntmps153;go_wp2_with fail;go_quiet (fail);have K1:Kept w (w.drewN nq):=(Kept.refl w).drewN nq;have S2:=S1.out.kept K1;have y41:=(K1.cell (p:=⟨b,o+623+644,none⟩) (World.block_lt_of_cell? _ _ y4)).trans y4;generalize w.drewN nq=w1 at *;replace S2:Hid (ai b o n c s w w1):=S2;clear y0 y1 y4 z K1 S1;by_cases hov:AQ<Tk
 ·have hov':(AQ:Int)<(Tk:Int):=by omega
  have HE2:Hid (SC=(s,12)):=HE.out.trans (if_pos hov);replace hTk:Hid _:=hTk;clear hov;go_wp2;go_ret;rw[HE2.out];exact ⟨rfl,S2.out⟩
 have hov':¬ (AQ:Int)<(Tk:Int):=by omega
 have HE2:Hid (SC=if SL.tb.told<AQ then (SL.enter 11 0,0) else SL.makeCodes):=HE.out.trans (if_neg hov);have hfit:T+k<=AQ:=by omega
 replace hTk:Hid _:=hTk;clear hov HE;go_wp2_with fail;go_loopg [9] k (fun m v W=>∃ (i:Nat) (s':St),m=k - i/\i<=k/\v = .int .i64 (i:Int)/\ai b o n c s' w W/\od s'.tb/\s'.tb.literals=A/\s'.tb.distances=Q/\s'.tb.told=T+i/\SL=St.layN (k - i) x s')
 case atStart=>exact ⟨0,s,by omega,by omega,rfl,S2.out,HT.out,hA.out.symm,hQ.out.symm,by rw[hT.out,Nat.add_zero],hSL.out⟩
 case round=>
  obtain ⟨i,s',hgk,hi,rfl,hst,htb,hl,hd,htd,hsl⟩:=hrel;replace hgk:Hid _:=hgk;clear y41 S2;obtain ⟨-,-,-,y4,-,-,y7,z⟩:=hst.tbc hn;rw[htd] at y4;obtain ⟨J,hJ⟩:∃ J,J=T+i:=⟨_,rfl⟩;rw[<- hJ] at y4 htd;have S3:Hid (ai b o n c s' w wr):=hst;have HB:Hid (od s'.tb):=htb;have HLt:Hid (s'.tb.literals=A):=hl;have HDt:Hid (s'.tb.distances=Q):=hd;have HTd:Hid (s'.tb.told=J):=htd;clear hst htb hl hd htd;by_cases hlt:i<k
  ·have hlt':(i:Int)<(k:Int):=by omega
   have hJ1:(J:Int)<316:=by omega
   have hJ0:(0:Int)<=(J:Int):=by omega
   have hsl':SL=St.layN (k - (i+1)) x (s'.lay1 x):=by rw[hsl,show k - i=(k - (i+1))+1 by omega];rfl
   replace hsl':Hid _:=hsl';obtain ⟨J1,hJ1'⟩:∃ J1,J1=J+1:=⟨_,rfl⟩;have eJ:(J:Int)+1=(J1:Int):=by omega
   have y8:=y7 J (by omega);have S4:Hid (ai b o n c (s'.lay1 x) w ((wr.setCell ⟨b,o+623+328+J,none⟩ (.int .u8 (x:Int))).drew.setCell ⟨b,o+623+644,none⟩ (.int .i64 (J1:Int)))):=by
    have:=((S3.out.ls hn J x (by omega)).kept ((Kept.refl _).drewN 1)).told hn J1
    have e:s'.lay1 x={ s' with tb:={ s'.tb with ls:=upd s'.tb.ls J x,told:=J1 } }:=by unfold St.lay1;rw[HTd.out,<- hJ1']
    show ai b o n c (s'.lay1 x) w _
    rw[e];exact this
   have T4:Hid (od (s'.lay1 x).tb):=HB.out.lay1 hx (by rw[HTd.out,HLt.out,HDt.out];have:=hAQ.out;omega);have y4':(wr.setCell ⟨b,o+623+328+J,none⟩ (.int .u8 (x:Int))).drew.cell? ⟨b,o+623+644,none⟩=some (.int .i64 (J:Int)):=(aa _ _ _ _ _ (by omega)).trans y4;have z1:∀ k,(wr.setCell ⟨b,o+623+328+J,none⟩ (.int .u8 (x:Int))).drew.frozen? ⟨b,k,none⟩=false:=fun k=>(World.frozen?_setCell _ _ _ _).trans (z k)
   have HTd2:Hid ((s'.lay1 x).tb.told=T+(i+1)):=by
    show s'.tb.told+1=_
    rw[HTd.out,hJ];omega
   replace hJ:Hid _:=hJ;replace hJ1':Hid _:=hJ1';replace y7:Hid _:=y7;go_wp2_with fail;go_region_held3 (fun W=>W.cell? ⟨b,o+623+644,none⟩=some (.int .i64 (J:Int))) (first | exact y4 | exact (aa _ _ _ _ _ (by omega)).trans y4 | go_keep) (fail)
   generalize (wr.setCell ⟨b,o+623+328+J,none⟩ (.int .u8 (x:Int))).drew=w4 at *;clear y4 y8 z;go_wp2;go_roundg (k - (i+1))
   case measure=>rw[hgk.out];omega
   case rel=>exact ⟨i+1,s'.lay1 x,rfl,by omega,by go_num,S4.out,T4.out,HLt.out,HDt.out,HTd2.out,hsl'.out⟩
  ·have hlt':¬ (i:Int)<(k:Int):=by omega
   have hik:i=k:=by omega
   rw[hik,Nat.sub_self] at hsl;have hsl2:SL=s':=hsl;clear hsl;by_cases hfin:J<AQ
   ·have hfin':(J:Int)<(AQ:Int):=by omega
    have HE3:Hid (SC=(s'.enter 11 0,0)):=by
     show SC=_
     rw[HE2.out,hsl2,if_pos (by rw[HTd.out];exact hfin)]
    have FE:Hid (Calls Tryz.prog 138 #[.pointer (some ⟨b,o,none⟩),.int .i64 ((11:Nat):Int),.int .u64 ((0:Nat):Int)] wr fun e w'=>e = .returned (.tuple #[])/\ai b o n c (s'.enter 11 0) w w'):=by
     obtain ⟨d,k1,k2,k3,k4⟩:=S3.out;refine (aX b o n 11 0 d s' wr k1 k2 hn).mono ?_;rintro e w' ⟨rfl,d',m1,m2,m3,m4⟩;exact ⟨rfl,d',m1,m2,k3.trans m3,k4.trans m4⟩
    replace hJ:Hid _:=hJ;replace hik:Hid _:=hik;replace hsl2:Hid _:=hsl2;replace y7:Hid _:=y7;clear hfin;go_wp2_with fail;refine FE.out.mono ?_;rintro e w4 ⟨rfl,S4⟩;go_wp2;go_ret;rw[HE3.out];exact ⟨rfl,S4⟩
   ·have hfin':¬ (J:Int)<(AQ:Int):=by omega
    have HE3:Hid (SC=s'.makeCodes):=by
     show SC=_
     rw[HE2.out,hsl2,if_neg (by rw[HTd.out];exact hfin)]
    have FE:Hid (Calls Tryz.prog 169 #[.pointer (some ⟨b,o,none⟩)] wr fun e w'=>e = .returned (.int .i64 (s'.makeCodes.2:Int))/\ai b o n c s'.makeCodes.1 w w'):=by
     obtain ⟨d,k1,k2,k3,k4⟩:=S3.out;have q1:=HTd.out;have q2:=HLt.out;refine (Ak b o n d s' wr k1 k2 hn (by omega) (by omega) (by omega) (by omega) (fun i _=>HB.out.ls i)).mono ?_;rintro e w' ⟨rfl,d',m1,m2,m3,m4⟩;exact ⟨rfl,d',m1,m2,k3.trans m3,k4.trans m4⟩
    generalize s'.makeCodes=MC at *;replace hJ:Hid _:=hJ;replace hik:Hid _:=hik;replace hsl2:Hid _:=hsl2;replace y7:Hid _:=y7;clear hfin;go_wp2_with fail;refine FE.out.mono ?_;rintro e w4 ⟨rfl,S4⟩;go_wp2;go_ret;rw[HE3.out];exact ⟨rfl,S4⟩
