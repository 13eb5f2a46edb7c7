import Derived.Test.YthniahejjamhgaaGreatDoorRoS1
set_option maxRecDepth 100000
set_option maxHeartbeats 6400000
namespace Go.Proofs.YthniahejjamhgaaGreatDoor
open Go.RowKit Px
set_option linter.unusedSimpArgs false
set_option linter.unusedVariables false
def SRStep (b o n:Nat) (c:Nat->Value) (s':St) (r':Rw) (w w':World):Prop:=∃ d,Blk w' b n d/\StV d o s'/\RwV d (o+3351) r'/\FrC b o (o+4900) c d/\Fr1 b w w'
theorem SRStep.of_st {b o n:Nat} {c:Nat->Value} {s':St} {r:Rw} {w w':World} (hR:RwV c (o+3351) r) (h:StStep b o n c s' w w'):SRStep b o n c s' r w w':=by
 obtain ⟨d,h1,h2,h3,h4⟩:=h;exact ⟨d,h1,h2,hR.congr (fun i _ _=>h3.out i (by omega)),h3.mono (by omega) (by omega),h4⟩
theorem SRStep.of_rw {b o n:Nat} {c:Nat->Value} {s:St} {r':Rw} {w w':World} (hS:StV c o s) (h:RwStep b (o+3351) n c r' w w'):SRStep b o n c s r' w w':=by
 obtain ⟨d,h1,h2,h3,h4⟩:=h;exact ⟨d,h1,hS.congr (fun i _ _=>h3.out i (by omega)),h2,h3.mono (by omega) (by omega),h4⟩
theorem SRStep.next {b o n:Nat} {c d:Nat->Value} {s:St} {r:Rw} {w w1 w':World} (hC:FrC b o (o+4900) c d) (hF:Fr1 b w w1) (k:SRStep b o n d s r w1 w'):SRStep b o n c s r w w':=by
 obtain ⟨e,h1,h2,h3,h4,h5⟩:=k;exact ⟨e,h1,h2,h3,hC.trans h4,hF.trans h5⟩
structure RwGood (r:Rw):Prop where
 in':RwIn r
 tk:r.taken<=128
 geo:wholeP r=false->RwGeo r
def St.give (s:St) (x:Nat):St:={ s with hist:=upd s.hist s.count x,count:=s.count+1,sum:=adl s.sum x }
def giveP (s:St) (r:Rw) (x:Nat):St × Rw × Nat:=
 if (r.take x).2=0 then (if 2078<=s.count then (s,(r.take x).1,17) else (s.give x,(r.take x).1,0)) else (s,(r.take x).1,(r.take x).2)
theorem give_x (b o n x:Nat) (c:Nat->Value) (s:St) (r:Rw) (w:World) (hB:Blk w b n c) (hS:StV c o s) (hR:RwV c (o+3351) r) (hn:o+4900<=n) (hk:RwGood r) (hG:GrdAt w) (hb:b≠0) (hx:x<256) (hs:s.sum<4294967296) :
  Calls Tryz.prog 191 #[.pointer (some ⟨b,o,none⟩),.int .u8 (x:Int),.pointer (some ⟨b,o+3351,none⟩)] w fun e w'=>e = .returned (.int .i64 ((giveP s r x).2.2:Int))/\SRStep b o n c (giveP s r x).1 (giveP s r x).2.1 w w':=by
 have FT:Hid (Calls Tryz.prog 204 #[.pointer (some ⟨b,o+3351,none⟩),.int .u8 (x:Int)] w fun e w'=>e = .returned (.int .i64 ((r.take x).2:Int))/\RwStep b (o+3351) n c (r.take x).1 w w'):=rtake_x b (o+3351) n x c r w hB hR (by omega) hk.in' hk.tk hk.geo hG hb hx;have HS:Hid (StV c o s):=hS;have HE:Hid (giveP s r x=if (r.take x).2=0 then (if 2078<=s.count then (s,(r.take x).1,17) else (s.give x,(r.take x).1,0)) else (s,(r.take x).1,(r.take x).2)):=rfl;clear hB hS hR hG hk;obtain ⟨E,hE⟩:∃ E,E=(r.take x).2:=⟨_,rfl⟩;obtain ⟨R,hR⟩:∃ R,R=(r.take x).1:=⟨_,rfl⟩;rw[<- hE,<- hR] at FT HE;clear hE hR;go_enter Tryz.func191,Tryz.ntmps191;go_wp2_with fail;refine FT.out.mono ?_;rintro e w1 ⟨rfl,hst⟩;obtain ⟨d,hB1,hS1,hR1,hC1,hF1⟩:=SRStep.of_rw HS.out hst;have B1:Hid (Blk w1 b n d):=hB1;have S1:Hid (StV d o s):=hS1;have R1:Hid (RwV d (o+3351) R):=hR1;have C1:Hid (FrC b o (o+4900) c d):=hC1;have F1:Hid (Fr1 b w w1):=hF1;clear hB1 hS1 hR1 hC1 hF1 hst FT;by_cases hE:E=0
 ·have hE':((E:Int) != 0)=false:=by rw[bne_eq_false_iff_eq];omega
  have k15:=B1.out.at (i:=o+3349) (by omega) S1.out.count;have k16:=B1.out.at (i:=o+3350) (by omega) S1.out.sum;have z:=B1.out.fz;by_cases hc:2078<=s.count
  ·have hc':(2078:Int)<=(s.count:Int):=by omega
   have HE2:Hid (giveP s r x=(s,R,17)):=by show giveP s r x=_;rw[HE.out,if_pos hE,if_pos hc]
   replace hE:Hid _:=hE;go_wp2_with fail;go_ret;rw[HE2.out];exact ⟨rfl,d,B1.out,S1.out,R1.out,C1.out,F1.out⟩
  ·have hc':¬ (2078:Int)<=(s.count:Int):=by omega
   have HE2:Hid (giveP s r x=(s.give x,R,0)):=by show giveP s r x=_;rw[HE.out,if_pos hE,if_neg hc]
   replace hE:Hid _:=hE;have i0:(0:Int)<=(s.count:Int):=by omega
   have i1:(s.count:Int)<2078:=by omega
   have kh:=B1.out.at (i:=o+1271+s.count) (by omega) (S1.out.hist s.count (by omega));have zh:=z (o+1271+s.count);obtain ⟨N,hN⟩:∃ N,N=s.count+1:=⟨_,rfl⟩;have eN:(s.count:Int)+1=(N:Int):=by omega
   have HN:Hid (N=s.count+1):=hN;clear hN HE;have FA:Hid (∀ W,Calls Tryz.prog 106 #[.int .u32 (s.sum:Int),.int .u8 (x:Int)] W fun e w'=>e = .returned (.int .u32 (adl s.sum x:Int))/\w'=W):=fun W=>adler_x s.sum x W hs hx
   go_wp2_with fail;go_region_held3 (fun W=>W.cell? ⟨b,o+3349,none⟩=some (.int .i64 (s.count:Int))) (first | exact k15 | exact (cell_set_other _ _ _ _ _ (by omega)).trans k15 | go_keep) (fail)
   go_wp2_with fail;refine (FA.out _).mono ?_;rintro e w2 ⟨rfl,hw2⟩;subst w2;go_wp2_with fail;go_ret;rw[HE2.out];refine ⟨rfl,_,(((B1.out.set (k:=o+1271+s.count) (by omega) _).set (k:=o+3349) (by omega) _).set (k:=o+3350) (by omega) _).kept ((Kept.refl _).drewN 1),?_,?_,?_,Fr1.drewN (Fr1.set (Fr1.set (Fr1.set F1.out _ _) _ _) _ _) 1⟩
   ·have:=((S1.out.set_hist s.count x (by omega)).set_count N).set_sum (adl s.sum x)
    rw[show s.give x={ ({ ({ s with hist:=upd s.hist s.count x }:St) with count:=N }:St) with sum:=adl s.sum x } from by rw[HN.out];rfl];exact this
   ·exact R1.out.congr (fun i h1 h2=>by rw[upd_ne _ _ _ (by omega),upd_ne _ _ _ (by omega),upd_ne _ _ _ (by omega)])
   ·exact ((C1.out.trans (FrC.upd _ (by omega) (by omega))).trans (FrC.upd _ (by omega) (by omega))).trans (FrC.upd _ (by omega) (by omega))
 ·have hE':((E:Int) != 0)=true:=by rw[bne_iff_ne];omega
  have HE2:Hid (giveP s r x=(s,R,E)):=by show giveP s r x=_;rw[HE.out,if_neg hE]
  go_wp2_with fail;go_ret;rw[HE2.out];exact ⟨rfl,d,B1.out,S1.out,R1.out,C1.out,F1.out⟩
def St.oneLess (s:St):St:=if s.left - 1=0 then ({ s with left:=s.left - 1 }:St).endBlock else ({ s with left:=s.left - 1 }:St).enter 3 8
def storedP (s:St) (r:Rw) (x:Nat):St × Rw × Nat:=if (giveP s r x).2.2=0 then ((giveP s r x).1.oneLess,(giveP s r x).2.1,0) else giveP s r x
theorem giveP_left (s:St) (r:Rw) (x:Nat):(giveP s r x).1.left=s.left:=by
 unfold giveP;split
 ·split
  ·rfl
  ·rfl
 ·rfl
theorem takeStored_x (b o n x:Nat) (c:Nat->Value) (s:St) (r:Rw) (w:World) (hB:Blk w b n c) (hS:StV c o s) (hR:RwV c (o+3351) r) (hn:o+4900<=n) (hk:RwGood r) (hG:GrdAt w) (hb:b≠0) (hx:x<256) (hs:s.sum<4294967296) (hl:1<=s.left) (hl2:s.left<=65535) :
  Calls Tryz.prog 196 #[.pointer (some ⟨b,o,none⟩),.int .u8 (x:Int),.pointer (some ⟨b,o+3351,none⟩)] w fun e w'=>e = .returned (.int .i64 ((storedP s r x).2.2:Int))/\SRStep b o n c (storedP s r x).1 (storedP s r x).2.1 w w':=by
 have FG:Hid (Calls Tryz.prog 191 #[.pointer (some ⟨b,o,none⟩),.int .u8 (x:Int),.pointer (some ⟨b,o+3351,none⟩)] w fun e w'=>e = .returned (.int .i64 ((giveP s r x).2.2:Int))/\SRStep b o n c (giveP s r x).1 (giveP s r x).2.1 w w'):=give_x b o n x c s r w hB hS hR hn hk hG hb hx hs;have HE:Hid (storedP s r x=if (giveP s r x).2.2=0 then ((giveP s r x).1.oneLess,(giveP s r x).2.1,0) else giveP s r x):=rfl;have hgl:=giveP_left s r x;clear hB hS hR hk hG;obtain ⟨E,hE⟩:∃ E,E=(giveP s r x).2.2:=⟨_,rfl⟩;obtain ⟨R,hR⟩:∃ R,R=(giveP s r x).2.1:=⟨_,rfl⟩;obtain ⟨S,hS⟩:∃ S,S=(giveP s r x).1:=⟨_,rfl⟩;have hgP:giveP s r x=(S,R,E):=by rw[hE,hR,hS]
 rw[<- hE,<- hR,<- hS] at FG HE;rw[<- hS] at hgl;rw[hgP] at HE;clear hE hR hS hgP;go_enter Tryz.func196,Tryz.ntmps196;go_wp2_with fail;refine FG.out.mono ?_;rintro e w1 ⟨rfl,d,hB1,hS1,hR1,hC1,hF1⟩;have B1:Hid (Blk w1 b n d):=hB1;have S1:Hid (StV d o S):=hS1;have R1:Hid (RwV d (o+3351) R):=hR1;have C1:Hid (FrC b o (o+4900) c d):=hC1;have F1:Hid (Fr1 b w w1):=hF1;clear hB1 hS1 hR1 hC1 hF1 FG;by_cases hE:E=0
 ·have hE':((E:Int) != 0)=false:=by rw[bne_eq_false_iff_eq];omega
  have HE2:Hid (storedP s r x=(S.oneLess,R,0)):=by show storedP s r x=_;rw[HE.out,if_pos hE]
  replace hE:Hid _:=hE;have k10:=B1.out.at (i:=o+10) (by omega) S1.out.left;have z:=B1.out.fz (o+10);obtain ⟨L,hL⟩:∃ L,L=S.left - 1:=⟨_,rfl⟩;have eL:(S.left:Int) - 1=(L:Int):=by omega
  have hL6:L<=65535:=by omega
  have HL:Hid (L=S.left - 1):=hL;have hl3:S.left<=65535:=by omega
  replace hgl:Hid _:=hgl;have HO:Hid (S.oneLess=if L=0 then ({ S with left:=L }:St).endBlock else ({ S with left:=L }:St).enter 3 8):=by show S.oneLess=_;unfold St.oneLess;rw[hL]
  clear hL HE;have C2:Hid (FrC b o (o+4900) c (upd d (o+10) (.int .i64 (L:Int)))):=C1.out.trans (FrC.upd _ (by omega) (by omega));have R2:Hid (RwV (upd d (o+10) (.int .i64 (L:Int))) (o+3351) R):=R1.out.congr (fun i h1 h2=>upd_ne _ _ _ (by omega));by_cases h0:L=0
  ·have h0':((L:Int) == 0)=true:=by rw[beq_iff_eq];omega
   have HO2:Hid (S.oneLess=({ S with left:=L }:St).endBlock):=by show S.oneLess=_;rw[HO.out,if_pos h0]
   replace h0:Hid _:=h0;clear HO;go_wp2_with fail;refine (endBlock_x b o n _ { S with left:=L } _ (B1.out.set (by omega) _) (S1.out.set_left L) (by omega)).mono ?_;rintro e w2 ⟨rfl,h⟩;go_wp2_with fail;go_ret;rw[HE2.out];exact ⟨rfl,SRStep.next C2.out (Fr1.set F1.out _ _) (by rw[HO2.out];exact SRStep.of_st R2.out h)⟩
  ·have h0':((L:Int) == 0)=false:=by rw[beq_eq_false_iff_ne];omega
   have HO2:Hid (S.oneLess=({ S with left:=L }:St).enter 3 8):=by show S.oneLess=_;rw[HO.out,if_neg h0]
   clear HO;go_wp2_with fail;refine (senter_x b o n 3 8 _ { S with left:=L } _ (B1.out.set (by omega) _) (S1.out.set_left L) (by omega)).mono ?_;rintro e w2 ⟨rfl,h⟩;go_wp2_with fail;go_ret;rw[HE2.out];exact ⟨rfl,SRStep.next C2.out (Fr1.set F1.out _ _) (by rw[HO2.out];exact SRStep.of_st R2.out h)⟩
 ·have hE':((E:Int) != 0)=true:=by rw[bne_iff_ne];omega
  have HE2:Hid (storedP s r x=(S,R,E)):=by show storedP s r x=_;rw[HE.out,if_neg hE]
  go_wp2_with fail;go_ret;rw[HE2.out];exact ⟨rfl,d,B1.out,S1.out,R1.out,C1.out,F1.out⟩
def numP (s:St) (r:Rw) (v:Nat):St × Rw × Nat:=
 if s.part=0 then ((s.takeHead v).1,r,(s.takeHead v).2)
 else if s.part=1 then (s.block0 v,r,0)
 else if s.part=2 then ((s.takeSize v).1,r,(s.takeSize v).2)
 else storedP s r v
structure NumOk (s:St) (r:Rw) (v:Nat):Prop where
 part:s.part<=3
 v0:s.part=0->v<65536
 v1:s.part=1->v<2
 v3:s.part=3->v<256
 v:v<4294967296
 l1:s.part=3->1<=s.left
 l2:s.part=3->s.left<=65535
 good:s.part=3->RwGood r
 sum:s.sum<4294967296
theorem takeNumber_x (b o n v:Nat) (c:Nat->Value) (s:St) (r:Rw) (w:World) (hB:Blk w b n c) (hS:StV c o s) (hR:RwV c (o+3351) r) (hn:o+4900<=n) (hk:NumOk s r v) (hG:GrdAt w) (hb:b≠0) :
  Calls Tryz.prog 184 #[.pointer (some ⟨b,o,none⟩),.int .u32 (v:Int),.pointer (some ⟨b,o+3351,none⟩)] w fun e w'=>e = .returned (.int .i64 ((numP s r v).2.2:Int))/\SRStep b o n c (numP s r v).1 (numP s r v).2.1 w w':=by
 have k0:=hB.at (i:=o) (by omega) hS.part;have HB:Hid (Blk w b n c):=hB;have HS:Hid (StV c o s):=hS;have HR:Hid (RwV c (o+3351) r):=hR;have HK:Hid (NumOk s r v):=hk;have HG:Hid (GrdAt w):=hG;have hp:=hk.part;clear hB hS hR hG hk;have hc:s.part=0\/s.part=1\/s.part=2\/s.part=3:=by omega
 rcases hc with h | h | h | h
 ·have HE:Hid (numP s r v=((s.takeHead v).1,r,(s.takeHead v).2)):=by show numP s r v=_;unfold numP;rw[if_pos h]
  have FH:Hid (Calls Tryz.prog 193 #[.pointer (some ⟨b,o,none⟩),.int .u32 (v:Int)] w fun e w'=>e = .returned (.int .i64 ((s.takeHead v).2:Int))/\StStep b o n c (s.takeHead v).1 w w'):=takeHead_x b o n v c s w HB.out HS.out (by omega) (HK.out.v0 h);rw[h] at k0;clear h hp;go_enter Tryz.func184,Tryz.ntmps184;go_wp2_with fail;refine FH.out.mono ?_;rintro e w1 ⟨rfl,h1⟩;go_wp2_with fail;go_ret;rw[HE.out];exact ⟨rfl,SRStep.of_st HR.out h1⟩
 ·have HE:Hid (numP s r v=(s.block0 v,r,0)):=by show numP s r v=_;unfold numP;rw[if_neg (by omega),if_pos h]
  have FH:Hid (Calls Tryz.prog 194 #[.pointer (some ⟨b,o,none⟩),.int .u32 (v:Int)] w fun e w'=>e = .returned (.int .i64 0)/\StStep b o n c (s.block0 v) w w'):=takeBlock0_x b o n v c s w HB.out HS.out (by omega) (HK.out.v1 h);rw[h] at k0;clear h hp;go_enter Tryz.func184,Tryz.ntmps184;go_wp2_with fail;refine FH.out.mono ?_;rintro e w1 ⟨rfl,h1⟩;go_wp2_with fail;go_ret;rw[HE.out];exact ⟨rfl,SRStep.of_st HR.out h1⟩
 ·have HE:Hid (numP s r v=((s.takeSize v).1,r,(s.takeSize v).2)):=by show numP s r v=_;unfold numP;rw[if_neg (by omega),if_neg (by omega),if_pos h]
  have FH:Hid (Calls Tryz.prog 195 #[.pointer (some ⟨b,o,none⟩),.int .u32 (v:Int)] w fun e w'=>e = .returned (.int .i64 ((s.takeSize v).2:Int))/\StStep b o n c (s.takeSize v).1 w w'):=takeSize_x b o n v c s w HB.out HS.out (by omega) HK.out.v;rw[h] at k0;clear h hp;go_enter Tryz.func184,Tryz.ntmps184;go_wp2_with fail;refine FH.out.mono ?_;rintro e w1 ⟨rfl,h1⟩;go_wp2_with fail;go_ret;rw[HE.out];exact ⟨rfl,SRStep.of_st HR.out h1⟩
 ·have HE:Hid (numP s r v=storedP s r v):=by show numP s r v=_;unfold numP;rw[if_neg (by omega),if_neg (by omega),if_neg (by omega)]
  have FH:Hid (Calls Tryz.prog 196 #[.pointer (some ⟨b,o,none⟩),.int .u8 (v:Int),.pointer (some ⟨b,o+3351,none⟩)] w fun e w'=>e = .returned (.int .i64 ((storedP s r v).2.2:Int))/\SRStep b o n c (storedP s r v).1 (storedP s r v).2.1 w w'):=takeStored_x b o n v c s r w HB.out HS.out HR.out hn (HK.out.good h) HG.out hb (HK.out.v3 h) HK.out.sum (HK.out.l1 h) (HK.out.l2 h);have hv:=HK.out.v3 h;rw[h] at k0;clear h hp;go_enter Tryz.func184,Tryz.ntmps184;go_wp2_with fail;refine FH.out.mono ?_;rintro e w1 ⟨rfl,h1⟩;go_wp2_with fail;go_ret;rw[HE.out];exact ⟨rfl,h1⟩
theorem u32_or_bit (m g t:Nat) (hm:m<2^g) (hg:g<32) (ht:t<=1):bits .or .u32 (m:Int) (((t*2^g:Nat)):Int)=((m+t*2^g:Nat):Int):=by
 have hp:2^g*2<=2^32:=by rw[<- Nat.pow_succ];exact Nat.pow_le_pow_right (by omega) (by omega)
 have ht2:t*2^g<=1*2^g:=Nat.mul_le_mul_right _ ht;show IntKind.u32.wrap ((BitVec.ofInt 32 (m:Int) ||| BitVec.ofInt 32 ((t*2^g:Nat):Int)).toNat:Int)=_
 have e1:(BitVec.ofInt 32 (m:Int)).toNat=m:=by rw[BitVec.ofInt_natCast,BitVec.toNat_ofNat];exact Nat.mod_eq_of_lt (by omega)
 have e2:(BitVec.ofInt 32 ((t*2^g:Nat):Int)).toNat=t*2^g:=by rw[BitVec.ofInt_natCast,BitVec.toNat_ofNat];exact Nat.mod_eq_of_lt (by omega)
 have e3:m ||| t*2^g=m+t*2^g:=by
  have:=Nat.shiftLeft_add_eq_or_of_lt (b:=m) (i:=g) hm t
  rw[Nat.shiftLeft_eq] at this;rw[Nat.or_comm];omega
 rw[BitVec.toNat_or,e1,e2,e3,IntKind.wrap_u32];omega
def St.oneBit (s:St) (t:Nat):St:={ s with number:=s.number+t*2^s.got,got:=s.got+1 }
def bitP (s:St) (r:Rw) (t:Nat):St × Rw × Nat:=if s.got+1<s.wanted then (s.oneBit t,r,0) else numP (s.oneBit t) r (s.number+t*2^s.got)
structure BitOk (s:St) (r:Rw) (t:Nat):Prop where
 part:s.part<=3
 got:s.got<32
 wanted:s.wanted<=32
 number:s.number<2^s.got
 bit:t<=1
 num:¬ s.got+1<s.wanted->NumOk (s.oneBit t) r (s.number+t*2^s.got)
theorem takeBit_x (b o n t:Nat) (c:Nat->Value) (s:St) (r:Rw) (w:World) (hB:Blk w b n c) (hS:StV c o s) (hR:RwV c (o+3351) r) (hn:o+4900<=n) (hk:BitOk s r t) (hG:GrdAt w) (hb:b≠0) :
  Calls Tryz.prog 166 #[.pointer (some ⟨b,o,none⟩),.int .u32 (t:Int),.pointer (some ⟨b,o+3351,none⟩)] w fun e w'=>e = .returned (.int .i64 ((bitP s r t).2.2:Int))/\SRStep b o n c (bitP s r t).1 (bitP s r t).2.1 w w':=by
 have k0:=hB.at (i:=o) (by omega) hS.part;have k1:=hB.at (i:=o+1) (by omega) hS.number;have k2:=hB.at (i:=o+2) (by omega) hS.got;have z:=hB.fz;have HB:Hid (Blk w b n c):=hB;have HS:Hid (StV c o s):=hS;have HR:Hid (RwV c (o+3351) r):=hR;have HK:Hid (BitOk s r t):=hk;have HG:Hid (∀ W,Fr1 b w W->GrdAt W):=fun W f=>hG.fr f (fun q=>hb q.symm)
 have hp:=hk.part;have n11:((s.part:Int) == 11)=false:=by rw[beq_eq_false_iff_ne];omega
 have n12:((s.part:Int) == 12)=false:=by rw[beq_eq_false_iff_ne];omega
 have n13:((s.part:Int) == 13)=false:=by rw[beq_eq_false_iff_ne];omega
 have hgot:=hk.got;have hwan:=hk.wanted;have hbit:=hk.bit;have hnum:=hk.number;obtain ⟨G,hGe⟩:∃ G,G=s.got+1:=⟨_,rfl⟩;have eG:(s.got:Int)+1=(G:Int):=by omega
 have HGe:Hid (G=s.got+1):=hGe;obtain ⟨N,hNe⟩:∃ N,N=s.number+t*2^s.got:=⟨_,rfl⟩;have HNe:Hid (N=s.number+t*2^s.got):=hNe;have eOr:bits .or .u32 (s.number:Int) ((t:Int)*2^s.got % 4294967296)=(N:Int):=by
  have hp2:2^s.got<=2^31:=Nat.pow_le_pow_right (by omega) (by omega);have ht2:t*2^s.got<=1*2^31:=Nat.mul_le_mul hbit hp2;have e:(t:Int)*2^s.got=((t*2^s.got:Nat):Int):=by simp
  rw[hNe,<- u32_or_bit _ _ _ hnum hgot hbit,e,Int.emod_eq_of_lt (by omega) (by omega)]
 have HE:Hid (bitP s r t=if G<s.wanted then ({ s with number:=N,got:=G },r,0) else numP { s with number:=N,got:=G } r N):=by
  show bitP s r t=_
  unfold bitP St.oneBit;rw[hGe,hNe]
 have HNum:Hid (¬ G<s.wanted->NumOk { s with number:=N,got:=G } r N):=by
  show ¬ G<s.wanted->NumOk { s with number:=N,got:=G } r N
  rw[hGe,hNe];exact hk.num
 clear hB hS hR hG hk hGe hNe;have hG32:G<=32:=by have:=HGe.out;omega
 have S1:Hid (StV (upd (upd c (o+1) (.int .u32 (N:Int))) (o+2) (.int .u64 (G:Int))) o { s with number:=N,got:=G }):=(HS.out.set_number N).set_got G;have R1:Hid (RwV (upd (upd c (o+1) (.int .u32 (N:Int))) (o+2) (.int .u64 (G:Int))) (o+3351) r):=HR.out.congr (fun i h1 h2=>by rw[upd_ne _ _ _ (by omega),upd_ne _ _ _ (by omega)]);have C1:Hid (FrC b o (o+4900) c (upd (upd c (o+1) (.int .u32 (N:Int))) (o+2) (.int .u64 (G:Int)))):=(FrC.upd _ (by omega) (by omega)).trans (FrC.upd _ (by omega) (by omega));replace hnum:Hid _:=hnum;go_enter Tryz.func166,Tryz.ntmps166;go_wp2_with fail;go_quiet (fail);have B1:Hid (Blk (((w.drewN nq).setCell ⟨b,o+1,none⟩ (.int .u32 (N:Int))).setCell ⟨b,o+2,none⟩ (.int .u64 (G:Int))) b n (upd (upd c (o+1) (.int .u32 (N:Int))) (o+2) (.int .u64 (G:Int)))):=((HB.out.kept ((Kept.refl _).drewN nq)).set (by omega) _).set (by omega) _;have F1:Hid (Fr1 b w (((w.drewN nq).setCell ⟨b,o+1,none⟩ (.int .u32 (N:Int))).setCell ⟨b,o+2,none⟩ (.int .u64 (G:Int)))):=Fr1.set (Fr1.set (Fr1.drewN (Fr.refl _ _) nq) _ _) _ _;go_upto_region 14 with fail
 generalize ((w.drewN nq).setCell ⟨b,o+1,none⟩ (.int .u32 (N:Int))).setCell ⟨b,o+2,none⟩ (.int .u64 (G:Int))=w1 at *;generalize upd (upd c (o+1) (.int .u32 (N:Int))) (o+2) (.int .u64 (G:Int))=c1 at *;clear k0 k1 k2 z HB HS HR;have k2:=B1.out.at (i:=o+2) (by omega) S1.out.got;have k3:=B1.out.at (i:=o+3) (by omega) S1.out.wanted;replace k2:w1.cell? ⟨b,o+2,none⟩=some (.int .u64 (G:Int)):=k2;replace k3:w1.cell? ⟨b,o+3,none⟩=some (.int .u64 (s.wanted:Int)):=k3;by_cases hw:G<s.wanted
 ·have hw':(G:Int)<(s.wanted:Int):=by omega
  go_quiet (fail);go_wp2_with fail;go_ret;rw[HE.out,if_pos hw];exact ⟨rfl,c1,B1.out.kept ((Kept.refl _).drewN _),S1.out,R1.out,C1.out,F1.out.kept ((Kept.refl _).drewN _)⟩
 ·have hw':¬ (G:Int)<(s.wanted:Int):=by omega
  go_quiet (fail);go_wp2_with fail;refine (takeNumber_x b o n N c1 { s with number:=N,got:=G } r _ (B1.out.kept ((Kept.refl _).drewN _)) S1.out R1.out hn (HNum.out hw) (HG.out _ (F1.out.kept ((Kept.refl _).drewN _))) hb).mono ?_;rintro e w2 ⟨rfl,h2⟩;go_wp2_with fail;go_ret;rw[HE.out,if_neg hw];exact ⟨rfl,SRStep.next C1.out (F1.out.kept ((Kept.refl _).drewN _)) h2⟩
def bitsGo:Nat->Nat->St->Rw->Nat->St × Rw × Nat
 | 0,_,s,r,_=>(s,r,0)
 | k+1,i,s,r,x=>if s.skip then (s,r,0) else if (bitP s r (x / 2^i % 2)).2.2=0 then bitsGo k (i+1) (bitP s r (x / 2^i % 2)).1 (bitP s r (x / 2^i % 2)).2.1 x else bitP s r (x / 2^i % 2)
def BitsOk:Nat->Nat->St->Rw->Nat->Prop
 | 0,_,_,_,_=>True
 | k+1,i,s,r,x=>s.skip=true\/(BitOk s r (x / 2^i % 2)/\((bitP s r (x / 2^i % 2)).2.2=0->BitsOk k (i+1) (bitP s r (x / 2^i % 2)).1 (bitP s r (x / 2^i % 2)).2.1 x))
def takeB (s:St) (r:Rw) (x:Nat):St × Rw × Nat:=bitsGo 8 0 { s with skip:=false } r x
structure BtR (b o n:Nat) (c:Nat->Value) (w:World) (x i:Nat) (T:St × Rw × Nat) (d:Nat->Value) (s:St) (r:Rw) (W:World):Prop where
 B:Blk W b n d
 S:StV d o s
 R:RwV d (o+3351) r
 C:FrC b o (o+4900) c d
 F:Fr1 b w W
 i8:i<=8
 eq:bitsGo (8 - i) i s r x=T
 ok:BitsOk (8 - i) i s r x
theorem u32_bit (x i:Nat) (hx:x<256):bits .and .u32 ((x:Int) / 2^i) 1=((x / 2^i % 2:Nat):Int):=by
 have e:(x:Int) / 2^i=((x / 2^i:Nat):Int):=by simp
 rw[e];exact u32_and_1 _ (Nat.lt_of_le_of_lt (Nat.div_le_self _ _) (by omega))
theorem u32_bit' (x i:Nat) (hx:x<256):bits .and .u32 ((x:Int) / 2^i % 4294967296) 1=((x / 2^i % 2:Nat):Int):=by
 have e:(x:Int) / 2^i=((x / 2^i:Nat):Int):=by simp
 have h:x / 2^i<=x:=Nat.div_le_self _ _;obtain ⟨q,hq⟩:∃ q,q=x / 2^i:=⟨_,rfl⟩;rw[<- u32_bit x i hx,e];rw[<- hq] at h ⊢;rw[Int.emod_eq_of_lt (by omega) (by omega)]
theorem stake_x (b o n x:Nat) (c:Nat->Value) (s:St) (r:Rw) (w:World) (hB:Blk w b n c) (hS:StV c o s) (hR:RwV c (o+3351) r) (hn:o+4900<=n) (hp:s.part≠10) (hk:BitsOk 8 0 { s with skip:=false } r x) (hG:GrdAt w) (hb:b≠0) (hx:x<256) :
  Calls Tryz.prog 142 #[.pointer (some ⟨b,o,none⟩),.int .u8 (x:Int),.pointer (some ⟨b,o+3351,none⟩)] w fun e w'=>e = .returned (.int .i64 ((takeB s r x).2.2:Int))/\SRStep b o n c (takeB s r x).1 (takeB s r x).2.1 w w':=by
 have k7:=hB.at (i:=o+7) (by omega) hS.skip;have z:=hB.fz (o+7);have FE:Hid (Calls Tryz.prog 110 #[.pointer (some ⟨b,o,none⟩)] w fun e w'=>e = .returned (.bool false)/\w'=w):=by
  have:=sended_x b o n c s w hB hS (by omega)
  rw[decide_eq_false hp] at this;exact this
 have HG:Hid (∀ W,Fr1 b w W->GrdAt W):=fun W f=>hG.fr f (fun q=>hb q.symm)
 obtain ⟨T,hT⟩:∃ T,T=takeB s r x:=⟨_,rfl⟩;rw[<- hT];have H0:Hid (BtR b o n c w x 0 T (upd c (o+7) (.bool false)) { s with skip:=false } r (w.setCell ⟨b,o+7,none⟩ (.bool false))) :=
  ⟨hB.set (by omega) _,hS.set_skip false,hR.congr (fun i h1 h2=>upd_ne _ _ _ (by omega)),FrC.upd _ (by omega) (by omega),Fr1.set (Fr.refl _ _) _ _,by omega,by rw[hT];rfl,hk⟩
 clear hT hB hS hR hk hG;go_enter Tryz.func142,Tryz.ntmps142;go_wp2_with fail;refine FE.out.mono ?_;rintro e w1 ⟨rfl,hw1⟩;subst w1;go_wp2_with fail;go_loopg [7,8] 8 (fun k v u W=>∃ i d,∃ s':St,∃ r':Rw,k=8 - i/\v = .int .u64 (i:Int)/\BtR b o n c w x i T d s' r' W)
 case atStart=>exact ⟨0,_,_,_,rfl,rfl,H0.out⟩
 case round=>
  obtain ⟨i,d,s',r',hgk,rfl,hI⟩:=hrel;clear H0 FE k7 z;have HI:Hid (BtR b o n c w x i T d s' r' wr):=hI;replace hgk:Hid _:=hgk;have hi8:=hI.i8;have k7:=hI.B.at (i:=o+7) (by omega) hI.S.skip;clear hI;by_cases h8:i<8
  ·have h8':(i:Int)<8:=by omega
   obtain ⟨m,hm⟩:∃ m,8 - i=m+1:=⟨7 - i,by omega⟩;cases hsk:s'.skip with
   | true=>
    rw[hsk] at k7;have HT:Hid (T=(s',r',0)):=by
     show T=_
     rw[<- HI.out.eq,hm];show bitsGo (m+1) i s' r' x=_
     rw[bitsGo,hsk];rfl
    replace hsk:Hid _:=hsk;replace hm:Hid _:=hm;go_wp2_with fail;go_ret;rw[HT.out];exact ⟨rfl,d,HI.out.B,HI.out.S,HI.out.R,HI.out.C,HI.out.F⟩
   | false=>
    rw[hsk] at k7;obtain ⟨t,ht⟩:∃ t,t=x / 2^i % 2:=⟨_,rfl⟩;have et:bits .and .u32 ((x:Int) / 2^i % 4294967296) 1=(t:Int):=by rw[ht];exact u32_bit' x i hx
    have HT:Hid (T=if (bitP s' r' t).2.2=0 then bitsGo m (i+1) (bitP s' r' t).1 (bitP s' r' t).2.1 x else bitP s' r' t):=by
     show T=_
     rw[<- HI.out.eq,hm];show bitsGo (m+1) i s' r' x=_
     rw[bitsGo,hsk,ht];rfl
    have HO:Hid (BitOk s' r' t/\((bitP s' r' t).2.2=0->BitsOk m (i+1) (bitP s' r' t).1 (bitP s' r' t).2.1 x)):=by
     have h:=HI.out.ok;rw[hm] at h;rw[ht];rcases h with h | h
     ·rw[hsk] at h;exact absurd h (by simp)
     ·exact h
    have ht1:t<=1:=by omega
    clear ht;have FB:Hid (Calls Tryz.prog 166 #[.pointer (some ⟨b,o,none⟩),.int .u32 (t:Int),.pointer (some ⟨b,o+3351,none⟩)] wr fun e w'=>e = .returned (.int .i64 ((bitP s' r' t).2.2:Int))/\SRStep b o n d (bitP s' r' t).1 (bitP s' r' t).2.1 wr w'):=takeBit_x b o n t d s' r' wr HI.out.B HI.out.S HI.out.R hn HO.out.1 (HG.out _ HI.out.F) hb;obtain ⟨E,hE⟩:∃ E,E=(bitP s' r' t).2.2:=⟨_,rfl⟩;have HE:Hid (E=(bitP s' r' t).2.2):=hE;rw[<- hE] at FB HT;rw[<- hE] at HO;replace hsk:Hid _:=hsk;replace hm:Hid _:=hm;clear hE;go_wp2_with fail;refine FB.out.mono ?_;rintro e w2 ⟨rfl,d2,hB2,hS2,hR2,hC2,hF2⟩;have B2:Hid (Blk w2 b n d2):=hB2;have S2:Hid (StV d2 o (bitP s' r' t).1):=hS2;have R2:Hid (RwV d2 (o+3351) (bitP s' r' t).2.1):=hR2;have C2:Hid (FrC b o (o+4900) c d2):=HI.out.C.trans hC2;have F2:Hid (Fr1 b w w2):=HI.out.F.trans hF2;clear hB2 hS2 hR2 hC2 hF2 FB;by_cases h0:E=0
    ·have h0':((E:Int) != 0)=false:=by rw[bne_eq_false_iff_eq];omega
     have HT2:Hid (T=bitsGo m (i+1) (bitP s' r' t).1 (bitP s' r' t).2.1 x):=by show T=_;rw[HT.out,if_pos h0]
     have HO2:Hid (BitsOk m (i+1) (bitP s' r' t).1 (bitP s' r' t).2.1 x):=HO.out.2 h0;replace h0:Hid _:=h0;go_wp2_with fail;go_roundg (8 - (i+1))
     case measure=>rw[hgk.out];omega
     case rel=>
      have hmm:8 - (i+1)=m:=by have:=hm.out;omega
      exact ⟨i+1,d2,_,_,rfl,by go_num,B2.out,S2.out,R2.out,C2.out,F2.out,by omega,by rw[hmm];exact HT2.out.symm,by rw[hmm];exact HO2.out⟩
    ·have h0':((E:Int) != 0)=true:=by rw[bne_iff_ne];omega
     have HT2:Hid (T=bitP s' r' t):=by show T=_;rw[HT.out,if_neg h0]
     go_wp2_with fail;go_ret;rw[HT2.out];exact ⟨ret_int (by rw[HE.out]),d2,B2.out,S2.out,R2.out,C2.out,F2.out⟩
  ·have h8':¬ (i:Int)<8:=by omega
   have HT:Hid (T=(s',r',0)):=by
    show T=_
    rw[<- HI.out.eq,show 8 - i=0 from by omega];rfl
   go_wp2_with fail;go_ret;rw[HT.out];exact ⟨rfl,d,HI.out.B,HI.out.S,HI.out.R,HI.out.C,HI.out.F⟩
