import Derived.Test.YtmbmecfodigciaaGreatDoorTu06
set_option maxRecDepth 100000
set_option maxHeartbeats 6400000
namespace Go.Proofs.YtmbmecfodigciaaGreatDoor
open Go.RowKit Px
set_option linter.unusedSimpArgs false
set_option linter.unusedVariables false
def numP (s:St) (r:Rw) (v:Nat):St × Rw × Nat:=
 if s.part=0 then ((s.takeHead v).1,r,(s.takeHead v).2)
 else if s.part=1 then (s.block v,r,blockE v)
 else if s.part=2 then ((s.takeSize v).1,r,(s.takeSize v).2)
 else if s.part=3 then storedP s r v
 else if s.part=4 then ((s.counts v).1,r,(s.counts v).2)
 else if s.part=5 then ((s.shortLen v).1,r,(s.shortLen v).2)
 else if s.part=6 then ((s.repeat v).1,r,(s.repeat v).2)
 else if s.part=7 then (s.lengthRest v,r,0)
 else if s.part=8 then distRestP s r v
 else ((s.takeSum v).1,r,(s.takeSum v).2)
structure ShOk (s:St) (v:Nat):Prop where
 vl:v<256
 told:s.tb.told<19
 shorts:s.tb.shorts<=19
 sl:∀ i,i<19->s.tb.sl i<256
structure RpOk (s:St) (v:Nat):Prop where
 vl:v<256
 rep:s.tb.rep=16\/s.tb.rep=17\/s.tb.rep=18
 tb:TbOk s.tb
structure DrOk (s:St) (r:Rw) (v:Nat):Prop where
 vl:v<=50000
 base:s.base<=50000
 cnt:s.count<=2078
 win:s.window<=100000
 len:s.length<=100000
 copy:1<=s.base+v->s.base+v<=s.count->s.base+v<=s.window->CopyOk s.length (s.base+v) s r
structure NumOk (s:St) (r:Rw) (v:Nat):Prop where
 part:s.part<=9
 v0:s.part=0->v<65536
 v1:s.part=1->v<8
 v3:s.part=3->v<256
 v4:s.part=4->v<16384
 v5:s.part=5->ShOk s v
 v6:s.part=6->RpOk s v
 v7:s.part=7->s.length<=100000
 v8:s.part=8->DrOk s r v
 v:v<4294967296
 l1:s.part=3->1<=s.left
 l2:s.part=3->s.left<=65535
 good:s.part=3->RwGood r
 sum:s.sum<4294967296
theorem NumOk.old {s:St} {r:Rw} {v:Nat} (part:s.part<=3\/s.part=9) (v0:s.part=0->v<65536) (v1:s.part=1->v<4) (v3:s.part=3->v<256) (hv:v<4294967296) (l1:s.part=3->1<=s.left) (l2:s.part=3->s.left<=65535) (good:s.part=3->RwGood r) (sum:s.sum<4294967296):NumOk s r v:=
 ⟨by omega,v0,fun h=>by have:=v1 h;omega,v3,fun h=>by omega,fun h=>by omega,fun h=>by omega,fun h=>by omega,fun h=>by omega,hv,l1,l2,good,sum⟩
theorem takeNum0_x (b o n v:Nat) (c:Nat->Value) (s:St) (r:Rw) (w:World) (hB:Blk w b n c) (hS:StV c o s) (hR:RwV c (o+3351) r) (hn:o+4900<=n) (hk:NumOk s r v) (h:s.part=0) (hG:AllAt w) (hb:NT b) :
  Calls Tryz.prog 168 #[.pointer (some ⟨b,o,none⟩),.int .u32 (v:Int),.pointer (some ⟨b,o+3351,none⟩)] w fun e w'=>e = .returned (.int .i64 ((numP s r v).2.2:Int))/\SRStep b o n c (numP s r v).1 (numP s r v).2.1 w w':=by
 have k0:=hB.at (i:=o) (by omega) hS.part
 have HB:Hid (Blk w b n c):=hB
 have HS:Hid (StV c o s):=hS
 have HR:Hid (RwV c (o+3351) r):=hR
 have HK:Hid (NumOk s r v):=hk
 have HG:Hid (AllAt w):=hG
 have hp:=hk.part
 clear hB hS hR hG hk
 have HE:Hid (numP s r v=((s.takeHead v).1,r,(s.takeHead v).2)):=by show numP s r v=_;unfold numP;rw[if_pos h]
 have FH:Hid (Calls Tryz.prog 177 #[.pointer (some ⟨b,o,none⟩),.int .u32 (v:Int)] w fun e w'=>e = .returned (.int .i64 ((s.takeHead v).2:Int))/\StStep b o n c (s.takeHead v).1 w w'):=takeHead_x b o n v c s w HB.out HS.out (by omega) (HK.out.v0 h)
 rw[h] at k0
 clear h hp
 go_enter Tryz.func168,Tryz.ntmps168
 go_wp2_with fail
 refine FH.out.mono ?_
 rintro e w1 ⟨rfl,h1⟩
 go_wp2_with fail
 go_ret
 rw[HE.out]
 exact ⟨rfl,SRStep.of_st HR.out h1⟩
theorem takeNum1_x (b o n v:Nat) (c:Nat->Value) (s:St) (r:Rw) (w:World) (hB:Blk w b n c) (hS:StV c o s) (hR:RwV c (o+3351) r) (hn:o+4900<=n) (hk:NumOk s r v) (h:s.part=1) (hG:AllAt w) (hb:NT b) :
  Calls Tryz.prog 168 #[.pointer (some ⟨b,o,none⟩),.int .u32 (v:Int),.pointer (some ⟨b,o+3351,none⟩)] w fun e w'=>e = .returned (.int .i64 ((numP s r v).2.2:Int))/\SRStep b o n c (numP s r v).1 (numP s r v).2.1 w w':=by
 have k0:=hB.at (i:=o) (by omega) hS.part
 have HB:Hid (Blk w b n c):=hB
 have HS:Hid (StV c o s):=hS
 have HR:Hid (RwV c (o+3351) r):=hR
 have HK:Hid (NumOk s r v):=hk
 have HG:Hid (AllAt w):=hG
 have hp:=hk.part
 clear hB hS hR hG hk
 have HE:Hid (numP s r v=(s.block v,r,blockE v)):=by show numP s r v=_;unfold numP;rw[if_neg (by omega),if_pos h]
 have FH:Hid (Calls Tryz.prog 178 #[.pointer (some ⟨b,o,none⟩),.int .u32 (v:Int)] w fun e w'=>e = .returned (.int .i64 (blockE v:Int))/\StStep b o n c (s.block v) w w'):=takeBlock_x b o n v c s w HB.out HS.out (by omega) (HK.out.v1 h)
 generalize blockE v=BE at *
 generalize s.block v=SB at *
 rw[h] at k0
 clear h hp
 go_enter Tryz.func168,Tryz.ntmps168
 go_wp2_with fail
 refine FH.out.mono ?_
 rintro e w1 ⟨rfl,h1⟩
 go_wp2_with fail
 go_ret
 rw[HE.out]
 exact ⟨rfl,SRStep.of_st HR.out h1⟩
theorem takeNum2_x (b o n v:Nat) (c:Nat->Value) (s:St) (r:Rw) (w:World) (hB:Blk w b n c) (hS:StV c o s) (hR:RwV c (o+3351) r) (hn:o+4900<=n) (hk:NumOk s r v) (h:s.part=2) (hG:AllAt w) (hb:NT b) :
  Calls Tryz.prog 168 #[.pointer (some ⟨b,o,none⟩),.int .u32 (v:Int),.pointer (some ⟨b,o+3351,none⟩)] w fun e w'=>e = .returned (.int .i64 ((numP s r v).2.2:Int))/\SRStep b o n c (numP s r v).1 (numP s r v).2.1 w w':=by
 have k0:=hB.at (i:=o) (by omega) hS.part
 have HB:Hid (Blk w b n c):=hB
 have HS:Hid (StV c o s):=hS
 have HR:Hid (RwV c (o+3351) r):=hR
 have HK:Hid (NumOk s r v):=hk
 have HG:Hid (AllAt w):=hG
 have hp:=hk.part
 clear hB hS hR hG hk
 have HE:Hid (numP s r v=((s.takeSize v).1,r,(s.takeSize v).2)):=by show numP s r v=_;unfold numP;rw[if_neg (by omega),if_neg (by omega),if_pos h]
 have FH:Hid (Calls Tryz.prog 179 #[.pointer (some ⟨b,o,none⟩),.int .u32 (v:Int)] w fun e w'=>e = .returned (.int .i64 ((s.takeSize v).2:Int))/\StStep b o n c (s.takeSize v).1 w w'):=takeSize_x b o n v c s w HB.out HS.out (by omega) HK.out.v
 rw[h] at k0
 clear h hp
 go_enter Tryz.func168,Tryz.ntmps168
 go_wp2_with fail
 refine FH.out.mono ?_
 rintro e w1 ⟨rfl,h1⟩
 go_wp2_with fail
 go_ret
 rw[HE.out]
 exact ⟨rfl,SRStep.of_st HR.out h1⟩
theorem takeNum3_x (b o n v:Nat) (c:Nat->Value) (s:St) (r:Rw) (w:World) (hB:Blk w b n c) (hS:StV c o s) (hR:RwV c (o+3351) r) (hn:o+4900<=n) (hk:NumOk s r v) (h:s.part=3) (hG:AllAt w) (hb:NT b) :
  Calls Tryz.prog 168 #[.pointer (some ⟨b,o,none⟩),.int .u32 (v:Int),.pointer (some ⟨b,o+3351,none⟩)] w fun e w'=>e = .returned (.int .i64 ((numP s r v).2.2:Int))/\SRStep b o n c (numP s r v).1 (numP s r v).2.1 w w':=by
 have k0:=hB.at (i:=o) (by omega) hS.part
 have HB:Hid (Blk w b n c):=hB
 have HS:Hid (StV c o s):=hS
 have HR:Hid (RwV c (o+3351) r):=hR
 have HK:Hid (NumOk s r v):=hk
 have HG:Hid (AllAt w):=hG
 have hp:=hk.part
 clear hB hS hR hG hk
 have HE:Hid (numP s r v=storedP s r v):=by show numP s r v=_;unfold numP;rw[if_neg (by omega),if_neg (by omega),if_neg (by omega),if_pos h]
 have FH:Hid (Calls Tryz.prog 180 #[.pointer (some ⟨b,o,none⟩),.int .u8 (v:Int),.pointer (some ⟨b,o+3351,none⟩)] w fun e w'=>e = .returned (.int .i64 ((storedP s r v).2.2:Int))/\SRStep b o n c (storedP s r v).1 (storedP s r v).2.1 w w'):=takeStored_x b o n v c s r w HB.out HS.out HR.out hn (HK.out.good h) HG.out.grd hb.grd (HK.out.v3 h) HK.out.sum (HK.out.l1 h) (HK.out.l2 h)
 have hv:=HK.out.v3 h
 rw[h] at k0
 clear h hp
 go_enter Tryz.func168,Tryz.ntmps168
 go_wp2_with fail
 refine FH.out.mono ?_
 rintro e w1 ⟨rfl,h1⟩
 go_wp2_with fail
 go_ret
 rw[HE.out]
 exact ⟨rfl,h1⟩
theorem takeNum9_x (b o n v:Nat) (c:Nat->Value) (s:St) (r:Rw) (w:World) (hB:Blk w b n c) (hS:StV c o s) (hR:RwV c (o+3351) r) (hn:o+4900<=n) (hk:NumOk s r v) (h:s.part=9) (hG:AllAt w) (hb:NT b) :
  Calls Tryz.prog 168 #[.pointer (some ⟨b,o,none⟩),.int .u32 (v:Int),.pointer (some ⟨b,o+3351,none⟩)] w fun e w'=>e = .returned (.int .i64 ((numP s r v).2.2:Int))/\SRStep b o n c (numP s r v).1 (numP s r v).2.1 w w':=by
 have k0:=hB.at (i:=o) (by omega) hS.part
 have HB:Hid (Blk w b n c):=hB
 have HS:Hid (StV c o s):=hS
 have HR:Hid (RwV c (o+3351) r):=hR
 have HK:Hid (NumOk s r v):=hk
 have HG:Hid (AllAt w):=hG
 have hp:=hk.part
 clear hB hS hR hG hk
 have HE:Hid (numP s r v=((s.takeSum v).1,r,(s.takeSum v).2)):=by show numP s r v=_;unfold numP;rw[if_neg (by omega),if_neg (by omega),if_neg (by omega),if_neg (by omega),if_neg (by omega),if_neg (by omega),if_neg (by omega),if_neg (by omega),if_neg (by omega)]
 have FH:Hid (Calls Tryz.prog 186 #[.pointer (some ⟨b,o,none⟩),.int .u32 (v:Int)] w fun e w'=>e = .returned (.int .i64 ((s.takeSum v).2:Int))/\StStep b o n c (s.takeSum v).1 w w'):=takeSum_x b o n v c s w HB.out HS.out (by omega) HK.out.v
 obtain ⟨TS,hTS⟩:∃ TS,TS=s.takeSum v:=⟨_,rfl⟩
 rw[<- hTS] at HE FH
 clear hTS
 have n0:((s.part:Int) == 0)=false:=by rw[beq_eq_false_iff_ne];omega
 have n1:((s.part:Int) == 1)=false:=by rw[beq_eq_false_iff_ne];omega
 have n2:((s.part:Int) == 2)=false:=by rw[beq_eq_false_iff_ne];omega
 have n3:((s.part:Int) == 3)=false:=by rw[beq_eq_false_iff_ne];omega
 have n4:((s.part:Int) == 4)=false:=by rw[beq_eq_false_iff_ne];omega
 have n5:((s.part:Int) == 5)=false:=by rw[beq_eq_false_iff_ne];omega
 have n6:((s.part:Int) == 6)=false:=by rw[beq_eq_false_iff_ne];omega
 have n7:((s.part:Int) == 7)=false:=by rw[beq_eq_false_iff_ne];omega
 have n8:((s.part:Int) == 8)=false:=by rw[beq_eq_false_iff_ne];omega
 clear h hp
 go_enter Tryz.func168,Tryz.ntmps168
 go_upto_block 0 with fail
 go_cut [] from 7 (fun W=>W=w)
 case first=>
  go_wp2_with fail
  go_meet
  case rel=>rfl
 case rest=>
  subst hcut
  clear n0 n1 n2 n3 n4 n5 n6 n7 n8
  go_wp2_with fail
  refine FH.out.mono ?_
  rintro e w1 ⟨rfl,h1⟩
  go_wp2_with fail
  go_ret
  rw[HE.out]
  exact ⟨rfl,SRStep.of_st HR.out h1⟩
theorem takeNum4_x (b o n v:Nat) (c:Nat->Value) (s:St) (r:Rw) (w:World) (hB:Blk w b n c) (hS:StV c o s) (hR:RwV c (o+3351) r) (hn:o+4900<=n) (hk:NumOk s r v) (h:s.part=4) (hG:AllAt w) (hb:NT b) :
  Calls Tryz.prog 168 #[.pointer (some ⟨b,o,none⟩),.int .u32 (v:Int),.pointer (some ⟨b,o+3351,none⟩)] w fun e w'=>e = .returned (.int .i64 ((numP s r v).2.2:Int))/\SRStep b o n c (numP s r v).1 (numP s r v).2.1 w w':=by
 have k0:=hB.at (i:=o) (by omega) hS.part
 have HR:Hid (RwV c (o+3351) r):=hR
 have hp:=hk.part
 have HE:Hid (numP s r v=((s.counts v).1,r,(s.counts v).2)):=by show numP s r v=_;unfold numP;rw[if_neg (by omega),if_neg (by omega),if_neg (by omega),if_neg (by omega),if_pos h]
 have FH:Hid (Calls Tryz.prog 181 #[.pointer (some ⟨b,o,none⟩),.int .u32 (v:Int)] w fun e w'=>e = .returned (.int .i64 ((s.counts v).2:Int))/\StStep b o n c (s.counts v).1 w w'):=takeCounts_x b o n v c s w hB hS (by omega) (hk.v4 h)
 obtain ⟨TS,hTS⟩:∃ TS,TS=s.counts v:=⟨_,rfl⟩
 rw[<- hTS] at HE FH
 clear hTS
 rw[h] at k0
 clear h hp hB hS hR hG hk
 go_enter Tryz.func168,Tryz.ntmps168
 go_wp2_with fail
 refine FH.out.mono ?_
 rintro e w1 ⟨rfl,h1⟩
 go_wp2_with fail
 go_ret
 rw[HE.out]
 exact ⟨rfl,SRStep.of_st HR.out h1⟩
theorem takeNum5_x (b o n v:Nat) (c:Nat->Value) (s:St) (r:Rw) (w:World) (hB:Blk w b n c) (hS:StV c o s) (hR:RwV c (o+3351) r) (hn:o+4900<=n) (hk:NumOk s r v) (h:s.part=5) (hG:AllAt w) (hb:NT b) :
  Calls Tryz.prog 168 #[.pointer (some ⟨b,o,none⟩),.int .u32 (v:Int),.pointer (some ⟨b,o+3351,none⟩)] w fun e w'=>e = .returned (.int .i64 ((numP s r v).2.2:Int))/\SRStep b o n c (numP s r v).1 (numP s r v).2.1 w w':=by
 have k0:=hB.at (i:=o) (by omega) hS.part
 have HR:Hid (RwV c (o+3351) r):=hR
 have hp:=hk.part
 have HE:Hid (numP s r v=((s.shortLen v).1,r,(s.shortLen v).2)):=by show numP s r v=_;unfold numP;rw[if_neg (by omega),if_neg (by omega),if_neg (by omega),if_neg (by omega),if_neg (by omega),if_pos h]
 have FH:Hid (Calls Tryz.prog 182 #[.pointer (some ⟨b,o,none⟩),.int .u32 (v:Int)] w fun e w'=>e = .returned (.int .i64 ((s.shortLen v).2:Int))/\StStep b o n c (s.shortLen v).1 w w'):=shortLen_x b o n v c s w hB hS (by omega) hG.tabs hb.ord (hk.v5 h).vl (hk.v5 h).told (hk.v5 h).shorts (hk.v5 h).sl
 obtain ⟨TS,hTS⟩:∃ TS,TS=s.shortLen v:=⟨_,rfl⟩
 rw[<- hTS] at HE FH
 clear hTS
 rw[h] at k0
 clear h hp hB hS hR hG hk
 go_enter Tryz.func168,Tryz.ntmps168
 go_wp2_with fail
 refine FH.out.mono ?_
 rintro e w1 ⟨rfl,h1⟩
 go_wp2_with fail
 go_ret
 rw[HE.out]
 exact ⟨rfl,SRStep.of_st HR.out h1⟩
theorem takeNum6_x (b o n v:Nat) (c:Nat->Value) (s:St) (r:Rw) (w:World) (hB:Blk w b n c) (hS:StV c o s) (hR:RwV c (o+3351) r) (hn:o+4900<=n) (hk:NumOk s r v) (h:s.part=6) (hG:AllAt w) (hb:NT b) :
  Calls Tryz.prog 168 #[.pointer (some ⟨b,o,none⟩),.int .u32 (v:Int),.pointer (some ⟨b,o+3351,none⟩)] w fun e w'=>e = .returned (.int .i64 ((numP s r v).2.2:Int))/\SRStep b o n c (numP s r v).1 (numP s r v).2.1 w w':=by
 have k0:=hB.at (i:=o) (by omega) hS.part
 have HR:Hid (RwV c (o+3351) r):=hR
 have hp:=hk.part
 have HE:Hid (numP s r v=((s.repeat v).1,r,(s.repeat v).2)):=by show numP s r v=_;unfold numP;rw[if_neg (by omega),if_neg (by omega),if_neg (by omega),if_neg (by omega),if_neg (by omega),if_neg (by omega),if_pos h]
 have FH:Hid (Calls Tryz.prog 183 #[.pointer (some ⟨b,o,none⟩),.int .u32 (v:Int)] w fun e w'=>e = .returned (.int .i64 ((s.repeat v).2:Int))/\StStep b o n c (s.repeat v).1 w w'):=repeat_x b o n v c s w hB hS (by omega) (hk.v6 h).vl (hk.v6 h).rep (hk.v6 h).tb
 obtain ⟨TS,hTS⟩:∃ TS,TS=s.repeat v:=⟨_,rfl⟩
 rw[<- hTS] at HE FH
 clear hTS
 rw[h] at k0
 clear h hp hB hS hR hG hk
 go_enter Tryz.func168,Tryz.ntmps168
 go_wp2_with fail
 refine FH.out.mono ?_
 rintro e w1 ⟨rfl,h1⟩
 go_wp2_with fail
 go_ret
 rw[HE.out]
 exact ⟨rfl,SRStep.of_st HR.out h1⟩
theorem takeNum7_x (b o n v:Nat) (c:Nat->Value) (s:St) (r:Rw) (w:World) (hB:Blk w b n c) (hS:StV c o s) (hR:RwV c (o+3351) r) (hn:o+4900<=n) (hk:NumOk s r v) (h:s.part=7) (hG:AllAt w) (hb:NT b) :
  Calls Tryz.prog 168 #[.pointer (some ⟨b,o,none⟩),.int .u32 (v:Int),.pointer (some ⟨b,o+3351,none⟩)] w fun e w'=>e = .returned (.int .i64 ((numP s r v).2.2:Int))/\SRStep b o n c (numP s r v).1 (numP s r v).2.1 w w':=by
 have k0:=hB.at (i:=o) (by omega) hS.part
 have HR:Hid (RwV c (o+3351) r):=hR
 have hp:=hk.part
 have HE:Hid (numP s r v=(s.lengthRest v,r,0)):=by show numP s r v=_;unfold numP;rw[if_neg (by omega),if_neg (by omega),if_neg (by omega),if_neg (by omega),if_neg (by omega),if_neg (by omega),if_neg (by omega),if_pos h]
 have FH:Hid (Calls Tryz.prog 184 #[.pointer (some ⟨b,o,none⟩),.int .u32 (v:Int)] w fun e w'=>e = .returned (.int .i64 0)/\StStep b o n c (s.lengthRest v) w w'):=lengthRest_x b o n v c s w hB hS (by omega) (hk.v7 h) hk.v
 generalize s.lengthRest v=TS at *
 rw[h] at k0
 clear h hp hB hS hR hG hk
 go_enter Tryz.func168,Tryz.ntmps168
 go_wp2_with fail
 refine FH.out.mono ?_
 rintro e w1 ⟨rfl,h1⟩
 go_wp2_with fail
 go_ret
 rw[HE.out]
 exact ⟨rfl,SRStep.of_st HR.out h1⟩
theorem takeNum8_x (b o n v:Nat) (c:Nat->Value) (s:St) (r:Rw) (w:World) (hB:Blk w b n c) (hS:StV c o s) (hR:RwV c (o+3351) r) (hn:o+4900<=n) (hk:NumOk s r v) (h:s.part=8) (hG:AllAt w) (hb:NT b) :
  Calls Tryz.prog 168 #[.pointer (some ⟨b,o,none⟩),.int .u32 (v:Int),.pointer (some ⟨b,o+3351,none⟩)] w fun e w'=>e = .returned (.int .i64 ((numP s r v).2.2:Int))/\SRStep b o n c (numP s r v).1 (numP s r v).2.1 w w':=by
 have k0:=hB.at (i:=o) (by omega) hS.part
 have HR:Hid (RwV c (o+3351) r):=hR
 have hp:=hk.part
 have HE:Hid (numP s r v=distRestP s r v):=by show numP s r v=_;unfold numP;rw[if_neg (by omega),if_neg (by omega),if_neg (by omega),if_neg (by omega),if_neg (by omega),if_neg (by omega),if_neg (by omega),if_neg (by omega),if_pos h]
 have FH:Hid (Calls Tryz.prog 185 #[.pointer (some ⟨b,o,none⟩),.int .u32 (v:Int),.pointer (some ⟨b,o+3351,none⟩)] w fun e w'=>e = .returned (.int .i64 ((distRestP s r v).2.2:Int))/\SRStep b o n c (distRestP s r v).1 (distRestP s r v).2.1 w w'):=distRest_x b o n v c s r w hB hS hR hn hG.grd hb.grd (hk.v8 h).vl (hk.v8 h).base (hk.v8 h).cnt (hk.v8 h).win (hk.v8 h).len (hk.v8 h).copy
 obtain ⟨TS,hTS⟩:∃ TS,TS=distRestP s r v:=⟨_,rfl⟩
 rw[<- hTS] at HE FH
 clear hTS
 rw[h] at k0
 clear h hp hB hS hR hG hk
 go_enter Tryz.func168,Tryz.ntmps168
 go_wp2_with fail
 refine FH.out.mono ?_
 rintro e w1 ⟨rfl,h1⟩
 go_wp2_with fail
 go_ret
 rw[HE.out]
 exact ⟨rfl,h1⟩
theorem takeNumber_x (b o n v:Nat) (c:Nat->Value) (s:St) (r:Rw) (w:World) (hB:Blk w b n c) (hS:StV c o s) (hR:RwV c (o+3351) r) (hn:o+4900<=n) (hk:NumOk s r v) (hG:AllAt w) (hb:NT b) :
  Calls Tryz.prog 168 #[.pointer (some ⟨b,o,none⟩),.int .u32 (v:Int),.pointer (some ⟨b,o+3351,none⟩)] w fun e w'=>e = .returned (.int .i64 ((numP s r v).2.2:Int))/\SRStep b o n c (numP s r v).1 (numP s r v).2.1 w w':=by
 have hp:=hk.part
 have hc:s.part=0\/s.part=1\/s.part=2\/s.part=3\/s.part=4\/s.part=5\/s.part=6\/s.part=7\/s.part=8\/s.part=9:=by omega
 rcases hc with h | h | h | h | h | h | h | h | h | h
 ·exact takeNum0_x b o n v c s r w hB hS hR hn hk h hG hb
 ·exact takeNum1_x b o n v c s r w hB hS hR hn hk h hG hb
 ·exact takeNum2_x b o n v c s r w hB hS hR hn hk h hG hb
 ·exact takeNum3_x b o n v c s r w hB hS hR hn hk h hG hb
 ·exact takeNum4_x b o n v c s r w hB hS hR hn hk h hG hb
 ·exact takeNum5_x b o n v c s r w hB hS hR hn hk h hG hb
 ·exact takeNum6_x b o n v c s r w hB hS hR hn hk h hG hb
 ·exact takeNum7_x b o n v c s r w hB hS hR hn hk h hG hb
 ·exact takeNum8_x b o n v c s r w hB hS hR hn hk h hG hb
 ·exact takeNum9_x b o n v c s r w hB hS hR hn hk h hG hb
theorem u32_or_bit (m g t:Nat) (hm:m<2^g) (hg:g<32) (ht:t<=1):bits .or .u32 (m:Int) (((t*2^g:Nat)):Int)=((m+t*2^g:Nat):Int):=by
 have hp:2^g*2<=2^32:=by rw[<- Nat.pow_succ];exact Nat.pow_le_pow_right (by omega) (by omega)
 have ht2:t*2^g<=1*2^g:=Nat.mul_le_mul_right _ ht
 show IntKind.u32.wrap ((BitVec.ofInt 32 (m:Int) ||| BitVec.ofInt 32 ((t*2^g:Nat):Int)).toNat:Int)=_
 have e1:(BitVec.ofInt 32 (m:Int)).toNat=m:=by rw[BitVec.ofInt_natCast,BitVec.toNat_ofNat];exact Nat.mod_eq_of_lt (by omega)
 have e2:(BitVec.ofInt 32 ((t*2^g:Nat):Int)).toNat=t*2^g:=by rw[BitVec.ofInt_natCast,BitVec.toNat_ofNat];exact Nat.mod_eq_of_lt (by omega)
 have e3:m ||| t*2^g=m+t*2^g:=by
  have:=Nat.shiftLeft_add_eq_or_of_lt (b:=m) (i:=g) hm t
  rw[Nat.shiftLeft_eq] at this
  rw[Nat.or_comm];omega
 rw[BitVec.toNat_or,e1,e2,e3,IntKind.wrap_u32]
 omega
def St.oneBit (s:St) (t:Nat):St:={ s with number:=s.number+t*2^s.got,got:=s.got+1 }
def symP (s:St) (r:Rw) (t:Nat):St × Rw × Nat:=symT { s with path:=(s.lit.step s.path t).1 } r (s.lit.step s.path t).2
def clP (s:St) (t:Nat):St × Nat:=({ s with path:=(s.tb.short.step s.path t).1 }:St).codeLen (s.tb.short.step s.path t).2
def dsP (s:St) (r:Rw) (t:Nat):St × Rw × Nat:=distP { s with path:=(s.dist.step s.path t).1 } r (s.dist.step s.path t).2
structure SymOk (s:St) (r:Rw) (t:Nat):Prop where
 lit:CSOk s.lit
 path:PtOk s.path
 bit:t<=1
 sym1 : -2<=(s.lit.step s.path t).2
 sym2:(s.lit.step s.path t).2<=1000
 good:RwGood r
 sum:s.sum<4294967296
structure ClOk (s:St) (t:Nat):Prop where
 short:CSOk s.tb.short
 path:PtOk s.path
 bit:t<=1
 sym1 : -2<=(s.tb.short.step s.path t).2
 sym2:(s.tb.short.step s.path t).2<=18
 tb:TbOk s.tb
structure DsOk (s:St) (r:Rw) (t:Nat):Prop where
 dist:CSOk s.dist
 path:PtOk s.path
 bit:t<=1
 sym1 : -2<=(s.dist.step s.path t).2
 sym2:(s.dist.step s.path t).2<=1000
 cnt:s.count<=2078
 win:s.window<=100000
 len:s.length<=100000
 copy:∀ D,1<=D->D<=s.count->D<=s.window->CopyOk s.length D { s with path:=(s.dist.step s.path t).1 } r
def bitP (s:St) (r:Rw) (t:Nat):St × Rw × Nat:=if s.part=12 then symP s r t else if s.part=11 then ((clP s t).1,r,(clP s t).2) else if s.part=13 then dsP s r t else if s.got+1<s.wanted then (s.oneBit t,r,0) else numP (s.oneBit t) r (s.number+t*2^s.got)
structure BitOk (s:St) (r:Rw) (t:Nat):Prop where
 part:s.part<=9\/s.part=11\/s.part=12\/s.part=13
 sym:s.part=12->SymOk s r t
 cl:s.part=11->ClOk s t
 ds:s.part=13->DsOk s r t
 got:s.part<=9->s.got<32
 wanted:s.part<=9->s.wanted<=32
 number:s.part<=9->s.number<2^s.got
 bit:t<=1
 num:s.part<=9->¬ s.got+1<s.wanted->NumOk (s.oneBit t) r (s.number+t*2^s.got)
theorem symP_T (s:St) (r:Rw) (t:Nat):symP s r t=symT { s with path:=(s.lit.step s.path t).1 } r (s.lit.step s.path t).2:=rfl
theorem takeBitN_x (b o n t:Nat) (c:Nat->Value) (s:St) (r:Rw) (w:World) (hB:Blk w b n c) (hS:StV c o s) (hR:RwV c (o+3351) r) (hn:o+4900<=n) (hk:BitOk s r t) (h12:s.part<=9) (hG:AllAt w) (hb:NT b) :
  Calls Tryz.prog 156 #[.pointer (some ⟨b,o,none⟩),.int .u32 (t:Int),.pointer (some ⟨b,o+3351,none⟩)] w fun e w'=>e = .returned (.int .i64 ((bitP s r t).2.2:Int))/\SRStep b o n c (bitP s r t).1 (bitP s r t).2.1 w w':=by
 have k0:=hB.at (i:=o) (by omega) hS.part
 have k1:=hB.at (i:=o+1) (by omega) hS.number
 have k2:=hB.at (i:=o+2) (by omega) hS.got
 have z:=hB.fz
 have HB:Hid (Blk w b n c):=hB
 have HS:Hid (StV c o s):=hS
 have HR:Hid (RwV c (o+3351) r):=hR
 have HK:Hid (BitOk s r t):=hk
 have HG:Hid (∀ W,Fr1 b w W->AllAt W):=fun W f=>hG.fr f hb
 have hp:=hk.part
 have n11:((s.part:Int) == 11)=false:=by rw[beq_eq_false_iff_ne];omega
 have n12:((s.part:Int) == 12)=false:=by rw[beq_eq_false_iff_ne];omega
 have n13:((s.part:Int) == 13)=false:=by rw[beq_eq_false_iff_ne];omega
 have hgot:=hk.got h12
 have hwan:=hk.wanted h12
 have hbit:=hk.bit
 have hnum:=hk.number h12
 obtain ⟨G,hGe⟩:∃ G,G=s.got+1:=⟨_,rfl⟩
 have eG:(s.got:Int)+1=(G:Int):=by omega
 have HGe:Hid (G=s.got+1):=hGe
 obtain ⟨N,hNe⟩:∃ N,N=s.number+t*2^s.got:=⟨_,rfl⟩
 have HNe:Hid (N=s.number+t*2^s.got):=hNe
 have eOr:bits .or .u32 (s.number:Int) ((t:Int)*2^s.got % 4294967296)=(N:Int):=by
  have hp2:2^s.got<=2^31:=Nat.pow_le_pow_right (by omega) (by omega)
  have ht2:t*2^s.got<=1*2^31:=Nat.mul_le_mul hbit hp2
  have e:(t:Int)*2^s.got=((t*2^s.got:Nat):Int):=by simp
  rw[hNe,<- u32_or_bit _ _ _ hnum hgot hbit,e,Int.emod_eq_of_lt (by omega) (by omega)]
 have HE:Hid (bitP s r t=if G<s.wanted then ({ s with number:=N,got:=G },r,0) else numP { s with number:=N,got:=G } r N):=by
  show bitP s r t=_
  unfold bitP St.oneBit;rw[if_neg (by omega),if_neg (by omega),if_neg (by omega),hGe,hNe]
 have HNum:Hid (¬ G<s.wanted->NumOk { s with number:=N,got:=G } r N):=by
  show ¬ G<s.wanted->NumOk { s with number:=N,got:=G } r N
  rw[hGe,hNe];exact hk.num h12
 clear hB hS hR hG hk hGe hNe
 have hG32:G<=32:=by have:=HGe.out;omega
 have S1:Hid (StV (upd (upd c (o+1) (.int .u32 (N:Int))) (o+2) (.int .u64 (G:Int))) o { s with number:=N,got:=G }):=(HS.out.set_number N).set_got G
 have R1:Hid (RwV (upd (upd c (o+1) (.int .u32 (N:Int))) (o+2) (.int .u64 (G:Int))) (o+3351) r):=HR.out.congr (fun i h1 h2=>by rw[upd_ne _ _ _ (by omega),upd_ne _ _ _ (by omega)])
 have C1:Hid (FrC b o (o+4900) c (upd (upd c (o+1) (.int .u32 (N:Int))) (o+2) (.int .u64 (G:Int)))):=(FrC.upd _ (by omega) (by omega)).trans (FrC.upd _ (by omega) (by omega))
 replace hnum:Hid _:=hnum
 go_enter Tryz.func156,Tryz.ntmps156
 go_wp2_with fail
 go_quiet (fail)
 have B1:Hid (Blk (((w.drewN nq).setCell ⟨b,o+1,none⟩ (.int .u32 (N:Int))).setCell ⟨b,o+2,none⟩ (.int .u64 (G:Int))) b n (upd (upd c (o+1) (.int .u32 (N:Int))) (o+2) (.int .u64 (G:Int)))):=((HB.out.kept ((Kept.refl _).drewN nq)).set (by omega) _).set (by omega) _
 have F1:Hid (Fr1 b w (((w.drewN nq).setCell ⟨b,o+1,none⟩ (.int .u32 (N:Int))).setCell ⟨b,o+2,none⟩ (.int .u64 (G:Int)))):=Fr1.set (Fr1.set (Fr1.drewN (Fr.refl _ _) nq) _ _) _ _
 go_upto_region 14 with fail
 generalize ((w.drewN nq).setCell ⟨b,o+1,none⟩ (.int .u32 (N:Int))).setCell ⟨b,o+2,none⟩ (.int .u64 (G:Int))=w1 at *
 generalize upd (upd c (o+1) (.int .u32 (N:Int))) (o+2) (.int .u64 (G:Int))=c1 at *
 clear k0 k1 k2 z HB HS HR
 have k2:=B1.out.at (i:=o+2) (by omega) S1.out.got
 have k3:=B1.out.at (i:=o+3) (by omega) S1.out.wanted
 replace k2:w1.cell? ⟨b,o+2,none⟩=some (.int .u64 (G:Int)):=k2
 replace k3:w1.cell? ⟨b,o+3,none⟩=some (.int .u64 (s.wanted:Int)):=k3
 by_cases hw:G<s.wanted
 ·have hw':(G:Int)<(s.wanted:Int):=by omega
  go_quiet (fail)
  go_wp2_with fail
  go_ret
  rw[HE.out,if_pos hw]
  exact ⟨rfl,c1,B1.out.kept ((Kept.refl _).drewN _),S1.out,R1.out,C1.out,F1.out.kept ((Kept.refl _).drewN _)⟩
 ·have hw':¬ (G:Int)<(s.wanted:Int):=by omega
  go_quiet (fail)
  go_wp2_with fail
  refine (takeNumber_x b o n N c1 { s with number:=N,got:=G } r _ (B1.out.kept ((Kept.refl _).drewN _)) S1.out R1.out hn (HNum.out hw) (HG.out _ (F1.out.kept ((Kept.refl _).drewN _))) hb).mono ?_
  rintro e w2 ⟨rfl,h2⟩
  go_wp2_with fail
  go_ret
  rw[HE.out,if_neg hw]
  exact ⟨rfl,SRStep.next C1.out (F1.out.kept ((Kept.refl _).drewN _)) h2⟩
theorem takeBitS_x (b o n t:Nat) (c:Nat->Value) (s:St) (r:Rw) (w:World) (hB:Blk w b n c) (hS:StV c o s) (hR:RwV c (o+3351) r) (hn:o+4900<=n) (h12:s.part=12) (hk:SymOk s r t) (hG:AllAt w) (hb:NT b) :
  Calls Tryz.prog 156 #[.pointer (some ⟨b,o,none⟩),.int .u32 (t:Int),.pointer (some ⟨b,o+3351,none⟩)] w fun e w'=>e = .returned (.int .i64 ((symP s r t).2.2:Int))/\SRStep b o n c (symP s r t).1 (symP s r t).2.1 w w':=by
 have k0:=hB.at (i:=o) (by omega) hS.part
 rw[h12] at k0
 have hbit:=hk.bit
 have F1:Hid (∀ W,Kept w W->Calls Tryz.prog 164 #[.pointer (some ⟨b,o+11,none⟩),.pointer (some ⟨b,o+4,none⟩),.int .i64 (t:Int)] W fun e w'=>e = .returned (.int .i64 (s.lit.step s.path t).2)/\∃ d,Blk w' b n d/\PtV d (o+4) (s.lit.step s.path t).1/\FrC b (o+4) (o+4+3) c d/\Fr1 b W w'):=fun W k=>cstep_x b (o+11) (o+4) n t c s.lit s.path W (hB.kept k) hS.lit hS.path (by omega) (by omega) hk.lit hk.path hbit
 have F2:Hid (∀ (W:World) (d:Nat->Value),Blk W b n d->PtV d (o+4) (s.lit.step s.path t).1->FrC b (o+4) (o+4+3) c d->Fr1 b w W->Calls Tryz.prog 166 #[.pointer (some ⟨b,o,none⟩),.int .i64 (s.lit.step s.path t).2,.pointer (some ⟨b,o+3351,none⟩)] W fun e w'=>e = .returned (.int .i64 ((symP s r t).2.2:Int))/\SRStep b o n d (symP s r t).1 (symP s r t).2.1 W w'):=fun W d a1 a2 a3 a4=>by
  rw[symP_T]
  exact takeSymbol_x b o n _ d { s with path:=(s.lit.step s.path t).1 } r W a1 (hS.set_path _ a2 (fun i hi=>a3.out i (fun q=>hi ⟨q.1,by omega⟩))) (hR.congr (fun i h1 h2=>a3.out i (by omega))) hn hk.good (hG.fr a4 hb).grd hb.grd (hG.fr a4 hb).tabs hk.sum hk.sym1 hk.sym2
 generalize symP s r t=T at *
 generalize (s.lit.step s.path t).2=SY at *
 generalize (s.lit.step s.path t).1=PP at *
 clear hB hS hR hG hk
 have wt:IntKind.i64.wrap (t:Int)=(t:Int):=by rw[IntKind.wrap_i64];omega
 go_enter Tryz.func156,Tryz.ntmps156
 go_wp2_with fail
 go_region_held3 (fun W=>True) (trivial) ((go_at_call 164;refine (F1.out _ ((Kept.refl _).drewN 1)).mono ?_;rintro e' w1 ⟨rfl,hst⟩))
 obtain ⟨d,d1,d2,d3,d4'⟩:=hst
 have d4:Fr1 b w w1:=Fr.trans (Fr1.drewN (Fr.refl _ _) 1) d4'
 clear d4'
 have F3:=F2.out w1 d d1 d2 d3 d4
 replace F3:Hid _:=F3
 have C1:Hid (FrC b o (o+4900) c d):=d3.mono (by omega) (by omega)
 have F4:Hid (Fr1 b w w1):=d4
 clear d1 d2 d3 d4 F1 F2
 go_wp2_with fail
 refine Calls.mono F3.out ?_
 rintro e w2 ⟨rfl,k5⟩
 go_wp2_with fail
 go_ret
 exact ⟨rfl,SRStep.next C1.out F4.out k5⟩
theorem takeBitL_x (b o n t:Nat) (c:Nat->Value) (s:St) (r:Rw) (w:World) (hB:Blk w b n c) (hS:StV c o s) (hR:RwV c (o+3351) r) (hn:o+4900<=n) (h12:s.part=11) (hk:ClOk s t) (hG:AllAt w) (hb:NT b) :
  Calls Tryz.prog 156 #[.pointer (some ⟨b,o,none⟩),.int .u32 (t:Int),.pointer (some ⟨b,o+3351,none⟩)] w fun e w'=>e = .returned (.int .i64 ((clP s t).2:Int))/\SRStep b o n c (clP s t).1 r w w':=by
 have k0:=hB.at (i:=o) (by omega) hS.part
 rw[h12] at k0
 have hbit:=hk.bit
 have F1:Hid (∀ W,Kept w W->Calls Tryz.prog 164 #[.pointer (some ⟨b,o+623+3,none⟩),.pointer (some ⟨b,o+4,none⟩),.int .i64 (t:Int)] W fun e w'=>e = .returned (.int .i64 (s.tb.short.step s.path t).2)/\∃ d,Blk w' b n d/\PtV d (o+4) (s.tb.short.step s.path t).1/\FrC b (o+4) (o+4+3) c d/\Fr1 b W w'):=fun W k=>cstep_x b (o+623+3) (o+4) n t c s.tb.short s.path W (hB.kept k) hS.tb.short hS.path (by omega) (by omega) hk.short hk.path hbit
 have F2:Hid (∀ (W:World) (d:Nat->Value),Blk W b n d->PtV d (o+4) (s.tb.short.step s.path t).1->FrC b (o+4) (o+4+3) c d->Fr1 b w W->Calls Tryz.prog 165 #[.pointer (some ⟨b,o,none⟩),.int .i64 (s.tb.short.step s.path t).2] W fun e w'=>e = .returned (.int .i64 ((clP s t).2:Int))/\SRStep b o n d (clP s t).1 r W w'):=fun W d a1 a2 a3 a4=>by
  refine (codeLen_x b o n _ d { s with path:=(s.tb.short.step s.path t).1 } W a1 (hS.set_path _ a2 (fun i hi=>a3.out i (fun q=>hi ⟨q.1,by omega⟩))) (by omega) hk.sym1 hk.sym2 hk.tb).mono ?_
  rintro e w' ⟨rfl,h1⟩
  exact ⟨rfl,SRStep.of_st (hR.congr (fun i h1 h2=>a3.out i (by omega))) h1⟩
 generalize clP s t=T at *
 generalize (s.tb.short.step s.path t).2=SY at *
 generalize (s.tb.short.step s.path t).1=PP at *
 clear hB hS hR hG hk
 have wt:IntKind.i64.wrap (t:Int)=(t:Int):=by rw[IntKind.wrap_i64];omega
 go_enter Tryz.func156,Tryz.ntmps156
 go_wp2_with fail
 go_region_held3 (fun W=>True) (trivial) ((go_at_call 164;refine (F1.out _ ((Kept.refl _).drewN 1)).mono ?_;rintro e' w1 ⟨rfl,hst⟩))
 obtain ⟨d,d1,d2,d3,d4'⟩:=hst
 have d4:Fr1 b w w1:=Fr.trans (Fr1.drewN (Fr.refl _ _) 1) d4'
 clear d4'
 have F3:=F2.out w1 d d1 d2 d3 d4
 replace F3:Hid _:=F3
 have C1:Hid (FrC b o (o+4900) c d):=d3.mono (by omega) (by omega)
 have F4:Hid (Fr1 b w w1):=d4
 clear d1 d2 d3 d4 F1 F2
 go_wp2_with fail
 refine Calls.mono F3.out ?_
 rintro e w2 ⟨rfl,k5⟩
 go_wp2_with fail
 go_ret
 exact ⟨rfl,SRStep.next C1.out F4.out k5⟩
theorem takeBitD_x (b o n t:Nat) (c:Nat->Value) (s:St) (r:Rw) (w:World) (hB:Blk w b n c) (hS:StV c o s) (hR:RwV c (o+3351) r) (hn:o+4900<=n) (h12:s.part=13) (hk:DsOk s r t) (hG:AllAt w) (hb:NT b) :
  Calls Tryz.prog 156 #[.pointer (some ⟨b,o,none⟩),.int .u32 (t:Int),.pointer (some ⟨b,o+3351,none⟩)] w fun e w'=>e = .returned (.int .i64 ((dsP s r t).2.2:Int))/\SRStep b o n c (dsP s r t).1 (dsP s r t).2.1 w w':=by
 have k0:=hB.at (i:=o) (by omega) hS.part
 rw[h12] at k0
 have hbit:=hk.bit
 have F1:Hid (∀ W,Kept w W->Calls Tryz.prog 164 #[.pointer (some ⟨b,o+317,none⟩),.pointer (some ⟨b,o+4,none⟩),.int .i64 (t:Int)] W fun e w'=>e = .returned (.int .i64 (s.dist.step s.path t).2)/\∃ d,Blk w' b n d/\PtV d (o+4) (s.dist.step s.path t).1/\FrC b (o+4) (o+4+3) c d/\Fr1 b W w'):=fun W k=>cstep_x b (o+317) (o+4) n t c s.dist s.path W (hB.kept k) hS.dist hS.path (by omega) (by omega) hk.dist hk.path hbit
 have F2:Hid (∀ (W:World) (d:Nat->Value),Blk W b n d->PtV d (o+4) (s.dist.step s.path t).1->FrC b (o+4) (o+4+3) c d->Fr1 b w W->Calls Tryz.prog 167 #[.pointer (some ⟨b,o,none⟩),.int .i64 (s.dist.step s.path t).2,.pointer (some ⟨b,o+3351,none⟩)] W fun e w'=>e = .returned (.int .i64 ((dsP s r t).2.2:Int))/\SRStep b o n d (dsP s r t).1 (dsP s r t).2.1 W w'):=fun W d a1 a2 a3 a4=>by
  exact distance_x b o n _ d { s with path:=(s.dist.step s.path t).1 } r W a1 (hS.set_path _ a2 (fun i hi=>a3.out i (fun q=>hi ⟨q.1,by omega⟩))) (hR.congr (fun i h1 h2=>a3.out i (by omega))) hn (hG.fr a4 hb).grd hb.grd (hG.fr a4 hb).tabs hk.sym1 hk.sym2 hk.cnt hk.win hk.len hk.copy
 generalize dsP s r t=T at *
 generalize (s.dist.step s.path t).2=SY at *
 generalize (s.dist.step s.path t).1=PP at *
 clear hB hS hR hG hk
 have wt:IntKind.i64.wrap (t:Int)=(t:Int):=by rw[IntKind.wrap_i64];omega
 go_enter Tryz.func156,Tryz.ntmps156
 go_wp2_with fail
 go_region_held3 (fun W=>True) (trivial) ((go_at_call 164;refine (F1.out _ ((Kept.refl _).drewN 1)).mono ?_;rintro e' w1 ⟨rfl,hst⟩))
 obtain ⟨d,d1,d2,d3,d4'⟩:=hst
 have d4:Fr1 b w w1:=Fr.trans (Fr1.drewN (Fr.refl _ _) 1) d4'
 clear d4'
 have F3:=F2.out w1 d d1 d2 d3 d4
 replace F3:Hid _:=F3
 have C1:Hid (FrC b o (o+4900) c d):=d3.mono (by omega) (by omega)
 have F4:Hid (Fr1 b w w1):=d4
 clear d1 d2 d3 d4 F1 F2
 go_wp2_with fail
 refine Calls.mono F3.out ?_
 rintro e w2 ⟨rfl,k5⟩
 go_wp2_with fail
 go_ret
 exact ⟨rfl,SRStep.next C1.out F4.out k5⟩
theorem takeBit_x (b o n t:Nat) (c:Nat->Value) (s:St) (r:Rw) (w:World) (hB:Blk w b n c) (hS:StV c o s) (hR:RwV c (o+3351) r) (hn:o+4900<=n) (hk:BitOk s r t) (hG:AllAt w) (hb:NT b) :
  Calls Tryz.prog 156 #[.pointer (some ⟨b,o,none⟩),.int .u32 (t:Int),.pointer (some ⟨b,o+3351,none⟩)] w fun e w'=>e = .returned (.int .i64 ((bitP s r t).2.2:Int))/\SRStep b o n c (bitP s r t).1 (bitP s r t).2.1 w w':=by
 by_cases h12:s.part=12
 ·have e:bitP s r t=symP s r t:=by unfold bitP;rw[if_pos h12]
  rw[e]
  exact takeBitS_x b o n t c s r w hB hS hR hn h12 (hk.sym h12) hG hb
 by_cases h11:s.part=11
 ·have e:bitP s r t=((clP s t).1,r,(clP s t).2):=by unfold bitP;rw[if_neg h12,if_pos h11]
  rw[e]
  exact takeBitL_x b o n t c s r w hB hS hR hn h11 (hk.cl h11) hG hb
 by_cases h13:s.part=13
 ·have e:bitP s r t=dsP s r t:=by unfold bitP;rw[if_neg h12,if_neg h11,if_pos h13]
  rw[e]
  exact takeBitD_x b o n t c s r w hB hS hR hn h13 (hk.ds h13) hG hb
 ·exact takeBitN_x b o n t c s r w hB hS hR hn hk (by have:=hk.part;omega) hG hb
def bitsGo:Nat->Nat->St->Rw->Nat->St × Rw × Nat
 | 0,_,s,r,_=>(s,r,0)
 | k+1,i,s,r,x=>if s.skip then (s,r,0) else if (bitP s r (x / 2^i % 2)).2.2=0 then bitsGo k (i+1) (bitP s r (x / 2^i % 2)).1 (bitP s r (x / 2^i % 2)).2.1 x else bitP s r (x / 2^i % 2)
def BitsOk:Nat->Nat->St->Rw->Nat->Prop
 | 0,_,_,_,_=>True
 | k+1,i,s,r,x=>s.skip=true\/(BitOk s r (x / 2^i % 2)/\((bitP s r (x / 2^i % 2)).2.2=0->BitsOk k (i+1) (bitP s r (x / 2^i % 2)).1 (bitP s r (x / 2^i % 2)).2.1 x))
def takeB (s:St) (r:Rw) (x:Nat):St × Rw × Nat:=if s.part=10 then (s,r,20) else bitsGo 8 0 { s with skip:=false } r x
structure BtR (b o n:Nat) (c:Nat->Value) (w:World) (x i:Nat) (T:St × Rw × Nat) (d:Nat->Value) (s:St) (r:Rw) (W:World):Prop where
 B:Blk W b n d
 S:StV d o s
 R:RwV d (o+3351) r
 C:FrC b o (o+4900) c d
 F:Fr1 b w W
 i8:i<=8
 eq:bitsGo (8 - i) i s r x=T
 ok:BitsOk (8 - i) i s r x
theorem u32_bit (x i:Nat) (hx:x<256):bits .and .u32 ((x:Int) / 2^i) 1=((x / 2^i % 2:Nat):Int):=by
 have e:(x:Int) / 2^i=((x / 2^i:Nat):Int):=by simp
 rw[e]
 exact u32_and_1 _ (Nat.lt_of_le_of_lt (Nat.div_le_self _ _) (by omega))
theorem u32_bit' (x i:Nat) (hx:x<256):bits .and .u32 ((x:Int) / 2^i % 4294967296) 1=((x / 2^i % 2:Nat):Int):=by
 have e:(x:Int) / 2^i=((x / 2^i:Nat):Int):=by simp
 have h:x / 2^i<=x:=Nat.div_le_self _ _
 obtain ⟨q,hq⟩:∃ q,q=x / 2^i:=⟨_,rfl⟩
 rw[<- u32_bit x i hx,e]
 rw[<- hq] at h ⊢
 rw[Int.emod_eq_of_lt (by omega) (by omega)]
theorem stake_x (b o n x:Nat) (c:Nat->Value) (s:St) (r:Rw) (w:World) (hB:Blk w b n c) (hS:StV c o s) (hR:RwV c (o+3351) r) (hn:o+4900<=n) (hk':s.part≠10->BitsOk 8 0 { s with skip:=false } r x) (hG:AllAt w) (hb:NT b) (hx:x<256) :
  Calls Tryz.prog 143 #[.pointer (some ⟨b,o,none⟩),.int .u8 (x:Int),.pointer (some ⟨b,o+3351,none⟩)] w fun e w'=>e = .returned (.int .i64 ((takeB s r x).2.2:Int))/\SRStep b o n c (takeB s r x).1 (takeB s r x).2.1 w w':=by
 by_cases hp:s.part=10
 ·have H0:Hid (SRStep b o n c s r w w):=SRStep.refl hB hS hR
  have FE:Hid (Calls Tryz.prog 110 #[.pointer (some ⟨b,o,none⟩)] w fun e w'=>e = .returned (.bool true)/\w'=w):=by
   have:=sended_x b o n c s w hB hS (by omega)
   rw[decide_eq_true hp] at this
   exact this
  have HT:Hid (takeB s r x=(s,r,20)):=if_pos hp
  clear hB hS hR hk' hG hp
  go_enter Tryz.func143,Tryz.ntmps143
  go_wp2_with fail
  refine FE.out.mono ?_
  rintro e w1 ⟨rfl,hw1⟩
  subst w1
  go_wp2_with fail
  go_ret
  rw[HT.out]
  exact ⟨rfl,H0.out⟩
 have hk:=hk' hp
 clear hk'
 have k7:=hB.at (i:=o+7) (by omega) hS.skip
 have z:=hB.fz (o+7)
 have FE:Hid (Calls Tryz.prog 110 #[.pointer (some ⟨b,o,none⟩)] w fun e w'=>e = .returned (.bool false)/\w'=w):=by
  have:=sended_x b o n c s w hB hS (by omega)
  rw[decide_eq_false hp] at this
  exact this
 have HG:Hid (∀ W,Fr1 b w W->AllAt W):=fun W f=>hG.fr f hb
 obtain ⟨T,hT⟩:∃ T,T=takeB s r x:=⟨_,rfl⟩
 rw[<- hT]
 have H0:Hid (BtR b o n c w x 0 T (upd c (o+7) (.bool false)) { s with skip:=false } r (w.setCell ⟨b,o+7,none⟩ (.bool false))) :=
  ⟨hB.set (by omega) _,hS.set_skip false,hR.congr (fun i h1 h2=>upd_ne _ _ _ (by omega)),FrC.upd _ (by omega) (by omega),Fr1.set (Fr.refl _ _) _ _,by omega,by rw[hT];exact (if_neg hp).symm,hk⟩
 clear hT hB hS hR hk hG hp
 go_enter Tryz.func143,Tryz.ntmps143
 go_wp2_with fail
 refine FE.out.mono ?_
 rintro e w1 ⟨rfl,hw1⟩
 subst w1
 go_wp2_with fail
 go_loopg [7,8] 8 (fun k v u W=>∃ i d,∃ s':St,∃ r':Rw,k=8 - i/\v = .int .u64 (i:Int)/\BtR b o n c w x i T d s' r' W)
 case atStart=>exact ⟨0,_,_,_,rfl,rfl,H0.out⟩
 case round=>
  obtain ⟨i,d,s',r',hgk,rfl,hI⟩:=hrel
  clear H0 FE k7 z
  have HI:Hid (BtR b o n c w x i T d s' r' wr):=hI
  replace hgk:Hid _:=hgk
  have hi8:=hI.i8
  have k7:=hI.B.at (i:=o+7) (by omega) hI.S.skip
  clear hI
  by_cases h8:i<8
  ·have h8':(i:Int)<8:=by omega
   obtain ⟨m,hm⟩:∃ m,8 - i=m+1:=⟨7 - i,by omega⟩
   cases hsk:s'.skip with
   | true=>
    rw[hsk] at k7
    have HT:Hid (T=(s',r',0)):=by
     show T=_
     rw[<- HI.out.eq,hm]
     show bitsGo (m+1) i s' r' x=_
     rw[bitsGo,hsk]
     exact if_pos rfl
    replace hsk:Hid _:=hsk
    replace hm:Hid _:=hm
    go_wp2_with fail
    go_ret
    rw[HT.out]
    exact ⟨rfl,d,HI.out.B,HI.out.S,HI.out.R,HI.out.C,HI.out.F⟩
   | false=>
    rw[hsk] at k7
    obtain ⟨t,ht⟩:∃ t,t=x / 2^i % 2:=⟨_,rfl⟩
    have et:bits .and .u32 ((x:Int) / 2^i % 4294967296) 1=(t:Int):=by rw[ht];exact u32_bit' x i hx
    have HT:Hid (T=if (bitP s' r' t).2.2=0 then bitsGo m (i+1) (bitP s' r' t).1 (bitP s' r' t).2.1 x else bitP s' r' t):=by
     show T=_
     rw[<- HI.out.eq,hm]
     show bitsGo (m+1) i s' r' x=_
     rw[bitsGo,hsk,ht]
     exact if_neg (by decide)
    have HO:Hid (BitOk s' r' t/\((bitP s' r' t).2.2=0->BitsOk m (i+1) (bitP s' r' t).1 (bitP s' r' t).2.1 x)):=by
     have h:=HI.out.ok
     rw[hm] at h
     rw[ht]
     rcases h with h | h
     ·rw[hsk] at h;exact absurd h (by simp)
     ·exact h
    have ht1:t<=1:=by omega
    clear ht
    have FB:Hid (Calls Tryz.prog 156 #[.pointer (some ⟨b,o,none⟩),.int .u32 (t:Int),.pointer (some ⟨b,o+3351,none⟩)] wr fun e w'=>e = .returned (.int .i64 ((bitP s' r' t).2.2:Int))/\SRStep b o n d (bitP s' r' t).1 (bitP s' r' t).2.1 wr w'):=takeBit_x b o n t d s' r' wr HI.out.B HI.out.S HI.out.R hn HO.out.1 (HG.out _ HI.out.F) hb
    obtain ⟨E,hE⟩:∃ E,E=(bitP s' r' t).2.2:=⟨_,rfl⟩
    have HE:Hid (E=(bitP s' r' t).2.2):=hE
    rw[<- hE] at FB HT
    rw[<- hE] at HO
    replace hsk:Hid _:=hsk
    replace hm:Hid _:=hm
    clear hE
    go_wp2_with fail
    refine FB.out.mono ?_
    rintro e w2 ⟨rfl,d2,hB2,hS2,hR2,hC2,hF2⟩
    have B2:Hid (Blk w2 b n d2):=hB2
    have S2:Hid (StV d2 o (bitP s' r' t).1):=hS2
    have R2:Hid (RwV d2 (o+3351) (bitP s' r' t).2.1):=hR2
    have C2:Hid (FrC b o (o+4900) c d2):=HI.out.C.trans hC2
    have F2:Hid (Fr1 b w w2):=HI.out.F.trans hF2
    clear hB2 hS2 hR2 hC2 hF2 FB
    by_cases h0:E=0
    ·have h0':((E:Int) != 0)=false:=by rw[bne_eq_false_iff_eq];omega
     have HT2:Hid (T=bitsGo m (i+1) (bitP s' r' t).1 (bitP s' r' t).2.1 x):=by show T=_;rw[HT.out,if_pos h0]
     have HO2:Hid (BitsOk m (i+1) (bitP s' r' t).1 (bitP s' r' t).2.1 x):=HO.out.2 h0
     replace h0:Hid _:=h0
     go_wp2_with fail
     go_roundg (8 - (i+1))
     case measure=>rw[hgk.out];omega
     case rel=>
      have hmm:8 - (i+1)=m:=by have:=hm.out;omega
      exact ⟨i+1,d2,_,_,rfl,by go_num,B2.out,S2.out,R2.out,C2.out,F2.out,by omega,by rw[hmm];exact HT2.out.symm,by rw[hmm];exact HO2.out⟩
    ·have h0':((E:Int) != 0)=true:=by rw[bne_iff_ne];omega
     have HT2:Hid (T=bitP s' r' t):=by show T=_;rw[HT.out,if_neg h0]
     go_wp2_with fail
     go_ret
     rw[HT2.out]
     exact ⟨ret_int (by rw[HE.out]),d2,B2.out,S2.out,R2.out,C2.out,F2.out⟩
  ·have h8':¬ (i:Int)<8:=by omega
   have HT:Hid (T=(s',r',0)):=by
    show T=_
    rw[<- HI.out.eq,show 8 - i=0 from by omega];rfl
   go_wp2_with fail
   go_ret
   rw[HT.out]
   exact ⟨rfl,d,HI.out.B,HI.out.S,HI.out.R,HI.out.C,HI.out.F⟩
def cs0:CS:=⟨fun _=>0,fun _=>0,0,0⟩
def tb0:Tb:=⟨0,0,0,cs0,fun _=>0,fun _=>0,0,0⟩
def st0 (sum:Nat):St:=⟨0,0,0,0,⟨0,0,0⟩,false,0,false,0,cs0,cs0,tb0,0,0,fun _=>0,0,sum⟩
def St.start:St:=(st0 1).enter 0 16
def stH:List Value:=[.int .i64 0,.int .u32 0,.int .u64 0,.int .u64 0,.int .i64 0,.int .i64 0,.int .i64 0,.bool false,.int .i64 0,.bool false]
def stT:List Value:=List.replicate 922 (.int .i64 0)++(List.replicate 335 (.int .u8 0)++(List.replicate 4 (.int .i64 0)++List.replicate 2078 (.int .u8 0)))
theorem stT_len:stT.length=3339:=by unfold stT;rw[List.length_append,List.length_append,List.length_append,List.length_replicate,List.length_replicate,List.length_replicate,List.length_replicate]
theorem zero3351:Tryz.zeroCells89.toList=stH++(stT++[.int .i64 0,.int .u32 0]):=by kernel_rfl
theorem size3351:Tryz.zeroCells89.size=3351:=by
 rw[<- Array.length_toList,zero3351,List.length_append,List.length_append,stT_len,show stH.length=10 from rfl]
 simp only [List.length_cons,List.length_nil]
theorem info3351:(Tryz.prog.info? 89).map (·.size)=some 3351:=by kernel_rfl
theorem stT_a (j:Nat) (hj:j<922):stT.getD j undef = .int .i64 0:=getD_rep _ _ _ _ hj
theorem stT_b (j:Nat) (hj:j<335):stT.getD (922+j) undef = .int .u8 0:=(getD_skip _ _ 922 j (List.length_replicate ..)).trans (getD_rep _ _ _ _ hj)
theorem stT_c (j:Nat) (hj:j<4):stT.getD (922+(335+j)) undef = .int .i64 0:=(getD_skip _ _ 922 _ (List.length_replicate ..)).trans ((getD_skip _ _ 335 j (List.length_replicate ..)).trans (getD_rep _ _ _ _ hj))
theorem stT_d (j:Nat) (hj:j<2078):stT.getD (922+(335+(4+j))) undef = .int .u8 0:=(getD_skip _ _ 922 _ (List.length_replicate ..)).trans ((getD_skip _ _ 335 _ (List.length_replicate ..)).trans ((getD_skip _ _ 4 j (List.length_replicate ..)).trans (by
 have:=getD_rep 2078 j (.int .u8 0) [] hj
 rw[List.append_nil] at this;exact this)))
theorem stV_of (sum:Nat):StV (fun j=>(stH++(stT++[Value.int .i64 0,.int .u32 (sum:Int)])).getD j undef) 0 (st0 sum):=by
 have h10:stH.length=10:=rfl
 obtain ⟨L,hL⟩:∃ L,L=stH++(stT++[Value.int .i64 0,.int .u32 (sum:Int)]):=⟨_,rfl⟩
 rw[<- hL]
 have g:∀ i v,i<10->stH.getD i undef=v->L.getD i undef=v:=fun i v hi e=>by rw[hL];exact (getD_front _ _ i (by rw[h10];exact hi)).trans e
 have t:∀ j v,j<3339->stT.getD j undef=v->L.getD (10+j) undef=v:=fun j v hj e=>by
  rw[hL]
  exact (getD_skip _ _ 10 j h10).trans ((getD_front _ _ j (by rw[stT_len];exact hj)).trans e)
 have u:∀ j v,[Value.int .i64 0,.int .u32 (sum:Int)].getD j undef=v->L.getD (3349+j) undef=v:=fun j v e=>by
  rw[hL,show 3349+j=10+(3339+j) from by omega]
  exact (getD_skip _ _ 10 _ h10).trans ((getD_skip _ _ 3339 j stT_len).trans e)
 have A:∀ i,10<=i->i<932->L.getD i undef = .int .i64 0:=fun i h1 h2=>by
  have:=t (i - 10) _ (by omega) (stT_a (i - 10) (by omega))
  rw[show 10+(i - 10)=i from by omega] at this;exact this
 have B:∀ i,932<=i->i<1267->L.getD i undef = .int .u8 0:=fun i h1 h2=>by
  have:=t (922+(i - 932)) _ (by omega) (stT_b (i - 932) (by omega))
  rw[show 10+(922+(i - 932))=i from by omega] at this;exact this
 have C:∀ i,1267<=i->i<1271->L.getD i undef = .int .i64 0:=fun i h1 h2=>by
  have:=t (922+(335+(i - 1267))) _ (by omega) (stT_c (i - 1267) (by omega))
  rw[show 10+(922+(335+(i - 1267)))=i from by omega] at this;exact this
 have D:∀ i,1271<=i->i<3349->L.getD i undef = .int .u8 0:=fun i h1 h2=>by
  have:=t (922+(335+(4+(i - 1271)))) _ (by omega) (stT_d (i - 1271) (by omega))
  rw[show 10+(922+(335+(4+(i - 1271))))=i from by omega] at this;exact this
 clear hL t
 refine ⟨g 0 _ (by omega) rfl,g 1 _ (by omega) rfl,g 2 _ (by omega) rfl,g 3 _ (by omega) rfl,⟨g 4 _ (by omega) rfl,g 5 _ (by omega) rfl,g 6 _ (by omega) rfl⟩,g 7 _ (by omega) rfl,g 8 _ (by omega) rfl,g 9 _ (by omega) rfl,A _ (by omega) (by omega),?_,?_,?_,C _ (by omega) (by omega),C _ (by omega) (by omega),fun i hi=>D _ (by omega) (by omega),u 0 _ rfl,u 1 _ rfl⟩
 ·exact ⟨fun i hi=>A _ (by omega) (by omega),fun i hi=>A _ (by omega) (by omega),A _ (by omega) (by omega),A _ (by omega) (by omega)⟩
 ·exact ⟨fun i hi=>A _ (by omega) (by omega),fun i hi=>A _ (by omega) (by omega),A _ (by omega) (by omega),A _ (by omega) (by omega)⟩
 ·exact ⟨A _ (by omega) (by omega),A _ (by omega) (by omega),A _ (by omega) (by omega),⟨fun i hi=>A _ (by omega) (by omega),fun i hi=>A _ (by omega) (by omega),A _ (by omega) (by omega),A _ (by omega) (by omega)⟩,fun i hi=>B _ (by omega) (by omega),fun i hi=>B _ (by omega) (by omega),C _ (by omega) (by omega),C _ (by omega) (by omega)⟩
theorem set_last2 (P T:List Value) (a z v:Value) (n:Nat) (hn:P.length+T.length+1=n):(P++(T++[a,z])).set n v=P++(T++[a,v]):=by
 rw[List.set_append_right _ _ (by omega),List.set_append_right _ _ (by omega),show n - P.length - T.length=1 from by omega];rfl
theorem lay_st:∃ A:List Value,Tryz.zeroCells89.toList.set 3350 (.int .u32 1)=A/\A.length=3351/\StV (fun j=>A.getD j undef) 0 (st0 1):=by
 have h10:stH.length=10:=rfl
 rw[zero3351,set_last2 stH stT _ _ _ 3350 (by rw[stT_len,h10])]
 refine ⟨_,rfl,?_,stV_of 1⟩
 rw[List.length_append,List.length_append,stT_len,h10]
 simp only [List.length_cons,List.length_nil]
theorem CSV.one {c:Nat->Value} {o:Nat} {s:CS} (h:CSV c o s) (i:Nat) (hi:i<306):(c (o+i)).oneCell'=true:=by
 by_cases h0:i<16
 ·rw[h.count i h0];rfl
 ·by_cases h1:i<304
  ·have:=h.sym (i - 16) (by omega)
   rw[show o+16+(i - 16)=o+i from by omega] at this;rw[this];rfl
  ·have:i=304\/i=305:=by omega
   rcases this with rfl | rfl
   ·rw[h.total];rfl
   ·rw[h.longest];rfl
theorem TbV.one {c:Nat->Value} {o:Nat} {s:Tb} (h:TbV c o s) (i:Nat) (hi:i<646):(c (o+i)).oneCell'=true:=by
 by_cases h0:i<3
 ·have:i=0\/i=1\/i=2:=by omega
  rcases this with rfl | rfl | rfl
  ·rw[show c (o+0)=_ from h.literals];rfl
  ·rw[h.distances];rfl
  ·rw[h.shorts];rfl
 ·by_cases h1:i<309
  ·have:=h.short.one (i - 3) (by omega)
   rw[show o+3+(i - 3)=o+i from by omega] at this;exact this
  ·by_cases h2:i<328
   ·have:=h.sl (i - 309) (by omega)
    rw[show o+309+(i - 309)=o+i from by omega] at this;rw[this];rfl
   ·by_cases h3:i<644
    ·have:=h.ls (i - 328) (by omega)
     rw[show o+328+(i - 328)=o+i from by omega] at this;rw[this];rfl
    ·have:i=644\/i=645:=by omega
     rcases this with rfl | rfl
     ·rw[h.told];rfl
     ·rw[h.rep];rfl
theorem StV.one {c:Nat->Value} {o:Nat} {s:St} (h:StV c o s) (i:Nat) (hi:i<3351):(c (o+i)).oneCell'=true:=by
 by_cases h0:i<11
 ·have:i=0\/i=1\/i=2\/i=3\/i=4\/i=5\/i=6\/i=7\/i=8\/i=9\/i=10:=by omega
  rcases this with rfl | rfl | rfl | rfl | rfl | rfl | rfl | rfl | rfl | rfl | rfl
  ·rw[show c (o+0)=_ from h.part];rfl
  ·rw[h.number];rfl
  ·rw[h.got];rfl
  ·rw[h.wanted];rfl
  ·rw[h.path.bits];rfl
  ·rw[show c (o+5)=_ from h.path.offset];rfl
  ·rw[show c (o+6)=_ from h.path.ahead];rfl
  ·rw[h.skip];rfl
  ·rw[h.window];rfl
  ·rw[h.last];rfl
  ·rw[h.left];rfl
 ·by_cases h1:i<317
  ·have:=h.lit.one (i - 11) (by omega)
   rw[show o+11+(i - 11)=o+i from by omega] at this;exact this
  ·by_cases h2:i<623
   ·have:=h.dist.one (i - 317) (by omega)
    rw[show o+317+(i - 317)=o+i from by omega] at this;exact this
   ·by_cases h3:i<1269
    ·have:=h.tb.one (i - 623) (by omega)
     rw[show o+623+(i - 623)=o+i from by omega] at this;exact this
    ·by_cases h4:i<1271
     ·have:i=1269\/i=1270:=by omega
      rcases this with rfl | rfl
      ·rw[h.length];rfl
      ·rw[h.base];rfl
     ·by_cases h5:i<3349
      ·have:=h.hist (i - 1271) (by omega)
       rw[show o+1271+(i - 1271)=o+i from by omega] at this;rw[this];rfl
      ·have:i=3349\/i=3350:=by omega
       rcases this with rfl | rfl
       ·rw[h.count];rfl
       ·rw[h.sum];rfl
theorem wthn_in' {f s n i:Nat} (hs:1<=s) (hi:i<wthn f s n):f+i*s<n:=by
 unfold wthn at hi
 split at hi
 ·omega
 ·have h1:i<=(n - f - 1) / s:=by omega
  have h2:i*s<=(n - f - 1) / s*s:=Nat.mul_le_mul_right _ h1
  have h3:=Nat.div_mul_le_self (n - f - 1) s
  omega
theorem cntP_le7 (L:Nat):1<=cntP L/\cntP L<=7:=by unfold cntP;split<;>omega
structure RwJ (r:Rw):Prop where
 ok:RwOk r
 dd:okD r.hd.D
 col:r.columns<=16
 lns:r.lines<=16
 line:r.line<=16
 size:r.size<=128
 tk:r.taken<=128
 p0:0<=r.pass
 p7:r.pass<=7
 colours:r.colours<=256
 geo:wholeP r=false->r.columns=wthn r.ps.cf r.ps.cs r.hd.W/\r.line<wthn r.ps.rf r.ps.rs r.hd.H/\r.lines=wthn r.ps.rf r.ps.rs r.hd.H
theorem RwJ.good {r:Rw} (j:RwJ r):RwGood r:=by
 have po:=psOf_ok r.hd.L r.pass.toNat
 refine ⟨⟨j.ok,j.dd,j.col,j.lns,j.line,?_,j.size,by have:=j.tk;omega,j.p0,j.p7,j.colours⟩,j.tk,fun w => ?_⟩
 ·have h3:r.columns*bitsP r.hd<=16*64:=Nat.mul_le_mul j.col (bitsP_le j.ok)
  omega
 ·obtain ⟨g1,g2,g3⟩:=j.geo w
  refine ⟨fun i hi => ?_,?_⟩
  ·rw[g1] at hi
   exact Nat.lt_of_lt_of_le (wthn_in' po.2.1 hi) j.ok.W
  ·exact Nat.lt_of_lt_of_le (wthn_in' po.2.2.2.2.2.1 g2) j.ok.H
structure NpJ (r q:Rw):Prop where
 hd:q.hd=r.hd
 colours:q.colours=r.colours
 taken:q.taken=r.taken
 col:q.columns<=16
 lns:q.lines<=16
 p0:0<=q.pass
 p7:q.pass<=(cntP r.hd.L:Int)
 geo:wholeP q=false->q.columns=wthn q.ps.cf q.ps.cs r.hd.W/\0<wthn q.ps.rf q.ps.rs r.hd.H/\q.lines=wthn q.ps.rf q.ps.rs r.hd.H
theorem npJ:∀ (n:Nat) (r:Rw) (p:Nat),r.pass=(p:Int)->p<=cntP r.hd.L->cntP r.hd.L<p+n->r.hd.W<=16->r.hd.H<=16->r.columns<=16->r.lines<=16->NpJ r (npGo n r)
 | 0,r,p,hp,h1,h2,_,_,_,_=>by omega
 | n+1,r,p,hp,h1,h2,hW,hH,hc,hl=>by
  have po:=psOf_ok r.hd.L r.pass.toNat
  have ego:npGo (n+1) r=if r.pass<(cntP r.hd.L:Int) then (if 0<(npSet r).columns/\0<(npSet r).lines then npSet r else npGo n { npSet r with pass:=r.pass+1 }) else r:=rfl
  have c1:(npSet r).columns=wthn r.ps.cf r.ps.cs r.hd.W:=rfl
  have c2:(npSet r).lines=wthn r.ps.rf r.ps.rs r.hd.H:=rfl
  have b1:(npSet r).columns<=16:=wthn_le po.2.1 hW
  have b2:(npSet r).lines<=16:=wthn_le po.2.2.2.2.2.1 hH
  rw[ego]
  by_cases q1:r.pass<(cntP r.hd.L:Int)
  ·rw[if_pos q1]
   by_cases q2:0<(npSet r).columns/\0<(npSet r).lines
   ·rw[if_pos q2]
    exact ⟨rfl,rfl,rfl,b1,b2,by show 0<=r.pass;omega,by show r.pass<=_;omega,fun _=>⟨rfl,q2.2,rfl⟩⟩
   ·rw[if_neg q2]
    have ih:=npJ n { npSet r with pass:=r.pass+1 } (p+1) (by show r.pass+1=((p+1:Nat):Int);rw[hp];omega) (by show p+1<=cntP r.hd.L;omega) (by show cntP r.hd.L<p+1+n;omega) hW hH b1 b2
    exact ⟨ih.hd,ih.colours,ih.taken,ih.col,ih.lns,ih.p0,ih.p7,ih.geo⟩
  ·rw[if_neg q1]
   refine ⟨rfl,rfl,rfl,hc,hl,by omega,by omega,fun w => ?_⟩
   unfold wholeP at w
   have:=of_decide_eq_false w
   omega
theorem next_j {r:Rw} (ok:RwOk r) (dd:okD r.hd.D) (col:r.columns<=16) (lns:r.lines<=16) (tk:r.taken<=128) (cl:r.colours<=256) (p:Nat) (hp:r.pass+1=(p:Int)) (hp2:p<=cntP r.hd.L):RwJ r.next:=by
 have hc:=cntP_le7 r.hd.L
 have n:=npJ 8 { r with pass:=r.pass+1 } p hp hp2 (by show cntP r.hd.L<p+8;omega) ok.W ok.H col lns
 have k:=npGo_ok 8 { r with pass:=r.pass+1 } ⟨ok.W,ok.H,ok.D,ok.K,ok.L,ok.filter,ok.row,ok.above⟩
 unfold Rw.next
 generalize npGo 8 { r with pass:=r.pass+1 }=q at *
 have e1:q.hd=r.hd:=n.hd
 have e2:q.colours=r.colours:=n.colours
 have e3:q.taken=r.taken:=n.taken
 have e4:q.pass<=(cntP r.hd.L:Int):=n.p7
 have g:=n.geo
 replace g:wholeP q=false->q.columns=wthn q.ps.cf q.ps.cs r.hd.W/\0<wthn q.ps.rf q.ps.rs r.hd.H/\q.lines=wthn q.ps.rf q.ps.rs r.hd.H:=g
 rw[<- e1] at g
 refine ⟨⟨k.W,k.H,k.D,k.K,k.L,k.filter,k.row,fun i=>by show 0<256;omega⟩,by show okD q.hd.D;rw[e1];exact dd,n.col,n.lns,by show 0<=16;omega,?_,by show q.taken<=128;omega,n.p0,by show q.pass<=7;omega,by show q.colours<=256;omega,fun w=>g w⟩
 have h3:q.columns*bitsP q.hd<=16*64:=Nat.mul_le_mul n.col (bitsP_le k)
 show (q.columns*bitsP q.hd+7) / 8<=128
 omega
theorem RwJ.start {h:Hd} {C:Nat} (hW:h.W<=16) (hH:h.H<=16) (hD:h.D<=16) (hK:h.K<=6) (hL:h.L<=1) (dd:okD h.D) (hC:C<=256):RwJ (Rw.start h C) :=
 next_j (r:=rw0 h C) ⟨hW,hH,hD,hK,hL,by show 0<256;omega,fun i=>by show 0<256;omega,fun i=>by show 0<256;omega⟩ dd (by show 0<=16;omega) (by show 0<=16;omega) (by show 0<=128;omega) hC 0 (by show (-1:Int)+1=0;decide) (by omega)
theorem RwOk.lay {r:Rw} (h:RwOk r) (i x:Nat):RwOk (r.lay i x):=⟨h.W,h.H,h.D,h.K,h.L,h.filter,fun j=>by
 show upd r.row i (undo r i x) j<256
 by_cases e:j=i
 ·subst e;rw[upd_same];exact Nat.mod_lt _ (by omega)
 ·rw[upd_ne _ _ _ e];exact h.row j,h.above⟩
theorem RwJ.take {r:Rw} {x:Nat} (j:RwJ r) (he:(r.take x).2=0):RwJ (r.take x).1:=by
 unfold Rw.take at he ⊢
 by_cases w:wholeP r=true
 ·rw[if_pos w] at he;exact absurd he (by show ¬ 17=0;omega)
 rw[if_neg w] at he ⊢
 have wf:wholeP r=false:=by cases h:wholeP r with | false=>rfl | true=>exact absurd h w
 have ok:=j.ok
 by_cases t0:r.taken=0
 ·rw[if_pos t0] at he ⊢
  unfold Rw.takeF at he ⊢
  by_cases h4:4<x
  ·rw[if_pos h4] at he;exact absurd he (by show ¬ 15=0;omega)
  ·rw[if_neg h4]
   exact ⟨⟨ok.W,ok.H,ok.D,ok.K,ok.L,by show x<256;omega,ok.row,ok.above⟩,j.dd,j.col,j.lns,j.line,j.size,by show 1<=128;omega,j.p0,j.p7,j.colours,j.geo⟩
 rw[if_neg t0] at he ⊢
 by_cases t1:r.taken+1<=r.size
 ·rw[if_pos t1]
  have ok1:RwOk { r with taken:=r.taken+1 }:=⟨ok.W,ok.H,ok.D,ok.K,ok.L,ok.filter,ok.row,ok.above⟩
  have hs:=j.size
  exact ⟨ok1.lay _ _,j.dd,j.col,j.lns,j.line,j.size,by show r.taken+1<=128;omega,j.p0,j.p7,j.colours,j.geo⟩
 rw[if_neg t1] at he ⊢
 obtain ⟨q,hq⟩:∃ q,q=({ r with taken:=r.taken+1 }:Rw).lay (r.taken - 1) x:=⟨_,rfl⟩
 have kq:RwOk q:=by
  have ok1:RwOk { r with taken:=r.taken+1 }:=⟨ok.W,ok.H,ok.D,ok.K,ok.L,ok.filter,ok.row,ok.above⟩
  rw[hq];exact ok1.lay _ _
 have q1:okD q.hd.D:=by rw[hq];exact j.dd
 have q2:q.columns<=16:=by rw[hq];exact j.col
 have q3:q.lines<=16:=by rw[hq];exact j.lns
 have q4:q.size<=128:=by rw[hq];exact j.size
 have q5:0<=q.pass:=by rw[hq];exact j.p0
 have q6:q.pass<=7:=by rw[hq];exact j.p7
 have q7:q.colours<=256:=by rw[hq];exact j.colours
 have q8:wholeP q=false:=by rw[hq];exact wf
 have q9:q.columns=wthn q.ps.cf q.ps.cs q.hd.W/\q.line<wthn q.ps.rf q.ps.rs q.hd.H/\q.lines=wthn q.ps.rf q.ps.rs q.hd.H:=by rw[hq];exact j.geo wf
 rw[<- hq] at he ⊢
 clear hq
 unfold Rw.endRow at he ⊢
 by_cases hb:q.bad=true
 ·rw[if_pos hb] at he;exact absurd he (by show ¬ 16=0;omega)
 rw[if_neg hb]
 show RwJ (if q.lines<=q.line+1 then q.laid.next else q.laid)
 obtain ⟨l1,l2,l3,l4,l5,l6,l7,l8,l9,l10,l11⟩:=layPx_same q q.columns
 have lk:=laid_ok kq
 have e1:q.laid.hd=q.hd:=l1
 have e2:q.laid.colours=q.colours:=l2
 have e3:q.laid.pass=q.pass:=l3
 have e5:q.laid.columns=q.columns:=l5
 have e6:q.laid.lines=q.lines:=l6
 have e7:q.laid.size=q.size:=l7
 have hpl:q.pass<(cntP q.hd.L:Int):=by
  unfold wholeP at q8
  have:=of_decide_eq_false q8
  omega
 by_cases hn:q.lines<=q.line+1
 ·rw[if_pos hn]
  exact next_j lk (by rw[e1];exact q1) (by rw[e5];exact q2) (by rw[e6];exact q3) (by show 0<=128;omega) (by rw[e2];exact q7) (q.pass.toNat+1) (by rw[e3];omega) (by rw[e1];omega)
 ·rw[if_neg hn]
  have ep:q.laid.ps=q.ps:=by show psOf q.laid.hd.L q.laid.pass.toNat=psOf q.hd.L q.pass.toNat;rw[e1,e3]
  refine ⟨lk,by rw[e1];exact q1,by rw[e5];exact q2,by rw[e6];exact q3,by show q.line+1<=16;omega,by rw[e7];exact q4,by show 0<=128;omega,by rw[e3];exact q5,by rw[e3];exact q6,by rw[e2];exact q7,fun _ => ?_⟩
  rw[e5,e6,ep,e1]
  refine ⟨q9.1,?_,q9.2.2⟩
  show q.line+1<_
  omega
structure StK (s:St):Prop where
 lit:CSOk s.lit
 dist:CSOk s.dist
 short:CSOk s.tb.short
 sym:∀ i,s.tb.short.sym i<=18
 len:s.length<=300
 base:s.base<=30000
 win:s.window<=32768
 cnt:s.count<=2078
 hist:∀ j,s.hist j<256
 sum:s.sum<4294967296
 sl:∀ i,s.tb.sl i<256
 ls:∀ i,s.tb.ls i<256
 left:s.left<=65535
structure Wnt (p w:Nat):Prop where
 w0:p=0->w=16
 w1:p=1->w=3
 w2:p=2->w=32
 w3:p=3->w=8
 w4:p=4->w=14
 w5:p=5->w=3
 w6:p=6->1<=w/\w<=7
 w7:p=7->1<=w/\w<=5
 w8:p=8->1<=w/\w<=13
 w9:p=9->w=32
structure StP (s:St):Prop where
 part:s.part<=13
 want:Wnt s.part s.wanted
 left:s.part=3->1<=s.left
 l7:s.part=7->s.length<=258
 t5:s.part=5->s.tb.told<s.tb.shorts/\s.tb.shorts<=19
 tb:s.part=5\/s.part=6\/s.part=11->257<=s.tb.literals/\s.tb.literals<=286/\1<=s.tb.distances/\s.tb.distances<=30
 td:s.part=6\/s.part=11->s.tb.told<=s.tb.literals+s.tb.distances
 rep:s.part=6->s.tb.rep=16\/s.tb.rep=17\/s.tb.rep=18
structure PtJ (p:Pt):Prop where
 bits:p.bits<=14
 offset:p.offset<2^p.bits
 ahead:p.ahead<=288*p.bits
structure StJ (s:St):Prop where
 k:StK s
 p:StP s
 got:s.part<=9->s.got<s.wanted
 num:s.number<2^s.got
 path:PtJ s.path
theorem PtJ.ok {p:Pt} (h:PtJ p):PtOk p:=by
 have h1:=h.bits
 have h2:=h.offset
 have h3:=h.ahead
 have h4:2^p.bits<=2^14:=Nat.pow_le_pow_right (by omega) h1
 exact ⟨by omega,by omega,by omega⟩
theorem CS.step_more {c:CS} {p:Pt} {t:Nat} (hc:CSOk c) (hp:PtJ p) (ht:t<=1) (h:(c.step p t).2 = -1):PtJ (c.step p t).1:=by
 unfold CS.step at h ⊢
 by_cases h1:c.longest<p.bits+1\/15<p.bits+1
 ·rw[if_pos h1] at h;exact absurd h (by show ¬ (-2:Int) = -1;decide)
 rw[if_neg h1] at h ⊢
 by_cases h2:2*p.offset+t<c.count (p.bits+1)
 ·rw[if_pos h2] at h
  replace h:c.symbol (p.ahead+(2*p.offset+t)) = -1:=h
  unfold CS.symbol at h
  split at h
  ·exact absurd h (by decide)
  ·omega
 rw[if_neg h2] at h ⊢
 replace h:(if p.bits+1=c.longest then (-2:Int) else -1) = -1:=h
 by_cases h3:p.bits+1=c.longest
 ·rw[if_pos h3] at h;exact absurd h (by decide)
 have hl:=hc.longest
 have hcc:=hc.count (p.bits+1) (by omega)
 have ho:=hp.offset
 have ha:=hp.ahead
 refine ⟨by show p.bits+1<=14;omega,?_,?_⟩
 ·show 2*p.offset+t - c.count (p.bits+1)<2^(p.bits+1)
  rw[Nat.pow_succ];omega
 ·show p.ahead+c.count (p.bits+1)<=288*(p.bits+1)
  omega
theorem CS.step_lo (c:CS) (p:Pt) (t:Nat) : -2<=(c.step p t).2:=by
 unfold CS.step
 split
 ·show (-2:Int) <= -2;decide
 split
 ·show (-2:Int)<=c.symbol _
  unfold CS.symbol
  split
  ·decide
  ·omega
 ·show (-2:Int)<=(if p.bits+1=c.longest then (-2:Int) else -1)
  split<;>decide
theorem CS.step_hi (c:CS) (p:Pt) (t M:Nat) (h:∀ i,i<288->c.sym i<=M):(c.step p t).2<=M:=by
 unfold CS.step
 split
 ·show (-2:Int)<=M;omega
 split
 ·show c.symbol _<=M
  unfold CS.symbol
  split
  ·omega
  ·rename_i q
   have:=h (p.ahead+(2*p.offset+t)) (by omega)
   omega
 ·show (if p.bits+1=c.longest then (-2:Int) else -1)<=M
  split<;>omega
theorem StK.enter {s:St} (k:StK s) (p w:Nat):StK (s.enter p w):=⟨k.lit,k.dist,k.short,k.sym,k.len,k.base,k.win,k.cnt,k.hist,k.sum,k.sl,k.ls,k.left⟩
theorem enterJ {s:St} {p w:Nat} (k:StK s) (q:StP (s.enter p w)):StJ (s.enter p w):=by
 refine ⟨k.enter p w,q,fun h => ?_,by show 0<2^0;decide,⟨by show 0<=14;omega,by show 0<2^0;decide,by show 0<=288*0;omega⟩⟩
 show 0<w
 have a:=q.want
 replace a:Wnt p w:=a
 replace h:p<=9:=h
 have:p=0\/p=1\/p=2\/p=3\/p=4\/p=5\/p=6\/p=7\/p=8\/p=9:=by omega
 rcases this with e | e | e | e | e | e | e | e | e | e
 ·have:=a.w0 e;omega
 ·have:=a.w1 e;omega
 ·have:=a.w2 e;omega
 ·have:=a.w3 e;omega
 ·have:=a.w4 e;omega
 ·have:=a.w5 e;omega
 ·have:=a.w6 e;omega
 ·have:=a.w7 e;omega
 ·have:=a.w8 e;omega
 ·have:=a.w9 e;omega
theorem enterS {s:St} {p w:Nat} (k:StK s) (hp:p<=13) (hw:Wnt p w) (h3:p≠3) (h5:p≠5) (h6:p≠6) (h7:p≠7) (h11:p≠11):StJ (s.enter p w) :=
 enterJ k ⟨hp,hw,fun q=>absurd q h3,fun q=>absurd q h7,fun q=>absurd q h5,fun q=>by rcases q with q | q | q<;>exact absurd q (by assumption),fun q=>by rcases q with q | q<;>exact absurd q (by assumption),fun q=>absurd q h6⟩
theorem Wnt.any {p w:Nat} (h:10<=p):Wnt p w:=⟨fun q=>by omega,fun q=>by omega,fun q=>by omega,fun q=>by omega,fun q=>by omega,fun q=>by omega,fun q=>by omega,fun q=>by omega,fun q=>by omega,fun q=>by omega⟩
theorem Wnt.w_1:Wnt 1 3:=⟨by omega,by omega,by omega,by omega,by omega,by omega,by omega,by omega,by omega,by omega⟩
theorem Wnt.w_2:Wnt 2 32:=⟨by omega,by omega,by omega,by omega,by omega,by omega,by omega,by omega,by omega,by omega⟩
theorem Wnt.w_3:Wnt 3 8:=⟨by omega,by omega,by omega,by omega,by omega,by omega,by omega,by omega,by omega,by omega⟩
theorem Wnt.w_4:Wnt 4 14:=⟨by omega,by omega,by omega,by omega,by omega,by omega,by omega,by omega,by omega,by omega⟩
theorem Wnt.w_5:Wnt 5 3:=⟨by omega,by omega,by omega,by omega,by omega,by omega,by omega,by omega,by omega,by omega⟩
theorem Wnt.w_6 {w:Nat} (h1:1<=w) (h2:w<=7):Wnt 6 w:=⟨by omega,by omega,by omega,by omega,by omega,by omega,by omega,by omega,by omega,by omega⟩
theorem Wnt.w_7 {w:Nat} (h1:1<=w) (h2:w<=5):Wnt 7 w:=⟨by omega,by omega,by omega,by omega,by omega,by omega,by omega,by omega,by omega,by omega⟩
theorem Wnt.w_8 {w:Nat} (h1:1<=w) (h2:w<=13):Wnt 8 w:=⟨by omega,by omega,by omega,by omega,by omega,by omega,by omega,by omega,by omega,by omega⟩
theorem Wnt.w_9:Wnt 9 32:=⟨by omega,by omega,by omega,by omega,by omega,by omega,by omega,by omega,by omega,by omega⟩
theorem Wnt.w_0:Wnt 0 16:=⟨by omega,by omega,by omega,by omega,by omega,by omega,by omega,by omega,by omega,by omega⟩
theorem cs00_ok:CSOk cs00:=⟨fun _ _=>by show 0<=288;omega,fun _ _=>by show 0<288;omega,by show 0<=288;omega,by show 0<=15;omega⟩
theorem StJ.start:StJ St.start:=by
 refine enterS (s:=st0 1) ⟨cs00_ok,cs00_ok,cs00_ok,fun _=>by show 0<=18;omega,by show 0<=300;omega,by show 0<=30000;omega,by show 0<=32768;omega,by show 0<=2078;omega,fun _=>by show 0<256;omega,by show 1<4294967296;omega,fun _=>by show 0<256;omega,fun _=>by show 0<256;omega,by show 0<=65535;omega⟩ (by omega) Wnt.w_0 (by omega) (by omega) (by omega) (by omega) (by omega)
