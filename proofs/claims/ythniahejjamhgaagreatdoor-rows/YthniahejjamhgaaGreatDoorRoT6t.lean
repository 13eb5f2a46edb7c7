import Derived.Test.YthniahejjamhgaaGreatDoorRoT6a
set_option maxRecDepth 100000
set_option maxHeartbeats 6400000
namespace Go.Proofs.YthniahejjamhgaaGreatDoor
open Go.RowKit
set_option linter.unusedSimpArgs false
set_option linter.unusedVariables false
def fromRegion (n:Nat):Code->Option Code
 | .seq (.region k o d) b=>if k=n then some (.seq (.region k o d) b) else fromRegion n b
 | .seq _ b=>fromRegion n b
 | _=>none
theorem image_tail (u1 u2 u4 u5 u7 u9 u10 u11 u12 u13 u14 u15 u16 u17 u18 u19 u20 u21 u22 u23 u24 u25 u26 u27 u28 u29 u30 u31 u32 u33 u34 u35 u36 u37 u38 u39 u40 u41 u42 u43 u44 u45 u46 u47 u48 u49 u50 u51 u52 u53 u54 u55 u56 u57 u58 u59 u60 u61 u62 u63 u64 u65 u66 u67 u68 u69 u70 u71 u72 u73 u74 u75 u76 u77 u78 u79 u80 u81 u82 u83 u84 u85 u86 u87 u88 u89 u90 u91 u92 u93 u94 u95 u96 u97 u98 u99 u100 u101 u102 u103 u104 u105 u106 u107 u108 u109 u110 u111 u112 u113 u114 u115 u116 u117 u118 u119 u120 u121 u122 u123 u124 u125 u126 u127 u128 u129 u130 u131 u132 u133 u134 u135 u136 u137 u138 u139 u140 u141 u142 u143 u144 u145 u146 u147 u148 u149 u150 u151 u152 u153 u154 u155 u156 u157 u158 u159 u160 u161 u162 u163 u164 u165 u166 u167 u168 u169 u170 u171 u172 u173 u174 u175 u176 u177 u178 u179 u180 u181 u182 u183 u184 u185 u186 u187 u188 u189 u190 u191 u192 u193 u194 u195 u196 u197 u198 u199 u200 u201 u202 u203 u204 u205 u206 u207 u208 u209:Value) (x wd H K D L M:Nat) (pv qv:Value) (pl ql:List Int) (s t:ByteArray) (w wc:World) (hx:x<w.heap.size) (hs:s.size<=65536) (ht:t.size<=65536) (hlg:Hid (legal K D)) (hG:Hid (ImG1 K D M pl ql)) (hL:L<2) (hwd1:1<=wd) (hwd2:wd<=16) (hH1:1<=H) (hH2:H<=16) (hm1:1<=M) (hm2:M<=65536)
  (hI:Hid (ImAt w wc x (w.heap.size+1) w.heap.size s t (imU w x wd H K D L) pv qv (.slice none 0 0) pl ql [])) :
  Code.wp Tryz.prog ((Tryz.f8.body.bind (fromRegion 21)).getD .skip) (bodyPost Tryz.prog Tryz.f8 fun r w'=>r = .returned (.tuple #[])/\∃ wd H K D L:Nat,∃ pp qp xp:Option Addr,∃ pc qc xc:Nat,∃ pal clr pix:List Int,ImR w w' x wd H K D L pp qp xp pc qc xc pal clr pix) ⟨#[.pointer (some ⟨x,0,none⟩),u1,u2,.pointer (some ⟨w.heap.size,0,none⟩),u4,u5,.int .i64 (K:Int),u7,.int .i64 (M:Int),u9,u10,u11,u12,u13,u14,u15,u16,u17,u18,u19,u20,u21,u22,u23,u24,u25,u26,u27,u28,u29,u30,u31,u32,u33,u34,u35,u36,u37,u38,u39,u40,u41,u42,u43,u44,u45,u46,u47,u48,u49,u50,u51,u52,u53,u54,u55,u56,u57,u58,u59,u60,u61,u62,u63,u64,u65,u66,u67,u68,u69,u70,u71,u72,u73,u74,u75,u76,u77,u78,u79,u80,u81,u82,u83,u84,u85,u86,u87,u88,u89,u90,u91,u92,u93,u94,u95,u96,u97,u98,u99,u100,u101,u102,u103,u104,u105,u106,u107,u108,u109,u110,u111,u112,u113,u114,u115,u116,u117,u118,u119,u120,u121,u122,u123,u124,u125,u126,u127,u128,u129,u130,u131,u132,u133,u134,u135,u136,u137,u138,u139,u140,u141,u142,u143,u144,u145,u146,u147,u148,u149,u150,u151,u152,u153,u154,u155,u156,u157,u158,u159,u160,u161,u162,u163,u164,u165,u166,u167,u168,u169,u170,u171,u172,u173,u174,u175,u176,u177,u178,u179,u180,u181,u182,u183,u184,u185,u186,u187,u188,u189,u190,u191,u192,u193,u194,u195,u196,u197,u198,u199,u200,u201,u202,u203,u204,u205,u206,u207,u208,u209],[]⟩ wc:=by
 conv=>arg 2;whnf
 have k4:=hI.out.o4;go_wp2_with fail;refine (channels_any K _ (legal_K hlg.out)).mono ?_;rintro r wc' ⟨rfl,hw⟩;subst hw;obtain ⟨C1,hC1⟩:∃ C1:Nat,C1=chan K:=⟨_,rfl⟩;have hC12:1<=C1/\C1<=4:=by
  rw[hC1];rcases legal_K hlg.out with rfl | rfl | rfl | rfl | rfl<;>decide
 rw[<- hC1];replace hC1:Hid _:=hC1;go_upto_region 22 with fail
 go_cut [6,13,131] from 20 (fun k6 c13 b W=>k6 = .int .i64 (K:Int)/\c13 = .int .i64 (C1:Int)/\b = .bool (decide ((K=0\/K=2)/\0<t.size))/\W=wc')
 case first=>
  clear hG hI hlg;go_wp2
  all_goals
   go_meet
   case rel=>
    exact ⟨val_int (by omega),rfl,val_bool (by simp;omega),rfl⟩
 case rest=>
  obtain ⟨rfl,rfl,rfl,hw⟩:=hcut;subst hw;go_upto_if 131 with fail
  go_cut [] from 20 (fun W=>∃ qv:Value,∃ ql:List Int,ImG2 K D M pl ql/\ImAt w W x (w.heap.size+1) w.heap.size s t (imU w x wd H K D L) pv qv (.slice none 0 0) pl ql [])
  case first=>
   by_cases hcond:(K=0\/K=2)/\0<t.size
   ·have hcd:decide ((K=0\/K=2)/\0<t.size)=true:=decide_eq_true hcond
    have hG1:Hid (K≠3/\M=2^D/\pl=[]/\ql=[]):=by
     rcases hG.out with ⟨h3,_⟩ | h
     ·omega
     ·exact h
    have FA:Hid (∀ (W':World) (k:Nat),k<=1048576->Calls Tryz.prog 20 #[.string t,.int .i64 (k:Int)] W' fun r w'=>(∃ v:Nat,v<256/\r = .returned (.int .i64 (v:Int)))/\Kept W' w'):=fun W' k hk=>at_any t k W' ht hk
    rw[hcd];clear hcd;go_wp2_with fail;go_loopg [14] C1 (fun k v W=>∃ i:Nat,∃ qv:Value,∃ ql:List Int,v = .int .i64 (i:Int)/\i<=C1/\k=C1 - i/\ql.length=i/\(∀ y ∈ ql,0<=y/\y<(M:Int))/\ImAt w W x (w.heap.size+1) w.heap.size s t (imU w x wd H K D L) pv qv (.slice none 0 0) pl ql [])
    case atStart=>exact ⟨0,_,[],rfl,by omega,by omega,rfl,fun y hy=>by simp at hy,by rw[hG1.out.2.2.2] at hI;exact hI.out⟩
    case round=>
     obtain ⟨i,qv2,ql2,rfl,hi1,hgk,hql,hqb,hI2⟩:=hrel;clear hI k4;by_cases hlt:i<C1
     ·have l1:(i:Int)<(C1:Int):=by omega
      have k4:=hI2.o4;obtain ⟨pq,cq,rfl⟩:=hI2.oq.slice;replace hql:Hid _:=hql;replace hqb:Hid _:=hqb;replace hgk:Hid _:=hgk;replace hI2:Hid (ImAt w wr x (w.heap.size+1) w.heap.size s t (imU w x wd H K D L) pv (.slice pq ql2.length cq) (.slice none 0 0) pl ql2 []):=hI2;have e2i:(2:Int)*(i:Int)=((2*i:Nat):Int):=by omega
      have e2j:(2:Int)*(i:Int)+1=((2*i+1:Nat):Int):=by omega
      replace e2i:Hid _:=e2i;replace e2j:Hid _:=e2j;go_upto_block 5 with fail
      go_cut [] from 132 to 164 (fun W=>∃ qv:Value,∃ ql:List Int,ql.length=i+1/\(∀ y ∈ ql,0<=y/\y<(M:Int))/\ImAt w W x (w.heap.size+1) w.heap.size s t (imU w x wd H K D L) pv qv (.slice none 0 0) pl ql [])
      case first=>
       go_wp2_with fail;rw[e2i.out];refine (FA.out _ (2*i) (by omega)).mono ?_;rintro r wa ⟨⟨v,hv,rfl⟩,hka⟩;have I3:Hid (ImAt w wa x (w.heap.size+1) w.heap.size s t (imU w x wd H K D L) pv (.slice pq ql2.length cq) (.slice none 0 0) pl ql2 []):=hI2.out.kept hka;clear hI2 hka k4;have k4:=I3.out.o4;go_wp2_with fail;rw[e2j.out];refine (FA.out _ (2*i+1) (by omega)).mono ?_;rintro r wb ⟨⟨v2,hv2,rfl⟩,hka⟩;have I4:Hid (ImAt w wb x (w.heap.size+1) w.heap.size s t (imU w x wd H K D L) pv (.slice pq ql2.length cq) (.slice none 0 0) pl ql2 []):=I3.out.kept hka;clear I3 hka k4;have c5:=I4.out.c5;have f5:=I4.out.fz 5;have hszr:=I4.out.size;have hxr:x<wb.heap.size:=by omega
       have HO:Hid (OwnI wb (w.heap.size+1) (.slice pq ql2.length cq) ql2):=I4.out.oq;have hnx:¬ (Value.slice pq ql2.length cq).ownBlock=some x:=fun e=>by have:=HO.out.ge x e;omega
       have hqlb:ql2.length<=64:=by have:=hql.out;omega
       have n1:¬ ((M:Int)=0):=by omega
       have n2:¬ (M=0):=by omega
       obtain ⟨E1,hE1⟩:∃ E1:Int,E1=(IntKind.i64.wrap (IntKind.i64.wrap (256*(v:Int))+(v2:Int))).tmod (M:Int):=⟨_,rfl⟩;have hE1b:0<=E1/\E1<(M:Int):=by
        rw[hE1,wrapZ (256*(v:Int)) (by omega) (by omega),wrapZ _ (by omega) (by omega),Int.tmod_eq_emod_of_nonneg (by omega)];exact ⟨Int.emod_nonneg _ n1,Int.emod_lt_of_pos _ (by omega)⟩
       replace hE1:Hid _:=hE1;go_wp2_with fail;go_region_law ((refine stepI (by rfl) _ _ (by rfl) (w.heap.size+1) (.slice pq ql2.length cq) ql2 (by rfl) (by exact (HO.out.alloc _).drewN 1) wb.heap.size 1 E1 (by rfl) (by rw[hE1.out];simp) (by omega) (by simp;omega) ?_;intro g' cap w2 ho2 hf2 hn2;have fk:Fr (fun k=>(Value.slice pq ql2.length cq).ownBlock=some k) wb w2:=(((Fr.refl _ wb).alloc _).drewN 1).trans hf2;have k5:=(fk.cell (k:=5) hxr hnx).trans c5;have g5:=(fk.frozen (k:=5) hxr hnx).trans f5))
       all_goals
        have C2:Hid (ImAt w (w2.setCell ⟨x,5,none⟩ (Value.slice (some ⟨g',0,none⟩) (ql2.length+1) cap)) x (w.heap.size+1) w.heap.size s t (imU w x wd H K D L) pv (Value.slice (some ⟨g',0,none⟩) (ql2.length+1) cap) (.slice none 0 0) pl (ql2++[E1]) []):=ImAt.grow_q I4.out _ _ fk ho2 (own_hn2 hn2);clear fk hf2 ho2 hn2 k5 g5;go_wp2_with fail;go_meet
        case rel=>
         exact ⟨_,ql2++[E1],app_len hql.out,app_mem hqb.out hE1b,C2.out⟩
      case rest=>
       clear k4 hI2;obtain ⟨qv3,ql3,hl3,hb3,hI3⟩:=hcut;replace hl3:Hid _:=hl3;replace hb3:Hid _:=hb3;replace hI3:Hid _:=hI3;go_wp2_with fail;go_roundg (C1 - (i+1))
       case measure=>rw[hgk.out];omega
       case rel=>exact ⟨i+1,qv3,ql3,by go_num,by omega,rfl,hl3.out,hb3.out,hI3.out⟩
     ·have l1:¬ (i:Int)<(C1:Int):=by omega
      have hi:i=C1:=by omega
      have HX:Hid (∃ qv:Value,∃ ql:List Int,ImG2 K D M pl ql/\ImAt w wr x (w.heap.size+1) w.heap.size s t (imU w x wd H K D L) pv qv (.slice none 0 0) pl ql []):=by
       obtain ⟨a1,a2,a3,a4⟩:=hG1.out;refine ⟨qv2,ql2,Or.inr ⟨a1,a2,a3,Or.inr ⟨hcond.1,?_,?_⟩⟩,hI2⟩
       ·rw[hql,hi];exact hC1.out
       ·rw[<- a2];exact hqb
      clear hql hqb hI2 hi hgk;go_wp2;go_meet
      case rel=>exact HX.out
   ·have hcd:decide ((K=0\/K=2)/\0<t.size)=false:=decide_eq_false hcond
    have HX:Hid (∃ qv:Value,∃ ql:List Int,ImG2 K D M pl ql/\ImAt w wc x (w.heap.size+1) w.heap.size s t (imU w x wd H K D L) pv qv (.slice none 0 0) pl ql []):=by
     refine ⟨qv,ql,?_,hI.out⟩;rcases hG.out with h | ⟨a1,a2,a3,a4⟩
     ·exact Or.inl h
     ·exact Or.inr ⟨a1,a2,a3,Or.inl a4⟩
    clear hI hG;go_wp2;go_meet
    case rel=>exact HX.out
  case rest=>
   clear hG hI;obtain ⟨qv,ql,hG,hI⟩:=hcut;replace hG:Hid _:=hG;replace hI:Hid (ImAt w wc x (w.heap.size+1) w.heap.size s t (imU w x wd H K D L) pv qv (.slice none 0 0) pl ql []):=hI;obtain ⟨T0,hT0⟩:∃ T0:Nat,T0=wd*H:=⟨_,rfl⟩;have hT01:T0<=256:=by rw[hT0];exact Nat.mul_le_mul hwd2 hH2
   obtain ⟨T,hT⟩:∃ T:Nat,T=T0*C1:=⟨_,rfl⟩;have hT1:T<=1024:=by rw[hT];exact Nat.mul_le_mul hT01 hC12.2
   have eT0:(wd:Int)*(H:Int)=(T0:Int):=by rw[hT0];simp
   have eT:(T0:Int)*(C1:Int)=(T:Int):=by rw[hT];simp
   replace hT0:Hid _:=hT0;replace hT:Hid _:=hT;go_upto_block 6 with fail
   exact image_loop4 _ _ _ _ _ _ _ _ _ _ _ _ _ _ _ _ _ _ _ _ _ _ _ _ _ _ _ _ _ _ _ _ _ _ _ _ _ _ _ _ _ _ _ _ _ _ _ _ _ _ _ _ _ _ _ _ _ _ _ _ _ _ _ _ _ _ _ _ _ _ _ _ _ _ _ _ _ _ _ _ _ _ _ _ _ _ _ _ _ _ _ _ _ _ _ _ _ _ _ _ _ _ _ _ _ _ _ _ _ _ _ _ _ _ _ _ _ _ _ _ _ _ _ _ _ _ _ _ _ _ _ _ _ _ _ _ _ _ _ _ _ _ _ _ _ _ _ _ _ _ _ _ _ _ _ _ _ _ _ _ _ _ _ _ _ _ _ _ _ _ _ _ _ _ _ _ _ _ _ _ _ _ _ _ _ _ _ _ _ _ _ _ _ _ _ _ _ _ _ _ _ _ _ _ _ x wd H K D L M C1 T0 T pv qv pl ql s t w wc hx hs hlg hG hL hwd1 hwd2 hH1 hH2 hm1 hm2 hC1 hC12 hT01 hT1 eT0 eT hT0 hT hI
