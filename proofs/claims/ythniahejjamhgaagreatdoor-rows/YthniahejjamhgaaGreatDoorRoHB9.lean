import Derived.Test.YthniahejjamhgaaGreatDoorRoHB7
import Derived.Test.YthniahejjamhgaaGreatDoorRoG6b
set_option maxRecDepth 100000
set_option maxHeartbeats 6400000
namespace Go.Proofs.YthniahejjamhgaaGreatDoor
open Go.RowKit
set_option linter.unusedSimpArgs false
set_option linter.unusedVariables false
theorem adler_any (s b:Int) (w:World) (hs0:0<=s) (hs1:s<4294967296) (hb0:0<=b) (hb1:b<256) :
  Calls Tryz.prog 106 #[.int .u32 s,.int .u8 b] w fun r w'=>(∃ q:Int,0<=q/\q<4294967296/\r = .returned (.int .u32 q))/\w'=w:=by
 go_enter Tryz.func106,Tryz.ntmps106;go_wp2;go_ret;refine ⟨⟨_,?_,?_,rfl⟩,rfl⟩
 ·exact (bounds_u32 (wf_bits _ _ _ _)).1
 ·exact Int.lt_of_le_of_lt (bounds_u32 (wf_bits _ _ _ _)).2 (by omega)
theorem headw_x (x T v:Nat) (v0:Value) (w:World) (h:WS w x v0 T) (hv:v<=7) (hT:T<=274877906944) :
  Calls Tryz.prog 69 #[.pointer (some ⟨x,0,none⟩),.int .i64 (v:Int)] w fun r w'=>r = .returned (.tuple #[])/\WX x w v0 (T+16) w':=by
 have F1:Hid (∀ W t (q:Int),t<=274877907000->0<=q->q<4294967296->WX x w v0 t W->Calls Tryz.prog 101 #[.pointer (some ⟨x,0,none⟩),.int .u32 q,.int .u64 8] W fun r w'=>r = .returned (.tuple #[])/\WX x w v0 (t+8) w'):=fun W t q hk h0 h1 hB=>by
  obtain ⟨v1,s1,r1⟩:=hB;refine (number_x x t 8 q v1 W s1 (by omega) h0 h1 (by omega)).mono ?_;rintro r w' ⟨e,v2,s2,r2⟩;exact ⟨e,v2,s2,r1.trans r2⟩
 have H0:Hid (WX x w v0 T w):=⟨v0,h,WrB.refl _ _ _⟩;clear h;have hv':v=0\/v=1\/v=2\/v=3\/v=4\/v=5\/v=6\/v=7:=by omega
 rcases hv' with rfl | rfl | rfl | rfl | rfl | rfl | rfl | rfl
 all_goals
  clear hv;go_enter Tryz.func69,Tryz.ntmps69;go_wp2_with fail;refine (F1.out _ T _ (by omega) (by decide) (by decide) H0.out).mono ?_;rintro r w1 ⟨rfl,hw1⟩;replace hw1:Hid _:=hw1;go_wp2_with fail;refine (F1.out _ (T+8) _ (by omega) (by decide) (by decide) hw1.out).mono ?_;rintro r w2 ⟨rfl,hw2⟩;replace hw2:Hid _:=hw2;go_wp2;go_end0
  exact ⟨rfl,hw2.out⟩
theorem winsize_any (v:Nat) :
  ∃ z:Int,∀ w:World,Calls Tryz.prog 70 #[.int .i64 (v:Int)] w fun r w'=>r = .returned (.int .i64 z)/\w'=w:=by
 refine ⟨wrap64 (256*2^min (IntKind.u64.wrap (bits BinOp.and IntKind.i64 (v:Int) 7)).toNat 64),fun w => ?_⟩;go_enter Tryz.func70,Tryz.ntmps70;go_wp2;go_ret;exact ⟨rfl,rfl⟩
theorem sumw_x (x T:Nat) (v0 v:Value) (l:List Int) (w:World) (h:WS w x v0 T) (hl:LAt w .u8 v l) (hB:isBytes l) (hn:l.length<=1048576) (hT:T<=274877906944) :
  Calls Tryz.prog 75 #[.pointer (some ⟨x,0,none⟩),v] w fun r w'=>r = .returned (.tuple #[])/\WX x w v0 (T+32) w':=by
 obtain ⟨p,c,rfl⟩:=hl.form;have F5:Hid (∀ W t (q:Int),t<=274877907000->0<=q->q<4294967296->WX x w v0 t W->Calls Tryz.prog 101 #[.pointer (some ⟨x,0,none⟩),.int .u32 q,.int .u64 8] W fun r w'=>r = .returned (.tuple #[])/\WX x w v0 (t+8) w'):=fun W t q hk h0 h1 hB=>by
  obtain ⟨v1,s1,r1⟩:=hB;refine (number_x x t 8 q v1 W s1 (by omega) h0 h1 (by omega)).mono ?_;rintro r w' ⟨e,v2,s2,r2⟩;exact ⟨e,v2,s2,r1.trans r2⟩
 have HL:Hid (LAt w .u8 (.slice p l.length c) l):=hl;have HB:Hid (isBytes l):=hB;have H0:Hid (WS w x v0 T):=h;clear h hl hB;go_enter Tryz.func75,Tryz.ntmps75;go_wp2;go_loopw [4,5] (fun u v W=>∃ k:Nat,∃ q:Int,k<=l.length/\v = .int .i64 (k:Int)/\u = .int .u32 q/\0<=q/\q<4294967296/\Kept w W) (fun _ v _=>l.length - (intOf v).toNat)
 case atStart=>exact ⟨0,1,by omega,rfl,rfl,by omega,by omega,Kept.refl _⟩
 case round=>
  obtain ⟨k,q,hk,rfl,rfl,hq0,hq1,hK⟩:=hrel;by_cases hlt:k<l.length
  ·obtain ⟨g,o,rfl,hc⟩:=(HL.out.kept hK).cellAt k hlt
   have hb:=HB.out _ (getD_mem hlt);have hb0:=hb.1;have hb1:=hb.2;clear hb;generalize l.getD k 0=B at *;have hlt':(k:Int)<(l.length:Int):=by omega
   have hk0:(0:Int)<=(k:Int):=by omega
   have FA:Hid (∀ W,Calls Tryz.prog 106 #[.int .u32 q,.int .u8 B] W fun r w'=>(∃ q:Int,0<=q/\q<4294967296/\r = .returned (.int .u32 q))/\w'=W):=fun W=>adler_any q B W hq0 hq1 hb0 hb1
   replace hK:Hid (Kept w wr):=hK;go_wp2_with fail;refine (FA.out _).mono ?_;rintro r w5 ⟨⟨q5,hq50,hq51,rfl⟩,rfl⟩;go_wp2;exact ⟨⟨k+1,q5,by omega,by go_num,rfl,hq50,hq51,hK.out⟩,by simp [intOf];omega⟩
  ·replace hK:Hid (Kept w wr):=hK
   have hke:k=l.length:=by omega
   subst hke;have H1:Hid (WX x w v0 T wr):=⟨v0,H0.out.kept hK.out,(WrB.refl _ _ _).kept hK.out H0.out.bit.lt⟩;clear hK;go_wp2;go_loopw [6] (fun v W=>(v = .int .i64 32/\WX x w v0 T W)\/(v = .int .i64 24/\WX x w v0 (T+8) W)\/(v = .int .i64 16/\WX x w v0 (T+8+8) W)\/(v = .int .i64 8/\WX x w v0 (T+8+8+8) W)\/(v = .int .i64 0/\WX x w v0 (T+8+8+8+8) W)) (fun v _=>(intOf v).toNat)
   case atStart=>exact Or.inl ⟨rfl,H1.out⟩
   case round=>
    rcases hrel with ⟨rfl,hW⟩ | ⟨rfl,hW⟩ | ⟨rfl,hW⟩ | ⟨rfl,hW⟩ | ⟨rfl,hW⟩
    ·have FF:Hid (Calls Tryz.prog 101 #[.pointer (some ⟨x,0,none⟩),.int .u32 (q / 16777216),.int .u64 8] wr fun r w'=>r = .returned (.tuple #[])/\WX x w v0 (T+8) w'):=F5.out wr (T) (q / 16777216) (by omega) (Int.ediv_nonneg hq0 (by decide)) (Int.lt_of_le_of_lt (Int.ediv_le_self _ hq0) hq1) hW
     replace hW:Hid (WX x w v0 (T) wr):=hW;go_wp2_with fail;refine FF.out.mono ?_;rintro r w6 ⟨rfl,hw6⟩;replace hw6:Hid (WX x w v0 (T+8) w6):=hw6;go_wp2;exact ⟨Or.inr (Or.inl ⟨by first | rfl | go_num,hw6.out⟩),by simp [intOf]⟩
    ·have FF:Hid (Calls Tryz.prog 101 #[.pointer (some ⟨x,0,none⟩),.int .u32 (q / 65536),.int .u64 8] wr fun r w'=>r = .returned (.tuple #[])/\WX x w v0 (T+8+8) w'):=F5.out wr (T+8) (q / 65536) (by omega) (Int.ediv_nonneg hq0 (by decide)) (Int.lt_of_le_of_lt (Int.ediv_le_self _ hq0) hq1) hW
     replace hW:Hid (WX x w v0 (T+8) wr):=hW;go_wp2_with fail;refine FF.out.mono ?_;rintro r w6 ⟨rfl,hw6⟩;replace hw6:Hid (WX x w v0 (T+8+8) w6):=hw6;go_wp2;exact ⟨Or.inr (Or.inr (Or.inl ⟨by first | rfl | go_num,hw6.out⟩)),by simp [intOf]⟩
    ·have FF:Hid (Calls Tryz.prog 101 #[.pointer (some ⟨x,0,none⟩),.int .u32 (q / 256),.int .u64 8] wr fun r w'=>r = .returned (.tuple #[])/\WX x w v0 (T+8+8+8) w'):=F5.out wr (T+8+8) (q / 256) (by omega) (Int.ediv_nonneg hq0 (by decide)) (Int.lt_of_le_of_lt (Int.ediv_le_self _ hq0) hq1) hW
     replace hW:Hid (WX x w v0 (T+8+8) wr):=hW;go_wp2_with fail;refine FF.out.mono ?_;rintro r w6 ⟨rfl,hw6⟩;replace hw6:Hid (WX x w v0 (T+8+8+8) w6):=hw6;go_wp2;exact ⟨Or.inr (Or.inr (Or.inr (Or.inl ⟨by first | rfl | go_num,hw6.out⟩))),by simp [intOf]⟩
    ·have FF:Hid (Calls Tryz.prog 101 #[.pointer (some ⟨x,0,none⟩),.int .u32 q,.int .u64 8] wr fun r w'=>r = .returned (.tuple #[])/\WX x w v0 (T+8+8+8+8) w'):=F5.out wr (T+8+8+8) q (by omega) hq0 hq1 hW
     replace hW:Hid (WX x w v0 (T+8+8+8) wr):=hW;go_wp2_with fail;refine FF.out.mono ?_;rintro r w6 ⟨rfl,hw6⟩;replace hw6:Hid (WX x w v0 (T+8+8+8+8) w6):=hw6;go_wp2;exact ⟨Or.inr (Or.inr (Or.inr (Or.inr ⟨by first | rfl | go_num,hw6.out⟩))),by simp [intOf]⟩
    ·replace hW:Hid (WX x w v0 (T+8+8+8+8) wr):=hW
     go_wp2;go_end0
     exact ⟨rfl,hW.out⟩
theorem size1155:(Tryz.zeroCells142).size=1155:=by kernel_rfl
theorem z1155_0:(Tryz.zeroCells142)[0]? = some (.slice none 0 0):=by kernel_rfl
theorem z1155_1:(Tryz.zeroCells142)[1]? = some (.int .u32 0):=by kernel_rfl
theorem z1155_2:(Tryz.zeroCells142)[2]? = some (.int .u64 0):=by kernel_rfl
theorem lay_books (ct:List Value) (h:BksC ct) :
  ∃ A:Array Value,List.foldl (fun (cs:Array Value) (x:Value × Nat)=>cs.setIfInBounds (3+x.snd) x.fst) Tryz.zeroCells142 ct.zipIdx=A/\A.size=1155/\A.toList[0]? = some (.slice none 0 0)/\A.toList[1]? = some (.int .u32 0)/\A.toList[2]? = some (.int .u64 0)/\(∀ i,i<ct.length->A.toList[3+i]? = ct[i]?)/\(∀ v ∈ A.toList,v.oneCell'=true):=by
 have hl:=h.len;have hs:=lay_size 3 ct 0 Tryz.zeroCells142;have ho:=fun j (h:j<3)=>lay_out 3 ct 0 Tryz.zeroCells142 j (Or.inl (by omega))
 have hi:=fun j (h:j<ct.length)=>lay_in 3 ct 0 Tryz.zeroCells142 j h (by rw[size1155];omega)
 rw[size1155] at hs;obtain ⟨A,hA⟩:∃ A,A=List.foldl (fun (cs:Array Value) (x:Value × Nat)=>cs.setIfInBounds (3+x.snd) x.fst) Tryz.zeroCells142 ct.zipIdx:=⟨_,rfl⟩;rw[<- hA] at hs;have hA':=hA.symm;refine ⟨A,hA',hs,?_,?_,?_,?_,?_⟩
 ·rw[Array.getElem?_toList,hA,ho 0 (by omega),z1155_0]
 ·rw[Array.getElem?_toList,hA,ho 1 (by omega),z1155_1]
 ·rw[Array.getElem?_toList,hA,ho 2 (by omega),z1155_2]
 ·intro i hi'
  rw[Array.getElem?_toList,hA];exact hi i hi'
 ·intro v hv
  obtain ⟨j,hj,e⟩:=List.getElem_of_mem hv;have hjA:A.toList[j]? = some v:=by rw[List.getElem?_eq_getElem hj,e]
  rw[Array.getElem?_toList] at hjA;have hj':j<1155:=by simpa [hs] using hj
  by_cases q0:j<3
  ·rw[hA,ho j q0] at hjA
   have:j=0\/j=1\/j=2:=by omega
   rcases this with rfl | rfl | rfl
   ·rw[z1155_0] at hjA;injection hjA with hjA;rw[<- hjA];rfl
   ·rw[z1155_1] at hjA;injection hjA with hjA;rw[<- hjA];rfl
   ·rw[z1155_2] at hjA;injection hjA with hjA;rw[<- hjA];rfl
  ·have hh:=hi (j - 3) (by omega)
   rw[show 3+0+(j - 3)=j by omega,<- hA,hjA] at hh;exact h.one v (List.mem_of_getElem? hh.symm)
theorem Own8.re {w:World} {N:Nat} {v:Value} {n:Nat} (h:Own8 w 0 v n) (hb:∀ k,v.ownBlock=some k->N<=k):Own8 w N v n:=by
 obtain ⟨l,h1,h2,h3⟩:=h;refine ⟨l,h1,h2,h3.1,?_⟩;rcases h3.2 with q | ⟨g,cap,cur,hv,hg,r⟩
 ·exact Or.inl q
 ·exact Or.inr ⟨g,cap,cur,hv,hb g (by rw[hv];rfl),r⟩
def SmP (w:World) (n P:Nat) (kl:List Int) (r:Ending) (w':World):Prop:=∃ ov L k,r = .returned ov/\6<=L/\L<=16777216/\Own8 w' w.heap.size ov L/\Kept w w'/\n<=k*P/\(k - 1)*P<n/\((∀ x ∈ kl,x=0)->L=6+5*k+n)
theorem stream_n (g o c:Nat) (kv fv cv:Value) (l kl:List Int) (lace srch:Int) (P V:Nat) (w:World) (hl:LAt w .u8 (.slice (some ⟨g,o,none⟩) l.length c) l) (hB:isBytes l) (hcap:l.length<=c) (hkl:LAt w .i64 kv kl) (hTb:TbsAt w) (hn:l.length<=16384) (h0:0<l.length) (hk0:0<kl.length) (hk1:kl.length<=64) (hkk:∀ x ∈ kl,0<=x/\x<=2) (hp0:1<=P) (hp1:P<=1048576) (hw1:V<=7) :
  Calls Tryz.prog 44 #[.slice (some ⟨g,o,none⟩) l.length c,.agg #[.int .i64 lace,fv,kv,.int .i64 (P:Int),cv,.int .i64 (V:Int),.int .i64 srch]] w fun r w'=>SmP w l.length P kl r w':=by
 obtain ⟨w0,hw0⟩:∃ w0,w0=w.alloc (Obj.cells #[Value.int .i64 lace,fv,kv,.int .i64 (P:Int),cv,.int .i64 (V:Int),.int .i64 srch] 31):=⟨_,rfl⟩;have hch:Hid (∀ k u,#[Value.int .i64 lace,fv,kv,.int .i64 (P:Int),cv,.int .i64 (V:Int),.int .i64 srch][k]? = some u->w0.cell? ⟨w.heap.size,k,none⟩=some u):=by
  intro k u hu;rw[hw0,World.cell?_alloc_at _ _ _ _ rfl];exact hu
 have hkw0:Hid (Kept w w0):=by rw[hw0];exact (Below.refl _ _).alloc (Nat.le_refl _) _
 have hs0:Hid (w.heap.size<w0.heap.size):=by rw[hw0];show _<_;simp
 have HL:Hid (LAt w .u8 (.slice (some ⟨g,o,none⟩) l.length c) l):=hl;have HKL:Hid (LAt w .i64 kv kl):=hkl;have HKK:Hid (∀ x ∈ kl,0<=x/\x<=2):=hkk;have HB:Hid (isBytes l):=hB;have HTb:Hid (TbsAt w):=hTb;clear hl hkl hkk hB hTb;go_enter Tryz.func44,Tryz.ntmps44;go_upto_region 1 with fail
 rw[<- hw0];clear hw0;go_wp2_with fail;refine (fixbooks_any w0).mono ?_;rintro r w3 ⟨hbk,hkw3⟩;obtain ⟨ct,rfl,hct⟩:=hbk.cs;obtain ⟨A,hAe,hAs,hA0,hA1,hA2,hA3,hA5⟩:=lay_books ct hct;obtain ⟨wa,hwa⟩:∃ wa,wa=w3.alloc (Obj.cells Tryz.zeroCells142 142):=⟨_,rfl⟩;have hT4:wa.there w3.heap.size 0 A.toList.length:=by rw[hwa,Array.length_toList,hAs];exact there_new _ _ _ _ size1155
 have hsc4:(storeCells ⟨w3.heap.size,0,none⟩ A.toList).run Tryz.prog wa = .ok () (wa.setCells w3.heap.size 0 A.toList):=store_there hT4 hA5;have hR4:Hid ((wa.setCells w3.heap.size 0 A.toList).rangeAt w3.heap.size 0 A.toList):=World.rangeAt_setCells_same _ _ _ _ hT4;have hK4:Hid (Kept w3 (wa.setCells w3.heap.size 0 A.toList)):=Kept.setCells (Nat.le_refl _) _ _ (by rw[hwa];exact (Below.refl _ _).alloc (Nat.le_refl _) _);have hF4:Hid (∀ k,(wa.setCells w3.heap.size 0 A.toList).frozen? ⟨w3.heap.size,k,none⟩=false):=fun k=>by rw[World.frozen?_setCells,hwa];exact World.frozen?_alloc_at _ _ _ _ rfl
 have hsz:Hid ((wa.setCells w3.heap.size 0 A.toList).heap.size=w3.heap.size+1):=by
  show _=_
  rw[setCells_size,hwa];simp
 have HA:Hid (A.toList[0]? = some (.slice none 0 0)/\A.toList[1]? = some (.int .u32 0)/\A.toList[2]? = some (.int .u64 0)/\(∀ i,i<ct.length->A.toList[3+i]? = ct[i]?)):=⟨hA0,hA1,hA2,hA3⟩;have HK:Hid (Kept w0 (wa.setCells w3.heap.size 0 A.toList)):=hkw3.trans hK4.out;have HC:Hid (BksC ct):=hct;have g0:w.heap.size<w3.heap.size:=Nat.lt_of_lt_of_le hs0.out hkw3.size;have hAl:A.toList.length=1155:=by rw[Array.length_toList,hAs]
 have hctl:ct.length=1152:=hct.len;rw[hwa] at hsc4;clear hA0 hA1 hA2 hA3 hA5 hT4 hkw3 hbk hct hK4;go_upto_region 2 with fail
 rw[<- hwa];clear hsc4 hAe hAs hwa hAl;generalize wa.setCells w3.heap.size 0 A.toList=w4 at *;generalize hx:w3.heap.size=x at *;clear hx;have hx4:x<w4.heap.size:=by have:=hsz.out;omega
 have HKw:Hid (Kept w w4):=hkw0.out.trans HK.out;have TB4:TbsAt w4:=HTb.out.kept HKw.out;have OF:∀ b,b<w.heap.size->Off x (.slice none 0 0) b:=fun b hb=>⟨by omega,fun e=>by cases e⟩
 have S4:Hid (WS w4 x (.slice none 0 0) 0):=by
  refine ⟨⟨hx4,hF4.out,hR4.out 0 _ HA.out.1,Own8.nil _ _,fun e=>(by cases e),⟨0,by omega,by omega,hR4.out 1 _ HA.out.2.1⟩,hR4.out 2 _ HA.out.2.2.1⟩,TB4,⟨OF _ ?_,OF _ ?_,OF _ ?_,OF _ ?_⟩⟩
  ·exact World.block_lt_of_cell? _ _ (HTb.out.len 0 (by omega))
  ·exact World.block_lt_of_cell? _ _ (HTb.out.lbt 0 (by omega))
  ·exact World.block_lt_of_cell? _ _ (HTb.out.dis 0 (by omega))
  ·exact World.block_lt_of_cell? _ _ (HTb.out.ord 0 (by omega))
 have B4:Hid (BkF w4 x):=⟨ct,HC.out,fun j u hu=>by
  have hj:j<ct.length:=(List.getElem?_eq_some_iff.1 hu).1
  have:=hR4.out (3+j) u (by rw[HA.out.2.2.2 j hj];exact hu)
  rw[Nat.zero_add] at this;exact this⟩
 have hgl:g<w.heap.size:=HL.out.lt h0 g rfl;have hkb:Hid (∀ b,sliceBlock kv=some b->b<w.heap.size):=HKL.out.lt hk0;have HCh:Hid (∀ k u,#[Value.int .i64 lace,fv,kv,.int .i64 (P:Int),cv,.int .i64 (V:Int),.int .i64 srch][k]? = some u->w4.cell? ⟨w.heap.size,k,none⟩=some u):=fun k u hu=>(HK.out.cell (p:=⟨w.heap.size,k,none⟩) hs0.out).trans (hch.out k u hu)
 have hs4:Hid (w.heap.size<w4.heap.size):=Nat.lt_of_lt_of_le hs0.out HK.out.size;have OC:Hid (Off x (.slice none 0 0) w.heap.size):=⟨by omega,fun e=>by cases e⟩;have ch5:=HCh.out 5 _ rfl;clear TB4 OF hR4 hF4 hsz HA HC HK hkw0 hs0 hch hctl;generalize ct.toArray=A1 at *;clear hx4;go_wp2_with fail;refine (headw_x x 0 V _ w4 S4.out hw1 (by omega)).mono ?_;rintro r w5 ⟨rfl,v5,s5,r5⟩;rw[Nat.zero_add] at s5;have S5:Hid (WS w5 x v5 16):=s5;have R5:Hid (WrB x w4 (.slice none 0 0) w5 v5):=r5;have B5:Hid (BkF w5 x):=B4.out.next r5;have O5:Hid (Off x v5 w.heap.size):=OC.out.next r5 hs4.out;have HCh5:Hid (∀ k u,#[Value.int .i64 lace,fv,kv,.int .i64 (P:Int),cv,.int .i64 (V:Int),.int .i64 srch][k]? = some u->w5.cell? ⟨w.heap.size,k,none⟩=some u):=fun k u hu=>(r5.cellK OC.out hs4.out).trans (HCh.out k u hu)
 have hs5:Hid (w.heap.size<w5.heap.size):=Nat.lt_of_lt_of_le hs4.out r5.fr.size;have c5:=HCh5.out 5 _ rfl;have c6:=HCh5.out 6 _ rfl;obtain ⟨z,hz⟩:=winsize_any V;have FW:Hid (∀ W,Calls Tryz.prog 70 #[.int .i64 (V:Int)] W fun r w'=>r = .returned (.int .i64 z)/\w'=W):=hz;clear s5 r5 ch5 hz;go_wp2_with fail;go_region_held3 (fun W=>W.cell? ⟨w.heap.size,5,none⟩=some (.int .i64 (V:Int))/\W.cell? ⟨w.heap.size,6,none⟩=some (.int .i64 srch)) (first | exact ⟨c5,c6⟩ | go_keep) ((go_at_call 70;refine (FW.out _).mono ?_;rintro r w6 ⟨rfl,rfl⟩))
 all_goals
  clear c5 c6 FW;obtain ⟨w6,hw6⟩:∃ w6,w6=(w5.alloc (Obj.cells #[Value.int .i64 z,Value.int .i64 srch] 145)).drew:=⟨_,rfl⟩;have K56:Hid (Kept w5 w6):=by rw[hw6];exact Kept.drewN ((Below.refl _ _).alloc (Nat.le_refl _) _) 1
  have Q0:Hid (w6.cell? ⟨w5.heap.size,0,none⟩=some (.int .i64 z)/\w6.cell? ⟨w5.heap.size,1,none⟩=some (.int .i64 srch)/\w5.heap.size<w6.heap.size):=by rw[hw6];exact ⟨(World.cell?_alloc_at _ _ _ _ rfl).trans rfl,(World.cell?_alloc_at _ _ _ _ rfl).trans rfl,by show w5.heap.size<(w5.alloc _).heap.size;simp⟩
  rw[<- hw6];clear hw6;have OS:Hid (Off x v5 w5.heap.size):=S5.out.new (Nat.le_refl _);have S6:Hid (WS w6 x v5 16):=S5.out.kept K56.out;have R6:Hid (WrB x w4 (.slice none 0 0) w6 v5):=R5.out.kept K56.out S5.out.bit.lt;have B6:Hid (BkF w6 x):=B5.out.kept K56.out;have HCh6:Hid (∀ k u,#[Value.int .i64 lace,fv,kv,.int .i64 (P:Int),cv,.int .i64 (V:Int),.int .i64 srch][k]? = some u->w6.cell? ⟨w.heap.size,k,none⟩=some u):=fun k u hu=>(K56.out.cell (p:=⟨w.heap.size,k,none⟩) hs5.out).trans (HCh5.out k u hu)
  have hs6:Hid (w.heap.size<w6.heap.size):=Nat.lt_of_lt_of_le hs5.out K56.out.size;clear S4 R5 B4 B5 S5 HCh HCh5 hs4 hs5 OC K56;generalize w5.heap.size=sb at *;have ch3:=HCh6.out 3 _ rfl;have FD:Hid (∀ b,sliceBlock (.slice (some ⟨g,o,none⟩) l.length c)=some b->Off x (.slice none 0 0) b):=fun b hb=>by
   have e:g=b:=by injection hb
   exact ⟨by omega,fun e=>by cases e⟩
  have HLW:Hid (∀ W v',WrB x w4 (.slice none 0 0) W v'->LAt W .u8 (.slice (some ⟨g,o,none⟩) l.length c) l/\Off x v' g):=fun W v' r=>⟨(HL.out.kept HKw.out).off r FD.out,(FD.out g rfl).next r (Nat.lt_of_lt_of_le hgl HKw.out.size)⟩
  have HKW:Hid (∀ W v',WrB x w4 (.slice none 0 0) W v'->LAt W .i64 kv kl):=fun W v' r=>(HKL.out.kept HKw.out).fr r.fr (fun b hb=>by
   have:=hkb.out b hb
   intro e;rcases e with e | e
   ·omega
   ·cases e)
  have FT:Hid (∀ (W:World) (k:Nat),k<=65536->LAt W .i64 kv kl->Calls Tryz.prog 71 #[kv,.int .i64 (k:Int)] W fun r w'=>r = .returned (.int .i64 (kl.getD (k % kl.length) 0))/\Kept W w'):=fun W k hk h=>turns_any kv kl k W h hk0 (by omega) (by omega)
  have FB:Hid (∀ (W:World) (v':Value) (T kd f te:Nat),f<=te->te<=l.length->T<=8589934592->kd<=2->WS W x v' T->BkF W x->WrB x w4 (.slice none 0 0) W v'->Calls Tryz.prog 73 #[.pointer (some ⟨x,0,none⟩),.int .i64 (kd:Int),.slice (some ⟨g,o,none⟩) te c,.int .i64 (f:Int),.agg #[.int .i64 z,.int .i64 srch]] W fun r w'=>r = .returned (.tuple #[])/\BlP x W v' T (te - f) kd w'):=fun W v' T kd f te h1 h2 h3 h4 hs hb hr=>by
   have hlen:((l.drop 0).take te).length=te:=by simp;omega
   have hLA:=(HLW.out W v' hr).1.part 0 te c (by omega)
   have:=blockw_n x T f kd z srch _ v' _ W hs hb hLA (HB.out.part 0 te) (fun b e=>by
    have e2:g=b:=by injection e
    rw[<- e2];exact (HLW.out W v' hr).2) (by rw[hlen];omega) (by rw[hlen];exact h1) h3 h4
   rw[hlen] at this;exact this
  clear HL HKL FD HTb;go_wp2_with fail;go_loopw [8,9,10,11] (fun v8 v9 _ _ W=>∃ (f k T:Nat) (v':Value),f<=l.length/\v8 = .int .i64 (f:Int)/\v9 = .int .i64 (k:Int)/\f=min (k*P) l.length/\(0<k->(k - 1)*P<l.length)/\k<=l.length/\T<=16+7041*k+48*f/\16<=T/\((∀ x ∈ kl,x=0)->T=16+40*k+8*f)/\WS W x v' T/\BkF W x/\WrB x w6 v5 W v') (fun v8 _ _ _ _=>l.length - (intOf v8).toNat)
  case atStart=>exact ⟨0,0,16,v5,by omega,rfl,rfl,by omega,by omega,by omega,by omega,by omega,fun _=>by omega,S6.out,B6.out,WrB.refl _ _ _⟩
  case round=>
   obtain ⟨f,k,T,v7,hf,rfl,rfl,hfe,hkp,hkn,hT1,hT2,hZ,hS,hBk,hW⟩:=hrel;have HZ:Hid ((∀ x ∈ kl,x=0)->T=16+40*k+8*f):=hZ;have HKP:Hid (0<k->(k - 1)*P<l.length):=hkp;have S7:Hid (WS wr x v7 T):=hS;have B7:Hid (BkF wr x):=hBk;have R7:Hid (WrB x w6 v5 wr v7):=hW;have R47:Hid (WrB x w4 (.slice none 0 0) wr v7):=R6.out.trans hW;clear S6 B6 hZ hkp hS hBk;by_cases hlt:f<l.length
   ·have hfk:f=k*P:=by omega
    have hkl2:k<l.length:=by
     have:=Nat.le_mul_of_pos_right k (show 0<P by omega)
     omega
    obtain ⟨te,hte⟩:∃ te,te=f+min P (l.length - f):=⟨_,rfl⟩;have HTE:Hid (te=f+min P (l.length - f)):=hte;have hte1:te<=l.length:=by omega
    have hte0:f<te:=by omega
    have hFE:Hid (te=min ((k+1)*P) l.length):=by show te=_;rw[Nat.succ_mul];omega
    have hKN:Hid (0<k+1->(k+1 - 1)*P<l.length):=fun _=>by rw[Nat.add_sub_cancel];omega
    have hk4:=HKW.out wr v7 R47.out;have ch2:wr.cell? ⟨w.heap.size,2,none⟩=some kv:=(hW.cellK O5.out hs6.out).trans (HCh6.out 2 _ rfl);have cs0:wr.cell? ⟨sb,0,none⟩=some (.int .i64 z):=(hW.cellK OS.out Q0.out.2.2).trans Q0.out.1;have cs1:wr.cell? ⟨sb,1,none⟩=some (.int .i64 srch):=(hW.cellK OS.out Q0.out.2.2).trans Q0.out.2.1;have O7:Hid (Off x v7 sb):=OS.out.next hW Q0.out.2.2;have sbl:Hid (sb<wr.heap.size):=World.block_lt_of_cell? _ _ cs0;have FT1:=FT.out wr k (by omega) hk4;obtain ⟨kd,hkd⟩:∃ kd:Nat,kl.getD (k % kl.length) 0=(kd:Int)/\kd<=2:=by
     have:=HKK.out _ (getD_mem (Nat.mod_lt k hk0))
     exact ⟨(kl.getD (k % kl.length) 0).toNat,by omega,by omega⟩
    rw[hkd.1] at FT1;have hkdz:Hid ((∀ x ∈ kl,x=0)->kd=0):=by
     intro h
     have:=h _ (getD_mem (Nat.mod_lt k hk0))
     omega
    have hkd2:=hkd.2;clear hkd hk4 hfe hfk hte;replace FT1:Hid (Calls Tryz.prog 71 #[kv,.int .i64 (k:Int)] wr fun r w'=>r = .returned (.int .i64 (kd:Int))/\Kept wr w'):=FT1;have hfl:(f:Int)<(l.length:Int):=by omega
    have htc:(te:Int)<=(c:Int):=by omega
    have ht0:(0:Int)<=(te:Int):=by omega
    have hk9:((k:Int) == 0)=true\/((k:Int) == 0)=false:=by cases ((k:Int) == 0)<;>simp
    rcases hk9 with b0 | b0
    all_goals
      have hmn:te - f+f=te:=by omega
      have FB1:=fun W v' T=>FB.out W v' T kd f te (by omega) hte1
      replace FB1:Hid _:=FB1;go_upto_region 10 with fail
      rw[show (if (l.length:Int) - (f:Int)<(P:Int) then (l.length:Int) - (f:Int) else (P:Int))=((te - f:Nat):Int) by have:=HTE.out;split<;>omega,show (f:Int)+((te - f:Nat):Int)=(te:Int) by omega];generalize te - f=mn at *;go_wp2_with fail;refine FT1.out.mono ?_;rintro r w8 ⟨rfl,hk8⟩;have S8:Hid (WS w8 x v7 T):=S7.out.kept hk8;have R8:Hid (WrB x w6 v5 w8 v7):=R7.out.kept hk8 S7.out.bit.lt;have B8:Hid (BkF w8 x):=B7.out.kept hk8;have c80:w8.cell? ⟨sb,0,none⟩=some (.int .i64 z):=(hk8.cell (p:=⟨sb,0,none⟩) sbl.out).trans cs0;have c81:w8.cell? ⟨sb,1,none⟩=some (.int .i64 srch):=(hk8.cell (p:=⟨sb,1,none⟩) sbl.out).trans cs1;have sl8:Hid (sb<w8.heap.size):=Nat.lt_of_lt_of_le sbl.out hk8.size;clear hk8 cs0 cs1 ch2 FT1 S7 R7 B7 R47;go_wp2_with fail;refine (markw_x x T _ v7 w8 S8.out (by omega)).mono ?_;rintro r w9 ⟨rfl,v9,s9,r9⟩;have S9:Hid (WS w9 x v9 (T+1)):=s9;have R9:Hid (WrB x w6 v5 w9 v9):=R8.out.trans r9;have B9:Hid (BkF w9 x):=B8.out.next r9;have O9:Hid (Off x v9 sb):=O7.out.next r9 sl8.out;have c90:w9.cell? ⟨sb,0,none⟩=some (.int .i64 z):=(r9.cellK O7.out sl8.out).trans c80;have c91:w9.cell? ⟨sb,1,none⟩=some (.int .i64 srch):=(r9.cellK O7.out sl8.out).trans c81;have sl9:Hid (sb<w9.heap.size):=Nat.lt_of_lt_of_le sl8.out r9.fr.size;clear s9 r9 c80 c81 S8 R8 B8 sl8 O7 sbl;have F9:Hid (Calls Tryz.prog 73 #[.pointer (some ⟨x,0,none⟩),.int .i64 (kd:Int),.slice (some ⟨g,o,none⟩) te c,.int .i64 (f:Int),.agg #[.int .i64 z,.int .i64 srch]] w9.drew fun r w'=>r = .returned (.tuple #[])/\BlP x w9.drew v9 (T+1) mn kd w'):=FB1.out w9.drew v9 (T+1) (by omega) hkd2 (S9.out.kept ((Kept.refl _).drewN 1)) (B9.out.kept ((Kept.refl _).drewN 1)) ((R6.out.trans R9.out).kept ((Kept.refl _).drewN 1) S9.out.bit.lt);go_wp2_with fail;go_region_held3 (fun W=>W.cell? ⟨sb,0,none⟩=some (.int .i64 z)/\W.cell? ⟨sb,1,none⟩=some (.int .i64 srch)) (first | exact ⟨c90,c91⟩ | exact ⟨ca0,ca1⟩ | go_keep) ((go_at_call 73;refine F9.out.mono ?_;rintro r wA ⟨rfl,vA,tA,lA,uA,zA,sA,rA⟩;have RA:WrB x w9 v9 wA vA:=rA.pre ((Kept.refl _).drewN 1) S9.out.bit.lt;have ca0:wA.cell? ⟨sb,0,none⟩=some (.int .i64 z):=(RA.cellK O9.out sl9.out).trans c90;have ca1:wA.cell? ⟨sb,1,none⟩=some (.int .i64 srch):=(RA.cellK O9.out sl9.out).trans c91))
      all_goals
       have SA:Hid (WS wA x vA tA):=sA;have BA:Hid (BkF wA x):=B9.out.next RA;have RB:Hid (WrB x w6 v5 wA vA):=R9.out.trans RA;have ZA:Hid (kd=0->tA=8*((T+1+2+7) / 8)+32+8*mn):=zA;clear sA rA RA c90 c91 ca0 ca1 zA F9 S9 R9 B9 O9 sl9;go_wp2;refine ⟨⟨te,k+1,tA,vA,hte1,rfl,by first | rfl | go_num,hFE.out,hKN.out,by omega,by omega,by omega,fun hz => ?_,SA.out,BA.out,RB.out⟩,by simp [intOf];omega⟩;have h1:=HZ.out hz;have h2:=ZA.out (hkdz.out hz);omega
   ·have hfn:f=l.length:=by omega
    have hkpos:0<k:=by
     rcases Nat.eq_zero_or_pos k with h | h
     ·subst h;simp at hfe;omega
     ·exact h
    have b0:((k:Int) == 0)=false:=by rw[beq_eq_false_iff_ne];omega
    have hfl:¬ (f:Int)<(l.length:Int):=by omega
    have hkP:Hid (l.length<=k*P):=by show _<=_;omega
    have F6:Hid (Calls Tryz.prog 74 #[.pointer (some ⟨x,0,none⟩)] wr fun r w'=>r = .returned (.tuple #[])/\WX x wr v7 (8*((T+7) / 8)) w'):=fill_x x T v7 wr S7.out (by omega);clear hfe hW;go_wp2_with fail;refine F6.out.mono ?_;rintro r w8 ⟨rfl,v8,s8,r8⟩;have S8:Hid (WS w8 x v8 (8*((T+7) / 8))):=s8;have R8:Hid (WrB x w4 (.slice none 0 0) w8 v8):=R47.out.trans r8;clear s8 r8 F6 S7 R7 B7 R47;go_wp2_with fail;refine (sumw_x x _ v8 _ l w8 S8.out (HLW.out w8 v8 R8.out).1 HB.out (by omega) (by omega)).mono ?_;rintro r w9 ⟨rfl,v9,s9,r9⟩;have S9:Hid (WS w9 x v9 (8*((T+7) / 8)+32)):=s9;have R9:Hid (WrB x w4 (.slice none 0 0) w9 v9):=R8.out.trans r9;have c9:=s9.bit.out;clear s9 r9 S8 R8;obtain ⟨p9,n9,rfl⟩:=S9.out.bit.own.slice;go_wp2;go_ret;refine ⟨_,(8*((T+7) / 8)+32) / 8,k,rfl,by omega,by omega,?_,?_,hkP.out,HKP.out hkpos,fun hz => ?_⟩
    ·refine S9.out.bit.own.re (fun q e => ?_)
     rcases R9.out.own q e with h | h
     ·cases h
     ·exact Nat.le_trans HKw.out.size h
    ·refine Fr.to_kept HKw.out R9.out.fr (fun i hi e => ?_)
     rcases e with e | e
     ·omega
     ·cases e
    ·have:=HZ.out hz
     omega
