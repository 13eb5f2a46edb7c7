import Derived.Test.YthniahejjamhgaaGreatDoorRoGT
import Derived.Deep.RegionHeld3
set_option maxRecDepth 100000
set_option maxHeartbeats 6400000
namespace Go.Proofs.YthniahejjamhgaaGreatDoor
open Go.RowKit
set_option linter.unusedSimpArgs false
set_option linter.unusedVariables false
def Off (x:Nat) (v:Value) (g:Nat):Prop:=g≠x/\v.ownBlock≠some g
structure TOff (x:Nat) (v:Value):Prop where
 len:Off x v 1
 lbt:Off x v 4
 dis:Off x v 2
 ord:Off x v 3
theorem Off.next {x g:Nat} {w w1:World} {v v1:Value} (h:Off x v g) (k:WrB x w v w1 v1) (hg:g<w.heap.size):Off x v1 g:=by
 refine ⟨h.1,fun e => ?_⟩;rcases k.own g e with q | q
 ·exact h.2 q
 ·omega
theorem Off.no {x g:Nat} {v:Value} (h:Off x v g):¬ (g=x\/v.ownBlock=some g):=fun e=>by
 rcases e with e | e
 ·exact h.1 e
 ·exact h.2 e
theorem WrB.cellK {x g j:Nat} {w w1:World} {v v1:Value} (k:WrB x w v w1 v1) (ho:Off x v g) (hg:g<w.heap.size):w1.cell? ⟨g,j,none⟩=w.cell? ⟨g,j,none⟩:=k.fr.cell hg ho.no
structure WS (W:World) (x:Nat) (v:Value) (T:Nat):Prop where
 bit:BitB W x v T
 tab:TbsAt W
 off:TOff x v
theorem WS.next {x T T':Nat} {w w1:World} {v v1:Value} (h:WS w x v T) (k:WrB x w v w1 v1) (b:BitB w1 x v1 T'):WS w1 x v1 T' :=
 ⟨b,h.tab.fr k.fr h.off.len.no h.off.lbt.no h.off.dis.no h.off.ord.no,⟨h.off.len.next k (World.block_lt_of_cell? _ _ (h.tab.len 0 (by omega))),h.off.lbt.next k (World.block_lt_of_cell? _ _ (h.tab.lbt 0 (by omega))),h.off.dis.next k (World.block_lt_of_cell? _ _ (h.tab.dis 0 (by omega))),h.off.ord.next k (World.block_lt_of_cell? _ _ (h.tab.ord 0 (by omega)))⟩⟩
theorem WS.kept {x T:Nat} {w w1:World} {v:Value} (h:WS w x v T) (k:Kept w w1):WS w1 x v T:=⟨h.bit.kept k,h.tab.kept k,h.off⟩
theorem WS.new {x T:Nat} {w:World} {v:Value} (h:WS w x v T) {g:Nat} (hg:w.heap.size<=g):Off x v g:=by
 refine ⟨fun e=>by have:=h.bit.lt;omega,fun e => ?_⟩;obtain ⟨l,_,_,ho⟩:=h.bit.own
 have:=(ho.lt g e).2
 omega
def WN (x:Nat) (w:World) (v:Value) (T n:Nat) (w':World):Prop:=∃ v' t,T<=t/\t<=T+n/\WS w' x v' t/\WrB x w v w' v'
theorem WUp.wn {x T n:Nat} {w w':World} {v:Value} (h:WS w x v T) (k:WUp x w v T n w'):WN x w v T n w':=by
 obtain ⟨t,h1,h2,v',b,r⟩:=k;exact ⟨v',t,h1,h2,h.next r b,r⟩
theorem WB.wn {x T s:Nat} {w w':World} {v:Value} (h:WS w x v T) (k:WB x w v (T+s) w'):WN x w v T s w':=by
 obtain ⟨v',b,r⟩:=k;exact ⟨v',T+s,by omega,by omega,h.next r b,r⟩
theorem number_n (x T s:Nat) (n:Int) (v:Value) (w:World) (h:WS w x v T) (hs:s<=16) (hn0:0<=n) (hn1:n<4294967296) (hT:T<=1099511627776) :
  Calls Tryz.prog 101 #[.pointer (some ⟨x,0,none⟩),.int .u32 n,.int .u64 (s:Int)] w fun r w'=>r = .returned (.tuple #[])/\WN x w v T s w' :=
 (number_b x T s n v w h.bit hs hn0 hn1 hT).mono (fun r w' q=>⟨q.1,q.2.wn h⟩)
theorem symw_n (x T b o:Nat) (σ:Int) (v:Value) (w:World) (h:WS w x v T) (hB:BkG w b o) (hT:T<=274877906944) :
  Calls Tryz.prog 162 #[.pointer (some ⟨x,0,none⟩),.int .i64 σ,.pointer (some ⟨b,o,none⟩)] w fun r w'=>r = .returned (.tuple #[])/\WN x w v T 15 w' :=
 (symw_b x T b o σ v w h.bit hB hT).mono (fun r w' q=>⟨q.1,q.2.wn h⟩)
theorem BkG.next {x b o:Nat} {w w1:World} {v v1:Value} (h:BkG w b o) (k:WrB x w v w1 v1) (ho:Off x v b):BkG w1 b o:=h.frS k.fr ho.no
theorem copyw_n (x T b:Nat) (B L D:Int) (v:Value) (w:World) (h:WS w x v T) (h1:BkG w b 0) (h2:BkG w b 576) (hb:Off x v b) (hT:T<=68719476736) (L0:0<=L) (L1:L<=258) (D0:0<=D) (D1:D<=65536) :
  Calls Tryz.prog 163 #[.pointer (some ⟨x,0,none⟩),.agg #[.int .u8 B,.int .i64 L,.int .i64 D],.pointer (some ⟨b,0,none⟩)] w fun r w'=>r = .returned (.tuple #[])/\WN x w v T 48 w':=by
 obtain ⟨w0,hw0⟩:∃ w0,w0=w.alloc (Obj.cells #[.int .u8 B,.int .i64 L,.int .i64 D] 189):=⟨_,rfl⟩;have K0:Hid (Kept w w0):=by rw[hw0];exact (Below.refl _ _).alloc (Nat.le_refl _) _
 have HC:Hid (w.heap.size<w0.heap.size/\w0.cell? ⟨w.heap.size,1,none⟩=some (.int .i64 L)/\w0.cell? ⟨w.heap.size,2,none⟩=some (.int .i64 D)):=by
  rw[hw0];exact ⟨by simp,(World.cell?_alloc_at _ _ _ _ rfl).trans rfl,(World.cell?_alloc_at _ _ _ _ rfl).trans rfl⟩
 have HS:Hid (WS w x v T):=h;have H1:Hid (BkG w b 0):=h1;have H2:Hid (BkG w b 576):=h2;have HB:Hid (Off x v b):=hb;have HO:Hid (Off x v w.heap.size):=h.new (Nat.le_refl _);clear h h1 h2 hb;go_enter Tryz.func163,Tryz.ntmps163;go_wp2_with fail;rw[<- hw0];clear hw0;refine (lensym_any L w0 (HS.out.kept K0.out).tab).mono ?_;rintro r w1 ⟨⟨k,hk,rfl⟩,hk1⟩;have K1:Hid (Kept w w1):=K0.out.trans hk1;have C1:Hid (w.heap.size<w1.heap.size/\w1.cell? ⟨w.heap.size,1,none⟩=some (.int .i64 L)/\w1.cell? ⟨w.heap.size,2,none⟩=some (.int .i64 D)):=⟨Nat.lt_of_lt_of_le HC.out.1 hk1.size,(hk1.cell (p:=⟨w.heap.size,1,none⟩) HC.out.1).trans HC.out.2.1,(hk1.cell (p:=⟨w.heap.size,2,none⟩) HC.out.1).trans HC.out.2.2⟩;clear hk1 HC K0;go_wp2_with fail;refine (clen_any k w1 (HS.out.kept K1.out).tab hk).mono ?_;rintro r w2 ⟨⟨a,bt,ha,hbt,rfl⟩,hk2⟩;have K2:Hid (Kept w w2):=K1.out.trans hk2;have C2:Hid (w.heap.size<w2.heap.size/\w2.cell? ⟨w.heap.size,1,none⟩=some (.int .i64 L)/\w2.cell? ⟨w.heap.size,2,none⟩=some (.int .i64 D)):=⟨Nat.lt_of_lt_of_le C1.out.1 hk2.size,(hk2.cell (p:=⟨w.heap.size,1,none⟩) C1.out.1).trans C1.out.2.1,(hk2.cell (p:=⟨w.heap.size,2,none⟩) C1.out.1).trans C1.out.2.2⟩;clear hk2 C1 K1;go_wp2_with fail;refine (symw_n x T b 0 k v w2 (HS.out.kept K2.out) (H1.out.kept K2.out) (by omega)).mono ?_;rintro r w3 ⟨rfl,v3,t3,l3,u3,s3,r3⟩;have S3:Hid (WS w3 x v3 t3):=s3;have R3:Hid (WrB x w v w3 v3):=r3.pre K2.out HS.out.bit.lt;have C3:Hid (w.heap.size<w3.heap.size/\w3.cell? ⟨w.heap.size,1,none⟩=some (.int .i64 L)/\w3.cell? ⟨w.heap.size,2,none⟩=some (.int .i64 D)):=⟨Nat.lt_of_lt_of_le C2.out.1 r3.fr.size,(r3.cellK HO.out C2.out.1).trans C2.out.2.1,(r3.cellK HO.out C2.out.1).trans C2.out.2.2⟩;have O3:Hid (Off x v3 w.heap.size):=HO.out.next r3 C2.out.1;clear s3 r3 C2;have c3:=C3.out.2.1;have bt0:(0:Int)<=(bt:Int):=by omega
 have bt1:(bt:Int)<64:=by omega
 have e4:IntKind.u64.wrap (bt:Int)=(bt:Int):=by rw[IntKind.wrap_u64];omega
 have F4:Hid (Calls Tryz.prog 101 #[.pointer (some ⟨x,0,none⟩),.int .u32 (IntKind.u32.wrap (IntKind.i64.wrap (L - (a:Int)))),.int .u64 (IntKind.u64.wrap (bt:Int))] w3.drew fun r w'=>r = .returned (.tuple #[])/\WN x w3.drew v3 t3 bt w'):=by
  rw[e4];exact number_n x t3 bt _ v3 w3.drew (S3.out.kept ((Kept.refl _).drewN 1)) (by omega) (bounds_u32 (wf_wrap .u32 _)).1 (Int.lt_of_le_of_lt (bounds_u32 (wf_wrap .u32 _)).2 (by omega)) (by omega)
 clear e4;go_wp2_with fail;go_region_held3 (fun W=>W.cell? ⟨w.heap.size,1,none⟩=some (.int .i64 L)) (first | exact c3 | exact c4 | go_keep) ((go_at_call 101;refine F4.out.mono ?_;rintro r w4 ⟨rfl,v4,t4,l4,u4,s4,r4⟩;have R34:WrB x w3 v3 w4 v4:=r4.pre ((Kept.refl _).drewN 1) S3.out.bit.lt;have c4:w4.cell? ⟨w.heap.size,1,none⟩=some (.int .i64 L):=(R34.cellK O3.out C3.out.1).trans c3))
 have S4:Hid (WS w4 x v4 t4):=s4;have R4:Hid (WrB x w v w4 v4):=R3.out.trans R34;have C4:Hid (w.heap.size<w4.heap.size/\w4.cell? ⟨w.heap.size,2,none⟩=some (.int .i64 D)):=⟨Nat.lt_of_lt_of_le C3.out.1 R34.fr.size,(R34.cellK O3.out C3.out.1).trans C3.out.2.2⟩;have O4:Hid (Off x v4 w.heap.size):=O3.out.next R34 C3.out.1;clear s4 r4 R34 c3 c4 C3 O3 S3 R3 F4;have d4:=C4.out.2;go_wp2_with fail;refine (dissym_any D w4 S4.out.tab).mono ?_;rintro r w5 ⟨⟨k2,hk0,hk30,rfl⟩,hk5⟩;have S5:Hid (WS w5 x v4 t4):=S4.out.kept hk5;have R5:Hid (WrB x w v w5 v4):=R4.out.kept hk5 S4.out.bit.lt;have C5:Hid (w.heap.size<w5.heap.size/\w5.cell? ⟨w.heap.size,2,none⟩=some (.int .i64 D)):=⟨Nat.lt_of_lt_of_le C4.out.1 hk5.size,(hk5.cell (p:=⟨w.heap.size,2,none⟩) C4.out.1).trans d4⟩;clear hk5 C4 S4 R4 d4;go_wp2_with fail;refine (cdis_any k2 w5 S5.out.tab hk0 hk30).mono ?_;rintro r w6 ⟨⟨a2,bt2,ha2,hbt2,rfl⟩,hk6⟩;have S6:Hid (WS w6 x v4 t4):=S5.out.kept hk6;have R6:Hid (WrB x w v w6 v4):=R5.out.kept hk6 S5.out.bit.lt;have C6:Hid (w.heap.size<w6.heap.size/\w6.cell? ⟨w.heap.size,2,none⟩=some (.int .i64 D)):=⟨Nat.lt_of_lt_of_le C5.out.1 hk6.size,(hk6.cell (p:=⟨w.heap.size,2,none⟩) C5.out.1).trans C5.out.2⟩;have B6:Hid (BkG w6 b 576):=H2.out.next R6.out HB.out;clear hk6 C5 S5 R5;go_wp2_with fail;refine (symw_n x t4 b 576 k2 v4 w6 S6.out B6.out (by omega)).mono ?_;rintro r w7 ⟨rfl,v7,t7,l7,u7,s7,r7⟩;have S7:Hid (WS w7 x v7 t7):=s7;have R7:Hid (WrB x w v w7 v7):=R6.out.trans r7;have C7:Hid (w.heap.size<w7.heap.size/\w7.cell? ⟨w.heap.size,2,none⟩=some (.int .i64 D)):=⟨Nat.lt_of_lt_of_le C6.out.1 r7.fr.size,(r7.cellK O4.out C6.out.1).trans C6.out.2⟩;have O7:Hid (Off x v7 w.heap.size):=O4.out.next r7 C6.out.1;clear s7 r7 C6 S6 R6 B6 O4;have c7:=C7.out.2;have e7:IntKind.u64.wrap (bt2:Int)=(bt2:Int):=by rw[IntKind.wrap_u64];omega
 have F7:Hid (Calls Tryz.prog 101 #[.pointer (some ⟨x,0,none⟩),.int .u32 (IntKind.u32.wrap (IntKind.i64.wrap (D - (a2:Int)))),.int .u64 (IntKind.u64.wrap (bt2:Int))] w7.drew fun r w'=>r = .returned (.tuple #[])/\WN x w7.drew v7 t7 bt2 w'):=by
  rw[e7];exact number_n x t7 bt2 _ v7 w7.drew (S7.out.kept ((Kept.refl _).drewN 1)) (by omega) (bounds_u32 (wf_wrap .u32 _)).1 (Int.lt_of_le_of_lt (bounds_u32 (wf_wrap .u32 _)).2 (by omega)) (by omega)
 clear e7;go_wp2_with fail;go_region_held3 (fun W=>W.cell? ⟨w.heap.size,2,none⟩=some (.int .i64 D)) (first | exact c7 | exact c8 | go_keep) ((go_at_call 101;refine F7.out.mono ?_;rintro r w8 ⟨rfl,v8,t8,l8,u8,s8,r8⟩;have R78:WrB x w7 v7 w8 v8:=r8.pre ((Kept.refl _).drewN 1) S7.out.bit.lt;have c8:w8.cell? ⟨w.heap.size,2,none⟩=some (.int .i64 D):=(R78.cellK O7.out C7.out.1).trans c7))
 have HE:Hid (WN x w v T 48 w8):=⟨v8,t8,by omega,by omega,s8,R7.out.trans R78⟩;clear s8 r8 R78 c7 c8;go_wp2;go_end0
 exact ⟨rfl,HE.out⟩
structure TkAt (W:World) (v:Value) (n:Nat):Prop where
 form:∃ p c,v = .slice p n c
 cells:∀ i,i<n->∃ (g c:Nat) (B L D:Int),v = .slice (some ⟨g,0,none⟩) n c/\0<=B/\B<256/\0<=L/\L<=258/\0<=D/\D<=65536/\W.cell? ⟨g,i*3,none⟩=some (.int .u8 B)/\W.cell? ⟨g,i*3+1,none⟩=some (.int .i64 L)/\W.cell? ⟨g,i*3+2,none⟩=some (.int .i64 D)
theorem TkAt.frS {S:Nat->Prop} {w W:World} {v:Value} {n:Nat} (h:TkAt w v n) (k:Fr S w W) (hS:∀ g,v.ownBlock=some g->¬ S g):TkAt W v n:=by
 refine ⟨h.form,fun i hi => ?_⟩;obtain ⟨g,c,B,L,D,e,b0,b1,l0,l1,d0,d1,c0,c1,c2⟩:=h.cells i hi;have hg:¬ S g:=hS g (by rw[e];rfl);have hlt:=World.block_lt_of_cell? _ _ c0;exact ⟨g,c,B,L,D,e,b0,b1,l0,l1,d0,d1,(k.cell hlt hg).trans c0,(k.cell hlt hg).trans c1,(k.cell hlt hg).trans c2⟩
theorem TkAt.kept {w W:World} {v:Value} {n:Nat} (h:TkAt w v n) (k:Kept w W):TkAt W v n:=h.frS (S:=fun _=>False) (Fr.of_kept k) (fun _ _ f=>f)
def BkL (arr:Array Value):Prop:=∀ o,(o=0\/o=576)->∀ i,i<288->∃ (c:Int) (z:Nat),0<=c/\c<4294967296/\z<=15/\arr[o+i]? = some (.int .u32 c)/\arr[o+288+i]? = some (.int .u8 (z:Int))
theorem BkL.at {arr:Array Value} (h:BkL arr) (w:World) (t:TypeId) (o:Nat) (ho:o=0\/o=576):BkG (w.alloc (Obj.cells arr t)) w.heap.size o:=by
 intro i hi;obtain ⟨c,z,a,b,d,e,f⟩:=h o ho i hi;exact ⟨c,z,a,b,d,(World.cell?_alloc_at _ _ _ _ rfl).trans e,(World.cell?_alloc_at _ _ _ _ rfl).trans f⟩
theorem toksw_n (x T n:Nat) (arr:Array Value) (lv v:Value) (w:World) (h:WS w x v T) (ha:BkL arr) (hl:TkAt w lv n) (ho:∀ g,lv.ownBlock=some g->Off x v g) (hn:n<=1048576) (hT:T<=34359738368) :
  Calls Tryz.prog 136 #[.pointer (some ⟨x,0,none⟩),lv,.agg arr] w fun r w'=>r = .returned (.tuple #[])/\WN x w v T (48*n+15) w':=by
 obtain ⟨p,c,rfl⟩:=hl.form;obtain ⟨w0,hw0⟩:∃ w0,w0=w.alloc (Obj.cells arr 137):=⟨_,rfl⟩;have K0:Hid (Kept w w0):=by rw[hw0];exact (Below.refl _ _).alloc (Nat.le_refl _) _
 have B0:Hid (BkG w0 w.heap.size 0/\BkG w0 w.heap.size 576):=by rw[hw0];exact ⟨ha.at w _ 0 (Or.inl rfl),ha.at w _ 576 (Or.inr rfl)⟩
 have HS:Hid (WS w0 x v T):=h.kept K0.out;have HX:Hid (x<w.heap.size):=h.bit.lt;have HO:Hid (Off x v w.heap.size):=h.new (Nat.le_refl _);have HL:Hid (TkAt w0 (.slice p n c) n):=hl.kept K0.out;have HP:Hid (∀ g,(Value.slice p n c).ownBlock=some g->Off x v g):=ho;clear h ha hl ho;go_enter Tryz.func136,Tryz.ntmps136;go_wp2_with fail;rw[<- hw0];clear hw0;go_loopw [6] (fun vi W=>∃ (k:Nat) (v':Value) (t:Nat),k<=n/\vi = .int .i64 (k:Int)/\T<=t/\t<=T+48*k/\WS W x v' t/\WrB x w0 v W v') (fun vi _=>n - (intOf vi).toNat)
 case atStart=>exact ⟨0,v,T,by omega,rfl,by omega,by omega,HS.out,WrB.refl _ _ _⟩
 case round=>
  obtain ⟨k,v1,t,hk,rfl,t0,t1,hs,hr⟩:=hrel;have S1:Hid (WS wr x v1 t):=hs;have R1:Hid (WrB x w0 v wr v1):=hr;have hb:=B0.out.1.lt;have BK:Hid (BkG wr w.heap.size 0/\BkG wr w.heap.size 576):=⟨B0.out.1.next hr HO.out,B0.out.2.next hr HO.out⟩;have O1:Hid (Off x v1 w.heap.size):=HO.out.next hr hb;clear hs hr hb;by_cases c0:k<n
  ·obtain ⟨g,c',B,L,D,e,b0,b1,l0,l1,d0,d1,x0,x1,x2⟩:=(HL.out.frS R1.out.fr (fun g hg=>(HP.out g hg).no)).cells k c0
   injection e with e1 e2 e3
   subst e1;subst e3;have ki:(k:Int)<(n:Int):=by omega
   have kz:(0:Int)<=(k:Int):=by omega
   clear e2;by_cases q:L=0
   ·subst q
    go_wp2_with fail;refine (symw_n x t w.heap.size 0 _ v1 wr S1.out BK.out.1 (by omega)).mono ?_;rintro r w2 ⟨rfl,v2,t2,l2,u2,s2,r2⟩;have S2:Hid (WS w2 x v2 t2):=s2;have R2:Hid (WrB x w0 v w2 v2):=R1.out.trans r2;clear s2 r2 x0 x1 x2;go_wp2;exact ⟨⟨k+1,v2,t2,by omega,by go_num,by omega,by omega,S2.out,R2.out⟩,by simp [intOf];omega⟩
   ·have q':(L == 0)=false:=by rw[beq_eq_false_iff_ne];exact q
    clear q;go_wp2_with fail;refine (copyw_n x t w.heap.size B L D v1 wr S1.out BK.out.1 BK.out.2 O1.out (by omega) l0 l1 d0 d1).mono ?_;rintro r w2 ⟨rfl,v2,t2,l2,u2,s2,r2⟩;have S2:Hid (WS w2 x v2 t2):=s2;have R2:Hid (WrB x w0 v w2 v2):=R1.out.trans r2;clear s2 r2 x0 x1 x2;go_wp2;exact ⟨⟨k+1,v2,t2,by omega,by go_num,by omega,by omega,S2.out,R2.out⟩,by simp [intOf];omega⟩
  ·have ki:¬ (k:Int)<(n:Int):=by omega
   have hk2:k=n:=by omega
   subst hk2;go_wp2_with fail;refine (symw_n x t w.heap.size 0 256 v1 wr S1.out BK.out.1 (by omega)).mono ?_;rintro r w2 ⟨rfl,v2,t2,l2,u2,s2,r2⟩;have HE:Hid (WN x w v T (48*k+15) w2):=⟨v2,t2,by omega,by omega,s2,(R1.out.trans r2).pre K0.out HX.out⟩;clear s2 r2;go_wp2;go_end0
   exact ⟨rfl,HE.out⟩
