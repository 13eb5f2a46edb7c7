import Derived.Test.YthniahejjamhgaaGreatDoorRoD0
import Derived.Deep.QuietTactic
set_option maxRecDepth 100000
set_option maxHeartbeats 6400000
namespace Go.Proofs.YthniahejjamhgaaGreatDoor
open Go.RowKit
set_option linter.unusedSimpArgs false
set_option linter.unusedVariables false
def lnT:List Nat:=[3,4,5,6,7,8,9,10,11,13,15,17,19,23,27,31,35,43,51,59,67,83,99,115,131,163,195,227,258]
def lbT:List Nat:=[0,0,0,0,0,0,0,0,1,1,1,1,2,2,2,2,3,3,3,3,4,4,4,4,5,5,5,5,0]
def dsT:List Nat:=[1,2,3,4,5,7,9,13,17,25,33,49,65,97,129,193,257,385,513,769,1025,1537,2049,3073,4097,6145,8193,12289,16385,24577]
def orT:List Nat:=[16,17,18,0,8,7,9,6,10,5,11,4,12,3,13,2,14,1,15]
structure TbsAt (w:World):Prop where
 len:∀ j,j<29->w.cell? ⟨1,j,none⟩=some (.int .i64 (lnT.getD j 0:Nat))
 lbt:∀ j,j<29->w.cell? ⟨4,j,none⟩=some (.int .i64 (lbT.getD j 0:Nat))
 dis:∀ j,j<30->w.cell? ⟨2,j,none⟩=some (.int .i64 (dsT.getD j 0:Nat))
 ord:∀ j,j<19->w.cell? ⟨3,j,none⟩=some (.int .i64 (orT.getD j 0:Nat))
theorem TbsAt.kept {w W:World} (h:TbsAt w) (k:Kept w W):TbsAt W:=
 ⟨fun j hj=>(k.cell (World.block_lt_of_cell? _ _ (h.len j hj))).trans (h.len j hj),fun j hj=>(k.cell (World.block_lt_of_cell? _ _ (h.lbt j hj))).trans (h.lbt j hj),fun j hj=>(k.cell (World.block_lt_of_cell? _ _ (h.dis j hj))).trans (h.dis j hj),fun j hj=>(k.cell (World.block_lt_of_cell? _ _ (h.ord j hj))).trans (h.ord j hj)⟩
theorem TbsAt.fr {S:Nat->Prop} {w W:World} (h:TbsAt w) (k:Fr S w W) (h1:¬ S 1) (h2:¬ S 4) (h3:¬ S 2) (h4:¬ S 3):TbsAt W:=
 ⟨fun j hj=>(k.cell (World.block_lt_of_cell? _ _ (h.len j hj)) h1).trans (h.len j hj),fun j hj=>(k.cell (World.block_lt_of_cell? _ _ (h.lbt j hj)) h2).trans (h.lbt j hj),fun j hj=>(k.cell (World.block_lt_of_cell? _ _ (h.dis j hj)) h3).trans (h.dis j hj),fun j hj=>(k.cell (World.block_lt_of_cell? _ _ (h.ord j hj)) h4).trans (h.ord j hj)⟩
theorem lnT_le:∀ j,j<29->3<=lnT.getD j 0/\lnT.getD j 0<=258/\lbT.getD j 0<=5:=by decide
theorem dsT_le:∀ j,j<30->1<=dsT.getD j 0/\dsT.getD j 0<=24577:=by decide
theorem orT_le:∀ j,j<19->orT.getD j 0<19:=by decide
theorem lensym_any (L:Int) (w:World) (hT:TbsAt w) :
  Calls Tryz.prog 152 #[.int .i64 L] w fun r w'=>(∃ k:Nat,k<286/\r = .returned (.int .i64 (k:Int)))/\Kept w w':=by
 have HT:Hid (∀ W,Kept w W->∀ j,j<29->W.cell? ⟨1,j,none⟩=some (.int .i64 (lnT.getD j 0:Nat))):=fun W k=>(hT.kept k).len
 clear hT;by_cases h1:L<3
 ·go_enter Tryz.func152,Tryz.ntmps152
  go_wp2;go_ret;exact ⟨⟨0,by omega,rfl⟩,Kept.refl _⟩
 by_cases h2:258<L
 ·go_enter Tryz.func152,Tryz.ntmps152
  go_wp2;go_ret;exact ⟨⟨0,by omega,rfl⟩,Kept.refl _⟩
 ·go_enter Tryz.func152,Tryz.ntmps152
  go_wp2;clear h1 h2;go_loopw [3] (fun v W=>∃ i:Nat,i<=28/\v = .int .i64 (i:Int)/\Kept w W) (fun v _=>28 - (intOf v).toNat)
  case atStart=>exact ⟨0,by omega,rfl,Kept.refl _⟩
  case round=>
   obtain ⟨i,hi,rfl,hk⟩:=hrel;by_cases c:i+1<29
   ·have hc:=HT.out wr hk (i+1) c
    have c':(i:Int)+1<29:=by omega
    generalize lnT.getD (i+1) 0=V at *;have HK:Hid (Kept w wr):=hk;clear hk;by_cases q:(V:Int)<=L
    ·go_wp2
     exact ⟨⟨i+1,by omega,by go_num,HK.out⟩,by simp [intOf];omega⟩
    ·go_wp2
     go_ret;exact ⟨⟨257+i,by omega,ret_int (by omega)⟩,HK.out⟩
   ·have c':¬ (i:Int)+1<29:=by omega
    have HK:Hid (Kept w wr):=hk;clear hk;go_wp2;go_ret;exact ⟨⟨257+i,by omega,ret_int (by omega)⟩,HK.out⟩
theorem dissym_any (L:Int) (w:World) (hT:TbsAt w) :
  Calls Tryz.prog 153 #[.int .i64 L] w fun r w'=>(∃ k:Int,-1<=k/\k<30/\r = .returned (.int .i64 k))/\Kept w w':=by
 have HT:Hid (∀ W,Kept w W->∀ j,j<30->W.cell? ⟨2,j,none⟩=some (.int .i64 (dsT.getD j 0:Nat))):=fun W k=>(hT.kept k).dis
 clear hT;by_cases h1:L<1
 ·go_enter Tryz.func153,Tryz.ntmps153
  go_wp2;go_ret;exact ⟨⟨-1,by omega,by omega,rfl⟩,Kept.refl _⟩
 by_cases h2:32768<L
 ·go_enter Tryz.func153,Tryz.ntmps153
  go_wp2;go_ret;exact ⟨⟨-1,by omega,by omega,rfl⟩,Kept.refl _⟩
 ·go_enter Tryz.func153,Tryz.ntmps153
  go_wp2;clear h1 h2;go_loopw [3] (fun v W=>∃ i:Nat,i<=29/\v = .int .i64 (i:Int)/\Kept w W) (fun v _=>29 - (intOf v).toNat)
  case atStart=>exact ⟨0,by omega,rfl,Kept.refl _⟩
  case round=>
   obtain ⟨i,hi,rfl,hk⟩:=hrel;by_cases c:i+1<30
   ·have hc:=HT.out wr hk (i+1) c
    have c':(i:Int)+1<30:=by omega
    generalize dsT.getD (i+1) 0=V at *;have HK:Hid (Kept w wr):=hk;clear hk;by_cases q:(V:Int)<=L
    ·go_wp2
     exact ⟨⟨i+1,by omega,by go_num,HK.out⟩,by simp [intOf];omega⟩
    ·go_wp2
     go_ret;exact ⟨⟨(i:Int),by omega,by omega,rfl⟩,HK.out⟩
   ·have c':¬ (i:Int)+1<30:=by omega
    have HK:Hid (Kept w wr):=hk;clear hk;go_wp2;go_ret;exact ⟨⟨(i:Int),by omega,by omega,rfl⟩,HK.out⟩
def Rep (r:Ending):Prop:=∃ a b:Nat,1<=a/\a<=11/\b<=7/\r = .returned (.tuple #[.int .i64 (a:Int),.int .i64 (b:Int)])
def Two (A B:Nat) (r:Ending):Prop:=∃ a b:Nat,a<=A/\b<=B/\r = .returned (.tuple #[.int .i64 (a:Int),.int .i64 (b:Int)])
theorem clen_any (k:Nat) (w:World) (hT:TbsAt w) (hk:k<286) :
  Calls Tryz.prog 177 #[.int .i64 (k:Int)] w fun r w'=>Two 258 5 r/\Kept w w':=by
 by_cases h:k<257
 ·have j0:(k:Int) - 257<0:=by omega
  clear hT;go_enter Tryz.func177,Tryz.ntmps177;go_wp2;go_ret2;exact ⟨⟨0,0,by omega,by omega,rfl⟩,Kept.refl _⟩
 ·obtain ⟨j,rfl⟩:∃ j,k=257+j:=⟨k - 257,by omega⟩
  have k1:=hT.len j (by omega);have k2:=hT.lbt j (by omega);have hb:=lnT_le j (by omega);have e1:((257+j:Nat):Int) - 257=(j:Int):=by omega
  have b1:((257+j:Nat):Int)<1000:=by omega
  have b2:0<=((257+j:Nat):Int):=by omega
  have j0:¬ (j:Int)<0:=by omega
  have j1:¬ (29:Int)<=(j:Int):=by omega
  have j2:(0:Int)<=(j:Int):=by omega
  have j3:(j:Int)<29:=by omega
  generalize lnT.getD j 0=A at *;generalize lbT.getD j 0=B at *;generalize ((257+j:Nat):Int)=σ at *;clear hT h hk;go_enter Tryz.func177,Tryz.ntmps177;go_wp2_with fail;go_quiet (fail);go_wp2;go_ret2;exact ⟨⟨A,B,hb.2.1,hb.2.2,rfl⟩,(Kept.refl _).drewN _⟩
theorem cdis_any (k:Int) (w:World) (hT:TbsAt w) (h1 : -1<=k) (h2:k<30) :
  Calls Tryz.prog 178 #[.int .i64 k] w fun r w'=>Two 24577 13 r/\Kept w w':=by
 by_cases h:k<0
 ·clear hT
  go_enter Tryz.func178,Tryz.ntmps178;go_wp2;go_ret2;exact ⟨⟨0,0,by omega,by omega,rfl⟩,Kept.refl _⟩
 ·obtain ⟨j,rfl⟩:∃ j:Nat,k=(j:Int):=⟨k.toNat,by omega⟩
  have k1:=hT.dis j (by omega);have hb:=dsT_le j (by omega);have j0:¬ (j:Int)<0:=by omega
  have j1:¬ (30:Int)<=(j:Int):=by omega
  have j2:(0:Int)<=(j:Int):=by omega
  have j3:(j:Int)<30:=by omega
  generalize dsT.getD j 0=A at *;clear hT h h1 h2;go_enter Tryz.func178,Tryz.ntmps178;go_wp2
  all_goals go_ret2
  ·exact ⟨⟨A,j / 2 - 1,hb.2,by omega,by rw[show ((j / 2 - 1:Nat):Int)=(j:Int) / 2 - 1 from by omega];rfl⟩,Kept.refl _⟩
  ·exact ⟨⟨A,0,hb.2,by omega,rfl⟩,Kept.refl _⟩
theorem rept_any (k:Int) (w:World) :
  Calls Tryz.prog 173 #[.int .i64 k] w fun r w'=>Rep r/\Kept w w':=by
 by_cases a1:k=16
 ·subst a1
  go_enter Tryz.func173,Tryz.ntmps173;go_wp2;go_ret2;exact ⟨⟨3,2,by omega,by omega,by omega,rfl⟩,Kept.refl _⟩
 by_cases a2:k=17
 ·subst a2
  go_enter Tryz.func173,Tryz.ntmps173;go_wp2;go_ret2;exact ⟨⟨3,3,by omega,by omega,by omega,rfl⟩,Kept.refl _⟩
 by_cases a3:k=18
 ·subst a3
  go_enter Tryz.func173,Tryz.ntmps173;go_wp2;go_ret2;exact ⟨⟨11,7,by omega,by omega,by omega,rfl⟩,Kept.refl _⟩
 ·have g1:(k == 16)=false:=by rw[beq_eq_false_iff_ne];exact a1
  have g2:(k == 17)=false:=by rw[beq_eq_false_iff_ne];exact a2
  have g3:(k == 18)=false:=by rw[beq_eq_false_iff_ne];exact a3
  clear a1 a2 a3;go_enter Tryz.func173,Tryz.ntmps173;go_wp2;go_ret2;exact ⟨⟨1,0,by omega,by omega,by omega,rfl⟩,Kept.refl _⟩
theorem shat_any (i:Nat) (w:World) (hT:TbsAt w) (hi:i<19) :
  Calls Tryz.prog 174 #[.int .i64 (i:Int)] w fun r w'=>(∃ a:Nat,a<19/\r = .returned (.int .i64 (a:Int)))/\Kept w w':=by
 have k1:=hT.ord i hi;have hb:=orT_le i hi;have j0:¬ (i:Int)<0:=by omega
 have j1:¬ (19:Int)<=(i:Int):=by omega
 have j2:(0:Int)<=(i:Int):=by omega
 have j3:(i:Int)<19:=by omega
 generalize orT.getD i 0=A at *;clear hT hi;go_enter Tryz.func174,Tryz.ntmps174;go_wp2;go_ret;exact ⟨⟨A,hb,rfl⟩,Kept.refl _⟩
abbrev FrQ (x:Nat) (ob:Option Nat):World->World->Prop:=Fr (fun g=>g=x\/ob=some g)
def OvQ (x:Nat) (ob:Option Nat) (w:World) (v:Value):Prop:=v.ownBlock≠some x/\∀ k,v.ownBlock=some k->ob=some k\/w.heap.size<=k
theorem OvQ.own {x:Nat} {ob:Option Nat} {w:World} {v:Value} (h:OvQ x ob w v) (i:Nat) (hi:i<w.heap.size) (e:v.ownBlock=some i):i=x\/ob=some i:=by
 rcases h.2 i e with q | q
 ·exact Or.inr q
 ·omega
theorem OvQ.next {x:Nat} {ob:Option Nat} {w wr:World} {v:Value} (h:OvQ x ob w v) {g n c:Nat} (hat:v.ownBlock=some g\/g=wr.heap.size+1) (hx:x<wr.heap.size) (hw:w.heap.size<=wr.heap.size):OvQ x ob w (.slice (some ⟨g,0,none⟩) n c):=by
 have e:(Value.slice (some ⟨g,0,none⟩) n c).ownBlock=some g:=rfl;refine ⟨fun q => ?_,fun k hk => ?_⟩
 ·rw[e] at q
  rcases hat with r | r
  ·exact h.1 (by rw[r];exact q)
  ·have:=Option.some.inj q;omega
 ·rw[e] at hk
  have:=Option.some.inj hk
  subst this;rcases hat with r | r
  ·exact h.2 _ r
  ·exact Or.inr (by omega)
theorem number_b (x T s:Nat) (n:Int) (v0:Value) (w:World) (h:BitB w x v0 T) (hs:s<=16) (hn0:0<=n) (hn1:n<4294967296) (hT:T<=1099511627776) :
  Calls Tryz.prog 101 #[.pointer (some ⟨x,0,none⟩),.int .u32 n,.int .u64 (s:Int)] w fun r w'=>r = .returned (.tuple #[])/\WB x w v0 (T+s) w':=by
 obtain ⟨hlt,hfz,h0,hown,hnx,⟨r,hr0,hr1,h1⟩,h2⟩:=h;obtain ⟨p,c,rfl⟩:=hown.slice;obtain ⟨ob,hob⟩:∃ ob,ob=(Value.slice p (T / 8) c).ownBlock:=⟨_,rfl⟩;have HOB:Hid (ob=(Value.slice p (T / 8) c).ownBlock):=hob;have HNX:Hid (ob≠some x):=by rw[hob];exact hnx
 clear hob hnx;have hfa:=hfz 0;have hfb:=hfz 1;have hfc:=hfz 2;have hm:T % 8<8:=Nat.mod_lt _ (by omega);have HO:Hid (Own8 w 0 (.slice p (T / 8) c) (T / 8)):=hown;clear hown;go_enter Tryz.func101,Tryz.ntmps101;go_wp2;go_region
 obtain ⟨R,hR⟩:∃ R,R=bits BinOp.or IntKind.u32 r (bits BinOp.and IntKind.u32 n ((2^s - 1) % 4294967296)*2^(T % 8) % 4294967296):=⟨_,rfl⟩;rw[<- hR];have hRb:=bounds_u32 (wf_bits .or .u32 r (bits BinOp.and IntKind.u32 n ((2^s - 1) % 4294967296)*2^(T % 8) % 4294967296));rw[<- hR] at hRb;clear hR;have hD:((w.setCell { block:=x,off:=1 } (Value.int IntKind.u32 R)).drew)=((w.setCell { block:=x,off:=1 } (Value.int IntKind.u32 R)).drewN 1):=rfl;rw[hD];clear hD;have a0:((w.setCell ⟨x,1,none⟩ (Value.int IntKind.u32 R)).drewN 1).cell? ⟨x,0,none⟩=some (Value.slice p (T / 8) c):=(cell_set_other _ _ _ _ _ (by omega)).trans h0;have a1:((w.setCell ⟨x,1,none⟩ (Value.int IntKind.u32 R)).drewN 1).cell? ⟨x,1,none⟩=some (Value.int IntKind.u32 R):=cell_set_same h1 _;have a2:((w.setCell ⟨x,1,none⟩ (Value.int IntKind.u32 R)).drewN 1).cell? ⟨x,2,none⟩=some (Value.int IntKind.u64 ((T % 8:Nat):Int)):=(cell_set_other _ _ _ _ _ (by omega)).trans h2;have af:∀ k,((w.setCell ⟨x,1,none⟩ (Value.int IntKind.u32 R)).drewN 1).frozen? ⟨x,k,none⟩=false:=fun k=>by show (w.setCell _ _).frozen? _=false;rw[World.frozen?_setCell];exact hfz k
 have HO1:Hid (Own8 ((w.setCell ⟨x,1,none⟩ (Value.int IntKind.u32 R)).drewN 1) 0 (.slice p (T / 8) c) (T / 8)):=(HO.out.setO (by rw[<- HOB.out];exact HNX.out) _ _).drewN _;have HF1:Hid (FrQ x ob w ((w.setCell ⟨x,1,none⟩ (Value.int IntKind.u32 R)).drewN 1)):=(Fr.setCell (S:=fun g=>g=x\/ob=some g) (Fr.refl _ _) (Or.inl (Or.inl rfl)) _ _).drewN _;have HJ1:Hid (∀ j,3<=j->((w.setCell ⟨x,1,none⟩ (Value.int IntKind.u32 R)).drewN 1).cell? ⟨x,j,none⟩=w.cell? ⟨x,j,none⟩):=fun j hj=>cell_set_other _ _ _ _ _ (by omega)
 generalize (w.setCell ⟨x,1,none⟩ (Value.int IntKind.u32 R)).drewN 1=w1 at *;clear h0 h1 h2 hfa hfb hfc;have hfa:=af 0;have hfb:=af 1;have hfc:=af 2;go_wp2;generalize ((2:Int)^s % 4294967296 - 1) % 4294967296=Z1;go_loopw [] (fun W=>∃ m q:Nat,∃ ov:Value,∃ r:Int,8*q+m=T+s/\m<24/\W.cell? ⟨x,2,none⟩=some (.int .u64 (m:Int))/\W.cell? ⟨x,0,none⟩=some ov/\Own8 W 0 ov q/\OvQ x ob w ov/\0<=r/\r<4294967296/\W.cell? ⟨x,1,none⟩=some (.int .u32 r)/\(∀ k,W.frozen? ⟨x,k,none⟩=false)/\FrQ x ob w W/\(∀ j,3<=j->W.cell? ⟨x,j,none⟩=w.cell? ⟨x,j,none⟩)) (fun W=>szOf W x)
 case atStart=>
  refine ⟨T % 8+s,T / 8,_,R,by omega,by omega,?_,(cell_set_other _ _ _ _ _ (by omega)).trans a0,HO1.out.setO (by rw[<- HOB.out];exact HNX.out) _ _,⟨by rw[<- HOB.out];exact HNX.out,fun k hk=>Or.inl (by rw[HOB.out];exact hk)⟩,hRb.1,by omega,(cell_set_other _ _ _ _ _ (by omega)).trans a1,?_,HF1.out.setCell (Or.inl (Or.inl rfl)) _ _,?_⟩
  ·rw[cell_set_same a2];simp
  ·intro k;rw[World.frozen?_setCell];exact af k
  ·intro j hj;rw[cell_set_other _ _ _ _ _ (by omega)];exact HJ1.out j hj
 case round=>
  obtain ⟨m,q,ov,r2,he,hm2,c2,c0,ho,hv,r0,r1,c1,ff,hF,hJ⟩:=hrel;obtain ⟨p2,cc,rfl⟩:=ho.slice;have f0:=ff 0;have f1:=ff 1;have f2:=ff 2;have hwz:w.heap.size<=wr.heap.size:=hF.size;have HV:Hid (OvQ x ob w (.slice p2 q cc)):=hv;have HF:Hid (FrQ x ob w wr):=hF;have HJ:Hid (∀ j,3<=j->wr.cell? ⟨x,j,none⟩=w.cell? ⟨x,j,none⟩):=hJ;have HO2:Hid (Own8 wr 0 (.slice p2 q cc) q):=ho;replace ff:Hid (∀ k,wr.frozen? ⟨x,k,none⟩=false):=ff;clear ho hv hF hJ af HO HO1 HF1 HJ1;by_cases hge:8<=m
  ·have hq:q<=1099511627776:=by omega
   have hge':(8:Int)<=(m:Int):=by omega
   have eb:=bounds_u8 (wf_wrap .u8 r2);have e0:0<=IntKind.u8.wrap r2:=eb.1;have e1:IntKind.u8.wrap r2<256:=by omega
   have hne:¬ (Value.slice p2 q cc).ownBlock=some x:=HV.out.1;have hxs:x<wr.heap.size:=by omega
   clear eb;go_wp2;go_region_law ((refine step8_b (by rfl) _ _ (by rfl) (.slice p2 q cc) q (by rfl) (by first | exact HO2.out.alloc _ | exact (HO2.out.drewN _).alloc _ | exact (HO2.out.alloc _).drewN _) wr.heap.size 1 (IntKind.u8.wrap r2) (by rfl) e0 e1 (by simp) (by omega) (wr.heap.size+1) (by simp) ?_;intro g' cap w2 ho2 hf2 hat;have fk:Fr (fun k=>(Value.slice p2 q cc).ownBlock=some k) wr w2:=(((Fr.refl _ wr).drewN 1).alloc _).trans hf2;have k0:=(fk.cell (k:=0) hxs hne).trans c0;have k1:=(fk.cell (k:=1) hxs hne).trans c1;have k2:=(fk.cell (k:=2) hxs hne).trans c2;have g0:=(fk.frozen (k:=0) hxs hne).trans f0;have g1:=(fk.frozen (k:=1) hxs hne).trans f1;have g2:=(fk.frozen (k:=2) hxs hne).trans f2))
   all_goals
    have HVN:Hid (OvQ x ob w (.slice (some ⟨g',0,none⟩) (q+1) cap)):=HV.out.next hat hxs hwz;have HO3:Hid (Own8 (w2.setCell ⟨x,0,none⟩ (Value.slice (some ⟨g',0,none⟩) (q+1) cap)) 0 (Value.slice (some ⟨g',0,none⟩) (q+1) cap) (q+1)):=ho2.setO HVN.out.1 _ _;have HF3:Hid (FrQ x ob w (w2.setCell ⟨x,0,none⟩ (Value.slice (some ⟨g',0,none⟩) (q+1) cap))):=(HF.out.trans' fk (fun i hi e=>HV.out.own i hi e)).setCell (Or.inl (Or.inl rfl)) _ _;have HJ3:Hid (∀ j,3<=j->(w2.setCell ⟨x,0,none⟩ (Value.slice (some ⟨g',0,none⟩) (q+1) cap)).cell? ⟨x,j,none⟩=w.cell? ⟨x,j,none⟩):=fun j hj=>(cell_set_other _ _ _ _ _ (by omega)).trans ((fk.cell hxs hne).trans (HJ.out j hj))
    have HG3:Hid (∀ k,(w2.setCell ⟨x,0,none⟩ (Value.slice (some ⟨g',0,none⟩) (q+1) cap)).frozen? ⟨x,k,none⟩=false):=fun k=>by rw[World.frozen?_setCell];exact (fk.frozen hxs hne).trans (ff.out k)
    have m0:=cell_set_same k0 (Value.slice (some ⟨g',0,none⟩) (q+1) cap);have m1:=(cell_set_other w2 x 0 1 (Value.slice (some ⟨g',0,none⟩) (q+1) cap) (by omega)).trans k1;have m2:=(cell_set_other w2 x 0 2 (Value.slice (some ⟨g',0,none⟩) (q+1) cap) (by omega)).trans k2;have hsz':szOf wr x=m:=by unfold szOf;rw[c2];simp
    generalize w2.setCell ⟨x,0,none⟩ (Value.slice (some ⟨g',0,none⟩) (q+1) cap)=w3 at *;have n0:=HG3.out 0;have n1:=HG3.out 1;have n2:=HG3.out 2;clear fk hf2 ho2 HO2 HF HJ k0 k1 k2 g0 g1 g2 c0 c1 c2 f0 f1 f2;go_wp2;refine ⟨⟨m - 8,q+1,_,r2 / 256,by omega,by omega,?_,(cell_set_other _ _ _ _ _ (by omega)).trans ((cell_set_other _ _ _ _ _ (by omega)).trans m0),(HO3.out.setO HVN.out.1 _ _).setO HVN.out.1 _ _,HVN.out,by omega,by omega,?_,?_,(HF3.out.setCell (Or.inl (Or.inl rfl)) _ _).setCell (Or.inl (Or.inl rfl)) _ _,?_⟩,?_⟩
    ·rw[cell_set_same ((cell_set_other _ _ _ _ _ (by omega)).trans m2)]
     exact congrArg some (val_int (by omega))
    ·rw[cell_set_other _ _ _ _ _ (by omega),cell_set_same m1]
    ·intro k;rw[World.frozen?_setCell,World.frozen?_setCell];exact HG3.out k
    ·intro j hj;rw[cell_set_other _ _ _ _ _ (by omega),cell_set_other _ _ _ _ _ (by omega)];exact HJ3.out j hj
    ·rw[hsz']
     unfold szOf;rw[cell_set_same ((cell_set_other _ _ _ _ _ (by omega)).trans m2)];show ((m:Int) - 8).toNat<m
     omega
  ·have hge':¬ (8:Int)<=(m:Int):=by omega
   go_wp2;go_end0
   refine ⟨rfl,_,⟨Nat.lt_of_lt_of_le hlt hwz,ff.out,c0,?_,HV.out.1,⟨r2,r0,r1,c1⟩,?_⟩,⟨?_,fun k hk => ?_,HJ.out⟩⟩
   ·rw[show (T+s) / 8=q by omega];exact HO2.out
   ·rw[show (T+s) % 8=m by omega];exact c2
   ·rw[<- HOB.out];exact HF.out
   ·rw[<- HOB.out];exact HV.out.2 k hk
theorem WB.next {x T2:Nat} {w w1 w2:World} {v v1:Value} (k:WrB x w v w1 v1) (h:WB x w1 v1 T2 w2):WB x w v T2 w2:=by
 obtain ⟨v2,b,k2⟩:=h;exact ⟨v2,b,k.trans k2⟩
theorem WrB.pre {x:Nat} {w w1 w2:World} {v v2:Value} (k:Kept w w1) (hx:x<w.heap.size) (h:WrB x w1 v w2 v2):WrB x w v w2 v2:=
 ⟨(Fr.of_kept k).trans h.fr,fun g hg=>by rcases h.own g hg with q | q;exact Or.inl q;exact Or.inr (Nat.le_trans k.size q),fun j hj=>(h.far j hj).trans (k.cell (p:=⟨x,j,none⟩) hx)⟩
theorem WB.pre {x T:Nat} {w w1 w2:World} {v:Value} (k:Kept w w1) (hx:x<w.heap.size) (h:WB x w1 v T w2):WB x w v T w2:=by
 obtain ⟨v2,b,k2⟩:=h;exact ⟨v2,b,k2.pre k hx⟩
theorem code_b (x T s:Nat) (n:Int) (v0:Value) (w:World) (h:BitB w x v0 T) (hs:s<=15) (hn0:0<=n) (hn1:n<4294967296) (hT:T<=549755813888) :
  Calls Tryz.prog 176 #[.pointer (some ⟨x,0,none⟩),.int .u32 n,.int .u64 (s:Int)] w fun r w'=>r = .returned (.tuple #[])/\WB x w v0 (T+s) w':=by
 have H0:Hid (BitB w x v0 T):=h;clear h;go_enter Tryz.func176,Tryz.ntmps176;go_wp2;go_loopw [2] (fun v W=>∃ k:Nat,k<=s/\v = .int .u64 (k:Int)/\WB x w v0 (T+(s - k)) W) (fun v _=>(intOf v).toNat)
 case atStart=>exact ⟨s,by omega,rfl,by rw[Nat.sub_self];exact WB.refl H0.out⟩
 case round=>
  obtain ⟨k,hk,rfl,hW⟩:=hrel;obtain ⟨v1,b1,k1⟩:=hW;by_cases h0:0<k
  ·have h0':(0:Int)<=(k:Int) - 1:=by omega
   have h1':(k:Int) - 1<=32:=by omega
   have h2':(0:Int)<(k:Int):=by omega
   have q0:0<=n / 2^((k:Int) - 1).toNat:=Int.ediv_nonneg hn0 (by exact Int.le_of_lt (Int.pow_pos (by omega)));have q1:n / 2^((k:Int) - 1).toNat<4294967296:=Int.lt_of_le_of_lt (Int.ediv_le_self _ hn0) hn1;have F:Hid (Calls Tryz.prog 101 #[.pointer (some ⟨x,0,none⟩),.int .u32 (n / 2^((k:Int) - 1).toNat),.int .u64 1] wr fun r w'=>r = .returned (.tuple #[])/\WB x wr v1 (T+(s - k)+1) w'):=number_b x (T+(s - k)) 1 _ v1 wr b1 (by omega) q0 q1 (by omega);have K1:Hid (WrB x w v0 wr v1):=k1;clear q0 q1 k1 b1;go_wp2_with fail;rw[show n / 2^(k - 1)=n / 2^((k:Int) - 1).toNat by congr 2;omega];refine F.out.mono ?_;rintro r w1 ⟨rfl,hw1⟩;have HW1:Hid (WB x w v0 (T+(s - k)+1) w1):=WB.next K1.out hw1;clear hw1;go_wp2;exact ⟨⟨k - 1,by omega,val_int (by omega),by rw[show T+(s - (k - 1))=T+(s - k)+1 by omega];exact HW1.out⟩,by simp [intOf];omega⟩
  ·have hk0:k=0:=by omega
   subst hk0;go_wp2;go_end0
   exact ⟨rfl,v1,b1,k1⟩
theorem fill_b (x T:Nat) (v0:Value) (w:World) (h:BitB w x v0 T) (hT:T<=549755813888) :
  Calls Tryz.prog 74 #[.pointer (some ⟨x,0,none⟩)] w fun r w'=>r = .returned (.tuple #[])/\WB x w v0 (8*((T+7) / 8)) w':=by
 have h2:=h.sz;have hm:T % 8<8:=Nat.mod_lt _ (by omega);by_cases h0:T % 8=0
 ·have H0:Hid (BitB w x v0 T):=h
  rw[h0] at h2;clear h hm;have HE:Hid (8*((T+7) / 8)=T):=by show 8*((T+7) / 8)=T;omega
  clear h0;go_enter Tryz.func74,Tryz.ntmps74;go_wp2;go_end0
  exact ⟨rfl,by rw[HE.out];exact WB.refl H0.out⟩
 ·obtain ⟨m,hme⟩:∃ m,m=T % 8:=⟨_,rfl⟩
  rw[<- hme] at h2 hm h0;have HE:Hid (8*((T+7) / 8)=T+(8 - m)):=by show 8*((T+7) / 8)=T+(8 - m);omega
  clear hme;have F:Hid (∀ W,Kept w W->Calls Tryz.prog 101 #[.pointer (some ⟨x,0,none⟩),.int .u32 0,.int .u64 ((8 - m:Nat):Int)] W fun r w'=>r = .returned (.tuple #[])/\WB x W v0 (T+(8 - m)) w'):=fun W hK=>number_b x T (8 - m) 0 v0 W (h.kept hK) (by omega) (by omega) (by omega) (by omega)
  have H0:Hid (BitB w x v0 T):=h;clear h;have e8:((8 - m:Nat):Int)=8 - (m:Int):=by omega
  rw[e8] at F;have hm0:(0:Int)<(m:Int):=by omega
  have hm8:(m:Int)<8:=by omega
  clear e8 h0;go_enter Tryz.func74,Tryz.ntmps74;go_wp2_with fail;refine (F.out _ (Kept.refl _)).mono ?_;rintro r w1 ⟨rfl,hw1⟩;go_wp2;go_end0
  exact ⟨rfl,by rw[HE.out];exact hw1⟩
def BkG (W:World) (b o:Nat):Prop:=∀ i,i<288->∃ (c:Int) (z:Nat),0<=c/\c<4294967296/\z<=15/\W.cell? ⟨b,o+i,none⟩=some (.int .u32 c)/\W.cell? ⟨b,o+288+i,none⟩=some (.int .u8 (z:Int))
theorem BkG.lt {W:World} {b o:Nat} (h:BkG W b o):b<W.heap.size:=by
 obtain ⟨c,z,_,_,_,e,_⟩:=h 0 (by omega);exact World.block_lt_of_cell? _ _ e
theorem BkG.frS {S:Nat->Prop} {w W:World} {b o:Nat} (h:BkG w b o) (k:Fr S w W) (hS:¬ S b):BkG W b o:=by
 intro i hi;obtain ⟨c,z,a,b',d,e,f⟩:=h i hi;exact ⟨c,z,a,b',d,(k.cell h.lt hS).trans e,(k.cell h.lt hS).trans f⟩
theorem BkG.kept {w W:World} {b o:Nat} (h:BkG w b o) (k:Kept w W):BkG W b o:=by
 intro i hi;obtain ⟨c,z,a,b',d,e,f⟩:=h i hi;exact ⟨c,z,a,b',d,(k.cell (World.block_lt_of_cell? _ _ e)).trans e,(k.cell (World.block_lt_of_cell? _ _ f)).trans f⟩
def CdP (r:Ending):Prop:=∃ (c:Int) (k:Nat),0<=c/\c<4294967296/\k<=15/\r = .returned (.tuple #[.int .u32 c,.int .u64 (k:Int)])
theorem bcode_g (b o:Nat) (σ:Int) (w:World) (hB:BkG w b o) :
  Calls Tryz.prog 175 #[.pointer (some ⟨b,o,none⟩),.int .i64 σ] w fun r w'=>CdP r/\Kept w w':=by
 by_cases h1:σ<0
 ·clear hB
  go_enter Tryz.func175,Tryz.ntmps175;go_wp2;go_ret2;exact ⟨⟨0,0,by omega,by omega,by omega,rfl⟩,Kept.refl _⟩
 by_cases h2:288<=σ
 ·clear hB
  go_enter Tryz.func175,Tryz.ntmps175;go_wp2;go_ret2;exact ⟨⟨0,0,by omega,by omega,by omega,rfl⟩,Kept.refl _⟩
 ·obtain ⟨i,rfl⟩:∃ i:Nat,σ=(i:Int):=⟨σ.toNat,by omega⟩
  obtain ⟨c,z,hc0,hc1,hz,k1,k2⟩:=hB i (by omega);have i0:(0:Int)<=(i:Int):=by omega
  have i1:(i:Int)<288:=by omega
  have hz0:(0:Int)<=(z:Int):=by omega
  have hz1:(z:Int)<16:=by omega
  clear hB h1 h2;go_enter Tryz.func175,Tryz.ntmps175;go_wp2;go_quiet (fail);go_wp2;go_ret2;exact ⟨⟨c,z,hc0,hc1,hz,rfl⟩,(Kept.refl _).drewN _⟩
def WUp (x:Nat) (w:World) (v:Value) (T n:Nat) (w':World):Prop:=∃ t,T<=t/\t<=T+n/\WB x w v t w'
theorem symw_b (x T b o:Nat) (σ:Int) (v0:Value) (w:World) (h:BitB w x v0 T) (hB:BkG w b o) (hT:T<=274877906944) :
  Calls Tryz.prog 162 #[.pointer (some ⟨x,0,none⟩),.int .i64 σ,.pointer (some ⟨b,o,none⟩)] w fun r w'=>r = .returned (.tuple #[])/\WUp x w v0 T 15 w':=by
 have F1:Hid (Calls Tryz.prog 175 #[.pointer (some ⟨b,o,none⟩),.int .i64 σ] w fun r w'=>CdP r/\Kept w w'):=bcode_g b o σ w hB;have F2:Hid (∀ W (c:Int) (k:Nat),Kept w W->0<=c->c<4294967296->k<=15->Calls Tryz.prog 176 #[.pointer (some ⟨x,0,none⟩),.int .u32 c,.int .u64 (k:Int)] W fun r w'=>r = .returned (.tuple #[])/\WB x W v0 (T+k) w'):=fun W c k hK h0 h1 hk=>code_b x T k c v0 W (h.kept hK) hk h0 h1 (by omega)
 have HL:Hid (x<w.heap.size):=h.lt;clear h hB hT;go_enter Tryz.func162,Tryz.ntmps162;go_wp2_with fail;refine F1.out.mono ?_;rintro r w1 ⟨⟨c,k,hc0,hc1,hk,rfl⟩,hk1⟩;have F3:=F2.out w1 c k hk1 hc0 hc1 hk;have HK:Hid (k<=15):=hk;have HK1:Hid (Kept w w1):=hk1;clear hc0 hc1 hk hk1 F1 F2;go_wp2_with fail;refine F3.mono ?_;rintro r w2 ⟨rfl,hw2⟩;have HW:Hid (WUp x w v0 T 15 w2):=⟨T+k,by omega,by have:=HK.out;omega,WB.pre HK1.out HL.out hw2⟩;clear hw2 F3;go_wp2;go_end0
 exact ⟨rfl,HW.out⟩
