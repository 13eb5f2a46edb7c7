import Derived.Test.YthniahejjamhgaaGreatDoorRoHA8
import Derived.Test.YthniahejjamhgaaGreatDoorRoG6b
set_option maxRecDepth 100000
set_option maxHeartbeats 6400000
namespace Go.Proofs.YthniahejjamhgaaGreatDoor
open Go.RowKit
set_option linter.unusedSimpArgs false
set_option linter.unusedVariables false
theorem zero19:#[Value.int .i64 0,Value.int .i64 0,Value.int .i64 0,Value.int .i64 0,Value.int .i64 0,Value.int .i64 0,Value.int .i64 0,Value.int .i64 0,Value.int .i64 0,Value.int .i64 0,Value.int .i64 0,Value.int .i64 0,Value.int .i64 0,Value.int .i64 0,Value.int .i64 0,Value.int .i64 0,Value.int .i64 0,Value.int .i64 0,Value.int .i64 0]=Array.replicate 19 (Value.int .i64 0):=by rfl
theorem shortlen_any (lv:Value) (n:Nat) (w:World) (hl:StAt w lv n) (hn:n<=1048576) :
  Calls Tryz.prog 159 #[lv] w fun r w'=>LenP w 19 r w'/\Kept w w':=by
 obtain ⟨p,c,rfl⟩:=hl.form;have HL:Hid (∀ W,Kept w W->StAt W (.slice p n c) n):=fun W k=>hl.kept k
 obtain ⟨w0,hw0⟩:∃ w0,w0=w.alloc (Obj.cells #[Value.int .i64 0,Value.int .i64 0,Value.int .i64 0,Value.int .i64 0,Value.int .i64 0,Value.int .i64 0,Value.int .i64 0,Value.int .i64 0,Value.int .i64 0,Value.int .i64 0,Value.int .i64 0,Value.int .i64 0,Value.int .i64 0,Value.int .i64 0,Value.int .i64 0,Value.int .i64 0,Value.int .i64 0,Value.int .i64 0,Value.int .i64 0] 237):=⟨_,rfl⟩;have hR:Hid (IR w0 w.heap.size 0 19):=by
  rw[hw0];intro j hj;refine ⟨0,?_⟩;rw[World.cell?_alloc_at _ _ _ _ rfl];rw[zero19];simp [hj]
 have hF:Hid (∀ k,w0.frozen? ⟨w.heap.size,k,none⟩=false):=by rw[hw0];exact fun k=>World.frozen?_alloc_at _ _ _ _ rfl
 have hK:Hid (Kept w w0):=by rw[hw0];exact (Below.refl _ _).alloc (Nat.le_refl _) _
 clear hl;go_enter Tryz.func159,Tryz.ntmps159;go_upto_region 2 with fail
 rw[<- hw0];clear hw0;go_wp2_with fail;go_loopw [4,5] (fun v _ W=>∃ k:Nat,k<=n/\v = .int .i64 (k:Int)/\IR W w.heap.size 0 19/\(∀ k,W.frozen? ⟨w.heap.size,k,none⟩=false)/\Kept w W) (fun v _ _=>n - (intOf v).toNat)
 case atStart=>exact ⟨0,by omega,rfl,hR.out,hF.out,hK.out⟩
 case round=>
  clear hR hF hK;obtain ⟨k,hk,rfl,hr,hf,hK⟩:=hrel;have HR:Hid (IR wr w.heap.size 0 19):=hr;have HF:Hid (∀ k,wr.frozen? ⟨w.heap.size,k,none⟩=false):=hf;have HK:Hid (Kept w wr):=hK;clear hr hf;by_cases c1:k<n
  ·have c1':(k:Int)<(n:Int):=by omega
   have k0:(0:Int)<=(k:Int):=by omega
   obtain ⟨g,s,z,rfl,y0,y1⟩:=(HL.out wr hK).two c1;clear hK y1;by_cases c2:0<=s/\s<19
   ·obtain ⟨s,rfl⟩:∃ d:Nat,s=(d:Int):=⟨s.toNat,by omega⟩
    obtain ⟨c2,c3⟩:=c2;obtain ⟨z2,hz⟩:=HR.out s (by omega);rw[Nat.zero_add] at hz;have f1:=HF.out s;go_wp2;exact ⟨⟨k+1,by omega,by go_num,HR.out.set _ _,fun j=>by rw[World.frozen?_setCell];exact HF.out j,HK.out.setCell (by simp) _⟩,by simp [intOf];omega⟩
   ·by_cases c3:0<=s
    ·have c4:¬ s<19:=by omega
     clear c2;go_wp2;exact ⟨⟨k+1,by omega,by go_num,HR.out,HF.out,HK.out⟩,by simp [intOf];omega⟩
    ·clear c2
     go_wp2;exact ⟨⟨k+1,by omega,by go_num,HR.out,HF.out,HK.out⟩,by simp [intOf];omega⟩
  ·have c1':¬ (k:Int)<(n:Int):=by omega
   obtain ⟨l,hll,hLA⟩:=HR.out.lat 19;have HLA:Hid (LAt wr .i64 (.slice (some ⟨w.heap.size,0,none⟩) 19 19) l):=hLA;have hll':Hid (l.length=19):=hll;have F:Hid (Calls Tryz.prog 134 #[.slice (some ⟨w.heap.size,0,none⟩) 19 19,.int .i64 7] wr fun r w'=>LenP wr 19 r w'/\Kept wr w'):=by
    have:=lengths_any _ l 7 wr hLA (by omega) (by omega)
    rw[hll] at this;exact this
   clear hLA hll HLA hll' hK;go_wp2_with fail;refine F.out.mono ?_;rintro r w1 ⟨⟨g,rfl,hg,hR1⟩,hk1⟩;have E:Hid (w.heap.size<=g/\Rng .u8 256 w1 g 0 19/\Kept w w1):=⟨Nat.le_trans HK.out.size hg,hR1,HK.out.trans hk1⟩;clear hR1 hk1 hg F;go_wp2;go_ret;exact ⟨⟨g,rfl,E.out.1,E.out.2.1⟩,E.out.2.2⟩
theorem zero19b:#[Value.int .u8 0,Value.int .u8 0,Value.int .u8 0,Value.int .u8 0,Value.int .u8 0,Value.int .u8 0,Value.int .u8 0,Value.int .u8 0,Value.int .u8 0,Value.int .u8 0,Value.int .u8 0,Value.int .u8 0,Value.int .u8 0,Value.int .u8 0,Value.int .u8 0,Value.int .u8 0,Value.int .u8 0,Value.int .u8 0,Value.int .u8 0]=Array.replicate 19 (Value.int .u8 0):=by rfl
theorem u32_lo (z:Int):0<=IntKind.u32.wrap z:=(bounds_u32 (wf_wrap .u32 _)).1
theorem u32_hi (z:Int):IntKind.u32.wrap z<4294967296:=Int.lt_of_le_of_lt (bounds_u32 (wf_wrap .u32 _)).2 (by omega)
theorem shortsw_n (x T g:Nat) (v:Value) (w:World) (h:WS w x v T) (hR:Rng .u8 256 w g 0 19) (hT:T<=68719476736) :
  Calls Tryz.prog 160 #[.pointer (some ⟨x,0,none⟩),.slice (some ⟨g,0,none⟩) 19 19] w fun r w'=>r = .returned (.tuple #[])/\WN x w v T 61 w':=by
 have HS:Hid (∀ W,Kept w W->WS W x v T):=fun W k=>h.kept k
 have HG:Hid (∀ W,Kept w W->Rng .u8 256 W g 0 19):=fun W k=>hR.kept k
 have HO:Hid (Off x v w.heap.size):=h.new (Nat.le_refl _);have HX:Hid (x<w.heap.size):=h.bit.lt;obtain ⟨w0,hw0⟩:∃ w0,w0=w.alloc (Obj.cells #[Value.int .u8 0,Value.int .u8 0,Value.int .u8 0,Value.int .u8 0,Value.int .u8 0,Value.int .u8 0,Value.int .u8 0,Value.int .u8 0,Value.int .u8 0,Value.int .u8 0,Value.int .u8 0,Value.int .u8 0,Value.int .u8 0,Value.int .u8 0,Value.int .u8 0,Value.int .u8 0,Value.int .u8 0,Value.int .u8 0,Value.int .u8 0] 78):=⟨_,rfl⟩;have hR0:Hid (Rng .u8 256 w0 w.heap.size 0 19):=by
  rw[hw0];intro j hj;refine ⟨0,by omega,by omega,?_⟩;rw[World.cell?_alloc_at _ _ _ _ rfl];rw[zero19b];simp [hj]
 have hF0:Hid (∀ k,w0.frozen? ⟨w.heap.size,k,none⟩=false):=by rw[hw0];exact fun k=>World.frozen?_alloc_at _ _ _ _ rfl
 have hK0:Hid (Kept w w0):=by rw[hw0];exact (Below.refl _ _).alloc (Nat.le_refl _) _
 clear h hR;go_enter Tryz.func160,Tryz.ntmps160;go_upto_region 1 with fail
 rw[<- hw0];clear hw0;go_wp2_with fail;go_loopw [5,6] (fun v5 _ W=>∃ k:Nat,k<=19/\v5 = .int .i64 (k:Int)/\Rng .u8 256 W w.heap.size 0 19/\(∀ k,W.frozen? ⟨w.heap.size,k,none⟩=false)/\Kept w W) (fun v5 _ _=>19 - (intOf v5).toNat)
 case atStart=>exact ⟨0,by omega,rfl,hR0.out,hF0.out,hK0.out⟩
 case round=>
  clear hR0 hF0 hK0;obtain ⟨k,hk,rfl,hr,hf,hK⟩:=hrel;have HR:Hid (Rng .u8 256 wr w.heap.size 0 19):=hr;have HF:Hid (∀ k,wr.frozen? ⟨w.heap.size,k,none⟩=false):=hf;have HK:Hid (Kept w wr):=hK;clear hr hf hK;by_cases c1:k<19
  ·have c1':(k:Int)<19:=by omega
   have k0:(0:Int)<=(k:Int):=by omega
   go_wp2_with fail;refine (shat_any k wr (HS.out wr HK.out).tab c1).mono ?_;rintro r w1 ⟨⟨a,ha,rfl⟩,hk1⟩;have hlt:w.heap.size<wr.heap.size:=by
    obtain ⟨z,_,_,hz⟩:=HR.out 0 (by omega);exact World.block_lt_of_cell? _ _ hz
   have HR1:Hid (Rng .u8 256 w1 w.heap.size 0 19):=HR.out.kept hk1;have HF1:Hid (∀ k,w1.frozen? ⟨w.heap.size,k,none⟩=false):=fun j=>(hk1.frozen (p:=⟨w.heap.size,j,none⟩) hlt).trans (HF.out j)
   have HK1:Hid (Kept w w1):=HK.out.trans hk1;obtain ⟨y,y0,y1,hy⟩:=HG.out w1 HK1.out a ha;obtain ⟨z,_,_,hz⟩:=HR1.out k c1;rw[Nat.zero_add] at hy hz;have f1:=HF1.out k;have a0:(0:Int)<=(a:Int):=by omega
   have a1:(a:Int)<19:=by omega
   clear hk1 HR HF HK;go_wp2;exact ⟨⟨k+1,by omega,by go_num,HR1.out.set _ _ y0 y1,fun j=>by rw[World.frozen?_setCell];exact HF1.out j,HK1.out.setCell (by simp) _⟩,by simp [intOf];omega⟩
  ·have c1':¬ (k:Int)<19:=by omega
   obtain ⟨l,hll,hLA,_⟩:=HR.out.lat 19;have F:Hid (Calls Tryz.prog 157 #[.slice (some ⟨w.heap.size,0,none⟩) 19 19,.int .i64 4] wr fun r w'=>NumB 19 r/\w'=wr):=by
    have:=told_any _ l 4 wr hLA (by omega)
    rw[hll] at this;exact this
   clear hLA;have hlt:w.heap.size<wr.heap.size:=by
    obtain ⟨z,_,_,hz⟩:=HR.out 0 (by omega);exact World.block_lt_of_cell? _ _ hz
   go_wp2_with fail;refine F.out.mono ?_;rintro r w1 ⟨⟨n,hn,rfl⟩,rfl⟩;clear F;have F1:Hid (∀ q:Int,0<=q->q<4294967296->Calls Tryz.prog 101 #[.pointer (some ⟨x,0,none⟩),.int .u32 q,.int .u64 4] w1 fun r w'=>r = .returned (.tuple #[])/\WN x w1 v T 4 w'):=fun q h0 h1=>number_n x T 4 q v w1 (HS.out w1 HK.out) (by omega) h0 h1 (by omega)
   go_wp2_with fail;refine (F1.out _ (Int.emod_nonneg _ (by omega)) (Int.emod_lt_of_pos _ (by omega))).mono ?_;rintro r w2 ⟨rfl,v2,t2,l2,u2,s2,r2⟩;have S2:Hid (WS w2 x v2 t2):=s2;have R2:Hid (WrB x w v w2 v2):=r2.pre HK.out HX.out;have O2:Hid (Off x v2 w.heap.size):=HO.out.next r2 hlt;have G2:Hid (Rng .u8 256 w2 w.heap.size 0 19):=HR.out.fr (fun j _ _=>r2.cellK HO.out hlt);clear s2 r2 F1 HR HF HK HS HG HO hlt hll;go_wp2_with fail;go_loopw [8] (fun v8 W=>∃ (k:Nat) (v':Value) (t:Nat),k<=19/\v8 = .int .i64 (k:Int)/\T<=t/\t<=T+4+3*k/\WS W x v' t/\WrB x w v W v'/\Off x v' w.heap.size/\Rng .u8 256 W w.heap.size 0 19) (fun v8 _=>19 - (intOf v8).toNat)
   case atStart=>exact ⟨0,v2,t2,by omega,rfl,by omega,by omega,S2.out,R2.out,O2.out,G2.out⟩
   case round=>
    clear S2 R2 O2 G2;obtain ⟨k,v3,t3,hk3,rfl,l3,u3,s3,r3,o3,g3⟩:=hrel;have S3:Hid (WS wr x v3 t3):=s3;have R3:Hid (WrB x w v wr v3):=r3;have O3:Hid (Off x v3 w.heap.size):=o3;have G3:Hid (Rng .u8 256 wr w.heap.size 0 19):=g3;clear s3 r3 o3;by_cases c2:k<n
    ·have c2':(k:Int)<(n:Int):=by omega
     by_cases c3:k<19
     ·have c3':(k:Int)<19:=by omega
      have k0:(0:Int)<=(k:Int):=by omega
      obtain ⟨z,z0,z1,hz⟩:=g3 k c3;rw[Nat.zero_add] at hz;have hlt:=World.block_lt_of_cell? _ _ hz;have F4:Hid (Calls Tryz.prog 101 #[.pointer (some ⟨x,0,none⟩),.int .u32 (IntKind.u32.wrap z),.int .u64 3] wr.drew fun r w'=>r = .returned (.tuple #[])/\WN x wr.drew v3 t3 3 w') :=
       number_n x t3 3 _ v3 wr.drew (S3.out.kept ((Kept.refl _).drewN 1)) (by omega) (u32_lo _) (u32_hi _) (by omega)
      clear g3;go_wp2_with fail;go_region_held3 (fun W=>W.cell? ⟨w.heap.size,k,none⟩=some (.int .u8 z)) (first | exact hz | exact c4 | go_keep) ((go_at_call 101;refine F4.out.mono ?_;rintro r w4 ⟨rfl,v4,t4,l4,u4,s4,r4⟩;have R34:WrB x wr v3 w4 v4:=r4.pre ((Kept.refl _).drewN 1) S3.out.bit.lt;have c4:w4.cell? ⟨w.heap.size,k,none⟩=some (.int .u8 z):=(R34.cellK O3.out hlt).trans hz))
      have S4:Hid (WS w4 x v4 t4):=s4;have R4:Hid (WrB x w v w4 v4):=R3.out.trans R34;have O4:Hid (Off x v4 w.heap.size):=O3.out.next R34 hlt;have G4:Hid (Rng .u8 256 w4 w.heap.size 0 19):=G3.out.fr (fun j _ _=>R34.cellK O3.out hlt);clear s4 r4 R34 c4 hz F4 S3 R3 O3 G3;go_wp2;exact ⟨⟨k+1,v4,t4,by omega,by go_num,by omega,by omega,S4.out,R4.out,O4.out,G4.out⟩,by simp [intOf];omega⟩
     ·have c3':¬ (k:Int)<19:=by omega
      clear g3;go_wp2;go_end0
      exact ⟨rfl,v3,t3,by omega,by omega,S3.out,R3.out⟩
    ·have c2':¬ (k:Int)<(n:Int):=by omega
     clear g3;go_wp2;go_end0
     exact ⟨rfl,v3,t3,by omega,by omega,S3.out,R3.out⟩
def BkC (cs:List Value):Prop:=cs.length=576/\(∀ i,i<288->∃ z:Int,0<=z/\z<4294967296/\cs[i]? = some (.int .u32 z))/\(∀ i,i<288->∃ z:Int,0<=z/\z<16/\cs[288+i]? = some (.int .u8 z))
theorem BkC.one {cs:List Value} (h:BkC cs):∀ v ∈ cs,v.oneCell'=true:=by
 intro v hv;obtain ⟨j,hj,e⟩:=List.getElem_of_mem hv;have hl:=h.1;by_cases c:j<288
 ·obtain ⟨z,_,_,hz⟩:=h.2.1 j c
  rw[List.getElem?_eq_getElem hj,e] at hz
  injection hz with hz
  subst hz;rfl
 ·obtain ⟨z,_,_,hz⟩:=h.2.2 (j - 288) (by omega)
  rw[show 288+(j - 288)=j by omega,List.getElem?_eq_getElem hj,e] at hz
  injection hz with hz
  subst hz;rfl
theorem BkC.range {cs:List Value} {W:World} {b o:Nat} (h:BkC cs) (r:W.rangeAt b o cs):BkG W b o:=by
 intro i hi;obtain ⟨c,c0,c1,hc⟩:=h.2.1 i hi;obtain ⟨z,z0,z1,hz⟩:=h.2.2 i hi;obtain ⟨k,rfl⟩:∃ k:Nat,z=(k:Int):=⟨z.toNat,by omega⟩;exact ⟨c,k,c0,c1,by omega,r i _ hc,by have:=r _ _ hz;rw[<- Nat.add_assoc] at this;exact this⟩
def BkP (r:Ending):Prop:=∃ cs:List Value,r = .returned (.agg cs.toArray)/\BkC cs
theorem bookof_p (g n c:Nat) (w:World) (h:Rng .u8 256 w g 0 n) (h0:0<n) (hn:n<=288) :
  Calls Tryz.prog 131 #[.slice (some ⟨g,0,none⟩) n c] w fun r w'=>BkP r/\Kept w w':=by
 obtain ⟨l,hl,hA,hB⟩:=h.lat c;refine (bookof_g _ l w hA (by omega) (by omega) hB).mono ?_;rintro r w' ⟨cs,rfl,h1,h2,h3,k⟩;exact ⟨⟨cs,rfl,h1,h2,h3⟩,k⟩
theorem stepsw_n (x T g n:Nat) (lv v:Value) (w:World) (h:WS w x v T) (hR:Rng .u8 256 w g 0 19) (hl:StAt w lv n) (ho:∀ g,lv.ownBlock=some g->Off x v g) (hn:n<=65536) (hT:T<=68719476736) :
  Calls Tryz.prog 161 #[.pointer (some ⟨x,0,none⟩),lv,.slice (some ⟨g,0,none⟩) 19 19] w fun r w'=>r = .returned (.tuple #[])/\WN x w v T (22*n) w':=by
 obtain ⟨p,c,rfl⟩:=hl.form;have F0:Hid (Calls Tryz.prog 131 #[.slice (some ⟨g,0,none⟩) 19 19] w fun r w'=>BkP r/\Kept w w'):=bookof_p g 19 19 w hR (by omega) (by omega);have HS:Hid (WS w x v T):=h;have HL:Hid (StAt w (.slice p n c) n):=hl;have HP:Hid (∀ g,(Value.slice p n c).ownBlock=some g->Off x v g):=ho;clear h hR hl ho;go_enter Tryz.func161,Tryz.ntmps161;go_wp2_with fail;refine F0.out.mono ?_;rintro r w1 ⟨⟨cs,rfl,hcs⟩,hk1⟩;have HC:Hid (BkC cs):=hcs;have HK:Hid (Kept w w1):=hk1;have hcl:cs.length=576:=hcs.1;clear hk1 F0;obtain ⟨w2,hw2⟩:∃ w2,w2=w1.alloc (Obj.cells Tryz.zeroCells135 135):=⟨_,rfl⟩;have hTh:w2.there w1.heap.size 0 576:=by
  rw[hw2];intro j hj;refine ⟨?_,World.frozen?_alloc_at _ _ _ _ rfl⟩;rw[World.cell?_alloc_at _ _ _ _ rfl,zero576];by_cases h:j<288
  ·rw[show 0+j=j by omega,get576 j h];rfl
  ·have:=get576' (j - 288) (by omega)
   rw[show 0+j=288+(j - 288) by omega,this];rfl
 have hsc:(storeCells ⟨w1.heap.size,0,none⟩ cs).run Tryz.prog w2 = .ok () (w2.setCells w1.heap.size 0 cs):=store_there (by rw[hcl];exact hTh) hcs.one;have BK3:Hid (BkG (w2.setCells w1.heap.size 0 cs) w1.heap.size 0):=hcs.range (World.rangeAt_setCells_same _ _ _ _ (by rw[hcl];exact hTh));have K2:Hid (Kept w1 w2):=by rw[hw2];exact (Below.refl _ _).alloc (Nat.le_refl _) _
 have K3:Hid (Kept w (w2.setCells w1.heap.size 0 cs)):=HK.out.trans (Kept.setCells (Nat.le_refl _) _ _ K2.out);rw[hw2] at hsc;go_wp2_with fail;rw[<- hw2];clear hsc hw2 hTh hcs;generalize w2.setCells w1.heap.size 0 cs=w3 at *;have hbw:w.heap.size<=w1.heap.size:=HK.out.size;obtain ⟨b,hb⟩:∃ b,b=w1.heap.size:=⟨_,rfl⟩;rw[<- hb] at BK3 hbw ⊢;have HO:Hid (Off x v b):=HS.out.new hbw;have HS3:Hid (WS w3 x v T):=HS.out.kept K3.out;have HL3:Hid (StAt w3 (.slice p n c) n):=HL.out.kept K3.out;have HX:Hid (x<w.heap.size):=HS.out.bit.lt;clear hb hbw HK K2 HC hcl HS HL;go_loopw [7,8,9] (fun vi _ _ W=>∃ (k:Nat) (v':Value) (t:Nat),k<=n/\vi = .int .i64 (k:Int)/\T<=t/\t<=T+22*k/\WS W x v' t/\WrB x w3 v W v') (fun vi _ _ _=>n - (intOf vi).toNat)
 case atStart=>exact ⟨0,v,T,by omega,rfl,by omega,by omega,HS3.out,WrB.refl _ _ _⟩
 case round=>
  obtain ⟨k,v1,t,hk,rfl,t0,t1,hs,hr⟩:=hrel;have S1:Hid (WS wr x v1 t):=hs;have R1:Hid (WrB x w3 v wr v1):=hr;have BK:Hid (BkG wr b 0):=BK3.out.next hr HO.out;clear hs hr;by_cases c0:k<n
  ·obtain ⟨gs,s,z,rfl,y0,y1⟩:=(HL3.out.frS R1.out.fr (fun g hg=>(HP.out g hg).no)).two c0
   have ki:(k:Int)<(n:Int):=by omega
   have kz:(0:Int)<=(k:Int):=by omega
   have OG:Hid (Off x v1 gs):=(HP.out gs rfl).next R1.out (by obtain ⟨g',s',z',e,q0,_⟩:=HL3.out.two c0;injection e with e;injection e with e;rw[e];exact World.block_lt_of_cell? _ _ q0);go_wp2_with fail;refine (rept_any s wr).mono ?_;rintro r w4 ⟨⟨a,bt,_,_,hbt,rfl⟩,hk4⟩;have S4:Hid (WS w4 x v1 t):=S1.out.kept hk4;have R4:Hid (WrB x w3 v w4 v1):=R1.out.kept hk4 S1.out.bit.lt;have BK4:Hid (BkG w4 b 0):=BK.out.kept hk4;have gl:=World.block_lt_of_cell? _ _ y0;replace y0:w4.cell? ⟨gs,k*2,none⟩=some (.int .i64 s):=(hk4.cell (p:=⟨gs,k*2,none⟩) gl).trans y0;replace y1:w4.cell? ⟨gs,k*2+1,none⟩=some (.int .i64 z):=(hk4.cell (p:=⟨gs,k*2+1,none⟩) gl).trans y1;clear hk4 S1 R1 BK gl;go_wp2_with fail;refine (symw_n x t b 0 s v1 w4 S4.out BK4.out (by omega)).mono ?_;rintro r w5 ⟨rfl,v5,t5,l5,u5,s5,r5⟩;have gl:=World.block_lt_of_cell? _ _ y0;have S5:Hid (WS w5 x v5 t5):=s5;have R5:Hid (WrB x w3 v w5 v5):=R4.out.trans r5;have O5:Hid (Off x v5 gs):=OG.out.next r5 gl;have y2:w5.cell? ⟨gs,k*2+1,none⟩=some (.int .i64 z):=(r5.cellK OG.out gl).trans y1;have gl5:gs<w5.heap.size:=Nat.lt_of_lt_of_le gl r5.fr.size;clear s5 r5 S4 R4 y0 y1 gl OG BK4;have e4:IntKind.u64.wrap (bt:Int)=(bt:Int):=by rw[IntKind.wrap_u64];omega
   have F6:Hid (Calls Tryz.prog 101 #[.pointer (some ⟨x,0,none⟩),.int .u32 (IntKind.u32.wrap z),.int .u64 (IntKind.u64.wrap (bt:Int))] w5.drew fun r w'=>r = .returned (.tuple #[])/\WN x w5.drew v5 t5 bt w'):=by
    rw[e4];exact number_n x t5 bt _ v5 w5.drew (S5.out.kept ((Kept.refl _).drewN 1)) (by omega) (u32_lo _) (u32_hi _) (by omega)
   clear e4;go_wp2_with fail;go_region_held3 (fun W=>W.cell? ⟨gs,k*2+1,none⟩=some (.int .i64 z)) (first | exact y2 | exact c6 | go_keep) ((go_at_call 101;refine F6.out.mono ?_;rintro r w6 ⟨rfl,v6,t6,l6,u6,s6,r6⟩;have R56:WrB x w5 v5 w6 v6:=r6.pre ((Kept.refl _).drewN 1) S5.out.bit.lt;have c6:w6.cell? ⟨gs,k*2+1,none⟩=some (.int .i64 z):=(R56.cellK O5.out gl5).trans y2))
   have S6:Hid (WS w6 x v6 t6):=s6;have R6:Hid (WrB x w3 v w6 v6):=R5.out.trans R56;clear s6 r6 R56 c6 y2 F6 S5 R5 O5;go_wp2;exact ⟨⟨k+1,v6,t6,by omega,by go_num,by omega,by omega,S6.out,R6.out⟩,by simp [intOf];omega⟩
  ·have ki:¬ (k:Int)<(n:Int):=by omega
   have hk2:k=n:=by omega
   subst hk2;go_wp2;go_end0
   exact ⟨rfl,v1,t,by omega,by omega,S1.out,R1.out.pre K3.out HX.out⟩
theorem told_r (g n:Nat) (M:Int) (w:World) (h:Rng .u8 256 w g 0 n) (hn:n<=1048576) :
  Calls Tryz.prog 157 #[.slice (some ⟨g,0,none⟩) n n,.int .i64 M] w fun r w'=>TldB n M r/\w'=w:=by
 obtain ⟨l,hl,hA,hB⟩:=h.lat n
 have:=told_lo _ l M w hA (by omega)
 rw[hl] at this;exact this
theorem Rng.bytes {W:World} {g n:Nat} (h:Rng .u8 256 W g 0 n) {m:Nat} (hm:m<=n):∃ es:List Int,m=es.length/\isBytes es/\∀ j,j<m->W.cell? ⟨g,j,none⟩=some (.int .u8 (es.getD j 0)):=by
 obtain ⟨l,hl,hA,hB⟩:=Rng.lat (n:=m) (fun j hj=>h j (by omega)) m;subst hl;refine ⟨l,rfl,hB,fun j hj => ?_⟩;obtain ⟨g',o',e,hc⟩:=hA.cellAt j hj
 injection e with e
 injection e with e1 e2
 rw[<- e1,<- e2,Nat.zero_add] at hc;exact hc
theorem lensw_n (x T g1 g2:Nat) (v:Value) (w:World) (h:WS w x v T) (h1:Rng .u8 256 w g1 0 286) (h2:Rng .u8 256 w g2 0 30) (hT:T<=34359738368) :
  Calls Tryz.prog 135 #[.pointer (some ⟨x,0,none⟩),.slice (some ⟨g1,0,none⟩) 286 286,.slice (some ⟨g2,0,none⟩) 30 30] w fun r w'=>r = .returned (.tuple #[])/\WN x w v T 7023 w':=by
 have HS:Hid (∀ W,Kept w W->WS W x v T):=fun W k=>h.kept k
 have HN:Hid (∀ g,w.heap.size<=g->Off x v g):=fun g hg=>h.new hg
 have HX:Hid (x<w.heap.size):=h.bit.lt;have H1:Hid (Rng .u8 256 w g1 0 286):=h1;have H2:Hid (Rng .u8 256 w g2 0 30):=h2;clear h h1 h2;go_enter Tryz.func135,Tryz.ntmps135;go_wp2_with fail;refine (told_r g1 286 257 w H1.out (by omega)).mono ?_;rintro r w' ⟨⟨a,ha,ha2,rfl⟩,rfl⟩;go_wp2_with fail;refine (told_r g2 30 1 _ H2.out (by omega)).mono ?_;rintro r w' ⟨⟨b,hb,hb2,rfl⟩,rfl⟩;replace ha2:257<=a:=by have:=ha2 (by omega);omega
 replace hb2:1<=b:=by have:=hb2 (by omega);omega
 rename World=>w
 obtain ⟨es,hes,hE,hec⟩:=H1.out.bytes ha;obtain ⟨fs,hfs,hF,hfc⟩:=H2.out.bytes hb;have i1:(0:Int)<=(a:Int):=by omega
 have i2:(a:Int)<=286:=by omega
 have i3:(0:Int)<=(b:Int):=by omega
 have i4:(b:Int)<=30:=by omega
 have HE:Hid (a=es.length/\isBytes es/\∀ j,j<a->w.cell? ⟨g1,j,none⟩=some (.int .u8 (es.getD j 0))):=⟨hes,hE,hec⟩;have HF:Hid (b=fs.length/\isBytes fs/\∀ j,j<b->w.cell? ⟨g2,j,none⟩=some (.int .u8 (fs.getD j 0))):=⟨hfs,hF,hfc⟩;have gl2:Hid (g2<w.heap.size):=World.block_lt_of_cell? _ _ (hfc 0 (by omega));clear hes hE hec hfs hF hfc H1 H2;go_wp2_with (at_builtin;refine append8 _ rfl _ _ rfl w.heap.size (.slice none 0 0) 0 rfl (Own8.nil _ _) g1 a 286 es rfl HE.out.1 (by omega) HE.out.2.1 HE.out.2.2 (by omega) (Nat.le_refl _) ?_)
 intro v1 w1 o1 f1;obtain ⟨p1,c1,rfl⟩:=o1.slice;have K1:Hid (Kept w w1):=Fr.to_kept (Kept.refl _) f1 (fun i _ e=>by cases e);have O1:Hid (Own8 w1 w.heap.size (.slice p1 a c1) a):=o1;have HF1:Hid (∀ j,j<b->w1.cell? ⟨g2,j,none⟩=some (.int .u8 (fs.getD j 0))):=fun j hj=>(K1.out.cell (p:=⟨g2,j,none⟩) gl2.out).trans (HF.out.2.2 j hj)
 have Z1:Hid (w.heap.size<=w1.heap.size):=K1.out.size;clear o1 f1 HE;go_wp2_with (at_builtin;refine append8 _ rfl _ _ rfl w.heap.size (.slice p1 a c1) a rfl O1.out g2 b 30 fs rfl HF.out.1 (by omega) HF.out.2.1 HF1.out (by omega) Z1.out ?_)
 intro v2 w2 o2 f2;obtain ⟨p2,c2,rfl⟩:=o2.slice;have K2:Hid (Kept w w2):=Fr.to_kept K1.out f2 (fun i hi e=>by have:=O1.out.ge i e;omega);obtain ⟨l,hl,hB,ho⟩:=o2;have F1:Hid (Calls Tryz.prog 158 #[.slice p2 (a+b) c2] w2 fun r w'=>StsP w2 (a+b) r w'/\Kept w2 w'):=by
  rw[<- hl] at ho ⊢;exact stepsof_any _ l w2 (own_lat ho) hB (by omega)
 clear ho hB hl f2 O1 HF1 Z1 HF K1 gl2;go_wp2_with fail;refine F1.out.mono ?_;rintro r w3 ⟨⟨sv,n,rfl,hn,hst,hsg⟩,hk3⟩;obtain ⟨p3,c3,rfl⟩:=hst.form;have HST:Hid (∀ W,Kept w3 W->StAt W (.slice p3 n c3) n):=fun W k=>hst.kept k
 have HSO:Hid (∀ g,(Value.slice p3 n c3).ownBlock=some g->w.heap.size<=g/\g<w3.heap.size):=fun g e=>⟨Nat.le_trans K2.out.size (hsg g e).1,(hsg g e).2⟩
 have K3:Hid (Kept w w3):=K2.out.trans hk3;clear hst hsg hk3 F1 K2;go_wp2_with fail;refine (shortlen_any _ n w3 (HST.out w3 (Kept.refl _)) (by omega)).mono ?_;rintro r w4 ⟨⟨g,rfl,hg,hR⟩,hk4⟩;have K4:Hid (Kept w w4):=K3.out.trans hk4;have HR:Hid (Rng .u8 256 w4 g 0 19):=hR;have HG:Hid (w.heap.size<=g):=Nat.le_trans K3.out.size hg;have HST4:Hid (StAt w4 (.slice p3 n c3) n):=HST.out w4 hk4;have HSL:Hid (∀ g,(Value.slice p3 n c3).ownBlock=some g->w.heap.size<=g/\g<w4.heap.size):=fun g e=>⟨(HSO.out g e).1,Nat.lt_of_lt_of_le (HSO.out g e).2 hk4.size⟩
 clear hR hk4 hg K3 HST HSO;have S4:Hid (WS w4 x v T):=HS.out w4 K4.out;have F5:Hid (∀ q:Int,0<=q->q<4294967296->Calls Tryz.prog 101 #[.pointer (some ⟨x,0,none⟩),.int .u32 q,.int .u64 5] w4 fun r w'=>r = .returned (.tuple #[])/\WN x w4 v T 5 w'):=fun q h0 h1=>number_n x T 5 q v w4 S4.out (by omega) h0 h1 (by omega)
 go_wp2_with fail;refine (F5.out _ (by omega) (by omega)).mono ?_;rintro r w5 ⟨rfl,v5,t5,l5,u5,s5,r5⟩;have S5:Hid (WS w5 x v5 t5):=s5;have R5:Hid (WrB x w4 v w5 v5):=r5;clear s5 r5 F5 S4;have F6:Hid (∀ q:Int,0<=q->q<4294967296->Calls Tryz.prog 101 #[.pointer (some ⟨x,0,none⟩),.int .u32 q,.int .u64 5] w5 fun r w'=>r = .returned (.tuple #[])/\WN x w5 v5 t5 5 w'):=fun q h0 h1=>number_n x t5 5 q v5 w5 S5.out (by omega) h0 h1 (by omega)
 go_wp2_with fail;refine (F6.out _ (by omega) (by omega)).mono ?_;rintro r w6 ⟨rfl,v6,t6,l6,u6,s6,r6⟩;have S6:Hid (WS w6 x v6 t6):=s6;have R6:Hid (WrB x w4 v w6 v6):=R5.out.trans r6;have hgl:g<w4.heap.size:=by
  obtain ⟨z,_,_,hz⟩:=HR.out 0 (by omega);exact World.block_lt_of_cell? _ _ hz
 have OG:Hid (Off x v g):=HN.out g HG.out;have HR6:Hid (Rng .u8 256 w6 g 0 19):=HR.out.fr (fun j _ _=>R6.out.cellK OG.out hgl);clear s6 r6 F6 S5 R5;go_wp2_with fail;refine (shortsw_n x t6 g v6 w6 S6.out HR6.out (by omega)).mono ?_;rintro r w7 ⟨rfl,v7,t7,l7,u7,s7,r7⟩;have S7:Hid (WS w7 x v7 t7):=s7;have R7:Hid (WrB x w4 v w7 v7):=R6.out.trans r7;have HR7:Hid (Rng .u8 256 w7 g 0 19):=HR.out.fr (fun j _ _=>R7.out.cellK OG.out hgl);have HST7:Hid (StAt w7 (.slice p3 n c3) n):=HST4.out.frS R7.out.fr (fun g e=>(HN.out g (HSL.out g e).1).no);have HO7:Hid (∀ g,(Value.slice p3 n c3).ownBlock=some g->Off x v7 g):=fun g e=>(HN.out g (HSL.out g e).1).next R7.out (HSL.out g e).2
 clear s7 r7 S6 R6 HR6 HR HST4;go_wp2_with fail;refine (stepsw_n x t7 g n _ v7 w7 S7.out HR7.out HST7.out HO7.out (by omega) (by omega)).mono ?_;rintro r w8 ⟨rfl,v8,t8,l8,u8,s8,r8⟩;have HZ:Hid (WN x w v T 7023 w8):=⟨v8,t8,by omega,by omega,s8,(R7.out.trans r8).pre K4.out HX.out⟩;clear s8 r8;go_wp2;go_end0
 exact ⟨rfl,HZ.out⟩
