import Derived.Test.YthniahejjamhgaaGreatDoorRoHB5
set_option maxRecDepth 100000
set_option maxHeartbeats 6400000
namespace Go.Proofs.YthniahejjamhgaaGreatDoor
open Go.RowKit
set_option linter.unusedSimpArgs false
set_option linter.unusedVariables false
def BkF (W:World) (x:Nat):Prop:=∃ cs,BksC cs/\W.rangeAt x 3 cs
theorem BkF.kept {w W:World} {x:Nat} (h:BkF w x) (k:Kept w W):BkF W x:=by
 obtain ⟨cs,h1,h2⟩:=h;exact ⟨cs,h1,range_kept h2 k⟩
theorem BkF.next {x:Nat} {w w1:World} {v v1:Value} (h:BkF w x) (k:WrB x w v w1 v1):BkF w1 x:=by
 obtain ⟨cs,h1,h2⟩:=h;exact ⟨cs,h1,fun j u hu=>(k.far _ (by omega)).trans (h2 j u hu)⟩
def WX (x:Nat) (w:World) (v:Value) (T:Nat) (w':World):Prop:=∃ v',WS w' x v' T/\WrB x w v w' v'
theorem number_x (x T s:Nat) (n:Int) (v:Value) (w:World) (h:WS w x v T) (hs:s<=16) (hn0:0<=n) (hn1:n<4294967296) (hT:T<=1099511627776) :
  Calls Tryz.prog 101 #[.pointer (some ⟨x,0,none⟩),.int .u32 n,.int .u64 (s:Int)] w fun r w'=>r = .returned (.tuple #[])/\WX x w v (T+s) w' :=
 (number_b x T s n v w h.bit hs hn0 hn1 hT).mono (fun r w' q=>⟨q.1,by obtain ⟨v',b,k⟩:=q.2;exact ⟨v',h.next k b,k⟩⟩)
theorem fill_x (x T:Nat) (v:Value) (w:World) (h:WS w x v T) (hT:T<=549755813888) :
  Calls Tryz.prog 74 #[.pointer (some ⟨x,0,none⟩)] w fun r w'=>r = .returned (.tuple #[])/\WX x w v (8*((T+7) / 8)) w' :=
 (fill_b x T v w h.bit hT).mono (fun r w' q=>⟨q.1,by obtain ⟨v',b,k⟩:=q.2;exact ⟨v',h.next k b,k⟩⟩)
theorem markw_x (x T:Nat) (b:Bool) (v:Value) (w:World) (h:WS w x v T) (hT:T<=549755813888) :
  Calls Tryz.prog 72 #[.pointer (some ⟨x,0,none⟩),.bool b] w fun r w'=>r = .returned (.tuple #[])/\WX x w v (T+1) w':=by
 have F:Hid (∀ q:Int,0<=q->q<4294967296->Calls Tryz.prog 101 #[.pointer (some ⟨x,0,none⟩),.int .u32 q,.int .u64 1] w fun r w'=>r = .returned (.tuple #[])/\WX x w v (T+1) w'):=fun q h0 h1=>number_x x T 1 q v w h (by omega) h0 h1 (by omega)
 clear h;go_enter Tryz.func72,Tryz.ntmps72;cases b
 all_goals
  go_wp2_with fail;refine (F.out _ (by omega) (by omega)).mono ?_;rintro r w1 ⟨rfl,h1⟩;replace h1:Hid (WX x w v (T+1) w1):=h1;clear F;go_wp2;go_end0
  exact ⟨rfl,h1.out⟩
theorem fixedw_n (x T n:Nat) (lv v:Value) (w:World) (h:WS w x v T) (hb:BkF w x) (hl:TkAt w lv n) (ho:∀ g,lv.ownBlock=some g->Off x v g/\g<w.heap.size) (hn:n<=1048576) (hT:T<=17179869184) :
  Calls Tryz.prog 105 #[.pointer (some ⟨x,0,none⟩),lv] w fun r w'=>r = .returned (.tuple #[])/\WN x w v T (48*n+17) w':=by
 have F:Hid (Calls Tryz.prog 101 #[.pointer (some ⟨x,0,none⟩),.int .u32 1,.int .u64 2] w fun r w'=>r = .returned (.tuple #[])/\WX x w v (T+2) w'):=number_x x T 2 1 v w h (by omega) (by omega) (by omega) (by omega);have HB:Hid (BkF w x):=hb;have HL:Hid (TkAt w lv n):=hl;have HO:Hid (∀ g,lv.ownBlock=some g->Off x v g/\g<w.heap.size):=ho;clear h hb hl ho;go_enter Tryz.func105,Tryz.ntmps105;go_wp2_with fail;refine F.out.mono ?_;rintro r w1 ⟨rfl,v1,s1,r1⟩;obtain ⟨cs,hcs,hrg⟩:=HB.out.next r1;have S1:Hid (WS w1 x v1 (T+2)):=s1;have R1:Hid (WrB x w v w1 v1):=r1;have HC:Hid (BksC cs):=hcs;have HR:Hid (w1.rangeAt x 3 cs):=hrg;have L1:Hid (TkAt w1 lv n):=HL.out.frS r1.fr (fun g e=>(HO.out g e).1.no);have hi:Hid ((Tryz.prog.info? 137).map (·.size)=some cs.length):=by show _=_;rw[hcs.len];exact tsize1152
 have O1:Hid (∀ g,lv.ownBlock=some g->Off x v1 g):=fun g e=>(HO.out g e).1.next r1 (HO.out g e).2
 clear s1 r1 hcs hrg F HB HL HO;go_wp2_with fail;refine wp_load_mid 137 _ rfl x 3 rfl cs _ HR.out Tryz.underlying137 rfl hi.out ?_;go_wp2_with fail;refine (toksw_n x (T+2) n cs.toArray lv v1 w1 S1.out HC.out.bkl L1.out O1.out hn (by omega)).mono ?_;rintro r w2 ⟨rfl,v2,t2,l2,u2,s2,r2⟩;have HE:Hid (WN x w v T (48*n+17) w2):=⟨v2,t2,by omega,by omega,s2,R1.out.trans r2⟩;clear s2 r2 HC HR hi;go_wp2;go_end0
 exact ⟨rfl,HE.out⟩
theorem LAt.off {x:Nat} {w w1:World} {k:IntKind} {dv v v1:Value} {l:List Int} (h:LAt w k dv l) (r:WrB x w v w1 v1) (hD:∀ g,sliceBlock dv=some g->Off x v g):LAt w1 k dv l:=h.fr r.fr (fun g e=>(hD g e).no)
theorem storedw_x (x T f:Nat) (dv v:Value) (l:List Int) (w:World) (h:WS w x v T) (hl:LAt w .u8 dv l) (hB:isBytes l) (hD:∀ g,sliceBlock dv=some g->Off x v g) (hn:l.length<=1048576) (hf:f<=l.length) (hT:T<=137438953472) :
  Calls Tryz.prog 102 #[.pointer (some ⟨x,0,none⟩),dv,.int .i64 (f:Int)] w fun r w'=>r = .returned (.tuple #[])/\WX x w v (8*((T+2+7) / 8)+32+8*(l.length - f)) w':=by
 obtain ⟨p,c,rfl⟩:=hl.form;have F1:Hid (Calls Tryz.prog 101 #[.pointer (some ⟨x,0,none⟩),.int .u32 0,.int .u64 2] w fun r w'=>r = .returned (.tuple #[])/\WX x w v (T+2) w'):=number_x x T 2 0 v w h (by omega) (by omega) (by omega) (by omega);obtain ⟨Z,hZ⟩:∃ Z,Z=8*((T+2+7) / 8):=⟨_,rfl⟩;have F2:Hid (∀ W v,WS W x v (T+2)->Calls Tryz.prog 74 #[.pointer (some ⟨x,0,none⟩)] W fun r w'=>r = .returned (.tuple #[])/\WX x W v Z w'):=fun W v hB=>by rw[hZ];exact fill_x x (T+2) v W hB (by omega)
 rw[<- hZ];have hZb:Z<=137438963472:=by omega
 have F3:Hid (∀ W v t (q:Int),t<=274877906944->0<=q->q<4294967296->WS W x v t->Calls Tryz.prog 101 #[.pointer (some ⟨x,0,none⟩),.int .u32 q,.int .u64 16] W fun r w'=>r = .returned (.tuple #[])/\WX x W v (t+16) w'):=fun W v t q ht h0 h1 hB=>number_x x t 16 q v W hB (by omega) h0 h1 (by omega)
 have F5:Hid (∀ W v t (q:Int),t<=274877906944->0<=q->q<4294967296->WS W x v t->Calls Tryz.prog 101 #[.pointer (some ⟨x,0,none⟩),.int .u32 q,.int .u64 8] W fun r w'=>r = .returned (.tuple #[])/\WX x W v (t+8) w'):=fun W v t q ht h0 h1 hB=>number_x x t 8 q v W hB (by omega) h0 h1 (by omega)
 have HL:Hid (LAt w .u8 (.slice p l.length c) l):=hl;have HD:Hid (∀ g,sliceBlock (.slice p l.length c)=some g->Off x v g):=hD;have HB:Hid (isBytes l):=hB;have i0:(0:Int)<=(f:Int):=by omega
 have i1:(f:Int)<=(l.length:Int):=by omega
 clear h hl hZ hD hB;go_enter Tryz.func102,Tryz.ntmps102;go_wp2_with fail;refine F1.out.mono ?_;rintro r w1 ⟨rfl,v1,s1,r1⟩;have S1:Hid (WS w1 x v1 (T+2)):=s1;have R1:Hid (WrB x w v w1 v1):=r1;clear s1 r1 F1;go_wp2_with fail;refine (F2.out w1 v1 S1.out).mono ?_;rintro r w2 ⟨rfl,v2,s2,r2⟩;have S2:Hid (WS w2 x v2 Z):=s2;have R2:Hid (WrB x w v w2 v2):=R1.out.trans r2;clear s2 r2 F2 S1 R1;go_wp2_with fail;refine (F3.out w2 v2 Z _ (by omega) (by omega) (by omega) S2.out).mono ?_;rintro r w3 ⟨rfl,v3,s3,r3⟩;have S3:Hid (WS w3 x v3 (Z+16)):=s3;have R3:Hid (WrB x w v w3 v3):=R2.out.trans r3;clear s3 r3 S2 R2;go_wp2_with fail;refine (F3.out w3 v3 (Z+16) _ (by omega) (by first | exact (bounds_u32 (wf_bits _ _ _ _)).1 | exact (bounds_u32 (wf_wrap _ _)).1 | omega) (by first | exact Int.lt_of_le_of_lt (bounds_u32 (wf_bits _ _ _ _)).2 (by omega) | exact Int.lt_of_le_of_lt (bounds_u32 (wf_wrap _ _)).2 (by omega) | omega) S3.out).mono ?_;rintro r w4 ⟨rfl,v4,s4,r4⟩;have S4:Hid (WS w4 x v4 (Z+16+16)):=s4;have R4:Hid (WrB x w v w4 v4):=R3.out.trans r4;clear s4 r4 S3 R3 F3;generalize bits BinOp.xor IntKind.u32 IntKind.u32.max ((l.length:Int) - (f:Int))=Y;go_wp2;go_loopw [7] (fun vi W=>∃ (k:Nat) (v':Value),f<=k/\k<=l.length/\vi = .int .i64 (k:Int)/\WS W x v' (Z+32+8*(k - f))/\WrB x w v W v') (fun vi _=>l.length - (intOf vi).toNat)
 case atStart=>exact ⟨f,v4,Nat.le_refl _,hf,rfl,by rw[Nat.sub_self];exact S4.out,R4.out⟩
 case round=>
  clear S4 R4;obtain ⟨k,v5,hk0,hk1,rfl,hs,hr⟩:=hrel;have S5:Hid (WS wr x v5 (Z+32+8*(k - f))):=hs;have R5:Hid (WrB x w v wr v5):=hr;clear hs hr;by_cases hlt:k<l.length
  ·obtain ⟨g,o,rfl,hc⟩:=(HL.out.off R5.out HD.out).cellAt k hlt
   have hb:=HB.out _ (getD_mem hlt);generalize l.getD k 0=B at *;have hlt':(k:Int)<(l.length:Int):=by omega
   have k0:(0:Int)<=(k:Int):=by omega
   have gl:=World.block_lt_of_cell? _ _ hc;have OG:Hid (Off x v5 g):=(HD.out g rfl).next R5.out (by
    obtain ⟨g',o',e,hc'⟩:=HL.out.cellAt k hlt
    injection e with e
    injection e with e _
    rw[e];exact World.block_lt_of_cell? _ _ hc')
   have F6:Hid (Calls Tryz.prog 101 #[.pointer (some ⟨x,0,none⟩),.int .u32 (IntKind.u32.wrap B),.int .u64 8] wr.drew fun r w'=>r = .returned (.tuple #[])/\WX x wr.drew v5 (Z+32+8*(k - f)+8) w'):=F5.out wr.drew v5 (Z+32+8*(k - f)) _ (by omega) (u32_lo _) (u32_hi _) (S5.out.kept ((Kept.refl _).drewN 1));clear hb;go_wp2_with fail;go_region_held3 (fun W=>W.cell? ⟨g,o+k,none⟩=some (.int .u8 B)) (first | exact hc | exact hc6 | go_keep) ((go_at_call 101;refine F6.out.mono ?_;rintro r w6 ⟨rfl,v6,s6,r6⟩;have R56:WrB x wr v5 w6 v6:=r6.pre ((Kept.refl _).drewN 1) S5.out.bit.lt;have hc6:w6.cell? ⟨g,o+k,none⟩=some (.int .u8 B):=(R56.cellK OG.out gl).trans hc))
   have S6:Hid (WS w6 x v6 (Z+32+8*(k+1 - f))):=by
    have e:Z+32+8*(k - f)+8=Z+32+8*(k+1 - f):=by omega
    show WS w6 x v6 (Z+32+8*(k+1 - f))
    rw[<- e];exact s6
   have R6:Hid (WrB x w v w6 v6):=R5.out.trans R56;clear s6 r6 R56 hc hc6 F6 S5 R5 OG;go_wp2;exact ⟨⟨k+1,v6,by omega,by omega,by go_num,S6.out,R6.out⟩,by simp [intOf];omega⟩
  ·have hke:k=l.length:=by omega
   have hlt':¬ (k:Int)<(l.length:Int):=by omega
   go_wp2;go_end0
   rw[hke] at S5;exact ⟨rfl,v5,S5.out,R5.out⟩
theorem IR.of_range {W:World} {b o n m:Nat} {cs:List Value} (hr:W.rangeAt b 0 cs) (h:∀ i,i<m->∃ z:Int,cs[i]? = some (.int .i64 z)) (hm:o+n<=m):IR W b o n:=fun j hj=>by
 obtain ⟨z,hz⟩:=h (o+j) (by omega)
 have:=hr _ _ hz
 rw[Nat.zero_add] at this;exact ⟨z,this⟩
theorem lengths_r (b o n:Nat) (M:Int) (w:World) (h:IR w b o n) (h0:0<n) (hn:n<=1024) :
  Calls Tryz.prog 134 #[.slice (some ⟨b,o,none⟩) n n,.int .i64 M] w fun r w'=>LenP w n r w'/\Kept w w':=by
 obtain ⟨l,hl,hA⟩:=h.lat n
 have:=lengths_any _ l M w hA (by omega) (by omega)
 rw[hl] at this;exact this
theorem dynw_n (x T n:Nat) (lv v:Value) (w:World) (h:WS w x v T) (hl:TkAt w lv n) (ho:∀ g,lv.ownBlock=some g->Off x v g/\g<w.heap.size) (hn:n<=1048576) (hT:T<=17179869184) :
  Calls Tryz.prog 104 #[.pointer (some ⟨x,0,none⟩),lv] w fun r w'=>r = .returned (.tuple #[])/\WN x w v T (48*n+7040) w':=by
 have F1:Hid (Calls Tryz.prog 133 #[lv] w fun r w'=>CntP r/\Kept w w'):=countsof_any lv n w hl h.tab hn;have HS:Hid (∀ W,Kept w W->WS W x v T):=fun W k=>h.kept k
 have HN:Hid (∀ g,w.heap.size<=g->Off x v g):=fun g hg=>h.new hg
 have HX:Hid (x<w.heap.size):=h.bit.lt;have HL:Hid (TkAt w lv n):=hl;have HO:Hid (∀ g,lv.ownBlock=some g->Off x v g/\g<w.heap.size):=ho;clear h hl ho;go_enter Tryz.func104,Tryz.ntmps104;go_wp2_with fail;refine F1.out.mono ?_;rintro r w1 ⟨⟨cs,rfl,hcl,hcz⟩,hk1⟩;obtain ⟨w2,hw2⟩:∃ w2,w2=w1.alloc (Obj.cells Tryz.zeroCells194 194):=⟨_,rfl⟩;have T2:w2.there w1.heap.size 0 cs.length:=by rw[hw2,hcl];exact there_new _ _ _ _ (by rw[zero316];simp)
 have hsc:(storeCells ⟨w1.heap.size,0,none⟩ cs).run Tryz.prog w2 = .ok () (w2.setCells w1.heap.size 0 cs):=store_there T2 (IR.one hcl hcz);have RG:(w2.setCells w1.heap.size 0 cs).rangeAt w1.heap.size 0 cs:=World.rangeAt_setCells_same _ _ _ _ T2;have I1:Hid (IR (w2.setCells w1.heap.size 0 cs) w1.heap.size 0 286):=IR.of_range RG hcz (by omega);have I2:Hid (IR (w2.setCells w1.heap.size 0 cs) w1.heap.size 286 30):=IR.of_range RG hcz (by omega);have K3:Hid (Kept w (w2.setCells w1.heap.size 0 cs)):=hk1.trans (Kept.setCells (Nat.le_refl _) _ _ (by rw[hw2];exact (Below.refl _ _).alloc (Nat.le_refl _) _));rw[hw2] at hsc;clear T2 hcz hk1 RG F1;go_upto_region 1 with fail
 rw[<- hw2];clear hsc hw2;generalize w2.setCells w1.heap.size 0 cs=w3 at *;generalize w1.heap.size=b at *;generalize cs.toArray=A1 at *;clear hcl;go_wp2_with fail;refine (lengths_r b 0 286 15 w3 I1.out (by omega) (by omega)).mono ?_;rintro r w4 ⟨⟨g1,rfl,hg1,hR1⟩,hk4⟩;have HR1:Hid (Rng .u8 256 w4 g1 0 286):=hR1;have HG1:Hid (w.heap.size<=g1):=Nat.le_trans K3.out.size hg1;have K4:Hid (Kept w w4):=K3.out.trans hk4;have I4:Hid (IR w4 b 286 30):=I2.out.kept hk4;clear hR1 hg1 hk4 I1 I2 K3;go_wp2_with fail;refine (lengths_r b 286 30 15 w4 I4.out (by omega) (by omega)).mono ?_;rintro r w5 ⟨⟨g2,rfl,hg2,hR2⟩,hk5⟩;have HR2:Hid (Rng .u8 256 w5 g2 0 30):=hR2;have HG2:Hid (w.heap.size<=g2):=Nat.le_trans K4.out.size hg2;have K5:Hid (Kept w w5):=K4.out.trans hk5;have HR15:Hid (Rng .u8 256 w5 g1 0 286):=HR1.out.kept hk5;have S5:Hid (WS w5 x v T):=HS.out w5 K5.out;have gl1:g1<w5.heap.size:=by
  obtain ⟨z,_,_,hz⟩:=HR15.out 0 (by omega);exact World.block_lt_of_cell? _ _ hz
 have gl2:g2<w5.heap.size:=by
  obtain ⟨z,_,_,hz⟩:=HR2.out 0 (by omega);exact World.block_lt_of_cell? _ _ hz
 clear hR2 hg2 hk5 I4 K4 HR1;have F6:Hid (Calls Tryz.prog 101 #[.pointer (some ⟨x,0,none⟩),.int .u32 2,.int .u64 2] w5 fun r w'=>r = .returned (.tuple #[])/\WX x w5 v (T+2) w'):=number_x x T 2 2 v w5 S5.out (by omega) (by omega) (by omega) (by omega);go_wp2_with fail;refine F6.out.mono ?_;rintro r w6 ⟨rfl,v6,s6,r6⟩;have S6:Hid (WS w6 x v6 (T+2)):=s6;have R6:Hid (WrB x w5 v w6 v6):=r6;have H16:Hid (Rng .u8 256 w6 g1 0 286):=HR15.out.fr (fun j _ _=>r6.cellK (HN.out g1 HG1.out) gl1);have H26:Hid (Rng .u8 256 w6 g2 0 30):=HR2.out.fr (fun j _ _=>r6.cellK (HN.out g2 HG2.out) gl2);clear s6 r6 F6 S5;go_wp2_with fail;refine (lensw_n x (T+2) g1 g2 v6 w6 S6.out H16.out H26.out (by omega)).mono ?_;rintro r w7 ⟨rfl,v7,t7,l7,u7,s7,r7⟩;have S7:Hid (WS w7 x v7 t7):=s7;have R7:Hid (WrB x w5 v w7 v7):=R6.out.trans r7;have H17:Hid (Rng .u8 256 w7 g1 0 286):=HR15.out.fr (fun j _ _=>R7.out.cellK (HN.out g1 HG1.out) gl1);have H27:Hid (Rng .u8 256 w7 g2 0 30):=HR2.out.fr (fun j _ _=>R7.out.cellK (HN.out g2 HG2.out) gl2);clear s7 r7 S6 R6 H16 H26 HR15 HR2 gl1 gl2;go_wp2_with fail;refine (booksof_any g1 286 286 g2 30 30 w7 H17.out H27.out (by omega) (by omega) (by omega) (by omega)).mono ?_;rintro r w8 ⟨hbk,hk8⟩;obtain ⟨ct,rfl,hct⟩:=hbk.cs;have hctl:ct.length=1152:=hct.len;obtain ⟨w9,hw9⟩:∃ w9,w9=w8.alloc (Obj.cells Tryz.zeroCells137 137):=⟨_,rfl⟩;have T9:w9.there w8.heap.size 0 ct.length:=by rw[hw9,hctl];exact there_new _ _ _ _ size1152
 have hsc:(storeCells ⟨w8.heap.size,0,none⟩ ct).run Tryz.prog w9 = .ok () (w9.setCells w8.heap.size 0 ct):=store_there T9 hct.one;have RG:Hid ((w9.setCells w8.heap.size 0 ct).rangeAt w8.heap.size 0 ct):=World.rangeAt_setCells_same _ _ _ _ T9;have K70:Kept w7 (w9.setCells w8.heap.size 0 ct):=hk8.trans (Kept.setCells (Nat.le_refl _) _ _ (by rw[hw9];exact (Below.refl _ _).alloc (Nat.le_refl _) _));have S0:Hid (WS (w9.setCells w8.heap.size 0 ct) x v7 t7):=S7.out.kept K70;have R0:Hid (WrB x w5 v (w9.setCells w8.heap.size 0 ct) v7):=R7.out.kept K70 S7.out.bit.lt;have HC:Hid (BksC ct):=hct;have hi:Hid ((Tryz.prog.info? 137).map (·.size)=some ct.length):=by show _=_;rw[hctl];exact tsize1152
 rw[hw9] at hsc;clear T9 hbk hk8 H17 H27 hct K70 S7 R7;go_upto_region 6 with fail
 rw[<- hw9];clear hsc hw9;generalize w9.setCells w8.heap.size 0 ct=wz at *;generalize w8.heap.size=b2 at *;have L0:Hid (TkAt wz lv n):=(HL.out.kept K5.out).frS R0.out.fr (fun g e=>(HO.out g e).1.no);have O0:Hid (∀ g,lv.ownBlock=some g->Off x v7 g):=fun g e=>(HO.out g e).1.next R0.out (Nat.lt_of_lt_of_le (HO.out g e).2 K5.out.size)
 clear hctl;go_wp2_with fail;refine wp_load_mid 137 _ rfl b2 0 rfl ct _ RG.out Tryz.underlying137 rfl hi.out ?_;go_wp2_with fail;refine (toksw_n x t7 n ct.toArray lv v7 wz S0.out HC.out.bkl L0.out O0.out hn (by omega)).mono ?_;rintro r wf ⟨rfl,vf,tf,lf,uf,sf,rf⟩;have HE:Hid (WN x w v T (48*n+7040) wf):=⟨vf,tf,by omega,by omega,sf,(R0.out.trans rf).pre K5.out HX.out⟩;clear sf rf HC RG hi;go_wp2;go_end0
 exact ⟨rfl,HE.out⟩
def BlP (x:Nat) (w:World) (v:Value) (T n kd:Nat) (w':World):Prop:=∃ v' t,T<=t/\t<=T+48*n+7040/\(kd=0->t=8*((T+2+7) / 8)+32+8*n)/\WS w' x v' t/\WrB x w v w' v'
theorem blockw_n (x T f kd:Nat) (a b:Int) (dv v:Value) (l:List Int) (w:World) (h:WS w x v T) (hb:BkF w x) (hl:LAt w .u8 dv l) (hB:isBytes l) (hD:∀ g,sliceBlock dv=some g->Off x v g) (hn:l.length<=65536) (hf:f<=l.length) (hT:T<=8589934592) (hkd:kd<=2) :
  Calls Tryz.prog 73 #[.pointer (some ⟨x,0,none⟩),.int .i64 (kd:Int),dv,.int .i64 (f:Int),.agg #[.int .i64 a,.int .i64 b]] w fun r w'=>r = .returned (.tuple #[])/\BlP x w v T (l.length - f) kd w':=by
 obtain ⟨w0,hw0⟩:∃ w0,w0=w.alloc (Obj.cells #[.int .i64 a,.int .i64 b] 145):=⟨_,rfl⟩;have K0:Hid (Kept w w0):=by rw[hw0];exact (Below.refl _ _).alloc (Nat.le_refl _) _
 have C0:w0.cell? ⟨w.heap.size,0,none⟩=some (.int .i64 a):=by rw[hw0];exact (World.cell?_alloc_at _ _ _ _ rfl).trans rfl
 have C1:w0.cell? ⟨w.heap.size,1,none⟩=some (.int .i64 b):=by rw[hw0];exact (World.cell?_alloc_at _ _ _ _ rfl).trans rfl
 have HS:Hid (WS w x v T):=h;have HB:Hid (BkF w x):=hb;have HL:Hid (LAt w .u8 dv l):=hl;have HI:Hid (isBytes l):=hB;have HD:Hid (∀ g,sliceBlock dv=some g->Off x v g):=hD;clear h hb hl hB hD;go_enter Tryz.func73,Tryz.ntmps73;go_upto_region 1 with fail
 rw[<- hw0];clear hw0;have hcase:kd=0\/kd=1\/kd=2:=by omega
 rcases hcase with rfl | rfl | rfl
 ·go_wp2_with fail
  refine (storedw_x x T f dv v l w0 (HS.out.kept K0.out) (HL.out.kept K0.out) HI.out HD.out (by omega) hf (by omega)).mono ?_;rintro r w1 ⟨rfl,v1,s1,r1⟩;have HE:Hid (BlP x w v T (l.length - f) 0 w1):=⟨v1,_,by omega,by omega,fun _=>rfl,s1,r1.pre K0.out HS.out.bit.lt⟩;clear s1 r1 C0 C1;go_wp2
  first
   | go_end0
   | ((try simp only [Exit.inBlock,Exit.then]);refine bodyPost_ret (results_none rfl _ _ _) rfl ?_)
  exact ⟨rfl,HE.out⟩
 all_goals
  go_wp2_with fail;refine (tokof_any dv l f a b w0 (HL.out.kept K0.out) HI.out hn).mono ?_;rintro r w1 ⟨⟨lv,n,rfl,hn1,hTk,hg⟩,hk1⟩;have K1:Hid (Kept w w1):=K0.out.trans hk1;have L1:Hid (TkAt w1 lv n):=hTk;have O1:Hid (∀ g,lv.ownBlock=some g->Off x v g/\g<w1.heap.size):=fun g e=>⟨HS.out.new (Nat.le_trans K0.out.size (hg g e).1),(hg g e).2⟩
  clear hTk hg hk1 C0 C1;go_wp2_with fail
  first
   | refine (fixedw_n x T n lv v w1 (HS.out.kept K1.out) (HB.out.kept K1.out) L1.out O1.out (by omega) (by omega)).mono ?_
   | refine (dynw_n x T n lv v w1 (HS.out.kept K1.out) L1.out O1.out (by omega) (by omega)).mono ?_
  rintro r w2 ⟨rfl,v2,t2,l2,u2,s2,r2⟩;have HE:Hid (∀ kd,kd≠0->BlP x w v T (l.length - f) kd w2):=fun kd hk=>⟨v2,t2,by omega,by omega,fun e=>absurd e hk,s2,r2.pre K1.out HS.out.bit.lt⟩
  clear s2 r2;go_wp2
  first
   | go_end0
   | ((try simp only [Exit.inBlock,Exit.then]);refine bodyPost_ret (results_none rfl _ _ _) rfl ?_)
  exact ⟨rfl,HE.out _ (by omega)⟩
