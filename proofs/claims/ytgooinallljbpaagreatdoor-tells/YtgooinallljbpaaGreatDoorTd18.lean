import Derived.Test.YtgooinallljbpaaGreatDoorTd17
set_option maxRecDepth 100000
set_option maxHeartbeats 6400000
namespace Go.Proofs.YtgooinallljbpaaGreatDoor
open Go.RowKit
set_option linter.unusedSimpArgs false
set_option linter.unusedVariables false
theorem lI (b:Nat) (v:Value) (z:List Px.One) (t:Px.Bt) (n:Nat) (w:World) (h:BAt w b v t) (hz:ZAt w v z) (hv:∀ g,ae v=some g->g≠b) (hg:Px.good z) (ha:t.a<=8*z.length) (hn:n<=32) :
  Calls Tryz.prog 59 #[.pointer (some ⟨b,0,none⟩),.int .i64 (n:Int)] w fun r w'=>∃ x:Nat,r = .returned (.int .i64 (x:Int))/\x<2^n/\(t.cut=false->t.a+n<=8*z.length->x=Px.ab z t.a n)/\BAt w' b v (t.num z n)/\Fr1 b w w':=by
 cases hc:t.cut
 ·refine (oa b v z t n w h hz hv hg ha hn hc).mono ?_
  rintro r w' ⟨x,rfl,h1,h2,h3,h4⟩;exact ⟨x,rfl,h1,fun _=>h2,h3,h4⟩
 ·refine (Dl b v t n w h hc).mono ?_
  rintro r w' ⟨rfl,rfl⟩;refine ⟨0,rfl,Nat.two_pow_pos n,(fun h=>by cases h),?_,Fr.refl _ _⟩;rw[Px.kV hc];exact h
theorem J4 {z:List Px.One} {t:Px.Bt} (n:Nat) (ht:t.a<=8*z.length):(t.num z n).a<=8*z.length:=by
 unfold Px.Bt.num;split
 ·exact ht
 ·split
  ·assumption
  ·exact Nat.le_refl _
structure KAt (W:World) (k:Nat):Prop where
 c1:∃ i:Int,W.cell? ⟨k,1,none⟩=some (.int .i64 i)
 fz:∀ j,W.frozen? ⟨k,j,none⟩=false
theorem KAt.lt {W:World} {k:Nat} (h:KAt W k):k<W.heap.size:=by obtain ⟨i,hi⟩:=h.c1;exact World.block_lt_of_cell? _ _ hi
theorem KAt.same {W W':World} {k:Nat} (h:KAt W k) (e:W'.heap[k]? = W.heap[k]?):KAt W' k:=by
 obtain ⟨i,hi⟩:=h.c1;exact ⟨⟨i,(World.cell?_of_block (w:=W) e).trans hi⟩,fun j=>(World.frozen?_of_block (w:=W) e).trans (h.fz j)⟩
theorem OAt.fr {S:Nat->Prop} {W W':World} {s N:Nat} {ov:Value} {out:List Px.One} (h:OAt W s N ov out) (k:Fr S W W') (hs:¬ S s) (ho:∀ g,ov.ownBlock=some g->¬ S g):OAt W' s N ov out:=by
 have hlt:=World.block_lt_of_cell? _ _ h.c0;refine ⟨(k.cell hlt hs).trans h.c0,fun j=>(k.frozen hlt hs).trans (h.fz j),?_⟩;rcases h.own.2 with ⟨hv,h0⟩ | ⟨g,cap,cur,hv,hg,r⟩
 ·exact ⟨h.own.1,Or.inl ⟨hv,h0⟩⟩
 ·have hob:ov.ownBlock=some g:=by rw[hv];rfl
  refine ⟨h.own.1,Or.inr ⟨g,cap,cur,hv,hg,?_,r.2⟩⟩;rw[k.block g (h.own.lt g hob).2 (ho g hob)];exact r.1
structure Env (w W:World) (b s k N:Nat) (ov ov1:Value) (out1:List Px.One) (m:Nat):Prop where
 oat:OAt W s N ov1 out1
 sc:∀ j,j≠0->W.cell? ⟨s,j,none⟩=w.cell? ⟨s,j,none⟩
 kat:KAt W k
 kc:∀ j,j≠1->j≠3->W.cell? ⟨k,j,none⟩=w.cell? ⟨k,j,none⟩
 kt:∃ tv xs,W.cell? ⟨k,3,none⟩=some tv/\W.ownsRow w.heap.size 169 3 tv m xs/\(∀ g,tv.ownBlock=some g->ov1.ownBlock≠some g)
 fr:Fr (fun g=>g=b\/g=s\/g=k\/ov.ownBlock=some g) w W
 blk:∀ g,ov1.ownBlock=some g->ov.ownBlock=some g\/w.heap.size<=g
structure Base (w:World) (b s k N:Nat) (v ov:Value):Prop where
 vz:∀ g,ae v=some g->g≠b/\g≠s/\g≠k/\ov.ownBlock≠some g/\g<w.heap.size
 bN:b<N
 sN:s<N
 N:N<=w.heap.size
 kw:k<w.heap.size
 sb:s≠b
 kb:k≠b
 ks:k≠s
 ko:ov.ownBlock≠some k
theorem Base.vz' {w:World} {b s k N:Nat} {v ov:Value} (h:Base w b s k N v ov):∀ g,ae v=some g->¬ (g=b\/g=s\/g=k\/ov.ownBlock=some g):=fun g hg=>by
 obtain ⟨h1,h2,h3,h4,_⟩:=h.vz g hg;rintro (h | h | h | h)
 ·exact h1 h
 ·exact h2 h
 ·exact h3 h
 ·exact h4 h
theorem Env.ne {w W:World} {b s k N:Nat} {v ov ov1:Value} {out1:List Px.One} {m:Nat} (h:Env w W b s k N ov ov1 out1 m) (B:Base w b s k N v ov):ov1.ownBlock≠some b/\ov1.ownBlock≠some s/\ov1.ownBlock≠some k:=by
 refine ⟨fun e => ?_,fun e => ?_,fun e => ?_⟩
 ·have:=(h.oat.own.lt b e).1;have:=B.bN;omega
 ·have:=(h.oat.own.lt s e).1;have:=B.sN;omega
 ·rcases h.blk k e with h | h
  ·exact B.ko h
  ·have:=B.kw;omega
theorem aQ {S:Nat->Prop} {W W':World} {N:Nat} {e:TypeId} {size:Nat} {v:Value} {n:Nat} {xs:List Value} (h:W.ownsRow N e size v n xs) (k:Fr S W W') (ho:∀ g,v.ownBlock=some g->¬ S g):W'.ownsRow N e size v n xs:=by
 rcases h.2 with ⟨hv,h0⟩ | ⟨g,cap,cur,hv,hg,r⟩
 ·exact ⟨h.1,Or.inl ⟨hv,h0⟩⟩
 ·have hob:v.ownBlock=some g:=by rw[hv];rfl
  refine ⟨h.1,Or.inr ⟨g,cap,cur,hv,hg,?_,r.2⟩⟩;rw[k.block g (h.lt g hob).2 (ho g hob)];exact r.1
theorem Env.b {w W W':World} {b s k N:Nat} {v ov ov1:Value} {out1:List Px.One} {m:Nat} (h:Env w W b s k N ov ov1 out1 m) (B:Base w b s k N v ov) (hw:Fr1 b W W'):Env w W' b s k N ov ov1 out1 m:=by
 have hs:=World.block_lt_of_cell? _ _ h.oat.c0;have hk:=h.kat.lt;have hne:=h.ne B;refine ⟨h.oat.fr hw B.sb (fun g hg e=>hne.1 (by rw[hg,e])),fun j hj=>(hw.cell hs B.sb).trans (h.sc j hj),h.kat.same (hw.block k hk B.kb),fun j h1 h3=>(hw.cell hk B.kb).trans (h.kc j h1 h3),?_,h.fr.trans' hw (fun i _ e=>Or.inl e),h.blk⟩;obtain ⟨tv,xs,h1,h2,h3⟩:=h.kt;refine ⟨tv,xs,(hw.cell hk B.kb).trans h1,aQ h2 hw (fun g hg e => ?_),h3⟩
 have:=(h2.lt g hg).1
 have:=B.bN
 have:=B.N
 omega
theorem Env.give {w W W':World} {b s k N:Nat} {v ov ov1 ov2:Value} {out1 out2:List Px.One} {m:Nat} (h:Env w W b s k N ov ov1 out1 m) (B:Base w b s k N v ov) (hO:OAt W' s N ov2 out2) (hw:Fr (fun g=>g=s\/ov1.ownBlock=some g) W W') (hbk:∀ g,ov2.ownBlock=some g->ov1.ownBlock=some g\/W.heap.size<=g) (hsc:∀ j,j≠0->W'.cell? ⟨s,j,none⟩=W.cell? ⟨s,j,none⟩):Env w W' b s k N ov ov2 out2 m:=by
 have hk:=h.kat.lt;have hne:=h.ne B;have hnk:¬ (k=s\/ov1.ownBlock=some k):=by
  rintro (e | e)
  ·exact B.ks e
  ·exact hne.2.2 e
 have hsz:=h.fr.size;refine ⟨hO,fun j hj=>(hsc j hj).trans (h.sc j hj),h.kat.same (hw.block k hk hnk),fun j h1 h3=>(hw.cell hk hnk).trans (h.kc j h1 h3),?_,h.fr.trans' hw (fun i hi e => ?_),fun g hg => ?_⟩
 ·obtain ⟨tv,xs,h1,h2,h3⟩:=h.kt
  refine ⟨tv,xs,(hw.cell hk hnk).trans h1,aQ h2 hw (fun g hg e => ?_),fun g hg e => ?_⟩
  ·rcases e with e | e
   ·have:=(h2.lt g hg).1
    have:=B.sN
    have:=B.N
    omega
   ·exact h3 g hg e
  ·rcases hbk g e with q | q
   ·exact h3 g hg q
   ·have:=(h2.lt g hg).2
    omega
 ·rcases e with e | e
  ·exact Or.inr (Or.inl e)
  ·rcases h.blk i e with q | q
   ·exact Or.inr (Or.inr (Or.inr q))
   ·omega
 ·rcases hbk g hg with q | q
  ·exact h.blk g q
  ·right;omega
theorem Env.bytes {w W:World} {b s k N:Nat} {v ov ov1:Value} {out1:List Px.One} {m:Nat} (h:Env w W b s k N ov ov1 out1 m) (B:Base w b s k N v ov) (Y:Int):Env w (W.setCell ⟨k,1,none⟩ (.int .i64 Y)) b s k N ov ov1 out1 m:=by
 have hs:=World.block_lt_of_cell? _ _ h.oat.c0;have hne:=h.ne B;have hw:Fr1 k W (W.setCell ⟨k,1,none⟩ (.int .i64 Y)):=(Fr1.refl _ _).set _ _;obtain ⟨q,hq⟩:=h.kat.c1;refine ⟨h.oat.fr hw (fun e=>B.ks e.symm) (fun g hg e=>hne.2.2 (by rw[hg,e])),fun j hj=>(hw.cell hs (fun e=>B.ks e.symm)).trans (h.sc j hj),⟨⟨Y,aj hq _⟩,fun j=>by rw[World.frozen?_setCell];exact h.kat.fz j⟩,fun j h1 h3=>by rw[aa _ _ _ _ _ (fun e=>h1 e.symm)];exact h.kc j h1 h3,?_,h.fr.trans' hw (fun i _ e=>Or.inr (Or.inr (Or.inl e))),h.blk⟩;obtain ⟨tv,xs,h1,h2,h3⟩:=h.kt;refine ⟨tv,xs,by rw[aa _ _ _ _ _ (by omega)];exact h1,aQ h2 hw (fun g hg e => ?_),h3⟩
 have:=(h2.lt g hg).1
 have:=B.kw
 omega
theorem Env.tok {w W W2:World} {b s k N:Nat} {v ov ov1:Value} {out1:List Px.One} {m:Nat} (h:Env w W b s k N ov ov1 out1 m) (B:Base w b s k N v ov) {tv v':Value} {o:Obj} {xs xs':List Value} {m':Nat} (h1:W.cell? ⟨k,3,none⟩=some tv) (h2:W.ownsRow w.heap.size 169 3 tv m xs) (h3:∀ g,tv.ownBlock=some g->ov1.ownBlock≠some g)
  (hg:(W.alloc o).grownBy W2 tv.ownBlock) (ho:W2.ownsRow w.heap.size 169 3 v' m' xs') (hn:∀ g,v'.ownBlock=some g->tv.ownBlock=some g\/W.heap.size+1<=g):Env w (W2.setCell ⟨k,3,none⟩ v') b s k N ov ov1 out1 m':=by
 have hw0:Fr (fun g=>tv.ownBlock=some g) W W2:=((Fr.refl _ _).alloc _).grown hg (fun j hj=>Or.inl hj);have hge:∀ g,tv.ownBlock=some g->w.heap.size<=g:=fun g hg'=>(h2.lt g hg').1
 have hs:=World.block_lt_of_cell? _ _ h.oat.c0;have hk:=h.kat.lt;have hne:=h.ne B;have hw:Fr (fun g=>g=k\/tv.ownBlock=some g) W (W2.setCell ⟨k,3,none⟩ v'):=by
  have hm:Fr (fun g=>g=k\/tv.ownBlock=some g) W W2:=hw0.mono (fun i _ e=>Or.inr e);exact hm.setCell (Or.inl (Or.inl rfl)) _ _
 have nS:¬ (s=k\/tv.ownBlock=some s):=by
  rintro (e | e)
  ·exact B.ks e.symm
  ·have:=hge s e;have:=B.sN;have:=B.N;omega
 have nK:¬ tv.ownBlock=some k:=fun e=>by have:=hge k e;have:=B.kw;omega
 have ck:∀ j,W2.cell? ⟨k,j,none⟩=W.cell? ⟨k,j,none⟩:=fun j=>hw0.cell hk nK
 refine ⟨h.oat.fr hw nS (fun g hg' e => ?_),fun j hj=>(hw.cell hs nS).trans (h.sc j hj),⟨?_,fun j=>by rw[World.frozen?_setCell,hw0.frozen hk nK];exact h.kat.fz j⟩,fun j q1 q3=>by rw[aa _ _ _ _ _ (fun e=>q3 e.symm),ck];exact h.kc j q1 q3,?_,h.fr.trans' hw (fun i hi e => ?_),h.blk⟩
 ·rcases e with e | e
  ·exact hne.2.2 (by rw[hg',e])
  ·exact h3 g e hg'
 ·obtain ⟨q,hq⟩:=h.kat.c1
  exact ⟨q,by rw[aa _ _ _ _ _ (by omega),ck];exact hq⟩
 ·refine ⟨v',xs',aj ((ck 3).trans h1) _,ownsRow_setCell_below ho (show k<w.heap.size from B.kw) _,fun g hg' e => ?_⟩
  rcases hn g hg' with q | q
  ·exact h3 g q e
  ·have:=(h.oat.own.lt g e).2;omega
 ·rcases e with e | e
  ·exact Or.inr (Or.inr (Or.inl e))
  ·have:=hge i e;omega
structure ux (w:World) (b s k N:Nat) (v ov:Value) (z:List Px.One) (a0:Nat) (s0 st:Px.St) (W:World) (ov':Value) (out':List Px.One) (t':Px.Bt):Prop where
 bat:BAt W b v t'
 env:∃ m,Env w W b s k N ov ov' out' m
 len:out'.length<=258*t'.a
 st:(t'.cut=false/\t'.err=0/\t'.a<=8*z.length/\∃ o,Px.Ends z a0 s0 t'.a (Px.ebS st out') o)\/Px.Stop z a0 s0 out' t'
theorem zP (b s k N:Nat) (v ov:Value) (z:List Px.One) (a0:Nat) (st:Px.St) (w:World) (h:BAt w b v ⟨a0,false,0⟩) (hz:ZAt w v z) (hg:Px.good z) (ha:a0<=8*z.length)
  (B:Base w b s k N v ov) (E:Env w w b s k N ov ov st.out 0) (hol:st.out.length<=258*a0) :
  Calls Tryz.prog 63 #[.pointer (some ⟨s,0,none⟩),.pointer (some ⟨b,0,none⟩),.pointer (some ⟨k,0,none⟩)] w fun r w'=>∃ ov' out' t',r = .returned (.tuple #[])/\ux w b s k N v ov z (Px.up8 a0) (Px.ssS st) st w' ov' out' t':=by
 have hz2:=hg.2.1;have hA:=Px.xG ha;have hup:a0<=Px.up8 a0:=by unfold Px.up8;omega
 have hvb:∀ g,ae v=some g->g≠b:=fun g hg=>(B.vz g hg).1
 go_enter Tryz.func63,Tryz.ntmps63;go_wp2_with fail;refine (xC b v _ w h (by show a0<=_;omega)).mono ?_;rintro r w1 ⟨rfl,hb1,hw1⟩;have hb1':BAt w1 b v ⟨Px.up8 a0,false,0⟩:=hb1;have hz1:=hz.fr hw1 hvb;go_wp2_with fail;refine (lI b v z _ 16 w1 hb1' hz1 hvb hg hA (by omega)).mono ?_;rintro r w2 ⟨n,rfl,hn,hy1,hb2,hw2⟩;have hz2':=hz1.fr hw2 hvb;go_wp2_with fail;refine (lI b v z _ 16 w2 hb2 hz2' hvb hg (J4 16 hA) (by omega)).mono ?_;rintro r w3 ⟨m,rfl,hm,hy2,hb3,hw3⟩;have hF3:Fr1 b w w3:=(hw1.trans hw2).trans hw3;have hz3:=hz2'.fr hw3 hvb;have hE3:Env w w3 b s k N ov ov st.out 0:=E.b B hF3;have hn16:n<65536:=hn;have hm16:m<65536:=hm;clear hb1 hb1' hw1 hw2 hw3;by_cases h32:Px.up8 a0+32<=8*z.length
 ·obtain ⟨e1,e2⟩:=Px.J6 h32
  rw[e2] at hb3;rw[e1] at hy2;have q1:n=Px.ab z (Px.up8 a0) 16:=hy1 (by simp) (by show Px.up8 a0+16<=_;omega);have q2:m=Px.ab z (Px.up8 a0+16) 16:=hy2 (by simp) (by show Px.up8 a0+16+16<=_;omega);have c2:w3.cell? ⟨b,2,none⟩=some (.bool false):=hb3.c2;clear hy1 hy2 e1 e2 hb2;by_cases hsum:n+m=65535
  ·have gs:(((n:Int)+(m:Int)) != 65535)=false:=by rw[bne_eq_false_iff_eq];omega
   have hst0:Px.AZ z (Px.up8 a0) st n 0 (Px.up8 a0+32) st.out:=by
    have:=Px.AZ.start (s:=st) h32 (by rw[<- q1,<- q2];exact hsum)
    rw[<- q1] at this;exact this
   have hlen0:st.out.length<=258*(Px.up8 a0+32):=by omega
   have ONT:Hid (∀ W a,BAt W b v ⟨a,false,0⟩->Calls Tryz.prog 61 #[.pointer (some ⟨b,0,none⟩)] W fun r w'=>r = .returned (.bool true)/\w'=W):=fun W a hW=>a9 b v _ W hW
   clear q1 q2 hsum;go_wp2;go_loopw [8] (fun j W=>∃ (i:Nat) (ov1:Value) (out1:List Px.One) (t:Px.Bt),j = .int .i64 (i:Int)/\i<=n/\BAt W b v t/\Env w W b s k N ov ov1 out1 0/\out1.length<=258*t.a/\((∃ a,t=⟨a,false,0⟩/\a<=8*z.length/\Px.AZ z (Px.up8 a0) st n i a out1)\/Px.Stop z (Px.up8 a0) (Px.ssS st) out1 t)) (fun j _=>n - (intOf j).toNat)
   case atStart=>exact ⟨0,ov,st.out,_,rfl,by omega,hb3,hE3,hlen0,Or.inl ⟨_,rfl,h32,hst0⟩⟩
   case round=>
    obtain ⟨i,ov1,out1,t,rfl,hi,hb,hE,hlen,hst⟩:=hrel;have hov1:=hE.ne B;by_cases hlt:i<n
    ·rcases hst with ⟨a,rfl,hal,hso⟩ | hst
     ·have hrun:Hid (Px.Run z (Px.up8 a0) (Px.ssS st) a { st with ph := .stored (n - i),out:=out1 }):=by
       rcases hso with ⟨_,h6⟩ | ⟨h5,_⟩
       ·exact h6
       ·omega
      have hzr:=hz.fr hE.fr B.vz';have NU:Hid (Calls Tryz.prog 59 #[.pointer (some ⟨b,0,none⟩),.int .i64 8] wr fun r w'=>∃ x:Nat,r = .returned (.int .i64 (x:Int))/\x<2^8/\(a+8<=8*z.length->x=Px.ab z a 8)/\BAt w' b v ((⟨a,false,0⟩:Px.Bt).num z 8)/\Fr1 b wr w'):=oa b v z ⟨a,false,0⟩ 8 wr hb hzr hvb hg hal (by omega) rfl;clear hso;go_wp2_with fail;refine (ONT.out _ _ hb).mono ?_;rintro r w5 ⟨rfl,rfl⟩;go_wp2_with fail;refine NU.out.mono ?_;rintro r w6 ⟨x,rfl,hx,hx2,hb6,hw6⟩;have HX2:Hid (a+8<=8*z.length->x=Px.ab z a 8):=hx2;clear hx2;have hE6:=hE.b B hw6;by_cases hfit:a+8<=8*z.length
      ·rw[Px.cA hfit] at hb6
       have hN6:N<=w6.heap.size:=Nat.le_trans B.N hE6.fr.size;have hlen':out1.length<=258*a:=hlen;have hoB:out1.length<4294967296:=by omega
       have GV:Hid (Calls Tryz.prog 103 #[.pointer (some ⟨s,0,none⟩),.pointer (some ⟨b,0,none⟩),.int .i64 (x:Int)] w6 fun r w'=>∃ ov',r = .returned (.tuple #[])/\OAt w' s N ov' (out1++[(x,Px.ay z (a+8))])/\Fr (fun g=>g=s\/ov1.ownBlock=some g) w6 w'/\(∀ g,ov'.ownBlock=some g->ov1.ownBlock=some g\/w6.heap.size<=g)/\(∀ j,j≠0->w'.cell? ⟨s,j,none⟩=w6.cell? ⟨s,j,none⟩)):=wo b s N x v ov1 z out1 ⟨a+8,false,0⟩ w6 hb6 (hz.fr hE6.fr B.vz') hg (by show 0<a+8;omega) hfit hE6.oat B.sN hN6 hoB;go_wp2_with fail;refine (ONT.out _ _ hb6).mono ?_;rintro r w7 ⟨rfl,rfl⟩;go_wp2_with fail;refine GV.out.mono ?_;rintro r w8 ⟨ov8,rfl,hO8,hw8,hbk8,hsc8⟩;have hb8:BAt w8 b v ⟨a+8,false,0⟩:=hb6.fr hw8 (by rintro (h | h);exact B.sb h.symm;exact hov1.1 h);have hE8:=hE6.give B hO8 hw8 hbk8 hsc8;obtain ⟨q,hq⟩:=hE8.kat.c1;have hqf:=hE8.kat.fz;have H8:Hid (Env w w8 b s k N ov ov8 (out1++[(x,Px.ay z (a+8))]) 0/\BAt w8 b v ⟨a+8,false,0⟩):=⟨hE8,hb8⟩;clear hE8 hb8 hO8 hsc8 hbk8;go_wp2;obtain ⟨hE8,hb8⟩:=H8.out;generalize hY:wrap64 (q+1)=Y at *;have hset:Fr1 k w8 (w8.setCell ⟨k,1,none⟩ (.int .i64 Y)):=(Fr1.refl _ _).set _ _;refine ⟨⟨i+1,ov8,out1++[(x,Px.ay z (a+8))],⟨a+8,false,0⟩,by go_num,by omega,hb8.fr hset (fun e=>B.kb e.symm),hE8.bytes B Y,?_,Or.inl ⟨a+8,rfl,hfit,?_⟩⟩,by simp [intOf];omega⟩
       ·show (out1++_).length<=258*(a+8)
        simp;omega
       ·rw[HX2.out hfit];exact Px.AZ.next hrun.out hlt hfit
      ·rw[Px.cM (by omega)] at hb6
       have ONF:Hid (Calls Tryz.prog 61 #[.pointer (some ⟨b,0,none⟩)] w6 fun r w'=>r = .returned (.bool false)/\w'=w6):=a9 b v _ w6 hb6;have hlen':out1.length<=258*a:=hlen;go_wp2_with fail;refine ONF.out.mono ?_;rintro r w7 ⟨rfl,rfl⟩;go_wp2;exact ⟨⟨i+1,ov1,out1,_,by go_num,by omega,hb6,hE6,(by show out1.length<=258*(8*z.length);omega),Or.inr (.cut a _ hrun.out (.num (n:=8) rfl (by omega)) rfl)⟩,by simp [intOf];omega⟩
     ·have hoff:=hst.off
      have ONF:Hid (Calls Tryz.prog 61 #[.pointer (some ⟨b,0,none⟩)] wr fun r w'=>r = .returned (.bool false)/\w'=wr):=by have:=a9 b v t wr hb;rw[hoff] at this;exact this
      have hP:Hid (ux w b s k N v ov z (Px.up8 a0) (Px.ssS st) st wr ov1 out1 t):=⟨hb,⟨0,hE⟩,hlen,Or.inr hst⟩;go_wp2_with fail;refine ONF.out.mono ?_;rintro r w7 ⟨rfl,rfl⟩;go_wp2;go_end0
      exact ⟨_,_,_,rfl,hP.out⟩
    ·have hP:Hid (ux w b s k N v ov z (Px.up8 a0) (Px.ssS st) st wr ov1 out1 t):=by
      refine ⟨hb,⟨0,hE⟩,hlen,?_⟩;rcases hst with ⟨a,rfl,hal,hso⟩ | hst
      ·left
       rcases hso with ⟨h5,_⟩ | ⟨_,h6⟩
       ·omega
       ·exact ⟨rfl,rfl,hal,h6⟩
      ·exact Or.inr hst
     clear hst;go_wp2;go_end0
     exact ⟨_,_,_,rfl,hP.out⟩
  ·have FA:Hid (Calls Tryz.prog 60 #[.pointer (some ⟨b,0,none⟩),.int .i64 11] w3 fun r w'=>r = .returned (.tuple #[])/\BAt w' b v ⟨Px.up8 a0+32,false,11⟩/\Fr1 b w3 w'):=cV b v _ 11 w3 hb3 rfl rfl
   have ONF:Hid (∀ W,BAt W b v ⟨Px.up8 a0+32,false,11⟩->Calls Tryz.prog 61 #[.pointer (some ⟨b,0,none⟩)] W fun r w'=>r = .returned (.bool false)/\w'=W):=fun W hW=>a9 b v _ W hW
   have hstop:Hid (Px.Stop z (Px.up8 a0) (Px.ssS st) st.out ⟨Px.up8 a0+32,false,11⟩) := .err (Px.up8 a0) _ 11 _ (.refl _ _) (Px.BC h32 (by rw[<- q1,<- q2];exact hsum)) rfl (by decide) h32;have gs:(((n:Int)+(m:Int)) != 65535)=true:=by rw[bne_iff_ne];omega
   clear q1 q2 hsum;go_wp2_with fail;refine FA.out.mono ?_;rintro r w4 ⟨rfl,hb4,hw4⟩;have hP:Hid (ux w b s k N v ov z (Px.up8 a0) (Px.ssS st) st w4 ov st.out ⟨Px.up8 a0+32,false,11⟩) :=
    ⟨hb4,⟨0,hE3.b B hw4⟩,(by show st.out.length<=258*(Px.up8 a0+32);have:=hup;omega),Or.inr hstop.out⟩
   go_wp2;go_loopw [8] (fun j W=>j = .int .i64 0/\W=w4) (fun _ _=>0)
   case atStart=>exact ⟨rfl,rfl⟩
   case round=>
    obtain ⟨rfl,rfl⟩:=hrel;by_cases hn0:n=0
    ·subst hn0
     go_wp2;go_end0
     exact ⟨_,_,_,rfl,hP.out⟩
    ·have hn0':(0:Int)<(n:Int):=by omega
     go_wp2_with fail;refine (ONF.out _ hb4).mono ?_;rintro r w5 ⟨rfl,rfl⟩;go_wp2;go_end0
     exact ⟨_,_,_,rfl,hP.out⟩
 ·rw[Px.G9 h32] at hb3
  have ONF:Hid (∀ W,BAt W b v ⟨8*z.length,true,0⟩->Calls Tryz.prog 61 #[.pointer (some ⟨b,0,none⟩)] W fun r w'=>r = .returned (.bool false)/\w'=W):=fun W hW=>a9 b v _ W hW
  have c2:w3.cell? ⟨b,2,none⟩=some (.bool true):=hb3.c2;have hP:Hid (ux w b s k N v ov z (Px.up8 a0) (Px.ssS st) st w3 ov st.out ⟨8*z.length,true,0⟩) :=
   ⟨hb3,⟨0,hE3⟩,(by show st.out.length<=258*(8*z.length);omega),Or.inr (.cut (Px.up8 a0) _ (.refl _ _) (.num (n:=32) rfl (by omega)) rfl)⟩
  clear hy1 hy2 hb2;go_wp2;go_loopw [8] (fun j W=>j = .int .i64 0/\W=w3) (fun _ _=>0)
  case atStart=>exact ⟨rfl,rfl⟩
  case round=>
   obtain ⟨rfl,rfl⟩:=hrel;by_cases hn0:n=0
   ·subst hn0
    go_wp2;go_end0
    exact ⟨_,_,_,rfl,hP.out⟩
   ·have hn0':(0:Int)<(n:Int):=by omega
    go_wp2_with fail;refine (ONF.out _ hb3).mono ?_;rintro r w5 ⟨rfl,rfl⟩;go_wp2;go_end0
    exact ⟨_,_,_,rfl,hP.out⟩
end Go.Proofs.YtgooinallljbpaaGreatDoor
namespace Px
abbrev syS (s:St) (lit dist:List Nat) (out:List One):St:={ s with ph := .sym lit dist,out:=out }
theorem Jx {z:List One} {a:Nat} {s:St} {lit dist:List Nat} {out:List One} {c n:Nat} (hg:bK z a lit c n) (hc:c<256):Step z a (syS s lit dist out) (a+n) (syS s lit dist (out++[(c,ay z (a+n))])):=by
 refine Step.sym (k:=false) (l:=lit) rfl hg ?_;show (if c<256 then _ else _)=_
 rw[if_pos hc];rfl
theorem Jz {z:List One} {a0:Nat} {s0:St} {a:Nat} {s:St} {lit dist:List Nat} {out:List One} {c n:Nat} (h:Run z a0 s0 a (syS s lit dist out)) (hg:bK z a lit c n) (hc:c=256):∃ o,Ends z a0 s0 (a+n) (ebS s out) o:=by
 refine ⟨out,a,_,h,rfl,Or.inr ⟨lit,c,n,rfl,hg,rfl,?_⟩⟩;show (if c<256 then _ else if c=256 then _ else _)=_
 rw[if_neg (by omega),if_pos hc];rfl
theorem JA {z:List One} {a:Nat} {s:St} {lit dist:List Nat} {out:List One} {c n:Nat} (hg:bK z a lit c n) (hc:285<c):Fails z a (syS s lit dist out) 13 (a+n):=by
 refine Fails.sym (l:=lit) rfl hg ?_;show (if c<256 then _ else if c=256 then _ else if 285<c then _ else _)=_
 rw[if_neg (by omega),if_neg (by omega),if_pos hc]
theorem Jy {z:List One} {a:Nat} {s:St} {lit dist:List Nat} {out:List One} {c n:Nat} (hg:bK z a lit c n) (h1:256<c) (h2:c<=285) (hb:a+n+aG c<=8*z.length):Run z a (syS s lit dist out) (a+n+aG c) { s with ph := .dist lit dist (bH c+ab z (a+n) (aG c)),out:=out }:=by
 have hr:cZ (syS s lit dist out) c (ay z (a+n))=if aG c=0 then (syS s lit dist out).to (.dist lit dist (bH c)) else (syS s lit dist out).to (.lrest lit dist (bH c) (aG c)):=by
  show (if c<256 then _ else if c=256 then _ else if 285<c then _ else _)=_
  rw[if_neg (by omega),if_neg (by omega),if_neg (by omega)]
 by_cases h0:aG c=0
 ·rw[if_pos h0] at hr
  have:=Step.sym (k:=false) (l:=lit) (s:=syS s lit dist out) rfl hg hr
  have e0:ab z (a+n) 0=0:=rfl;rw[h0,e0,Nat.add_zero,Nat.add_zero];exact .one this
 ·rw[if_neg h0] at hr
  have st1:=Step.sym (k:=false) (l:=lit) (s:=syS s lit dist out) rfl hg hr;exact .tail (.one st1) (.num (k:=false) (n:=aG c) rfl hb rfl)
theorem zM {z:List One} {a0:Nat} {s0:St} {a:Nat} {s:St} {lit dist:List Nat} {out:List One} {c n:Nat} (h:Run z a0 s0 a (syS s lit dist out)) (hg:bK z a lit c n) (h1:256<c) (h2:c<=285) (hb:¬ a+n+aG c<=8*z.length):Stop z a0 s0 out ⟨8*z.length,true,0⟩:=by
 have hr:cZ (syS s lit dist out) c (ay z (a+n))=if aG c=0 then (syS s lit dist out).to (.dist lit dist (bH c)) else (syS s lit dist out).to (.lrest lit dist (bH c) (aG c)):=by
  show (if c<256 then _ else if c=256 then _ else if 285<c then _ else _)=_
  rw[if_neg (by omega),if_neg (by omega),if_neg (by omega)]
 have h0:¬ aG c=0:=by have:=hg.2.1;omega
 rw[if_neg h0] at hr;have st1:=Step.sym (k:=false) (l:=lit) (s:=syS s lit dist out) rfl hg hr;exact .cut (a+n) _ (.tail h st1) (.num (n:=aG c) rfl (by omega)) rfl
theorem Iw {z:List One} {a:Nat} {s:St} {lit dist:List Nat} {out:List One} {len d n:Nat} (hg:bK z a dist d n) (hd:29<d):Fails z a { s with ph := .dist lit dist len,out:=out } 13 (a+n):=by
 refine Fails.sym (l:=dist) rfl hg ?_;show (if 29<d then _ else _)=_
 rw[if_pos hd]
theorem EV {z:List One} {a0:Nat} {s0:St} {a:Nat} {s:St} {lit dist:List Nat} {out:List One} {len d n:Nat} (h:Run z a0 s0 a { s with ph := .dist lit dist len,out:=out }) (hg:bK z a dist d n) (hd:d<=29) (hb:a+n+aE d<=8*z.length):Ends z a0 s0 (a+n+aE d) (St.copy { s with out:=out } lit dist len (bI d+ab z (a+n) (aE d)) (ay z (a+n+aE d))) out:=by
 have hr:cZ { s with ph := .dist lit dist len,out:=out } d (ay z (a+n))=if aE d=0 then St.copy { s with ph := .dist lit dist len,out:=out } lit dist len (bI d) (ay z (a+n)) else St.to { s with ph := .dist lit dist len,out:=out } (.drest lit dist len (bI d) (aE d)):=by
  show (if 29<d then _ else _)=_
  rw[if_neg (by omega)]
 by_cases h0:aE d=0
 ·rw[if_pos h0] at hr
  refine ⟨a,_,h,rfl,Or.inr ⟨dist,d,n,rfl,hg,by omega,?_⟩⟩;have e0:ab z (a+n) 0=0:=rfl;rw[h0,e0,Nat.add_zero,Nat.add_zero,hr];rfl
 ·rw[if_neg h0] at hr
  have st1:=Step.sym (k:=false) (l:=dist) (s:={ s with ph := .dist lit dist len,out:=out }) rfl hg hr;exact ⟨a+n,_,.tail h st1,rfl,Or.inl ⟨aE d,rfl,rfl,hb,rfl⟩⟩
theorem Iv {z:List One} {a0:Nat} {s0:St} {a:Nat} {s:St} {lit dist:List Nat} {out:List One} {len d n:Nat} (h:Run z a0 s0 a { s with ph := .dist lit dist len,out:=out }) (hg:bK z a dist d n) (hd:d<=29) (hb:¬ a+n+aE d<=8*z.length):Stop z a0 s0 out ⟨8*z.length,true,0⟩:=by
 have hr:cZ { s with ph := .dist lit dist len,out:=out } d (ay z (a+n))=if aE d=0 then St.copy { s with ph := .dist lit dist len,out:=out } lit dist len (bI d) (ay z (a+n)) else St.to { s with ph := .dist lit dist len,out:=out } (.drest lit dist len (bI d) (aE d)):=by
  show (if 29<d then _ else _)=_
  rw[if_neg (by omega)]
 have h0:¬ aE d=0:=by have:=hg.2.1;omega
 rw[if_neg h0] at hr;have st1:=Step.sym (k:=false) (l:=dist) (s:={ s with ph := .dist lit dist len,out:=out }) rfl hg hr;exact .cut (a+n) _ (.tail h st1) (.num (n:=aE d) rfl (by omega)) rfl
theorem yE (p back n:Nat) (o:List One):aT p back (n+1) o=aT p back n o++[(vAt (aT p back n o) ((aT p back n o).length - back),p)]:=by
 induction n generalizing o with
 | zero=>rfl
 | succ n ih=>
  rw[aT,ih];rfl
theorem qX (p back n:Nat) (o:List One):(aT p back n o).length=o.length+n:=by
 induction n generalizing o with
 | zero=>rfl
 | succ n ih=>rw[aT,ih];simp;omega
end Px
namespace Go.Proofs.YtgooinallljbpaaGreatDoor
open Go.RowKit
set_option linter.unusedSimpArgs false
set_option linter.unusedVariables false
theorem Dt:(Tryz.prog.info? 169).map (fun i=>(i.zero,i.size,i.bytes))=some (some (.agg #[.int .i64 0,.int .i64 0,.int .i64 0]),3,24):=by kernel_rfl
theorem si.mono {S T:Nat->Prop} {w:World} {B:Nat} {l:List Nat} (h:si w B l S) (hT:∀ g,T g->S g):si w B l T:=by
 obtain ⟨v,cv,h1,h2,h3,h4,h5,h6⟩:=h.ex;exact ⟨⟨v,cv,h1,h2,h3,h4,fun g hg q=>h5 g hg (hT g q),fun g hg q=>h6 g hg (hT g q)⟩,fun q=>h.out (hT B q)⟩
theorem si.kept {S:Nat->Prop} {w w':World} {B:Nat} {l:List Nat} (h:si w B l S) (k:Kept w w'):si w' B l S:=by
 obtain ⟨v,cv,h1,h2,h3,h4,h5,h6⟩:=h.ex;have hB:B<w.heap.size:=World.block_lt_of_cell? _ _ h1;exact ⟨⟨v,cv,(k.cell (p:=⟨B,0,none⟩) hB).trans h1,(k.cell (p:=⟨B,1,none⟩) hB).trans h2,h3.kept k,h4.kept k,h5,h6⟩,h.out⟩
theorem Base.kept {w w':World} {b s k N:Nat} {v ov:Value} (h:Base w b s k N v ov) (q:Kept w w'):Base w' b s k N v ov:=
 ⟨fun g hg=>by obtain ⟨h1,h2,h3,h4,h5⟩:=h.vz g hg;exact ⟨h1,h2,h3,h4,Nat.lt_of_lt_of_le h5 q.size⟩,h.bN,h.sN,Nat.le_trans h.N q.size,Nat.lt_of_lt_of_le h.kw q.size,h.sb,h.kb,h.ks,h.ko⟩
theorem uw (W:World) (n:Nat) (e:n=W.heap.size) (a b c:Value) (t:TypeId):∀ (j:Nat) (u:Value),[a,b,c][j]? = some u->(W.alloc (.cells #[a,b,c] t)).cell? (Addr.add ⟨n,0,none⟩ j)=some u:=by
 subst e;intro j u hj
 match j,hj with
 | 0,hj=>simp at hj;subst hj;simp [Addr.add]
 | 1,hj=>simp at hj;subst hj;simp [Addr.add]
 | 2,hj=>simp at hj;subst hj;simp [Addr.add]
 | j+3,hj=>simp at hj
theorem Hv:(List.range 29).all (fun c=>decide (Px.bH (c+257)+2^Px.aG (c+257)<=259/\3<=Px.bH (c+257)))=true:=by decide
theorem NG (c x:Nat) (h1:257<=c) (h2:c<=285) (hx:x<2^Px.aG c):Px.bH c+x<=258:=by
 have:=of_decide_eq_true (List.all_eq_true.1 Hv (c - 257) (List.mem_range.2 (by omega)))
 rw[show c - 257+257=c from by omega] at this;omega
theorem Env.again {w w':World} {b s k N:Nat} {v ov:Value} {out:List Px.One} (h:Env w w b s k N ov ov out 0) (B:Base w b s k N v ov) (q:Kept w w') (h3:w.cell? ⟨k,3,none⟩=some (.slice none 0 0)):Env w' w' b s k N ov ov out 0:=by
 have hk:=h.kat.lt;refine ⟨h.oat.fr (S:=fun _=>False) (Fr.of_kept q) (fun e=>e) (fun _ _ e=>e),fun _ _=>rfl,h.kat.same (q.block k hk),fun _ _ _=>rfl,⟨.slice none 0 0,[],(q.cell (p:=⟨k,3,none⟩) hk).trans h3,World.ownsRow_nil _ _ _ _,fun g hg=>by cases hg⟩,Fr.refl _ _,fun g hg=>Or.inl hg⟩
theorem Env.back {w w' W:World} {b s k N:Nat} {v ov ov1:Value} {out1:List Px.One} {m:Nat} (h:Env w' W b s k N ov ov1 out1 m) (B:Base w b s k N v ov) (hs:s<w.heap.size) (q:Kept w w'):Env w W b s k N ov ov1 out1 m:=by
 refine ⟨h.oat,fun j hj=>(h.sc j hj).trans (q.cell (p:=⟨s,j,none⟩) hs),h.kat,fun j h1 h3=>(h.kc j h1 h3).trans (q.cell (p:=⟨k,j,none⟩) B.kw),?_,(Fr.of_kept q).trans h.fr,fun g hg => ?_⟩
 ·obtain ⟨tv,xs,h1,h2,h3⟩:=h.kt
  exact ⟨tv,xs,h1,uI h2 q.size,h3⟩
 ·rcases h.blk g hg with e | e
  ·exact Or.inl e
  ·exact Or.inr (Nat.le_trans q.size e)
theorem E6 (b s k N:Nat) (v ov lv dv:Value) (z:List Px.One) (a0:Nat) (st:Px.St) (lit dist:List Nat) (w:World) (h:BAt w b v ⟨a0,false,0⟩) (hz:ZAt w v z) (hg:Px.good z) (ha:a0<=8*z.length)
  (Bs:Base w b s k N v ov) (E:Env w w b s k N ov ov st.out 0) (hk3:w.cell? ⟨k,3,none⟩=some (.slice none 0 0)) (hwin:w.cell? ⟨s,2,none⟩=some (.int .i64 (st.window:Int))) (hwb:st.window<=32768) (hol:st.out.length<=258*a0)
  (hl:IAt w lv lit) (hd:IAt w dv dist) (hls:Px.bD lit) (hds:Px.bD dist)
  (hlb:∀ g,ae lv=some g->g≠b/\g≠s/\g≠k/\ov.ownBlock≠some g/\g<w.heap.size) (hdb:∀ g,ae dv=some g->g≠b/\g≠s/\g≠k/\ov.ownBlock≠some g/\g<w.heap.size) :
  Calls Tryz.prog 65 #[.pointer (some ⟨s,0,none⟩),.pointer (some ⟨b,0,none⟩),.pointer (some ⟨k,0,none⟩),lv,dv] w fun r w'=>∃ ov' out' t',r = .returned (.tuple #[])/\ux w b s k N v ov z a0 (Px.syS st lit dist st.out) st w' ov' out' t':=by
 have hz2:=hg.2.1;have hvb:∀ g,ae v=some g->g≠b:=fun g hg=>(Bs.vz g hg).1
 have hsw:s<w.heap.size:=World.block_lt_of_cell? _ _ E.oat.c0;have hbw:b<w.heap.size:=h.lt;have nS:∀ g,(g≠b/\g≠s/\g≠k/\ov.ownBlock≠some g/\g<w.heap.size)->¬ (g=b\/g=s\/g=k\/ov.ownBlock=some g):=by
  rintro g ⟨h1,h2,h3,h4,_⟩ (e | e | e | e)
  ·exact h1 e
  ·exact h2 e
  ·exact h3 e
  ·exact h4 e
 have nN:∀ g,w.heap.size<=g->¬ (g=b\/g=s\/g=k\/ov.ownBlock=some g):=by
  rintro g hg (e | e | e | e)
  ·omega
  ·omega
  ·have:=Bs.kw;omega
  ·have:=(E.oat.own.lt g e).2;omega
 have BK1:Hid (Calls Tryz.prog 104 #[lv] w fun r w'=>∃ B,r = .returned (.pointer (some ⟨B,0,none⟩))/\si w' B lit (fun g=>g=b\/g=s\/g=k\/ov.ownBlock=some g)/\Kept w w'):=fH lv lit _ w hl hls (fun g hg=>nS g (hlb g hg)) nN (fun g hg=>(hlb g hg).2.2.2.2);have BK2:Hid (∀ W,Kept w W->Calls Tryz.prog 104 #[dv] W fun r w'=>∃ B,r = .returned (.pointer (some ⟨B,0,none⟩))/\si w' B dist (fun g=>g=b\/g=s\/g=k\/ov.ownBlock=some g)/\Kept W w'):=fun W hW=>fH dv dist _ W (hd.kept hW) hds (fun g hg=>nS g (hdb g hg)) (fun g hg=>nN g (Nat.le_trans hW.size hg)) (fun g hg=>Nat.lt_of_lt_of_le (hdb g hg).2.2.2.2 hW.size)
 obtain ⟨lp,lc,rfl⟩:=hl.form;obtain ⟨dp,dc,rfl⟩:=hd.form;clear hlb hdb nS nN;go_enter Tryz.func65,Tryz.ntmps65;go_wp2_with fail;refine BK1.out.mono ?_;rintro r w1 ⟨B1,rfl,hB1,hk1⟩;go_wp2_with fail;refine (BK2.out _ hk1).mono ?_;rintro r w2 ⟨B2,rfl,hB2,hk2⟩;have hkw:Kept w w2:=hk1.trans hk2;have hB1':=hB1.kept hk2;have Bs2:=Bs.kept hkw;have E2:=E.again Bs hkw hk3;have hb2:=h.kept hkw;have hzz:ZAt w2 v z:=hz.fr (S:=fun _=>False) (Fr.of_kept hkw) (fun _ _ e=>e);have hwin2:w2.cell? ⟨s,2,none⟩=_:=(hkw.cell (p:=⟨s,2,none⟩) hsw).trans hwin;have fin:∀ {W:World} {ov':Value} {out':List Px.One} {m:Nat} {t':Px.Bt},BAt W b v t'->Env w2 W b s k N ov ov' out' m->out'.length<=258*t'.a->((t'.cut=false/\t'.err=0/\t'.a<=8*z.length/\∃ o,Px.Ends z a0 (Px.syS st lit dist st.out) t'.a (Px.ebS st out') o)\/Px.Stop z a0 (Px.syS st lit dist st.out) out' t')->ux w b s k N v ov z a0 (Px.syS st lit dist st.out) st W ov' out' t':=fun h1 h2 h3 h4=>⟨h1,⟨_,h2.back Bs hsw hkw⟩,h3,h4⟩
 have FIN:Hid (∀ {W:World} {ov':Value} {out':List Px.One} {m:Nat} {t':Px.Bt},BAt W b v t'->Env w2 W b s k N ov ov' out' m->out'.length<=258*t'.a->((t'.cut=false/\t'.err=0/\t'.a<=8*z.length/\∃ o,Px.Ends z a0 (Px.syS st lit dist st.out) t'.a (Px.ebS st out') o)\/Px.Stop z a0 (Px.syS st lit dist st.out) out' t')->ux w b s k N v ov z a0 (Px.syS st lit dist st.out) st W ov' out' t'):=fin;clear fin hB1 hk1 hk2 BK1 BK2 hl hd;go_wp2;go_loopw [] (fun W=>∃ (ov1:Value) (out1:List Px.One) (m a:Nat),BAt W b v ⟨a,false,0⟩/\Env w2 W b s k N ov ov1 out1 m/\out1.length<=258*a/\m<=a/\a<=8*z.length/\Px.Run z a0 (Px.syS st lit dist st.out) a (Px.syS st lit dist out1)) (fun W=>xB W b (8*z.length))
 case atStart=>exact ⟨ov,st.out,0,a0,hb2,E2,hol,by omega,ha,.refl _ _⟩
 case round=>
  obtain ⟨ov1,out1,m,a,hb,hE,hlen,hma,hal,hrun⟩:=hrel;have hne:=hE.ne Bs2;have ONT:Hid (∀ W a,BAt W b v ⟨a,false,0⟩->Calls Tryz.prog 61 #[.pointer (some ⟨b,0,none⟩)] W fun r w'=>r = .returned (.bool true)/\w'=W):=fun W a hW=>a9 b v _ W hW
  have ONF:Hid (∀ W t,t.on=false->BAt W b v t->Calls Tryz.prog 61 #[.pointer (some ⟨b,0,none⟩)] W fun r w'=>r = .returned (.bool false)/\w'=W):=fun W t ht hW=>by have:=a9 b v t W hW;rw[ht] at this;exact this
  have SY1:Hid (Calls Tryz.prog 105 _ wr _):=sB b B1 v z ⟨a,false,0⟩ lit wr hb (hzz.fr hE.fr Bs2.vz') hvb ((hB1'.fr hE.fr).mono (fun g e=>Or.inl e)) hls hg hal rfl rfl;have HR:Hid (Px.Run z a0 (Px.syS st lit dist st.out) a (Px.syS st lit dist out1)):=hrun;clear hrun;go_wp2_with fail;refine (ONT.out _ _ hb).mono ?_;rintro r w3 ⟨rfl,rfl⟩;go_wp2_with fail;refine SY1.out.mono ?_;rintro r w4 ⟨c,t4,rfl,hs4,hb4,hw4⟩;have hE4:=hE.b Bs2 hw4;rcases hs4.cases' with ⟨n,hgot,rfl⟩ | ⟨n,hbad,rfl⟩ | ⟨hcut,rfl⟩
  ·have hga:=hgot.2.1
   have hgn:=hgot.1;have hcl:c<320:=by have:=hgot.2.2.2.1;have:=hls.2;omega
   have HG:Hid (Px.bK z a lit c n):=hgot;clear hgot hs4 SY1;by_cases h256:c=256
   ·have hP:=FIN.out hb4 hE4 (by show out1.length<=258*(a+n);omega) (Or.inl ⟨rfl,rfl,hga,Px.Jz HR.out HG.out h256⟩)
    have HP:Hid _:=hP;clear hP;subst h256;go_wp2_with fail;refine (ONT.out _ _ hb4).mono ?_;rintro r w5 ⟨rfl,rfl⟩;go_wp2
    (try simp only [Exit.inBlock,Exit.then]);refine bodyPost_ret (results_none rfl _ _ _) rfl ?_
    exact ⟨_,_,_,rfl,HP.out⟩
   ·have g256:((c:Int) == 256)=false:=beq_eq_false_iff_ne.2 (by omega)
    by_cases hlt:c<256
    ·have hN4:N<=w4.heap.size:=Nat.le_trans Bs2.N hE4.fr.size
     have hoB:out1.length<4294967296:=by omega
     have GV:Hid (Calls Tryz.prog 103 #[.pointer (some ⟨s,0,none⟩),.pointer (some ⟨b,0,none⟩),.int .i64 (c:Int)] w4 fun r w'=>∃ ov',r = .returned (.tuple #[])/\OAt w' s N ov' (out1++[(c,Px.ay z (a+n))])/\Fr (fun g=>g=s\/ov1.ownBlock=some g) w4 w'/\(∀ g,ov'.ownBlock=some g->ov1.ownBlock=some g\/w4.heap.size<=g)/\(∀ j,j≠0->w'.cell? ⟨s,j,none⟩=w4.cell? ⟨s,j,none⟩)):=wo b s N c v ov1 z out1 ⟨a+n,false,0⟩ w4 hb4 (hzz.fr hE4.fr Bs2.vz') hg (by show 0<a+n;omega) hga hE4.oat Bs2.sN hN4 hoB;have HR2:Hid (Px.Run z a0 (Px.syS st lit dist st.out) (a+n) (Px.syS st lit dist (out1++[(c,Px.ay z (a+n))]))) := .tail HR.out (Px.Jx HG.out hlt);clear h256;go_wp2_with fail;refine (ONT.out _ _ hb4).mono ?_;rintro r w5 ⟨rfl,rfl⟩;go_wp2_with fail;refine GV.out.mono ?_;rintro r w6 ⟨ov6,rfl,hO6,hw6,hbk6,hsc6⟩;have hb6:BAt w6 b v ⟨a+n,false,0⟩:=hb4.fr hw6 (by rintro (h | h);exact Bs2.sb h.symm;exact hne.1 h);have hE6:=hE4.give Bs2 hO6 hw6 hbk6 hsc6;obtain ⟨q,hq⟩:=hE6.kat.c1;have hqf:=hE6.kat.fz;obtain ⟨tv,xs,ht1,ht2,ht3⟩:=hE6.kt;have hkb:=Bs2.kb;have hkw2:=Bs2.kw;have hE7:=hE6.bytes Bs2 (wrap64 (q+1));have hb7:BAt (w6.setCell ⟨k,1,none⟩ (.int .i64 (wrap64 (q+1)))) b v ⟨a+n,false,0⟩:=hb6.fr ((Fr1.refl _ _).set _ _) (fun e=>hkb e.symm);have H7:Hid (Env w2 (w6.setCell ⟨k,1,none⟩ (.int .i64 (wrap64 (q+1)))) b s k N ov ov6 (out1++[(c,Px.ay z (a+n))]) m/\BAt (w6.setCell ⟨k,1,none⟩ (.int .i64 (wrap64 (q+1)))) b v ⟨a+n,false,0⟩/\(w6.setCell ⟨k,1,none⟩ (.int .i64 (wrap64 (q+1)))).cell? ⟨k,3,none⟩=some tv/\(w6.setCell ⟨k,1,none⟩ (.int .i64 (wrap64 (q+1)))).ownsRow w2.heap.size 169 3 tv m xs/\(∀ g,tv.ownBlock=some g->ov6.ownBlock≠some g)) :=
      ⟨hE7,hb7,by rw[aa _ _ _ _ _ (by omega)];exact ht1,ownsRow_setCell_below ht2 (show k<w2.heap.size from hkw2) _,ht3⟩
     have hsz7:w2.heap.size<=w6.heap.size:=hE6.fr.size;have HC:Hid (∀ (j:Nat) (u:Value),[Value.int .i64 (c:Int),Value.int .i64 0,Value.int .i64 0][j]? = some u->((w6.setCell ⟨k,1,none⟩ (.int .i64 (wrap64 (q+1)))).alloc (.cells #[.int .i64 (c:Int),.int .i64 0,.int .i64 0] 169)).cell? (Addr.add ⟨w6.heap.size,0,none⟩ j)=some u):=by
      exact uw _ _ (by simp [World.setCell]) _ _ _ _
     clear hE6 hE7 hb6 hb7 hO6 hsc6 hbk6 ht2 ht3;go_wp2_with (at_builtin;refine cT _ 132 169 3 24 (.agg #[.int .i64 0,.int .i64 0,.int .i64 0]) Tryz.underlying132 Dt rfl (by omega) rfl _ _ rfl w2.heap.size tv m xs rfl (H7.out.2.2.2.1.alloc _) ⟨w6.heap.size,0,none⟩ 1 1 [.int .i64 (c:Int),.int .i64 0,.int .i64 0] rfl rfl (by omega) HC.out (by intro u hu;simp at hu;rcases hu with rfl | rfl | rfl<;>rfl) (by unfold maxLen;omega) (by omega) (by simp [World.setCell];omega) ?_)
     intro v8 w8 ho8 hg8 hn8;obtain ⟨p8,c8,rfl⟩:=aq ho8;obtain ⟨hE7,hb7,ht1',ht2',ht3'⟩:=H7.out;have hszW:(w6.setCell ⟨k,1,none⟩ (.int .i64 (wrap64 (q+1)))).heap.size=w6.heap.size:=by simp [World.setCell]
     have hE8:=hE7.tok Bs2 ht1' ht2' ht3' hg8 ho8 (by rw[hszW];exact hn8);have hFr8:Fr (fun g=>tv.ownBlock=some g) (w6.setCell ⟨k,1,none⟩ (.int .i64 (wrap64 (q+1)))) w8:=((Fr.refl _ _).alloc _).grown hg8 (fun j hj=>Or.inl hj);have hb8:BAt w8 b v ⟨a+n,false,0⟩:=hb7.fr hFr8 (fun e=>by have:=(ht2'.lt b e).1;have:=Bs2.bN;have:=Bs2.N;omega);have hkt:(w8.cell? ⟨k,3,none⟩=some tv)/\w8.frozen? ⟨k,3,none⟩=false:=by
      have hnk:¬ tv.ownBlock=some k:=fun e=>by have:=(ht2'.lt k e).1;omega
      exact ⟨(hFr8.cell hE7.kat.lt hnk).trans ht1',(hFr8.frozen hE7.kat.lt hnk).trans (hE7.kat.fz 3)⟩
     have hk3c:=hkt.1;have hk3f:=hkt.2;have H8:Hid (Env w2 (w8.setCell ⟨k,3,none⟩ (.slice p8 (m+1) c8)) b s k N ov ov6 (out1++[(c,Px.ay z (a+n))]) (m+1)/\BAt w8 b v ⟨a+n,false,0⟩):=⟨hE8,hb8⟩;clear hE7 hb7 ht1' ht2' ht3' hE8 hFr8 hb8 hg8 ho8 hn8 hszW hkt H7 HC;go_wp2;obtain ⟨hE8,hb8⟩:=H8.out;have hb9:BAt (w8.setCell ⟨k,3,none⟩ (.slice p8 (m+1) c8)) b v ⟨a+n,false,0⟩:=hb8.fr ((Fr1.refl _ _).set _ _) (fun e=>hkb e.symm);refine ⟨⟨ov6,out1++[(c,Px.ay z (a+n))],m+1,a+n,hb9,hE8,by simp;omega,by omega,hga,HR2.out⟩,?_⟩;rw[bR hb9,bR hb];omega
    ·by_cases h285:285<c
     ·have FA:Hid (Calls Tryz.prog 60 #[.pointer (some ⟨b,0,none⟩),.int .i64 13] w4 fun r w'=>r = .returned (.tuple #[])/\BAt w' b v ⟨a+n,false,13⟩/\Fr1 b w4 w'):=cV b v _ 13 w4 hb4 rfl rfl
      clear h256;go_wp2_with fail;refine (ONT.out _ _ hb4).mono ?_;rintro r w5 ⟨rfl,rfl⟩;go_wp2_with fail;refine FA.out.mono ?_;rintro r w6 ⟨rfl,hb6,hw6⟩;have hP:=FIN.out hb6 (hE4.b Bs2 hw6) (by show out1.length<=258*(a+n);omega) (Or.inr (.err a _ 13 (a+n) HR.out (Px.JA HG.out h285) rfl (by decide) hga));have HP:Hid _:=hP;clear hP;go_wp2
      (try simp only [Exit.inBlock,Exit.then]);refine bodyPost_ret (results_none rfl _ _ _) rfl ?_
      exact ⟨_,_,_,rfl,HP.out⟩
     ·have hc1:257<=c:=by omega
      have hc2:c<=285:=by omega
      have SZ:Hid (Calls Tryz.prog 106 #[.pointer (some ⟨b,0,none⟩),.int .i64 (c:Int)] w4 fun r w'=>∃ x:Nat,r = .returned (.int .i64 ((Px.bH c+x:Nat):Int))/\Lc z ⟨a+n,false,0⟩ (Px.aG c) x/\BAt w' b v ((⟨a+n,false,0⟩:Px.Bt).num z (Px.aG c))/\Fr1 b w4 w'):=Gt b v z ⟨a+n,false,0⟩ c w4 hb4 (hzz.fr hE4.fr Bs2.vz') hvb hg hga rfl hc1 hc2;clear h256 h285 hlt;go_wp2_with fail;refine (ONT.out _ _ hb4).mono ?_;rintro r w5 ⟨rfl,rfl⟩;go_wp2_with fail;refine SZ.out.mono ?_;rintro r w6 ⟨x,rfl,hx,hb6,hw6⟩;have hE6:=hE4.b Bs2 hw6;have hLEN:=NG c x hc1 hc2 hx.1;obtain ⟨LEN,hLe⟩:∃ LEN,LEN=Px.bH c+x:=⟨_,rfl⟩;rw[<- hLe] at hLEN ⊢;by_cases hfit:a+n+Px.aG c<=8*z.length
      ·rw[Px.cA hfit] at hb6
       have HR6:Hid (Px.Run z a0 (Px.syS st lit dist st.out) (a+n+Px.aG c) { st with ph := .dist lit dist LEN,out:=out1 }):=by
        have:=HR.out.trans (Px.Jy HG.out (by omega) hc2 hfit)
        rw[<- hx.2 hfit,<- hLe] at this;exact this
       have c2:w6.cell? ⟨b,2,none⟩=some (.bool false):=hb6.c2;have hA2:a+n<=a+n+Px.aG c:=by omega
       clear hLe hx;generalize a+n+Px.aG c=A2 at *;have SY2:Hid (Calls Tryz.prog 105 _ w6 _):=sB b B2 v z ⟨A2,false,0⟩ dist w6 hb6 (hzz.fr hE6.fr Bs2.vz') hvb ((hB2.fr hE6.fr).mono (fun g e=>Or.inl e)) hds hg hfit rfl rfl;go_wp2_with fail;refine SY2.out.mono ?_;rintro r w7 ⟨d,t7,rfl,hs7,hb7,hw7⟩;have hE7:=hE6.b Bs2 hw7;rcases hs7.cases' with ⟨n2,hgot2,rfl⟩ | ⟨n2,hbad2,rfl⟩ | ⟨hcut2,rfl⟩
       ·have hga2:=hgot2.2.1
        have hgn2:=hgot2.1;have hdl:d<320:=by have:=hgot2.2.2.2.1;have:=hds.2;omega
        have HG2:Hid (Px.bK z A2 dist d n2):=hgot2;clear hgot2 hs7 SY2;by_cases h29:29<d
        ·have FA:Hid (Calls Tryz.prog 60 #[.pointer (some ⟨b,0,none⟩),.int .i64 13] w7 fun r w'=>r = .returned (.tuple #[])/\BAt w' b v ⟨A2+n2,false,13⟩/\Fr1 b w7 w'):=cV b v _ 13 w7 hb7 rfl rfl
         go_wp2_with fail;refine (ONT.out _ _ hb7).mono ?_;rintro r w8 ⟨rfl,rfl⟩;go_wp2_with fail;refine FA.out.mono ?_;rintro r w9 ⟨rfl,hb9,hw9⟩;have hP:=FIN.out hb9 (hE7.b Bs2 hw9) (by show out1.length<=258*(A2+n2);omega) (Or.inr (.err A2 _ 13 (A2+n2) HR6.out (Px.Iw HG2.out h29) rfl (by decide) hga2));have HP:Hid _:=hP;clear hP;go_wp2
         (try simp only [Exit.inBlock,Exit.then]);refine bodyPost_ret (results_none rfl _ _ _) rfl ?_
         exact ⟨_,_,_,rfl,HP.out⟩
        ·have hd2:d<=29:=by omega
         have FR:Hid (Calls Tryz.prog 107 #[.pointer (some ⟨b,0,none⟩),.int .i64 (d:Int)] w7 fun r w'=>∃ x:Nat,r = .returned (.int .i64 ((Px.bI d+x:Nat):Int))/\Lc z ⟨A2+n2,false,0⟩ (Px.aE d) x/\BAt w' b v ((⟨A2+n2,false,0⟩:Px.Bt).num z (Px.aE d))/\Fr1 b w7 w'):=Io b v z ⟨A2+n2,false,0⟩ d w7 hb7 (hzz.fr hE7.fr Bs2.vz') hvb hg hga2 rfl hd2;clear h29;go_wp2_with fail;refine (ONT.out _ _ hb7).mono ?_;rintro r w8 ⟨rfl,rfl⟩;go_wp2_with fail;refine FR.out.mono ?_;rintro r w9 ⟨y,rfl,hy,hb9,hw9⟩;have hE9:=hE7.b Bs2 hw9;obtain ⟨BACK,hBe⟩:∃ BACK,BACK=Px.bI d+y:=⟨_,rfl⟩;have hBK:BACK<32769:=by
          have h1:=Px.Cn d hd2;have h2:=Nat.pow_le_pow_right (n:=2) (by omega) (Px.Cl d hd2);have h3:=hy.1;omega
         have hBK1:1<=BACK:=by
          have:1<=Px.bI d:=by unfold Px.bI;split<;>omega
          omega
         rw[<- hBe];by_cases hfit2:A2+n2+Px.aE d<=8*z.length
         ·rw[Px.cA hfit2] at hb9
          have HEN:Hid (Px.Ends z a0 (Px.syS st lit dist st.out) (A2+n2+Px.aE d) (Px.St.copy { st with out:=out1 } lit dist LEN BACK (Px.ay z (A2+n2+Px.aE d))) out1):=by
           have:=Px.EV HR6.out HG2.out hd2 hfit2
           rw[<- hy.2 hfit2,<- hBe] at this;exact this
          have c2:w9.cell? ⟨b,2,none⟩=some (.bool false):=hb9.c2;have hA3:A2+n2<=A2+n2+Px.aE d:=by omega
          clear hBe hy;generalize A2+n2+Px.aE d=A3 at *;have hw92:w9.cell? ⟨s,2,none⟩=some (.int .i64 (st.window:Int)):=(hE9.sc 2 (by omega)).trans hwin2;have hc0:=hE9.oat.c0;obtain ⟨op,oc,rfl⟩:=aq hE9.oat.own;by_cases hfar:out1.length<BACK\/st.window<BACK
          ·have FA:Hid (∀ W,BAt W b v ⟨A3,false,0⟩->Calls Tryz.prog 60 #[.pointer (some ⟨b,0,none⟩),.int .i64 14] W fun r w'=>r = .returned (.tuple #[])/\BAt w' b v ⟨A3,false,14⟩/\Fr1 b W w'):=fun W hW=>cV b v _ 14 W hW rfl rfl
           have hstop:Hid (Px.Stop z a0 (Px.syS st lit dist st.out) out1 ⟨A3,false,14⟩):=by
            have q:=HEN.out;have e:Px.St.copy { st with out:=out1 } lit dist LEN BACK (Px.ay z A3) = .err 14:=by unfold Px.St.copy;rw[if_pos hfar]
            rw[e] at q;exact q.stop (by decide) hfit2
           have HB9:Hid (BAt w9 b v ⟨A3,false,0⟩/\Env w2 w9 b s k N ov (.slice op out1.length oc) out1 m):=⟨hb9,hE9⟩;by_cases hf1:out1.length<BACK
           ·have hf1i:(out1.length:Int)<(BACK:Int):=by omega
            clear hfar;go_wp2_with fail;refine (FA.out _ hb9).mono ?_;rintro r w10 ⟨rfl,hb10,hw10⟩;have hP:=FIN.out hb10 (hE9.b Bs2 hw10) (by show out1.length<=258*A3;omega) (Or.inr hstop.out);have HP:Hid _:=hP;clear hP;go_wp2
            (try simp only [Exit.inBlock,Exit.then]);refine bodyPost_ret (results_none rfl _ _ _) rfl ?_
            exact ⟨_,_,_,rfl,HP.out⟩
           ·have hf1i:(BACK:Int)<=(out1.length:Int):=by omega
            have hf2i:(st.window:Int)<(BACK:Int):=by omega
            clear hfar;go_wp2_with fail;refine (FA.out _ hb9).mono ?_;rintro r w10 ⟨rfl,hb10,hw10⟩;have hP:=FIN.out hb10 (hE9.b Bs2 hw10) (by show out1.length<=258*A3;omega) (Or.inr hstop.out);have HP:Hid _:=hP;clear hP;go_wp2
            (try simp only [Exit.inBlock,Exit.then]);refine bodyPost_ret (results_none rfl _ _ _) rfl ?_
            exact ⟨_,_,_,rfl,HP.out⟩
          ·have hle1:BACK<=out1.length:=by omega
           have hle2:BACK<=st.window:=by omega
           have HRC:Hid (Px.Run z a0 (Px.syS st lit dist st.out) A3 (Px.syS st lit dist (Px.aT (Px.ay z A3) BACK LEN out1))):=by
            have q:=HEN.out;have e:Px.St.copy { st with out:=out1 } lit dist LEN BACK (Px.ay z A3) = .ok (Px.syS st lit dist (Px.aT (Px.ay z A3) BACK LEN out1)) false:=by unfold Px.St.copy;rw[if_neg hfar]
            rw[e] at q;exact q.ok
           obtain ⟨tv,xs,ht1,ht2,ht3⟩:=hE9.kt;have hsz9:w2.heap.size<=w9.heap.size:=hE9.fr.size;have hk3f:=hE9.kat.fz 3;have hkb:=Bs2.kb;have hkw2:=Bs2.kw;have HC:Hid (∀ (j:Nat) (u:Value),[Value.int .i64 0,Value.int .i64 (LEN:Int),Value.int .i64 (BACK:Int)][j]? = some u->(w9.alloc (.cells #[.int .i64 0,.int .i64 (LEN:Int),.int .i64 (BACK:Int)] 169)).cell? (Addr.add ⟨w9.heap.size,0,none⟩ j)=some u):=uw _ _ rfl _ _ _ _;have HT2:Hid (w9.ownsRow w2.heap.size 169 3 tv m xs):=ht2;have H9:Hid (BAt w9 b v ⟨A3,false,0⟩/\Env w2 w9 b s k N ov (.slice op out1.length oc) out1 m/\(∀ g,tv.ownBlock=some g->Value.ownBlock (.slice op out1.length oc)≠some g)):=⟨hb9,hE9,ht3⟩;clear hfar HEN ht3 ht2 hb9 hE9;go_wp2_with (at_builtin;refine cT _ 132 169 3 24 (.agg #[.int .i64 0,.int .i64 0,.int .i64 0]) Tryz.underlying132 Dt rfl (by omega) rfl _ _ rfl w2.heap.size tv m xs rfl (HT2.out.alloc _) ⟨w9.heap.size,0,none⟩ 1 1 [.int .i64 0,.int .i64 (LEN:Int),.int .i64 (BACK:Int)] rfl rfl (by omega) HC.out (by intro u hu;simp at hu;rcases hu with rfl | rfl | rfl<;>rfl) (by unfold maxLen;omega) (by omega) (by simp;omega) ?_)
           intro Gb w10 ho10 hg10 hn10;obtain ⟨p10,c10,rfl⟩:=aq ho10;obtain ⟨hb9,hE9,ht3⟩:=H9.out;have ht2:=HT2.out;have hE10:=hE9.tok Bs2 ht1 ht2 ht3 hg10 ho10 (by simpa using hn10);have hFr10:Fr (fun g=>tv.ownBlock=some g) w9 w10:=((Fr.refl _ _).alloc _).grown hg10 (fun j hj=>Or.inl hj);have hb10:BAt w10 b v ⟨A3,false,0⟩:=hb9.fr hFr10 (fun e=>by have:=(ht2.lt b e).1;have:=Bs2.bN;have:=Bs2.N;omega);have hnk:¬ tv.ownBlock=some k:=fun e=>by have:=(ht2.lt k e).1;omega
           have hk3c:w10.cell? ⟨k,3,none⟩=some tv:=(hFr10.cell hE9.kat.lt hnk).trans ht1;have hk3f':w10.frozen? ⟨k,3,none⟩=false:=(hFr10.frozen hE9.kat.lt hnk).trans hk3f;have hb11:BAt (w10.setCell ⟨k,3,none⟩ (.slice p10 (m+1) c10)) b v ⟨A3,false,0⟩:=hb10.fr ((Fr1.refl _ _).set _ _) (fun e=>hkb e.symm);have H11:Hid (Env w2 (w10.setCell ⟨k,3,none⟩ (.slice p10 (m+1) c10)) b s k N ov (.slice op out1.length oc) out1 (m+1)/\BAt (w10.setCell ⟨k,3,none⟩ (.slice p10 (m+1) c10)) b v ⟨A3,false,0⟩):=⟨hE10,hb11⟩;clear hE10 hb11 hb10 hFr10 hg10 ho10 hn10 hnk ht1 hk3f hb9 hE9 ht3 ht2 HC HT2 H9;go_wp2;go_loopw [16] (fun j W=>∃ (i:Nat) (ov2:Value),j = .int .i64 (i:Int)/\i<=LEN/\BAt W b v ⟨A3,false,0⟩/\Env w2 W b s k N ov ov2 (Px.aT (Px.ay z A3) BACK i out1) (m+1)) (fun j _=>LEN - (intOf j).toNat)
           case atStart=>exact ⟨0,_,rfl,by omega,H11.out.2,H11.out.1⟩
           case round=>
            obtain ⟨i,ov2,rfl,hi,hbi,hEi⟩:=hrel;have hnei:=hEi.ne Bs2;by_cases hiL:i<LEN
            ·have hcl:=Px.qX (Px.ay z A3) BACK i out1
             have HS:Hid (Px.aT (Px.ay z A3) BACK (i+1) out1=Px.aT (Px.ay z A3) BACK i out1++[(Px.vAt (Px.aT (Px.ay z A3) BACK i out1) ((Px.aT (Px.ay z A3) BACK i out1).length - BACK),Px.ay z A3)]):=Px.yE _ _ _ _;have hC1:BACK<=(Px.aT (Px.ay z A3) BACK i out1).length:=by rw[hcl];omega
             have hC2:(Px.aT (Px.ay z A3) BACK i out1).length<4294967296:=by rw[hcl];omega
             clear hcl;generalize Px.aT (Px.ay z A3) BACK i out1=C at *;obtain ⟨p2,c2',rfl⟩:=aq hEi.oat.own;obtain ⟨g2,hp2,hv2,_⟩:=hEi.oat.zat.cells p2 c2' rfl (C.length - BACK) (by omega);subst hp2;have hc0i:=hEi.oat.c0;have hidx:((C.length:Int) - (BACK:Int)).toNat=C.length - BACK:=by omega
             have hix0:(0:Int)<=(C.length:Int) - (BACK:Int):=by omega
             have hix1:(C.length:Int) - (BACK:Int)<(C.length:Int):=by omega
             have hNi:N<=wr.heap.size:=Nat.le_trans Bs2.N hEi.fr.size;have GV:Hid (∀ W,Kept wr W->Calls Tryz.prog 103 #[.pointer (some ⟨s,0,none⟩),.pointer (some ⟨b,0,none⟩),.int .i64 (Px.vAt C (C.length - BACK):Int)] W fun r w'=>∃ ov',r = .returned (.tuple #[])/\OAt w' s N ov' (C++[(Px.vAt C (C.length - BACK),Px.ay z A3)])/\Fr (fun g=>g=s\/Value.ownBlock (.slice (some ⟨g2,0,none⟩) C.length c2')=some g) W w'/\(∀ g,ov'.ownBlock=some g->Value.ownBlock (.slice (some ⟨g2,0,none⟩) C.length c2')=some g\/W.heap.size<=g)/\(∀ j,j≠0->w'.cell? ⟨s,j,none⟩=W.cell? ⟨s,j,none⟩)):=fun W hW=>wo b s N _ v _ z C ⟨A3,false,0⟩ W (hbi.kept hW) (hzz.fr (hEi.fr.kept hW) Bs2.vz') hg (by show 0<A3;omega) hfit2 (hEi.oat.fr (S:=fun _=>False) (Fr.of_kept hW) (fun e=>e) (fun _ _ e=>e)) Bs2.sN (Nat.le_trans hNi hW.size) hC2
             have Hi:Hid (BAt wr b v ⟨A3,false,0⟩/\Env w2 wr b s k N ov (.slice (some ⟨g2,0,none⟩) C.length c2') C (m+1)):=⟨hbi,hEi⟩;generalize Px.vAt C (C.length - BACK)=VV at *;have hv3:wr.cell? ⟨g2,((C.length:Int) - (BACK:Int)).toNat*2,none⟩=some (.int .i64 (VV:Int)):=by rw[hidx];exact hv2
             have hiLi:(i:Int)<(LEN:Int):=by omega
             clear hbi hEi hidx;go_wp2;go_quiet (fail);have hKd:Hid (Kept wr (wr.drewN nq)):=(Kept.refl _).drewN nq;generalize wr.drewN nq=wd at *;go_wp2_with fail;refine (GV.out _ hKd.out).mono ?_;rintro r w12 ⟨ov12,rfl,hO12,hw12,hbk12,hsc12⟩;obtain ⟨hbi,hEi⟩:=Hi.out;have hnei:=hEi.ne Bs2;have hEd:Env w2 wd b s k N ov (.slice (some ⟨g2,0,none⟩) C.length c2') C (m+1):=hEi.b Bs2 (Fr.of_kept hKd.out);have hbd:BAt wd b v ⟨A3,false,0⟩:=hbi.kept hKd.out;have hb12:BAt w12 b v ⟨A3,false,0⟩:=hbd.fr hw12 (by rintro (h | h);exact Bs2.sb h.symm;exact hnei.1 h);have hE12:=hEd.give Bs2 hO12 hw12 hbk12 hsc12;obtain ⟨q,hq⟩:=hE12.kat.c1;have hqf:=hE12.kat.fz;have H12:Hid (Env w2 w12 b s k N ov ov12 (C++[(VV,Px.ay z A3)]) (m+1)/\BAt w12 b v ⟨A3,false,0⟩):=⟨hE12,hb12⟩;clear hE12 hb12 hO12 hsc12 hbk12 hEd hbd hbi hEi hnei;go_wp2;obtain ⟨hE12,hb12⟩:=H12.out;exact ⟨⟨i+1,ov12,by go_num,by omega,hb12.fr ((Fr1.refl _ _).set _ _) (fun e=>hkb e.symm),by rw[HS.out];exact hE12.bytes Bs2 _⟩,by simp [intOf];omega⟩
            ·have hie:Hid (i=LEN):=by show _=_;omega
             have hge:(LEN:Int)<=(i:Int):=by omega
             go_wp2;have e1:=hie.out;subst e1;have hcl:=Px.qX (Px.ay z A3) BACK i out1;refine ⟨⟨ov2,_,m+1,A3,hbi,hEi,by rw[hcl];omega,by omega,hfit2,HRC.out⟩,?_⟩;rw[bR hbi,bR hb];omega
         ·rw[Px.cM (by omega)] at hb9
          have hP:=FIN.out hb9 hE9 (by show out1.length<=258*(8*z.length);omega) (Or.inr (Px.Iv HR6.out HG2.out hd2 hfit2));have HP:Hid _:=hP;have c2:w9.cell? ⟨b,2,none⟩=some (.bool true):=hb9.c2;clear hP hy hBe;go_wp2
          (try simp only [Exit.inBlock,Exit.then]);refine bodyPost_ret (results_none rfl _ _ _) rfl ?_
          exact ⟨_,_,_,rfl,HP.out⟩
       ·have hP:=FIN.out hb7 hE7 (by show out1.length<=258*(A2+n2);omega) (Or.inr (.err A2 _ 13 (A2+n2) HR6.out (.bad rfl hbad2) rfl (by decide) hbad2.2.1))
        have HP:Hid _:=hP;clear hP;go_wp2_with fail;refine (ONF.out _ _ rfl hb7).mono ?_;rintro r w8 ⟨rfl,rfl⟩;go_wp2
        (try simp only [Exit.inBlock,Exit.then]);refine bodyPost_ret (results_none rfl _ _ _) rfl ?_
        exact ⟨_,_,_,rfl,HP.out⟩
       ·have hP:=FIN.out hb7 hE7 (by show out1.length<=258*(8*z.length);omega) (Or.inr (.cut A2 _ HR6.out (.sym rfl hcut2) rfl))
        have HP:Hid _:=hP;clear hP;go_wp2_with fail;refine (ONF.out _ _ rfl hb7).mono ?_;rintro r w8 ⟨rfl,rfl⟩;go_wp2
        (try simp only [Exit.inBlock,Exit.then]);refine bodyPost_ret (results_none rfl _ _ _) rfl ?_
        exact ⟨_,_,_,rfl,HP.out⟩
      ·rw[Px.cM (by omega)] at hb6
       have hP:=FIN.out hb6 hE6 (by show out1.length<=258*(8*z.length);omega) (Or.inr (Px.zM HR.out HG.out (by omega) hc2 hfit));have HP:Hid _:=hP;have c2:w6.cell? ⟨b,2,none⟩=some (.bool true):=hb6.c2;clear hP hx hLe;go_wp2
       (try simp only [Exit.inBlock,Exit.then]);refine bodyPost_ret (results_none rfl _ _ _) rfl ?_
       exact ⟨_,_,_,rfl,HP.out⟩
  ·have hP:=FIN.out hb4 hE4 (by show out1.length<=258*(a+n);omega) (Or.inr (.err a _ 13 (a+n) HR.out (.bad rfl hbad) rfl (by decide) hbad.2.1))
   have HP:Hid _:=hP;clear hP;go_wp2_with fail;refine (ONF.out _ _ rfl hb4).mono ?_;rintro r w5 ⟨rfl,rfl⟩;go_wp2
   (try simp only [Exit.inBlock,Exit.then]);refine bodyPost_ret (results_none rfl _ _ _) rfl ?_
   exact ⟨_,_,_,rfl,HP.out⟩
  ·have hP:=FIN.out hb4 hE4 (by show out1.length<=258*(8*z.length);omega) (Or.inr (.cut a _ HR.out (.sym rfl hcut) rfl))
   have HP:Hid _:=hP;clear hP;go_wp2_with fail;refine (ONF.out _ _ rfl hb4).mono ?_;rintro r w5 ⟨rfl,rfl⟩;go_wp2
   (try simp only [Exit.inBlock,Exit.then]);refine bodyPost_ret (results_none rfl _ _ _) rfl ?_
   exact ⟨_,_,_,rfl,HP.out⟩
