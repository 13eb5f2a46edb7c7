import Derived.Test.YtgooinallljbpaaGreatDoorSh00
import Derived.Test.YtgooinallljbpaaGreatDoorSh07
set_option linter.all false
set_option maxRecDepth 100000
set_option maxHeartbeats 0
namespace Go.Proofs.YtgooinallljbpaaGreatDoor
open Go.RowKit Px Tryz
theorem yd{α}(a b c x:α){V}(h:V=v3 a b c):∀d,d<3->wk V 2 x d=v3 a b x d:=by
 subst h;intro d e
 match d,e with
 | 0,_=>rfl
 | 1,_=>rfl
 | 2,_=>rfl
theorem dB.ext{w W P V V' F N N' pc}(h:dB w W P V F N pc)(d:∀a,a<3->V a=V' a)(g:∀a,a<3->N a=N' a):dB w W P V' F N' pc:=
 ⟨h.kept,h.base,λb c=>by rw[<-d b c];exact h.c b c,h.fz,λb c=>by rw[<-d b c,<-g b c];exact h.o b c,λb a i c e j f=>by rw[<-d a e];rw[<-d b c] at f;exact h.dis b a i c e j f,h.rest⟩
theorem GX(b fb mb g cr cl E A:Nat)(pr pl:Option Addr)(G:Hd)(ls:List Ln)(hc:Bool)(pal clr:List Nat)(pw qw:Value)(dn DN:Bool)(w:World)(b2:w.cell? ⟨b,2,none⟩=some (.pointer (some ⟨fb,0,none⟩)))(b3:w.cell? ⟨b,3,none⟩=some (.pointer (some ⟨mb,0,none⟩)))(b4:w.cell? ⟨b,4,none⟩=some (.int .i64 E))(b5:w.cell? ⟨b,5,none⟩=some (.int .i64 A))(f0:w.cell? ⟨fb,0,none⟩=some (.bool true))(f1:w.cell? ⟨fb,1,none⟩=some (.int .i64 G.W))(f2:w.cell? ⟨fb,2,none⟩=some (.int .i64 G.H))(f5:w.cell? ⟨fb,5,none⟩=some (.int .i64 G.L))(f14:w.cell? ⟨fb,14,none⟩=some (.bool dn))(q:ShQ w fb mb g cr cl pr pl G ls hc pal clr pw qw)(hDN:(dn=false/\DN=false)\/(dn=true/\((E:Int)==0)=DN)):Calls prog 20 #[.pointer (some ⟨b,0,none⟩)] w λr w'=>(∃vk vp vs,r=.returned (snV E A DN G vk vp vs)/\w'.ownsRow w.heap.size 3 1 vk (G.W*G.H) (fL (fkQ G (dQ G ls)) (G.W*G.H))/\w'.ownsRow w.heap.size 3 1 vp (4*(G.W*G.H)) (fL (fpQ G (dQ G ls) (dI G hc pal clr)) (4*(G.W*G.H)))/\w'.ownsRow w.heap.size 3 1 vs (4*(G.W*G.H)) (fL (fsQ G (dQ G ls) (dI G hc pal clr)) (4*(G.W*G.H))))/\Kept w w':=by
 have hbl:b<w.heap.size:=B _ _ b2;have hfl:fb<w.heap.size:=B _ _ f0;have f3:=q.f.c3;have f4:=q.f.c4;have hW:=q.hd.W;have hH:=q.hd.H;have HI:Z (∀W,Kept w W->ShQ W fb mb g cr cl pr pl G ls hc pal clr pw qw):=λW hW=>q.kept hW
 obtain⟨FF,hFF⟩:∃FF,FF=v3 (fkQ G (dQ G ls)) (fpQ G (dQ G ls) (dI G hc pal clr)) (fsQ G (dQ G ls) (dI G hc pal clr)):=⟨_,rfl⟩;have HF0:Z (FF 0=fkQ G (dQ G ls)):=by show _=_;rw[hFF];rfl
 have HF1:Z (FF 1=fpQ G (dQ G ls) (dI G hc pal clr)):=by show _=_;rw[hFF];rfl
 have HF2:Z (FF 2=fsQ G (dQ G ls) (dI G hc pal clr)):=by show _=_;rw[hFF];rfl
 clear hFF;obtain⟨w1,hw1⟩:∃w1,w1=w.alloc (.cells #[.int .i64 0,.int .i64 0,.bool false,.int .i64 0,.int .i64 0,.int .i64 0,.int .i64 0,.int .i64 0,.slice none 0 0,.slice none 0 0,.slice none 0 0] 32):=⟨_,rfl⟩;have HT0:Z (dB w1 ((w1.alloc (.cells #[.int .i64 E,.int .i64 A,.bool DN,.int .i64 G.W,.int .i64 G.H,.int .i64 G.K,.int .i64 G.D,.int .i64 G.L,.slice none 0 0,.slice none 0 0,.slice none 0 0] 32)).drew) (w.heap.size+1) (v3 (.slice none 0 0) (.slice none 0 0) (.slice none 0 0)) FF (v3 0 0 0) (pcQ E A DN G)):=NU w1 (w.heap.size+1) E A DN G FF _ _ (by rw[hw1];simp) rfl;obtain⟨PC,hPC⟩:∃PC,PC=pcQ E A DN G:=⟨_,rfl⟩;rw[<-hPC] at HT0;have HPC:Z (PC=pcQ E A DN G):=hPC;clear hPC;have HK1:Z (Kept w w1):=by rw[hw1];exact(Xs _ _).alloc (Nat.le_refl _) _
 have HR:Z (∀W,Kept w1 W->(∀j,j<11->∃v,W.cell? ⟨w.heap.size,j,none⟩=some v)/\(∀j,W.frozen? ⟨w.heap.size,j,none⟩=false)):=by
  intro W hW;have hlt:w.heap.size<w1.heap.size:=by rw[hw1];simp
  refine⟨λj hj => ?_,λj => ?_⟩
  .rw[hW.cell (p:=⟨w.heap.size,j,none⟩) hlt,hw1,Xr _ _ _ _ rfl]
   exact zO j hj
  .rw[hW.frozen (p:=⟨w.heap.size,j,none⟩) hlt,hw1]
   exact XB _ _ _ _ rfl
 have HC:Z (∀W,Kept w1 W->W.cell? ⟨b,3,none⟩=some (.pointer (some ⟨mb,0,none⟩))/\ShQ W fb mb g cr cl pr pl G ls hc pal clr pw qw):=λW hW=>
  ⟨((HK1.o.trans hW).cell (p:=⟨b,3,none⟩) hbl).trans b3,HI.o W (HK1.o.trans hW)⟩
 clear q b3 HI;have HDN:=hDN;clear hDN;rcases HDN with⟨rfl,rfl⟩|⟨rfl,hE⟩
 all_goals
  go_enter func20,ntmps20;go_wp2;go_region
  go_wp2;rw[<-hw1];replace hw1:Z _:=hw1;clear b2 b4 b5 f0 f1 f2 f3 f4 f5 f14;go_loopw [4] (λj W=>∃(y:Nat) (va vb vc:Value),y<=G.H/\j=.int .i64 y/\dB w1 W (w.heap.size+1) (v3 va vb vc) FF (v3 (y*G.W) (4*(y*G.W)) (4*(y*G.W))) PC) (λj _=>G.H-(intOf j).toNat)
  case atStart=>exact⟨0,_,_,_,O,rfl,by simpa using HT0.o⟩
  case round=>
   obtain⟨y,va,vb,vc,hy,rfl,T⟩:=hrel;have k4:wr.cell? ⟨w.heap.size+1,4,none⟩=some (.int .i64 G.H):=by have:=T.rest 4 O;rw[HPC.o] at this;exact this
   by_cases hlt:y<G.H
   .go_wp2
    go_loopw [5] (λj W=>∃(x:Nat) (va vb vc:Value),x<=G.W/\j=.int .i64 x/\dB w1 W (w.heap.size+1) (v3 va vb vc) FF (v3 (y*G.W+x) (4*(y*G.W+x)) (4*(y*G.W+x))) PC) (λj _=>G.W-(intOf j).toNat)
    case atStart=>exact⟨0,va,vb,vc,O,rfl,T⟩
    case round=>
     clear T;obtain⟨x,ua,ub,uc,hx,rfl,T⟩:=hrel;have k3:wr.cell? ⟨w.heap.size+1,3,none⟩=some (.int .i64 G.W):=by have:=T.rest 3 O;rw[HPC.o] at this;exact this
     by_cases hlx:x<G.W
     .have hc3:=HC.o _ T.kept
      have b3:=hc3.1;have hT:=T.lt;have hn:y*G.W+x<256:=by
       have h1:(y+1)*G.W<=16*16:=XF O hW;rw[YO,Zi] at h1;omega
      have ap:=Oz (y:=y) hlx;have FKN:Z (Calls prog 32 _ _ _):=Ce fb mb g cr cl x y pr pl G ls hc pal clr pw qw _ hc3.2 hlx hlt;have HFS:Z (∀j,j<4->FF 2 (4*(y*G.W+x)+j)=shQ G (dQ G ls) (dI G hc pal clr) x y (aq G.L) j):=λj hj=>by
       rw[HF2.o];unfold fsQ;rw[(tM hj).1,(tM hj).2,ap.1,ap.2]
      have HFP:Z (∀j,j<4->FF 1 (4*(y*G.W+x)+j)=opC (dI G hc pal clr) (knQ G (dQ G ls) x y (aq G.L)) j):=λj hj=>by
       rw[HF1.o];unfold fpQ;rw[(tM hj).1,(tM hj).2,ap.1,ap.2]
      have HFK':Z (FF 0 (y*G.W+x)=opK (knQ G (dQ G ls) x y (aq G.L))):=by
       show _=_
       rw[HF0.o];unfold fkQ;rw[ap.1,ap.2]
      clear hc3 ap;go_wp2_with fail;refine FKN.o.mono ?_;intro r w2 hr;generalize knQ G (dQ G ls) x y (aq G.L)=KQ at *;cases KQ with
      | none=>
       obtain⟨rfl,hk2⟩:=hr;have HFK:Z (FF 0 (y*G.W+x)=0):=HFK'.o;have T2:=T.keep hk2;have k8:=T2.c 0 O;have kf:=T2.fz;have hw2:=T2.lt;have T3:Z (dB w1 (w2.alloc (.cells #[.int .i64 0] 3)) (w.heap.size+1) (v3 ua ub uc) FF (v3 (y*G.W+x) (4*(y*G.W+x)) (4*(y*G.W+x))) PC):=T2.keep ((Xs _ _).alloc (Nat.le_refl _) _);clear T2 T hk2 FKN b3 k3 k4;go_wp2_with (at_builtin;(refine gJ _ rfl _ _ rfl (w.heap.size+1+1) _ _ _ rfl (T3.o.o 0 O) w2.heap.size 1 1 rfl O ?c1 ?c2 ?c3 ?_))
       case c1=>
        intro j hj
        match j,hj with
        | 0,_=>rw[Xr _ _ _ _ rfl];show some (Value.int .i64 0)=some (.int .i64 (FF 0 (y*G.W+x)));rw[HFK.o]
       case c2=>show y*G.W+x+1<=1048576;omega
       case c3=>simp;omega
       intro v1 w3 o1 g1 n1;obtain⟨p1,q1,rfl⟩:=ak o1;have T4:dB w1 (w3.setCell ⟨w.heap.size+1,8,none⟩ (.slice p1 (y*G.W+x+1) q1)) (w.heap.size+1) (v3 (.slice p1 (y*G.W+x+1) q1) ub uc) FF (v3 (y*G.W+x+1) (4*(y*G.W+x)) (4*(y*G.W+x))) PC:=by
        have:=T3.o.app (t:=0) (m:=1) O o1 g1 (λk hk=>(n1 k hk).imp_right (λh=>by first|exact h|(simp;omega)))
        rw[yf,yf] at this;exact this
       obtain⟨bl1,bl2,hsz3⟩:=T3.o.blk (t:=0) O g1;have hP3:=bl1 8 _ (T3.o.c 0 O);have hF3:=bl2 8;have hP9:=bl1 9 _ (T3.o.c 1 O);have T5:Z (dB w1 ((w3.setCell ⟨w.heap.size+1,8,none⟩ (.slice p1 (y*G.W+x+1) q1)).alloc (.cells #[.int .i64 0,.int .i64 0,.int .i64 0,.int .i64 0] 3)) (w.heap.size+1) (v3 (.slice p1 (y*G.W+x+1) q1) ub uc) FF (v3 (y*G.W+x+1) (4*(y*G.W+x)) (4*(y*G.W+x))) PC):=T4.keep ((Xs _ _).alloc (Nat.le_refl _) _);have HG:Z (∀j,j<4->((w3.setCell ⟨w.heap.size+1,8,none⟩ (.slice p1 (y*G.W+x+1) q1)).alloc (.cells #[.int .i64 0,.int .i64 0,.int .i64 0,.int .i64 0] 3)).cell? ⟨w3.heap.size,j,none⟩=some (.int .i64 (FF 1 (4*(y*G.W+x)+j)))):=λj hj=>by
        rw[HFP.o j hj,Xr _ _ _ _ Xi]
        match j,hj with
        | 0,_=>rfl
        | 1,_=>rfl
        | 2,_=>rfl
        | 3,_=>rfl
       clear k8 kf o1 g1 n1 T3 T4 bl1 bl2;go_wp2_with (at_builtin;(refine gJ _ rfl _ _ rfl (w.heap.size+1+1) _ _ _ rfl (T5.o.o 1 O) _ 4 4 rfl O ?d1 ?d2 ?d3 ?_))
       case d1=>exact HG.o
       case d2=>show 4*(y*G.W+x)+4<=1048576;omega
       case d3=>first|omega|(simp;omega)
       intro v2 w5 o2 g2 n2;obtain⟨p2,q2,rfl⟩:=ak o2;have T6:Z (dB w1 (w5.setCell ⟨w.heap.size+1,9,none⟩ (.slice p2 (4*(y*G.W+x)+4) q2)) (w.heap.size+1) (v3 (.slice p1 (y*G.W+x+1) q1) (.slice p2 (4*(y*G.W+x)+4) q2) uc) FF (v3 (y*G.W+x+1) (4*(y*G.W+x)+4) (4*(y*G.W+x))) PC):=by
        have:=T5.o.app (t:=1) (m:=4) O o2 g2 (λk hk=>(n2 k hk).imp_right (λh=>by first|exact h|(simp;omega)))
        rw[ye,ye] at this;exact this
       obtain⟨bl1,bl2,hsz5⟩:=T5.o.blk (t:=1) O g2;have r9:=bl1 9 _ (T5.o.c 1 O);have rf9:=bl2 9;have hc6:=HC.o _ T6.o.kept;have b3:w5.cell? ⟨b,3,none⟩=some (.pointer (some ⟨mb,0,none⟩)):=by
        rw[<-hc6.1];exact(Yl _ _ _ _ (by intro e;injection e;omega)).symm
       have FSH:Z (Calls prog 33 _ _ _):=tS fb mb g cr cl x y pr pl G ls hc pal clr pw qw _ hc6.2 hlx hlt;clear hc6 T5 o2 g2 n2 bl1 bl2 HG;go_wp2_with fail;refine FSH.o.mono ?_;rintro r w6 ⟨gs,rfl,hz,hk6⟩;have T7:Z (dB w1 w6 (w.heap.size+1) (v3 (.slice p1 (y*G.W+x+1) q1) (.slice p2 (4*(y*G.W+x)+4) q2) uc) FF (v3 (y*G.W+x+1) (4*(y*G.W+x)+4) (4*(y*G.W+x))) PC):=T6.o.keep hk6;have s10:=T7.o.c 2 O;have hsz6:=T7.o.lt;have HZ:Z (∀j,j<4->w6.cell? ⟨gs,j,none⟩=some (.int .i64 (FF 2 (4*(y*G.W+x)+j)))):=λj hj=>by
        rw[HFS.o j hj];exact hz j hj
       clear hk6 T6 b3 rf9 r9 hz FSH;go_wp2_with (at_builtin;(refine gJ _ rfl _ _ rfl (w.heap.size+1+1) _ _ _ rfl (T7.o.o 2 O) gs 4 4 rfl O ?f1 ?f2 ?f3 ?_))
       case f1=>exact HZ.o
       case f2=>show 4*(y*G.W+x)+4<=1048576;omega
       case f3=>omega
       intro v4 w7 o3 g3 n3;obtain⟨p3,q3,rfl⟩:=ak o3;have T8:Z (dB w1 (w7.setCell ⟨w.heap.size+1,10,none⟩ (.slice p3 (4*(y*G.W+x)+4) q3)) (w.heap.size+1) (v3 (.slice p1 (y*G.W+x+1) q1) (.slice p2 (4*(y*G.W+x)+4) q2) (.slice p3 (4*(y*G.W+x)+4) q3)) FF (v3 (y*G.W+x+1) (4*(y*G.W+x)+4) (4*(y*G.W+x)+4)) PC):=by
        have:=T7.o.app (t:=2) (m:=4) O o3 g3 n3
        exact this.ext (yd _ _ _ _ rfl) (yd _ _ _ _ rfl)
       obtain⟨bl1,bl2,hsz7⟩:=T7.o.blk (t:=2) O g3;have r10:=bl1 10 _ (T7.o.c 2 O);have rf10:=bl2 10;clear T7 o3 g3 n3 bl1 bl2 HZ s10;go_wp2;exact⟨⟨x+1,_,_,_,O,Xj,T8.o⟩,Xb⟩
      | some v=>
       obtain⟨gc,rfl,hgc,hcs,hk2⟩:=hr;have hne:Z (some gc≠(v3 ua ub uc 0).ownBlock):=λe=>by have:=((T.o 0 O).lt gc e.symm).2;omega
       have hgP:w.heap.size+1<gc:=Xq hT hgc;have HFK:Z (FF 0 (y*G.W+x)=1):=HFK'.o;have T2:=T.keep hk2;have k8:=T2.c 0 O;have kf:=T2.fz;have hw2:=T2.lt;have T3:Z (dB w1 (w2.alloc (.cells #[.int .i64 1] 3)) (w.heap.size+1) (v3 ua ub uc) FF (v3 (y*G.W+x) (4*(y*G.W+x)) (4*(y*G.W+x))) PC):=T2.keep ((Xs _ _).alloc (Nat.le_refl _) _);have HCS:Z (∀j,j<4->w2.cell? ⟨gc,j,none⟩=some (.int .i64 (FF 1 (4*(y*G.W+x)+j)))):=λj hj=>by
        rw[HFP.o j hj];exact hcs j hj
       clear T2 T hk2 FKN b3 k3 k4 hcs;go_wp2_with (at_builtin;(refine gJ _ rfl _ _ rfl (w.heap.size+1+1) _ _ _ rfl (T3.o.o 0 O) w2.heap.size 1 1 rfl O ?c1 ?c2 ?c3 ?_))
       case c1=>
        intro j hj
        match j,hj with
        | 0,_=>rw[Xr _ _ _ _ rfl];show some (Value.int .i64 1)=some (.int .i64 (FF 0 (y*G.W+x)));rw[HFK.o]
       case c2=>show y*G.W+x+1<=1048576;omega
       case c3=>simp;omega
       intro v1 w3 o1 g1 n1;obtain⟨p1,q1,rfl⟩:=ak o1;have T4:dB w1 (w3.setCell ⟨w.heap.size+1,8,none⟩ (.slice p1 (y*G.W+x+1) q1)) (w.heap.size+1) (v3 (.slice p1 (y*G.W+x+1) q1) ub uc) FF (v3 (y*G.W+x+1) (4*(y*G.W+x)) (4*(y*G.W+x))) PC:=by
        have:=T3.o.app (t:=0) (m:=1) O o1 g1 (λk hk=>(n1 k hk).imp_right (λh=>by first|exact h|(simp;omega)))
        rw[yf,yf] at this;exact this
       obtain⟨bl1,bl2,hsz3⟩:=T3.o.blk (t:=0) O g1;have hP3:=bl1 8 _ (T3.o.c 0 O);have hF3:=bl2 8;have hP9:=bl1 9 _ (T3.o.c 1 O);have T5:Z (dB w1 (w3.setCell ⟨w.heap.size+1,8,none⟩ (.slice p1 (y*G.W+x+1) q1)) (w.heap.size+1) (v3 (.slice p1 (y*G.W+x+1) q1) ub uc) FF (v3 (y*G.W+x+1) (4*(y*G.W+x)) (4*(y*G.W+x))) PC):=T4;have HG:Z (∀j,j<4->(w3.setCell ⟨w.heap.size+1,8,none⟩ (.slice p1 (y*G.W+x+1) q1)).cell? ⟨gc,j,none⟩=some (.int .i64 (FF 1 (4*(y*G.W+x)+j)))):=λj hj=>by
        have hl:gc<w2.heap.size:=B _ _ (HCS.o 0 O);rw[Yl _ _ _ _ (by intro e;injection e;omega),XK (g1.block gc Xf hne.o),<-HCS.o j hj];exact XK (YR _ _ _ hl)
       clear k8 kf o1 g1 n1 T3 T4 bl1 bl2;go_wp2_with (at_builtin;(refine gJ _ rfl _ _ rfl (w.heap.size+1+1) _ _ _ rfl (T5.o.o 1 O) _ 4 4 rfl O ?d1 ?d2 ?d3 ?_))
       case d1=>exact HG.o
       case d2=>show 4*(y*G.W+x)+4<=1048576;omega
       case d3=>first|omega|(simp;omega)
       intro v2 w5 o2 g2 n2;obtain⟨p2,q2,rfl⟩:=ak o2;have T6:Z (dB w1 (w5.setCell ⟨w.heap.size+1,9,none⟩ (.slice p2 (4*(y*G.W+x)+4) q2)) (w.heap.size+1) (v3 (.slice p1 (y*G.W+x+1) q1) (.slice p2 (4*(y*G.W+x)+4) q2) uc) FF (v3 (y*G.W+x+1) (4*(y*G.W+x)+4) (4*(y*G.W+x))) PC):=by
        have:=T5.o.app (t:=1) (m:=4) O o2 g2 (λk hk=>(n2 k hk).imp_right (λh=>by first|exact h|(simp;omega)))
        rw[ye,ye] at this;exact this
       obtain⟨bl1,bl2,hsz5⟩:=T5.o.blk (t:=1) O g2;have r9:=bl1 9 _ (T5.o.c 1 O);have rf9:=bl2 9;have hc6:=HC.o _ T6.o.kept;have b3:w5.cell? ⟨b,3,none⟩=some (.pointer (some ⟨mb,0,none⟩)):=by
        rw[<-hc6.1];exact(Yl _ _ _ _ (by intro e;injection e;omega)).symm
       have FSH:Z (Calls prog 33 _ _ _):=tS fb mb g cr cl x y pr pl G ls hc pal clr pw qw _ hc6.2 hlx hlt;clear hc6 T5 o2 g2 n2 bl1 bl2 HG;go_wp2_with fail;refine FSH.o.mono ?_;rintro r w6 ⟨gs,rfl,hz,hk6⟩;have T7:Z (dB w1 w6 (w.heap.size+1) (v3 (.slice p1 (y*G.W+x+1) q1) (.slice p2 (4*(y*G.W+x)+4) q2) uc) FF (v3 (y*G.W+x+1) (4*(y*G.W+x)+4) (4*(y*G.W+x))) PC):=T6.o.keep hk6;have s10:=T7.o.c 2 O;have hsz6:=T7.o.lt;have HZ:Z (∀j,j<4->w6.cell? ⟨gs,j,none⟩=some (.int .i64 (FF 2 (4*(y*G.W+x)+j)))):=λj hj=>by
        rw[HFS.o j hj];exact hz j hj
       clear hk6 T6 b3 rf9 r9 hz FSH;go_wp2_with (at_builtin;(refine gJ _ rfl _ _ rfl (w.heap.size+1+1) _ _ _ rfl (T7.o.o 2 O) gs 4 4 rfl O ?f1 ?f2 ?f3 ?_))
       case f1=>exact HZ.o
       case f2=>show 4*(y*G.W+x)+4<=1048576;omega
       case f3=>omega
       intro v4 w7 o3 g3 n3;obtain⟨p3,q3,rfl⟩:=ak o3;have T8:Z (dB w1 (w7.setCell ⟨w.heap.size+1,10,none⟩ (.slice p3 (4*(y*G.W+x)+4) q3)) (w.heap.size+1) (v3 (.slice p1 (y*G.W+x+1) q1) (.slice p2 (4*(y*G.W+x)+4) q2) (.slice p3 (4*(y*G.W+x)+4) q3)) FF (v3 (y*G.W+x+1) (4*(y*G.W+x)+4) (4*(y*G.W+x)+4)) PC):=by
        have:=T7.o.app (t:=2) (m:=4) O o3 g3 n3
        exact this.ext (yd _ _ _ _ rfl) (yd _ _ _ _ rfl)
       obtain⟨bl1,bl2,hsz7⟩:=T7.o.blk (t:=2) O g3;have r10:=bl1 10 _ (T7.o.c 2 O);have rf10:=bl2 10;clear T7 o3 g3 n3 bl1 bl2 HZ s10;go_wp2;exact⟨⟨x+1,_,_,_,O,Xj,T8.o⟩,Xb⟩
     .go_wp2
      have hxe:x=G.W:=O;have T':dB w1 wr (w.heap.size+1) (v3 ua ub uc) FF (v3 ((y+1)*G.W) (4*((y+1)*G.W)) (4*((y+1)*G.W))) PC:=by
       rw[show(y+1)*G.W=y*G.W+x from by rw[YO,Zi,hxe]];exact T
      exact⟨⟨y+1,ua,ub,uc,O,Xj,T'⟩,Xb⟩
   .have r:=HR.o _ T.kept
    have rf:=r.2;obtain⟨v0,e0⟩:=r.1 0 O;obtain⟨v1,e1⟩:=r.1 1 O;obtain⟨v2,e2⟩:=r.1 2 O;obtain⟨v3',e3⟩:=r.1 3 O;obtain⟨v4,e4⟩:=r.1 4 O;obtain⟨v5,e5⟩:=r.1 5 O;obtain⟨v6,e6⟩:=r.1 6 O;obtain⟨v7,e7⟩:=r.1 7 O;obtain⟨v8,e8⟩:=r.1 8 O;obtain⟨v9,e9⟩:=r.1 9 O;obtain⟨J0,e10⟩:=r.1 10 O;have kr:=T.rest;rw[HPC.o] at kr;have k0:=kr 0 O;have k1:=kr 1 O;have k2:=kr 2 O;have k3:=kr 3 O;have k5:=kr 5 O;have k6:=kr 6 O;have k7:=kr 7 O;unfold pcQ at k0 k1 k2 k3 k5 k6 k7;obtain⟨pa,ca,ha⟩:=ak (T.o 0 O);obtain⟨pb,cb,hb⟩:=ak (T.o 1 O);obtain⟨pc',cc,hcc⟩:=ak (T.o 2 O);have k8:=T.c 0 O;have k9:=T.c 1 O;have k10:=T.c 2 O;have hye:y=G.H:=O;have HY:Z (y=G.H):=hye;replace ha:va=.slice pa (y*G.W) ca:=ha;replace hb:vb=.slice pb (4*(y*G.W)) cb:=hb;replace hcc:vc=.slice pc' (4*(y*G.W)) cc:=hcc;subst ha hb hcc;replace k8:wr.cell? ⟨w.heap.size+1,8,none⟩=some (.slice pa (y*G.W) ca):=k8;replace k9:wr.cell? ⟨w.heap.size+1,9,none⟩=some (.slice pb (4*(y*G.W)) cb):=k9;replace k10:wr.cell? ⟨w.heap.size+1,10,none⟩=some (.slice pc' (4*(y*G.W)) cc):=k10;have hT:=T.lt;have HTT:Z (dB w1 wr (w.heap.size+1) _ _ _ _):=T;clear T r kr hye;go_wp2;have hmul:y*G.W=G.W*G.H:=by rw[HY.o,Zk]
    refine XA (v:=snV E A _ G (.slice pa (y*G.W) ca) (.slice pb (4*(y*G.W)) cb) (.slice pc' (4*(y*G.W)) cc)) (by simp[results,results20,go_sem,e0,e1,e2,e3,e4,e5,e6,e7,e8,e9,e10];first|rfl|done) rfl ⟨⟨_,_,_,rfl,?_,?_,?_⟩,?_⟩
    .rw[<-hmul,<-HF0.o];exact rz (HTT.o.o 0 O) O
    .rw[<-hmul,<-HF1.o];exact rz (HTT.o.o 1 O) O
    .rw[<-hmul,<-HF2.o];exact rz (HTT.o.o 2 O) O
    .have hk:Kept w wr:=HK1.o.trans HTT.o.kept
     exact(((((((((((hk.setCell (Nat.le_refl _) _).setCell (Nat.le_refl _) _).setCell (Nat.le_refl _) _).setCell (Nat.le_refl _) _).setCell (Nat.le_refl _) _).setCell (Nat.le_refl _) _).setCell (Nat.le_refl _) _).setCell (Nat.le_refl _) _).setCell (Nat.le_refl _) _).setCell (Nat.le_refl _) _).setCell (Nat.le_refl _) _)
