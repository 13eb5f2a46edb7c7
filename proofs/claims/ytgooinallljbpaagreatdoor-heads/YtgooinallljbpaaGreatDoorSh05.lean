import Derived.Test.YtgooinallljbpaaGreatDoorSh00
import Derived.Test.YtgooinallljbpaaGreatDoorSh04
import Derived.Test.YtgooinallljbpaaGreatDoorSh01
import Derived.Deep.AppendLies
import Derived.Deep.RegionLaw
import Derived.Deep.CutBlock
import Derived.Deep.CutRange
set_option linter.all false
set_option maxRecDepth 100000
set_option maxHeartbeats 0
namespace Go.Proofs.YtgooinallljbpaaGreatDoor
open Go.RowKit Tryz
theorem DO:(prog.info? 169).map (λi=>(i.zero,i.size,i.bytes))=some (some (.agg #[.int .i64 0,.int .i64 0,.int .i64 0]),3,24):=Xk
theorem qu.mono{S T:Nat->Prop}{w B l}(h:qu w B l S)(c:∀a,T a->S a):qu w B l T:=by
 obtain⟨e,f,g,i,j,k,m,n⟩:=h.ex;exact⟨⟨e,f,g,i,j,k,λa d b=>m a d (c a b),λa d b=>n a d (c a b)⟩,λb=>h.o (c B b)⟩
theorem qu.kept{S:Nat->Prop}{w w' B l}(h:qu w B l S)(k:Kept w w'):qu w' B l S:=by
 obtain⟨c,d,a,e,f,g,i,j⟩:=h.ex;have b:=World.block_lt_of_cell? _ _ a;exact⟨⟨c,d,(k.cell (p:=⟨B,0,none⟩) b).trans a,(k.cell (p:=⟨B,1,none⟩) b).trans e,f.kept k,g.kept k,i,j⟩,h.o⟩
theorem Base.kept{w w' b s k N v ov}(h:Base w b s k N v ov)(q:Kept w w'):Base w' b s k N v ov:=
 ⟨λa c=>by obtain⟨d,e,f,g,i⟩:=h.vz a c;exact⟨d,e,f,g,Xq i q.size⟩,h.bN,h.sN,Xz h.N q.size,Xq h.kw q.size,h.sb,h.kb,h.ks,h.ko⟩
theorem qn(W:World)n(e:n=W.heap.size)a b c t:∀(j:Nat) (f:Value),[a,b,c][j]? = some f->(W.alloc (.cells #[a,b,c] t)).cell? (Addr.add ⟨n,0,none⟩ j)=some f:=by
 subst e;intro j f d
 match j,d with
 | 0,d=>simp at d;subst d;simp[Addr.add]
 | 1,d=>simp at d;subst d;simp[Addr.add]
 | 2,d=>simp at d;subst d;simp[Addr.add]
 | j+3,d=>simp at d
theorem IB:(List.range 29).all (λc=>decide (Px.bD (c+257)+2^Px.aK (c+257)<=259/\3<=Px.bD (c+257)))=true:=Xh
theorem OW c x(a:257<=c)(b:c<=285)(d:x<2^Px.aK c):Px.bD c+x<=258:=by
 have:=Yr (Za.1 IB (c-257) (Yi.2 O))
 rw[show c-257+257=c from O] at this;omega
theorem Env.again{w w' b s k N v ov out}(h:Env w w b s k N ov ov out 0)(g:Base w b s k N v ov)(q:Kept w w')(e:w.cell? ⟨k,3,none⟩=some (.slice none 0 0)):Env w' w' b s k N ov ov out 0:=by
 have d:=h.kat.lt;refine⟨h.oat.fr (S:=λ_=>False) (Fr.of_kept q) (λa=>a) (λ_ _ a=>a),λ_ _=>rfl,h.kat.same (q.block k d),λ_ _ _=>rfl,⟨.slice none 0 0,[],(q.cell (p:=⟨k,3,none⟩) d).trans e,XR _ _ _ _,λf c=>by cases c⟩,Fr.refl _ _,λf c=>L c⟩
theorem Env.back{w w' W b s k N v ov ov1 out1 m}(h:Env w' W b s k N ov ov1 out1 m)(f:Base w b s k N v ov)(g:s<w.heap.size)(q:Kept w w'):Env w W b s k N ov ov1 out1 m:=by
 refine⟨h.oat,λa i=>(h.sc a i).trans (q.cell (p:=⟨s,a,none⟩) g),h.kat,λa c d=>(h.kc a c d).trans (q.cell (p:=⟨k,a,none⟩) f.kw),?_,(Fr.of_kept q).trans h.fr,λj l => ?_⟩
 .obtain⟨n,o,c,r,d⟩:=h.kt
  exact⟨n,o,c,lU r q.size,d⟩
 .rcases h.blk j l with e|e
  .exact L e
  .exact R (Xz q.size e)
theorem FM b s k N v ov lv dv z a0 st lit dist w(h:BAt w b v ⟨a0,false,0⟩)(o0:ZAt w v z)(x:Px.good z)(o1:a0<=8*z.length)(c8:Base w b s k N v ov)(g8:Env w w b s k N ov ov st.o 0)(o2:w.cell? ⟨k,3,none⟩=some (.slice none 0 0))(o3:w.cell? ⟨s,2,none⟩=some (.int .i64 st.window))(r7:st.window<=32768)(o4:st.o.length<=258*a0)(g9:IAt w lv lit)(h0:IAt w dv dist)(h1:Px.bS lit)(h2:Px.bS dist)(h3:∀a,ae lv=some a->a≠b/\a≠s/\a≠k/\ov.ownBlock≠some a/\a<w.heap.size)(h4:∀a,ae dv=some a->a≠b/\a≠s/\a≠k/\ov.ownBlock≠some a/\a<w.heap.size):Calls prog 65 #[.pointer (some ⟨s,0,none⟩),.pointer (some ⟨b,0,none⟩),.pointer (some ⟨k,0,none⟩),lv,dv] w λe l=>∃Y a1 y,e=.returned (.tuple #[])/\qq w b s k N v ov z a0 (Px.syS st lit dist st.o) st l Y a1 y:=by
 have r8:=x.2.1;have e6:∀a,ae v=some a->a≠b:=λa x=>(c8.vz a x).1
 have k3:s<w.heap.size:=B _ _ g8.oat.c0;have r9:=h.lt;have h5:∀a,(a≠b/\a≠s/\a≠k/\ov.ownBlock≠some a/\a<w.heap.size)->¬(a=b\/a=s\/a=k\/ov.ownBlock=some a):=by
  rintro a ⟨e7,e8,e9,h6,_⟩ (f|f|f|f)
  .exact e7 f
  .exact e8 f
  .exact e9 f
  .exact h6 f
 have h7:∀a,w.heap.size<=a->¬(a=b\/a=s\/a=k\/ov.ownBlock=some a):=by
  rintro a x (f|f|f|f)
  .omega
  .omega
  .have:=c8.kw;omega
  .have:=(g8.oat.own.lt a f).2;omega
 have k4:Z (Calls prog 104 #[lv] w λe l=>∃c9,e=.returned (.pointer (some ⟨c9,0,none⟩))/\qu l c9 lit (λa=>a=b\/a=s\/a=k\/ov.ownBlock=some a)/\Kept w l):=dK lv lit _ w g9 h1 (λa x=>h5 a (h3 a x)) h7 (λa x=>(h3 a x).2.2.2.2);have k5:Z (∀d,Kept w d->Calls prog 104 #[dv] d λe l=>∃c9,e=.returned (.pointer (some ⟨c9,0,none⟩))/\qu l c9 dist (λa=>a=b\/a=s\/a=k\/ov.ownBlock=some a)/\Kept d l):=λd U=>dK dv dist _ d (h0.kept U) h2 (λa x=>h5 a (h4 a x)) (λa x=>h7 a (Xz U.size x)) (λa x=>Xq (h4 a x).2.2.2.2 U.size)
 obtain⟨s0,s1,rfl⟩:=g9.form;obtain⟨s2,s3,rfl⟩:=h0.form;clear h3 h4 h5 h7;go_enter func65,ntmps65;go_wp2_with fail;refine k4.o.mono ?_;rintro e s4 ⟨o5,rfl,k6,h8⟩;go_wp2_with fail;refine(k5.o _ h8).mono ?_;rintro e P ⟨o6,rfl,o7,h9⟩;have b9:=h8.trans h9;have o8:=k6.kept h9;have i:=c8.kept b9;have c0:=o0.fr (S:=λ_=>False) (Fr.of_kept b9) (λ_ _ f=>f);have k7:∀{d:World} {Y:Value} {a1:List Px.One} {t:Nat} {y:Px.Bt},BAt d b v y->Env P d b s k N ov Y a1 t->a1.length<=258*y.a->((y.cut=false/\y.err=0/\y.a<=8*z.length/\∃i0,Px.Ends z a0 (Px.syS st lit dist st.o) y.a (Px.ebS st a1) i0)\/Px.Stop z a0 (Px.syS st lit dist st.o) a1 y)->qq w b s k N v ov z a0 (Px.syS st lit dist st.o) st d Y a1 y:=λe7 e8 e9 h6=>⟨e7,⟨_,e8.back c8 k3 b9⟩,e9,h6⟩
 have a3:Z (∀{d:World} {Y:Value} {a1:List Px.One} {t:Nat} {y:Px.Bt},BAt d b v y->Env P d b s k N ov Y a1 t->a1.length<=258*y.a->((y.cut=false/\y.err=0/\y.a<=8*z.length/\∃i0,Px.Ends z a0 (Px.syS st lit dist st.o) y.a (Px.ebS st a1) i0)\/Px.Stop z a0 (Px.syS st lit dist st.o) a1 y)->qq w b s k N v ov z a0 (Px.syS st lit dist st.o) st d Y a1 y):=k7;clear k7 k6 h8 h9 k4 k5 g9 h0;go_wp2;go_loopw [] (λd=>∃(d0:Value) (c:List Px.One) (t g:Nat),BAt d b v ⟨g,false,0⟩/\Env P d b s k N ov d0 c t/\c.length<=258*g/\t<=g/\g<=8*z.length/\Px.Run z a0 (Px.syS st lit dist st.o) g (Px.syS st lit dist c)) (λd=>xk d b (8*z.length))
 case atStart=>exact⟨ov,st.o,0,a0,(h.kept b9),(g8.again c8 b9 o2),o4,O,o1,.refl _ _⟩
 case round=>
  obtain⟨d0,c,t,g,f0,f1,s5,s6,o9,k8⟩:=hrel;have p0:=f1.ne i;have b5:Z (∀d g,BAt d b v ⟨g,false,0⟩->Calls prog 61 #[.pointer (some ⟨b,0,none⟩)] d λe l=>e=.returned (.bool true)/\l=d):=λd g U=>bb b v _ d U
  have f2:Z (∀d f3,f3.on=false->BAt d b v f3->Calls prog 61 #[.pointer (some ⟨b,0,none⟩)] d λe l=>e=.returned (.bool false)/\l=d):=λd f3 p1 U=>by have:=bb b v f3 d U;rw[p1] at this;exact this
  have k9:Z (Calls prog 105 _ wr _):=nA b o5 v z ⟨g,false,0⟩ lit wr f0 (c0.fr f1.fr i.vz') e6 ((o8.fr f1.fr).mono (λa f=>L f)) h1 x o9 rfl rfl;have b6:Z (Px.Run z a0 (Px.syS st lit dist st.o) g (Px.syS st lit dist c)):=k8;clear k8;go_wp2_with fail;refine(b5.o _ _ f0).mono ?_;rintro e s7 ⟨rfl,rfl⟩;go_wp2_with fail;refine k9.o.mono ?_;rintro e a4 ⟨q,s8,rfl,l0,a2,p2⟩;have a8:=f1.b i p2;rcases l0.cases' with⟨r,d1,rfl⟩|⟨r,l1,rfl⟩|⟨p3,rfl⟩
  .have d2:=d1.2.1
   have s9:=d1.1;have c1:q<320:=by have:=d1.2.2.2.1;have:=h1.2;omega
   have d3:Z (Px.bH z g lit q r):=d1;clear d1 l0 k9;by_cases d4:q=256
   .have m:=a3.o a2 a8 (by show c.length<=258*(g+r);omega) (L ⟨rfl,rfl,d2,Px.Kj b6.o d3.o d4⟩)
    have u:Z _:=m;clear m;subst d4;go_wp2_with fail;refine(b5.o _ _ a2).mono ?_;rintro e d5 ⟨rfl,rfl⟩;go_wp2
    (try simp only[Exit.inBlock,Exit.then]);refine XA (YA rfl _ _ _) rfl ?_
    exact⟨_,_,_,rfl,u.o⟩
   .have t0:((q:Int)==256)=false:=F.2 O
    by_cases l2:q<256
    .have p4:=Xz i.N a8.fr.size
     have p5:c.length<4294967296:=O;have i1:Z (Calls prog 103 #[.pointer (some ⟨s,0,none⟩),.pointer (some ⟨b,0,none⟩),.int .i64 q] a4 λe l=>∃Y,e=.returned (.tuple #[])/\OAt l s N Y (c++[(q,Px.aB z (g+r))])/\Fr (λa=>a=s\/d0.ownBlock=some a) a4 l/\(∀a,Y.ownBlock=some a->d0.ownBlock=some a\/a4.heap.size<=a)/\(∀A,A≠0->l.cell? ⟨s,A,none⟩=a4.cell? ⟨s,A,none⟩)):=uD b s N q v d0 z c ⟨g+r,false,0⟩ a4 a2 (c0.fr a8.fr i.vz') x (by show 0<g+r;omega) d2 a8.oat i.sN p4 p5;clear d4;go_wp2_with fail;refine(b5.o _ _ a2).mono ?_;rintro e d5 ⟨rfl,rfl⟩;go_wp2_with fail;refine i1.o.mono ?_;rintro e Q ⟨f4,rfl,l3,c2,l4,l5⟩;have a5:=a2.fr c2 (by rintro(h|h);exact i.sb h.symm;exact p0.1 h);have a6:=a8.give i l3 c2 l4 l5;obtain⟨T,p6⟩:=a6.kat.c1;have p7:=a6.kat.fz;obtain⟨a7,d6,d7,a9,b2⟩:=a6.kt;have d8:=i.kb;have l6:=i.kw;have V:=a6.bytes i (wrap64 (T+1));have W:BAt (Q.setCell ⟨k,1,none⟩ (.int .i64 (wrap64 (T+1)))) b v ⟨g+r,false,0⟩:=a5.fr ((Fr1.refl _ _).set _ _) (λf=>d8 f.symm);have i2:Z (Env P (Q.setCell ⟨k,1,none⟩ (.int .i64 (wrap64 (T+1)))) b s k N ov f4 (c++[(q,Px.aB z (g+r))]) t/\BAt (Q.setCell ⟨k,1,none⟩ (.int .i64 (wrap64 (T+1)))) b v ⟨g+r,false,0⟩/\(Q.setCell ⟨k,1,none⟩ (.int .i64 (wrap64 (T+1)))).cell? ⟨k,3,none⟩=some a7/\(Q.setCell ⟨k,1,none⟩ (.int .i64 (wrap64 (T+1)))).ownsRow P.heap.size 169 3 a7 t d6/\(∀a,a7.ownBlock=some a->f4.ownBlock≠some a)) :=
      ⟨V,W,by rw[aa _ _ _ _ _ O];exact d7,Yf a9 (show k<P.heap.size from l6) _,b2⟩
     have t1:=a6.fr.size;have d9:Z (∀(A:Nat) (b7:Value),[Value.int .i64 q,Value.int .i64 0,Value.int .i64 0][A]? = some b7->((Q.setCell ⟨k,1,none⟩ (.int .i64 (wrap64 (T+1)))).alloc (.cells #[.int .i64 q,.int .i64 0,.int .i64 0] 169)).cell? (Addr.add ⟨Q.heap.size,0,none⟩ A)=some b7):=by
      exact qn _ _ (by simp[World.setCell]) _ _ _ _
     clear a6 V a5 W l3 l5 l4 a9 b2;go_wp2_with (at_builtin;refine ch _ 132 169 3 24 (.agg #[.int .i64 0,.int .i64 0,.int .i64 0]) underlying132 DO rfl O rfl _ _ rfl P.heap.size a7 t d6 rfl (i2.o.2.2.2.1.alloc _) ⟨Q.heap.size,0,none⟩ 1 1 [.int .i64 q,.int .i64 0,.int .i64 0] rfl rfl O d9.o (by intro b7 e0;simp at e0;rcases e0 with rfl|rfl|rfl<;>rfl) Xn O (by simp[World.setCell];omega) ?_)
     intro t2 b0 i3 i4 l7;obtain⟨l8,l9,rfl⟩:=ak i3;obtain⟨V,W,i5,f5,m0⟩:=i2.o;have m1:(Q.setCell ⟨k,1,none⟩ (.int .i64 (wrap64 (T+1)))).heap.size=Q.heap.size:=by simp[World.setCell]
     have f6:=V.tok i i5 f5 m0 i4 i3 (by rw[m1];exact l7);have f7:=((Fr.refl _ _).alloc _).grown i4 (λA i6=>L i6);have f8:=W.fr f7 (λf=>by have:=(f5.lt b f).1;have:=i.bN;have:=i.N;omega);have i7:(b0.cell? ⟨k,3,none⟩=some a7)/\b0.frozen? ⟨k,3,none⟩=false:=by
      have c3:¬a7.ownBlock=some k:=λf=>by have:=(f5.lt k f).1;omega
      exact⟨(f7.cell V.kat.lt c3).trans i5,(f7.frozen V.kat.lt c3).trans (V.kat.fz 3)⟩
     have p8:=i7.1;have i8:=i7.2;have p9:Z (Env P (b0.setCell ⟨k,3,none⟩ (.slice l8 (t+1) l9)) b s k N ov f4 (c++[(q,Px.aB z (g+r))]) (t+1)/\BAt b0 b v ⟨g+r,false,0⟩):=⟨f6,f8⟩;clear V W i5 f5 m0 f6 f7 f8 i4 i3 l7 m1 i7 i2 d9;go_wp2;obtain⟨f6,f8⟩:=p9.o;have G:BAt (b0.setCell ⟨k,3,none⟩ (.slice l8 (t+1) l9)) b v ⟨g+r,false,0⟩:=f8.fr ((Fr1.refl _ _).set _ _) (λf=>d8 f.symm);refine⟨⟨f4,c++[(q,Px.aB z (g+r))],t+1,g+r,G,f6,Xf,O,d2,(.tail b6.o (Px.Kh d3.o l2))⟩,?_⟩;rw[bG G,bG f0];omega
    .by_cases m2:285<q
     .have c4:Z (Calls prog 60 #[.pointer (some ⟨b,0,none⟩),.int .i64 13] a4 λe l=>e=.returned (.tuple #[])/\BAt l b v ⟨g+r,false,13⟩/\Fr1 b a4 l):=cM b v _ 13 a4 a2 rfl rfl
      clear d4;go_wp2_with fail;refine(b5.o _ _ a2).mono ?_;rintro e d5 ⟨rfl,rfl⟩;go_wp2_with fail;refine c4.o.mono ?_;rintro e Q ⟨rfl,a5,c2⟩;have m:=a3.o a5 (a8.b i c2) (by show c.length<=258*(g+r);omega) (R (.err g _ 13 (g+r) b6.o (Px.Kk d3.o m2) rfl Xh d2));have u:Z _:=m;clear m;go_wp2
      (try simp only[Exit.inBlock,Exit.then]);refine XA (YA rfl _ _ _) rfl ?_
      exact⟨_,_,_,rfl,u.o⟩
     .have m3:257<=q:=O
      have f9:q<=285:=O;have q0:Z (Calls prog 106 #[.pointer (some ⟨b,0,none⟩),.int .i64 q] a4 λe l=>∃b3:Nat,e=.returned (.int .i64 ((Px.bD q+b3:Nat):Int))/\Ml z ⟨g+r,false,0⟩ (Px.aK q) b3/\BAt l b v ((⟨g+r,false,0⟩:Px.Bt).num z (Px.aK q))/\Fr1 b a4 l):=GZ b v z ⟨g+r,false,0⟩ q a4 a2 (c0.fr a8.fr i.vz') e6 x d2 rfl m3 f9;clear d4 m2 l2;go_wp2_with fail;refine(b5.o _ _ a2).mono ?_;rintro e d5 ⟨rfl,rfl⟩;go_wp2_with fail;refine q0.o.mono ?_;rintro e Q ⟨b3,rfl,g0,a5,c2⟩;have a6:=a8.b i c2;have q1:=OW q b3 m3 f9 g0.1;obtain⟨H,g1⟩:∃H,H=Px.bD q+b3:=⟨_,rfl⟩;rw[<-g1] at q1 ⊢;by_cases e1:g+r+Px.aK q<=8*z.length
      .rw[Px.bW e1] at a5
       have e2:Z (Px.Run z a0 (Px.syS st lit dist st.o) (g+r+Px.aK q) {st with ph := .dist lit dist H,o:=c}):=by
        have:=b6.o.trans (Px.Ki d3.o O f9 e1)
        rw[<-g0.2 e1,<-g1] at this;exact this
       have i9:Q.cell? ⟨b,2,none⟩=some (.bool false):=a5.c2;have t3:g+r<=g+r+Px.aK q:=O;clear g1 g0;generalize g+r+Px.aK q=C at *;go_wp2_with fail;refine(nA b o6 v z ⟨C,false,0⟩ dist Q a5 (c0.fr a6.fr i.vz') e6 ((o7.fr a6.fr).mono (λa f=>L f)) h2 x e1 rfl rfl).mono ?_;rintro e c5 ⟨D,t4,rfl,m4,W,q2⟩;have V:=a6.b i q2;rcases m4.cases' with⟨J,e3,rfl⟩|⟨J,m5,rfl⟩|⟨q3,rfl⟩
       .have m6:=e3.2.1
        have t5:=e3.1;have t6:D<320:=by have:=e3.2.2.2.1;have:=h2.2;omega
        have j0:Z (Px.bH z C dist D J):=e3;clear e3 m4;by_cases m7:29<D
        .have c4:Z (Calls prog 60 #[.pointer (some ⟨b,0,none⟩),.int .i64 13] c5 λe l=>e=.returned (.tuple #[])/\BAt l b v ⟨C+J,false,13⟩/\Fr1 b c5 l):=cM b v _ 13 c5 W rfl rfl
         go_wp2_with fail;refine(b5.o _ _ W).mono ?_;rintro e b0 ⟨rfl,rfl⟩;go_wp2_with fail;refine c4.o.mono ?_;rintro e b1 ⟨rfl,G,j1⟩;have m:=a3.o G (V.b i j1) (by show c.length<=258*(C+J);omega) (R (.err C _ 13 (C+J) e2.o (Px.Jd j0.o m7) rfl Xh m6));have u:Z _:=m;clear m;go_wp2
         (try simp only[Exit.inBlock,Exit.then]);refine XA (YA rfl _ _ _) rfl ?_
         exact⟨_,_,_,rfl,u.o⟩
        .have e4:D<=29:=O
         have q4:Z (Calls prog 107 #[.pointer (some ⟨b,0,none⟩),.int .i64 D] c5 λe l=>∃b3:Nat,e=.returned (.int .i64 ((Px.bx D+b3:Nat):Int))/\Ml z ⟨C+J,false,0⟩ (Px.aI D) b3/\BAt l b v ((⟨C+J,false,0⟩:Px.Bt).num z (Px.aI D))/\Fr1 b c5 l):=I2 b v z ⟨C+J,false,0⟩ D c5 W (c0.fr V.fr i.vz') e6 x m6 rfl e4;clear m7;go_wp2_with fail;refine(b5.o _ _ W).mono ?_;rintro e b0 ⟨rfl,rfl⟩;go_wp2_with fail;refine q4.o.mono ?_;rintro e b1 ⟨q5,rfl,g2,G,j1⟩;have K:=V.b i j1;obtain⟨j,g3⟩:∃j,j=Px.bx D+q5:=⟨_,rfl⟩;have t7:j<32769:=by
          have e7:=Px.Cq D e4;have e8:=XH (n:=2) O (Px.Cp D e4);have e9:=g2.1;omega
         have t8:1<=j:=by
          have:1<=Px.bx D:=by unfold Px.bx;split<;>omega
          omega
         rw[<-g3];by_cases b8:C+J+Px.aI D<=8*z.length
         .rw[Px.bW b8] at G
          have j2:Z (Px.Ends z a0 (Px.syS st lit dist st.o) (C+J+Px.aI D) (Px.St.copy {st with o:=c} lit dist H j (Px.aB z (C+J+Px.aI D))) c):=by
           have:=Px.Fw e2.o j0.o e4 b8
           rw[<-g2.2 b8,<-g3] at this;exact this
          have i9:b1.cell? ⟨b,2,none⟩=some (.bool false):=G.c2;have t9:C+J<=C+J+Px.aI D:=O;clear g3 g2;generalize C+J+Px.aI D=o at *;have u0:=(K.sc 2 O).trans ((b9.cell (p:=⟨s,2,none⟩) k3).trans o3);have u1:=K.oat.c0;obtain⟨j3,j4,rfl⟩:=ak K.oat.own;by_cases e5:c.length<j\/st.window<j
          .have c4:Z (∀d,BAt d b v ⟨o,false,0⟩->Calls prog 60 #[.pointer (some ⟨b,0,none⟩),.int .i64 14] d λe l=>e=.returned (.tuple #[])/\BAt l b v ⟨o,false,14⟩/\Fr1 b d l):=λd U=>cM b v _ 14 d U rfl rfl
           have m8:Z (Px.Stop z a0 (Px.syS st lit dist st.o) c ⟨o,false,14⟩):=by
            have T:=j2.o;have f:Px.St.copy {st with o:=c} lit dist H j (Px.aB z o)=.err 14:=by unfold Px.St.copy;rw[I e5]
            rw[f] at T;exact T.stop Xh b8
           by_cases u2:c.length<j
           .have q6:(c.length:Int)<(j:Int):=O
            clear e5;go_wp2_with fail;refine(c4.o _ G).mono ?_;rintro e g4 ⟨rfl,c6,j5⟩;have m:=a3.o c6 (K.b i j5) (by show c.length<=258*o;omega) (R m8.o);have u:Z _:=m;clear m;go_wp2
            (try simp only[Exit.inBlock,Exit.then]);refine XA (YA rfl _ _ _) rfl ?_
            exact⟨_,_,_,rfl,u.o⟩
           .have q6:(j:Int)<=(c.length:Int):=O
            have u3:(st.window:Int)<(j:Int):=O;clear e5;go_wp2_with fail;refine(c4.o _ G).mono ?_;rintro e g4 ⟨rfl,c6,j5⟩;have m:=a3.o c6 (K.b i j5) (by show c.length<=258*o;omega) (R m8.o);have u:Z _:=m;clear m;go_wp2
            (try simp only[Exit.inBlock,Exit.then]);refine XA (YA rfl _ _ _) rfl ?_
            exact⟨_,_,_,rfl,u.o⟩
          .have u4:j<=c.length:=O
           have u5:j<=st.window:=O;have q7:Z (Px.Run z a0 (Px.syS st lit dist st.o) o (Px.syS st lit dist (Px.aV (Px.aB z o) j H c))):=by
            have T:=j2.o;have f:Px.St.copy {st with o:=c} lit dist H j (Px.aB z o)=.ok (Px.syS st lit dist (Px.aV (Px.aB z o) j H c)) false:=by unfold Px.St.copy;rw[if_neg e5]
            rw[f] at T;exact T.ok
           obtain⟨a7,d6,d7,a9,b2⟩:=K.kt;have u6:=K.fr.size;have i8:=K.kat.fz 3;have d8:=i.kb;have l6:=i.kw;have d9:Z (∀(A:Nat) (b7:Value),[Value.int .i64 0,Value.int .i64 H,Value.int .i64 j][A]? = some b7->(b1.alloc (.cells #[.int .i64 0,.int .i64 H,.int .i64 j] 169)).cell? (Addr.add ⟨b1.heap.size,0,none⟩ A)=some b7):=qn _ _ rfl _ _ _ _;have j6:Z (b1.ownsRow P.heap.size 169 3 a7 t d6):=a9;have m9:Z (BAt b1 b v ⟨o,false,0⟩/\Env P b1 b s k N ov (.slice j3 c.length j4) c t/\(∀a,a7.ownBlock=some a->Value.ownBlock (.slice j3 c.length j4)≠some a)):=⟨G,K,b2⟩;clear e5 j2 b2 a9 G K;go_wp2_with (at_builtin;refine ch _ 132 169 3 24 (.agg #[.int .i64 0,.int .i64 0,.int .i64 0]) underlying132 DO rfl O rfl _ _ rfl P.heap.size a7 t d6 rfl (j6.o.alloc _) ⟨b1.heap.size,0,none⟩ 1 1 [.int .i64 0,.int .i64 H,.int .i64 j] rfl rfl O d9.o (by intro b7 e0;simp at e0;rcases e0 with rfl|rfl|rfl<;>rfl) Xn O Xf ?_)
           intro u7 g4 j7 j8 n0;obtain⟨n1,n2,rfl⟩:=ak j7;obtain⟨G,K,b2⟩:=m9.o;have a9:=j6.o;have g5:=((Fr.refl _ _).alloc _).grown j8 (λA i6=>L i6);have c6:=G.fr g5 (λf=>by have:=(a9.lt b f).1;have:=i.bN;have:=i.N;omega);have c3:¬a7.ownBlock=some k:=λf=>by have:=(a9.lt k f).1;omega
           have p8:=(g5.cell K.kat.lt c3).trans d7;have u8:=(g5.frozen K.kat.lt c3).trans i8;have n3:Z (Env P (g4.setCell ⟨k,3,none⟩ (.slice n1 (t+1) n2)) b s k N ov (.slice j3 c.length j4) c (t+1)/\BAt (g4.setCell ⟨k,3,none⟩ (.slice n1 (t+1) n2)) b v ⟨o,false,0⟩):=⟨(K.tok i d7 a9 b2 j8 j7 (by simpa using n0)),(c6.fr ((Fr1.refl _ _).set _ _) (λf=>d8 f.symm))⟩;clear c6 g5 j8 j7 n0 c3 d7 i8 G K b2 a9 d9 j6 m9;go_wp2;go_loopw [16] (λA d=>∃(E:Nat) (j9:Value),A=.int .i64 E/\E<=H/\BAt d b v ⟨o,false,0⟩/\Env P d b s k N ov j9 (Px.aV (Px.aB z o) j E c) (t+1)) (λA _=>H-(intOf A).toNat)
           case atStart=>exact⟨0,_,rfl,O,n3.o.2,n3.o.1⟩
           case round=>
            obtain⟨E,j9,rfl,u9,b4,X⟩:=hrel;have k0:=X.ne i;by_cases v0:E<H
            .have c1:=Px.lF (Px.aB z o) j E c
             have q8:Z (Px.aV (Px.aB z o) j (E+1) c=Px.aV (Px.aB z o) j E c++[(Px.vAt (Px.aV (Px.aB z o) j E c) ((Px.aV (Px.aB z o) j E c).length-j),Px.aB z o)]):=Px.yP _ _ _ _;have v1:j<=(Px.aV (Px.aB z o) j E c).length:=by rw[c1];omega
             have q9:(Px.aV (Px.aB z o) j E c).length<4294967296:=by rw[c1];omega
             clear c1;generalize Px.aV (Px.aB z o) j E c=M at *;obtain⟨r0,g6,rfl⟩:=ak X.oat.own;obtain⟨k1,r1,v2,_⟩:=X.oat.zat.cells r0 g6 rfl (M.length-j) O;subst r1;have v3:=X.oat.c0;have v4:(M.length:Int)-(j:Int)<(M.length:Int):=O;have i1:Z (∀d,Kept wr d->Calls prog 103 #[.pointer (some ⟨s,0,none⟩),.pointer (some ⟨b,0,none⟩),.int .i64 (Px.vAt M (M.length-j):Int)] d λe l=>∃Y,e=.returned (.tuple #[])/\OAt l s N Y (M++[(Px.vAt M (M.length-j),Px.aB z o)])/\Fr (λa=>a=s\/Value.ownBlock (.slice (some ⟨k1,0,none⟩) M.length g6)=some a) d l/\(∀a,Y.ownBlock=some a->Value.ownBlock (.slice (some ⟨k1,0,none⟩) M.length g6)=some a\/d.heap.size<=a)/\(∀A,A≠0->l.cell? ⟨s,A,none⟩=d.cell? ⟨s,A,none⟩)):=λd U=>uD b s N _ v _ z M ⟨o,false,0⟩ d (b4.kept U) (c0.fr (X.fr.kept U) i.vz') x (by show 0<o;omega) b8 (X.oat.fr (S:=λ_=>False) (Fr.of_kept U) (λf=>f) (λ_ _ f=>f)) i.sN (Xz (Xz i.N X.fr.size) U.size) q9
             have r2:Z (BAt wr b v ⟨o,false,0⟩/\Env P wr b s k N ov (.slice (some ⟨k1,0,none⟩) M.length g6) M (t+1)):=⟨b4,X⟩;generalize Px.vAt M (M.length-j)=r3 at *;have v5:(E:Int)<(H:Int):=O;clear b4 X;go_wp2;go_quiet (fail);have k2:Z (Kept wr (wr.drewN nq)):=(Kept.refl _).drewN nq;generalize wr.drewN nq=v6 at *;go_wp2_with fail;refine(i1.o _ k2.o).mono ?_;rintro e n4 ⟨n5,rfl,n6,n7,n8,n9⟩;obtain⟨b4,X⟩:=r2.o;have k0:=X.ne i;have g7:=(b4.kept k2.o).fr n7 (by rintro(h|h);exact i.sb h.symm;exact k0.1 h);have c7:=(X.b i (Fr.of_kept k2.o)).give i n6 n7 n8 n9;obtain⟨T,p6⟩:=c7.kat.c1;have p7:=c7.kat.fz;have r4:Z (Env P n4 b s k N ov n5 (M++[(r3,Px.aB z o)]) (t+1)/\BAt n4 b v ⟨o,false,0⟩):=⟨c7,g7⟩;clear c7 g7 n6 n9 n8 b4 X k0;go_wp2;obtain⟨c7,g7⟩:=r4.o;exact⟨⟨E+1,n5,Xj,O,g7.fr ((Fr1.refl _ _).set _ _) (λf=>d8 f.symm),by rw[q8.o];exact c7.bytes i _⟩,Xb⟩
            .have r5:Z (E=H):=by show _=_;omega
             have v7:(H:Int)<=(E:Int):=O;go_wp2;have r6:=r5.o;subst r6;have c1:=Px.lF (Px.aB z o) j E c;refine⟨⟨j9,_,t+1,o,b4,X,by rw[c1];omega,O,b8,q7.o⟩,?_⟩;rw[bG b4,bG f0];omega
         .rw[Px.cy O] at G
          have m:=a3.o G K (by show c.length<=258*(8*z.length);omega) (R (Px.Jc e2.o j0.o e4 b8));have u:Z _:=m;have i9:b1.cell? ⟨b,2,none⟩=some (.bool true):=G.c2;clear m g2 g3;go_wp2
          (try simp only[Exit.inBlock,Exit.then]);refine XA (YA rfl _ _ _) rfl ?_
          exact⟨_,_,_,rfl,u.o⟩
       .have m:=a3.o W V (by show c.length<=258*(C+J);omega) (R (.err C _ 13 (C+J) e2.o (.bad rfl m5) rfl Xh m5.2.1))
        have u:Z _:=m;clear m;go_wp2_with fail;refine(f2.o _ _ rfl W).mono ?_;rintro e b0 ⟨rfl,rfl⟩;go_wp2
        (try simp only[Exit.inBlock,Exit.then]);refine XA (YA rfl _ _ _) rfl ?_
        exact⟨_,_,_,rfl,u.o⟩
       .have m:=a3.o W V (by show c.length<=258*(8*z.length);omega) (R (.cut C _ e2.o (.sym rfl q3) rfl))
        have u:Z _:=m;clear m;go_wp2_with fail;refine(f2.o _ _ rfl W).mono ?_;rintro e b0 ⟨rfl,rfl⟩;go_wp2
        (try simp only[Exit.inBlock,Exit.then]);refine XA (YA rfl _ _ _) rfl ?_
        exact⟨_,_,_,rfl,u.o⟩
      .rw[Px.cy O] at a5
       have m:=a3.o a5 a6 (by show c.length<=258*(8*z.length);omega) (R (Px.zu b6.o d3.o O f9 e1));have u:Z _:=m;have i9:Q.cell? ⟨b,2,none⟩=some (.bool true):=a5.c2;clear m g0 g1;go_wp2
       (try simp only[Exit.inBlock,Exit.then]);refine XA (YA rfl _ _ _) rfl ?_
       exact⟨_,_,_,rfl,u.o⟩
  .have m:=a3.o a2 a8 (by show c.length<=258*(g+r);omega) (R (.err g _ 13 (g+r) b6.o (.bad rfl l1) rfl Xh l1.2.1))
   have u:Z _:=m;clear m;go_wp2_with fail;refine(f2.o _ _ rfl a2).mono ?_;rintro e d5 ⟨rfl,rfl⟩;go_wp2
   (try simp only[Exit.inBlock,Exit.then]);refine XA (YA rfl _ _ _) rfl ?_
   exact⟨_,_,_,rfl,u.o⟩
  .have m:=a3.o a2 a8 (by show c.length<=258*(8*z.length);omega) (R (.cut g _ b6.o (.sym rfl p3) rfl))
   have u:Z _:=m;clear m;go_wp2_with fail;refine(f2.o _ _ rfl a2).mono ?_;rintro e d5 ⟨rfl,rfl⟩;go_wp2
   (try simp only[Exit.inBlock,Exit.then]);refine XA (YA rfl _ _ _) rfl ?_
   exact⟨_,_,_,rfl,u.o⟩
structure SC (W:World) (s:Nat) (dn sm:Bool) (er at' en:Nat):Prop where
 c3:W.cell? ⟨s,3,none⟩=some (.bool dn)
 c4:W.cell? ⟨s,4,none⟩=some (.bool sm)
 c5:W.cell? ⟨s,5,none⟩=some (.int .i64 (er:Int))
 c6:W.cell? ⟨s,6,none⟩=some (.int .i64 (at':Int))
 c7:W.cell? ⟨s,7,none⟩=some (.int .i64 (en:Int))
theorem SC.same{W W' s dn sm er at' en}(h:SC W s dn sm er at' en)(e:W'.heap[s]? = W.heap[s]?):SC W' s dn sm er at' en:=by
 have a:∀b,W'.cell? ⟨s,b,none⟩=W.cell? ⟨s,b,none⟩:=λb=>XK (w:=W) e
 exact⟨(a 3).trans h.c3,(a 4).trans h.c4,(a 5).trans h.c5,(a 6).trans h.c6,(a 7).trans h.c7⟩
theorem SC.lt{W s dn sm er at' en}(h:SC W s dn sm er at' en):s<W.heap.size:=B _ _ h.c3
theorem SC.set{W s dn sm er at' en}(h:SC W s dn sm er at' en)d2 m2:SC ((W.setCell ⟨s,3,none⟩ (.bool d2)).setCell ⟨s,4,none⟩ (.bool m2)) s d2 m2 er at' en:=by
 have a:(W.setCell ⟨s,3,none⟩ (.bool d2)).cell? ⟨s,4,none⟩=some (.bool sm):=by rw[aa _ _ _ _ _ O];exact h.c4
 refine⟨?_,ai a _,?_,?_,?_⟩
 .rw[aa _ _ _ _ _ O];exact ai h.c3 _
 .rw[aa _ _ _ _ _ O,aa _ _ _ _ _ O];exact h.c5
 .rw[aa _ _ _ _ _ O,aa _ _ _ _ _ O];exact h.c6
 .rw[aa _ _ _ _ _ O,aa _ _ _ _ _ O];exact h.c7
theorem SC.setEnd{W s dn sm er at' en}(h:SC W s dn sm er at' en)(a:Nat):SC (W.setCell ⟨s,7,none⟩ (.int .i64 a)) s dn sm er at' a:=by
 refine⟨?_,?_,?_,?_,ai h.c7 _⟩
 .rw[aa _ _ _ _ _ O];exact h.c3
 .rw[aa _ _ _ _ _ O];exact h.c4
 .rw[aa _ _ _ _ _ O];exact h.c5
 .rw[aa _ _ _ _ _ O];exact h.c6
theorem SC.setErr{W s dn sm er at' en}(h:SC W s dn sm er at' en)(a:Nat):SC (W.setCell ⟨s,5,none⟩ (.int .i64 a)) s dn sm a at' en:=by
 refine⟨?_,?_,ai h.c5 _,?_,?_⟩
 .rw[aa _ _ _ _ _ O];exact h.c3
 .rw[aa _ _ _ _ _ O];exact h.c4
 .rw[aa _ _ _ _ _ O];exact h.c6
 .rw[aa _ _ _ _ _ O];exact h.c7
theorem SC.setAt{W s dn sm er at' en}(h:SC W s dn sm er at' en)(a:Nat):SC (W.setCell ⟨s,6,none⟩ (.int .i64 a)) s dn sm er a en:=by
 refine⟨?_,?_,?_,ai h.c6 _,?_⟩
 .rw[aa _ _ _ _ _ O];exact h.c3
 .rw[aa _ _ _ _ _ O];exact h.c4
 .rw[aa _ _ _ _ _ O];exact h.c5
 .rw[aa _ _ _ _ _ O];exact h.c7
theorem OAt.set{W s N ov out}(h:OAt W s N ov out)(a:s<N)j(b:j≠0)u:OAt (W.setCell ⟨s,j,none⟩ u) s N ov out:=
 ⟨by rw[aa _ _ _ _ _ b];exact h.c0,λc=>by rw[Xy];exact h.fz c,Yf h.own (show s<N from a) _⟩
theorem OAt.kept{W W' s N ov out}(h:OAt W s N ov out)(k:Kept W W'):OAt W' s N ov out:=h.fr (S:=λ_=>False) (Fr.of_kept k) (λa=>a) (λ_ _ a=>a)
theorem SC.kept{W W' s dn sm er at' en}(h:SC W s dn sm er at' en)(k:Kept W W'):SC W' s dn sm er at' en:=h.same (k.block s h.lt)
structure y7 (w:World) (b s N:Nat) (v ov:Value) (z out:List Px.One) (A:Nat) (W:World) (t':Px.Bt) (dn sm:Bool) (er at' en:Nat):Prop where
 bat:BAt W b v t'
 oat:OAt W s N ov out
 sc:SC W s dn sm er at' en
 fr:Fr (λg=>g=b\/g=s) w W
 st:(¬A+32<=8*z.length/\t'=⟨8*z.length,true,0⟩/\dn=false/\sm=false/\er=0/\at'=0/\en=0) \/
  (A+32<=8*z.length/\Px.eB (Px.ab z A 32)≠65536*Px.bA out+Px.bn out/\t'=⟨A+32,false,19⟩/\dn=true/\sm=false/\er=0/\at'=0/\en=Px.aB z (A+32)) \/
  (A+32<=8*z.length/\Px.eB (Px.ab z A 32)=65536*Px.bA out+Px.bn out/\t'=⟨A+32,false,0⟩/\dn=true/\sm=true/\en=Px.aB z (A+32)/\er=(if A+32<8*z.length then 20 else 0)/\at'=(if A+32<8*z.length then Px.pAt z ((A+32)/8) else 0))
def OD(w:World)(b s N:Nat)(v ov:Value)(z out:List Px.One)(A:Nat)(W:World):Prop:=∃t' dn sm er at' en,y7 w b s N v ov z out A W t' dn sm er at' en
theorem Kp b s N v ov z out a0 w(h:BAt w b v ⟨a0,false,0⟩)(b3:ZAt w v z)(m:Px.good z)(k0:a0<=8*z.length)(e5:OAt w s N ov out)(e6:SC w s false false 0 0 0)(k1:Px.dx out)(m8:out.length<4294967296)(m9:b<N)(a4:s<N)(G:s≠b)(b4:∀c,ae v=some c->c≠b/\c≠s)A(e7:Px.up8 a0=A):Calls prog 67 #[.pointer (some ⟨s,0,none⟩),.pointer (some ⟨b,0,none⟩)] w λM c3=>M=.returned (.tuple #[])/\OD w b s N v ov z out A c3:=by
 have n0:=m.2.1;have g0:=Px.Bj k0;rw[e7] at g0;have k2:Z _:=e7;clear e7;have e8:∀c,ae v=some c->c≠b:=λc m=>(b4 c m).1
 have e9:∀c,ov.ownBlock=some c->c≠b:=λc m=>by have:=(e5.own.lt c m).1;omega
 go_enter func67,ntmps67;go_wp2_with fail;refine(xl b v _ w h (by show a0<=_;omega)).mono ?_;rintro M k3 ⟨rfl,g1,g2⟩;have g3:BAt k3 b v ⟨A,false,0⟩:=by rw[<-k2.o];exact g1
 clear g1;go_wp2;go_loopw [4,5] (λk4 o x=>∃(y d:Nat) (X:Px.Bt),k4=.int .i64 y/\o=.int .i64 d/\d<=4/\y<256^d/\BAt x b v X/\X.a<=8*z.length/\Fr1 b w x/\((X=⟨A+8*d,false,0⟩/\y=Px.be4 z A d)\/(¬A+32<=8*z.length/\X=⟨8*z.length,true,0⟩))) (λ_ o _=>4-(intOf o).toNat)
 case atStart=>exact⟨0,0,_,rfl,rfl,O,Xi,g3,g0,g2,L ⟨rfl,rfl⟩⟩
 case round=>
  obtain⟨y,d,X,rfl,rfl,c4,n1,a5,c5,Y,g4⟩:=hrel;have c6:Z _:=g4;clear g4;by_cases n2:d<4
  .have n3:y<16777216:=by
    have:=XH (n:=256) O (show d<=3 from O)
    omega
   have k5:=U (gC b v z X 8 wr a5 (b3.fr Y e8) e8 m c5 O);go_wp2_with fail;refine k5.o.mono ?_;rintro M n4 ⟨k6,rfl,n5,g5,k7,k8⟩;have k9:Z _:=g5;clear g5;go_wp2;refine⟨⟨256*y+k6,d+1,X.num z 8,Xj,Xj,O,by rw[Ya];omega,k7,KZ 8 c5,Y.trans k8,?_⟩,Xb⟩;rcases c6.o with⟨rfl,c7⟩|⟨c8,rfl⟩
   .by_cases P:A+8*d+8<=8*z.length
    .left
     refine⟨by rw[Px.bW P,show A+8*d+8=A+8*(d+1) from O],?_⟩;rw[k9.o rfl P,c7];rfl
    .right
     exact⟨O,Px.cy O⟩
   .right
    exact⟨c8,Px.fY rfl⟩
  .have b5:d=4:=O
   subst b5;have a1:=e5.fr Y G e9;have H:=e6.same (Y.block s e6.lt G);rcases c6.o with⟨rfl,c7⟩|⟨c8,rfl⟩
   .have n6:=a5.c2
    have P:=c5;have g6:Z (y=Px.eB (Px.ab z A 32)):=by show _=_;rw[Px.JL];exact c7
    have g7:Z _:=a5;have g8:=a1.fz;have g9:=H.c3;have h0:=H.c4;have h1:=H.c5;have h2:=H.c6;have h3:=H.c7;have h4:=a1.zat;obtain⟨J,Q,rfl⟩:=ak a1.own;have h5:=a1.c0;have h6:Z (∀d,d<out.length->∃c,J=some ⟨c,0,none⟩/\wr.cell? ⟨c,d*2,none⟩=some (.int .i64 (Px.vAt out d))):=λd c4=>by obtain⟨c,a6,f0,_⟩:=h4.cells J Q rfl d c4;exact⟨c,a6,f0⟩
    clear c6 c7 h4
    rename World=>W3
    go_wp2;go_loopw [7,8,9] (λl0 c4 o x=>∃d:Nat,d<=out.length/\l0=.int .i64 ((Px.eb out d).1:Int)/\c4=.int .i64 ((Px.eb out d).2:Int)/\o=.int .i64 d/\Kept W3 x) (λ_ _ o _=>out.length-(intOf o).toNat)
    case atStart=>exact⟨0,O,rfl,rfl,rfl,Kept.refl _⟩
    case round=>
     obtain⟨d,n7,rfl,rfl,rfl,C⟩:=hrel;have a7:=Px.AS out d;have f1:=H.lt;have n8:=(C.cell (p:=⟨s,0,none⟩) f1).trans h5;by_cases l1:d<out.length
     .obtain⟨c,rfl,f2⟩:=h6.o d l1
      have n9:=(C.cell (p:=⟨c,d*2,none⟩) (B _ _ f2)).trans f2;have o0:=Px.xh k1 d;have h7:Z (Px.eb out (d+1)=(((Px.eb out d).1+Px.vAt out d)%65521,((Px.eb out d).2+((Px.eb out d).1+Px.vAt out d)%65521)%65521)):=rfl;generalize Px.vAt out d=h8 at *;generalize (Px.eb out d).1=a8 at *;generalize (Px.eb out d).2=b6 at *;have l2:=a7.1;have l3:=a7.2;clear a7 f2;go_wp2;refine⟨⟨d+1,O,aY ?_,aY ?_,Xj,C⟩,Xb⟩
      .rw[h7.o];show _=(((a8+h8)%65521:Nat):Int);omega
      .rw[h7.o];show _=(((b6+(a8+h8)%65521)%65521:Nat):Int);omega
     .have b5:d=out.length:=O
      have f3:=Px.xm out;have h9:Z ((Px.eb out d).1=Px.bn out):=by show _=_;rw[b5,f3]
      have i0:Z ((Px.eb out d).2=Px.bA out):=by show _=_;rw[b5,f3]
      have l2:=a7.1;have l3:=a7.2;generalize (Px.eb out d).1=a8 at *;generalize (Px.eb out d).2=b6 at *;have a9:∀o,wr.cell? ⟨s,o,none⟩=W3.cell? ⟨s,o,none⟩:=λo=>C.cell (p:=⟨s,o,none⟩) f1
      have o1:=(a9 3).trans g9;have i1:=(a9 4).trans h0;have c9:=(a9 5).trans h1;have d0:=(a9 6).trans h2;have i2:=(a9 7).trans h3;have o2:∀b0,wr.frozen? ⟨s,b0,none⟩=false:=λb0=>(C.frozen (p:=⟨s,b0,none⟩) f1).trans (g8 b0)
      clear f3 b5 a7 a9 g9 h0 h1 h2 h3 g8 h5;have i3:=a1.kept C;have i4:=H.kept C;have i5:=g7.o.kept C;have i6:Fr (λc=>c=b\/c=s) w wr:=(Y.mono (λd _ e=>L e)).kept C;have d1:∀c,ae v=some c->¬(c=b\/c=s):=λc m e=>by
       obtain⟨a6,f0⟩:=b4 c m;rcases e with e|e
       .exact a6 e
       .exact f0 e
      have i7:∀(S T:Bool),(SC ((wr.setCell ⟨s,3,none⟩ (.bool S)).setCell ⟨s,4,none⟩ (.bool T)) s S T 0 0 0)/\OAt ((wr.setCell ⟨s,3,none⟩ (.bool S)).setCell ⟨s,4,none⟩ (.bool T)) s N (.slice J out.length Q) out/\BAt ((wr.setCell ⟨s,3,none⟩ (.bool S)).setCell ⟨s,4,none⟩ (.bool T)) b v ⟨A+32,false,0⟩/\Fr (λc=>c=b\/c=s) w ((wr.setCell ⟨s,3,none⟩ (.bool S)).setCell ⟨s,4,none⟩ (.bool T)):=by
       intro S T;have a6:Fr1 s wr ((wr.setCell ⟨s,3,none⟩ (.bool S)).setCell ⟨s,4,none⟩ (.bool T)):=((Fr1.refl _ _).set _ _).set _ _;exact⟨i4.set S T,(i3.set a4 3 O _).set a4 4 O _,i5.fr a6 (λe=>G e.symm),i6.trans' a6 (λd _ e=>R e)⟩
      have d2:Z _:=i7;clear i7 i3 i4 i5 i6 a1 H g7 e6;by_cases d3:y=65536*b6+a8
      .have l4:((y:Int)==65536*(b6:Int)+(a8:Int))=true:=by rw[XI];omega
       have d4:Z (Px.eB (Px.ab z A 32)=65536*Px.bA out+Px.bn out):=by show _=_;rw[<-g6.o,<-h9.o,<-i0.o];exact d3
       clear d3;go_wp2_with fail;obtain⟨b7,b8,a2,a3⟩:=d2.o true true;generalize (wr.setCell ⟨s,3,none⟩ (.bool true)).setCell ⟨s,4,none⟩ (.bool true)=f4 at *;refine(ej b v z ⟨A+32,false,0⟩ f4 a2 (b3.fr a3 d1) m (by show 0<A+32;omega) P).mono ?_;rintro M g ⟨rfl,t⟩;have f:=b7.kept t;have j:=a2.kept t;have k:=b8.kept t;have q:=a3.kept t;rw[show Px.pAt z ((({a:=A+32,cut:=false,err:=0}:Px.Bt).a-1)/8)=Px.aB z (A+32) from rfl];generalize b9:Px.aB z (A+32)=i at *;have d5:Z _:=b9.symm;clear b9;have i1:=f.c4;have c9:=f.c5;have d0:=f.c6;have i2:=f.c7;have l5:=k.fz;have f5:=j.c0;have d6:=j.c1;have b1:=b3.fr q d1;have d7:Z (SC g s true true 0 0 0/\BAt g b v ⟨A+32,false,0⟩/\OAt g s N (.slice J out.length Q) out/\Fr (λc=>c=b\/c=s) w g/\ZAt g v z):=⟨f,j,k,q,b1⟩;obtain⟨i8,d8,rfl⟩:=b1.form;clear b7 b8 a2 a3 t f j k q b1 d2;go_wp2;obtain⟨f,j,k,q,b1⟩:=d7.o;have V:Fr1 s g (g.setCell ⟨s,7,none⟩ (.int .i64 i)):=(Fr1.refl _ _).set _ _;have r:=f.setEnd i;have D:=k.set a4 7 O (.int .i64 i);have u:=j.fr V (λe=>G e.symm);have i9:=b1.fr V (λc m=>(b4 c m).2);have K:=q.trans' V (λd _ e=>R e);generalize g.setCell ⟨s,7,none⟩ (.int .i64 i)=l at *;have f5:=u.c0;have d6:=u.c1;have c9:=r.c5;have d0:=r.c6;have j0:=D.fz;have f6:Z (SC l s true true 0 0 i/\BAt l b (.slice i8 z.length d8) ⟨A+32,false,0⟩/\OAt l s N (.slice J out.length Q) out/\Fr (λc=>c=b\/c=s) w l):=⟨r,u,D,K⟩;clear f j k q b1 r u D K V d7;by_cases d9:A+32<8*z.length
       .obtain⟨c,rfl,_,j1⟩:=i9.cells i8 d8 rfl ((A+32)/8) O
        generalize j2:Px.pAt z ((A+32)/8)=c0 at *;have l6:Z _:=j2;clear j2 i9;go_quiet (fail);have j3:Z (SC (l.drewN nq) s true true 0 0 i/\BAt (l.drewN nq) b (.slice (some ⟨c,0,none⟩) z.length d8) ⟨A+32,false,0⟩/\OAt (l.drewN nq) s N (.slice J out.length Q) out/\Fr (λc=>c=b\/c=s) w (l.drewN nq)):=by
         obtain⟨r,u,D,K⟩:=f6.o;exact⟨r.kept ((Kept.refl _).drewN _),u.drewN _,D.kept ((Kept.refl _).drewN _),K.drewN _⟩
        have l7:(l.drewN nq).cell? ⟨s,5,none⟩=_:=c9;have l8:∀b0,(l.drewN nq).frozen? ⟨s,b0,none⟩=false:=j0;have f7:(l.drewN nq).cell? ⟨c,(A+32)/8*2+1,none⟩=_:=j1;generalize l.drewN nq=e0 at *;clear f5 d6 c9 d0 j0 j1 f6;go_wp2;obtain⟨j4,e1,j5,j6⟩:=j3.o;have e2:Fr1 s e0 (e0.setCell ⟨s,5,none⟩ (.int .i64 20)):=(Fr1.refl _ _).set _ _;have l9:=(b4 c rfl).2;have c1:SC (e0.setCell ⟨s,5,none⟩ (.int .i64 20)) s true true 20 0 i:=j4.setErr 20;have c2:=j5.set a4 5 O (.int .i64 20);have b2:=e1.fr e2 (λe=>G e.symm);have e3:=j6.trans' e2 (λd _ e=>R e);have m0:=(e2.cell (B _ _ f7) l9).trans f7;generalize e0.setCell ⟨s,5,none⟩ (.int .i64 20)=W at *;have f5:=b2.c0;have d6:=b2.c1;have d0:=c1.c6;have o3:=c2.fz 6;have m1:Z (SC W s true true 20 0 i/\BAt W b (.slice (some ⟨c,0,none⟩) z.length d8) ⟨A+32,false,0⟩/\OAt W s N (.slice J out.length Q) out/\Fr (λc=>c=b\/c=s) w W):=⟨c1,b2,c2,e3⟩;have m2:((A+32:Nat):Int)/8<(z.length:Int):=O;have m3:(0:Int)<=((A+32:Nat):Int)/8:=O;obtain⟨j7,j8⟩:∃j7:Nat,j7=A+32:=⟨_,rfl⟩;rw[<-j8] at d6 m2 m3 m0;clear j4 e1 j5 j6 e2 c1 b2 c2 e3 j3 l7 l8 f7 b4 e8 e9 d1 j8 b3 h e5 h6 C g2 g3 Y a5 c5;go_region
        go_wp2;go_end0
        obtain⟨c1,b2,c2,e3⟩:=m1.o;have j9:Fr1 s W (W.setCell ⟨s,6,none⟩ (.int .i64 c0)):=(Fr1.refl _ _).set _ _;have e4:Kept (W.setCell ⟨s,6,none⟩ (.int .i64 c0)) (W.setCell ⟨s,6,none⟩ (.int .i64 c0)).drew:=⟨rfl,rfl,rfl,E _,λ_ _=>rfl⟩;have m4:=e3.trans' j9 (λd _ e=>R e);refine⟨rfl,⟨A+32,false,0⟩,true,true,20,c0,i,(b2.fr j9 (λe=>G e.symm)).kept e4,(c2.set a4 6 O _).kept e4,(c1.setAt c0).kept e4,m4.kept e4,R (R ⟨P,d4.o,rfl,rfl,rfl,d5.o,by rw[I d9],by rw[I d9];exact l6.o.symm⟩)⟩
       .go_quiet (fail)
        go_wp2;go_end0
        obtain⟨r,u,D,K⟩:=f6.o;refine⟨rfl,⟨A+32,false,0⟩,true,true,0,0,i,u.drewN _,D.kept ((Kept.refl _).drewN _),r.kept ((Kept.refl _).drewN _),K.drewN _,R (R ⟨P,d4.o,rfl,rfl,rfl,d5.o,by rw[if_neg d9],by rw[if_neg d9]⟩)⟩
      .have l4:((y:Int)==65536*(b6:Int)+(a8:Int))=false:=by rw[F];omega
       have d4:Z (Px.eB (Px.ab z A 32)≠65536*Px.bA out+Px.bn out):=by show _≠_;rw[<-g6.o,<-h9.o,<-i0.o];exact d3
       have m5:Z (∀x,BAt x b v ⟨A+32,false,0⟩->Calls prog 60 #[.pointer (some ⟨b,0,none⟩),.int .i64 19] x λM c3=>M=.returned (.tuple #[])/\BAt c3 b v ⟨A+32,false,19⟩/\Fr1 b x c3):=λx m6=>cM b v _ 19 x m6 rfl rfl
       clear d3;go_wp2_with fail;obtain⟨b7,b8,a2,a3⟩:=d2.o true false;generalize (wr.setCell ⟨s,3,none⟩ (.bool true)).setCell ⟨s,4,none⟩ (.bool false)=f4 at *;refine(ej b v z ⟨A+32,false,0⟩ f4 a2 (b3.fr a3 d1) m (by show 0<A+32;omega) P).mono ?_;rintro M g ⟨rfl,t⟩;have f:=b7.kept t;have j:=a2.kept t;have k:=b8.kept t;have q:=a3.kept t;rw[show Px.pAt z ((({a:=A+32,cut:=false,err:=0}:Px.Bt).a-1)/8)=Px.aB z (A+32) from rfl];generalize b9:Px.aB z (A+32)=i at *;have d5:Z _:=b9.symm;clear b9;have i1:=f.c4;have i2:=f.c7;have l5:=k.fz;have d7:Z (SC g s true false 0 0 0/\BAt g b v ⟨A+32,false,0⟩/\OAt g s N (.slice J out.length Q) out/\Fr (λc=>c=b\/c=s) w g):=⟨f,j,k,q⟩;clear b7 b8 a2 a3 t f j k q d2;go_wp2_with fail;obtain⟨f,j,k,q⟩:=d7.o;have V:Fr1 s g (g.setCell ⟨s,7,none⟩ (.int .i64 i)):=(Fr1.refl _ _).set _ _;have r:=f.setEnd i;have D:=k.set a4 7 O (.int .i64 i);have u:=j.fr V (λe=>G e.symm);have K:=q.trans' V (λd _ e=>R e);generalize g.setCell ⟨s,7,none⟩ (.int .i64 i)=l at *;refine(m5.o _ u).mono ?_;rintro M m7 ⟨rfl,e1,f8⟩;have f9:Z (y7 w b s N v (.slice J out.length Q) z out A m7 ⟨A+32,false,19⟩ true false 0 0 i) :=
        ⟨e1,D.fr f8 G e9,r.same (f8.block s r.lt G),K.trans' f8 (λd _ e=>L e),R (L ⟨P,d4.o,rfl,rfl,rfl,rfl,rfl,d5.o⟩)⟩
       clear f j k q r D u K V;go_wp2
       (try simp only[Exit.inBlock,Exit.then]);refine XA (YA rfl _ _ _) rfl ?_
       exact⟨rfl,_,_,_,_,_,_,f9.o⟩
   .have o4:=a5.c2
    have f9:Z (y7 w b s N v ov z out A wr ⟨8*z.length,true,0⟩ false false 0 0 0):=⟨a5,a1,H,Y.mono (λd _ e=>L e),L ⟨c8,rfl,rfl,rfl,rfl,rfl,rfl⟩⟩;clear c6 c8;go_wp2
    (try simp only[Exit.inBlock,Exit.then]);refine XA (YA rfl _ _ _) rfl ?_
    exact⟨rfl,_,_,_,_,_,_,f9.o⟩
theorem EX:(prog.info? 134).map (λi=>(i.zero,i.size,i.bytes))=some (some (.agg #[.int .i64 0,.int .i64 0,.bool false,.slice none 0 0,.slice none 0 0,.slice none 0 0]),6,96):=Xk
structure RI (w W:World) (s b N:Nat) (ov bv:Value) (out:List Px.One) (nb win:Nat):Prop where
 oat:OAt W s N ov out
 sc:SC W s false false 0 0 0
 c1:W.cell? ⟨s,1,none⟩=some bv
 c2:W.cell? ⟨s,2,none⟩=some (.int .i64 (win:Int))
 own:∃ys,W.ownsRow N 134 6 bv nb ys
 dis:∀g,bv.ownBlock=some g->ov.ownBlock≠some g
 kept:Kept w W
theorem RI.b{w W W' s b N ov bv out nb win}(h:RI w W s b N ov bv out nb win)(j:w.heap.size<=b)(a:s≠b)(l:b<N)(k:Fr1 b W W'):RI w W' s b N ov bv out nb win:=by
 have c:=h.sc.lt;refine⟨h.oat.fr k a (λd e f=>by have:=(h.oat.own.lt d e).1;omega),h.sc.same (k.block s c a),(k.cell c a).trans h.c1,(k.cell c a).trans h.c2,?_,h.dis,Fr.to_kept h.kept k (λm n f=>O)⟩;obtain⟨i,g⟩:=h.own;exact⟨i,aU g k (λd e f=>by have:=(g.lt d e).1;omega)⟩
theorem RI.kept'{w W W' s b N ov bv out nb win}(h:RI w W s b N ov bv out nb win)(k:Kept W W'):RI w W' s b N ov bv out nb win:=by
 have a:=h.sc.lt;obtain⟨c,d⟩:=h.own;exact⟨h.oat.kept k,h.sc.kept k,(k.cell (p:=⟨s,1,none⟩) a).trans h.c1,(k.cell (p:=⟨s,2,none⟩) a).trans h.c2,⟨c,bO d k⟩,h.dis,h.kept.trans k⟩
theorem SC.two{W s dn sm er at' en}(h:SC W s dn sm er at' en)j(a:j<3)u:SC (W.setCell ⟨s,j,none⟩ u) s dn sm er at' en:=
 ⟨by rw[aa _ _ _ _ _ O];exact h.c3,by rw[aa _ _ _ _ _ O];exact h.c4,by rw[aa _ _ _ _ _ O];exact h.c5,by rw[aa _ _ _ _ _ O];exact h.c6,by rw[aa _ _ _ _ _ O];exact h.c7⟩
structure iB (w W:World) (z:List Px.One) (s:Nat) (ov:Value) (out:List Px.One) (dn sm:Bool) (er at' en:Nat):Prop where
 oat:OAt W s (s+2) ov out
 sc:SC W s dn sm er at' en
 kept:Kept w W
 by':Px.dx out
 len:out.length<=258*(8*z.length)
 st:(∃t,Px.Stop z 0 Px.St.start out t/\dn=false/\sm=false/\en=0/\er=t.err/\at'=(if t.err=0 then 0 else Px.aB z t.a)) \/
  (∃a s1,Px.Run z 0 Px.St.start a s1/\s1.ph=.sum/\s1.o=out/\Px.Fails z a s1 19 (a+32)/\dn=true/\sm=false/\er=19/\at'=Px.aB z (a+32)/\en=Px.aB z (a+32)) \/
  (∃a s1,Px.Run z 0 Px.St.start a s1/\s1.ph=.fin/\s1.o=out/\a<=8*z.length/\dn=true/\sm=true/\en=Px.aB z a/\er=(if a<8*z.length then 20 else 0)/\at'=(if a<8*z.length then Px.pAt z (a/8) else 0))
def Mi(w W:World)(z:List Px.One)(s:Nat):Prop:=∃ov out dn sm er at' en,iB w W z s ov out dn sm er at' en
abbrev S0c:Array Value:=#[.slice none 0 0,.slice none 0 0,.int .i64 0,.bool false,.bool false,.int .i64 0,.int .i64 0,.int .i64 0]
theorem zN w v:RI w ((w.alloc (.cells S0c 109)).alloc (.cells #[v,.int .i64 0,.bool false,.int .i64 0] 129)) w.heap.size (w.heap.size+1) (w.heap.size+2) (.slice none 0 0) (.slice none 0 0) [] 0 0/\BAt ((w.alloc (.cells S0c 109)).alloc (.cells #[v,.int .i64 0,.bool false,.int .i64 0] 129)) (w.heap.size+1) v ⟨0,false,0⟩:=by
 have a:∀b d,S0c[b]? = some d->((w.alloc (.cells S0c 109)).alloc (.cells #[v,.int .i64 0,.bool false,.int .i64 0] 129)).cell? ⟨w.heap.size,b,none⟩=some d:=by
  intro b d e;rw[World.cell?_alloc_past _ _ _ Xi];rw[Xr _ _ _ _ rfl];exact e
 have c:w.heap.size+1=(w.alloc (.cells S0c 109)).heap.size:=Xi;refine⟨⟨⟨a 0 _ rfl,?_,XR _ _ _ _⟩,⟨a 3 _ rfl,a 4 _ rfl,a 5 _ rfl,a 6 _ rfl,a 7 _ rfl⟩,a 1 _ rfl,a 2 _ rfl,⟨[],XR _ _ _ _⟩,(λg f=>by cases f),((Xs _ _).alloc (E _) _).alloc Xi _⟩,?_⟩
 .intro b
  rw[World.frozen?_alloc_past _ _ _ Xi];exact XB _ _ _ _ rfl
 .exact⟨by rw[Xr _ _ _ _ c];rfl,by rw[Xr _ _ _ _ c];rfl,by rw[Xr _ _ _ _ c];rfl,by rw[Xr _ _ _ _ c];rfl,λb=>XB _ _ _ _ c⟩
theorem zP v z w(d9:ZAt w v z)(i:Px.good z)(Q:∀k,ae v=some k->k<w.heap.size)(e6:16<=8*z.length->Px.dM (Px.ab z 0 8) (Px.ab z 8 8)):Calls prog 41 #[v] w λd y=>d=.returned (.pointer (some ⟨w.heap.size,0,none⟩))/\Mi w y z w.heap.size:=by
 have f4:=i.2.1;have e0:=zN w v;obtain⟨B,C,rfl⟩:=d9.form;have c4:Z _:=e0;clear e0;go_enter func41,ntmps41;go_wp2_with fail;obtain⟨b5,c5⟩:=c4.o;generalize (w.alloc (.cells S0c 109)).alloc (.cells #[.slice B z.length C,.int .i64 0,.bool false,.int .i64 0] 129)=e7 at *;have a2:∀k,ae (.slice B z.length C)=some k->k≠w.heap.size+1:=λk i=>by have:=Q k i;omega
 have b6:=d9.fr (S:=λ_=>False) (Fr.of_kept b5.kept) (λ_ _ n=>n);refine(gC (w.heap.size+1) _ z _ 8 e7 c5 b6 a2 i (by show 0<=_;omega) O).mono ?_;rintro d e8 ⟨e,rfl,f5,e1,c6,b7⟩;have b8:=b6.fr b7 a2;go_wp2_with fail;refine(gC (w.heap.size+1) _ z _ 8 e8 c6 b8 a2 i (KZ 8 (by show 0<=_;omega)) O).mono ?_;rintro d b9 ⟨T,rfl,f6,e2,a5,c0⟩;have x:=(b5.b O O O b7).b O O O c0;have b2:=b8.fr c0 a2;have c7:Z _:=e1;have c8:Z _:=e2;clear e1 e2;by_cases a6:16<=8*z.length
 .have b3:(((⟨0,false,0⟩:Px.Bt).num z 8).num z 8)=⟨16,false,0⟩:=by
   rw[Px.bW (show 0+8<=8*z.length from O),Px.bW (show 0+8+8<=8*z.length from O)]
  have e3:=Px.bW (show 0+8<=8*z.length from O);rw[b3] at a5;have c9:=c7.o Xi (by show 0+8<=_;omega);have d0:T=Px.ab z 8 8:=by
   have:=c8.o
   rw[e3] at this;exact this Xi (by show 8+8<=_;omega)
  have e4:=a5.c2;have a3:=U (cM _ _ _ 10 b9 a5 rfl rfl);have F:Z (∀a,BAt a (w.heap.size+1) (.slice B z.length C) ⟨16,false,10⟩->Calls prog 61 #[.pointer (some ⟨w.heap.size+1,0,none⟩)] a λd y=>d=.returned (.bool false)/\y=a):=λa d1=>bb _ _ _ a d1
  have e9:Z (Px.dM e T):=by show Px.dM e T;rw[c9,d0];exact e6 a6
  have a4:Z (Px.dM e T->Px.Stop z 0 Px.St.start [] ⟨16,false,10⟩):=λf0=>Px.E2 a6 (by rw[<-c9,<-d0];exact f0)
  clear e3 b3 c9 d0 b5 c5 c6 b6 b8 b7 c0 c4 c7 c8;by_cases b4:e%16≠8
  .have f1:((e:Int)%16 != 8)=true:=by rw[XJ];omega
   have V:=U (a4.o (L b4));clear b4 a4;go_wp2_with fail;refine a3.o.mono ?_;rintro d p ⟨rfl,G,q⟩;have b:=x.b O O O q;have W:=b.c2;have X:=b.oat.fz;have H:Z _:=b;clear x b;go_wp2_with fail;have b:=H.o;have l:Fr1 w.heap.size p (p.setCell ⟨w.heap.size,2,none⟩ (.int .i64 (wrap64 (2^(8+e/16))))):=(Fr1.refl _ _).set _ _;have c:=b.sc.two 2 O (.int .i64 (wrap64 (2^(8+e/16))));have f:=b.oat.set O 2 O (.int .i64 (wrap64 (2^(8+e/16))));have m:=G.fr l O;have I:=(b2.fr q a2).fr l (λk i n=>by have:=Q k i;omega);have h:=Fr.to_kept b.kept l (λD E n=>O);generalize p.setCell ⟨w.heap.size,2,none⟩ (.int .i64 (wrap64 (2^(8+e/16))))=g at *;have c1:g.cell? ⟨w.heap.size+1,3,none⟩=some (.int .i64 10):=m.c3;have d2:=c.c5;have d3:=c.c6;have d4:=f.fz;have a7:Z (∀a,BAt a (w.heap.size+1) (.slice B z.length C) ⟨16,false,10⟩->ZAt a (.slice B z.length C) z->Calls prog 68 #[.pointer (some ⟨w.heap.size+1,0,none⟩)] a λd y=>d=.returned (.int .i64 (Px.aB z 16))/\Kept a y):=λa a8 a9=>ej _ _ z ⟨16,false,10⟩ a a8 a9 i (by show 0<16;omega) a6
   have b0:Z _:=I;have b1:Z (OAt g w.heap.size (w.heap.size+2) (.slice none 0 0) []/\SC g w.heap.size false false 0 0 0/\Kept w g):=⟨f,c,h⟩;clear c f h l b H G I W X q a3;go_loopw [7] (λY a=>Y=.bool false/\a=g) (λ_ _=>0)
   case atStart=>exact⟨rfl,rfl⟩
   case round=>
    obtain⟨rfl,rfl⟩:=hrel;go_wp2_with fail;refine(F.o _ m).mono ?_;rintro d j ⟨rfl,rfl⟩;go_wp2_with fail;refine(F.o _ m).mono ?_;rintro d j ⟨rfl,rfl⟩;go_wp2_with fail;obtain⟨f,c,h⟩:=b1.o;have o:Fr1 w.heap.size j (j.setCell ⟨w.heap.size,5,none⟩ (.int .i64 10)):=(Fr1.refl _ _).set _ _;have J:SC (j.setCell ⟨w.heap.size,5,none⟩ (.int .i64 10)) w.heap.size false false 10 0 0:=c.setErr 10;have K:=f.set O 5 O (.int .i64 10);have M:=m.fr o O;have N:=b0.o.fr o (λk i n=>by have:=Q k i;omega);have P:=Fr.to_kept h o (λD E n=>O);generalize j.setCell ⟨w.heap.size,5,none⟩ (.int .i64 10)=d5 at *;refine(a7.o _ M N).mono ?_;rintro d r ⟨rfl,s⟩;have t:=J.kept s;have u:=K.kept s;have d6:=t.c6;have d7:=u.fz 6;have A:Fr1 w.heap.size r (r.setCell ⟨w.heap.size,6,none⟩ (.int .i64 (Px.aB z 16))):=(Fr1.refl _ _).set _ _;have a0:Z (iB w (r.setCell ⟨w.heap.size,6,none⟩ (.int .i64 (Px.aB z 16))) z w.heap.size (.slice none 0 0) [] false false 10 (Px.aB z 16) 0) :=
     ⟨u.set O 6 O _,t.setAt _,Fr.to_kept (P.trans s) A (λD E n=>O),(λc2 a1=>by cases a1),Xi,L ⟨_,V.o,rfl,rfl,rfl,rfl,rfl⟩⟩
    clear t u A J K M N P o f c h;go_wp2;go_ret;exact⟨rfl,_,_,_,_,_,_,_,a0.o⟩
  .have f1:((e:Int)%16 != 8)=false:=by rw[Xx];omega
   by_cases c3:7<e/16
   .have f2:(7:Int)<(e:Int)/16:=O
    have V:=U (a4.o (R (L c3)));clear b4 c3 a4;go_wp2_with fail;refine a3.o.mono ?_;rintro d p ⟨rfl,G,q⟩;have b:=x.b O O O q;have W:=b.c2;have X:=b.oat.fz;have H:Z _:=b;clear x b;go_wp2_with fail;have b:=H.o;have l:Fr1 w.heap.size p (p.setCell ⟨w.heap.size,2,none⟩ (.int .i64 (wrap64 (2^(8+e/16))))):=(Fr1.refl _ _).set _ _;have c:=b.sc.two 2 O (.int .i64 (wrap64 (2^(8+e/16))));have f:=b.oat.set O 2 O (.int .i64 (wrap64 (2^(8+e/16))));have m:=G.fr l O;have I:=(b2.fr q a2).fr l (λk i n=>by have:=Q k i;omega);have h:=Fr.to_kept b.kept l (λD E n=>O);generalize p.setCell ⟨w.heap.size,2,none⟩ (.int .i64 (wrap64 (2^(8+e/16))))=g at *;have c1:g.cell? ⟨w.heap.size+1,3,none⟩=some (.int .i64 10):=m.c3;have d2:=c.c5;have d3:=c.c6;have d4:=f.fz;have a7:Z (∀a,BAt a (w.heap.size+1) (.slice B z.length C) ⟨16,false,10⟩->ZAt a (.slice B z.length C) z->Calls prog 68 #[.pointer (some ⟨w.heap.size+1,0,none⟩)] a λd y=>d=.returned (.int .i64 (Px.aB z 16))/\Kept a y):=λa a8 a9=>ej _ _ z ⟨16,false,10⟩ a a8 a9 i (by show 0<16;omega) a6
    have b0:Z _:=I;have b1:Z (OAt g w.heap.size (w.heap.size+2) (.slice none 0 0) []/\SC g w.heap.size false false 0 0 0/\Kept w g):=⟨f,c,h⟩;clear c f h l b H G I W X q a3;go_loopw [7] (λY a=>Y=.bool false/\a=g) (λ_ _=>0)
    case atStart=>exact⟨rfl,rfl⟩
    case round=>
     obtain⟨rfl,rfl⟩:=hrel;go_wp2_with fail;refine(F.o _ m).mono ?_;rintro d j ⟨rfl,rfl⟩;go_wp2_with fail;refine(F.o _ m).mono ?_;rintro d j ⟨rfl,rfl⟩;go_wp2_with fail;obtain⟨f,c,h⟩:=b1.o;have o:Fr1 w.heap.size j (j.setCell ⟨w.heap.size,5,none⟩ (.int .i64 10)):=(Fr1.refl _ _).set _ _;have J:SC (j.setCell ⟨w.heap.size,5,none⟩ (.int .i64 10)) w.heap.size false false 10 0 0:=c.setErr 10;have K:=f.set O 5 O (.int .i64 10);have M:=m.fr o O;have N:=b0.o.fr o (λk i n=>by have:=Q k i;omega);have P:=Fr.to_kept h o (λD E n=>O);generalize j.setCell ⟨w.heap.size,5,none⟩ (.int .i64 10)=d5 at *;refine(a7.o _ M N).mono ?_;rintro d r ⟨rfl,s⟩;have t:=J.kept s;have u:=K.kept s;have d6:=t.c6;have d7:=u.fz 6;have A:Fr1 w.heap.size r (r.setCell ⟨w.heap.size,6,none⟩ (.int .i64 (Px.aB z 16))):=(Fr1.refl _ _).set _ _;have a0:Z (iB w (r.setCell ⟨w.heap.size,6,none⟩ (.int .i64 (Px.aB z 16))) z w.heap.size (.slice none 0 0) [] false false 10 (Px.aB z 16) 0) :=
      ⟨u.set O 6 O _,t.setAt _,Fr.to_kept (P.trans s) A (λD E n=>O),(λc2 a1=>by cases a1),Xi,L ⟨_,V.o,rfl,rfl,rfl,rfl,rfl⟩⟩
     clear t u A J K M N P o f c h;go_wp2;go_ret;exact⟨rfl,_,_,_,_,_,_,_,a0.o⟩
   .have f2:(e:Int)/16<=7:=O
    by_cases d8:(256*e+T)%31≠0
    .have f3:((256*(e:Int)+(T:Int))%31 != 0)=true:=by rw[XJ];omega
     have V:=U (a4.o (R (R (L d8))));clear b4 c3 d8 a4;go_wp2_with fail;refine a3.o.mono ?_;rintro d p ⟨rfl,G,q⟩;have b:=x.b O O O q;have W:=b.c2;have X:=b.oat.fz;have H:Z _:=b;clear x b;go_wp2_with fail;have b:=H.o;have l:Fr1 w.heap.size p (p.setCell ⟨w.heap.size,2,none⟩ (.int .i64 (wrap64 (2^(8+e/16))))):=(Fr1.refl _ _).set _ _;have c:=b.sc.two 2 O (.int .i64 (wrap64 (2^(8+e/16))));have f:=b.oat.set O 2 O (.int .i64 (wrap64 (2^(8+e/16))));have m:=G.fr l O;have I:=(b2.fr q a2).fr l (λk i n=>by have:=Q k i;omega);have h:=Fr.to_kept b.kept l (λD E n=>O);generalize p.setCell ⟨w.heap.size,2,none⟩ (.int .i64 (wrap64 (2^(8+e/16))))=g at *;have c1:g.cell? ⟨w.heap.size+1,3,none⟩=some (.int .i64 10):=m.c3;have d2:=c.c5;have d3:=c.c6;have d4:=f.fz;have a7:Z (∀a,BAt a (w.heap.size+1) (.slice B z.length C) ⟨16,false,10⟩->ZAt a (.slice B z.length C) z->Calls prog 68 #[.pointer (some ⟨w.heap.size+1,0,none⟩)] a λd y=>d=.returned (.int .i64 (Px.aB z 16))/\Kept a y):=λa a8 a9=>ej _ _ z ⟨16,false,10⟩ a a8 a9 i (by show 0<16;omega) a6
     have b0:Z _:=I;have b1:Z (OAt g w.heap.size (w.heap.size+2) (.slice none 0 0) []/\SC g w.heap.size false false 0 0 0/\Kept w g):=⟨f,c,h⟩;clear c f h l b H G I W X q a3;go_loopw [7] (λY a=>Y=.bool false/\a=g) (λ_ _=>0)
     case atStart=>exact⟨rfl,rfl⟩
     case round=>
      obtain⟨rfl,rfl⟩:=hrel;go_wp2_with fail;refine(F.o _ m).mono ?_;rintro d j ⟨rfl,rfl⟩;go_wp2_with fail;refine(F.o _ m).mono ?_;rintro d j ⟨rfl,rfl⟩;go_wp2_with fail;obtain⟨f,c,h⟩:=b1.o;have o:Fr1 w.heap.size j (j.setCell ⟨w.heap.size,5,none⟩ (.int .i64 10)):=(Fr1.refl _ _).set _ _;have J:SC (j.setCell ⟨w.heap.size,5,none⟩ (.int .i64 10)) w.heap.size false false 10 0 0:=c.setErr 10;have K:=f.set O 5 O (.int .i64 10);have M:=m.fr o O;have N:=b0.o.fr o (λk i n=>by have:=Q k i;omega);have P:=Fr.to_kept h o (λD E n=>O);generalize j.setCell ⟨w.heap.size,5,none⟩ (.int .i64 10)=d5 at *;refine(a7.o _ M N).mono ?_;rintro d r ⟨rfl,s⟩;have t:=J.kept s;have u:=K.kept s;have d6:=t.c6;have d7:=u.fz 6;have A:Fr1 w.heap.size r (r.setCell ⟨w.heap.size,6,none⟩ (.int .i64 (Px.aB z 16))):=(Fr1.refl _ _).set _ _;have a0:Z (iB w (r.setCell ⟨w.heap.size,6,none⟩ (.int .i64 (Px.aB z 16))) z w.heap.size (.slice none 0 0) [] false false 10 (Px.aB z 16) 0) :=
       ⟨u.set O 6 O _,t.setAt _,Fr.to_kept (P.trans s) A (λD E n=>O),(λc2 a1=>by cases a1),Xi,L ⟨_,V.o,rfl,rfl,rfl,rfl,rfl⟩⟩
      clear t u A J K M N P o f c h;go_wp2;go_ret;exact⟨rfl,_,_,_,_,_,_,_,a0.o⟩
    .have f3:((256*(e:Int)+(T:Int))%31 != 0)=false:=by rw[Xx];omega
     by_cases e5:T/32%2=1
     .have f7:((T:Int)/32%2==1)=true:=by rw[XI];omega
      have V:=U (a4.o (R (R (R e5))));clear b4 c3 d8 e5 a4;go_wp2_with fail;refine a3.o.mono ?_;rintro d p ⟨rfl,G,q⟩;have b:=x.b O O O q;have W:=b.c2;have X:=b.oat.fz;have H:Z _:=b;clear x b;go_wp2_with fail;have b:=H.o;have l:Fr1 w.heap.size p (p.setCell ⟨w.heap.size,2,none⟩ (.int .i64 (wrap64 (2^(8+e/16))))):=(Fr1.refl _ _).set _ _;have c:=b.sc.two 2 O (.int .i64 (wrap64 (2^(8+e/16))));have f:=b.oat.set O 2 O (.int .i64 (wrap64 (2^(8+e/16))));have m:=G.fr l O;have I:=(b2.fr q a2).fr l (λk i n=>by have:=Q k i;omega);have h:=Fr.to_kept b.kept l (λD E n=>O);generalize p.setCell ⟨w.heap.size,2,none⟩ (.int .i64 (wrap64 (2^(8+e/16))))=g at *;have c1:g.cell? ⟨w.heap.size+1,3,none⟩=some (.int .i64 10):=m.c3;have d2:=c.c5;have d3:=c.c6;have d4:=f.fz;have a7:Z (∀a,BAt a (w.heap.size+1) (.slice B z.length C) ⟨16,false,10⟩->ZAt a (.slice B z.length C) z->Calls prog 68 #[.pointer (some ⟨w.heap.size+1,0,none⟩)] a λd y=>d=.returned (.int .i64 (Px.aB z 16))/\Kept a y):=λa a8 a9=>ej _ _ z ⟨16,false,10⟩ a a8 a9 i (by show 0<16;omega) a6
      have b0:Z _:=I;have b1:Z (OAt g w.heap.size (w.heap.size+2) (.slice none 0 0) []/\SC g w.heap.size false false 0 0 0/\Kept w g):=⟨f,c,h⟩;clear c f h l b H G I W X q a3;go_loopw [7] (λY a=>Y=.bool false/\a=g) (λ_ _=>0)
      case atStart=>exact⟨rfl,rfl⟩
      case round=>
       obtain⟨rfl,rfl⟩:=hrel;go_wp2_with fail;refine(F.o _ m).mono ?_;rintro d j ⟨rfl,rfl⟩;go_wp2_with fail;refine(F.o _ m).mono ?_;rintro d j ⟨rfl,rfl⟩;go_wp2_with fail;obtain⟨f,c,h⟩:=b1.o;have o:Fr1 w.heap.size j (j.setCell ⟨w.heap.size,5,none⟩ (.int .i64 10)):=(Fr1.refl _ _).set _ _;have J:SC (j.setCell ⟨w.heap.size,5,none⟩ (.int .i64 10)) w.heap.size false false 10 0 0:=c.setErr 10;have K:=f.set O 5 O (.int .i64 10);have M:=m.fr o O;have N:=b0.o.fr o (λk i n=>by have:=Q k i;omega);have P:=Fr.to_kept h o (λD E n=>O);generalize j.setCell ⟨w.heap.size,5,none⟩ (.int .i64 10)=d5 at *;refine(a7.o _ M N).mono ?_;rintro d r ⟨rfl,s⟩;have t:=J.kept s;have u:=K.kept s;have d6:=t.c6;have d7:=u.fz 6;have A:Fr1 w.heap.size r (r.setCell ⟨w.heap.size,6,none⟩ (.int .i64 (Px.aB z 16))):=(Fr1.refl _ _).set _ _;have a0:Z (iB w (r.setCell ⟨w.heap.size,6,none⟩ (.int .i64 (Px.aB z 16))) z w.heap.size (.slice none 0 0) [] false false 10 (Px.aB z 16) 0) :=
        ⟨u.set O 6 O _,t.setAt _,Fr.to_kept (P.trans s) A (λD E n=>O),(λc2 a1=>by cases a1),Xi,L ⟨_,V.o,rfl,rfl,rfl,rfl,rfl⟩⟩
       clear t u A J K M N P o f c h;go_wp2;go_ret;exact⟨rfl,_,_,_,_,_,_,_,a0.o⟩
     .exfalso
      have:=e9.o
      unfold Px.dM at this;omega
 .have b3:(((⟨0,false,0⟩:Px.Bt).num z 8).num z 8)=⟨8*z.length,true,0⟩:=by
   by_cases A:0+8<=8*z.length
   .rw[Px.bW A,Px.cy O]
   .rw[Px.cy O,Px.fY rfl]
  rw[b3] at a5;have V:=U (Px.IU a6);have e4:=a5.c2;have W:=x.c2;have X:=x.oat.fz;have F:Z (∀a,BAt a (w.heap.size+1) (.slice B z.length C) ⟨8*z.length,true,0⟩->Calls prog 61 #[.pointer (some ⟨w.heap.size+1,0,none⟩)] a λd y=>d=.returned (.bool false)/\y=a):=λa d1=>bb _ _ _ a d1
  clear b3 b5 c5 c6 b6 b8 b7 c0 c4 c7 c8;go_wp2_with fail;have l:Fr1 w.heap.size b9 (b9.setCell ⟨w.heap.size,2,none⟩ (.int .i64 (wrap64 (2^(8+e/16))))):=(Fr1.refl _ _).set _ _;have c:=x.sc.two 2 O (.int .i64 (wrap64 (2^(8+e/16))));have f:=x.oat.set O 2 O (.int .i64 (wrap64 (2^(8+e/16))));have m:=a5.fr l O;have h:=Fr.to_kept x.kept l (λD E n=>O);generalize b9.setCell ⟨w.heap.size,2,none⟩ (.int .i64 (wrap64 (2^(8+e/16))))=g at *;have a0:Z (iB w g z w.heap.size (.slice none 0 0) [] false false 0 0 0):=⟨f,c,h,(λc2 a1=>by cases a1),Xi,L ⟨_,V.o,rfl,rfl,rfl,rfl,rfl⟩⟩;have c1:g.cell? ⟨w.heap.size+1,3,none⟩=some (.int .i64 0):=m.c3;clear c f h l x a5 b2 e4 W X;go_loopw [7] (λY a=>Y=.bool false/\a=g) (λ_ _=>0)
  case atStart=>exact⟨rfl,rfl⟩
  case round=>
   obtain⟨rfl,rfl⟩:=hrel;go_wp2_with fail;refine(F.o _ m).mono ?_;rintro d j ⟨rfl,rfl⟩;go_wp2_with fail;refine(F.o _ m).mono ?_;rintro d j ⟨rfl,rfl⟩;go_wp2;go_ret;exact⟨rfl,_,_,_,_,_,_,_,a0.o⟩
abbrev K0c(t:Nat)(l:Bool):Array Value:=#[.int .i64 (t:Int),.int .i64 0,.bool l,.slice none 0 0,.slice none 0 0,.slice none 0 0]
theorem MP{w W s b N v ov bv out nb win}(h:RI w W s b N ov bv out nb win)(p:b<W.heap.size)(i:b<N)(k:s<N)(m:N<=W.heap.size)(n:s≠b)(q:w.heap.size<=s/\w.heap.size<=b)(o:∀a,ae v=some a->a<w.heap.size)t l:Base (W.alloc (.cells (K0c t l) 134)) b s W.heap.size N v ov/\Env (W.alloc (.cells (K0c t l) 134)) (W.alloc (.cells (K0c t l) 134)) b s W.heap.size N ov ov out 0/\(W.alloc (.cells (K0c t l) 134)).cell? ⟨W.heap.size,3,none⟩=some (.slice none 0 0)/\RI w (W.alloc (.cells (K0c t l) 134)) s b N ov bv out nb win/\(∀j,(W.alloc (.cells (K0c t l) 134)).cell? ⟨W.heap.size,j,none⟩=(K0c t l)[j]?):=by
 have r:=h.sc.lt;have f:Kept W (W.alloc (.cells (K0c t l) 134)):=(Xs _ _).alloc (E _) _;have d:∀j,(W.alloc (.cells (K0c t l) 134)).cell? ⟨W.heap.size,j,none⟩=(K0c t l)[j]? := λj=>by rw[Xr _ _ _ _ rfl]
 have g:W.heap.size<(W.alloc (.cells (K0c t l) 134)).heap.size:=Xi;have u:=h.kept.size;refine⟨⟨λa c => ?_,i,k,Xz m (Yx g),g,n,O,O,λe => ?_⟩,⟨h.oat.kept f,λ_ _=>rfl,⟨⟨0,d 1⟩,λj=>XB _ _ _ _ rfl⟩,λ_ _ _=>rfl,⟨_,[],d 3,XR _ _ _ _,(λa c=>by cases c)⟩,Fr.refl _ _,λa c=>L c⟩,d 3,h.kept' f,d⟩
 .have:=o a c
  refine⟨O,O,O,λe => ?_,O⟩
  have:=(h.oat.own.lt a e).1
  omega
 .have:=(h.oat.own.lt _ e).2
  omega
theorem Nc{w W1 W2 s b k N v ov ov' bv out out' nb win m}(h:RI w W1 s b N ov bv out nb win)(f:Base W1 b s k N v ov)(d:Env W1 W2 b s k N ov ov' out' m)(p:w.heap.size<=s/\w.heap.size<=b/\w.heap.size<=k)(j:bv.ownBlock≠some k):RI w W2 s b N ov' bv out' nb win:=by
 obtain⟨l,g⟩:=h.own;have n:∀c,bv.ownBlock=some c->¬(c=b\/c=s\/c=k\/ov.ownBlock=some c):=by
  intro c e;have q:=(g.lt c e).1
  have:=f.bN
  have:=f.sN
  rintro(a|a|a|a)
  .omega
  .omega
  .exact j (by rw[e,a])
  .exact h.dis c e a
 refine⟨d.oat,⟨(d.sc 3 O).trans h.sc.c3,(d.sc 4 O).trans h.sc.c4,(d.sc 5 O).trans h.sc.c5,(d.sc 6 O).trans h.sc.c6,(d.sc 7 O).trans h.sc.c7⟩,(d.sc 1 O).trans h.c1,(d.sc 2 O).trans h.c2,⟨l,aU g d.fr n⟩,?_,Fr.to_kept h.kept d.fr (λo r a => ?_)⟩
 .intro c e a
  rcases d.blk c a with i|i
  .exact h.dis c e i
  .have:=(g.lt c e).2;omega
 .rcases a with a|a|a|a
  .omega
  .omega
  .omega
  .have:=(h.oat.own.lt o a).1
   have:=f.sN
   omega
theorem RI.win'{w W s b N ov bv out nb win}(h:RI w W s b N ov bv out nb win)(a:s<N)(c:w.heap.size<=s)(n:Nat):RI w (W.setCell ⟨s,2,none⟩ (.int .i64 n)) s b N ov bv out nb n:=by
 obtain⟨d,e⟩:=h.own;refine⟨h.oat.set a 2 O _,h.sc.two 2 O _,?_,ai h.c2 _,⟨d,Yf e (show s<N from a) _⟩,h.dis,h.kept.setCell c _⟩;rw[aa _ _ _ _ _ O];exact h.c1
end Go.Proofs.YtgooinallljbpaaGreatDoor
namespace Px
theorem z3 k a:a<=nt k a:=by unfold nt up8;split<;>omega
theorem Step.le{z a b s t}(h:Step z a s b t):a<=b:=by
 cases h using Px.Step.cs with
 | num d f e=>rename_i c _;have:=z3 ‹Bool› (a+c);omega
 | sym d g e=>rename_i i j c _;have:=z3 ‹Bool› (a+c);omega
theorem Run.le{z a b s t}(h:Run z a s b t):a<=b:=by
 induction h using Px.Run.cs with
 | refl=>exact E _
 | tail _ c d=>exact Xz d c.le
theorem Ends.le{z a0 a s0 r o}(h:Ends z a0 s0 a r o):a0<=a:=by
 obtain⟨d,e,b,_,⟨c,_,rfl,_,_⟩|⟨f,g,c,_,_,rfl,_⟩⟩:=h
 .have:=b.le;omega
 .have:=b.le;omega
theorem Fails.le{z a b e s}(h:Fails z a s e b):a<=b:=by cases h using Fails.cs<;>omega
theorem Stop.le{z a0 s0 o t}(h:Stop z a0 s0 o t)(a:a0<=8*z.length):a0<=t.a/\t.a<=8*z.length:=by
 cases h using Px.Stop.cs with
 | cut=>exact⟨a,E _⟩
 | err e f g b h c i j d=>have:=h.le;have:=c.le;exact⟨by show a0<=b;omega,d⟩
end Px
namespace Go.Proofs.YtgooinallljbpaaGreatDoor
open Go.RowKit Tryz
def BE(z:List Px.One)(l:Bool)(win:Nat)(t:Px.Bt)(out:List Px.One):Prop:=
 (l=false/\t=⟨t.a,false,0⟩/\t.a<=8*z.length/\∃s1:Px.St,s1.window=win/\Px.Run z 0 Px.St.start t.a (Px.blS s1 out)) \/
 (l=true/\t=⟨t.a,false,0⟩/\t.a<=8*z.length/\∃s1:Px.St,s1.window=win/\Px.Run z 0 Px.St.start (Px.up8 t.a) {s1 with ph := .sum,o:=out}) \/
 Px.Stop z 0 Px.St.start out t
theorem JD{t:Px.Bt}(a:t.cut=false)(b:t.err=0):t=⟨t.a,false,0⟩:=by cases t;simp only at a b;rw[a,b]
theorem L0{z a0 s0 st out' t'}(r:Px.Run z 0 Px.St.start a0 s0)(h:(t'.cut=false/\t'.err=0/\t'.a<=8*z.length/\∃a,Px.Ends z a0 s0 t'.a (Px.ebS st out') a)\/Px.Stop z a0 s0 out' t'):BE z st.last st.window t' out':=by
 rcases h with⟨b,c,d,a,g⟩|h
 .have e:=Px.Ends.after r g
  cases f:st.last with
  | false=>exact L ⟨rfl,JD b c,d,st,rfl,Px.Fp e f⟩
  | true=>exact R (L ⟨rfl,JD b c,d,st,rfl,Px.Fq e f⟩)
 .exact R (R (h.after r))
structure RL (w W:World) (z:List Px.One) (v:Value) (win:Nat) (l:Bool) (t:Px.Bt) (ov bv:Value) (out:List Px.One) (nb:Nat):Prop where
 ri:RI w W w.heap.size (w.heap.size+1) (w.heap.size+2) ov bv out nb win
 bat:BAt W (w.heap.size+1) v t
 zat:ZAt W v z
 sz:w.heap.size+2<=W.heap.size
 len:out.length<=258*t.a
 nb:nb<=t.a
 be:BE z l win t out
 a16:16<=t.a
def qm(z:List Px.One)(t:Px.Bt):Nat:=if t.on=true then 8*z.length-t.a+1 else 0
theorem SP.less{z a a0 s0 st out' t'}(f:a<a0)(h:(t'.cut=false/\t'.err=0/\t'.a<=8*z.length/\∃b,Px.Ends z a0 s0 t'.a (Px.ebS st out') b)\/Px.Stop z a0 s0 out' t'):qm z t'<8*z.length-a+1:=by
 unfold qm;rcases h with⟨c,d,g,b,e⟩|h
 .have:=e.le
  rw[I (by unfold Px.Bt.on;rw[c,d];rfl)];omega
 .rw[h.off,N Xh]
  omega
theorem BE.off{z l win t out}(h:BE z l win t out)(a:t.on=false):Px.Stop z 0 Px.St.start out t:=by
 rcases h with⟨_,b,_⟩|⟨_,b,_⟩|h
 .rw[b] at a;exact absurd a (by unfold Px.Bt.on;simp)
 .rw[b] at a;exact absurd a (by unfold Px.Bt.on;simp)
 .exact h
theorem BE.on0{z win t out}(h:BE z false win t out)(b:t.on=true):t=⟨t.a,false,0⟩/\t.a<=8*z.length/\∃c:Px.St,c.window=win/\Px.Run z 0 Px.St.start t.a (Px.blS c out):=by
 rcases h with⟨_,a,d,e⟩|⟨a,_⟩|h
 .exact⟨a,d,e⟩
 .cases a
 .rw[h.off] at b;cases b
theorem BE.on1{z win t out}(h:BE z true win t out)(b:t.on=true):t=⟨t.a,false,0⟩/\t.a<=8*z.length/\∃c:Px.St,c.window=win/\Px.Run z 0 Px.St.start (Px.up8 t.a) {c with ph := .sum,o:=out}:=by
 rcases h with⟨a,_⟩|⟨_,a,d,e⟩|h
 .cases a
 .exact⟨a,d,e⟩
 .rw[h.off] at b;cases b
structure SwR (w W:World) (z:List Px.One) (v:Value) (k win nb a:Nat) (l:Bool) (bv ov:Value) (out:List Px.One) (t:Px.Bt):Prop where
 ri:RI w W w.heap.size (w.heap.size+1) (w.heap.size+2) ov bv out nb win
 bat:BAt W (w.heap.size+1) v t
 zat:ZAt W v z
 sz:w.heap.size+2<=W.heap.size
 len:out.length<=258*t.a
 ge:a+3<=t.a
 be:BE z l win t out
 left:qm z t<8*z.length-a+1
 klt:k<W.heap.size
 kbv:bv.ownBlock≠some k
 c0:∃x:Int,W.cell? ⟨k,0,none⟩=some (.int .i64 x)
 c1:∃x:Int,W.cell? ⟨k,1,none⟩=some (.int .i64 x)
 c2:∃x:Bool,W.cell? ⟨k,2,none⟩=some (.bool x)
 c3:∃p n c,W.cell? ⟨k,3,none⟩=some (.slice p n c)
 c4:∃p n c,W.cell? ⟨k,4,none⟩=some (.slice p n c)
 c5:∃p n c,W.cell? ⟨k,5,none⟩=some (.slice p n c)
theorem swr{w W0 W z v ov ov' bv}{k n p a d m:Nat}{l out out' s0 st t'}(u:RI w W0 w.heap.size (w.heap.size+1) (w.heap.size+2) ov bv out p n)(h:Base W0 (w.heap.size+1) w.heap.size k (w.heap.size+2) v ov)(S:qq W0 (w.heap.size+1) w.heap.size k (w.heap.size+2) v ov z d s0 st W ov' out' t')(x:ZAt W0 v z)(y:w.heap.size<=k)(q:bv.ownBlock≠some k)(r:Px.Run z 0 Px.St.start d s0)(U:a+3<=d)(A:d<=8*z.length)(B:st.last=l)(C:st.window=n)(D:∃o:Int,W0.cell? ⟨k,0,none⟩=some (.int .i64 o))(F:∃o:Bool,W0.cell? ⟨k,2,none⟩=some (.bool o))(G:∃e f g,W0.cell? ⟨k,4,none⟩=some (.slice e f g))(H:∃e f g,W0.cell? ⟨k,5,none⟩=some (.slice e f g)):SwR w W z v k n p a l bv ov' out' t':=by
 obtain⟨V,c⟩:=S.env;have X:d<=t'.a:=by
  rcases S.st with⟨_,_,_,Y,I⟩|J
  .exact I.le
  .exact(J.le A).1
 obtain⟨K,Z,L,M,_⟩:=c.kt;obtain⟨N,P,Q,R⟩:∃e f g,K=.slice e f g:=by
  rcases M.2 with⟨b,_⟩|⟨s,a0,a1,b,_⟩
  .exact⟨_,_,_,b⟩
  .exact⟨_,_,_,b⟩
 have i:=c.kc;have t:=L0 r S.st;rw[B,C] at t;refine⟨Nc u h c ⟨E _,O,y⟩ q,S.bat,x.fr c.fr (λs T b => ?_),Xz h.N c.fr.size,S.len,O,t,SP.less O S.st,Xq h.kw c.fr.size,q,?_,c.kat.c1,?_,⟨N,P,Q,by rw[L,R]⟩,?_,?_⟩
 .have j:=h.vz s T
  rcases b with b|b|b|b
  .exact j.1 b
  .exact j.2.1 b
  .exact j.2.2.1 b
  .exact j.2.2.2.1 b
 .rw[i 0 O O];exact D
 .rw[i 2 O O];exact F
 .rw[i 4 O O];exact G
 .rw[i 5 O O];exact H
theorem I7{W b s k N ov out}(h:OAt W s N ov out)(c:KAt W k)(d:W.cell? ⟨k,3,none⟩=some (.slice none 0 0)):Env W W b s k N ov ov out 0:=
 ⟨h,λ_ _=>rfl,c,λ_ _ _=>rfl,⟨_,[],d,XR _ _ _ _,(λe a=>by cases a)⟩,Fr.refl _ _,λe a=>L a⟩
theorem yv{W v l g}(h:IAt W v l)(c:0<l.length)(a:ae v=some g):g<W.heap.size:=by
 obtain⟨d,e,b⟩:=h.form;obtain⟨f,k,i,j⟩:=h.cells d e b 0 c;rw[b,i] at a
 have:f=g:=Ym a
 rw[<-this];exact B _ _ j
theorem yE:Px.bS Px.bc:=⟨Xl,Xl⟩
theorem wo:Px.bS Px.bL:=⟨Xl,Xl⟩
theorem xc{w W z v ov bv lv dv k win nb a a1 l out st lit dist}(c:RI w W w.heap.size (w.heap.size+1) (w.heap.size+2) ov bv out nb win)(x:BAt W (w.heap.size+1) v ⟨a1,false,0⟩)(o:ZAt W v z)(y:Px.good z)(p:Base W (w.heap.size+1) w.heap.size k (w.heap.size+2) v ov)(A:KAt W k)(q:W.cell? ⟨k,3,none⟩=some (.slice none 0 0))(B:∃d:Int,W.cell? ⟨k,0,none⟩=some (.int .i64 d))(C:∃d:Bool,W.cell? ⟨k,2,none⟩=some (.bool d))(D:∃e f g,W.cell? ⟨k,4,none⟩=some (.slice e f g))(E:∃e f g,W.cell? ⟨k,5,none⟩=some (.slice e f g))(F:IAt W lv lit)(G:IAt W dv dist)(H:Px.bS lit)(I:Px.bS dist)(J:∀b,ae lv=some b->b≠w.heap.size+1/\b≠w.heap.size/\b≠k/\ov.ownBlock≠some b/\b<W.heap.size)(K:∀b,ae dv=some b->b≠w.heap.size+1/\b≠w.heap.size/\b≠k/\ov.ownBlock≠some b/\b<W.heap.size)(L:Px.Run z 0 Px.St.start a1 (Px.syS st lit dist st.o))(M:a+3<=a1)(r:a1<=8*z.length)(s:st.o=out)(N:st.last=l)(h:st.window=win)(O:win<=32768)(P:out.length<=258*a1)(Q:w.heap.size<=k)(R:bv.ownBlock≠some k):Calls prog 65 #[.pointer (some ⟨w.heap.size,0,none⟩),.pointer (some ⟨w.heap.size+1,0,none⟩),.pointer (some ⟨k,0,none⟩),lv,dv] W λt u=>t=.returned (.tuple #[])/\∃i j n,SwR w u z v k win nb a l bv i j n:=by
 refine(FM (w.heap.size+1) w.heap.size k (w.heap.size+2) v ov lv dv z a1 st lit dist W x o y r p (by rw[s];exact I7 c.oat A q) q (by rw[h];exact c.c2) (by rw[h];exact O) (by rw[s];exact P) F G H I J K).mono ?_;rintro t u ⟨i,j,n,rfl,S⟩;exact⟨rfl,i,j,n,swr (m:=0) c p S o Q R L M r N h B C D E⟩
theorem RI.k{w W W' s b N k ov bv out nb win}(h:RI w W s b N ov bv out nb win)(n:w.heap.size<=k)(d:s≠k)(g:ov.ownBlock≠some k)(i:bv.ownBlock≠some k)(q:Fr1 k W W'):RI w W' s b N ov bv out nb win:=by
 have e:=h.sc.lt;refine⟨h.oat.fr q d (λf a c=>by have:f=k:=c;rw[this] at a;exact g a),h.sc.same (q.block s e d),(q.cell e d).trans h.c1,(q.cell e d).trans h.c2,?_,h.dis,Fr.to_kept h.kept q (λj o c=>by have:j=k:=c;omega)⟩;obtain⟨l,m⟩:=h.own;exact⟨l,aU m q (λf a c=>by have:f=k:=c;rw[this] at a;exact i a)⟩
theorem wB{z o t}(c:Px.good z)(h:Px.Stop z 0 Px.St.start o t):Px.dx o:=by
 cases h using Px.Stop.cs with
 | cut d e h f a=>rw[<-a];exact h.good c (λg b=>by cases b)
 | err d e i j h f a k l=>rw[<-a];exact h.good c (λg b=>by cases b)
theorem N0{w ops o a}{p:Act->World->Prop}{q:Exit->Act->World->Prop}{r:Prop}(t:o.guard=none)s x(u:o.op=Op.call {callee:=Callee.builtin Builtin.append,args:=#[s,x],argTypes:=#[107,107]})N v n xs(y:a.eval s=v)(z:w.ownsRow N 134 6 v n xs)g c news(A:a.eval x=.slice (some ⟨g,0,none⟩) 1 c)(l:news.length=6)(B:∀j b,news[j]? = some b->w.cell? ⟨g,j,none⟩=some b)(m:∀b∈news,b.oneCell'=true)(M:n+1<=100000000)(C:N<=w.heap.size)(D:∀d h e,e.ownsRow N 134 6 (.slice (some ⟨d,0,none⟩) (n+1) h) (n+1) (xs++news)->Fr (λk=>v.ownBlock=some k) w e->(v.ownBlock=some d\/w.heap.size<=d)->p (a.put o.dst (.slice (some ⟨d,0,none⟩) (n+1) h)) e):if Region.wanted o (yielded ops a.tmps)=true then Oper.wp prog o a w p q else r:=by
 obtain⟨E,F,G,H,I⟩:=info_parts EX;refine step_append_lies w t s x 107 u N 134 E (.agg #[.int .i64 0,.int .i64 0,.bool false,.slice none 0 0,.slice none 0 0,.slice none 0 0]) 6 96 underlying107 F G H I rfl O v n xs y z ⟨g,0,none⟩ 1 c news A (by rw[l]) ?_ m O Xn O C w.heap.size rfl ?_
 .intro j b J
  have i:(⟨g,0,none⟩:Addr).add j=⟨g,j,none⟩:=by unfold Addr.add;split<;>simp_all
  rw[i];exact B j b J
 .intro d h e m f K P
  exact D d h e m ⟨f.os,f.tape,f.output,f.size,λk L l=>f.block k L (λi=>l i.symm)⟩ (match K with|.inl a=>.inl a|.inr i=>.inr O)
theorem RI.blkF{w W W2 s b N ov bv bv' out nb nb' win ys'}(h:RI w W s b N ov bv out nb win)(i:s<N)(q:w.heap.size<=s)(d:Fr (λa=>bv.ownBlock=some a) W W2)(m:W2.ownsRow N 134 6 bv' nb' ys')(n:∀a,bv'.ownBlock=some a->bv.ownBlock=some a\/W.heap.size<=a):RI w (W2.setCell ⟨s,1,none⟩ bv') s b N ov bv' out nb' win:=by
 have f:=h.sc.lt;obtain⟨r,j⟩:=h.own;have e:¬bv.ownBlock=some s:=λc=>by have:=(j.lt s c).1;omega
 have o:Fr (λa=>a=s\/bv.ownBlock=some a) W (W2.setCell ⟨s,1,none⟩ bv'):=by
  have p:Fr (λa=>a=s\/bv.ownBlock=some a) W W2:=d.mono (λk _ c=>R c);exact p.setCell (L (L rfl)) _ _
 refine⟨(h.oat.fr d e (λa g c=>h.dis a c g)).set i 1 O _,(h.sc.same (d.block s f e)).two 1 O _,ai ((d.cell f e).trans h.c1) _,?_,⟨ys',Yf m (show s<N from i) _⟩,?_,Fr.to_kept h.kept o (λk t c => ?_)⟩
 .rw[aa _ _ _ _ _ O,d.cell f e];exact h.c2
 .intro a g c
  rcases n a g with l|l
  .exact h.dis a l c
  .have:=(h.oat.own.lt a c).2;omega
 .rcases c with c|c
  .omega
  .have:=(j.lt k c).1;omega
theorem KH v z w(hz:ZAt w v z)(hg:Px.good z)(hvw:∀g,ae v=some g->g<w.heap.size)(h16:16<=8*z.length)(hon:¬Px.dM (Px.ab z 0 8) (Px.ab z 8 8)):Calls prog 41 #[v] w λr w'=>r=.returned (.pointer (some ⟨w.heap.size,0,none⟩))/\Mi w w' z w.heap.size:=by
 have hz2:=hg.2.1;have ST:=zN w v;obtain⟨vp,vc,rfl⟩:=hz.form;have HST:Z _:=ST;clear ST;go_enter func41,ntmps41;go_wp2_with fail;obtain⟨hR1,hb1⟩:=HST.o;generalize (w.alloc (.cells S0c 109)).alloc (.cells #[.slice vp z.length vc,.int .i64 0,.bool false,.int .i64 0] 129)=w1 at *;have hvb:∀g,ae (.slice vp z.length vc)=some g->g≠w.heap.size+1:=λg hg=>by have:=hvw g hg;omega
 have hz1:=hz.fr (S:=λ_=>False) (Fr.of_kept hR1.kept) (λ_ _ e=>e);refine(gC (w.heap.size+1) _ z _ 8 w1 hb1 hz1 hvb hg (by show 0<=_;omega) O).mono ?_;rintro r w2 ⟨c,rfl,hc,hc2,hb2,hw2⟩;have hz2':=hz1.fr hw2 hvb;go_wp2_with fail;refine(gC (w.heap.size+1) _ z _ 8 w2 hb2 hz2' hvb hg (KZ 8 (by show 0<=_;omega)) O).mono ?_;rintro r w3 ⟨f,rfl,hf,hf2,hb3,hw3⟩;have hR3:=(hR1.b O O O hw2).b O O O hw3;have hz3:=hz2'.fr hw3 hvb;have HC2:Z _:=hc2;have HF2:Z _:=hf2;clear hc2 hf2;have e3:(((⟨0,false,0⟩:Px.Bt).num z 8).num z 8)=⟨16,false,0⟩:=by
  rw[Px.bW (show 0+8<=8*z.length from O),Px.bW (show 0+8+8<=8*z.length from O)]
 have e2:=Px.bW (show 0+8<=8*z.length from O);rw[e3] at hb3;have q1:=HC2.o Xi (by show 0+8<=_;omega);have q2:f=Px.ab z 8 8:=by
  have:=HF2.o
  rw[e2] at this;exact this Xi (by show 8+8<=_;omega)
 have k2:=hb3.c2;have HRUN:Z (Px.Run z 0 Px.St.start 16 {Px.St.start with ph := .block,window:=2^(8+c/16)}):=by
  rw[q1];exact Px.Lm h16 hon
 rw[<-q1,<-q2] at hon;unfold Px.dM at hon;have g1:((c:Int)%16 != 8)=false:=Xc;have g2:(c:Int)/16<=7:=O;have g3:((256*(c:Int)+(f:Int))%31 != 0)=false:=Xc;have g4:((f:Int)/32%2==1)=false:=Xa;have s2:=hR3.c2;have hfs:=hR3.oat.fz;have HR3:Z _:=hR3;clear e2 e3 q1 q2 hR1 hb1 hb2 hz1 hz2' hw2 hw3 HST HC2 HF2 hon hR3;have hwin:wrap64 (2^(8+c/16))=((2^(8+c/16):Nat):Int):=by
  have hp:2^(8+c/16)<=2^15:=XH O O;have e:(2:Int)^(8+c/16)=((2^(8+c/16):Nat):Int):=Xi;rw[e];generalize 2^(8+c/16)=m at *;exact bp _ O O
 have hw15:=XH (n:=2) O (by omega:8+c/16<=15);have hO4:Z (RI w (w3.setCell ⟨w.heap.size,2,none⟩ (.int .i64 ((2:Int)^(8+c/16)))) w.heap.size (w.heap.size+1) (w.heap.size+2) (.slice none 0 0) (.slice none 0 0) [] 0 (2^(8+c/16))):=by
  have e:(2:Int)^(8+c/16)=((2^(8+c/16):Nat):Int):=Xi;rw[e];exact HR3.o.win' O (Nat.le_refl _) _
 go_upto_block 0 with fail
 have hlt4:Fr1 w.heap.size w3 (w3.setCell ⟨w.heap.size,2,none⟩ (.int .i64 ((2:Int)^(8+c/16)))):=(Fr1.refl _ _).set _ _;have hRL:RL w (w3.setCell ⟨w.heap.size,2,none⟩ (.int .i64 ((2:Int)^(8+c/16)))) z (.slice vp z.length vc) (2^(8+c/16)) false ⟨16,false,0⟩ (.slice none 0 0) (.slice none 0 0) [] 0:=
  ⟨hO4.o,hb3.fr hlt4 O,hz3.fr hlt4 (λg hg e=>by have:=hvw g hg;omega),by have:=hO4.o.kept.size;have:=hlt4.size;have:=hb3.lt;omega,Xi,Xi,L ⟨rfl,rfl,h16,{Px.St.start with ph := .block,window:=2^(8+c/16)},rfl,HRUN.o⟩,Nat.le_refl _⟩
 generalize w3.setCell ⟨w.heap.size,2,none⟩ (.int .i64 ((2:Int)^(8+c/16)))=W4 at *;generalize 2^(8+c/16)=win at *;have HL:Z _:=hRL;have ON:Z (∀W t,BAt W (w.heap.size+1) (.slice vp z.length vc) t->Calls prog 61 #[.pointer (some ⟨w.heap.size+1,0,none⟩)] W λr w'=>r=.returned (.bool t.on)/\w'=W):=λW t hW=>bb _ _ _ W hW
 clear hRL hlt4 hO4 HR3 s2 hfs k2 hb3 hz3 HRUN g1 g2 g3 g4 hwin;go_cut [7,8,9,10,11,12,13,14] from 15 (λv7 v8 v9 J0 A0 zd xq tx W=>∃l t ov bv out nb,RL w W z (.slice vp z.length vc) win l t ov bv out nb/\(t.on=false\/l=true))
 case first=>
  go_wp2_with fail;go_loopg [7,8,9,10,11,12,13,14] (qm z ⟨16,false,0⟩) (λm v7 v8 v9 J0 A0 zd xq tx W=>∃l t ov bv out nb,v7=.bool l/\m=qm z t/\RL w W z (.slice vp z.length vc) win l t ov bv out nb)
  case atStart=>exact⟨false,_,_,_,_,_,rfl,rfl,HL.o⟩
  case round=>
   obtain⟨l,t,ov,bv,out,nb,rfl,hm,hL⟩:=hrel;have HM:Z _:=hm;have F1:=U (ON.o wr t hL.bat);have H1:Z _:=hL;clear HL hL hm;cases ho:t.on with
   | false=>
    rw[ho] at F1;go_wp2_with fail;refine F1.o.mono ?_;rintro r w5 ⟨rfl,hw5⟩;subst w5;go_wp2_with fail;go_meet
    case rel=>exact⟨l,t,ov,bv,out,nb,H1.o,L ho⟩
   | true=>
    rw[ho] at F1;cases l with
    | true=>
     go_wp2_with fail;refine F1.o.mono ?_;rintro r w5 ⟨rfl,hw5⟩;subst w5;go_wp2_with fail;go_meet
     case rel=>exact⟨true,t,ov,bv,out,nb,H1.o,R rfl⟩
    | false=>
     obtain⟨te,ta,s1,hs1,hrun⟩:=H1.o.be.on0 ho;obtain⟨a,ea⟩:∃a,a=t.a:=⟨_,rfl⟩;rw[<-ea] at te ta hrun;subst te;have HRN:=U hrun;clear hrun ea ho;by_cases h3:a+3<=8*z.length
     .have FB:=U (tL (w.heap.size+1) (.slice vp z.length vc) z ⟨a,false,0⟩ wr H1.o.bat H1.o.zat hg (by show a+1<=_;omega))
      go_wp2_with fail;refine F1.o.mono ?_;rintro r w5 ⟨rfl,hw5⟩;subst w5;go_wp2_with fail;refine FB.o.mono ?_;rintro r w6 ⟨rfl,hb6,hf6⟩;have hz6:=H1.o.zat.fr hf6 hvb;have FN:Z (Calls prog 59 #[.pointer (some ⟨w.heap.size+1,0,none⟩),.int .i64 ((2:Nat):Int)] w6 λr w'=>r=.returned (.int .i64 (Px.ab z (a+1) 2:Int))/\BAt w' (w.heap.size+1) (.slice vp z.length vc) ⟨a+3,false,0⟩/\Fr1 (w.heap.size+1) w6 w'):=by
       refine(gC (w.heap.size+1) _ z _ 2 w6 hb6 hz6 hvb hg (by show a+1<=_;omega) O).mono ?_;rintro r w' ⟨x,rfl,_,h2,h3',h4⟩;rw[h2 rfl (by show a+1+2<=_;omega)];rw[Px.bW (show a+1+2<=8*z.length from O)] at h3';exact⟨rfl,h3',h4⟩
      have HF6:Z _:=hf6;clear hb6 hf6 hz6 FB F1;go_wp2_with fail;refine FN.o.mono ?_;rintro r w7 ⟨rfl,hb7,hf7⟩;have H7:Z _:=HF6.o.trans hf7;have B7:Z _:=hb7;have F2:=U (ON.o w7 ⟨a+3,false,0⟩ hb7);clear hb7 hf7 FN HF6;go_wp2_with fail;refine F2.o.mono ?_;rintro r w8 ⟨rfl,hw8⟩;subst w8;obtain⟨κ,hκ⟩:∃κ,κ=Px.ab z (a+1) 2:=⟨_,rfl⟩;obtain⟨LL,hLL⟩:∃LL:Bool,LL=(((Px.bs z a:Nat):Int)==1):=⟨_,rfl⟩;rw[<-hκ];have hsz7:w.heap.size+2<=w7.heap.size:=by have:=H1.o.sz;have:=H7.o.size;omega
      have hEN:Z _:=MP (v := .slice vp z.length vc) (H1.o.ri.b O O O H7.o) O O O hsz7 O ⟨Nat.le_refl _,O⟩ hvw κ LL;have hKLL:Z (LL=decide (Px.bs z a=1)):=by show LL=_;rw[hLL,X4,XI,XL];omega
      clear F2;go_upto_region 15 with fail
      rw[<-hLL];have Hκ:Z _:=hκ;rw[<-hκ];clear hκ hLL;generalize hW8:w7.alloc (.cells (K0c κ LL) 134)=w8 at *;obtain⟨hBs,hEn,hk3,hR8,hcl⟩:=hEN.o;have hK8:Kept w7 w8:=by rw[<-hW8];exact(Xs _ _).alloc (Nat.le_refl _) _
      have hb8:=B7.o.same (hK8.block _ O);have hz8:=(H1.o.zat.fr H7.o hvb).fr (S:=λ_=>False) (Fr.of_kept hK8) (λ_ _ e=>e);obtain⟨st,hst⟩:∃st:Px.St,st={s1 with last:=decide (Px.bs z a=1),o:=out}:=⟨_,rfl⟩;have st1:st.o=out:=by rw[hst]
      have st2:st.last=LL:=by rw[hst];exact hKLL.o.symm
      have st3:st.window=win:=by rw[hst];exact hs1
      have hnb:Z (bv.ownBlock≠some w7.heap.size):=λe=>by obtain⟨ys,hy⟩:=H1.o.ri.own;have:=(hy.lt _ e).2;have:=H7.o.size;omega
      have hol:out.length<=258*(a+3):=by have:=H1.o.len;replace this:out.length<=258*a:=this;omega
      have hu:a+3<=Px.up8 (a+3):=by unfold Px.up8;omega
      have hu2:=Px.Bj h3;have c4:∃p n c,w8.cell? ⟨w7.heap.size,4,none⟩=some (.slice p n c):=⟨_,_,_,hcl 4⟩;have c5:∃p n c,w8.cell? ⟨w7.heap.size,5,none⟩=some (.slice p n c):=⟨_,_,_,hcl 5⟩;have hsk:w.heap.size<=w7.heap.size:=O;have FST:Z (κ=0->Calls prog 63 #[.pointer (some ⟨w.heap.size,0,none⟩),.pointer (some ⟨w.heap.size+1,0,none⟩),.pointer (some ⟨w7.heap.size,0,none⟩)] w8 λr w'=>r=.returned (.tuple #[])/\∃ov' out' t',SwR w w' z (.slice vp z.length vc) w7.heap.size win nb a LL bv ov' out' t'):=λe0=>by
       refine(zA (w.heap.size+1) w.heap.size w7.heap.size (w.heap.size+2) (.slice vp z.length vc) ov z (a+3) st w8 hb8 hz8 hg h3 hBs (by rw[st1];exact hEn) (by rw[st1];exact hol)).mono ?_;rintro r w' ⟨ov',out',t',rfl,hS⟩;have rn:Px.Run z 0 Px.St.start (Px.up8 (a+3)) (Px.ssS st):=by rw[hst];have q:=Px.yU (s:=s1) (out:=out) HRN.o h3 (by rw[<-Hκ.o];exact e0);exact q
       exact⟨rfl,ov',out',t',swr (m:=0) hR8 hBs hS hz8 hsk hnb.o rn hu hu2 st2 st3 (⟨_,hcl 0⟩) (⟨_,hcl 2⟩) c4 c5⟩
      have FFL:Z (κ≠0->κ≠1->κ≠2->Calls prog 60 #[.pointer (some ⟨w.heap.size+1,0,none⟩),.int .i64 11] w8 λr w'=>r=.returned (.tuple #[])/\∃ov' out' t',SwR w w' z (.slice vp z.length vc) w7.heap.size win nb a LL bv ov' out' t'):=λe0 e1 e2=>by
       refine(cM (w.heap.size+1) (.slice vp z.length vc) ⟨a+3,false,0⟩ 11 w8 hb8 rfl rfl).mono ?_;rintro r w' ⟨rfl,hb9,hf9⟩;have hstop:=Px.Gl HRN.o h3 (by rw[<-Hκ.o];exact e0) (by rw[<-Hκ.o];exact e1) (by rw[<-Hκ.o];exact e2);have hkk:=hBs.kw;have hc9:∀j,w'.cell? ⟨w7.heap.size,j,none⟩=w8.cell? ⟨w7.heap.size,j,none⟩:=λj=>hf9.cell hkk (λe=>by have:w7.heap.size=w.heap.size+1:=e;omega)
       refine⟨rfl,ov,out,_,hR8.b O O O hf9,hb9,hz8.fr hf9 hvb,by have:=hf9.size;omega,hol,Nat.le_refl _,R (R hstop),?_,Xq hkk hf9.size,hnb.o,⟨_,(hc9 0).trans (hcl 0)⟩,⟨_,(hc9 1).trans (hcl 1)⟩,⟨_,(hc9 2).trans (hcl 2)⟩,⟨_,_,_,(hc9 3).trans (hcl 3)⟩,⟨_,_,_,(hc9 4).trans (hcl 4)⟩,⟨_,_,_,(hc9 5).trans (hcl 5)⟩⟩;unfold qm;rw[hstop.off,N Xh];omega
      have HB8:Z _:=hb8;have HZ8:Z _:=hz8;have HBS:Z _:=hBs;have HR8:Z _:=hR8;have HCL:Z _:=hcl;have HKA:Z _:=hEn.kat;have hk78:=hBs.kw;have HOL:Z _:=hol;have HST3:Z (st.o=out/\st.last=LL/\st.window=win):=⟨st1,st2,st3⟩;have HRD:Z (κ=1->Px.Run z 0 Px.St.start (a+3) (Px.syS st Px.bc Px.bL st.o)):=λe1=>by rw[hst];have q:=Px.AL (s:=s1) (out:=out) HRN.o h3 (by rw[<-Hκ.o];exact e1);exact q
      have HRY:Z (κ=2->Px.Run z 0 Px.St.start (a+3) (Px.coS st)):=λe1=>by rw[hst];have q:=Px.Gj (s:=s1) (out:=out) HRN.o h3 (by rw[<-Hκ.o];exact e1);exact q
      clear hb8 hz8 hBs hEn hR8 hcl hk3 c4 c5 st1 st2 st3 hst hEN hW8 hK8 hs1;go_upto_block 2 with fail
      go_cut [11,12,13,14] from 63 to 130 (λv11 zd xq tx W=>∃ov' out' t',SwR w W z (.slice vp z.length vc) w7.heap.size win nb a LL bv ov' out' t')
      case first=>
       by_cases k0:κ=0
       .have k0':((κ:Int)==0)=true:=by rw[XI];omega
        have Fd:=FST.o k0;replace Fd:Z _:=Fd;clear k0;go_wp2_with fail;refine X9 Fd.o ?_;rintro r w9 ⟨rfl,hs9⟩;go_wp2_with fail;go_meet
        case rel=>exact hs9
       have k0':((κ:Int)==0)=false:=Xa;by_cases k1:κ=1
       .have k1':((κ:Int)==1)=true:=by rw[XI];omega
        have FX:Z _:=Fb w8;have RN1:Z _:=HRD.o k1;clear k1 k0;go_wp2_with fail;refine X9 FX.o ?_;rintro r w9 ⟨lv,dv,rfl,hI1,hI2,hg1,hg2,hK9⟩;have hnew:∀g,w8.heap.size<=g->g<w9.heap.size->g≠w.heap.size+1/\g≠w.heap.size/\g≠w7.heap.size/\ov.ownBlock≠some g/\g<w9.heap.size:=λg h1 h2=>⟨O,O,O,λe=>by have:=(HR8.o.oat.own.lt g e).2;omega,h2⟩
        have cK:∀j,w9.cell? ⟨w7.heap.size,j,none⟩=(K0c κ LL)[j]? := λj=>(hK9.cell (p:=⟨w7.heap.size,j,none⟩) hk78).trans (HCL.o j)
        have FC:Z _:=xc (l:=LL) (a:=a) (a1:=a+3) (st:=st) (HR8.o.kept' hK9) (HB8.o.same (hK9.block _ O)) (HZ8.o.fr (S:=λ_=>False) (Fr.of_kept hK9) (λ_ _ e=>e)) hg (HBS.o.kept hK9) (HKA.o.same (hK9.block _ hk78)) (cK 3) ⟨_,cK 0⟩ ⟨_,cK 2⟩ ⟨_,_,_,cK 4⟩ ⟨_,_,_,cK 5⟩ hI1 hI2 yE wo (λg e=>hnew g (hg1 g e) (yv hI1 Xl e)) (λg e=>hnew g (hg2 g e) (yv hI2 Xl e)) RN1.o (Nat.le_refl _) h3 HST3.o.1 HST3.o.2.1 HST3.o.2.2 hw15 HOL.o hsk hnb.o;clear hI1 hI2 hg1 hg2 hnew cK FX RN1;go_wp2_with fail;refine X9 FC.o ?_;rintro r w10 ⟨rfl,hs10⟩;go_wp2_with fail;go_meet
        case rel=>exact hs10
       have k1':((κ:Int)==1)=false:=Xa;by_cases k2:κ=2
       .have k2':((κ:Int)==2)=true:=by rw[XI];omega
        have FX:Z _:=Ar (w.heap.size+1) (.slice vp z.length vc) z (a+3) st w8 HB8.o HZ8.o hvb hg h3;have RN2:Z _:=HRY.o k2;clear k0 k1 k2;go_wp2_with fail;refine X9 FX.o ?_;rintro r w9 ⟨lv,dv,t9,rfl,hD⟩;obtain⟨p4,n4,c4,rfl⟩:=hD.lf;obtain⟨p5,n5,c5,rfl⟩:=hD.df;have hne:¬w7.heap.size=w.heap.size+1:=O;have cK:∀j,w9.cell? ⟨w7.heap.size,j,none⟩=(K0c κ LL)[j]? := λj=>(hD.fr.cell hk78 hne).trans (HCL.o j)
        have hKA9:=HKA.o.same (hD.fr.block _ hk78 hne);have e4:w9.cell? ⟨w7.heap.size,4,none⟩=some (.slice none 0 0):=cK 4;have e5:w9.cell? ⟨w7.heap.size,5,none⟩=some (.slice none 0 0):=cK 5;have hfz:=hKA9.fz;have HD9:Z _:=hD;have CK:Z _:=cK;clear hD cK hKA9;go_wp2_with fail;have HF:Fr1 w7.heap.size w9 ((w9.setCell ⟨w7.heap.size,4,none⟩ (.slice p4 n4 c4)).setCell ⟨w7.heap.size,5,none⟩ (.slice p5 n5 c5)):=Fr1.set (Fr1.set (Fr.refl _ _) _ _) _ _;have x4:((w9.setCell ⟨w7.heap.size,4,none⟩ (.slice p4 n4 c4)).setCell ⟨w7.heap.size,5,none⟩ (.slice p5 n5 c5)).cell? ⟨w7.heap.size,4,none⟩=some (.slice p4 n4 c4):=(aa _ _ _ _ _ O).trans (ai e4 _);have x5:((w9.setCell ⟨w7.heap.size,4,none⟩ (.slice p4 n4 c4)).setCell ⟨w7.heap.size,5,none⟩ (.slice p5 n5 c5)).cell? ⟨w7.heap.size,5,none⟩=some (.slice p5 n5 c5):=ai ((aa _ _ _ _ _ O).trans e5) _;have xo:Z (∀j,j≠4->j≠5->((w9.setCell ⟨w7.heap.size,4,none⟩ (.slice p4 n4 c4)).setCell ⟨w7.heap.size,5,none⟩ (.slice p5 n5 c5)).cell? ⟨w7.heap.size,j,none⟩=(K0c κ LL)[j]?):=λj h4 h5=>(aa _ _ _ _ _ O).trans ((aa _ _ _ _ _ O).trans (CK.o j))
        have xf:Z (∀j,((w9.setCell ⟨w7.heap.size,4,none⟩ (.slice p4 n4 c4)).setCell ⟨w7.heap.size,5,none⟩ (.slice p5 n5 c5)).frozen? ⟨w7.heap.size,j,none⟩=false):=λj=>by rw[Xy,Xy];exact hfz j
        generalize (w9.setCell ⟨w7.heap.size,4,none⟩ (.slice p4 n4 c4)).setCell ⟨w7.heap.size,5,none⟩ (.slice p5 n5 c5)=w11 at *;have hD:=HD9.o;have hsz11:=HF.size;have hsz9:=hD.fr.size;have hb11:=hD.bat.fr HF O;have hz11:=(HZ8.o.fr hD.fr hvb).fr HF (λg hg e=>by have:=hvw g hg;have e':=e;omega);have hR11:=(HR8.o.b O O O hD.fr).k hsk O HBS.o.ko hnb.o HF;have F3:=ON.o w11 t9 hb11;cases hon:t9.on with
        | false=>
         rw[hon] at F3;have hstop:Px.Stop z (a+3) (Px.coS st) out t9:=by
          rcases hD.st with⟨q1,q2,_⟩|q
          .exfalso;unfold Px.Bt.on at hon;rw[q1,q2] at hon;exact absurd hon Xh
          .rw[HST3.o.1] at q;exact q
         have hle:=hstop.le h3;have hSW:Z (SwR w w11 z (.slice vp z.length vc) w7.heap.size win nb a LL bv ov out t9):=⟨hR11,hb11,hz11,O,by have:=HOL.o;omega,hle.1,R (R (hstop.after RN2.o)),by unfold qm;rw[hon,N Xh];omega,O,hnb.o,⟨_,xo.o 0 O O⟩,⟨_,xo.o 1 O O⟩,⟨_,xo.o 2 O O⟩,⟨_,_,_,xo.o 3 O O⟩,⟨_,_,_,x4⟩,⟨_,_,_,x5⟩⟩;replace F3:Z _:=F3;clear hb11 hz11 hR11 hD HF x4 x5 e4 e5 hfz hstop;refine X9 F3.o ?_;rintro r w12 ⟨rfl,hw12⟩;subst w12;go_wp2_with fail;go_meet
         case rel=>exact⟨_,_,_,hSW.o⟩
        | true=>
         rw[hon] at F3;obtain⟨q1,q2,q3,lit,dist,hI1,hI2,hs4,hs5,hg1,hg2,hrn,hl0,hd0⟩:t9.cut=false/\t9.err=0/\t9.a<=8*z.length/\∃lit dist,IAt w9 (.slice p4 n4 c4) lit/\IAt w9 (.slice p5 n5 c5) dist/\Px.bS lit/\Px.bS dist/\(∀g,ae (.slice p4 n4 c4)=some g->w8.heap.size<=g)/\(∀g,ae (.slice p5 n5 c5)=some g->w8.heap.size<=g)/\Px.Run z (a+3) (Px.coS st) t9.a {st with ph := .sym lit dist}/\0<lit.length/\0<dist.length:=by
          rcases hD.st with q|q
          .exact q
          .rw[q.off] at hon;cases hon
         have hnew:∀g,w8.heap.size<=g->g<w9.heap.size->g≠w.heap.size+1/\g≠w.heap.size/\g≠w7.heap.size/\ov.ownBlock≠some g/\g<w11.heap.size:=λg h1 h2=>⟨O,O,O,λe=>by have:=(HR8.o.oat.own.lt g e).2;omega,O⟩
         have hle:=hrn.le;have nk4:∀g,ae (.slice p4 n4 c4)=some g->¬g=w7.heap.size:=λg e q=>by have:=hg1 g e;omega
         have nk5:∀g,ae (.slice p5 n5 c5)=some g->¬g=w7.heap.size:=λg e q=>by have:=hg2 g e;omega
         have hB9:Base w11 (w.heap.size+1) w.heap.size w7.heap.size (w.heap.size+2) (.slice vp z.length vc) ov:=by
          obtain⟨b1,b2,b3,b4,b5,b6,b7,b8,b9⟩:=HBS.o;exact⟨λg e=>by obtain⟨d1,d2,d3,d4,d5⟩:=b1 g e;exact⟨d1,d2,d3,d4,O⟩,b2,b3,O,O,b6,b7,b8,b9⟩
         have FC:Z _:=xc (l:=LL) (a:=a) (a1:=t9.a) (st:=st) hR11 (by rw[<-(JD q1 q2)];exact hb11) hz11 hg hB9 ⟨⟨_,xo.o 1 O O⟩,xf.o⟩ (xo.o 3 O O) ⟨_,xo.o 0 O O⟩ ⟨_,xo.o 2 O O⟩ ⟨_,_,_,x4⟩ ⟨_,_,_,x5⟩ (hI1.fr HF nk4) (hI2.fr HF nk5) hs4 hs5 (λg e=>hnew g (hg1 g e) (yv hI1 hl0 e)) (λg e=>hnew g (hg2 g e) (yv hI2 hd0 e)) (Px.Run.trans RN2.o hrn) hle q3 HST3.o.1 HST3.o.2.1 HST3.o.2.2 hw15 (by have:=HOL.o;omega) hsk hnb.o;replace F3:Z _:=F3;clear hb11 hz11 hR11 hD HF e4 e5 hfz hI1 hI2 hnew hg1 hg2 hB9 hrn nk4 nk5 q1 q2 q3 hs4 hs5 hl0 hd0 hle;refine X9 F3.o ?_;rintro r w12 ⟨rfl,hw12⟩;subst w12;go_wp2_with fail;refine X9 FC.o ?_;rintro r w13 ⟨rfl,hs13⟩;go_wp2_with fail;go_meet
         case rel=>exact hs13
       have k2':((κ:Int)==2)=false:=Xa;have FF:=FFL.o k0 k1 k2;replace FF:Z _:=FF;clear k0 k1 k2;go_wp2_with fail;refine X9 FF.o ?_;rintro r w9 ⟨rfl,hs9⟩;go_wp2_with fail;go_meet
       case rel=>exact hs9
      case rest=>
       obtain⟨ov',out',t',hs9⟩:=hcut;obtain⟨u0,y0⟩:=hs9.c0;obtain⟨u1,y1⟩:=hs9.c1;obtain⟨u2,y2⟩:=hs9.c2;obtain⟨p3,n3,q3,y3⟩:=hs9.c3;obtain⟨p4,n4,q4,y4⟩:=hs9.c4;obtain⟨p5,n5,q5,y5⟩:=hs9.c5;obtain⟨ys,hown⟩:=hs9.ri.own;obtain⟨pb,nn,cb,hbv⟩:∃p n c,bv=.slice p n c:=by
        rcases hown.2 with⟨e,_⟩|⟨g,cap,cur,e,_⟩
        .exact⟨_,_,_,e⟩
        .exact⟨_,_,_,e⟩
       have s1c:=hs9.ri.c1;have s1f:=hs9.ri.oat.fz 1;have hslt:=hs9.ri.sc.lt;have hnS:¬bv.ownBlock=some w.heap.size:=λe=>by have:=(hown.lt _ e).1;omega
       have HOW:=U hown;have H9:Z _:=hs9;have hszc:=hs9.sz;have hnb1:nb+1<=100000000:=by have:=H1.o.nb;replace this:nb<=a:=this;omega
       rw[hbv] at s1c hnS HOW H9;clear hs9 hown hbv;have HC:Z (∀(E:TypeId) (j:Nat) (u:Value),[Value.int .i64 u0,.int .i64 u1,.bool u2,.slice p3 n3 q3,.slice p4 n4 q4,.slice p5 n5 q5][j]? = some u->(wc.alloc (Obj.cells #[Value.int .i64 u0,.int .i64 u1,.bool u2,.slice p3 n3 q3,.slice p4 n4 q4,.slice p5 n5 q5] E)).cell? ⟨wc.heap.size,j,none⟩=some u):=λE j u hj=>by rw[Xr _ _ _ _ rfl];simpa using hj
       have HO1:Z (∀u∈[Value.int .i64 u0,.int .i64 u1,.bool u2,.slice p3 n3 q3,.slice p4 n4 q4,.slice p5 n5 q5],u.oneCell'=true):=by
        intro u hu;simp only[Y4,List.not_mem_nil,or_false] at hu;rcases hu with rfl|rfl|rfl|rfl|rfl|rfl<;>rfl
       go_upto_region 28 with fail
       go_region_law ((refine N0 (by rfl) _ _ (by rfl) (w.heap.size+2) (.slice pb nn cb) nb ys (by rfl) (by exact bO HOW.o (Kept.drewN ((Xs _ _).alloc (Nat.le_refl _) _) 1)) wc.heap.size 1 [Value.int .i64 u0,.int .i64 u1,.bool u2,.slice p3 n3 q3,.slice p4 n4 q4,.slice p5 n5 q5] (by rfl) rfl (by intro j u hj;exact HC.o _ j u hj) HO1.o hnb1 Xf ?_;intro g' cap w20 ho2 hf2 hn2;have fk:=(((Fr.refl _ wc).alloc _).drewN 1).trans hf2;have k1:=(fk.cell (k:=1) hslt hnS).trans s1c;have g1:=(fk.frozen (k:=1) hslt hnS).trans s1f))
       all_goals
        have q9:=H9.o;have hnew:∀g,(Value.slice (some ⟨g',0,none⟩) (nb+1) cap).ownBlock=some g->(Value.slice pb nn cb).ownBlock=some g\/wc.heap.size<=g:=λg hg=>by
         have e:g'=g:=by injection hg
         subst e;rcases hn2 with q|q
         .exact L q
         .exact R (by simp at q;omega)
        have nown:∀g,g<w.heap.size+2->¬(Value.slice pb nn cb).ownBlock=some g:=λg h e=>by have:=(HOW.o.lt _ e).1;omega
        have fs:Fr1 w.heap.size w20 (w20.setCell ⟨w.heap.size,1,none⟩ (.slice (some ⟨g',0,none⟩) (nb+1) cap)):=(Fr1.refl _ _).set _ _;have hRL:Z (RL w (w20.setCell ⟨w.heap.size,1,none⟩ (.slice (some ⟨g',0,none⟩) (nb+1) cap)) z (.slice vp z.length vc) win LL t' ov' (.slice (some ⟨g',0,none⟩) (nb+1) cap) out' (nb+1)):=⟨(q9.ri.blkF O (Nat.le_refl _) fk ho2 hnew),((q9.bat.same (fk.block _ O (nown _ O))).fr fs O),((q9.zat.fr fk (λg hg=>nown g (by have:=hvw g hg;omega))).fr fs (λg hg e=>by have:=hvw g hg;omega)),by have:=fk.size;have:=fs.size;omega,q9.len,by have:=q9.ge;have:=H1.o.nb;replace this:nb<=a:=this;omega,q9.be,by have:=q9.ge;have:=H1.o.a16;replace this:16<=a:=this;omega⟩;have hlf:=q9.left;replace hlf:Z _:=hlf;clear q9 fs nown hnew fk ho2 hf2 hn2 k1 g1 HC HO1 HOW H9 s1c s1f;go_wp2_with fail;go_roundg (qm z t')
        case measure=>
         rw[HM.o];refine Xq hlf.o ?_;unfold qm;rw[I (by unfold Px.Bt.on;rfl)];exact Nat.le_refl _
        case rel=>exact⟨LL,t',ov',_,out',nb+1,rfl,rfl,hRL.o⟩
     .have FB:Z (Calls prog 62 #[.pointer (some ⟨w.heap.size+1,0,none⟩)] wr λr w'=>∃x:Nat,r=.returned (.int .i64 x)/\∃t1:Px.Bt,BAt w' (w.heap.size+1) (.slice vp z.length vc) t1/\Fr1 (w.heap.size+1) wr w'/\t1.a<=8*z.length/\t1.num z 2=⟨8*z.length,true,0⟩):=by
       by_cases h1:a+1<=8*z.length
       .refine(tL (w.heap.size+1) (.slice vp z.length vc) z ⟨a,false,0⟩ wr H1.o.bat H1.o.zat hg h1).mono ?_
        rintro r w' ⟨rfl,q1,q2⟩;exact⟨_,rfl,⟨a+1,false,0⟩,q1,q2,h1,Px.cy O⟩
       .refine(yV (w.heap.size+1) (.slice vp z.length vc) z ⟨a,false,0⟩ wr H1.o.bat H1.o.zat hg (by show a=8*z.length;omega)).mono ?_
        rintro r w' ⟨rfl,q1,q2⟩;refine⟨0,rfl,⟨a,true,0⟩,q1,q2,ta,?_⟩;rw[Px.fY rfl];rw[show a=8*z.length from O]
      have HST:=U (Px.Gk HRN.o h3);go_wp2_with fail;refine F1.o.mono ?_;rintro r w5 ⟨rfl,hw5⟩;subst w5;go_wp2_with fail;refine FB.o.mono ?_;rintro r w6 ⟨x,rfl,t1,hb6,hf6,ht6,hn6⟩;have hz6:=H1.o.zat.fr hf6 hvb;have FN:Z (Calls prog 59 #[.pointer (some ⟨w.heap.size+1,0,none⟩),.int .i64 ((2:Nat):Int)] w6 λr w'=>∃y:Nat,r=.returned (.int .i64 y)/\BAt w' (w.heap.size+1) (.slice vp z.length vc) ⟨8*z.length,true,0⟩/\Fr1 (w.heap.size+1) w6 w'):=by
       refine(gC (w.heap.size+1) _ z _ 2 w6 hb6 hz6 hvb hg ht6 O).mono ?_;rintro r w' ⟨x,rfl,_,_,h3',h4⟩;rw[hn6] at h3';exact⟨_,rfl,h3',h4⟩
      have HF6:Z _:=hf6;clear hb6 hf6 hz6 FB F1 ht6 hn6;go_wp2_with fail;refine FN.o.mono ?_;rintro r w7 ⟨y,rfl,hb7,hf7⟩;have H7:Z _:=HF6.o.trans hf7;have B7:Z _:=hb7;have F2:=U (ON.o w7 ⟨8*z.length,true,0⟩ hb7);clear hb7 hf7 FN HF6;go_wp2_with fail;refine F2.o.mono ?_;rintro r w8 ⟨rfl,hw8⟩;subst w8;go_wp2_with fail;go_meet
      case rel=>
       have q:=H1.o;exact⟨false,⟨8*z.length,true,0⟩,ov,bv,out,nb,⟨q.ri.b O O O H7.o,B7.o,q.zat.fr H7.o hvb,by have:=q.sz;have:=H7.o.size;omega,by have:=q.len;show out.length<=258*(8*z.length);replace this:out.length<=258*a:=this;omega,by have:=q.nb;show nb<=8*z.length;replace this:nb<=a:=this;omega,R (R HST.o),h16⟩,L rfl⟩
 case rest=>
  obtain⟨l,t,ov,bv,out,nb,hL,hof⟩:=hcut;have F1:=ON.o wc t hL.bat;cases ho:t.on with
  | false=>
   rw[ho] at F1;replace F1:Z _:=F1;have hstop:=hL.be.off ho;have hle:=hstop.le (X3 _);have hlen:out.length<=258*(8*z.length):=by have:=hL.len;omega
   have k3:=hL.bat.c3;by_cases he:t.err=0
   .have hP:Z (iB w wc z w.heap.size ov out false false 0 0 0):=⟨hL.ri.oat,hL.ri.sc,hL.ri.kept,wB hg hstop,hlen,L ⟨t,hstop,rfl,rfl,rfl,he.symm,by rw[I he]⟩⟩
    rw[he] at k3;clear hstop hL he HL;go_wp2_with fail;refine X9 F1.o ?_;rintro r w5 ⟨rfl,hw5⟩;subst w5;go_wp2;go_ret;exact⟨rfl,_,_,_,_,_,_,_,hP.o⟩
   .have he':((t.err:Int)!=0)=true:=by rw[XJ];omega
    have c5:=hL.ri.sc.c5;have hfz:=hL.ri.oat.fz;have a0:=hL.a16;have H0:Z _:=hL;have HS:=U hstop;clear hL hstop HL;go_wp2_with fail;refine X9 F1.o ?_;rintro r w5 ⟨rfl,hw5⟩;subst w5;go_wp2_with fail;have hL:=H0.o;have h5:Fr1 w.heap.size wc (wc.setCell ⟨w.heap.size,5,none⟩ (.int .i64 t.err)):=(Fr1.refl _ _).set _ _;have hS6:=hL.ri.sc.setErr t.err;have hO6:=hL.ri.oat.set O 5 O (.int .i64 t.err);have hb6:=hL.bat.fr h5 O;have hz6:=hL.zat.fr h5 (λg hg e=>by have:=hvw g hg;omega);have hK6:=Fr.to_kept hL.ri.kept h5 (λi hi e=>O);generalize wc.setCell ⟨w.heap.size,5,none⟩ (.int .i64 t.err)=W6 at *;refine(ej _ _ z t W6 hb6 hz6 hg O hle.2).mono ?_;rintro r w7 ⟨rfl,hk7⟩;have hS7:=hS6.kept hk7;have hO7:=hO6.kept hk7;have d6':=hS7.c6;have hf7:=hO7.fz 6;have h8:Fr1 w.heap.size w7 (w7.setCell ⟨w.heap.size,6,none⟩ (.int .i64 (Px.aB z t.a))):=(Fr1.refl _ _).set _ _;have hP:Z (iB w (w7.setCell ⟨w.heap.size,6,none⟩ (.int .i64 (Px.aB z t.a))) z w.heap.size ov out false false t.err (Px.aB z t.a) 0) :=
     ⟨hO7.set O 6 O _,hS7.setAt _,Fr.to_kept (hK6.trans hk7) h8 (λi hi e=>O),wB hg HS.o,hlen,L ⟨_,HS.o,rfl,rfl,rfl,rfl,by rw[N he]⟩⟩
    clear hS7 hO7 h8 hS6 hO6 hb6 hz6 hK6 h5 hL;unfold Px.aB at hP;go_wp2;go_ret;exact⟨rfl,_,_,_,_,_,_,_,hP.o⟩
  | true=>
   have hl:l=true:=by
    rcases hof with q|q
    .rw[q] at ho;cases ho
    .exact q
   subst hl;rw[ho] at F1;replace F1:Z _:=F1;obtain⟨te,ta,s1,hs1,hrun⟩:=hL.be.on1 ho;obtain⟨a,ea⟩:∃a,a=t.a:=⟨_,rfl⟩;rw[<-ea] at te ta hrun;subst te;obtain⟨A,hA⟩:∃A,Px.up8 a=A:=⟨_,rfl⟩;rw[hA] at hrun;have hby:=hrun.good hg (λx hx=>by cases hx);have hlen:out.length<=258*(8*z.length):=by have:=hL.len;replace this:out.length<=258*a:=this;omega
   have Fd:Z _:=Kp (w.heap.size+1) w.heap.size (w.heap.size+2) (.slice vp z.length vc) ov z out a wc hL.bat hL.zat hg ta hL.ri.oat hL.ri.sc hby O O O O (λg hg=>⟨hvb g hg,by have:=hvw g hg;omega⟩) A hA;have HRN:=U hrun;have HK:Z (Kept w wc):=hL.ri.kept;have HZ:Z _:=hL.zat;clear hL hrun ea ho hof HL;go_wp2_with fail;refine X9 F1.o ?_;rintro r w5 ⟨rfl,hw5⟩;subst w5;go_wp2_with fail;refine X9 Fd.o ?_;rintro r w6 ⟨rfl,t',dn,sm,er,at',en,hp⟩;have hK6:Z (Kept w w6):=Fr.to_kept HK.o hp.fr (λi hi e=>by rcases e with e|e<;>omega);have k3:=hp.bat.c3;have HP:Z _:=hp;rcases hp.st with⟨hc,rfl,rfl,rfl,rfl,rfl,rfl⟩|⟨hc,hbad,rfl,rfl,rfl,rfl,rfl,rfl⟩|⟨hc,hok,rfl,rfl,rfl,rfl,rfl,rfl⟩
   .have hR:Z (iB w w6 z w.heap.size ov out false false 0 0 0):=⟨hp.oat,hp.sc,hK6.o,hby,hlen,L ⟨_,Px.Kn HRN.o hc,rfl,rfl,rfl,rfl,rfl⟩⟩
    replace k3:w6.cell? ⟨w.heap.size+1,3,none⟩=some (.int .i64 0):=k3;clear hp HP Fd F1;go_wp2;go_ret;exact⟨rfl,_,_,_,_,_,_,_,hR.o⟩
   .replace k3:w6.cell? ⟨w.heap.size+1,3,none⟩=some (.int .i64 19):=k3
    have c5:=hp.sc.c5;have hfz:=hp.oat.fz;clear hp Fd F1;go_wp2_with fail;have hp:=HP.o;have h5:Fr1 w.heap.size w6 (w6.setCell ⟨w.heap.size,5,none⟩ (.int .i64 19)):=(Fr1.refl _ _).set _ _;have hS6:SC (w6.setCell ⟨w.heap.size,5,none⟩ (.int .i64 19)) w.heap.size true false 19 0 (Px.aB z (A+32)):=hp.sc.setErr 19;have hO6:=hp.oat.set O 5 O (.int .i64 19);have hb6:=hp.bat.fr h5 O;have hz6:=(HZ.o.fr hp.fr (λg hg e=>by have:=hvw g hg;rcases e with e|e<;>omega)).fr h5 (λg hg e=>by have:=hvw g hg;omega);generalize w6.setCell ⟨w.heap.size,5,none⟩ (.int .i64 19)=W6 at *;refine(ej _ _ z ⟨A+32,false,19⟩ W6 hb6 hz6 hg (by show 0<A+32;omega) hc).mono ?_;rintro r w7 ⟨rfl,hk7⟩;have hS7:=hS6.kept hk7;have hO7:=hO6.kept hk7;have d6':=hS7.c6;have hf7:=hO7.fz 6;have h8:Fr1 w.heap.size w7 (w7.setCell ⟨w.heap.size,6,none⟩ (.int .i64 (Px.aB z (A+32):Int))):=(Fr1.refl _ _).set _ _;have hP:Z (iB w (w7.setCell ⟨w.heap.size,6,none⟩ (.int .i64 (Px.aB z (A+32):Int))) z w.heap.size ov out true false 19 (Px.aB z (A+32)) (Px.aB z (A+32))) :=
     ⟨hO7.set O 6 O _,hS7.setAt _,Fr.to_kept ((Fr.to_kept hK6.o h5 (λi hi e=>O)).trans hk7) h8 (λi hi e=>O),hby,hlen,R (L ⟨A,_,HRN.o,rfl,rfl,Px.Ko hc hbad,rfl,rfl,rfl,rfl,rfl⟩)⟩
    clear hS7 hO7 h8 hS6 hO6 hb6 hz6 h5 hp HP;unfold Px.aB at hP;go_wp2;go_ret;exact⟨rfl,_,_,_,_,_,_,_,hP.o⟩
   .have hR:Z (iB w w6 z w.heap.size ov out true true (if A+32<8*z.length then 20 else 0) (if A+32<8*z.length then Px.pAt z ((A+32)/8) else 0) (Px.aB z (A+32))):=⟨hp.oat,hp.sc,hK6.o,hby,hlen,R (R ⟨A+32,_,Px.Km HRN.o hc hok,rfl,rfl,hc,rfl,rfl,rfl,rfl,rfl⟩)⟩
    replace k3:w6.cell? ⟨w.heap.size+1,3,none⟩=some (.int .i64 0):=k3;clear hp HP Fd F1;go_wp2;go_ret;exact⟨rfl,_,_,_,_,_,_,_,hR.o⟩
theorem ue v z w(a:ZAt w v z)(b:Px.good z)(c:∀d,ae v=some d->d<w.heap.size):Calls prog 41 #[v] w λg h=>g=.returned (.pointer (some ⟨w.heap.size,0,none⟩))/\Mi w h z w.heap.size:=by
 by_cases e:16<=8*z.length
 .by_cases f:Px.dM (Px.ab z 0 8) (Px.ab z 8 8)
  .exact zP v z w a b c (λ_=>f)
  .exact KH v z w a b c e f
 .exact zP v z w a b c (λi=>absurd i e)
