import Derived.Test.YtgooinallljbpaaGreatDoorSh00
import Derived.Test.YtgooinallljbpaaGreatDoorSh34
import Derived.Test.YtgooinallljbpaaGreatDoorSh35
import Derived.Test.YtgooinallljbpaaGreatDoorSh32
import Derived.Test.YtgooinallljbpaaGreatDoorSh05
set_option linter.all false
set_option maxRecDepth 100000
set_option maxHeartbeats 0
namespace Go.Proofs.YtgooinallljbpaaGreatDoor
open Go.RowKit Px Tryz
theorem yi{W N ov out}(e:W.ownsRow N 148 2 ov out.length (fX out)):ZAt W ov out:=by
 rcases e.2 with⟨c,j⟩|⟨b,o,p,c,q,r⟩
 .refine⟨⟨none,0,by rw[c,j]⟩,?_⟩
  intro k l _ a f;omega
 .refine⟨⟨_,_,c⟩,?_⟩
  intro k l d a f;rw[c] at d
  injection d with d _ _
  have g:ov.ownBlock=some b:=by rw[c];rfl
  have h:=e.cells g (a*2) _ (lV out a f).1;have i:=e.cells g (a*2+1) _ (lV out a f).2;have m:(Addr.add ⟨b,0,none⟩ (a*2))=⟨b,a*2,none⟩:=by simp[Addr.add];intro s;omega
  have n:(Addr.add ⟨b,0,none⟩ (a*2+1))=⟨b,a*2+1,none⟩:=by simp[Addr.add]
  rw[m] at h;rw[n] at i;exact⟨b,d.symm,h,i⟩
theorem aw.readable{w b f er at' pv cv zv iv}(h:aw w b f er at' pv cv zv iv):∀a,ae zv=some a->a<w.heap.size:=λa c=>by
 rw[bP zv h.z] at c;exact(h.z.lt a c).2
theorem Mm{w b f a at' pv cv zv iv}(h:aw w b f a at' pv cv zv iv)(d:good f.z):∃c,rJ f.z c:=by
 obtain⟨l,m,n,⟨_,o,e,c,g,a,i,j,k⟩,_⟩:=ue zv f.z w (yi h.z) d h.readable [];exact⟨c,e,g,a,i,j,k.st⟩
theorem Gq{f:Fl}{k n}(h:k≠aG):({f with over:=true}:Fl).begE k n true=f.begE k n true:=by
 unfold Fl.begE;simp only[Bool.not_true,Y9,N h]
theorem qk{T U V W X Y a0 a1 a2 a3 a4 a5 a6 a7 a8 a9 b0 b1 b2 b3 b4 b5 b6 b7 b8 b9 c0 c1 c2 c3 c4 c5 c6 c7 c8 c9 d0 d1 d2 d3 d4 d5 d6 d7 d8 d9 e0 e1 e2 e3 e4 e5 e6 e7 e8 e9 f0 f1 f2 f3 f4 f5 f6 f7 f8 f9 g0 g1 g2 g3 g4 g5 g6 g7 g8 g9 h0 h1 h2 h3 h4 h5 h6 h7 h8 h9 i0 i1 i2 i3 i4 i5 i6 i7 i8 i9 j0 j1 j2 j3 j4 j5 j6 j7 j8 j9 k0 k1 k2 k3 k4 k5 k6 k7 k8 k9 l0 l1 l2 l3 l4 l5 l6 l7 l8 l9 m0 m1 m2 m3 m4 m5 m6 m7 m8 m9 n0 n1 n2 n3 n4 n5 n6 n7 n8 n9 o0 o1 o2 o3 o4 o5 o6 o7 o8 o9 p0 p1 p2 p3 p4 p5 p6 p7 p8 p9 q0 q1 q2 q3 q4 q5 q6 q7 q8 q9 r0 r1 r2 r3 r4 r5 r6 r7 r8 r9 s0 s1 s2 s3 s4 s5 s6 s7 s8 s9 t0 t1 t2 t3 t4 t5 t6 t7 t8 t9 u0 u1 u2 u3 u4 u5 u6 u7 u8 u9 v0 v1 v2 v3 v4 v5 v6 v7 v8 v9 w0:Value}(P:Ending->World->Prop)(b:Nat)(f:Fl)(e a:Nat)(w1 w2 w3 w4:Value)(k:ByteArray)(n:Nat)(dn:Bool)(w:World)(h:aw w b f e a w1 w2 w3 w4)(d:k.size=4)(u:n<2147483648)(v:kindOk f.hd.K)(x:f.hd.D<=16)(y:f.pal.length<=1048576)(z:f.ids<=1048576)(w5:qo k=true)(w6:f.first=true)(w7:(f.ov (ty k) && !dn)=false)(p:Z (P (.returned (.int .i64 (f.begE (ty k) n dn:Int))) w)):Code.wp prog ((f99.body.bind (dH 16)).getD .skip) (bodyPost prog f99 P) ⟨#[.pointer (some ⟨b,0,none⟩),.string k,.int .i64 n,T,U,V,W,X,Y,a0,a1,a2,a3,a4,a5,a6,a7,a8,a9,b0,b1,b2,b3,b4,b5,b6,b7,b8,b9,c0,c1,c2,c3,c4,c5,c6,c7,c8,c9,d0,d1,d2,d3,d4,d5,d6,d7,d8,d9,e0,e1,e2,e3,e4,e5,e6,e7,e8,e9,f0,f1,f2,f3,f4,f5,f6,f7,f8,f9,g0,g1,g2,g3,g4,g5,g6,g7,g8,g9,h0,h1,h2,h3,h4,h5,h6,h7,h8,h9,i0,i1,i2,i3,i4,i5,i6,i7,i8,i9,j0,j1,j2,j3,j4,j5,j6,j7,j8,j9,k0,k1,k2,k3,k4,k5,k6,k7,k8,k9,l0,l1,l2,l3,l4,l5,l6,l7,l8,l9,m0,m1,m2,m3,m4,m5,m6,m7,m8,m9,n0,n1,n2,n3,n4,n5,n6,n7,n8,n9,o0,o1,o2,o3,o4,o5,o6,o7,o8,o9,p0,p1,p2,p3,p4,p5,p6,p7,p8,p9,q0,q1,q2,q3,q4,q5,q6,q7,q8,q9,r0,r1,r2,r3,r4,r5,r6,r7,r8,r9,s0,s1,s2,s3,s4,s5,s6,s7,s8,s9,t0,t1,t2,t3,t4,t5,t6,t7,t8,t9,u0,u1,u2,u3,u4,u5,u6,u7,u8,u9,v0,v1,v2,v3,v4,v5,v6,v7,v8,v9,w0],[]⟩ w:=by
 obtain⟨q,r,rfl⟩:=h.pal.form;obtain⟨x0,w8⟩:=h.ids;obtain⟨s,t,rfl⟩:=ak w8;have A:w.cell? ⟨b,3,none⟩=some (.int .i64 f.hd.D):=h.cell 3 O;have B:w.cell? ⟨b,4,none⟩=some (.int .i64 f.hd.K):=h.cell 4 O;have C:w.cell? ⟨b,6,none⟩=some (.bool f.hasPal):=h.cell 6 O;have D:w.cell? ⟨b,7,none⟩=some (.bool f.hasClear):=h.cell 7 O;have E:w.cell? ⟨b,8,none⟩=some (.slice q f.pal.length r):=h.cell 8 O;have F:w.cell? ⟨b,11,none⟩=some (.slice s f.ids t):=h.cell 11 O;have G:w.cell? ⟨b,12,none⟩=some (.bool f.over):=h.cell 12 O;have m:=xN k d;have l:=Dk k d;have j:=Dj k d;have i:=xO k d;have g:=Dl k d;have w9:kU (ty k/16777216%256)=kU (gb k 0):=by
  rw[GI k d];have x1:=ek k 0;have x2:=ek k 1;have x3:=ek k 2;have x4:=ek k 3
  congr 1
  omega
 obtain⟨o,S⟩:∃o,o=f.begE (ty k) n dn:=⟨_,rfl⟩;rw[<-S] at p;have c:=S;unfold Fl.begE at c;rw[(xM k d),N (by rw[w5];decide),N (by rw[w6];decide),N (by rw[w7];decide),w9] at c;by_cases H:ty k=aQ
 .rw[I H] at c
  rw[K H] at m;rw[J (by rw[H];decide)] at l j i g;exact LV P b k n w d u _ _ _ _ _ _ _ q s r t x y z v F G B A C D E m l j i g o c p
 rw[N H] at c;rw[J H] at m;by_cases L:ty k=bE
 .rw[I L] at c
  rw[K L] at l;rw[J (by rw[L];decide)] at j i g;exact LU P b k n w d u _ _ _ _ _ _ _ q s r t x y z v F G B A C D E m l j i g o c p
 rw[N L] at c;rw[J L] at l;by_cases M:ty k=bB
 .rw[I M] at c
  rw[K M] at j;rw[J (by rw[M];decide)] at i g;exact LS P b k n w d u _ _ _ _ _ _ _ q s r t x y z v F G B A C D E m l j i g o c p
 rw[N M] at c;rw[J M] at j;by_cases Q:ty k=aG
 .rw[I Q] at c
  rw[K Q] at i;rw[J (by rw[Q];decide)] at g;exact LX P b k n w d u _ _ _ _ _ _ _ q s r t x y z v F G B A C D E m l j i g o c p
 rw[N Q] at c;rw[J Q] at i;by_cases R:ty k=cE
 .rw[I R] at c
  rw[K R] at g;exact LW P b k n w d u _ _ _ _ _ _ _ q s r t x y z v F G B A C D E m l j i g o c p
 rw[N R] at c;rw[J R] at g;exact LY P b k n w d u _ _ _ _ _ _ _ q s r t x y z v F G B A C D E m l j i g o c p
def AZ(w w':World)(b:Nat)(f:Fl)(e a:Nat)(pv cv zv iv:Value)(k n:Nat)(r:Ending):Prop:=∃dn g,(f.ov k=true->rJ f.z dn)/\r=.returned (.int .i64 (f.begE k n dn))/\aw w' b g e a pv cv zv iv/\dL f g/\(f.begE k n dn=0->g=f.begF k)/\Below b w w'
theorem L9 b k(n:Nat)w(d:k.size=4)(e:qo k=false):Calls prog 99 #[.pointer (some ⟨b,0,none⟩),.string k,.int .i64 n] w λa c=>a=.returned (.int .i64 ((3:Nat):Int))/\c=w:=by
 go_enter func99,ntmps99;go_wp2_with (go_at_call 130;refine(du _ _ d).mono ?_;rintro a c ⟨rfl,rfl⟩)
 go_ret;exact⟨rfl,rfl⟩
theorem Gn b f c d pv cv zv iv k(n:Nat)a(h:aw a b f c d pv cv zv iv)(l:k.size=4)(B:n<2147483648)(W:kindOk f.hd.K)(C:f.hd.D<=16)(D:f.pal.length<=1048576)(F:f.ids<=1048576)(X:good f.z)(r:f.first=true)(G:qo k=true):Calls prog 99 #[.pointer (some ⟨b,0,none⟩),.string k,.int .i64 n] a λe g=>AZ a g b f c d pv cv zv iv (ty k) n e:=by
 have H:Z _:=h;have a6:a.cell? ⟨b,13,none⟩=some (.bool f.first):=h.cell 13 O;rw[r] at a6;obtain⟨e3,Y⟩:=h.ids;obtain⟨c5,c6,a0⟩:=ak Y;have a7:a.cell? ⟨b,11,none⟩=some (.slice c5 f.ids c6):=by rw[<-a0];exact h.cell 11 O
 have a8:a.cell? ⟨b,12,none⟩=some (.bool f.over):=h.cell 12 O;have M:=xO k l;have c7:=h.lt;have e4:=h.fz;obtain⟨i,P⟩:∃i,i=f.ids:=⟨_,rfl⟩;obtain⟨a9,s⟩:∃c8,c8=f.over:=⟨_,rfl⟩;rw[<-P] at a7;rw[<-s] at a8;have e5:i<=1048576:=O;have t:Z _:=G;have u:Z _:=r;have Q:=U W;have S:Z (∀T,Calls prog 130 #[.string k] T λc g=>c=.returned (.bool true)/\g=T):=λT=>by
  have:=du k T l
  rw[G] at this;exact this
 have b0:Z (f.begF (ty k)=if f.ov (ty k)=true then {f with over:=true} else f):=by
  show f.begF (ty k)=_
  unfold Fl.begF;rw[N (by rw[r];decide)]
 by_cases v:f.ov (ty k)=true
 ·
  have a1:=v;unfold Fl.ov at a1;simp only[Bool.and_eq_true,Y6,Zl] at a1;obtain⟨⟨c9,a2⟩,b1⟩:=a1;rw[J a2] at M;rw[<-s] at b1;subst b1;have b2:(0:Int)<(i:Int):=O;obtain⟨b3,b4,a3⟩:=ak h.z;have b5:(a.setCell ⟨b,12,none⟩ (.bool true)).cell? ⟨b,10,none⟩=some (.slice b3 f.z.length b4):=by
   rw[aa _ _ _ _ _ O,<-a3];exact h.cell 10 O
  have V:=h.setOver;have d0:Z _:=V;have b6:Z (Calls prog 41 #[.slice b3 f.z.length b4] (a.setCell ⟨b,12,none⟩ (.bool true)) λe g=>e=.returned (.pointer (some ⟨(a.setCell ⟨b,12,none⟩ (.bool true)).heap.size,0,none⟩))/\Mi (a.setCell ⟨b,12,none⟩ (.bool true)) g f.z (a.setCell ⟨b,12,none⟩ (.bool true)).heap.size):=by
   have:=ue zv f.z _ (yi V.z) X V.readable
   rw[a3] at this;exact this
  have w:Z _:=v;have d1:Z _:=a2;obtain⟨b7,b8⟩:∃b7,b7=f.z.length:=⟨_,rfl⟩;rw[<-b8] at b5 b6;obtain⟨b9,d2⟩:∃b9,b9=a.setCell ⟨b,12,none⟩ (.bool true):=⟨_,rfl⟩;clear v c9 a2 Y a0 a3 V P s G r W X h b8 d2;go_enter func99,ntmps99;go_wp2_with fail;refine(S.o _).mono ?_;rintro e g ⟨rfl,a4⟩;subst g;go_wp2_with fail;refine b6.o.mono ?_;rintro e c0 ⟨rfl,e6,d3,c1,d4,d5,d6,d7,x⟩;have d8:=x.sc.c3;rw[show(a.setCell ⟨b,12,none⟩ (.bool true)).heap.size=a.heap.size by simp[World.setCell]] at d8;have a5:Z _:=(d0.o.kept x.kept);have d9:b<=(a.setCell ⟨b,12,none⟩ (.bool true)).heap.size:=by simpa[World.setCell] using Yx c7
  have c2:Z _:=((Xs b a).setCell (p:=⟨b,12,none⟩) (E b) (.bool true)).trans (x.kept.mono d9);have c3:Z (rJ f.z c1):=⟨d3,d4,d5,d6,d7,x.st⟩;clear x b5 a7 a8 a6;cases c1
  .have c4:Z (f.begE (ty k) n false=21):=by
    show f.begE (ty k) n false=21
    unfold Fl.begE;rw[N (by rw[xM k l,t.o];decide),N (by rw[u.o];decide),I (by rw[w.o];decide)]
   go_wp2;try go_ret
   refine⟨false,{f with over:=true},λ_=>c3.o,?_,a5.o,⟨true,f.first,rfl⟩,λy => ?_,c2.o⟩
   .rw[c4.o];rfl
   .rw[c4.o] at y;cases y
  .have z:Z (AZ a c0 b f c d pv cv zv iv (ty k) n (.returned (.int .i64 ((({f with over:=true}:Fl).begE (ty k) n true:Nat):Int)))):=by
    refine⟨true,{f with over:=true},λ_=>c3.o,?_,a5.o,⟨true,f.first,rfl⟩,λ_ => ?_,c2.o⟩
    .rw[Gq d1.o]
    .rw[b0.o,I w.o]
   go_upto_if 58 with fail
   repeat(first|exact wp_mono (qk (λe g=>AZ a g b f c d pv cv zv iv (ty k) n e) b {f with over:=true} c d pv cv zv iv k n true c0 a5.o l B Q.o C D F t.o u.o Xi z) (λc d a m=>m)|go_step)
 .have q:f.ov (ty k)=false:=by cases e0:f.ov (ty k);rfl;exact absurd e0 v
  have w:Z _:=q;have z:Z (AZ a a b f c d pv cv zv iv (ty k) n (.returned (.int .i64 (f.begE (ty k) n true:Int)))) :=
   ⟨true,f,(λy=>by rw[w.o] at y;cases y),rfl,H.o,dL.refl f,(λ_=>by rw[b0.o,N (by rw[w.o];decide)]),Xs _ _⟩
  have e1:(i=0)\/(0<i/\ty k=aG)\/(0<i/\ty k≠aG/\a9=true):=by
   unfold Fl.ov at q;rw[<-P,<-s] at q;by_cases o:0<i
   .by_cases j:ty k=aG
    .exact R (L ⟨o,j⟩)
    .right;right
     rw[K o,K j] at q;refine⟨o,j,?_⟩;cases a9
     .simp at q
     .rfl
   .exact L O
  clear v q Y a0 P s G r W X h;rcases e1 with o|⟨o,j⟩|⟨o,j,e2⟩
  .subst o
   clear M;go_enter func99,ntmps99;go_wp2_with fail;refine(S.o _).mono ?_;rintro e g ⟨rfl,a4⟩;subst g;go_upto_if 45 with fail
   repeat(first|exact wp_mono (qk (λe A=>AZ a A b f c d pv cv zv iv (ty k) n e) b f c d pv cv zv iv k n true a H.o l B Q.o C D F t.o u.o Xi z) (λc d a m=>m)|go_step)
  .rw[K j] at M
   have b2:(0:Int)<(i:Int):=O;clear j;go_enter func99,ntmps99;go_wp2_with fail;refine(S.o _).mono ?_;rintro e g ⟨rfl,a4⟩;subst g;go_upto_if 45 with fail
   repeat(first|exact wp_mono (qk (λe A=>AZ a A b f c d pv cv zv iv (ty k) n e) b f c d pv cv zv iv k n true a H.o l B Q.o C D F t.o u.o Xi z) (λc d a m=>m)|go_step)
  .rw[J j] at M
   have b2:(0:Int)<(i:Int):=O;subst e2;clear j;go_enter func99,ntmps99;go_wp2_with fail;refine(S.o _).mono ?_;rintro e g ⟨rfl,a4⟩;subst g;go_upto_if 45 with fail
   repeat(first|exact wp_mono (qk (λe A=>AZ a A b f c d pv cv zv iv (ty k) n e) b f c d pv cv zv iv k n true a H.o l B Q.o C D F t.o u.o Xi z) (λc d a m=>m)|go_step)
theorem CM b f e a i pv cv zv iv k(n:Nat)w(h:aw w b f e a pv cv zv iv)(d:k.size=4)(y:n<2147483648)(z:FOk f)(o:FBd i f)(r:i<=1048576):Calls prog 99 #[.pointer (some ⟨b,0,none⟩),.string k,.int .i64 n] w λp q=>AZ w q b f e a pv cv zv iv (ty k) n p:=by
 have s:=o.good r;obtain⟨g,t⟩:=Mm h s;by_cases u:qo k=true
 .cases j:f.first
  .refine(yW b f e a pv cv zv iv k n g w h d j).mono ?_
   rintro p q ⟨rfl,A,c⟩;have D:=h.lt;refine⟨g,_,λ_=>t,rfl,A,?_,λl => ?_,⟨c.os,c.tape,c.output,c.size,λB E=>c.block B O O⟩⟩
   .split
    .exact⟨f.over,true,rfl⟩
    .exact dL.refl f
   .rw[I l];unfold Fl.begF;rw[I j]
  .have m:=(z.on j).2
   have C:f.hd.D<=16:=by have:=m.D;unfold okD at this;omega
   exact Gn b f e a pv cv zv iv k n w h d y m.K C o.pal (Xz o.ids r) s j u
 .have v:qo k=false:=by cases m:qo k;rfl;exact absurd m u
  refine(L9 b k n w d v).mono ?_;rintro p q ⟨rfl,rfl⟩;have x:f.begE (ty k) n g=3:=by unfold Fl.begE;rw[xM k d,I v]
  exact⟨g,f,λ_=>t,by rw[x],h,dL.refl f,(λl=>by rw[x] at l;cases l),Xs _ _⟩
theorem aw.setZ{W W2 b f er at' pv cv zv iv zv' x}(h:aw W b f er at' pv cv zv iv)(i:Fr (λa=>zv.ownBlock=some a) W W2)(n:W2.ownsRow (b+1) 148 2 zv' (f.z.length+1) (fX f.z++[.int .i64 (x.1:Int),.int .i64 (x.2:Int)]))(k:∀a,zv'.ownBlock=some a->zv.ownBlock=some a\/W.heap.size<=a):aw (W2.setCell ⟨b,10,none⟩ zv') b {f with z:=f.z++[x]} er at' pv cv zv' iv:=by
 have o:=h.lt;have p:¬zv.ownBlock=some b:=λd=>by have:=(h.z.lt b d).1;omega
 have j:Fr1 b W2 (W2.setCell ⟨b,10,none⟩ zv'):=(Fr1.refl _ _).set _ _;obtain⟨r,l⟩:=h.ids;have q:∀e,W2.cell? ⟨b,e,none⟩=W.cell? ⟨b,e,none⟩:=λe=>i.cell o p
 refine⟨λe m => ?_,λe=>(Xy _ _ _ _).trans ((i.frozen o p).trans (h.fz e)),(h.pal.fr i (λa c=>(h.pb a c).2.1)).fr j (λa c d=>by have:=(h.pb a c).1;omega),(h.clr.fr i (λa c=>(h.cb a c).2.1)).fr j (λa c d=>by have:=(h.cb a c).1;omega),?_,⟨r,aU (aU l i (λa c d=>h.dis a d c)) j (λa c d=>by have:=(l.lt a c).1;omega)⟩,λa c=>⟨(h.pb a c).1,λd => ?_,(h.pb a c).2.2⟩,λa c=>⟨(h.cb a c).1,λd => ?_,(h.cb a c).2.2⟩,λa c d => ?_,λa c => ?_,λa c => ?_⟩
 .by_cases d:e=10
  .subst d;exact ai ((q 10).trans (h.cell 10 m)) _
  .rw[aa _ _ _ _ _ (λg=>d g.symm),q e,h.cell e m]
   congr 1
   revert d
   exact bF (P:=λe=>e≠10->flV f er at' pv cv zv iv e=flV {f with z:=f.z++[x]} er at' pv cv zv' iv e) ⟨λ_=>rfl,λ_=>rfl,λ_=>rfl,λ_=>rfl,λ_=>rfl,λ_=>rfl,λ_=>rfl,λ_=>rfl,λ_=>rfl,λ_=>rfl,λg=>absurd rfl g,λ_=>rfl,λ_=>rfl,λ_=>rfl,λ_=>rfl,λ_=>rfl,λ_=>rfl⟩ e m
 .show(W2.setCell ⟨b,10,none⟩ zv').ownsRow (b+1) _ 2 zv' (f.z++[x]).length (fX (f.z++[x]))
  rw[uj,Xv];exact aU n j (λa c d=>by have:=(n.lt a c).1;omega)
 .rcases k a d with g|g
  .exact(h.pb a c).2.1 g
  .have:=h.plt a c;omega
 .rcases k a d with g|g
  .exact(h.cb a c).2.1 g
  .have:=h.clt a c;omega
 .rcases k a c with g|g
  .exact h.dis a g d
  .have:=(l.lt a d).2;omega
 .have:=h.plt a c;have:=i.size;simp[World.setCell];omega
 .have:=h.clt a c;have:=i.size;simp[World.setCell];omega
theorem aw.setIds{W W2 b f er at' pv cv zv iv iv' xs'}(h:aw W b f er at' pv cv zv iv)(i:Fr (λa=>iv.ownBlock=some a) W W2)(m:W2.ownsRow (b+1) 3 1 iv' (f.ids+1) xs')(k:∀a,iv'.ownBlock=some a->iv.ownBlock=some a\/W.heap.size<=a):aw (W2.setCell ⟨b,11,none⟩ iv') b {f with ids:=f.ids+1} er at' pv cv zv iv':=by
 have n:=h.lt;obtain⟨r,q⟩:=h.ids;have o:¬iv.ownBlock=some b:=λd=>by have:=(q.lt b d).1;omega
 have j:Fr1 b W2 (W2.setCell ⟨b,11,none⟩ iv'):=(Fr1.refl _ _).set _ _;have p:∀e,W2.cell? ⟨b,e,none⟩=W.cell? ⟨b,e,none⟩:=λe=>i.cell n o
 refine⟨λe l => ?_,λe=>(Xy _ _ _ _).trans ((i.frozen n o).trans (h.fz e)),(h.pal.fr i (λa c=>(h.pb a c).2.2)).fr j (λa c d=>by have:=(h.pb a c).1;omega),(h.clr.fr i (λa c=>(h.cb a c).2.2)).fr j (λa c d=>by have:=(h.cb a c).1;omega),aU (aU h.z i (λa c d=>h.dis a c d)) j (λa c d=>by have:=(h.z.lt a c).1;omega),⟨xs',aU m j (λa c d=>by have:=(m.lt a c).1;omega)⟩,λa c=>⟨(h.pb a c).1,(h.pb a c).2.1,λd => ?_⟩,λa c=>⟨(h.cb a c).1,(h.cb a c).2.1,λd => ?_⟩,λa c d => ?_,λa c => ?_,λa c => ?_⟩
 .by_cases d:e=11
  .subst d;exact ai ((p 11).trans (h.cell 11 l)) _
  .rw[aa _ _ _ _ _ (λg=>d g.symm),p e,h.cell e l]
   congr 1
   revert d
   exact bF (P:=λe=>e≠11->flV f er at' pv cv zv iv e=flV {f with ids:=f.ids+1} er at' pv cv zv iv' e) ⟨λ_=>rfl,λ_=>rfl,λ_=>rfl,λ_=>rfl,λ_=>rfl,λ_=>rfl,λ_=>rfl,λ_=>rfl,λ_=>rfl,λ_=>rfl,λ_=>rfl,λg=>absurd rfl g,λ_=>rfl,λ_=>rfl,λ_=>rfl,λ_=>rfl,λ_=>rfl⟩ e l
 .rcases k a d with g|g
  .exact(h.pb a c).2.2 g
  .have:=h.plt a c;omega
 .rcases k a d with g|g
  .exact(h.cb a c).2.2 g
  .have:=h.clt a c;omega
 .rcases k a d with g|g
  .exact h.dis a c g
  .have:=(h.z.lt a c).2;omega
 .have:=h.plt a c;have:=i.size;simp[World.setCell];omega
 .have:=h.clt a c;have:=i.size;simp[World.setCell];omega
theorem NZ{w ops o a}{p:Act->World->Prop}{q:Exit->Act->World->Prop}{r:Prop}(t:o.guard=none)s x(u:o.op=Op.call {callee:=Callee.builtin Builtin.append,args:=#[s,x],argTypes:=#[85,85]})N v n xs(y:a.eval s=v)(z:w.ownsRow N 148 2 v n xs)g c news(A:a.eval x=.slice (some ⟨g,0,none⟩) 1 c)(l:news.length=2)(B:∀j b,news[j]? = some b->w.cell? ⟨g,j,none⟩=some b)(m:∀b∈news,b.oneCell'=true)(M:n+1<=100000000)(C:N<=w.heap.size)(D:∀d h e,e.ownsRow N 148 2 (.slice (some ⟨d,0,none⟩) (n+1) h) (n+1) (xs++news)->Fr (λk=>v.ownBlock=some k) w e->(v.ownBlock=some d\/w.heap.size<=d)->p (a.put o.dst (.slice (some ⟨d,0,none⟩) (n+1) h)) e):if Region.wanted o (yielded ops a.tmps)=true then Oper.wp prog o a w p q else r:=by
 obtain⟨E,F,G,H,I⟩:=info_parts DP;refine step_append_lies w t s x 85 u N 148 E (.agg #[.int .i64 0,.int .i64 0]) 2 16 underlying85 F G H I rfl O v n xs y z ⟨g,0,none⟩ 1 c news A (by rw[l]) ?_ m O Xn O C w.heap.size rfl ?_
 .intro j b J
  have i:(⟨g,0,none⟩:Addr).add j=⟨g,j,none⟩:=by unfold Addr.add;split<;>simp_all
  rw[i];exact B j b J
 .intro d h e m f K P
  exact D d h e m ⟨f.os,f.tape,f.output,f.size,λk L l=>f.block k L (λi=>l i.symm)⟩ (match K with|.inl a=>.inl a|.inr i=>.inr O)
theorem Nv{V:Act->World->Prop}{P:Ending->World->Prop}{W X Y a0 a1 a2 a3 a4 a5 a6 a7 a8 a9 b0 b1 b2 b3 b4 b5 b6 b7 b8 b9 c0 c1 c2 c3 c4 c5 c6 c7 c8 c9 d0 d1 d2 d3 d4 d5 d6 d7 d8 d9 e0 e1 e2 e3 e4 e5 e6 e7 e8 e9 f0 f1 f2 f3 f4 f5 f6 f7 f8 f9 g0 g1 g2 g3 g4 g5 g6 g7 g8 g9 h0 h1 h2 h3 n2 n3 n4 n5 n6 n7 n8 n9 o0 o1 o2 o3 o4 o5 o6 o7 o8 o9 p0 p1 h4 h5 h6 h7 h8 h9 i0 i1 i2 i3 i4 i5 i6 i7 i8 i9 j0 j1 j2 j3 j4 j5 j6 j7 j8 j9 k0 k1 k2 k3 k4 k5 k6 k7 k8 k9 l0 l1 l2 l3 l4:Value}(b i c:Nat)(t:ByteArray)(f:Fl)(F G l5 H:Value)(w:World)(h:Z (aw w b f 0 0 F G l5 H))(t0:c<=t.size)(p2:i<=c)(t1:t.size<=1048576)(t2:f.z.length<=1048576)(p3:Z (∀I p4 p5 p6 p7 p8 p9 q0 q1 q2 q3 q4 q5 q6 q7 q8 q9 r0 r1 r2 r3 J n,aw J b {f with z:=f.z++plc (seg t i (c-i)) i} 0 0 F G n H->Below b w J->V ⟨#[.pointer (some ⟨b,0,none⟩),.string t,W,X,Y,a0,a1,a2,a3,a4,a5,a6,.int .i64 c,I,a7,a8,a9,b0,b1,b2,b3,b4,b5,b6,b7,b8,b9,c0,c1,c2,c3,c4,c5,c6,c7,c8,c9,d0,d1,d2,d3,d4,d5,d6,d7,d8,d9,e0,e1,e2,e3,e4,e5,e6,e7,e8,e9,f0,f1,f2,f3,f4,f5,f6,f7,f8,f9,g0,g1,g2,g3,g4,g5,g6,g7,g8,g9,h0,h1,h2,h3,p4,p5,p6,p7,p8,p9,q0,q1,q2,q3,q4,q5,q6,q7,q8,q9,r0,r1,r2,r3,h4,h5,h6,h7,h8,h9,i0,i1,i2,i3,i4,i5,i6,i7,i8,i9,j0,j1,j2,j3,j4,j5,j6,j7,j8,j9,k0,k1,k2,k3,k4,k5,k6,k7,k8,k9,l0,l1,l2,l3,l4],[]⟩ J)):Code.wp prog ((f58.body.bind (dN 0)).getD .skip) (Exit.then V (bodyPost prog f58 P)) ⟨#[.pointer (some ⟨b,0,none⟩),.string t,W,X,Y,a0,a1,a2,a3,a4,a5,a6,.int .i64 c,.int .i64 i,a7,a8,a9,b0,b1,b2,b3,b4,b5,b6,b7,b8,b9,c0,c1,c2,c3,c4,c5,c6,c7,c8,c9,d0,d1,d2,d3,d4,d5,d6,d7,d8,d9,e0,e1,e2,e3,e4,e5,e6,e7,e8,e9,f0,f1,f2,f3,f4,f5,f6,f7,f8,f9,g0,g1,g2,g3,g4,g5,g6,g7,g8,g9,h0,h1,h2,h3,n2,n3,n4,n5,n6,n7,n8,n9,o0,o1,o2,o3,o4,o5,o6,o7,o8,o9,p0,p1,h4,h5,h6,h7,h8,h9,i0,i1,i2,i3,i4,i5,i6,i7,i8,i9,j0,j1,j2,j3,j4,j5,j6,j7,j8,j9,k0,k1,k2,k3,k4,k5,k6,k7,k8,k9,l0,l1,l2,l3,l4],[]⟩ w:=by
 conv=>arg 2;whnf
 go_wp2_with fail;go_loopg [13] (c-i) (λr4 I l6=>∃(a:Nat) (n:Value),i<=a/\a<=c/\I=.int .i64 a/\r4=c-a/\aw l6 b {f with z:=f.z++plc (seg t i (a-i)) i} 0 0 F G n H/\Below b w l6)
 case atStart=>exact⟨i,l5,E _,p2,rfl,rfl,by rw[YC,show plc (seg t i 0) i=[] from rfl,XN];exact h.o,Xs _ _⟩
 case round=>
  obtain⟨a,n,t3,t4,rfl,l7,j,l8⟩:=hrel;have r5:Z _:=l7;have K:Z _:=j;have l9:Z _:=l8;clear l7 l8;by_cases t5:a<c
  .have r6:(a:Int)<(c:Int):=O
   have t6:a<t.size:=O;have t7:(a:Int)<(t.size:Int):=O;have t8:(0:Int)<=(a:Int):=O;obtain⟨v,y,r⟩:=ak j.z;have r7:(f.z++plc (seg t i (a-i)) i).length<=2097152:=by
    rw[Xv,pS,seg_length t i (a-i) O];omega
   obtain⟨d,q⟩:∃d,d=(f.z++plc (seg t i (a-i)) i).length:=⟨_,rfl⟩;have r8:wr.cell? ⟨b,10,none⟩=some (.slice v d y):=by rw[q,<-r];exact j.cell 10 O
   have m0:=j.z;have m1:=j.lt;have M:¬n.ownBlock=some b:=λo=>by have:=(j.z.lt b o).1;omega
   have r9:=j.fz;have m2:Z (plc (seg t i (a+1-i)) i=plc (seg t i (a-i)) i++[(t[a].toNat,a)]):=by
    show plc (seg t i (a+1-i)) i=_
    rw[show a+1-i=(a-i)+1 from O,fV t i (a-i) O,zU,seg_length t i (a-i) O];simp only[show i+(a-i)=a from O]
   obtain⟨e,A⟩:∃e,e=t[a].toNat:=⟨_,rfl⟩;have t9:e<256:=by rw[A];exact t[a].toNat_lt
   rw[<-A] at m2;have u0:IntKind.i64.wrap (e:Int)=(e:Int):=Xd;have u1:IntKind.i64.wrap (a:Int)=(a:Int):=Xd;have u2:(t[a].toNat:Int)=(e:Int):=by rw[A]
   have s0:d+1<=100000000:=O;have m3:Z (wr.ownsRow (b+1) 148 2 (.slice v d y) d (fX (f.z++plc (seg t i (a-i)) i))):=by rw[q,<-r];exact m0
   have m4:Z (n=.slice v d y):=by rw[q];exact r
   rw[r,<-q] at M;have m5:Z _:=q;have s1:Z (∀(m6:TypeId) (l:Nat) (m:Value),[Value.int .i64 e,.int .i64 a][l]? = some m->(wr.alloc (Obj.cells #[Value.int .i64 e,.int .i64 a] m6)).cell? ⟨wr.heap.size,l,none⟩=some m):=λm6 l m B=>by rw[Xr _ _ _ _ rfl];simpa using B
   have s2:Z (∀m∈[Value.int .i64 e,.int .i64 a],m.oneCell'=true):=by
    intro m m7;simp only[Y4,List.not_mem_nil,or_false] at m7;rcases m7 with rfl|rfl<;>rfl
   obtain⟨N,Q⟩:∃N,N=fX (f.z++plc (seg t i (a-i)) i):=⟨_,rfl⟩;rw[<-Q] at m3;have s3:Z _:=Q;clear Q;clear r q m0 j A r7;go_upto_region 21 with fail
   go_region_law ((refine NZ (by rfl) _ _ (by rfl) (b+1) (.slice v d y) d N (by rfl) (by exact bO m3.o (Kept.drewN ((Xs _ _).alloc (E _) _) 1)) wr.heap.size 1 [Value.int .i64 e,.int .i64 a] (by rfl) rfl (by intro l m B;exact s1.o _ l m B) s2.o s0 Xf ?_;intro C S m8 D m9 n0;have g:=(((Fr.refl _ wr).alloc _).drewN 1).trans m9;have s4:=(g.cell (k:=10) m1 M).trans r8;have s5:=(g.frozen (k:=10) m1 M).trans (r9 10)))
   all_goals
    have T:∀s,(Value.slice (some ⟨C,0,none⟩) (d+1) S).ownBlock=some s->n.ownBlock=some s\/wr.heap.size<=s:=λs s6=>by
     have o:C=s:=by injection s6
     subst o;rw[m4.o];rcases n0 with u|u
     .exact L u
     .exact R (by simp at u;omega)
    rw[<-m4.o] at g;rw[m5.o] at D T;rw[s3.o] at D;have U:=K.o.setZ (x:=(e,a)) g D T;have n1:Below b w (m8.setCell ⟨b,10,none⟩ (.slice (some ⟨C,0,none⟩) (d+1) S)):=by
     have s7:Below b wr m8:=⟨g.os,g.tape,g.output,g.size,λl B=>g.block l O (λo=>by have:=(K.o.z.lt l o).1;omega)⟩;exact(l9.o.trans s7).setCell (p:=⟨b,10,none⟩) (E b) _
    rw[<-m5.o] at U;have s8:Z _:=U;have s9:Z _:=n1;clear T g D n0 m9 U n1 s4 s5;go_wp2_with fail;go_roundg (c-(a+1))
    case measure=>have:=r5.o;omega
    refine⟨a+1,.slice (some ⟨C,0,none⟩) (d+1) S,O,O,Xj,rfl,?_,s9.o⟩;have u:=s8.o;rw[m2.o,<-XY];exact u
  .have o:a=c:=O
   subst o;have r6:¬(a:Int)<(a:Int):=O;go_wp2_with fail;exact p3.o _ _ _ _ _ _ _ _ _ _ _ _ _ _ _ _ _ _ _ _ _ _ _ K.o l9.o
