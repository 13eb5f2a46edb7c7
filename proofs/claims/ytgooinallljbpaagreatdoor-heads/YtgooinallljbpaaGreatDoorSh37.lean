import Derived.Test.YtgooinallljbpaaGreatDoorSh00
import Derived.Test.YtgooinallljbpaaGreatDoorSh36
import Derived.Test.YtgooinallljbpaaGreatDoorSh10
set_option linter.all false
set_option maxRecDepth 100000
set_option maxHeartbeats 0
namespace Go.Proofs.YtgooinallljbpaaGreatDoor
open Go.RowKit Px Tryz
def gw(f2:Fl)(k n:Nat)(d:List Nat)(cut bad:Bool):Ch:=
 if cut=true then⟨f2,0,0,0⟩ else if bad=true then⟨f2,6,8+n+3,0⟩ else if(f2.ends k d).2≠0 then⟨(f2.ends k d).1,(f2.ends k d).2,8+n+3,0⟩ else⟨(f2.ends k d).1,0,0,8+n+4⟩
theorem Dv{P:Ending->World->Prop}{a c w r}(h:P (.returned (.tuple #[.int .i64 a,.bool c])) w)(e:r=.returned (.tuple #[.int .i64 a,.bool c])):P r w:=by rw[e];exact h
theorem Eb{a7 a8 a9 b0 b1 b2 b3 b4 b5 b6 b7 b8 b9 c0 c1 c2 c3 c4 c5 c6 c7 c8 c9 d0 d1 d2 d3 d4 d5 d6 d7 d8 d9 e0 e1 e2 e3 e4 e5 e6 e7 e8 e9 f0 f1 f2 f3 f4 f5 f6 f7 f8 f9 g0 g1 g2 g3 g4 g5 g6 g7 g8 g9 h0 h1 h2 h3 h4 h5 h6 h7 h8 h9 i0 i1 i2 i3 i4 i5 i6 i7 i8 i9 j0 j1 j2 j3 j4 j5 j6 j7 j8 j9 k0 k1 k2 k3 k4 k5 k6 k7 k8 k9 l0 l1 l2 l3 l4 l5 l6 l7 l8 l9 m0 m1 m2 m3 m4 m5 m6 m7 m8 m9 n0 n1 n2 n3 n4 n5 n6 n7 n8 n9 o0 o1 o2 o3:Value}(P:Ending->World->Prop)(b i n a C r:Nat)(t q:ByteArray)(k:Fl)(y z l m:Value)(w:World)(h:Z (aw w b k 0 0 y z l m))(p0:t.size<=1048576)(S:a=i+8+n)(p1:i+8<=t.size)(p2:n<2147483648)(T:a+4<=t.size->Z (∀e,Calls prog 100 #[.string (t.extract (i+4) a)] e λj c=>j=.returned (.int .i64 C)/\c=e))(U:a+4<=t.size->Z (∀e,Calls prog 98 #[.string t,.int .i64 a,.int .i64 4] e λj c=>j=.returned (.int .i64 r)/\c=e))(V:a+4<=t.size->Z (∀e,aw e b k 0 0 y z l m->Calls prog 101 #[.pointer (some ⟨b,0,none⟩),.string q,.string (t.extract (i+8) a)] e λj c=>∃f g,j=.returned (.int .i64 ((k.ends (ty q) (seg t (i+8) n)).2:Int))/\aw c b (k.ends (ty q) (seg t (i+8) n)).1 0 0 f g l m/\Below b e c))(o:Z (∀d f g,aw d b (gw k (ty q) n (seg t (i+8) n) (decide (t.size<a+4)) (decide (C≠r))).f (gw k (ty q) n (seg t (i+8) n) (decide (t.size<a+4)) (decide (C≠r))).err (if(gw k (ty q) n (seg t (i+8) n) (decide (t.size<a+4)) (decide (C≠r))).err=0 then 0 else i+(gw k (ty q) n (seg t (i+8) n) (decide (t.size<a+4)) (decide (C≠r))).at') f g l m->Below b w d->P (.returned (.tuple #[.int .i64 ((i+(gw k (ty q) n (seg t (i+8) n) (decide (t.size<a+4)) (decide (C≠r))).took:Nat):Int),.bool (decide ((gw k (ty q) n (seg t (i+8) n) (decide (t.size<a+4)) (decide (C≠r))).took≠0))])) d)):Code.wp prog ((f58.body.bind (lA 22)).getD .skip) (bodyPost prog f58 P) ⟨#[.pointer (some ⟨b,0,none⟩),.string t,.int .i64 i,a7,a8,a9,b0,b1,b2,.string q,b3,.int .i64 a,b4,b5,b6,b7,b8,b9,c0,c1,c2,c3,c4,c5,c6,c7,c8,c9,d0,d1,d2,d3,d4,d5,d6,d7,d8,d9,e0,e1,e2,e3,e4,e5,e6,e7,e8,e9,f0,f1,f2,f3,f4,f5,f6,f7,f8,f9,g0,g1,g2,g3,g4,g5,g6,g7,g8,g9,h0,h1,h2,h3,h4,h5,h6,h7,h8,h9,i0,i1,i2,i3,i4,i5,i6,i7,i8,i9,j0,j1,j2,j3,j4,j5,j6,j7,j8,j9,k0,k1,k2,k3,k4,k5,k6,k7,k8,k9,l0,l1,l2,l3,l4,l5,l6,l7,l8,l9,m0,m1,m2,m3,m4,m5,m6,m7,m8,m9,n0,n1,n2,n3,n4,n5,n6,n7,n8,n9,o0,o1,o2,o3],[]⟩ w:=by
 conv=>arg 2;whnf
 have p3:=h.o.lt;unfold gw at o;by_cases L:t.size<a+4
 .have u:Z (P (.returned (.tuple #[.int .i64 i,.bool false])) w):=by
   have:=o.o w y z
   rw[I (K L)] at this;exact this h.o (Xs _ _)
  have o4:(t.size:Int)<(a:Int)+4:=O;clear o T U V;go_wp2;exact Dv u.o rfl
 have W:a+4<=t.size:=O;have X:=T W;have Y:=U W;have M:=V W;rw[N (by rw[J L];decide)] at o;clear T U V;have o4:¬(t.size:Int)<(a:Int)+4:=O;have p4:i+8<=a:=O;by_cases Q:C=r
 .rw[N (by rw[J (λa0=>a0 Q)];decide)] at o
  have o5:((C:Int)!=(r:Int))=false:=Xc;obtain⟨v,a6⟩:∃v,v=(k.ends (ty q) (seg t (i+8) n)).1:=⟨_,rfl⟩;obtain⟨s,a1⟩:∃s,s=(k.ends (ty q) (seg t (i+8) n)).2:=⟨_,rfl⟩;rw[<-a6,<-a1] at o M;clear L Q a6;by_cases A:s=0
  .have u:Z (∀d f g,aw d b v 0 0 f g l m->Below b w d->P (.returned (.tuple #[.int .i64 ((a+4:Nat):Int),.bool true])) d):=λd f g B D=>by
    have:=o.o d f g
    rw[N (λa0=>a0 A)] at this;have x:=this B D;rw[show i+(⟨v,0,0,8+n+4⟩:Ch).took=a+4 by show i+(8+n+4)=_;omega] at x;exact x
   have o6:((s:Int)!=0)=false:=Xc;clear o a1 A S;go_wp2_with fail;refine(X.o _).mono ?_;rintro j c ⟨rfl,E⟩;subst c;go_wp2_with fail;refine(Y.o _).mono ?_;rintro j c ⟨rfl,E⟩;subst c;go_wp2_with fail;refine(M.o _ h.o).mono ?_;rintro j a2 ⟨f,g,rfl,x,F⟩;have G:Z _:=u.o a2 f g x F;clear x F u;go_wp2;exact Dv G.o Xi
  .have u:Z (∀d f g,aw d b v s (a+3) f g l m->Below b w d->P (.returned (.tuple #[.int .i64 i,.bool false])) d):=λd f g B D=>by
    have:=o.o d f g
    rw[I A] at this;refine this ?_ D;show aw d b v s (if s=0 then 0 else i+(8+n+3)) _ _ _ _
    rw[N A,show i+(8+n+3)=a+3 from O];exact B
   have o6:((s:Int)!=0)=true:=Xe;have R:Z (∀e f g,aw e b v 0 0 f g l m->Calls prog 57 #[.pointer (some ⟨b,0,none⟩),.int .i64 s,.int .i64 ((a:Int)+3)] e λj c=>j=.returned (.bool false)/\aw c b v s (a+3) f g l m/\Fr1 b e c):=λe f g a3=>gH b v 0 0 s (a+3) f g l m e a3
   clear o a1 A S;go_wp2_with fail;refine(X.o _).mono ?_;rintro j c ⟨rfl,E⟩;subst c;go_wp2_with fail;refine(Y.o _).mono ?_;rintro j c ⟨rfl,E⟩;subst c;go_wp2_with fail;refine(M.o _ h.o).mono ?_;rintro j a2 ⟨f,g,rfl,x,F⟩;have p5:=x.lt;have o7:Z _:=F;have o8:Z _:=(R.o a2 f g x);clear x F R;go_wp2_with fail;refine X9 o8.o ?_;rintro j a4 ⟨rfl,H,p⟩;have G:Z _:=u.o a4 f g H (o7.o.trans ⟨p.os,p.tape,p.output,p.size,λa5 o9=>p.block a5 O O⟩);clear H p u;go_wp2;exact Dv G.o rfl
 .rw[I (K (show C≠r from Q))] at o
  have u:Z (∀d,aw d b k 6 (a+3) y z l m->Below b w d->P (.returned (.tuple #[.int .i64 i,.bool false])) d):=λd B D=>by
   refine o.o d y z ?_ D;show aw d b k 6 (i+(8+n+3)) _ _ _ _
   rw[show i+(8+n+3)=a+3 from O];exact B
  have o5:((C:Int)!=(r:Int))=true:=Xe;have R:Z (∀e,aw e b k 0 0 y z l m->Calls prog 57 #[.pointer (some ⟨b,0,none⟩),.int .i64 6,.int .i64 ((a:Int)+3)] e λj c=>j=.returned (.bool false)/\aw c b k 6 (a+3) y z l m/\Fr1 b e c):=λe a3=>gH b k 0 0 6 (a+3) y z l m e a3
  clear L Q o S M;go_wp2_with fail;refine(X.o _).mono ?_;rintro j c ⟨rfl,E⟩;subst c;go_wp2_with fail;refine(Y.o _).mono ?_;rintro j c ⟨rfl,E⟩;subst c;go_wp2_with fail;refine(R.o _ h.o).mono ?_;rintro j a4 ⟨rfl,H,p⟩;have G:Z _:=u.o a4 H ⟨p.os,p.tape,p.output,p.size,λa5 o9=>p.block a5 O O⟩;clear H p u;go_wp2;exact Dv G.o rfl
def ChP(w w':World)(b:Nat)(f:Fl)(l:List Nat)(i:Nat)(r:Ending):Prop:=∃dn F' pv' cv' zv' iv',(f.ov (la l)=true->rJ f.z dn)/\r=.returned (.tuple #[.int .i64 ((i+(f.chunk l i dn).took:Nat):Int),.bool (decide ((f.chunk l i dn).took≠0))])/\aw w' b F' (f.chunk l i dn).err (if(f.chunk l i dn).err=0 then 0 else i+(f.chunk l i dn).at') pv' cv' zv' iv'/\dL (f.chunk l i dn).f F'/\((f.chunk l i dn).took≠0->F'=(f.chunk l i dn).f)/\Below b w w'
theorem CG t f1 k i n(h:i+8<=t.size):Fl.body f1 k n (((ag t).drop i).take 8) (((ag t).drop i).drop 8) (i+8)=gw (f1.data k (seg t (i+8) n) (i+8)) k n (seg t (i+8) n) (decide (t.size<i+8+n+4)) (decide (bz (bg ax (seg t (i+4) (4+n)))≠cV (seg t (i+8+n) 4))):=by
 have b:(((ag t).drop i).drop 8).length=t.size-(i+8):=by rw[YV,Yn,az]
 unfold Fl.body gw;rw[As];by_cases c:t.size<i+8+n+4
 .rw[I (by rw[b];omega),I (K c)]
 have d:¬(decide (t.size<i+8+n+4)=true):=by rw[J c];decide
 have e:(((ag t).drop i).take 8).drop 4++seg t (i+8) n=seg t (i+4) (4+n):=by
  rw[<-Kl t i n O,As]
 have f:n4 ((((ag t).drop i).drop 8).getD n 0) ((((ag t).drop i).drop 8).getD (n+1) 0) ((((ag t).drop i).drop 8).getD (n+2) 0) ((((ag t).drop i).drop 8).getD (n+3) 0)=cV (seg t (i+8+n) 4):=by
  rw[YV,bY,bY,bY,bY];exact yk t (i+8+n) O
 rw[e,f,N (show ¬(((ag t).drop i).drop 8).length<n+4 by rw[b];omega),N d];by_cases a:bz (bg ax (seg t (i+4) (4+n)))≠cV (seg t (i+8+n) 4)
 .rw[I a,I (K a)]
 .have g:¬(decide (bz (bg ax (seg t (i+4) (4+n)))≠cV (seg t (i+8+n) 4))=true):=by rw[J a];decide
  rw[N a,N g]
theorem Ga b t(i:Nat)(w:World)(h:t.size<i+4)(d:t.size<=1048576)(e:i<=1048576):Calls prog 58 #[.pointer (some ⟨b,0,none⟩),.string t,.int .i64 i] w λa c=>a=.returned (.tuple #[.int .i64 i,.bool false])/\c=w:=by
 go_enter func58,ntmps58;go_wp2;go_ret2;exact⟨rfl,rfl⟩
theorem Gb b f pv cv zv iv t(i n:Nat)w(h:aw w b f 0 0 pv cv zv iv)(o:i+4<=t.size)(p:t.size<=1048576)(g:Z (∀c,Calls prog 98 #[.string t,.int .i64 i,.int .i64 4] c λd a=>d=.returned (.int .i64 n)/\a=c))(q:decide ((2147483648:Int)<=(n:Int))=true):Calls prog 58 #[.pointer (some ⟨b,0,none⟩),.string t,.int .i64 i] w λd a=>d=.returned (.tuple #[.int .i64 i,.bool false])/\aw a b f 2 (i+3) pv cv zv iv/\Below b w a:=by
 have j:Z (∀c,aw c b f 0 0 pv cv zv iv->Calls prog 57 #[.pointer (some ⟨b,0,none⟩),.int .i64 2,.int .i64 ((i:Int)+3)] c λd a=>d=.returned (.bool false)/\aw a b f 2 (i+3) pv cv zv iv/\Fr1 b c a):=λc k=>gH b f 0 0 2 (i+3) pv cv zv iv c k
 have r:=h.lt;go_enter func58,ntmps58;go_wp2_with fail;refine(g.o _).mono ?_;rintro d a ⟨rfl,s⟩;subst a;go_wp2_with fail;refine(j.o _ h).mono ?_;rintro d u ⟨rfl,l,e⟩;go_wp2;go_ret2;exact⟨rfl,l,⟨e.os,e.tape,e.output,e.size,λm v=>e.block m O O⟩⟩
theorem F9 b t(i n:Nat)w(f:i+4<=t.size)(g:t.size<i+8)(h:t.size<=1048576)(e:Z (∀d,Calls prog 98 #[.string t,.int .i64 i,.int .i64 4] d λc a=>c=.returned (.int .i64 n)/\a=d))(j:decide ((2147483648:Int)<=(n:Int))=false):Calls prog 58 #[.pointer (some ⟨b,0,none⟩),.string t,.int .i64 i] w λc a=>c=.returned (.tuple #[.int .i64 i,.bool false])/\a=w:=by
 go_enter func58,ntmps58;go_wp2_with fail;refine(e.o _).mono ?_;rintro c a ⟨rfl,k⟩;subst a;go_wp2;go_ret2;exact⟨rfl,rfl⟩
theorem F8 b f g j l k t(i n:Nat)u(h:aw u b f 0 0 g j l k)(c0:FOk f)(c1:FBd i f)(a6:i+8<=t.size)(a7:t.size<=1048576)(h3:Z (∀e,Calls prog 98 #[.string t,.int .i64 i,.int .i64 4] e λo m=>o=.returned (.int .i64 n)/\m=e))(c2:n<2147483648)(c3:Z (∀B,f.chunk ((ag t).drop i) i B=if f.begE (ty (t.extract (i+4) (i+8))) n B≠0 then⟨f,f.begE (ty (t.extract (i+4) (i+8))) n B,7,0⟩ else Fl.body (f.begF (ty (t.extract (i+4) (i+8)))) (ty (t.extract (i+4) (i+8))) n (((ag t).drop i).take 8) (((ag t).drop i).drop 8) (i+8)))(e2:Z (ty (t.extract (i+4) (i+8))=la ((ag t).drop i))):Calls prog 58 #[.pointer (some ⟨b,0,none⟩),.string t,.int .i64 i] u λo m=>ChP u m b f ((ag t).drop i) i o:=by
 obtain⟨d,a8⟩:∃d,d=t.extract (i+4) (i+8):=⟨_,rfl⟩;have c4:d.size=4:=by rw[a8,size_extract t _ _ O a6];omega
 rw[<-a8] at c3 e2;have k6:decide ((2147483648:Int)<=(n:Int))=false:=J;have h4:=U (CM b f 0 0 i g j l k d n u h c4 c2 c0 c1 O);have e3:=xO d c4;have h5:Z _:=c1;have h6:Z _:=c0;have e4:=a8.symm;clear h c0 c1 a8;go_enter func58,ntmps58;go_wp2_with fail;refine(h3.o _).mono ?_;rintro o m ⟨rfl,h7⟩;subst m;go_wp2_with fail;rw[e4];clear e4;refine h4.o.mono ?_;rintro o r ⟨B,c,e5,rfl,c5,e6,c6,e7⟩;have c7:Z (f.ov (la ((ag t).drop i))=true->rJ f.z B):=by rw[<-e2.o];exact e5
 have H:Z _:=c5;have e8:Z _:=e7;have c8:=U e6;have h8:=c5.lt;obtain⟨y,c9⟩:∃y,y=f.begE (ty d) n B:=⟨_,rfl⟩;have C:=c3.o B;rw[<-c9] at c6 C ⊢;have e9:Z _:=c6;have f0:Z _:=c9;clear e5 c5 e6 c6 e7 c9 c3;by_cases M:y=0
 .rw[N (λq=>q M),CG t _ _ i n a6] at C
  have h9:((y:Int)!=0)=false:=Xc;obtain⟨a,d0⟩:∃a,a=i+8+n:=⟨_,rfl⟩;have k7:(i:Int)+8+(n:Int)=(a:Int):=O;rw[<-(e9.o M),<-d0] at C;have v:Z _:=C;have d1:Z _:=d0;have k8:i+8<=a:=O;have k9:a<=4294967296:=O;have f1:Z _:=(h5.o.same c8.o);have f2:Z (a+4<=t.size->Z (∀e,Calls prog 100 #[.string (t.extract (i+4) a)] e λo m=>o=.returned (.int .i64 ((bz (bg ax (seg t (i+4) (4+n))):Nat):Int))/\m=e)):=λq e=>by
   have:=Jl (t.extract (i+4) a) e (by rw[size_extract t _ _ O O];omega)
   rw[kV,show a-(i+4)=4+n from O] at this;exact this
  have f3:Z (a+4<=t.size->Z (∀e,Calls prog 98 #[.string t,.int .i64 a,.int .i64 4] e λo m=>o=.returned (.int .i64 ((cV (seg t a 4):Nat):Int))/\m=e)):=λq e=>lu t a 4 e O O a7
  have Q:=f0.o.symm.trans M;have f4:Z (∀S:Fl,S.hd=f.hd->a+4<=t.size->∀l k g j,Z (∀e,aw e b S 0 0 g j l k->Calls prog 101 #[.pointer (some ⟨b,0,none⟩),.string d,.string (t.extract (i+8) a)] e λo m=>∃a2 a3,o=.returned (.int .i64 ((S.ends (ty d) (seg t (i+8) n)).2:Int))/\aw m b (S.ends (ty d) (seg t (i+8) n)).1 0 0 a2 a3 l k/\Below b e m)):=λS i0 q l k g j e d2=>by
   have a9:(t.extract (i+8) a).size=n:=by rw[size_extract t _ _ O O];omega
   have:=I8 b S 0 0 g j l k d (t.extract (i+8) a) e d2 c4 (by rw[a9];omega) (λs=>by rw[a9];rw[s] at Q;exact(kJ Q).2) (λs f5=>by
    rw[s] at Q;have d3:=dw Xh Q;have f6:=(h6.o.on d3).2;have f7:f.hd.D<=16:=by have:=f6.D;unfold okD at this;omega
    rw[i0] at f5 ⊢;rcases(uV d3 f6.K (lJ d3 Q)).2 with q|⟨_,q⟩|⟨_,q⟩
    .exact absurd q f5
    .exact⟨by rw[a9,q],f7⟩
    .exact⟨by rw[a9,q],f7⟩)
   rw[kV,show a-(i+8)=n from O] at this;exact this
  have f8:Z (∀(b0:World) (g j l k:Value),Below b r b0->aw b0 b (c.data (ty d) (seg t (i+8) n) (i+8)) 0 0 g j l k->Z (∀b1 a2 a3,aw b1 b (gw (c.data (ty d) (seg t (i+8) n) (i+8)) (ty d) n (seg t (i+8) n) (decide (t.size<a+4)) (decide (bz (bg ax (seg t (i+4) (4+n)))≠cV (seg t a 4)))).f (gw (c.data (ty d) (seg t (i+8) n) (i+8)) (ty d) n (seg t (i+8) n) (decide (t.size<a+4)) (decide (bz (bg ax (seg t (i+4) (4+n)))≠cV (seg t a 4)))).err (if(gw (c.data (ty d) (seg t (i+8) n) (i+8)) (ty d) n (seg t (i+8) n) (decide (t.size<a+4)) (decide (bz (bg ax (seg t (i+4) (4+n)))≠cV (seg t a 4)))).err=0 then 0 else i+(gw (c.data (ty d) (seg t (i+8) n) (i+8)) (ty d) n (seg t (i+8) n) (decide (t.size<a+4)) (decide (bz (bg ax (seg t (i+4) (4+n)))≠cV (seg t a 4)))).at') a2 a3 l k->Below b b0 b1->ChP u b1 b f ((ag t).drop i) i (.returned (.tuple #[.int .i64 ((i+(gw (c.data (ty d) (seg t (i+8) n) (i+8)) (ty d) n (seg t (i+8) n) (decide (t.size<a+4)) (decide (bz (bg ax (seg t (i+4) (4+n)))≠cV (seg t a 4)))).took:Nat):Int),.bool (decide ((gw (c.data (ty d) (seg t (i+8) n) (i+8)) (ty d) n (seg t (i+8) n) (decide (t.size<a+4)) (decide (bz (bg ax (seg t (i+4) (4+n)))≠cV (seg t a 4)))).took≠0))])))):=λb0 g j l k i1 l0 b1 a2 a3 i2 i3=>by
   refine⟨B,(gw (c.data (ty d) (seg t (i+8) n) (i+8)) (ty d) n (seg t (i+8) n) (decide (t.size<a+4)) (decide (bz (bg ax (seg t (i+4) (4+n)))≠cV (seg t a 4)))).f,a2,a3,l,k,c7.o,?_,?_,?_,λ_ => ?_,(e8.o.trans i1).trans i3⟩
   .rw[v.o]
   .rw[v.o];exact i2
   .rw[v.o];exact dL.refl _
   .rw[v.o]
  have f9:c.hd=f.hd:=by obtain⟨l1,l2,s⟩:=c8.o;rw[s]
  have g0:Z _:=f9;clear C f0 v c7 f9 Q d0 e9;obtain⟨x,g1⟩:∃i4,i4=min a t.size:=⟨_,rfl⟩;have T:Z _:=g1;clear g1;go_upto_if 64 with fail
  go_cut [12,64] from 65 to 66 (λi5 l3 e=>i5=.int .i64 x/\e=r)
  case first=>
   by_cases i6:t.size<a
   .have i7:(t.size:Int)<(a:Int):=O
    have d4:Z (x=t.size):=by show x=t.size;have:=T.o;omega
    clear T;go_wp2_with fail;go_meet
    case rel=>exact⟨by rw[d4.o],rfl⟩
   .have i7:¬(t.size:Int)<(a:Int):=O
    have d4:Z (x=a):=by show x=a;have:=T.o;omega
    clear T;go_wp2_with fail;go_meet
    case rel=>exact⟨by rw[d4.o],rfl⟩
  case rest=>
   obtain⟨rfl,h7⟩:=hcut;subst wc;have d5:Z _:=T.o;clear T;by_cases V:ty d=aG
   .rw[K V] at e3
    obtain⟨i8,b2⟩:=H.o.ids;obtain⟨i9,j0,d6⟩:=ak b2;have g2:r.cell? ⟨b,11,none⟩=some (.slice i9 c.ids j0):=by rw[<-d6];exact H.o.cell 11 O
    have l4:c.ids<=1048576:=Xz f1.o.ids O;have g3:=U b2;have j1:Z _:=d6;have j2:Z (∀A b3,[Value.int .i64 n][A]? = some b3->(r.alloc (.cells #[.int .i64 n] 3)).cell? (Addr.add ⟨r.heap.size,0,none⟩ A)=some b3):=by
     intro A b3 D
     match A,D with
     | 0,D=>simp at D;subst D;simp[Addr.add]
     | A+1,D=>simp at D
    have v:Z _:=V;have g4:some b≠k.ownBlock:=λs=>by have:=(b2.lt b s.symm).1;omega
    clear b2 d6 V;go_wp2_with (at_builtin;refine ch _ 30 3 1 8 (.int .i64 0) underlying30 kQ rfl O rfl _ _ rfl (b+1) k c.ids i8 (by rw[j1.o];rfl) (g3.o.alloc _) ⟨r.heap.size,0,none⟩ 1 1 [.int .i64 n] rfl rfl O j2.o (by intro b3 g5;simp at g5;subst g5;rfl) Xn O Xf ?_)
    intro l5 W d7 g6 g7;obtain⟨X,Y,j3⟩:=ak d7;have F:=((Fr.refl _ r).alloc _).grown g6 (λb4 j4=>L j4);have d8:=H.o.setIds F d7 (λq G=>by rcases g7 q G with g8|g8;exact L g8;exact R O);have d9:=F.block b h8 (λs=>g4 s.symm);have l6:=(XK (w:=r) d9).trans g2;have l7:∀b4,W.frozen? ⟨b,b4,none⟩=false:=λb4=>(X2 (w:=r) d9).trans (H.o.fz b4)
    subst j3;obtain⟨a4,b5⟩:∃a4,a4=W.setCell ⟨b,11,none⟩ (.slice X (c.ids+1) Y):=⟨_,rfl⟩;rw[<-b5] at d8;have j5:Z _:=d8;have j6:Z (Below b r a4):=by
     have g9:Below b r W:=⟨F.os,F.tape,F.output,F.size,λA D=>F.block A O (λs=>by have:=(g3.o.lt A s).1;omega)⟩;show Below b r a4
     rw[b5];exact g9.setCell (p:=⟨b,11,none⟩) (E b) _
    have j7:Z _:=b5.symm;have j8:x<=t.size:=by have:=d5.o;omega
    have j9:i+8<=x:=by have:=d5.o;omega
    clear d8 F d7 g6 g7 d9 b5 g4 g2;go_upto_region 18 with fail
    rw[j7.o];go_upto_block 0 with fail
    have k0:Z (seg t (i+8) (x-(i+8))=seg t (i+8) n):=by
     show seg t (i+8) (x-(i+8))=seg t (i+8) n
     have g9:=d5.o;have e0:=d1.o;by_cases i6:t.size<a
     .rw[KA t (i+8) n O O,show x-(i+8)=t.size-(i+8) from O]
     .rw[show x-(i+8)=n from O]
    refine wp_mono (Nv (P:=λo m=>ChP u m b f ((ag t).drop i) i o) b (i+8) x t {c with ids:=c.ids+1} g j l (.slice X (c.ids+1) Y) a4 j5 j8 j9 a7 (Xz f1.o.zl O) ?_) (λs h0 u G=>G);intro l8 l9 m0 m1 m2 m3 m4 m5 m6 m7 m8 m9 n0 n1 n2 n3 n4 n5 n6 n7 n8 e1 b6 h1 k1;rw[k0.o] at h1;have a0:c.data (ty d) (seg t (i+8) n) (i+8)={c with ids:=c.ids+1,z:=c.z++plc (seg t (i+8) n) (i+8)}:=by unfold Fl.data;rw[I v.o]
    have a5:Z (aw e1 b (c.data (ty d) (seg t (i+8) n) (i+8)) 0 0 g j b6 (.slice X (c.ids+1) Y)):=by
     rw[a0];exact h1
    have b7:(c.data (ty d) (seg t (i+8) n) (i+8)).hd=f.hd:=by rw[a0];exact g0.o
    have b8:=f8.o e1 g j b6 (.slice X (c.ids+1) Y) (j6.o.trans k1) a5.o;have b9:a+4<=t.size->Z _:=λq=>f4.o (c.data (ty d) (seg t (i+8) n) (i+8)) b7 q b6 (.slice X (c.ids+1) Y) g j
    repeat(first|exact wp_mono (Eb (λo m=>ChP u m b f ((ag t).drop i) i o) b i n a _ _ t d (c.data (ty d) (seg t (i+8) n) (i+8)) g j b6 (.slice X (c.ids+1) Y) e1 a5 a7 d1.o a6 c2 f2.o f3.o b9 b8) (λs h0 u G=>G)|go_step)
   .rw[J V] at e3
    have a0:c.data (ty d) (seg t (i+8) n) (i+8)=c:=by unfold Fl.data;rw[N V]
    have a5:Z (aw r b (c.data (ty d) (seg t (i+8) n) (i+8)) 0 0 g j l k):=by
     rw[a0];exact H.o
    have b7:(c.data (ty d) (seg t (i+8) n) (i+8)).hd=f.hd:=by rw[a0];exact g0.o
    have b8:=f8.o r g j l k (Xs _ _) a5.o;have b9:a+4<=t.size->Z _:=λq=>f4.o (c.data (ty d) (seg t (i+8) n) (i+8)) b7 q l k g j
    have k2:Z _:=b8;have k3:Z _:=b9;clear a0 b7 b8 b9 V;go_upto_if 68 with fail
    repeat(first|exact wp_mono (Eb (λo m=>ChP u m b f ((ag t).drop i) i o) b i n a _ _ t d (c.data (ty d) (seg t (i+8) n) (i+8)) g j l k r a5 a7 d1.o a6 c2 f2.o f3.o k3.o k2.o) (λs h0 u G=>G)|go_step)
 .rw[I M] at C
  have v:Z _:=C;have h9:((y:Int)!=0)=true:=Xe;have k4:Z (∀e,aw e b c 0 0 g j l k->Calls prog 57 #[.pointer (some ⟨b,0,none⟩),.int .i64 y,.int .i64 ((i:Int)+7)] e λo m=>o=.returned (.bool false)/\aw m b c y (i+7) g j l k/\Fr1 b e m):=λe d2=>gH b c 0 0 y (i+7) g j l k e d2
  have k5:Z _:=M;clear C M;go_wp2_with fail;refine(k4.o _ H.o).mono ?_;rintro o W ⟨rfl,e0,a1⟩;have h2:Z (ChP u W b f ((ag t).drop i) i (.returned (.tuple #[.int .i64 i,.bool false]))):=by
   refine⟨B,c,g,j,l,k,c7.o,?_,?_,?_,λq => ?_,e8.o.trans ⟨a1.os,a1.tape,a1.output,a1.size,λA D=>a1.block A O O⟩⟩
   .rw[v.o];rfl
   .rw[v.o]
    show aw W b c y (if y=0 then 0 else i+7) _ _ _ _
    rw[N k5.o];exact e0
   .rw[v.o];exact c8.o
   .rw[v.o] at q;exact absurd rfl q
  clear e0 a1;go_wp2
  first
   | exact h2.o
   | (go_ret2;exact h2.o)
def Mg(W:World)(b:Nat)(l:List Nat):Prop:=∃F F' er at' pv cv zv iv,cq l F er at'/\dL F F'/\aw W b F' er at' pv cv zv iv/\FBd l.length F'
theorem CE b f pv cv zv iv t i w(h:aw w b f 0 0 pv cv zv iv)(u:FOk f)(r:FBd i f)(B:i<=t.size)(j:t.size<=1048576):Calls prog 58 #[.pointer (some ⟨b,0,none⟩),.string t,.int .i64 i] w λe g=>ChP w g b f ((ag t).drop i) i e:=by
 have k:((ag t).drop i).length=t.size-i:=by rw[Yn,az]
 obtain⟨c,n⟩:=Mm h (r.good O);by_cases v:t.size<i+4
 .refine(Ga b t i w v j O).mono ?_
  rintro e g ⟨rfl,rfl⟩;have a:f.chunk ((ag t).drop i) i c=⟨f,0,0,0⟩:=by unfold Fl.chunk;rw[I (by rw[k];omega)]
  refine⟨c,f,pv,cv,zv,iv,λ_=>n,by rw[a];rfl,by rw[a];exact h,by rw[a];exact dL.refl f,(λd=>by rw[a] at d;exact absurd rfl d),Xs _ _⟩
 have x:n4 (((ag t).drop i).getD 0 0) (((ag t).drop i).getD 1 0) (((ag t).drop i).getD 2 0) (((ag t).drop i).getD 3 0)=cV (seg t i 4):=by
  rw[bY,bY,bY,bY];exact yk t i O
 have o:Z (∀l,Calls prog 98 #[.string t,.int .i64 i,.int .i64 4] l λe g=>e=.returned (.int .i64 ((cV (seg t i 4):Nat):Int))/\g=l):=λl=>lu t i 4 l O O j
 have p:∀c,f.chunk ((ag t).drop i) i c=if 2147483648<=cV (seg t i 4) then⟨f,2,3,0⟩ else if((ag t).drop i).length<8 then⟨f,0,0,0⟩ else if f.begE (n4 (((ag t).drop i).getD 4 0) (((ag t).drop i).getD 5 0) (((ag t).drop i).getD 6 0) (((ag t).drop i).getD 7 0)) (cV (seg t i 4)) c≠0 then⟨f,f.begE (n4 (((ag t).drop i).getD 4 0) (((ag t).drop i).getD 5 0) (((ag t).drop i).getD 6 0) (((ag t).drop i).getD 7 0)) (cV (seg t i 4)) c,7,0⟩ else Fl.body (f.begF (n4 (((ag t).drop i).getD 4 0) (((ag t).drop i).getD 5 0) (((ag t).drop i).getD 6 0) (((ag t).drop i).getD 7 0))) (n4 (((ag t).drop i).getD 4 0) (((ag t).drop i).getD 5 0) (((ag t).drop i).getD 6 0) (((ag t).drop i).getD 7 0)) (cV (seg t i 4)) (((ag t).drop i).take 8) (((ag t).drop i).drop 8) (i+8):=λc=>by
  unfold Fl.chunk;rw[N (by rw[k];omega),x]
 generalize cV (seg t i 4)=m at *;by_cases q:2147483648<=m
 .refine(Gb b f pv cv zv iv t i m w h O j o K).mono ?_
  rintro e g ⟨rfl,y,z⟩;have a:=p c;rw[I q] at a;exact⟨c,f,pv,cv,zv,iv,λ_=>n,by rw[a];rfl,by rw[a];exact y,by rw[a];exact dL.refl f,(λd=>by rw[a] at d;exact absurd rfl d),z⟩
 by_cases A:t.size<i+8
 .refine(F9 b t i m w O A j o J).mono ?_
  rintro e g ⟨rfl,rfl⟩;have a:=p c;rw[N q,I (by rw[k];omega)] at a;exact⟨c,f,pv,cv,zv,iv,λ_=>n,by rw[a];rfl,by rw[a];exact h,by rw[a];exact dL.refl f,(λd=>by rw[a] at d;exact absurd rfl d),Xs _ _⟩
 have s:=Mz t i O;refine F8 b f pv cv zv iv t i m w h u r O j o O (λc => ?_) s;have a:=p c;rw[N q,N (by rw[k];omega),<-s] at a;exact a
theorem Kept.trans'{w x y}(h:Kept w x)(k:Below w.heap.size x y):Kept w y:=Below.trans h k
theorem LF{f:Fl}{k d}(h:(f.ends k d).2≠0):(f.ends k d).1.done=f.done:=by
 revert h
 unfold Fl.ends
 (repeat' split)
 all_goals(intro h;first|rfl|exact absurd rfl h)
theorem yK(f:Fl)k d i:(f.data k d i).done=f.done:=by
 unfold Fl.data;split<;>rfl
theorem yX(f:Fl)k:(f.begF k).done=f.done:=by
 obtain⟨b,c,a⟩:=xj f k;rw[a]
theorem Gf{f:Fl}{l i dn}(h:(f.chunk l i dn).took=0):(f.chunk l i dn).f.done=f.done:=by
 revert h
 unfold Fl.chunk;split
 .intro _;rfl
 split
 .intro _;rfl
 split
 .intro _;rfl
 split
 .intro _;rfl
 unfold Fl.body;split
 .intro _;rw[yK,yX]
 split
 .intro _;rw[yK,yX]
 split
 .rename_i a
  intro _;show(Fl.ends _ _ _).1.done=_
  rw[LF a,yK,yX]
 .intro h
  exact absurd h (by show 8+_+4≠0;omega)
def JE:Value->Nat|.bool true=>1|_=>0
def OC(l:List Nat)(b i:Nat)(ok:Bool)(W:World):Prop:=
 (ok=true/\∃f pv cv zv iv,aw W b f 0 0 pv cv zv iv/\Wk l i f/\FBd i f/\FBd l.length f) \/
 (ok=false/\∃F F' er at' pv cv zv iv,cq l F er at'/\dL F F'/\aw W b F' er at' pv cv zv iv/\FBd l.length F'/\F'.done=false)
theorem CT{c2 c3 c4 c5 c6 c7 c8 c9 d0 d1 d2 d3 d4 d5 d6 d7 d8 d9 e0 e1 e2 e3 e4 e5 e6 e7 e8 e9 f0 f1 f2 f3 f4 f5 f6 f7 f8 f9 g0 g1 g2 g3 g4 g5 g6 g7 g8 g9 h0 h1 h2 h3 h4 h5 h6 h7 h8 h9 i0 i1 i2 i3 i4 i5 i6:Value}(P:Ending->World->Prop)(b:Nat)(t:ByteArray)(w:World)(a1 a2 a3 a4:Value)(h:Z (aw w b Fl.start 0 0 a1 a2 a3 a4))(i7:t.size<=1048576)(i8:Z (Hb (ag t)))(M:Z (∀Q,Mg Q b (ag t)->Below b w Q->P (.returned (.pointer (some ⟨b,0,none⟩))) Q)):Code.wp prog ((f40.body.bind (lA 9)).getD .skip) (bodyPost prog f40 P) ⟨#[.string t,c2,c3,.pointer (some ⟨b,0,none⟩),c4,c5,c6,c7,c8,c9,d0,d1,d2,d3,d4,d5,d6,d7,d8,d9,e0,e1,e2,e3,e4,e5,e6,e7,e8,e9,f0,f1,f2,f3,f4,f5,f6,f7,f8,f9,g0,g1,g2,g3,g4,g5,g6,g7,g8,g9,h0,h1,h2,h3,h4,h5,h6,h7,h8,h9,i0,i1,i2,i3,i4,i5,i6],[]⟩ w:=by
 conv=>arg 2;whnf
 have m:Z _:=(az t);have a5:Z _:=da t;go_wp2_with fail;go_loopw [6,7] (λB E a6=>∃(a:Nat) (e:Bool),B=.int .i64 a/\E=.bool e/\OC (ag t) b a e a6/\Below b w a6/\(a<=t.size\/a=8)) (λB E _=>2*(t.size-(intOf B).toNat)+JE E)
 case atStart=>exact⟨8,true,rfl,rfl,L ⟨rfl,Fl.start,a1,a2,a3,a4,h.o,Wk.start i8.o,rE.mono O,rE.mono O⟩,Xs _ _,R rfl⟩
 case round=>
  obtain⟨a,e,rfl,rfl,hrel,a7,k0⟩:=hrel;have C:Z _:=a7;clear a7;cases e
  .rcases hrel with⟨n,_⟩|⟨_,o,D,i9,j0,p,q,r,s,f,g,k,a8,u⟩
   .cases n
   .have z:wr.cell? ⟨b,14,none⟩=some (.bool D.done):=k.cell 14 O
    rw[u] at z;have v:Z _:=M.o wr ⟨o,D,i9,j0,p,q,r,s,f,g,k,a8⟩ C.o;clear f g k a8 u;go_wp2;exact gB v.o rfl
  .rcases hrel with⟨_,c,p,q,r,s,f,g,k,a9⟩|⟨n,_⟩
   .have z:wr.cell? ⟨b,14,none⟩=some (.bool c.done):=f.cell 14 O
    by_cases S:a<t.size
    .have j1:(a:Int)<(t.size:Int):=O
     cases d:c.done
     .rw[d] at z
      have o:=CE b c p q r s t a wr f ((np a5.o g).2) k O i7;have b0:Z (∀i,∀A,ChP wr i b c ((ag t).drop a) a A->∃(x:Nat) (e:Bool),A=.returned (.tuple #[.int .i64 x,.bool e])/\OC (ag t) b x e i/\Below b w i/\(x<=t.size\/x=8)/\2*(t.size-x)+(if e=true then 1 else 0)<2*(t.size-a)+1):=λi A F=>by
       obtain⟨T,D,b1,b2,b3,b4,b5,b6,V,W,j2,b7⟩:=F;have b8:((ag t).drop a).length=t.size-a:=by rw[Yn,m.o]
       have X:=JB (dn:=T) (l:=(ag t).drop a) k (λj3 j4=>a5.o j3 (Yu j4)) O;by_cases j:(c.chunk ((ag t).drop a) a T).took=0
       .refine⟨_,_,b6,R ⟨J (λn=>n j),(c.chunk ((ag t).drop a) a T).f,D,_,_,b1,b2,b3,b4,cq.stop g d (by rw[m.o];exact S) b5 j,W,V,?_,?_⟩,C.o.trans b7,?_,?_⟩
        .exact(X.1.same W).mono (by rw[m.o,b8];omega)
        .obtain⟨E,k1,j5⟩:=W
         rw[j5];exact(Gf j).trans d
        .left;rw[j];omega
        .rw[j,N (by rw[J (λn=>n rfl)];decide)];omega
       .have u:=X.2 j
        have Y:=j2 j;rw[u.2.2] at V;refine⟨_,_,b6,L ⟨K j,D,b1,b2,b3,b4,V,?_,?_,?_⟩,C.o.trans b7,?_,?_⟩
        .rw[Y];exact Wk.next g d (by rw[m.o];exact S) b5 j
        .rw[Y];exact u.1
        .rw[Y];exact X.1.mono (by rw[m.o,b8];omega)
        .left;have:=u.2.1;omega
        .have:=u.2.1
         rw[I (K j)];omega
      have G:=U o;clear o f g k d;go_wp2_with fail;refine X9 G.o ?_;rintro A a0 F;obtain⟨x,e,rfl,H,y,j6,b9⟩:=b0.o a0 A F;have j7:Z _:=H;have j8:Z _:=b9;clear F H b9 b0;go_wp2;refine⟨⟨x,e,rfl,rfl,j7.o,y,j6⟩,?_⟩
      have:=j8.o
      cases e<;>simp[intOf,JE] at this ⊢<;>omega
     .rw[d] at z
      have o:=gH b c 0 0 22 a p q r s wr f;have G:=U o;have v:Z (∀i,aw i b c 22 a p q r s->Fr1 b wr i->P (.returned (.pointer (some ⟨b,0,none⟩))) i):=λi H y=>by
       have k2:=f.lt;exact M.o i ⟨c,c,22,a,p,q,r,s,cq.trail g d (by rw[m.o];exact S),dL.refl c,H,a9⟩ (C.o.trans ⟨y.os,y.tape,y.output,y.size,λB k3=>y.block B O O⟩)
      clear o f g k d;go_wp2_with fail;refine X9 G.o ?_;rintro A a0 ⟨rfl,c0,c1⟩;have j9:Z _:=v.o a0 c0 c1;clear c0 c1 v G;go_wp2;exact gB j9.o rfl
    .have j1:¬(a:Int)<(t.size:Int):=O
     have v:Z _:=M.o wr ⟨c,c,0,0,p,q,r,s,cq.o g (by rw[m.o];omega),dL.refl c,f,?_⟩ C.o
     .clear f g k
      cases d:c.done
      .rw[d] at z
       clear d;go_wp2;exact gB v.o rfl
      .rw[d] at z
       clear d;go_wp2;exact gB v.o rfl
     .exact a9
   .cases n
theorem M9(w:World):aw (w.alloc (.cells #[.bool false,.int .i64 0,.int .i64 0,.int .i64 0,.int .i64 0,.int .i64 0,.bool false,.bool false,.slice none 0 0,.slice none 0 0,.slice none 0 0,.slice none 0 0,.bool false,.bool false,.bool false,.int .i64 0,.int .i64 0] 87)) w.heap.size Fl.start 0 0 (.slice none 0 0) (.slice none 0 0) (.slice none 0 0) (.slice none 0 0):=by
 refine⟨λb d => ?_,λb=>XB _ _ _ _ rfl,iE (XR _ 0 _ _),iE (XR _ 0 _ _),XR _ _ _ _,⟨[],XR _ _ _ _⟩,(λc a=>by cases a),(λc a=>by cases a),(λc a=>by cases a),(λc a=>by cases a),(λc a=>by cases a)⟩;rw[Xr _ _ _ _ rfl];exact bF (P:=λb=>(#[.bool false,.int .i64 0,.int .i64 0,.int .i64 0,.int .i64 0,.int .i64 0,.bool false,.bool false,.slice none 0 0,.slice none 0 0,.slice none 0 0,.slice none 0 0,.bool false,.bool false,.bool false,.int .i64 0,.int .i64 0]:Array Value)[b]? = some (flV Fl.start 0 0 (.slice none 0 0) (.slice none 0 0) (.slice none 0 0) (.slice none 0 0) b)) ⟨rfl,rfl,rfl,rfl,rfl,rfl,rfl,rfl,rfl,rfl,rfl,rfl,rfl,rfl,rfl,rfl,rfl⟩ b d
theorem GC(t:ByteArray)(w:World)(hs:t.size<=1048576):Calls prog 40 #[.string t] w λr w'=>r=.returned (.pointer (some ⟨w.heap.size,0,none⟩))/\Mg w' w.heap.size (ag t)/\Kept w w':=by
 have H0:Z (aw (w.alloc _) w.heap.size Fl.start 0 0 (.slice none 0 0) (.slice none 0 0) (.slice none 0 0) (.slice none 0 0)):=M9 w;have HGB:Z (∀j,gb t j=(ag t).getD j 0):=λj=>rfl
 have HBL:Z ((ag t).length=t.size):=az t;go_enter func40,ntmps40;go_wp2_with (go_at_call 56;refine(G9 _).mono ?_;rintro r w' ⟨rfl,hw⟩;subst w')
 go_loopw [5] (λj W=>∃i:Nat,i<=8/\j=.int .i64 (i:Int)/\aw W w.heap.size Fl.start 0 0 (.slice none 0 0) (.slice none 0 0) (.slice none 0 0) (.slice none 0 0)/\Kept w W/\Z (∀q,q<i->gb t q=dD q)) (λj _=>8-(intOf j).toNat)
 case atStart=>exact⟨0,om,rfl,H0.o,(Below.refl _ _).alloc (Nat.le_refl _) _,λq hq=>om⟩
 case round=>
  obtain⟨i,hi,rfl,hfl,hkw,HG⟩:=hrel;have HFL:Z (aw wr w.heap.size Fl.start 0 0 (.slice none 0 0) (.slice none 0 0) (.slice none 0 0) (.slice none 0 0)):=hfl;have HKW:Z (Kept w wr):=hkw;clear hfl hkw;by_cases hlt:i<8/\i<t.size
  .obtain⟨h8,hsz⟩:=hlt
   have h8':(i:Int)<8:=om;have hsz':(i:Int)<(t.size:Int):=om;have hE:∀h',((ByteArray.mk #[137,80,78,71,13,10,26,10])[i]'h').toNat=dD i:=λh'=>pM i h8 h'
   have hE2:=iF t i hsz;have hsg:i<(ByteArray.mk #[137,80,78,71,13,10,26,10]).size:=h8;by_cases hb:gb t i=dD i
   .have hd:((t[i].toNat:Int)!=(((ByteArray.mk #[137,80,78,71,13,10,26,10])[i]'hsg).toNat:Int))=false:=by
     rw[bne_eq_false_iff_eq,hE,hE2,hb]
    have HB:Z (gb t i=dD i):=hb;clear hb hE hE2;go_wp2;go_quiet (fail);go_wp2;exact⟨⟨i+1,om,by go_num,HFL.o.drewN _,HKW.o.drewN _,λq hq=>by by_cases e:q=i;(rw[e];exact HB.o);exact HG.o q om⟩,by simp[intOf];omega⟩
   .have hd:((t[i].toNat:Int)!=(((ByteArray.mk #[137,80,78,71,13,10,26,10])[i]'hsg).toNat:Int))=true:=by
     rw[bne_iff_ne,hE,hE2];omega
    have HW:Z (cq (ag t) Fl.start 1 i):=cq.sign i h8 (by rw[HBL.o];exact hsz) (by rw[<-HGB.o i];exact hb) (λj hj=>by rw[<-HGB.o j];exact HG.o j hj);clear hb hE hE2;go_wp2;go_quiet (fail);go_wp2_with fail;refine(gH w.heap.size Fl.start 0 0 1 i _ _ _ _ _ (HFL.o.drewN _)).mono ?_;rintro r w1 ⟨rfl,h1,hw1⟩;have HF:Z _:=h1;have HK1:Z (Kept w w1):=Fr.to_kept (HKW.o.drewN _) hw1 (λj hj e=>om);clear h1 hw1;go_wp2;go_ret;exact⟨rfl,⟨Fl.start,Fl.start,1,i,_,_,_,_,HW.o,dL.refl _,HF.o,rE.mono om⟩,HK1.o⟩
  .have HSG:Z (Hb (ag t)):=λj h1 h2=>by rw[<-HGB.o j];exact HG.o j (by rw[HBL.o] at h2;omega)
   have HPP:Z (∀W',Mg W' w.heap.size (ag t)->Below w.heap.size wr W'->(λr w'=>r=Ending.returned (.pointer (some ⟨w.heap.size,0,none⟩))/\Mg w' w.heap.size (ag t)/\Kept w w') (.returned (.pointer (some ⟨w.heap.size,0,none⟩))) W'):=λW' a1 a2=>⟨rfl,a1,HKW.o.trans' a2⟩
   by_cases h8:i<8
   .have h8':(i:Int)<8:=om
    have hsz':¬(i:Int)<(t.size:Int):=om;clear hlt;go_upto_if 18 with fail
    repeat(first|exact wp_mono (CT _ w.heap.size t wr _ _ _ _ HFL hs HSG HPP) (λe a w hq=>hq)|go_step)
   .have h8':¬(i:Int)<8:=om
    clear hlt;go_upto_if 18 with fail
    repeat(first|exact wp_mono (CT _ w.heap.size t wr _ _ _ _ HFL hs HSG HPP) (λe a w hq=>hq)|go_step)
