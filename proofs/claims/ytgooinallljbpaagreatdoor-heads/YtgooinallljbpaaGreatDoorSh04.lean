import Derived.Test.YtgooinallljbpaaGreatDoorSh00
import Derived.Test.YtgooinallljbpaaGreatDoorSh03
import Derived.Test.YtgooinallljbpaaGreatDoorSh01
import Derived.Deep.RegionWith
import Derived.Deep.RegionHeld3
set_option linter.all false
set_option maxRecDepth 100000
set_option maxHeartbeats 0
namespace Go.Proofs.YtgooinallljbpaaGreatDoor
open Go.RowKit Tryz
def xk(W:World)(b N:Nat):Nat:=
 match W.cell? ⟨b,2,none⟩,W.cell? ⟨b,3,none⟩,W.cell? ⟨b,1,none⟩ with
 | some (.bool false),some (.int .i64 0),some (.int .i64 a)=>N+1-a.toNat
 | _,_,_=>0
theorem bG{W b N a v}(h:BAt W b v ⟨a,false,0⟩):xk W b N=N+1-a:=by
 unfold xk;rw[h.c2,h.c3,h.c1];simp
theorem gI{W b N v t}(h:BAt W b v t)(a:t.on=false):xk W b N=0:=by
 unfold xk;rw[h.c2,h.c3,h.c1];unfold Px.Bt.on at a;cases d:t.cut
 .rw[d] at a
  have f:¬t.err=0:=by simpa using a
  obtain⟨c,e⟩:∃c,t.err=c+1:=⟨t.err-1,O⟩;rw[e];rfl
 .rfl
theorem kW.cases'{z a l s t'}(h:kW z ⟨a,false,0⟩ l s t'):(∃b,Px.bH z a l s b/\t'=⟨a+b,false,0⟩)\/(∃b,Px.ld z a l b/\t'=⟨a+b,false,13⟩)\/(Px.cP z a l (8*z.length-a)/\t'=⟨8*z.length,true,0⟩):=by
 cases h using kW.cs with
 | got _ b d e c g f i=>exact L ⟨b,⟨d,e,c,g,f,i⟩,rfl⟩
 | bad b d e c f j=>exact R (L ⟨b,⟨d,e,c,f,j⟩,rfl⟩)
 | cut c=>exact R (R ⟨c,rfl⟩)
theorem kO{b w w' base e size v n xs}(h:w.ownsRow base e size v n xs)(k:Fr1 b w w')(f:b<base):w'.ownsRow base e size v n xs:=by
 refine h.kept (row:=some b) ⟨k.os,k.tape,k.output,k.size,λa c d=>k.block a c (λe=>d (by rw[e]))⟩ ?_
 right
 intro e
 have:=(h.lt b e).1
 omega
structure qt (w:World) (b:Nat) (v:Value) (z:List Px.One) (a0 nl nd:Nat) (s:Px.St) (sl:List Nat) (u:Value) (W:World) (out:List Nat) (t':Px.Bt):Prop where
 own:W.ownsRow w.heap.size 3 1 u out.length (ints out)
 le:∀x∈out,x<=15
 bat:BAt W b v t'
 fr:Fr1 b w W
 st:(t'.cut=false/\t'.err=0/\t'.a<=8*z.length/\out.length=nl+nd/\Px.Ends z a0 (Px.clS s nl nd sl []) t'.a (s.lens nl nd sl out) s.o)\/Px.Stop z a0 (Px.clS s nl nd sl []) s.o t'
theorem Aa b B v z a0 nl nd s sl w(h:BAt w b v ⟨a0,false,0⟩)(h0:ZAt w v z)(b8:∀P,ae v=some P->P≠b)(D:qu w B sl (λk=>k=b))(j1:Px.bS sl)(l5:sl.length=19)(h1:Px.good z)(j2:a0<=8*z.length)(d5:nl+nd<=316)(j3:0<nl+nd)(W:Nat)(j4:W=nl+nd):Calls prog 110 #[.pointer (some ⟨b,0,none⟩),.pointer (some ⟨B,0,none⟩),.int .i64 W] w λg t=>∃(q:Value) (out:List Nat) (j5:Px.Bt),g=.returned q/\qt w b v z a0 nl nd s sl q t out j5:=by
 have l6:W<=nl+nd:=O;have l7:nl+nd<=W:=O;clear j4;go_enter func110,ntmps110;go_wp2;go_loopw [7] (λq a=>∃(out:List Nat) (r:Px.Bt),a.ownsRow w.heap.size 3 1 q out.length (ints out)/\out.length<=nl+nd/\(∀E∈out,E<=15)/\BAt a b v r/\Fr1 b w a/\((r.cut=false/\r.err=0/\r.a<=8*z.length/\Px.kK z a0 s nl nd sl r.a out)\/Px.Stop z a0 (Px.clS s nl nd sl []) s.o r)) (λ_ a=>xk a b (8*z.length))
 case atStart=>exact⟨[],⟨a0,false,0⟩,XR _ _ _ _,Xi,Xi,h,Fr.refl _ _,L ⟨rfl,rfl,j2,L ⟨j3,.refl _ _⟩⟩⟩
 case round=>
  obtain⟨out,r,b2,d6,H,J,c7,d7⟩:=hrel;obtain⟨Q,S,rfl⟩:=ak b2;have e3:∀a,BAt a b v r->a.ownsRow w.heap.size 3 1 (.slice Q out.length S) out.length (ints out)->Fr1 b w a->(r.on=false\/out.length=nl+nd)->qt w b v z a0 nl nd s sl (.slice Q out.length S) a out r:=by
   intro a b3 j6 j7 e4;refine⟨j6,H,b3,j7,?_⟩;rcases d7 with⟨b4,b5,d8,T⟩|d7
   .have d9:r.on=true:=by unfold Px.Bt.on;rw[b4,b5];rfl
    rcases e4 with e4|e4
    .rw[d9] at e4;cases e4
    .rcases T with⟨h3,_⟩|⟨h3,h4⟩
     .omega
     .exact L ⟨b4,b5,d8,h3,h4⟩
   .exact R d7
  have c8:=bb b v r wr J;by_cases j8:out.length<nl+nd
  .rcases d7 with⟨b4,b5,d8,T⟩|d7
   .have d9:r.on=true:=by unfold Px.Bt.on;rw[b4,b5];rfl
    rw[d9] at c8;have h5:=U c8;clear c8 e3;obtain⟨d,rfl⟩:∃d,r=⟨d,false,0⟩:=⟨r.a,by cases r;simp at b4 b5;subst b4;subst b5;rfl⟩;have c9:Z (Px.Run z a0 (Px.clS s nl nd sl []) d (Px.clS s nl nd sl out)):=by
     rcases T with⟨_,h4⟩|⟨h3,_⟩
     .exact h4
     .omega
    have j9:=h0.fr c7 b8;have k0:=D.fr c7;have k1:=U (nA b B v z ⟨d,false,0⟩ sl wr J j9 b8 k0 j1 h1 d8 rfl rfl);have k2:(out.length:Int)<(W:Int):=O;clear T;go_wp2_with fail;refine h5.o.mono ?_;rintro g k3 ⟨rfl,rfl⟩;go_wp2_with fail;refine k1.o.mono ?_;rintro g b9 ⟨d0,l8,rfl,i0,a9,u⟩;rcases i0.cases' with⟨e,e5,rfl⟩|⟨e,i1,rfl⟩|⟨k4,rfl⟩
    .have b6:=U (bb b v _ b9 a9)
     have l9:d0<19:=by have:=e5.2.2.2.1;omega
     have e6:=e5.2.1;have m0:=e5.1;have d1:b9.ownsRow w.heap.size 3 1 (.slice Q out.length S) out.length (ints out):=by
      refine b2.kept (row:=some b) ⟨u.os,u.tape,u.output,u.size,λk D d5=>u.block k D (λi=>d5 (by rw[i]))⟩ ?_
      right
      intro i
      have:=(b2.lt b i).1
      have:=h.lt
      omega
     have b7:=c7.trans u;have d2:=h.lt;have m1:=b7.size;have e7:=U e5;clear e5 i0;by_cases k5:d0<16
     .go_wp2_with fail
      refine b6.o.mono ?_;rintro g b0 ⟨rfl,rfl⟩;have F:=U d1;go_wp2_with (at_builtin;refine bU _ rfl _ _ rfl w.heap.size (.slice Q out.length S) out rfl (F.o.alloc _) b0.heap.size 1 d0 rfl Xi O Xf ?_)
      intro h6 C h7 h8 k6;obtain⟨e0,e1,rfl⟩:=ak h7;have k7:=U h7;have k8:Z _:=(b7.alloc _).grown h8 (λk D=>R (F.o.lt k D).1);have m:Z (BAt C b v ⟨d+e,false,0⟩):=by
       refine a9.same ?_;have b3:=h8.block b Xf (λi=>by have:=(F.o.lt b i.symm).1;omega);exact b3.trans (YR _ _ _ O)
      clear h7 h8 k6;go_wp2;refine⟨⟨out++[d0],⟨d+e,false,0⟩,by rw[Xv];exact k7.o,Xf,?_,m.o,k8.o,L ⟨rfl,rfl,e6,Px.kK.lit c9.o j8 e7.o k5⟩⟩,?_⟩
      .intro E c0
       rcases XW.1 c0 with c0|c0
       .exact H E c0
       .simp at c0;omega
      .rw[bG m.o,bG J];omega
     .by_cases k9:d0=16
      .subst k9
       by_cases h2:out=[]
       .subst h2
        have d3:=U (cM b v _ 12 b9 a9 rfl rfl);go_wp2_with fail;refine b6.o.mono ?_;rintro g b0 ⟨rfl,rfl⟩;go_wp2_with fail;refine d3.o.mono ?_;rintro g d4 ⟨rfl,V,X⟩;go_wp2;go_ret;have e2:qt w b v z a0 nl nd s sl (.slice Q 0 S) d4 [] ⟨d+e,false,12⟩ :=
         ⟨kO d1 X d2,Xi,V,b7.trans X,R (.err d _ 12 (d+e) c9.o (Px.Fg e7.o) rfl Xh e6)⟩
        first|exact⟨_,[],_,rfl,e2⟩|exact⟨_,rfl,[],_,e2⟩
       .have e8:Z _:=h2
        have m2:=List.length_pos_iff.2 h2;have e9:Z (Px.KF 16 out<=15):=by
         show(if 16=16 then out.getD (out.length-1) 0 else 0)<=15
         rw[I rfl,G,Xt O];exact H _ (YU _)
        have l0:∃P,Q=some ⟨P,0,none⟩/\b9.cell? ⟨P,out.length-1,none⟩=some (.int .i64 (Px.KF 16 out)):=by
         rcases d1.2 with⟨h9,m3⟩|⟨P,m4,m5,h9,m6,g⟩
         .omega
         .have l1:Q=some ⟨P,0,none⟩:=by injection h9
          refine⟨P,l1,?_⟩
          have:=d1.cells (by rw[h9];rfl) (out.length-1) _ (uC out (out.length-1) O)
          have i:(Addr.add ⟨P,0,none⟩ (out.length-1))=⟨P,out.length-1,none⟩:=by simp[Addr.add];intro h;exact h.symm
          rw[i] at this;exact this
        obtain⟨P,rfl,m7⟩:=l0;clear h2;go_wp2_with fail;refine b6.o.mono ?_;rintro g b0 ⟨rfl,rfl⟩;generalize i2:Px.KF 16 out=b1 at *;have l2:Z _:=i2;clear i2;have f0:=U (jJ b v z ⟨d+e,false,0⟩ 2 b0 a9 (h0.fr b7 b8) b8 h1 e6 O rfl);go_wp2_with fail;refine f0.o.mono ?_;rintro g C ⟨E,rfl,c0,Y,m,c1⟩;have a1:=b7.trans c1;have a2:=kO d1 c1 d2;have a3:=U (c9.o.trans (.one (Px.tZ e7.o O (λh=>e8.o h.2))));by_cases o:(d+e)+2<=8*z.length
        .have l:BAt C b v ⟨d+e+2,false,0⟩:=by
          have i:(⟨d+e,false,0⟩:Px.Bt).num z 2=⟨d+e+2,false,0⟩:=by unfold Px.Bt.num;rw[N Xi,I o]
          rw[i] at m;exact m
         have c2:Z _:=Y o;have f1:=l.c2;have f2:Z (∀a,BAt a b v ⟨d+e+2,false,0⟩->Calls prog 61 #[.pointer (some ⟨b,0,none⟩)] a λg t=>g=.returned (.bool true)/\t=a):=λa x=>bb b v _ a x
         clear Y m;by_cases i3:W<out.length+(E+3)
         .have d3:=U (cM b v _ 12 C l rfl rfl)
          have a4:Z (∀a,BAt a b v ⟨d+e+2,false,12⟩->Calls prog 61 #[.pointer (some ⟨b,0,none⟩)] a λg t=>g=.returned (.bool false)/\t=a):=λa x=>bb b v _ a x
          go_wp2_with fail;refine d3.o.mono ?_;rintro g d4 ⟨rfl,V,X⟩;have f3:=U (kO a2 X d2);have f4:Z _:=a1.trans X;go_wp2;go_loopw [7,11] (λq p a=>q=.slice (some ⟨P,0,none⟩) out.length S/\p=.int .i64 0/\a=d4) (λ_ _ _=>0)
          case atStart=>exact⟨rfl,rfl,rfl⟩
          case round=>
           obtain⟨rfl,rfl,rfl⟩:=hrel;go_wp2_with fail;refine(a4.o _ V).mono ?_;rintro g a5 ⟨rfl,rfl⟩;go_wp2;have f5:nl+nd<out.length+Px.ud 16 (Px.ab z (d+e) (Px.cd 16)):=by
            have:=c2.o
            show nl+nd<out.length+(Px.ab z (d+e) 2+3)
            omega
           refine⟨⟨out,⟨d+e+2,false,12⟩,f3.o,d6,H,V,f4.o,R (.err (d+e) _ 12 (d+e+2) a3.o (Px.yb (c:=16) o f5) rfl Xh o)⟩,?_⟩;rw[gI V rfl,bG J];omega
         .have f6:Z (∃j:Nat,j=E+3):=⟨_,rfl⟩
          obtain⟨j,c3⟩:=f6.o;have c4:(E:Int)+3=(j:Int):=O;have i4:out.length+j<=W:=O;have i5:j<=316:=O;have f7:Z _:=c3;clear c3;go_wp2;try rw[c4]
          clear c4;go_loopw [7,11] (λq p a=>∃f:Nat,f<=j/\p=.int .i64 f/\a.ownsRow w.heap.size 3 1 q (out++List.replicate f b1).length (ints (out++List.replicate f b1))/\BAt a b v ⟨d+e+2,false,0⟩/\Fr1 b w a) (λ_ p _=>j-(intOf p).toNat)
          case atStart=>exact⟨0,O,rfl,by simpa using a2,l,a1⟩
          case round=>
           obtain⟨f,i6,rfl,K,M,a6⟩:=hrel;obtain⟨f8,f9,rfl⟩:=ak K;by_cases i7:f<j
           .have i8:(out++List.replicate f b1).length<=out.length+f:=by simp
            have g0:Z (out++List.replicate (f+1) b1=(out++List.replicate f b1)++[b1]):=by show _=_;rw[Zo,XY]
            have i9:=a6.size;have F:=U K;clear K;generalize out++List.replicate f b1=y at *;go_wp2_with fail;refine(f2.o _ M).mono ?_;rintro g a5 ⟨rfl,rfl⟩;go_wp2_with (at_builtin;refine bU _ rfl _ _ rfl w.heap.size (.slice f8 y.length f9) y rfl (F.o.alloc _) a5.heap.size 1 b1 rfl Xi O Xf ?_)
            intro h6 c5 a7 a8 g1;obtain⟨e0,e1,rfl⟩:=ak a7;have c6:c5.ownsRow w.heap.size 3 1 (.slice e0 (y.length+1) e1) (y.length+1) (ints (y++[b1])):=by simpa using a7
            have g2:=U c6;clear c6;have g3:Z _:=(a6.alloc _).grown a8 (λk D=>R (F.o.lt k D).1);have g4:Z (BAt c5 b v ⟨d+e+2,false,0⟩):=by
             refine M.same ?_;have b3:=a8.block b Xf (λi=>by have:=(F.o.lt b i.symm).1;omega);exact b3.trans (YR _ _ _ O)
            clear a7 a8 g1;go_wp2;refine⟨⟨f+1,O,Xj,by rw[g0.o,Xv];exact g2.o,g4.o,g3.o⟩,Xb⟩
           .have g5:Z (f=j):=by show _=_;omega
            have j0:¬(f:Int)<(j:Int):=O;go_wp2;have b4:=g5.o;have b5:=f7.o;have d8:=c2.o;have T:=Px.kK.rep (c:=16) a3.o o (by show out.length+(Px.ab z (d+e) 2+3)<=nl+nd;omega);have g6:Px.ud 16 (Px.ab z (d+e) (Px.cd 16))=f:=by show Px.ab z (d+e) 2+3=f;omega
            rw[g6,l2.o] at T;refine⟨⟨out++List.replicate f b1,⟨d+e+2,false,0⟩,K,Xf,?_,M,a6,L ⟨rfl,rfl,o,T⟩⟩,?_⟩
            .intro g7 A
             rcases XW.1 A with A|A
             .exact H g7 A
             .rw[(Yt.1 A).2];exact e9.o
            .rw[bG M,bG J];omega
        .have l:BAt C b v ⟨8*z.length,true,0⟩:=by
          have i:(⟨d+e,false,0⟩:Px.Bt).num z 2=⟨8*z.length,true,0⟩:=by unfold Px.Bt.num;rw[N Xi,N o]
          rw[i] at m;exact m
         have f1:=l.c2;have a4:Z (∀a,BAt a b v ⟨8*z.length,true,0⟩->Calls prog 61 #[.pointer (some ⟨b,0,none⟩)] a λg t=>g=.returned (.bool false)/\t=a):=λa x=>bb b v _ a x
         clear Y m;go_wp2;go_loopw [7,11] (λq p a=>q=.slice (some ⟨P,0,none⟩) out.length S/\p=.int .i64 0/\a=C) (λ_ _ _=>0)
         case atStart=>exact⟨rfl,rfl,rfl⟩
         case round=>
          obtain⟨rfl,rfl,rfl⟩:=hrel;go_wp2_with fail;refine(a4.o _ l).mono ?_;rintro g a5 ⟨rfl,rfl⟩;go_wp2;refine⟨⟨out,⟨8*z.length,true,0⟩,a2,d6,H,l,a1,R (.cut (d+e) _ a3.o (.num (n:=2) rfl O) rfl)⟩,?_⟩;rw[gI l rfl,bG J];omega
      .by_cases l3:d0=17
       .subst l3
        have e8:Z (¬(17=16/\out=[])):=λh=>O
        have e9:Z (0<=15):=X3 _;go_wp2_with fail;refine b6.o.mono ?_;rintro g b0 ⟨rfl,rfl⟩;have f0:=U (jJ b v z ⟨d+e,false,0⟩ 3 b0 a9 (h0.fr b7 b8) b8 h1 e6 O rfl);go_wp2_with fail;refine f0.o.mono ?_;rintro g C ⟨E,rfl,c0,Y,m,c1⟩;have a1:=b7.trans c1;have a2:=kO d1 c1 d2;have a3:=U (c9.o.trans (.one (Px.tZ e7.o O e8.o)));by_cases o:(d+e)+3<=8*z.length
        .have l:BAt C b v ⟨d+e+3,false,0⟩:=by
          have i:(⟨d+e,false,0⟩:Px.Bt).num z 3=⟨d+e+3,false,0⟩:=by unfold Px.Bt.num;rw[N Xi,I o]
          rw[i] at m;exact m
         have c2:Z _:=Y o;have f1:=l.c2;have f2:Z (∀a,BAt a b v ⟨d+e+3,false,0⟩->Calls prog 61 #[.pointer (some ⟨b,0,none⟩)] a λg t=>g=.returned (.bool true)/\t=a):=λa x=>bb b v _ a x
         clear Y m;by_cases i3:W<out.length+(E+3)
         .have d3:=U (cM b v _ 12 C l rfl rfl)
          have a4:Z (∀a,BAt a b v ⟨d+e+3,false,12⟩->Calls prog 61 #[.pointer (some ⟨b,0,none⟩)] a λg t=>g=.returned (.bool false)/\t=a):=λa x=>bb b v _ a x
          go_wp2_with fail;refine d3.o.mono ?_;rintro g d4 ⟨rfl,V,X⟩;have f3:=U (kO a2 X d2);have f4:Z _:=a1.trans X;go_wp2;go_loopw [7,11] (λq p a=>q=.slice Q out.length S/\p=.int .i64 0/\a=d4) (λ_ _ _=>0)
          case atStart=>exact⟨rfl,rfl,rfl⟩
          case round=>
           obtain⟨rfl,rfl,rfl⟩:=hrel;go_wp2_with fail;refine(a4.o _ V).mono ?_;rintro g a5 ⟨rfl,rfl⟩;go_wp2;have f5:nl+nd<out.length+Px.ud 17 (Px.ab z (d+e) (Px.cd 17)):=by
            have:=c2.o
            show nl+nd<out.length+(Px.ab z (d+e) 3+3)
            omega
           refine⟨⟨out,⟨d+e+3,false,12⟩,f3.o,d6,H,V,f4.o,R (.err (d+e) _ 12 (d+e+3) a3.o (Px.yb (c:=17) o f5) rfl Xh o)⟩,?_⟩;rw[gI V rfl,bG J];omega
         .have f6:Z (∃j:Nat,j=E+3):=⟨_,rfl⟩
          obtain⟨j,c3⟩:=f6.o;have c4:(E:Int)+3=(j:Int):=O;have i4:out.length+j<=W:=O;have i5:j<=316:=O;have f7:Z _:=c3;clear c3;go_wp2;try rw[c4]
          clear c4;go_loopw [7,11] (λq p a=>∃f:Nat,f<=j/\p=.int .i64 f/\a.ownsRow w.heap.size 3 1 q (out++List.replicate f 0).length (ints (out++List.replicate f 0))/\BAt a b v ⟨d+e+3,false,0⟩/\Fr1 b w a) (λ_ p _=>j-(intOf p).toNat)
          case atStart=>exact⟨0,O,rfl,by simpa using a2,l,a1⟩
          case round=>
           obtain⟨f,i6,rfl,K,M,a6⟩:=hrel;obtain⟨f8,f9,rfl⟩:=ak K;by_cases i7:f<j
           .have i8:(out++List.replicate f 0).length<=out.length+f:=by simp
            have g0:Z (out++List.replicate (f+1) 0=(out++List.replicate f 0)++[0]):=by show _=_;rw[Zo,XY]
            have i9:=a6.size;have F:=U K;clear K;generalize out++List.replicate f 0=y at *;go_wp2_with fail;refine(f2.o _ M).mono ?_;rintro g a5 ⟨rfl,rfl⟩;go_wp2_with (at_builtin;refine bU _ rfl _ _ rfl w.heap.size (.slice f8 y.length f9) y rfl (F.o.alloc _) a5.heap.size 1 0 rfl Xi O Xf ?_)
            intro h6 c5 a7 a8 g1;obtain⟨e0,e1,rfl⟩:=ak a7;have c6:c5.ownsRow w.heap.size 3 1 (.slice e0 (y.length+1) e1) (y.length+1) (ints (y++[0])):=by simpa using a7
            have g2:=U c6;clear c6;have g3:Z _:=(a6.alloc _).grown a8 (λk D=>R (F.o.lt k D).1);have g4:Z (BAt c5 b v ⟨d+e+3,false,0⟩):=by
             refine M.same ?_;have b3:=a8.block b Xf (λi=>by have:=(F.o.lt b i.symm).1;omega);exact b3.trans (YR _ _ _ O)
            clear a7 a8 g1;go_wp2;refine⟨⟨f+1,O,Xj,by rw[g0.o,Xv];exact g2.o,g4.o,g3.o⟩,Xb⟩
           .have g5:Z (f=j):=by show _=_;omega
            have j0:¬(f:Int)<(j:Int):=O;go_wp2;have b4:=g5.o;have b5:=f7.o;have d8:=c2.o;have T:=Px.kK.rep (c:=17) a3.o o (by show out.length+(Px.ab z (d+e) 3+3)<=nl+nd;omega);have g6:Px.ud 17 (Px.ab z (d+e) (Px.cd 17))=f:=by show Px.ab z (d+e) 3+3=f;omega
            rw[g6] at T;refine⟨⟨out++List.replicate f 0,⟨d+e+3,false,0⟩,K,Xf,?_,M,a6,L ⟨rfl,rfl,o,T⟩⟩,?_⟩
            .intro g7 A
             rcases XW.1 A with A|A
             .exact H g7 A
             .rw[(Yt.1 A).2];exact e9.o
            .rw[bG M,bG J];omega
        .have l:BAt C b v ⟨8*z.length,true,0⟩:=by
          have i:(⟨d+e,false,0⟩:Px.Bt).num z 3=⟨8*z.length,true,0⟩:=by unfold Px.Bt.num;rw[N Xi,N o]
          rw[i] at m;exact m
         have f1:=l.c2;have a4:Z (∀a,BAt a b v ⟨8*z.length,true,0⟩->Calls prog 61 #[.pointer (some ⟨b,0,none⟩)] a λg t=>g=.returned (.bool false)/\t=a):=λa x=>bb b v _ a x
         clear Y m;go_wp2;go_loopw [7,11] (λq p a=>q=.slice Q out.length S/\p=.int .i64 0/\a=C) (λ_ _ _=>0)
         case atStart=>exact⟨rfl,rfl,rfl⟩
         case round=>
          obtain⟨rfl,rfl,rfl⟩:=hrel;go_wp2_with fail;refine(a4.o _ l).mono ?_;rintro g a5 ⟨rfl,rfl⟩;go_wp2;refine⟨⟨out,⟨8*z.length,true,0⟩,a2,d6,H,l,a1,R (.cut (d+e) _ a3.o (.num (n:=3) rfl O) rfl)⟩,?_⟩;rw[gI l rfl,bG J];omega
       .have l4:d0=18:=O
        subst l4;have e8:Z (¬(18=16/\out=[])):=λh=>O
        have e9:Z (0<=15):=X3 _;go_wp2_with fail;refine b6.o.mono ?_;rintro g b0 ⟨rfl,rfl⟩;have f0:=U (jJ b v z ⟨d+e,false,0⟩ 7 b0 a9 (h0.fr b7 b8) b8 h1 e6 O rfl);go_wp2_with fail;refine f0.o.mono ?_;rintro g C ⟨E,rfl,c0,Y,m,c1⟩;have a1:=b7.trans c1;have a2:=kO d1 c1 d2;have a3:=U (c9.o.trans (.one (Px.tZ e7.o O e8.o)));by_cases o:(d+e)+7<=8*z.length
        .have l:BAt C b v ⟨d+e+7,false,0⟩:=by
          have i:(⟨d+e,false,0⟩:Px.Bt).num z 7=⟨d+e+7,false,0⟩:=by unfold Px.Bt.num;rw[N Xi,I o]
          rw[i] at m;exact m
         have c2:Z _:=Y o;have f1:=l.c2;have f2:Z (∀a,BAt a b v ⟨d+e+7,false,0⟩->Calls prog 61 #[.pointer (some ⟨b,0,none⟩)] a λg t=>g=.returned (.bool true)/\t=a):=λa x=>bb b v _ a x
         clear Y m;by_cases i3:W<out.length+(E+11)
         .have d3:=U (cM b v _ 12 C l rfl rfl)
          have a4:Z (∀a,BAt a b v ⟨d+e+7,false,12⟩->Calls prog 61 #[.pointer (some ⟨b,0,none⟩)] a λg t=>g=.returned (.bool false)/\t=a):=λa x=>bb b v _ a x
          go_wp2_with fail;refine d3.o.mono ?_;rintro g d4 ⟨rfl,V,X⟩;have f3:=U (kO a2 X d2);have f4:Z _:=a1.trans X;go_wp2;go_loopw [7,11] (λq p a=>q=.slice Q out.length S/\p=.int .i64 0/\a=d4) (λ_ _ _=>0)
          case atStart=>exact⟨rfl,rfl,rfl⟩
          case round=>
           obtain⟨rfl,rfl,rfl⟩:=hrel;go_wp2_with fail;refine(a4.o _ V).mono ?_;rintro g a5 ⟨rfl,rfl⟩;go_wp2;have f5:nl+nd<out.length+Px.ud 18 (Px.ab z (d+e) (Px.cd 18)):=by
            have:=c2.o
            show nl+nd<out.length+(Px.ab z (d+e) 7+11)
            omega
           refine⟨⟨out,⟨d+e+7,false,12⟩,f3.o,d6,H,V,f4.o,R (.err (d+e) _ 12 (d+e+7) a3.o (Px.yb (c:=18) o f5) rfl Xh o)⟩,?_⟩;rw[gI V rfl,bG J];omega
         .have f6:Z (∃j:Nat,j=E+11):=⟨_,rfl⟩
          obtain⟨j,c3⟩:=f6.o;have c4:(E:Int)+11=(j:Int):=O;have i4:out.length+j<=W:=O;have i5:j<=316:=O;have f7:Z _:=c3;clear c3;go_wp2;try rw[c4]
          clear c4;go_loopw [7,11] (λq p a=>∃f:Nat,f<=j/\p=.int .i64 f/\a.ownsRow w.heap.size 3 1 q (out++List.replicate f 0).length (ints (out++List.replicate f 0))/\BAt a b v ⟨d+e+7,false,0⟩/\Fr1 b w a) (λ_ p _=>j-(intOf p).toNat)
          case atStart=>exact⟨0,O,rfl,by simpa using a2,l,a1⟩
          case round=>
           obtain⟨f,i6,rfl,K,M,a6⟩:=hrel;obtain⟨f8,f9,rfl⟩:=ak K;by_cases i7:f<j
           .have i8:(out++List.replicate f 0).length<=out.length+f:=by simp
            have g0:Z (out++List.replicate (f+1) 0=(out++List.replicate f 0)++[0]):=by show _=_;rw[Zo,XY]
            have i9:=a6.size;have F:=U K;clear K;generalize out++List.replicate f 0=y at *;go_wp2_with fail;refine(f2.o _ M).mono ?_;rintro g a5 ⟨rfl,rfl⟩;go_wp2_with (at_builtin;refine bU _ rfl _ _ rfl w.heap.size (.slice f8 y.length f9) y rfl (F.o.alloc _) a5.heap.size 1 0 rfl Xi O Xf ?_)
            intro h6 c5 a7 a8 g1;obtain⟨e0,e1,rfl⟩:=ak a7;have c6:c5.ownsRow w.heap.size 3 1 (.slice e0 (y.length+1) e1) (y.length+1) (ints (y++[0])):=by simpa using a7
            have g2:=U c6;clear c6;have g3:Z _:=(a6.alloc _).grown a8 (λk D=>R (F.o.lt k D).1);have g4:Z (BAt c5 b v ⟨d+e+7,false,0⟩):=by
             refine M.same ?_;have b3:=a8.block b Xf (λi=>by have:=(F.o.lt b i.symm).1;omega);exact b3.trans (YR _ _ _ O)
            clear a7 a8 g1;go_wp2;refine⟨⟨f+1,O,Xj,by rw[g0.o,Xv];exact g2.o,g4.o,g3.o⟩,Xb⟩
           .have g5:Z (f=j):=by show _=_;omega
            have j0:¬(f:Int)<(j:Int):=O;go_wp2;have b4:=g5.o;have b5:=f7.o;have d8:=c2.o;have T:=Px.kK.rep (c:=18) a3.o o (by show out.length+(Px.ab z (d+e) 7+11)<=nl+nd;omega);have g6:Px.ud 18 (Px.ab z (d+e) (Px.cd 18))=f:=by show Px.ab z (d+e) 7+11=f;omega
            rw[g6] at T;refine⟨⟨out++List.replicate f 0,⟨d+e+7,false,0⟩,K,Xf,?_,M,a6,L ⟨rfl,rfl,o,T⟩⟩,?_⟩
            .intro g7 A
             rcases XW.1 A with A|A
             .exact H g7 A
             .rw[(Yt.1 A).2];exact e9.o
            .rw[bG M,bG J];omega
        .have l:BAt C b v ⟨8*z.length,true,0⟩:=by
          have i:(⟨d+e,false,0⟩:Px.Bt).num z 7=⟨8*z.length,true,0⟩:=by unfold Px.Bt.num;rw[N Xi,N o]
          rw[i] at m;exact m
         have f1:=l.c2;have a4:Z (∀a,BAt a b v ⟨8*z.length,true,0⟩->Calls prog 61 #[.pointer (some ⟨b,0,none⟩)] a λg t=>g=.returned (.bool false)/\t=a):=λa x=>bb b v _ a x
         clear Y m;go_wp2;go_loopw [7,11] (λq p a=>q=.slice Q out.length S/\p=.int .i64 0/\a=C) (λ_ _ _=>0)
         case atStart=>exact⟨rfl,rfl,rfl⟩
         case round=>
          obtain⟨rfl,rfl,rfl⟩:=hrel;go_wp2_with fail;refine(a4.o _ l).mono ?_;rintro g a5 ⟨rfl,rfl⟩;go_wp2;refine⟨⟨out,⟨8*z.length,true,0⟩,a2,d6,H,l,a1,R (.cut (d+e) _ a3.o (.num (n:=7) rfl O) rfl)⟩,?_⟩;rw[gI l rfl,bG J];omega
    .have b6:=U (bb b v _ b9 a9)
     have e2:Z (qt w b v z a0 nl nd s sl (.slice Q out.length S) b9 out ⟨d+e,false,13⟩):=by
      refine⟨?_,H,a9,c7.trans u,R (.err d _ 13 (d+e) c9.o (.bad rfl i1) rfl Xh i1.2.1)⟩;refine b2.kept (row:=some b) ⟨u.os,u.tape,u.output,u.size,λk D d5=>u.block k D (λi=>d5 (by rw[i]))⟩ ?_
      right
      intro i
      have:=(b2.lt b i).1
      have:=h.lt
      omega
     go_wp2_with fail;refine b6.o.mono ?_;rintro g b0 ⟨rfl,rfl⟩;go_wp2;go_ret;exact⟨_,out,_,rfl,e2.o⟩
    .have b6:=U (bb b v _ b9 a9)
     have e2:Z (qt w b v z a0 nl nd s sl (.slice Q out.length S) b9 out ⟨8*z.length,true,0⟩):=by
      refine⟨?_,H,a9,c7.trans u,R (.cut d _ c9.o (.sym rfl k4) rfl)⟩;refine b2.kept (row:=some b) ⟨u.os,u.tape,u.output,u.size,λk D d5=>u.block k D (λi=>d5 (by rw[i]))⟩ ?_
      right
      intro i
      have:=(b2.lt b i).1
      have:=h.lt
      omega
     go_wp2_with fail;refine b6.o.mono ?_;rintro g b0 ⟨rfl,rfl⟩;go_wp2;go_ret;exact⟨_,out,_,rfl,e2.o⟩
   .have d9:=d7.off
    rw[d9] at c8;have h5:=U c8;have g8:=e3 wr J b2 c7 (L d9);clear c8 e3;have g9:Z _:=g8;clear g8;go_wp2_with fail;refine h5.o.mono ?_;rintro g k3 ⟨rfl,rfl⟩;go_wp2;go_ret
    first|exact⟨_,out,r,rfl,g9.o⟩|exact⟨_,rfl,out,r,g9.o⟩
  .have g8:=e3 wr J b2 c7 (R O)
   have g9:Z _:=g8;clear g8 e3 c8;have k2:(W:Int)<=(out.length:Int):=O;go_wp2;go_ret
   first|exact⟨_,out,r,rfl,g9.o⟩|exact⟨_,rfl,out,r,g9.o⟩
theorem dh b B v t(d:Nat)w(h:BAt w b v t)(e:t.on=false)(j:0<d):Calls prog 110 #[.pointer (some ⟨b,0,none⟩),.pointer (some ⟨B,0,none⟩),.int .i64 d] w λa c=>a=.returned (.slice none 0 0)/\c=w:=by
 have f:Z (Calls prog 61 #[.pointer (some ⟨b,0,none⟩)] w λa c=>a=.returned (.bool false)/\c=w):=by
  have:=bb b v t w h;rw[e] at this;exact this
 go_enter func110,ntmps110;go_wp2;go_loopw [7] (λg i=>g=.slice none 0 0/\i=w) (λ_ _=>0)
 case atStart=>exact⟨rfl,rfl⟩
 case round=>
  obtain⟨rfl,rfl⟩:=hrel;go_wp2_with fail;refine f.o.mono ?_;rintro a k ⟨rfl,rfl⟩;go_wp2;go_ret;exact⟨rfl,rfl⟩
def tu:Array Value:=#[.int .i64 0,.int .i64 0,.int .i64 0,.int .i64 0,.int .i64 0,.int .i64 0,.int .i64 0,.int .i64 0,.int .i64 0,.int .i64 0,.int .i64 0,.int .i64 0,.int .i64 0,.int .i64 0,.int .i64 0,.int .i64 0,.int .i64 0,.int .i64 0,.int .i64 0]
theorem Ca w:Sem.run prog (Instr.makeSlice 30 (.int .i64 19) (.int .i64 19)) w=.ok (.slice (some ⟨w.heap.size,0,none⟩) 19 19) (w.alloc (.cells tu 3)):=Xk
structure nj (w:World) (g:Nat) (cs:List Nat):Prop where
 len:cs.length=19
 cell:∀i,i<19->w.cell? ⟨g,i,none⟩=some (.int .i64 (cs.getD i 0))
 fz:∀i,w.frozen? ⟨g,i,none⟩=false
theorem nj.lt{w g cs}(h:nj w g cs):g<w.heap.size:=B _ _ (h.cell 0 O)
theorem nj.same{w w' g cs}(h:nj w g cs)(e:w'.heap[g]? = w.heap[g]?):nj w' g cs:=
 ⟨h.len,λa b=>(XK (w:=w) e).trans (h.cell a b),λa=>(X2 (w:=w) e).trans (h.fz a)⟩
theorem nj.fr{S:Nat->Prop}{w w' g cs}(h:nj w g cs)(k:Fr S w w')(a:¬S g):nj w' g cs:=h.same (k.block g h.lt a)
theorem nj.set{w g cs}(h:nj w g cs)(i x:Nat)(e:i<19):nj (w.setCell ⟨g,i,none⟩ (.int .i64 x)) g (cs.set i x):=by
 refine⟨by rw[List.length_set];exact h.len,?_,λa=>by rw[Xy];exact h.fz a⟩;intro a b;by_cases c:a=i
 .subst c
  rw[ai (h.cell a b)]
  congr 2
  rw[G,List.getElem?_set_self (by rw[h.len];exact b)];rfl
 .rw[aa _ _ _ _ _ (λd=>c d.symm),h.cell a b]
  congr 3
  rw[G,G,List.getElem?_set_ne (λd=>c d.symm)]
theorem nj.iat{w g cs}(h:nj w g cs)c:IAt w (.slice (some ⟨g,0,none⟩) 19 c) cs:=by
 refine⟨⟨_,_,by rw[h.len]⟩,?_⟩;intro e f a b d
 injection a with a _ _
 refine⟨g,0,a.symm,?_⟩;rw[XD];exact h.cell b (by rw[<-h.len];exact d)
theorem qh{a c:World}(d:Kept (a.alloc (.cells tu 3)) c):nj c a.heap.size (List.replicate 19 0):=by
 have e:a.heap.size<(a.alloc (.cells tu 3)).heap.size:=Xi;refine⟨Xi,?_,?_⟩
 .intro b f
  rw[d.cell (p:=⟨a.heap.size,b,none⟩) e,Xr _ _ _ _ rfl]
  match b,f with
  | 0,_=>rfl|1,_=>rfl|2,_=>rfl|3,_=>rfl|4,_=>rfl|5,_=>rfl|6,_=>rfl|7,_=>rfl|8,_=>rfl|9,_=>rfl
  | 10,_=>rfl|11,_=>rfl|12,_=>rfl|13,_=>rfl|14,_=>rfl|15,_=>rfl|16,_=>rfl|17,_=>rfl|18,_=>rfl
  | n+19,g=>exact absurd g O
 .intro b
  rw[d.frozen (p:=⟨a.heap.size,b,none⟩) e];exact XB _ _ _ _ rfl
theorem IAt.take{w g c l}(h:IAt w (.slice (some ⟨g,0,none⟩) l.length c) l)k c'(n:k<=l.length):IAt w (.slice (some ⟨g,0,none⟩) k c') (l.take k):=by
 have b:(l.take k).length=k:=Xo;refine⟨⟨_,_,by rw[b]⟩,?_⟩;intro o p a e d;rw[b] at a d
 injection a with a _ _
 obtain⟨f,i,j,m⟩:=h.cells _ _ rfl e O;refine⟨f,i,by rw[<-a];exact j,?_⟩;rw[m]
 congr 3
 rw[G,G,List.getElem?_take_of_lt d]
theorem IAt.drop{w g c l}(h:IAt w (.slice (some ⟨g,0,none⟩) l.length c) l)k m c'(o:m=l.length-k):IAt w (.slice (some ⟨g,k,none⟩) m c') (l.drop k):=by
 have d:(l.drop k).length=m:=by rw[Yn];omega
 refine⟨⟨_,_,by rw[d]⟩,?_⟩;intro p q a f i;rw[d] at a i
 injection a with a _ _
 obtain⟨r,s,b,e⟩:=h.cells _ _ rfl (k+f) O
 injection b with b
 injection b with j n
 subst j;subst n;refine⟨g,k,a.symm,?_⟩;rw[XD] at e;rw[e]
 congr 3
 rw[G,G,Y1]
theorem DV{W p n c l}(h:IAt W (.slice p n c) l)(b:0<n):0<l.length:=by
 obtain⟨d,e,a⟩:=h.form
 injection a with f g i
 omega
structure zc (w:World) (b:Nat) (v:Value) (z:List Px.One) (a0:Nat) (s:Px.St) (lv dv:Value) (W:World) (t':Px.Bt):Prop where
 bat:BAt W b v t'
 fr:Fr1 b w W
 st:(t'.cut=false/\t'.err=0/\t'.a<=8*z.length/\∃lit dist,IAt W lv lit/\IAt W dv dist/\Px.bS lit/\Px.bS dist/\(∀g,ae lv=some g->w.heap.size<=g)/\(∀g,ae dv=some g->w.heap.size<=g)/\Px.Run z a0 (Px.coS s) t'.a {s with ph := .sym lit dist}/\0<lit.length/\0<dist.length)\/Px.Stop z a0 (Px.coS s) s.o t'
 lf:∃p n c,lv=.slice p n c
 df:∃p n c,dv=.slice p n c
theorem Ar b v z a0 s w(h:BAt w b v ⟨a0,false,0⟩)(e6:ZAt w v z)(b7:∀g,ae v=some g->g≠b)(e:Px.good z)(g1:a0<=8*z.length):Calls prog 66 #[.pointer (some ⟨b,0,none⟩)] w λa j=>∃(j9 k0:Value) (c7:Px.Bt),a=.returned (.tuple #[j9,k0])/\zc w b v z a0 s j9 k0 j c7:=by
 have q8:=h.lt;go_enter func66,ntmps66;go_wp2_with fail;refine(jJ b v z ⟨a0,false,0⟩ 5 w h e6 b7 e g1 O rfl).mono ?_;rintro a n0 ⟨f,rfl,n1,h6,g2,h7⟩
 -- the second and third number,whether or not the bits have ended
 have k1:∀(o:Px.Bt) (T:Nat) (d:World),BAt d b v o->Fr1 b w d->o.a<=8*z.length->T<=32->Calls prog 59 #[.pointer (some ⟨b,0,none⟩),.int .i64 T] d λa j=>∃i:Nat,a=.returned (.int .i64 i)/\i<2^T/\(o.cut=false->o.a+T<=8*z.length->i=Px.ab z o.a T)/\BAt j b v (o.num z T)/\Fr1 b w j:=by
  intro o T d G h8 n2 n3;cases c8:o.cut
  .refine(jJ b v z o T d G (e6.fr h8 b7) b7 e n2 n3 c8).mono ?_
   rintro a j ⟨i,rfl,c9,d0,e7,n4⟩;exact⟨i,rfl,c9,λ_=>d0,e7,h8.trans n4⟩
  .refine(DD b v o T d G c8).mono ?_
   rintro a j ⟨rfl,rfl⟩;refine⟨0,rfl,Nat.two_pow_pos T,(λh=>by cases h),?_,h8⟩;have e8:o.num z T=o:=by unfold Px.Bt.num;rw[I c8]
   rw[e8];exact G
 have g3:∀(o:Px.Bt) (T:Nat),o.a<=8*z.length->(o.num z T).a<=8*z.length:=by
  intro o T n5;unfold Px.Bt.num;split
  .exact n5
  .split
   .assumption
   .exact E _
 have h9:Z _:=k1;clear k1;go_wp2_with fail;refine(h9.o _ 5 n0 g2 h7 (g3 _ _ g1) O).mono ?_;rintro a n6 ⟨t,rfl,i0,g4,i1,i2⟩;go_wp2_with fail;refine(h9.o _ 4 n6 i1 i2 (g3 _ _ (g3 _ _ g1)) O).mono ?_;rintro a b3 ⟨b4,rfl,n7,g5,b8,b9⟩;clear h9 g3;by_cases d1:a0+14<=8*z.length
 .obtain⟨e9,f0,f1⟩:=Px.K1 d1
  rw[e9] at b8;rw[f1] at g5;rw[f0] at g4;have d2:=h6 O;have e2:t=Px.ab z (a0+5) 5:=g4 rfl (by show a0+5+5<=_;omega);have f2:b4=Px.ab z (a0+10) 4:=g5 rfl (by show a0+10+4<=_;omega);have k2:b3.cell? ⟨b,2,none⟩=some (.bool false):=b8.c2;clear h6 g4 g5 g2 i1 f0 f1 e9 h7 i2;by_cases f3:286<f+257\/30<t+1
  .have b5:Z (Calls prog 60 #[.pointer (some ⟨b,0,none⟩),.int .i64 12] b3 λa j=>a=.returned (.tuple #[])/\BAt j b v ⟨a0+14,false,12⟩/\Fr1 b b3 j):=cM b v _ 12 b3 b8 rfl rfl
   have X:Z (Px.Stop z a0 (Px.coS s) s.o ⟨a0+14,false,12⟩) := .err a0 _ 12 _ (.refl _ _) (Px.Ax d1 (by rw[<-d2,<-e2];exact f3)) rfl Xh d1;have x:Z (∀d,BAt d b v ⟨a0+14,false,12⟩->Calls prog 61 #[.pointer (some ⟨b,0,none⟩)] d λa j=>a=.returned (.bool false)/\j=d):=λd G=>bb b v _ d G
   have k3:f<32:=O;have d3:=Ca;clear d2 e2 f2;rcases f3 with f3|f3
   .go_wp2_with fail
    refine b5.o.mono ?_;rintro a a7 ⟨rfl,c0,c1⟩;have c2:Fr1 b w a7:=b9.trans c1;go_wp2_with fail;refine(kC _).mono ?_;rintro a P ⟨rfl,d4,H⟩;have g6:=c2.size;have M:=qh H;have U:=(c0.kept ((Xs _ _).alloc (E _) _)).kept H;have a8:Fr1 b w P:=(c2.alloc _).kept H;have d5:∀i∈List.replicate 19 0,i<8:=λi V=>by rw[(Yt.1 V).2];omega
    have D:=Px.eD _ d5 Xi;generalize a7.heap.size=a1 at *;clear d3;go_wp2;go_loopw [9] (λa3 d=>a3=.int .i64 0/\d=P) (λ_ _=>0)
    case atStart=>exact⟨rfl,rfl⟩
    case round=>
     obtain⟨rfl,rfl⟩:=hrel;go_wp2_with fail;refine(x.o _ U).mono ?_;rintro a a2 ⟨rfl,rfl⟩;go_wp2_with fail;refine(el _ (List.replicate 19 0) false false _ (M.iat 19) D).mono ?_;rintro a W ⟨rfl,q⟩;have k:=U.kept q;have A:=M.same (q.block _ M.lt);go_wp2_with fail;refine(x.o _ k).mono ?_;rintro a d6 ⟨rfl,rfl⟩;go_wp2_with fail;refine(dK _ (List.replicate 19 0) (λu=>u=b) _ (A.iat 19) D (λg e=>by injection e with e;simp at e;omega) (λg e=>by have:=k.lt;omega) (λg e=>by injection e with e;have:=A.lt;simp at e;omega)).mono ?_;rintro a a9 ⟨Q,rfl,c3,C⟩;have l:=k.kept C;go_wp2_with fail;refine(dh b Q v _ (f+257+(t+1)) _ l rfl O).mono ?_;rintro a a4 ⟨rfl,rfl⟩;go_wp2_with fail;refine(x.o _ l).mono ?_;rintro a a5 ⟨rfl,rfl⟩;go_wp2;go_ret2;exact⟨_,_,_,rfl,⟨l,(a8.kept q).kept C,R X.o,⟨_,_,_,rfl⟩,⟨_,_,_,rfl⟩⟩⟩
   .by_cases q9:286<f+257
    .go_wp2_with fail
     refine b5.o.mono ?_;rintro a a7 ⟨rfl,c0,c1⟩;have c2:Fr1 b w a7:=b9.trans c1;go_wp2_with fail;refine(kC _).mono ?_;rintro a P ⟨rfl,d4,H⟩;have g6:=c2.size;have M:=qh H;have U:=(c0.kept ((Xs _ _).alloc (E _) _)).kept H;have a8:Fr1 b w P:=(c2.alloc _).kept H;have d5:∀i∈List.replicate 19 0,i<8:=λi V=>by rw[(Yt.1 V).2];omega
     have D:=Px.eD _ d5 Xi;generalize a7.heap.size=a1 at *;clear d3;go_wp2;go_loopw [9] (λa3 d=>a3=.int .i64 0/\d=P) (λ_ _=>0)
     case atStart=>exact⟨rfl,rfl⟩
     case round=>
      obtain⟨rfl,rfl⟩:=hrel;go_wp2_with fail;refine(x.o _ U).mono ?_;rintro a a2 ⟨rfl,rfl⟩;go_wp2_with fail;refine(el _ (List.replicate 19 0) false false _ (M.iat 19) D).mono ?_;rintro a W ⟨rfl,q⟩;have k:=U.kept q;have A:=M.same (q.block _ M.lt);go_wp2_with fail;refine(x.o _ k).mono ?_;rintro a d6 ⟨rfl,rfl⟩;go_wp2_with fail;refine(dK _ (List.replicate 19 0) (λu=>u=b) _ (A.iat 19) D (λg e=>by injection e with e;simp at e;omega) (λg e=>by have:=k.lt;omega) (λg e=>by injection e with e;have:=A.lt;simp at e;omega)).mono ?_;rintro a a9 ⟨Q,rfl,c3,C⟩;have l:=k.kept C;go_wp2_with fail;refine(dh b Q v _ (f+257+(t+1)) _ l rfl O).mono ?_;rintro a a4 ⟨rfl,rfl⟩;go_wp2_with fail;refine(x.o _ l).mono ?_;rintro a a5 ⟨rfl,rfl⟩;go_wp2;go_ret2;exact⟨_,_,_,rfl,⟨l,(a8.kept q).kept C,R X.o,⟨_,_,_,rfl⟩,⟨_,_,_,rfl⟩⟩⟩
    .go_wp2_with fail
     refine b5.o.mono ?_;rintro a a7 ⟨rfl,c0,c1⟩;have c2:Fr1 b w a7:=b9.trans c1;go_wp2_with fail;refine(kC _).mono ?_;rintro a P ⟨rfl,d4,H⟩;have g6:=c2.size;have M:=qh H;have U:=(c0.kept ((Xs _ _).alloc (E _) _)).kept H;have a8:Fr1 b w P:=(c2.alloc _).kept H;have d5:∀i∈List.replicate 19 0,i<8:=λi V=>by rw[(Yt.1 V).2];omega
     have D:=Px.eD _ d5 Xi;generalize a7.heap.size=a1 at *;clear d3;go_wp2;go_loopw [9] (λa3 d=>a3=.int .i64 0/\d=P) (λ_ _=>0)
     case atStart=>exact⟨rfl,rfl⟩
     case round=>
      obtain⟨rfl,rfl⟩:=hrel;go_wp2_with fail;refine(x.o _ U).mono ?_;rintro a a2 ⟨rfl,rfl⟩;go_wp2_with fail;refine(el _ (List.replicate 19 0) false false _ (M.iat 19) D).mono ?_;rintro a W ⟨rfl,q⟩;have k:=U.kept q;have A:=M.same (q.block _ M.lt);go_wp2_with fail;refine(x.o _ k).mono ?_;rintro a d6 ⟨rfl,rfl⟩;go_wp2_with fail;refine(dK _ (List.replicate 19 0) (λu=>u=b) _ (A.iat 19) D (λg e=>by injection e with e;simp at e;omega) (λg e=>by have:=k.lt;omega) (λg e=>by injection e with e;have:=A.lt;simp at e;omega)).mono ?_;rintro a a9 ⟨Q,rfl,c3,C⟩;have l:=k.kept C;go_wp2_with fail;refine(dh b Q v _ (f+257+(t+1)) _ l rfl O).mono ?_;rintro a a4 ⟨rfl,rfl⟩;go_wp2_with fail;refine(x.o _ l).mono ?_;rintro a a5 ⟨rfl,rfl⟩;go_wp2;go_ret2;exact⟨_,_,_,rfl,⟨l,(a8.kept q).kept C,R X.o,⟨_,_,_,rfl⟩,⟨_,_,_,rfl⟩⟩⟩
  .have k3:f<32:=O
   have r0:f+257<=286:=O;have r1:t+1<=30:=O;have d3:=Ca;have n8:Z (Px.Run z a0 (Px.coS s) (a0+14) (Px.shS s (f+257) (t+1) (b4+4) [])):=by
    have:=Px.Aw (s:=s) d1 (by rw[<-d2];omega) (by rw[<-e2];omega)
    rw[<-d2,<-e2,<-f2] at this;exact .one this
   have g7:Z (∀d r,BAt d b v ⟨r,false,0⟩->Calls prog 61 #[.pointer (some ⟨b,0,none⟩)] d λa j=>a=.returned (.bool true)/\j=d):=λd r G=>bb b v _ d G
   clear d2 e2 f2 f3;go_wp2_with fail;refine(kC _).mono ?_;rintro a P ⟨rfl,d4,H⟩;have g6:=b9.size;have M:=qh H;have U:=(b8.kept ((Xs _ _).alloc (E _) _)).kept H;have a8:Fr1 b w P:=(b9.alloc _).kept H;obtain⟨c4,k4,r2⟩:∃c4,(b3.alloc (Obj.cells tu 3)).heap.size=c4/\b3.heap.size<c4:=⟨_,rfl,Xi⟩;rw[k4] at d4 ⊢;generalize b3.heap.size=a1 at *;clear d3 k4;go_wp2;go_loopw [9] (λa3 d=>∃(J:Nat) (c5:List Nat) (o:Px.Bt),a3=.int .i64 J/\J<=b4+4/\nj d a1 c5/\(∀i∈c5,i<8)/\BAt d b v o/\Fr (λu=>u=b\/u=a1) P d/\((∃y r,o=⟨r,false,0⟩/\y.length=J/\(∀i∈y,i<8)/\c5=Px.aR y/\r<=8*z.length/\Px.Gr z a0 s (f+257) (t+1) (b4+4) r y)\/Px.Stop z a0 (Px.coS s) s.o o)) (λa3 _=>b4+4-(intOf a3).toNat)
   case atStart=>exact⟨0,_,_,rfl,O,M,(λi V=>by rw[(Yt.1 V).2];omega),U,Fr.refl _ _,L ⟨[],a0+14,rfl,rfl,Xi,rfl,d1,L ⟨Xi,n8.o⟩⟩⟩
   case round=>
    obtain⟨J,c5,o,rfl,i3,K,d7,b6,e3,Y⟩:=hrel;have d8:Fr1 b w wr:=a8.trans' e3 (λu r3 h=>by rcases h with h|h;exact h;omega);by_cases i4:J<b4+4
    .rcases Y with⟨y,r,rfl,e4,f4,rfl,d9,f5⟩|Y
     .have k5:Z (Px.Run z a0 (Px.coS s) r (Px.shS s (f+257) (t+1) (b4+4) y)):=by
       rcases f5 with⟨_,i5⟩|⟨n9,_⟩
       .exact i5
       .omega
      have o0:∃S,S=Px.yj.getD J 0/\S<19/\wr.cell? ⟨c4,J,none⟩=some (.int .i64 S):=by
       refine⟨_,rfl,Px.DC J O,?_⟩;obtain⟨g,S,i6,c8⟩:=d4.cells _ _ rfl J (by show J<19;omega)
       injection i6 with i6
       injection i6 with o1 o2
       subst o1;subst o2;rw[XD] at c8;rw[e3.cell (c:=c4) (B _ _ c8) O];exact c8
      obtain⟨S,g8,k6,i7⟩:=o0;have o3:Z (∀d,BAt d b v ⟨r,false,0⟩->Fr1 b w d->Calls prog 59 #[.pointer (some ⟨b,0,none⟩),.int .i64 3] d λa j=>∃i:Nat,a=.returned (.int .i64 i)/\i<2^3/\(r+3<=8*z.length->i=Px.ab z r 3)/\BAt j b v ((⟨r,false,0⟩:Px.Bt).num z 3)/\Fr1 b d j):=λd c9 d0=>jJ b v z ⟨r,false,0⟩ 3 d c9 (e6.fr d0 b7) b7 e d9 O rfl
      clear f5;go_wp2_with fail;refine(g7.o _ _ b6).mono ?_;rintro a a2 ⟨rfl,rfl⟩;go_wp2_with fail;have o4:=K.cell S k6;have g9:=K.fz S;have o5:c4<a2.heap.size:=B _ _ i7;have k7:=K.lt;have h0:a1≠b:=O;have o6:c4≠b:=O;have r4:(J:Int)<19:=O;have r5:(0:Int)<=(J:Int):=O;have r6:(S:Int)<19:=O;have r7:(0:Int)<=(S:Int):=O;have o7:Z _:=b6;have o8:Z (Fr1 b w a2):=d8;have o9:Z (nj a2 a1 (Px.aR y)/\(∀i∈Px.aR y,i<8)/\BAt a2 b v ⟨r,false,0⟩/\Fr (λu=>u=b\/u=a1) P a2/\Fr1 b w a2/\y.length=J/\(∀i∈y,i<8)/\r<=8*z.length/\J<=b4+4/\J<b4+4/\S=Px.yj.getD J 0):=⟨K,d7,b6,e3,d8,e4,f4,d9,i3,i4,g8⟩;clear K d7 b6 e3 d8 e4 f4 d9 i3 i4 g8 e6 b7 e h b9 b8 U a8 d4 M H k2 n1 i0 n7 g1 d1;go_region_held3 (λd=>d.cell? ⟨c4,J,none⟩=some (.int .i64 S)) (first|exact i7|exact k8|(rw[Yl _ _ _ _ (by intro e8;injection e8;omega)];exact k8)|go_keep) ((go_at_call 59;refine(o3.o _ (by exact o7.o.same rfl) (by exact o8.o.kept ⟨rfl,rfl,rfl,E _,λ_ _=>rfl⟩)).mono ?_;rintro a W ⟨i,rfl,V,i0,k,c6⟩;have k8:=(c6.cell o5 o6).trans i7;have r8:=(c6.cell k7 h0).trans o4;have r9:=(c6.frozen k7 h0).trans g9))
      go_wp2;obtain⟨K,d7,b6,e3,d8,e4,f4,d9,i3,i4,g8⟩:=o9.o;have k9:Fr1 b a2 W:=⟨c6.os,c6.tape,c6.output,c6.size,c6.block⟩;have p0:Fr (λu=>u=b\/u=a1) P (W.setCell ⟨a1,S,none⟩ (.int .i64 i)):=(e3.trans (k9.mono (λJ _ h=>L h))).setCell (L (R rfl)) _ _;have A:=(K.fr k9 h0).set S i k6;have l:=k.same (w':=W.setCell ⟨a1,S,none⟩ (.int .i64 i)) (Below.heap_setCell _ _ _ _ (λe8=>h0 e8.symm));have p1:∀f6∈(Px.aR y).set S i,f6<8:=by
       intro f6 b0;rcases List.mem_or_eq_of_mem_set b0 with b0|b0
       .exact d7 f6 b0
       .omega
      refine⟨⟨J+1,_,_,Xj,O,A,p1,l,p0,?_⟩,Xb⟩;by_cases h1:r+3<=8*z.length
      .left
       refine⟨y++[i],r+3,Px.bW h1,by simp;exact e4,?_,?_,h1,?_⟩
       .intro f6 b0
        rcases XW.1 b0 with b0|b0
        .exact f4 f6 b0
        .simp at b0;omega
       .rw[Px.pN,e4,<-g8]
       .rw[i0 h1];exact Px.Gr.next k5.o O h1
      .right
       rw[Px.cy O];exact .cut r _ k5.o (.num (n:=3) rfl O) rfl
     .skip
      have e0:=Y.off;have X:Z (Px.Stop z a0 (Px.coS s) s.o o):=Y;have x:Z (∀d,BAt d b v o->Calls prog 61 #[.pointer (some ⟨b,0,none⟩)] d λa j=>a=.returned (.bool false)/\j=d):=λd G=>by have:=bb b v o d G;rw[e0] at this;exact this
      have D:=Px.eD _ d7 K.len;clear Y;go_wp2_with fail;refine(x.o _ b6).mono ?_;rintro a a2 ⟨rfl,rfl⟩;go_wp2_with fail;refine(el _ c5 false false _ (K.iat 19) D).mono ?_;rintro a W ⟨rfl,q⟩;have k:=b6.kept q;have A:=K.same (q.block _ K.lt);go_wp2_with fail;refine(x.o _ k).mono ?_;rintro a d6 ⟨rfl,rfl⟩;go_wp2_with fail;refine(dK _ c5 (λu=>u=b) _ (A.iat 19) D (λg e=>by injection e with e;simp at e;omega) (λg e=>by have:=k.lt;omega) (λg e=>by injection e with e;have:=A.lt;simp at e;omega)).mono ?_;rintro a a9 ⟨Q,rfl,c3,C⟩;have l:=k.kept C;go_wp2_with fail;refine(dh b Q v _ (f+257+(t+1)) _ l e0 O).mono ?_;rintro a a4 ⟨rfl,rfl⟩;go_wp2_with fail;refine(x.o _ l).mono ?_;rintro a a5 ⟨rfl,rfl⟩;go_wp2;go_ret2;exact⟨_,_,_,rfl,⟨l,(d8.kept q).kept C,R X.o,⟨_,_,_,rfl⟩,⟨_,_,_,rfl⟩⟩⟩
    .rcases Y with⟨y,r,rfl,e4,f4,rfl,d9,f5⟩|Y
     .have h2:Z (Px.Ends z a0 (Px.coS s) r (if Px.cS (Px.aR y) false false=false then .err 12 else s.to (.clen (f+257) (t+1) (Px.aR y) [])) s.o):=by
       rcases f5 with⟨n9,_⟩|⟨_,i5⟩
       .omega
       .exact i5
      have D:=Px.eD _ d7 K.len;clear f5;go_wp2_with fail;refine(el _ (Px.aR y) false false _ (K.iat 19) D).mono ?_;rintro a W ⟨rfl,q⟩;have k:=b6.kept q;have A:=K.same (q.block _ K.lt);have l0:Fr1 b w W:=d8.kept q;cases l1:Px.cS (Px.aR y) false false
      .rw[l1,I rfl] at h2
       have X:Z (Px.Stop z a0 (Px.coS s) s.o ⟨r,false,12⟩):=h2.o.stop Xh d9;have b5:Z (Calls prog 60 #[.pointer (some ⟨b,0,none⟩),.int .i64 12] W λa j=>a=.returned (.tuple #[])/\BAt j b v ⟨r,false,12⟩/\Fr1 b W j):=cM b v _ 12 W k rfl rfl;have x:Z (∀d,BAt d b v ⟨r,false,12⟩->Calls prog 61 #[.pointer (some ⟨b,0,none⟩)] d λa j=>a=.returned (.bool false)/\j=d):=λd G=>bb b v _ d G
       go_wp2_with fail;refine(g7.o _ _ k).mono ?_;rintro a d6 ⟨rfl,rfl⟩;go_wp2_with fail;refine b5.o.mono ?_;rintro a a7 ⟨rfl,c0,c1⟩;have g9:=A.fr c1 O;have p2:Fr1 b w a7:=l0.trans c1;go_wp2_with fail;refine(dK _ (Px.aR y) (λu=>u=b) _ (g9.iat 19) D (λg e=>by injection e with e;simp at e;omega) (λg e=>by have:=c0.lt;omega) (λg e=>by injection e with e;have:=g9.lt;simp at e;omega)).mono ?_;rintro a a9 ⟨Q,rfl,c3,C⟩;have l:=c0.kept C;go_wp2_with fail;refine(dh b Q v _ (f+257+(t+1)) _ l rfl O).mono ?_;rintro a a4 ⟨rfl,rfl⟩;go_wp2_with fail;refine(x.o _ l).mono ?_;rintro a a5 ⟨rfl,rfl⟩;go_wp2;go_ret2;exact⟨_,_,_,rfl,⟨l,p2.kept C,R X.o,⟨_,_,_,rfl⟩,⟨_,_,_,rfl⟩⟩⟩
      .rw[l1,N Xh] at h2
       have i8:Z (Px.Run z a0 (Px.coS s) r (Px.clS s (f+257) (t+1) (Px.aR y) [])):=h2.o.ok;have p3:=K.len;go_wp2_with fail;refine(g7.o _ _ k).mono ?_;rintro a d6 ⟨rfl,rfl⟩;go_wp2_with fail;refine(dK _ (Px.aR y) (λu=>u=b) _ (A.iat 19) D (λg e=>by injection e with e;simp at e;omega) (λg e=>by have:=k.lt;omega) (λg e=>by injection e with e;have:=A.lt;simp at e;omega)).mono ?_;rintro a a9 ⟨Q,rfl,c3,C⟩;have l:=k.kept C;have i9:Fr1 b w a9:=l0.kept C;go_wp2_with fail;refine(Aa b Q v z r (f+257) (t+1) s (Px.aR y) a9 l (e6.fr i9 b7) b7 c3 D p3 e d9 O O (f+257+(t+1)) rfl).mono ?_;rintro a a4 ⟨s0,m,c7,rfl,b1⟩;have j0:Fr1 b w a4:=i9.trans' b1.fr (λJ _ h=>h);obtain⟨p4,a6,rfl⟩:=ak b1.own;rcases b1.st with⟨f0,f1,e9,l2,l3⟩|Y
       .obtain⟨b2,rfl⟩:∃b2,c7=⟨b2,false,0⟩:=⟨c7.a,by cases c7;simp at f0 f1;subst f0;subst f1;rfl⟩
        go_wp2_with fail;refine(g7.o _ _ b1.bat).mono ?_;rintro a a5 ⟨rfl,rfl⟩;have j1:=b1.own;have p5:∃g,p4=some ⟨g,0,none⟩/\a9.heap.size<=g/\m.length<=a6:=by
         rcases j1.2 with⟨l4,h3⟩|⟨g,s1,s2,l4,p6,a⟩
         .omega
         .injection l4 with d2 e2 f2
          exact⟨g,d2,p6,by rw[f2];exact a.2.1⟩
        obtain⟨g,rfl,p7,s3⟩:=p5;have f7:Z _:=iE j1;have p8:=b1.bat;have g2:(f:Int)+257<=(m.length:Int):=O;have p9:Z _:=l2;have l5:Z (Px.Ends z r (Px.clS s (f+257) (t+1) (Px.aR y) []) b2 (s.lens (f+257) (t+1) (Px.aR y) m) s.o):=l3;have l6:Z _:=b1.le;have s4:m.length<=316:=O;have j2:Px.bS (m.take (f+257)):=⟨λi V=>l6.o i (YE V),Xo⟩;have j3:Px.bS (m.drop (f+257)):=⟨λi V=>l6.o i (Yu V),by rw[Yn];omega⟩;have q0:Z (∀d,Kept a5 d->Calls prog 109 #[.slice (some ⟨g,0,none⟩) (f+257) a6,.bool true,.bool false] d λa j=>a=.returned (.bool (Px.cS (m.take (f+257)) true false))/\Kept d j):=λd G=>el _ _ true false d ((f7.o.take (f+257) a6 O).kept G) j2
        have q1:Z (∀d,Kept a5 d->Calls prog 109 #[.slice (some ⟨g,f+257,none⟩) (t+1) (a6-(f+257)),.bool true,.bool true] d λa j=>a=.returned (.bool (Px.cS (m.drop (f+257)) true true))/\Kept d j):=λd G=>el _ _ true true d ((f7.o.drop (f+257) (t+1) (a6-(f+257)) O).kept G) j3
        have l7:Z _:=f7.o.take (f+257) a6 O;have l8:Z _:=f7.o.drop (f+257) (t+1) (a6-(f+257)) O;have l9:Z (Px.bS (m.take (f+257))/\Px.bS (m.drop (f+257))):=⟨j2,j3⟩;have m0:a5.cell? ⟨g,256,none⟩=some (.int .i64 (m.getD 256 0)):=by
         obtain⟨m1,s5,j4,q2⟩:=f7.o.cells _ _ rfl 256 O
         injection j4 with j4
         injection j4 with c9 d0
         subst c9;subst d0
         simpa using q2
        have m2:Z (s.lens (f+257) (t+1) (Px.aR y) m=if Px.cS (m.take (f+257)) true false=false\/Px.cS (m.drop (f+257)) true true=false\/m.getD 256 0=0 then .err 12 else s.to (.sym (m.take (f+257)) (m.drop (f+257)))):=by
         show _=_
         unfold Px.St.lens;rw[N]
        have s6:=Xz i9.size p7;have b5:Z (∀d,BAt d b v ⟨b2,false,0⟩->Calls prog 60 #[.pointer (some ⟨b,0,none⟩),.int .i64 12] d λa j=>a=.returned (.tuple #[])/\BAt j b v ⟨b2,false,12⟩/\Fr1 b d j):=λd G=>cM b v _ 12 d G rfl rfl
        clear l2 l3 b1 j1 j2 j3;go_wp2_with fail
        .exfalso;have:=p9.o;omega
        .refine(q0.o _ (Kept.refl _)).mono ?_
         rintro a s7 ⟨rfl,m3⟩;go_wp2_with fail;refine(q1.o _ m3).mono ?_;rintro a m4 ⟨rfl,q3⟩;have e5:=m3.trans q3;have s8:=(e5.cell (p:=⟨g,256,none⟩) (B _ _ m0)).trans m0;have h4:=p8.kept e5;have m5:(Px.cS (m.take (f+257)) true false=false\/Px.cS (m.drop (f+257)) true true=false\/m.getD 256 0=0)->Px.Stop z a0 (Px.coS s) s.o ⟨b2,false,12⟩:=by
          intro h;have f8:=l5.o;rw[m2.o,I h] at f8;exact(Px.Ends.after i8.o f8).stop Xh e9
         have m6:¬(Px.cS (m.take (f+257)) true false=false\/Px.cS (m.drop (f+257)) true true=false\/m.getD 256 0=0)->Px.Run z a0 (Px.coS s) b2 {s with ph := .sym (m.take (f+257)) (m.drop (f+257))}:=by
          intro h;have f8:=l5.o;rw[m2.o,N h] at f8;exact i8.o.trans f8.ok
         have q4:Z _:=m5;have q5:Z _:=m6;clear m5 m6;generalize Px.cS (m.take (f+257)) true false=j5 at *;generalize Px.cS (m.drop (f+257)) true true=j6 at *;generalize m.getD 256 0=h5 at *;have m7:∀d,BAt d b v ⟨b2,false,12⟩->Fr1 b w d->(j5=false\/j6=false\/h5=0)->zc w b v z a0 s (.slice (some ⟨g,0,none⟩) (f+257) a6) (.slice (some ⟨g,f+257,none⟩) (t+1) (a6-(f+257))) d ⟨b2,false,12⟩:=λd c9 d0 e7=>⟨c9,d0,R (q4.o e7),⟨_,_,_,rfl⟩,⟨_,_,_,rfl⟩⟩
         have m8:¬(j5=false\/j6=false\/h5=0)->zc w b v z a0 s (.slice (some ⟨g,0,none⟩) (f+257) a6) (.slice (some ⟨g,f+257,none⟩) (t+1) (a6-(f+257))) m4 ⟨b2,false,0⟩:=λe7=>
          ⟨h4,j0.kept e5,L ⟨rfl,rfl,e9,_,_,l7.o.kept e5,l8.o.kept e5,l9.o.1,l9.o.2,(λm1 e1=>by injection e1 with e1;simp at e1;omega),(λm1 e1=>by injection e1 with e1;simp at e1;omega),q5.o e7,DV l7.o O,DV l8.o O⟩,⟨_,_,_,rfl⟩,⟨_,_,_,rfl⟩⟩
         have j7:Z _:=m7;have q6:Z _:=m8;have j8:Z (Fr1 b w m4):=j0.kept e5;clear m7 m8;cases j5
         .go_wp2_with fail
          refine(b5.o _ h4).mono ?_;rintro a m9 ⟨rfl,f9,g0⟩;go_wp2;go_ret2;exact⟨_,_,_,rfl,j7.o _ f9 (j8.o.trans g0) Xi⟩
         .cases j6
          .go_wp2_with fail
           refine(b5.o _ h4).mono ?_;rintro a m9 ⟨rfl,f9,g0⟩;go_wp2;go_ret2;exact⟨_,_,_,rfl,j7.o _ f9 (j8.o.trans g0) Xi⟩
          .by_cases h3:h5=0
           .subst h3
            go_wp2_with fail;refine(b5.o _ h4).mono ?_;rintro a m9 ⟨rfl,f9,g0⟩;go_wp2;go_ret2;exact⟨_,_,_,rfl,j7.o _ f9 (j8.o.trans g0) Xi⟩
           .have s9:((h5:Int)==0)=false:=F.2 O
            have q7:Z _:=q6.o (by simp[h3]);clear h3;go_wp2;go_ret2;exact⟨_,_,_,rfl,q7.o⟩
       .have e0:=Y.off
        have X:Z (Px.Stop z a0 (Px.coS s) s.o c7):=Y.after i8.o;have x:Z (Calls prog 61 #[.pointer (some ⟨b,0,none⟩)] a4 λa j=>a=.returned (.bool false)/\j=a4):=by have:=bb b v c7 a4 b1.bat;rw[e0] at this;exact this
        go_wp2_with fail;refine x.o.mono ?_;rintro a a5 ⟨rfl,rfl⟩;go_wp2;go_ret2;exact⟨_,_,_,rfl,⟨b1.bat,j0,R X.o,⟨_,_,_,rfl⟩,⟨_,_,_,rfl⟩⟩⟩
     .skip
      have e0:=Y.off;have X:Z (Px.Stop z a0 (Px.coS s) s.o o):=Y;have x:Z (∀d,BAt d b v o->Calls prog 61 #[.pointer (some ⟨b,0,none⟩)] d λa j=>a=.returned (.bool false)/\j=d):=λd G=>by have:=bb b v o d G;rw[e0] at this;exact this
      have D:=Px.eD _ d7 K.len;clear Y;go_wp2_with fail;refine(el _ c5 false false _ (K.iat 19) D).mono ?_;rintro a W ⟨rfl,q⟩;have k:=b6.kept q;have A:=K.same (q.block _ K.lt);go_wp2_with fail;refine(x.o _ k).mono ?_;rintro a d6 ⟨rfl,rfl⟩;go_wp2_with fail;refine(dK _ c5 (λu=>u=b) _ (A.iat 19) D (λg e=>by injection e with e;simp at e;omega) (λg e=>by have:=k.lt;omega) (λg e=>by injection e with e;have:=A.lt;simp at e;omega)).mono ?_;rintro a a9 ⟨Q,rfl,c3,C⟩;have l:=k.kept C;go_wp2_with fail;refine(dh b Q v _ (f+257+(t+1)) _ l e0 O).mono ?_;rintro a a4 ⟨rfl,rfl⟩;go_wp2_with fail;refine(x.o _ l).mono ?_;rintro a a5 ⟨rfl,rfl⟩;go_wp2;go_ret2;exact⟨_,_,_,rfl,⟨l,(d8.kept q).kept C,R X.o,⟨_,_,_,rfl⟩,⟨_,_,_,rfl⟩⟩⟩
 .rw[Px.If d1] at b8
  have X:Z (Px.Stop z a0 (Px.coS s) s.o ⟨8*z.length,true,0⟩) := .cut a0 _ (.refl _ _) (.num (n:=14) rfl O) rfl;have k2:b3.cell? ⟨b,2,none⟩=some (.bool true):=b8.c2;have x:Z (∀d,BAt d b v ⟨8*z.length,true,0⟩->Calls prog 61 #[.pointer (some ⟨b,0,none⟩)] d λa j=>a=.returned (.bool false)/\j=d):=λd G=>bb b v _ d G
  clear h6 g4 g5 g2 i1 h7 i2;have k3:f<32:=O;have d3:=Ca;go_wp2_with fail;refine(kC _).mono ?_;rintro a P ⟨rfl,d4,H⟩;have g6:=b9.size;have M:=qh H;have U:=(b8.kept ((Xs _ _).alloc (E _) _)).kept H;have a8:Fr1 b w P:=(b9.alloc _).kept H;have d5:∀i∈List.replicate 19 0,i<8:=λi V=>by rw[(Yt.1 V).2];omega
  have D:=Px.eD _ d5 Xi;generalize b3.heap.size=a1 at *;clear d3;go_wp2;go_loopw [9] (λa3 d=>a3=.int .i64 0/\d=P) (λ_ _=>0)
  case atStart=>exact⟨rfl,rfl⟩
  case round=>
   obtain⟨rfl,rfl⟩:=hrel;go_wp2_with fail;refine(x.o _ U).mono ?_;rintro a a2 ⟨rfl,rfl⟩;go_wp2_with fail;refine(el _ (List.replicate 19 0) false false _ (M.iat 19) D).mono ?_;rintro a W ⟨rfl,q⟩;have k:=U.kept q;have A:=M.same (q.block _ M.lt);go_wp2_with fail;refine(x.o _ k).mono ?_;rintro a d6 ⟨rfl,rfl⟩;go_wp2_with fail;refine(dK _ (List.replicate 19 0) (λu=>u=b) _ (A.iat 19) D (λg e=>by injection e with e;simp at e;omega) (λg e=>by have:=k.lt;omega) (λg e=>by injection e with e;have:=A.lt;simp at e;omega)).mono ?_;rintro a a9 ⟨Q,rfl,c3,C⟩;have l:=k.kept C;go_wp2_with fail;refine(dh b Q v _ (f+257+(t+1)) _ l rfl O).mono ?_;rintro a a4 ⟨rfl,rfl⟩;go_wp2_with fail;refine(x.o _ l).mono ?_;rintro a a5 ⟨rfl,rfl⟩;go_wp2;go_ret2;exact⟨_,_,_,rfl,⟨l,(a8.kept q).kept C,R X.o,⟨_,_,_,rfl⟩,⟨_,_,_,rfl⟩⟩⟩
theorem Aq k(h:k<288):Px.bc.take (k+1)=Px.bc.take k++[if k<144 then 8 else if k<256 then 9 else if k<280 then 7 else 8]:=by
 have a:Px.bc.length=288:=by unfold Px.bc;simp
 rw[XM O]
 congr 2
 simp[Px.bc]
theorem Fb w:Calls prog 64 #[] w λR A=>∃B C,R=.returned (.tuple #[B,C])/\IAt A B Px.bc/\IAt A C Px.bL/\(∀e,ae B=some e->w.heap.size<=e)/\(∀e,ae C=some e->w.heap.size<=e)/\Kept w A:=by
 go_enter func64,ntmps64;go_wp2;go_loopw [2,4] (λr c y=>∃a:Nat,a<=288/\c=.int .i64 a/\y.ownsRow w.heap.size 3 1 r (Px.bc.take a).length (ints (Px.bc.take a))/\Kept w y) (λ_ c _=>288-(intOf c).toNat)
 case atStart=>exact⟨0,O,rfl,XR _ _ _ _,Kept.refl _⟩
 case round=>
  obtain⟨a,a4,rfl,i,v⟩:=hrel;obtain⟨s,t,rfl⟩:=ak i;have z:Px.bc.length=288:=by unfold Px.bc;simp
  have S:(Px.bc.take a).length<=288:=Xo;have a5:=v.size;by_cases T:a<288
  .have p:Z _:=Aq a T
   have j:=U i;clear i z;generalize Px.bc.take a=b at *;have V:a<144\/(144<=a/\a<256)\/(256<=a/\a<280)\/280<=a:=O;rcases V with H|⟨W,D⟩|⟨W,D⟩|H
   .rw[I H] at p
    go_wp2_with (at_builtin;refine bU _ rfl _ _ rfl w.heap.size (.slice s b.length t) b rfl (j.o.alloc _) wr.heap.size 1 8 rfl Xi O Xf ?_)
    intro x g d h o;obtain⟨l,m,rfl⟩:=ak d;have k:g.ownsRow w.heap.size 3 1 (.slice l (b.length+1) m) (b.length+1) (ints (b++[8])):=by simpa using d
    have q:=U k;have n:Z (Kept w g):=(v.alloc O _).grown h Xf (λc f=>(j.o.lt c f).1);clear d k h o;go_wp2;exact⟨⟨a+1,O,Xj,by rw[p.o,Xv];exact q.o,n.o⟩,Xb⟩
   .rw[N,I D] at p
    go_wp2_with (at_builtin;refine bU _ rfl _ _ rfl w.heap.size (.slice s b.length t) b rfl (j.o.alloc _) wr.heap.size 1 9 rfl Xi O Xf ?_)
    intro x g d h o;obtain⟨l,m,rfl⟩:=ak d;have k:g.ownsRow w.heap.size 3 1 (.slice l (b.length+1) m) (b.length+1) (ints (b++[9])):=by simpa using d
    have q:=U k;have n:Z (Kept w g):=(v.alloc O _).grown h Xf (λc f=>(j.o.lt c f).1);clear d k h o;go_wp2;exact⟨⟨a+1,O,Xj,by rw[p.o,Xv];exact q.o,n.o⟩,Xb⟩
   .rw[N,N,I D] at p
    go_wp2_with (at_builtin;refine bU _ rfl _ _ rfl w.heap.size (.slice s b.length t) b rfl (j.o.alloc _) wr.heap.size 1 7 rfl Xi O Xf ?_)
    intro x g d h o;obtain⟨l,m,rfl⟩:=ak d;have k:g.ownsRow w.heap.size 3 1 (.slice l (b.length+1) m) (b.length+1) (ints (b++[7])):=by simpa using d
    have q:=U k;have n:Z (Kept w g):=(v.alloc O _).grown h Xf (λc f=>(j.o.lt c f).1);clear d k h o;go_wp2;exact⟨⟨a+1,O,Xj,by rw[p.o,Xv];exact q.o,n.o⟩,Xb⟩
   .rw[N,N,N] at p
    go_wp2_with (at_builtin;refine bU _ rfl _ _ rfl w.heap.size (.slice s b.length t) b rfl (j.o.alloc _) wr.heap.size 1 8 rfl Xi O Xf ?_)
    intro x g d h o;obtain⟨l,m,rfl⟩:=ak d;have k:g.ownsRow w.heap.size 3 1 (.slice l (b.length+1) m) (b.length+1) (ints (b++[8])):=by simpa using d
    have q:=U k;have n:Z (Kept w g):=(v.alloc O _).grown h Xf (λc f=>(j.o.lt c f).1);clear d k h o;go_wp2;exact⟨⟨a+1,O,Xj,by rw[p.o,Xv];exact q.o,n.o⟩,Xb⟩
  .have E:a=288:=O
   have F:Px.bc.take a=Px.bc:=X6 O;rw[F] at i;have X:Z (IAt wr (.slice s 288 t) Px.bc):=by have:=iE i;rw[z] at this;exact this
   have Y:Z (∀e,ae (.slice s 288 t)=some e->w.heap.size<=e/\e<wr.heap.size):=by
    intro e u;rw[z] at i;rw[bP _ i] at u;exact i.lt e u
   rw[F,z];clear i F S E z
   rename World=>W1
   go_wp2;go_loopw [3,6] (λr c y=>∃a:Nat,a<=30/\c=.int .i64 a/\y.ownsRow W1.heap.size 3 1 r (List.replicate a 5).length (ints (List.replicate a 5))/\Kept W1 y) (λ_ c _=>30-(intOf c).toNat)
   case atStart=>exact⟨0,O,rfl,XR _ _ _ _,Kept.refl _⟩
   case round=>
    obtain⟨a,a0,rfl,i,G⟩:=hrel;obtain⟨J,K,rfl⟩:=ak i;have a6:=G.size;by_cases a1:a<30
    .have p:Z (List.replicate (a+1) 5=List.replicate a 5++[5]):=by show _=_;rw[Zo]
     have a7:(List.replicate a 5).length<=30:=Xf;have j:=U i;clear i;generalize List.replicate a 5=b at *;go_wp2_with (at_builtin;refine bU _ rfl _ _ rfl W1.heap.size (.slice J b.length K) b rfl (j.o.alloc _) wr.heap.size 1 5 rfl Xi O Xf ?_)
     intro x g d h o;obtain⟨l,m,rfl⟩:=ak d;have k:g.ownsRow W1.heap.size 3 1 (.slice l (b.length+1) m) (b.length+1) (ints (b++[5])):=by simpa using d
     have q:=U k;have n:Z (Kept W1 g):=(G.alloc O _).grown h Xf (λc f=>(j.o.lt c f).1);clear d k h o;go_wp2;exact⟨⟨a+1,O,Xj,by rw[p.o,Xv];exact q.o,n.o⟩,Xb⟩
    .have E:a=30:=O
     subst E;have L:(List.replicate 30 5).length=30:=Xi;rw[L] at i ⊢;have j:=U i;have a2:Z (∀c r,[Value.int .i64 5,Value.int .i64 5][c]? = some r->(wr.alloc (.cells #[.int .i64 5,.int .i64 5] 3)).cell? (Addr.add ⟨wr.heap.size,0,none⟩ c)=some r):=by
      intro c r f
      match c,f with
      | 0,f=>simp at f;subst f;simp[Addr.add]
      | 1,f=>simp at f;subst f;simp[Addr.add]
      | c+2,f=>simp at f
     clear i L a1 a0;go_wp2_with (at_builtin;refine ch _ 30 3 1 8 (.int .i64 0) underlying30 kQ rfl O rfl _ _ rfl W1.heap.size (.slice J 30 K) 30 (ints (List.replicate 30 5)) rfl (j.o.alloc _) ⟨wr.heap.size,0,none⟩ 2 2 [.int .i64 5,.int .i64 5] rfl rfl O a2.o (by intro r M;simp at M;subst M;rfl) Xn O Xf ?_)
     intro x g d h o;have P:g.ownsRow W1.heap.size 3 1 x Px.bL.length (ints Px.bL):=d;have n:Kept W1 g:=(G.alloc O _).grown h Xf (λc f=>(j.o.lt c f).1);obtain⟨l,m,rfl⟩:=ak d;have Q:IAt g (.slice s 288 t) Px.bc/\IAt g (.slice l 32 m) Px.bL/\(∀e,ae (.slice s 288 t)=some e->w.heap.size<=e)/\(∀e,ae (.slice l 32 m)=some e->w.heap.size<=e)/\Kept w g:=by
      refine⟨X.o.kept n,iE P,λe u=>(Y.o e u).1,λe u => ?_,v.trans n⟩;rw[bP _ d] at u
      have:=(d.lt e u).1
      omega
     have a3:Z _:=Q;clear Q d P h o;go_wp2;go_ret2;exact⟨_,_,rfl,a3.o⟩
def fX(l:List Px.One):List Value:=l.flatMap λx=>[Value.int .i64 (x.1:Int),Value.int .i64 (x.2:Int)]
theorem uj l x:fX (l++[x])=fX l++[Value.int .i64 (x.1:Int),Value.int .i64 (x.2:Int)]:=by simp[fX]
theorem lV l i(h:i<l.length):(fX l)[i*2]? = some (.int .i64 (Px.vAt l i))/\(fX l)[i*2+1]? = some (.int .i64 (Px.pAt l i)):=by
 induction l generalizing i with
 | nil=>simp at h
 | cons a b d=>
  have c:fX (a::b)=Value.int .i64 (a.1:Int)::Value.int .i64 (a.2:Int)::fX b:=rfl;cases i with
  | zero=>rw[c];exact⟨rfl,rfl⟩
  | succ i=>
   have:=d i (by simpa using h)
   rw[c,show(i+1)*2=i*2+2 from O];exact this
theorem DP:(prog.info? 148).map (λi=>(i.zero,i.size,i.bytes))=some (some (.agg #[.int .i64 0,.int .i64 0]),2,16):=Xk
structure OAt (W:World) (s N:Nat) (ov:Value) (out:List Px.One):Prop where
 c0:W.cell? ⟨s,0,none⟩=some ov
 fz:∀k,W.frozen? ⟨s,k,none⟩=false
 own:W.ownsRow N 148 2 ov out.length (fX out)
theorem OAt.zat{W s N ov out}(h:OAt W s N ov out):ZAt W ov out:=by
 have e:=h.own;rcases e.2 with⟨c,k⟩|⟨b,p,q,c,r,t⟩
 .refine⟨⟨none,0,by rw[c,k]⟩,?_⟩
  intro l m _ a f;omega
 .refine⟨⟨_,_,c⟩,?_⟩
  intro l m d a f;rw[c] at d
  injection d with d _ _
  have g:ov.ownBlock=some b:=by rw[c];rfl
  have i:=e.cells g (a*2) _ (lV out a f).1;have j:=e.cells g (a*2+1) _ (lV out a f).2;have n:(Addr.add ⟨b,0,none⟩ (a*2))=⟨b,a*2,none⟩:=by simp[Addr.add];intro h;omega
  have o:(Addr.add ⟨b,0,none⟩ (a*2+1))=⟨b,a*2+1,none⟩:=by simp[Addr.add]
  rw[n] at i;rw[o] at j;exact⟨b,d.symm,i,j⟩
theorem uD(b s f x:Nat)v ov z out t w(h:BAt w b v t)(K:ZAt w v z)(r:Px.good z)(M:0<t.a)(N:t.a<=8*z.length)(l:OAt w s f ov out)(P:s<f)(Q:f<=w.heap.size)(a5:out.length<4294967296):Calls prog 103 #[.pointer (some ⟨s,0,none⟩),.pointer (some ⟨b,0,none⟩),.int .i64 x] w λm j=>∃E,m=.returned (.tuple #[])/\OAt j s f E (out++[(x,Px.aB z t.a)])/\Fr (λc=>c=s\/ov.ownBlock=some c) w j/\(∀c,E.ownBlock=some c->ov.ownBlock=some c\/w.heap.size<=c)/\(∀a,a≠0->j.cell? ⟨s,a,none⟩=w.cell? ⟨s,a,none⟩):=by
 have S:Z (Calls prog 68 #[.pointer (some ⟨b,0,none⟩)] w λm j=>m=.returned (.int .i64 (Px.aB z t.a))/\Kept w j):=ej b v z t w h K r M N;generalize Px.aB z t.a=k at *;have u:=B _ _ l.c0;go_enter func103,ntmps103;go_wp2_with fail;refine S.o.mono ?_;rintro m g ⟨rfl,i⟩;have y:=(i.cell (p:=⟨s,0,none⟩) u).trans l.c0;have F:Z (g.ownsRow f 148 2 ov out.length (fX out)):=bO l.own i;have T:=B _ _ y;have a6:=Xz Q i.size;have U:Z (∀a n,[Value.int .i64 x,Value.int .i64 k][a]? = some n->(g.alloc (.cells #[.int .i64 x,.int .i64 k] 148)).cell? (Addr.add ⟨g.heap.size,0,none⟩ a)=some n):=by
  intro a n d
  match a,d with
  | 0,d=>simp at d;subst d;simp[Addr.add]
  | 1,d=>simp at d;subst d;simp[Addr.add]
  | a+2,d=>simp at d
 go_wp2_with (at_builtin;refine ch _ 85 148 2 16 (.agg #[.int .i64 0,.int .i64 0]) underlying85 DP rfl O rfl _ _ rfl f ov out.length (fX out) rfl (F.o.alloc _) ⟨g.heap.size,0,none⟩ 1 1 [.int .i64 x,.int .i64 k] rfl rfl O U.o (by intro n G;simp at G;rcases G with rfl|rfl<;>rfl) Xn O Xf ?_)
 intro a7 o A C H;obtain⟨I,J,rfl⟩:=ak A;have V:some s≠ov.ownBlock:=λD=>by have:=(F.o.lt _ D.symm).1;omega
 have W:s<(g.alloc (Obj.cells #[Value.int .i64 x,Value.int .i64 k] 148)).heap.size:=Xf;have q:=(C.block _ W V).trans (YR _ _ _ T);have X:=(XK (w:=g) q).trans y;have Y:∀e,o.frozen? ⟨s,e,none⟩=false:=λe=>(X2 (w:=g) q).trans ((λe=>(i.frozen (p:=⟨s,e,none⟩) u).trans (l.fz e)) e)
 have a0:Z (Fr (λc=>c=s\/ov.ownBlock=some c) w o):=(((Fr.refl _ _).kept i).alloc _).grown C (λe a1=>L (R a1));have a2:Z (o.ownsRow f 148 2 (.slice I (out.length+1) J) (out.length+1) (fX out++[.int .i64 x,.int .i64 k])):=A;have a3:Z (∀c,Value.ownBlock (.slice I (out.length+1) J)=some c->ov.ownBlock=some c\/w.heap.size<=c):=by
  intro c r;rcases H c r with h|h
  .exact L h
  .right
   have:=i.size
   omega
 have a4:Z (∀a,o.cell? ⟨s,a,none⟩=w.cell? ⟨s,a,none⟩):=λa=>(XK (w:=g) q).trans (i.cell (p:=⟨s,a,none⟩) u)
 clear A C H y q;go_wp2;go_end0
 refine⟨_,rfl,⟨ai X _,λe=>by rw[Xy];exact Y e,?_⟩,a0.o.setCell (L (L rfl)) _ _,a3.o,λa d=>by rw[aa _ _ _ _ _ (λD=>d D.symm)];exact a4.o a⟩;rw[uj,Xv];exact Yf a2.o (show s<f from P) _
theorem gC b v z t(n:Nat)w(h:BAt w b v t)(f:ZAt w v z)(g:∀e,ae v=some e->e≠b)(i:Px.good z)(j:t.a<=8*z.length)(k:n<=32):Calls prog 59 #[.pointer (some ⟨b,0,none⟩),.int .i64 n] w λc a=>∃x:Nat,c=.returned (.int .i64 x)/\x<2^n/\(t.cut=false->t.a+n<=8*z.length->x=Px.ab z t.a n)/\BAt a b v (t.num z n)/\Fr1 b w a:=by
 cases d:t.cut
 .refine(jJ b v z t n w h f g i j k d).mono ?_
  rintro c a ⟨x,rfl,l,m,o,p⟩;exact⟨x,rfl,l,λ_=>m,o,p⟩
 .refine(DD b v t n w h d).mono ?_
  rintro c a ⟨rfl,rfl⟩;refine⟨0,rfl,Nat.two_pow_pos n,(λh=>by cases h),?_,Fr.refl _ _⟩;rw[Px.fY d];exact h
theorem KZ{z}{t:Px.Bt}n(a:t.a<=8*z.length):(t.num z n).a<=8*z.length:=by
 unfold Px.Bt.num;split
 .exact a
 .split
  .assumption
  .exact E _
structure KAt (W:World) (k:Nat):Prop where
 c1:∃i:Int,W.cell? ⟨k,1,none⟩=some (.int .i64 i)
 fz:∀j,W.frozen? ⟨k,j,none⟩=false
theorem KAt.lt{W k}(h:KAt W k):k<W.heap.size:=by obtain⟨b,a⟩:=h.c1;exact B _ _ a
theorem KAt.same{W W' k}(h:KAt W k)(e:W'.heap[k]? = W.heap[k]?):KAt W' k:=by
 obtain⟨a,b⟩:=h.c1;exact⟨⟨a,(XK (w:=W) e).trans b⟩,λc=>(X2 (w:=W) e).trans (h.fz c)⟩
theorem OAt.fr{S:Nat->Prop}{W W' s N ov out}(h:OAt W s N ov out)(k:Fr S W W')(c:¬S s)(g:∀a,ov.ownBlock=some a->¬S a):OAt W' s N ov out:=by
 have d:=B _ _ h.c0;refine⟨(k.cell d c).trans h.c0,λi=>(k.frozen d c).trans (h.fz i),?_⟩;rcases h.own.2 with⟨b,j⟩|⟨a,l,m,b,n,e⟩
 .exact⟨h.own.1,L ⟨b,j⟩⟩
 .have f:ov.ownBlock=some a:=by rw[b];rfl
  refine⟨h.own.1,R ⟨a,l,m,b,n,?_,e.2⟩⟩;rw[k.block a (h.own.lt a f).2 (g a f)];exact e.1
structure Env (w W:World) (b s k N:Nat) (ov ov1:Value) (out1:List Px.One) (m:Nat):Prop where
 oat:OAt W s N ov1 out1
 sc:∀j,j≠0->W.cell? ⟨s,j,none⟩=w.cell? ⟨s,j,none⟩
 kat:KAt W k
 kc:∀j,j≠1->j≠3->W.cell? ⟨k,j,none⟩=w.cell? ⟨k,j,none⟩
 kt:∃tv xs,W.cell? ⟨k,3,none⟩=some tv/\W.ownsRow w.heap.size 169 3 tv m xs/\(∀g,tv.ownBlock=some g->ov1.ownBlock≠some g)
 fr:Fr (λg=>g=b\/g=s\/g=k\/ov.ownBlock=some g) w W
 blk:∀g,ov1.ownBlock=some g->ov.ownBlock=some g\/w.heap.size<=g
structure Base (w:World) (b s k N:Nat) (v ov:Value):Prop where
 vz:∀g,ae v=some g->g≠b/\g≠s/\g≠k/\ov.ownBlock≠some g/\g<w.heap.size
 bN:b<N
 sN:s<N
 N:N<=w.heap.size
 kw:k<w.heap.size
 sb:s≠b
 kb:k≠b
 ks:k≠s
 ko:ov.ownBlock≠some k
theorem Base.vz'{w b s k N v ov}(h:Base w b s k N v ov):∀a,ae v=some a->¬(a=b\/a=s\/a=k\/ov.ownBlock=some a):=λa c=>by
 obtain⟨d,e,f,g,_⟩:=h.vz a c;rintro(h|h|h|h)
 .exact d h
 .exact e h
 .exact f h
 .exact g h
theorem Env.ne{w W b s k N v ov ov1 out1 m}(h:Env w W b s k N ov ov1 out1 m)(c:Base w b s k N v ov):ov1.ownBlock≠some b/\ov1.ownBlock≠some s/\ov1.ownBlock≠some k:=by
 refine⟨λa => ?_,λa => ?_,λa => ?_⟩
 .have:=(h.oat.own.lt b a).1;have:=c.bN;omega
 .have:=(h.oat.own.lt s a).1;have:=c.sN;omega
 .rcases h.blk k a with h|h
  .exact c.ko h
  .have:=c.kw;omega
theorem aU{S:Nat->Prop}{W W' N e size v n xs}(h:W.ownsRow N e size v n xs)(k:Fr S W W')(f:∀a,v.ownBlock=some a->¬S a):W'.ownsRow N e size v n xs:=by
 rcases h.2 with⟨b,g⟩|⟨a,i,j,b,l,c⟩
 .exact⟨h.1,L ⟨b,g⟩⟩
 .have d:v.ownBlock=some a:=by rw[b];rfl
  refine⟨h.1,R ⟨a,i,j,b,l,?_,c.2⟩⟩;rw[k.block a (h.lt a d).2 (f a d)];exact c.1
theorem Env.b{w W W' b s k N v ov ov1 out1 m}(h:Env w W b s k N ov ov1 out1 m)(a:Base w b s k N v ov)(c:Fr1 b W W'):Env w W' b s k N ov ov1 out1 m:=by
 have e:=h.kat.lt;refine⟨h.oat.fr c a.sb (λl f d=>(h.ne a).1 (by rw[f,d])),λg o=>(c.cell (B _ _ h.oat.c0) a.sb).trans (h.sc g o),h.kat.same (c.block k e a.kb),λg i j=>(c.cell e a.kb).trans (h.kc g i j),?_,h.fr.trans' c (λr _ d=>L d),h.blk⟩;obtain⟨p,q,i,n,j⟩:=h.kt;refine⟨p,q,(c.cell e a.kb).trans i,aU n c (λl f d => ?_),j⟩
 have:=(n.lt l f).1
 have:=a.bN
 have:=a.N
 omega
theorem Env.give{w W W' b s k N v ov ov1 ov2 out1 out2 m}(h:Env w W b s k N ov ov1 out1 m)(i:Base w b s k N v ov)(t:OAt W' s N ov2 out2)(g:Fr (λa=>a=s\/ov1.ownBlock=some a) W W')(q:∀a,ov2.ownBlock=some a->ov1.ownBlock=some a\/W.heap.size<=a)(u:∀d,d≠0->W'.cell? ⟨s,d,none⟩=W.cell? ⟨s,d,none⟩):Env w W' b s k N ov ov2 out2 m:=by
 have l:=h.kat.lt;have n:¬(k=s\/ov1.ownBlock=some k):=by
  rintro(c|c)
  .exact i.ks c
  .exact(h.ne i).2.2 c
 have A:=h.fr.size;refine⟨t,λd r=>(u d r).trans (h.sc d r),h.kat.same (g.block k l n),λd o j=>(g.cell l n).trans (h.kc d o j),?_,h.fr.trans' g (λx B c => ?_),λa f => ?_⟩
 .obtain⟨y,z,o,p,j⟩:=h.kt
  refine⟨y,z,(g.cell l n).trans o,aU p g (λa f c => ?_),λa f c => ?_⟩
  .rcases c with c|c
   .have:=(p.lt a f).1
    have:=i.sN
    have:=i.N
    omega
   .exact j a f c
  .rcases q a c with e|e
   .exact j a f e
   .have:=(p.lt a f).2
    omega
 .rcases c with c|c
  .exact R (L c)
  .rcases h.blk x c with e|e
   .exact R (R (R e))
   .omega
 .rcases q a f with e|e
  .exact h.blk a e
  .right;omega
theorem Env.bytes{w W b s k N v ov ov1 out1 m}(h:Env w W b s k N ov ov1 out1 m)(d:Base w b s k N v ov)Y:Env w (W.setCell ⟨k,1,none⟩ (.int .i64 Y)) b s k N ov ov1 out1 m:=by
 have e:Fr1 k W (W.setCell ⟨k,1,none⟩ (.int .i64 Y)):=(Fr1.refl _ _).set _ _;obtain⟨r,n⟩:=h.kat.c1;refine⟨h.oat.fr e (λa=>d.ks a.symm) (λj g a=>(h.ne d).2.2 (by rw[g,a])),λc o=>(e.cell (B _ _ h.oat.c0) (λa=>d.ks a.symm)).trans (h.sc c o),⟨⟨Y,ai n _⟩,λc=>by rw[Xy];exact h.kat.fz c⟩,λc f i=>by rw[aa _ _ _ _ _ (λa=>f a.symm)];exact h.kc c f i,?_,h.fr.trans' e (λt _ a=>R (R (L a))),h.blk⟩;obtain⟨p,q,f,l,i⟩:=h.kt;refine⟨p,q,by rw[aa _ _ _ _ _ O];exact f,aU l e (λj g a => ?_),i⟩
 have:=(l.lt j g).1
 have:=d.kw
 omega
theorem Env.tok{w W W2 b s k N v ov ov1 out1 m}(h:Env w W b s k N ov ov1 out1 m)(e:Base w b s k N v ov){tv v' o xs xs' m'}(z:W.cell? ⟨k,3,none⟩=some tv)(A:W.ownsRow w.heap.size 169 3 tv m xs)(q:∀c,tv.ownBlock=some c->ov1.ownBlock≠some c)(C:(W.alloc o).grownBy W2 tv.ownBlock)(D:W2.ownsRow w.heap.size 169 3 v' m' xs')(E:∀c,v'.ownBlock=some c->tv.ownBlock=some c\/W.heap.size+1<=c):Env w (W2.setCell ⟨k,3,none⟩ v') b s k N ov ov1 out1 m':=by
 have i:=((Fr.refl _ _).alloc _).grown C (λd j=>L j);have l:∀c,tv.ownBlock=some c->w.heap.size<=c:=λc f=>(A.lt c f).1
 have r:=h.kat.lt;have n:Fr (λc=>c=k\/tv.ownBlock=some c) W (W2.setCell ⟨k,3,none⟩ v'):=by
  have F:Fr (λc=>c=k\/tv.ownBlock=some c) W W2:=i.mono (λt _ a=>R a);exact F.setCell (L (L rfl)) _ _
 have u:¬(s=k\/tv.ownBlock=some s):=by
  rintro(a|a)
  .exact e.ks a.symm
  .have:=l s a;have:=e.sN;have:=e.N;omega
 have x:¬tv.ownBlock=some k:=λa=>by have:=l k a;have:=e.kw;omega
 have p:∀d,W2.cell? ⟨k,d,none⟩=W.cell? ⟨k,d,none⟩:=λd=>i.cell r x
 refine⟨h.oat.fr n u (λc f a => ?_),λd j=>(n.cell (B _ _ h.oat.c0) u).trans (h.sc d j),⟨?_,λd=>by rw[Xy,i.frozen r x];exact h.kat.fz d⟩,λd G y=>by rw[aa _ _ _ _ _ (λa=>y a.symm),p];exact h.kc d G y,?_,h.fr.trans' n (λt I a => ?_),h.blk⟩
 .rcases a with a|a
  .exact(h.ne e).2.2 (by rw[f,a])
  .exact q c a f
 .obtain⟨g,H⟩:=h.kat.c1
  exact⟨g,by rw[aa _ _ _ _ _ O,p];exact H⟩
 .refine⟨v',xs',ai ((p 3).trans z) _,Yf D (show k<w.heap.size from e.kw) _,λc f a => ?_⟩
  rcases E c f with g|g
  .exact q c g a
  .have:=(h.oat.own.lt c a).2;omega
 .rcases a with a|a
  .exact R (R (L a))
  .have:=l t a;omega
structure qq (w:World) (b s k N:Nat) (v ov:Value) (z:List Px.One) (a0:Nat) (s0 st:Px.St) (W:World) (ov':Value) (out':List Px.One) (t':Px.Bt):Prop where
 bat:BAt W b v t'
 env:∃m,Env w W b s k N ov ov' out' m
 len:out'.length<=258*t'.a
 st:(t'.cut=false/\t'.err=0/\t'.a<=8*z.length/\∃o,Px.Ends z a0 s0 t'.a (Px.ebS st out') o)\/Px.Stop z a0 s0 out' t'
theorem zA b s k N v ov z a0 st w(h:BAt w b v ⟨a0,false,0⟩)(Y:ZAt w v z)(A:Px.good z)(d2:a0<=8*z.length)(i:Base w b s k N v ov)(d3:Env w w b s k N ov ov st.o 0)(g3:st.o.length<=258*a0):Calls prog 63 #[.pointer (some ⟨s,0,none⟩),.pointer (some ⟨b,0,none⟩),.pointer (some ⟨k,0,none⟩)] w λa e=>∃P d4 d5,a=.returned (.tuple #[])/\qq w b s k N v ov z (Px.up8 a0) (Px.ssS st) st e P d4 d5:=by
 have g4:=A.2.1;have b0:=Px.Bj d2;have d6:a0<=Px.up8 a0:=by unfold Px.up8;omega
 have D:∀j,ae v=some j->j≠b:=λj A=>(i.vz j A).1
 go_enter func63,ntmps63;go_wp2_with fail;refine(xl b v _ w h (by show a0<=_;omega)).mono ?_;rintro a b1 ⟨rfl,b2,a1⟩;have b3:BAt b1 b v ⟨Px.up8 a0,false,0⟩:=b2;have b4:=Y.fr a1 D;go_wp2_with fail;refine(gC b v z _ 16 b1 b3 b4 D A b0 O).mono ?_;rintro a d7 ⟨g,rfl,d8,a2,a3,a4⟩;have b5:=b4.fr a4 D;go_wp2_with fail;refine(gC b v z _ 16 d7 a3 b5 D A (KZ 16 b0) O).mono ?_;rintro a p ⟨Q,rfl,g5,S,q,a5⟩;have d9:Fr1 b w p:=(a1.trans a4).trans a5;have g6:=b5.fr a5 D;have a6:=d3.b i d9;have g7:g<65536:=d8;clear b2 b3 a1 a4 a5;by_cases E:Px.up8 a0+32<=8*z.length
 .obtain⟨b6,b7⟩:=Px.K9 E
  rw[b7] at q;rw[b6] at S;have G:=a2 Xi (by show Px.up8 a0+16<=_;omega);have T:Q=Px.ab z (Px.up8 a0+16) 16:=S Xi (by show Px.up8 a0+16+16<=_;omega);have e0:p.cell? ⟨b,2,none⟩=some (.bool false):=q.c2;clear a2 S b6 b7 a3;by_cases U:g+Q=65535
  .have e1:(((g:Int)+(Q:Int))!=65535)=false:=by rw[Xx];omega
   have e2:Px.AT z (Px.up8 a0) st g 0 (Px.up8 a0+32) st.o:=by
    have:=Px.AT.start (s:=st) E (by rw[<-G,<-T];exact U)
    rw[<-G] at this;exact this
   have e3:st.o.length<=258*(Px.up8 a0+32):=O;have b8:Z (∀c d,BAt c b v ⟨d,false,0⟩->Calls prog 61 #[.pointer (some ⟨b,0,none⟩)] c λa e=>a=.returned (.bool true)/\e=c):=λc d H=>bb b v _ c H
   clear G T U;go_wp2;go_loopw [8] (λl c=>∃(r:Nat) (t:Value) (f:List Px.One) (u:Px.Bt),l=.int .i64 r/\r<=g/\BAt c b v u/\Env w c b s k N ov t f 0/\f.length<=258*u.a/\((∃d,u=⟨d,false,0⟩/\d<=8*z.length/\Px.AT z (Px.up8 a0) st g r d f)\/Px.Stop z (Px.up8 a0) (Px.ssS st) f u)) (λl _=>g-(intOf l).toNat)
   case atStart=>exact⟨0,ov,st.o,_,rfl,O,q,a6,e3,L ⟨_,rfl,E,e2⟩⟩
   case round=>
    obtain⟨r,t,f,u,rfl,g8,I,J,b9,x⟩:=hrel;have e4:=J.ne i;by_cases e5:r<g
    .rcases x with⟨d,rfl,a7,V⟩|x
     .have c0:Z (Px.Run z (Px.up8 a0) (Px.ssS st) d {st with ph := .stored (g-r),o:=f}):=by
       rcases V with⟨_,a8⟩|⟨e6,_⟩
       .exact a8
       .omega
      have e7:=Y.fr J.fr i.vz';have e8:Z (Calls prog 59 #[.pointer (some ⟨b,0,none⟩),.int .i64 8] wr λa e=>∃m:Nat,a=.returned (.int .i64 m)/\m<2^8/\(d+8<=8*z.length->m=Px.ab z d 8)/\BAt e b v ((⟨d,false,0⟩:Px.Bt).num z 8)/\Fr1 b wr e):=jJ b v z ⟨d,false,0⟩ 8 wr I e7 D A a7 O rfl;clear V;go_wp2_with fail;refine(b8.o _ _ I).mono ?_;rintro a c1 ⟨rfl,rfl⟩;go_wp2_with fail;refine e8.o.mono ?_;rintro a y ⟨m,rfl,g9,c2,B,e9⟩;have f0:Z _:=c2;clear c2;have K:=J.b i e9;by_cases M:d+8<=8*z.length
      .rw[Px.bW M] at B
       have f1:=Xz i.N K.fr.size;have f2:f.length<4294967296:=O;have f3:Z (Calls prog 103 #[.pointer (some ⟨s,0,none⟩),.pointer (some ⟨b,0,none⟩),.int .i64 m] y λa e=>∃P,a=.returned (.tuple #[])/\OAt e s N P (f++[(m,Px.aB z (d+8))])/\Fr (λj=>j=s\/t.ownBlock=some j) y e/\(∀j,P.ownBlock=some j->t.ownBlock=some j\/y.heap.size<=j)/\(∀l,l≠0->e.cell? ⟨s,l,none⟩=y.cell? ⟨s,l,none⟩)):=uD b s N m v t z f ⟨d+8,false,0⟩ y B (Y.fr K.fr i.vz') A (by show 0<d+8;omega) M K.oat i.sN f1 f2;go_wp2_with fail;refine(b8.o _ _ B).mono ?_;rintro a c3 ⟨rfl,rfl⟩;go_wp2_with fail;refine f3.o.mono ?_;rintro a W ⟨c4,rfl,c5,c6,c7,c8⟩;have X:=B.fr c6 (by rintro(h|h);exact i.sb h.symm;exact e4.1 h);have F:=K.give i c5 c6 c7 c8;obtain⟨f4,h0⟩:=F.kat.c1;have h1:=F.kat.fz;have f5:Z (Env w W b s k N ov c4 (f++[(m,Px.aB z (d+8))]) 0/\BAt W b v ⟨d+8,false,0⟩):=⟨F,X⟩;clear F X c5 c8 c7;go_wp2;obtain⟨F,X⟩:=f5.o;generalize h2:wrap64 (f4+1)=c9 at *;have f6:Fr1 k W (W.setCell ⟨k,1,none⟩ (.int .i64 c9)):=(Fr1.refl _ _).set _ _;refine⟨⟨r+1,c4,f++[(m,Px.aB z (d+8))],⟨d+8,false,0⟩,Xj,O,X.fr f6 (λf7=>i.kb f7.symm),F.bytes i c9,?_,L ⟨d+8,rfl,M,?_⟩⟩,Xb⟩
       .show(f++_).length<=258*(d+8)
        simp;omega
       .rw[f0.o M];exact Px.AT.next c0.o e5 M
      .rw[Px.cy O] at B
       have C:Z (Calls prog 61 #[.pointer (some ⟨b,0,none⟩)] y λa e=>a=.returned (.bool false)/\e=y):=bb b v _ y B;go_wp2_with fail;refine C.o.mono ?_;rintro a c3 ⟨rfl,rfl⟩;go_wp2;exact⟨⟨r+1,t,f,_,Xj,O,B,K,(by show f.length<=258*(8*z.length);omega),R (.cut d _ c0.o (.num (n:=8) rfl O) rfl)⟩,Xb⟩
     .have f8:=x.off
      have C:Z (Calls prog 61 #[.pointer (some ⟨b,0,none⟩)] wr λa e=>a=.returned (.bool false)/\e=wr):=by have:=bb b v u wr I;rw[f8] at this;exact this
      have o:Z (qq w b s k N v ov z (Px.up8 a0) (Px.ssS st) st wr t f u):=⟨I,⟨0,J⟩,b9,R x⟩;go_wp2_with fail;refine C.o.mono ?_;rintro a c3 ⟨rfl,rfl⟩;go_wp2;go_end0
      exact⟨_,_,_,rfl,o.o⟩
    .have o:Z (qq w b s k N v ov z (Px.up8 a0) (Px.ssS st) st wr t f u):=by
      refine⟨I,⟨0,J⟩,b9,?_⟩;rcases x with⟨d,rfl,a7,V⟩|x
      .left
       rcases V with⟨e6,_⟩|⟨_,a8⟩
       .omega
       .exact⟨rfl,rfl,a7,a8⟩
      .exact R x
     clear x;go_wp2;go_end0
     exact⟨_,_,_,rfl,o.o⟩
  .have f9:Z (Calls prog 60 #[.pointer (some ⟨b,0,none⟩),.int .i64 11] p λa e=>a=.returned (.tuple #[])/\BAt e b v ⟨Px.up8 a0+32,false,11⟩/\Fr1 b p e):=cM b v _ 11 p q rfl rfl
   have C:Z (∀c,BAt c b v ⟨Px.up8 a0+32,false,11⟩->Calls prog 61 #[.pointer (some ⟨b,0,none⟩)] c λa e=>a=.returned (.bool false)/\e=c):=λc H=>bb b v _ c H
   have g0:Z (Px.Stop z (Px.up8 a0) (Px.ssS st) st.o ⟨Px.up8 a0+32,false,11⟩) := .err (Px.up8 a0) _ 11 _ (.refl _ _) (Px.BN E (by rw[<-G,<-T];exact U)) rfl Xh E;have e1:(((g:Int)+(Q:Int))!=65535)=true:=Xe;clear G T U;go_wp2_with fail;refine f9.o.mono ?_;rintro a d0 ⟨rfl,d1,g1⟩;have o:Z (qq w b s k N v ov z (Px.up8 a0) (Px.ssS st) st d0 ov st.o ⟨Px.up8 a0+32,false,11⟩) :=
    ⟨d1,⟨0,a6.b i g1⟩,(by show st.o.length<=258*(Px.up8 a0+32);have:=d6;omega),R g0.o⟩
   go_wp2;go_loopw [8] (λl c=>l=.int .i64 0/\c=d0) (λ_ _=>0)
   case atStart=>exact⟨rfl,rfl⟩
   case round=>
    obtain⟨rfl,rfl⟩:=hrel;by_cases a9:g=0
    .subst a9
     go_wp2;go_end0
     exact⟨_,_,_,rfl,o.o⟩
    .have g2:(0:Int)<(g:Int):=O
     go_wp2_with fail;refine(C.o _ d1).mono ?_;rintro a c1 ⟨rfl,rfl⟩;go_wp2;go_end0
     exact⟨_,_,_,rfl,o.o⟩
 .rw[Px.Ig E] at q
  have C:Z (∀c,BAt c b v ⟨8*z.length,true,0⟩->Calls prog 61 #[.pointer (some ⟨b,0,none⟩)] c λa e=>a=.returned (.bool false)/\e=c):=λc H=>bb b v _ c H
  have e0:p.cell? ⟨b,2,none⟩=some (.bool true):=q.c2;have o:Z (qq w b s k N v ov z (Px.up8 a0) (Px.ssS st) st p ov st.o ⟨8*z.length,true,0⟩) :=
   ⟨q,⟨0,a6⟩,(by show st.o.length<=258*(8*z.length);omega),R (.cut (Px.up8 a0) _ (.refl _ _) (.num (n:=32) rfl O) rfl)⟩
  clear a2 S a3;go_wp2;go_loopw [8] (λl c=>l=.int .i64 0/\c=p) (λ_ _=>0)
  case atStart=>exact⟨rfl,rfl⟩
  case round=>
   obtain⟨rfl,rfl⟩:=hrel;by_cases a9:g=0
   .subst a9
    go_wp2;go_end0
    exact⟨_,_,_,rfl,o.o⟩
   .have g2:(0:Int)<(g:Int):=O
    go_wp2_with fail;refine(C.o _ q).mono ?_;rintro a c1 ⟨rfl,rfl⟩;go_wp2;go_end0
    exact⟨_,_,_,rfl,o.o⟩
