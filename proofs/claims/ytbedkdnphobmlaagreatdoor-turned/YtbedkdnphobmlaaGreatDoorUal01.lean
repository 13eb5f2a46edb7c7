import Derived.Test.YtbedkdnphobmlaaGreatDoorProg
import Derived.Deep.CutBlock
import Derived.Deep.CutRange
import Derived.Deep.RegionWith
import Derived.Test.YtbedkdnphobmlaaGreatDoorUaa00
import Derived.Test.YtbedkdnphobmlaaGreatDoorUaa01
import Derived.Test.YtbedkdnphobmlaaGreatDoorUaa03
import Derived.Test.YtbedkdnphobmlaaGreatDoorUaa09
import Derived.Test.YtbedkdnphobmlaaGreatDoorUaa14
import Derived.Test.YtbedkdnphobmlaaGreatDoorUaa18
import Derived.Test.YtbedkdnphobmlaaGreatDoorUaa19
import Derived.Test.YtbedkdnphobmlaaGreatDoorUaa23
import Derived.Test.YtbedkdnphobmlaaGreatDoorUaa27
import Derived.Test.YtbedkdnphobmlaaGreatDoorUaa33
import Derived.Test.YtbedkdnphobmlaaGreatDoorUaa34
import Derived.Test.YtbedkdnphobmlaaGreatDoorUab00
import Derived.Test.YtbedkdnphobmlaaGreatDoorUac00
import Derived.Test.YtbedkdnphobmlaaGreatDoorUac01
import Derived.Test.YtbedkdnphobmlaaGreatDoorUal00
set_option linter.all false
set_option maxRecDepth 100000
set_option maxHeartbeats 0
namespace Go.Proofs.YtbedkdnphobmlaaGreatDoor
open Go.RowKit Px Tryz
theorem Cj{X k}(a:X<256)(b:k<8):X ^^^ 2^k<256/\X ^^^ 2^k≠X:=by
 refine⟨YY (n:=8) a (Nat.pow_lt_pow_right O b),λc => ?_⟩
 have:X ^^^ (X ^^^ 2^k)=X ^^^ X:=by rw[c]
 rw[<-Nat.xor_assoc,Nat.xor_self,Nat.zero_xor] at this
 have:=Nat.two_pow_pos k
 omega
theorem u8_xor(a c:Nat)(b:a<256)(d:c<256):bits .xor .u8 (a:Int) (c:Int)=((a ^^^ c:Nat):Int):=by
 show IntKind.u8.wrap ((BitVec.ofInt 8 (a:Int) ^^^ BitVec.ofInt 8 (c:Int)).toNat:Int)=_
 have e:(BitVec.ofInt 8 (a:Int)).toNat=a:=by rw[XT,X0];exact X1 O
 have f:(BitVec.ofInt 8 (c:Int)).toNat=c:=by rw[XT,X0];exact X1 O
 have:a ^^^ c<256:=YY (n:=8) b d
 rw[BitVec.toNat_xor,e,f,IntKind.wrap_u8];omega
theorem zI{a k:Nat}(d:a<256)(e:k<8):bits .xor .u8 (a:Int) (IntKind.u8.wrap (2^min (IntKind.u64.wrap (k:Int)).toNat 8))=((a ^^^ 2^k:Nat):Int):=by
 have c:2^k<2^8:=Nat.pow_lt_pow_right O e;have f:(IntKind.u64.wrap (k:Int)).toNat=k:=by rw[IntKind.wrap_u64];omega
 have g:min k 8=k:=O;have h:(2:Int)^k=((2^k:Nat):Int):=Xi;have i:∀b:Nat,b<256->IntKind.u8.wrap (b:Int)=(b:Int):=λb j=>by rw[IntKind.wrap_u8];omega
 rw[f,g,h,i _ c,u8_xor a (2^k) d c]
structure EA (w W:World) (B:Nat) (ff:ByteArray) (i x y:Nat):Prop where
 kept:Kept w W
 lt:B<W.heap.size
 y256:y<256
 ne:y≠x
 at1:W.cell? ⟨B,i,none⟩=some (.int .u8 (y:Int))
 rest:∀j z:Nat,j≠i->(aj ff)[j]? = some z->W.cell? ⟨B,j,none⟩=some (.int .u8 (z:Int))
theorem Iu.turn{w W B i x k ff}(h:Iu W B ff)(b:Kept w W)(c:w.heap.size<=B)(a:(aj ff)[i]? = some x)(d:k<8)n W'(e:W'=(W.setCell ⟨B,i,none⟩ (.int .u8 ((x ^^^ 2^k:Nat):Int))).drewN n):EA w W' B ff i x (x ^^^ 2^k):=by
 obtain⟨f,g⟩:=Cj (dG ff x (X8 a)) d;subst e;refine⟨Kept.drewN (Y2 b c _) n,?_,f,g,af (h.cell i x a) _,λj l o m=>(aa _ _ _ _ _ O).trans (h.cell j l m)⟩;show B<(W.setCell ⟨B,i,none⟩ (.int .u8 ((x ^^^ 2^k:Nat):Int))).heap.size
 simpa[World.setCell] using h.lt
theorem EA.conv{w W B i x c cap ff}(h:EA w W B ff i x c)(r:i<ff.size):∃g:ByteArray,(∀d,Kept W d->(convert 56 9 (.slice (some ⟨B,i,none⟩) (ff.size-i) cap)).run prog d=.ok (.string g) d)/\aj g=c::(aj ff).drop (i+1):=by
 have j:=aF ff;have l:isBytes (((c::(aj ff).drop (i+1)).map (λb:Nat=>(b:Int)))):=by
  intro b m;obtain⟨k,n,rfl⟩:=YP.1 m
  have:k<256:=by
   rcases Y4.1 n with f|f
   .rw[f];exact h.y256
   .exact dG ff k (Yu f)
  exact⟨O,O⟩
 refine⟨strOfNums ((c::(aj ff).drop (i+1)).map (λb:Nat=>(b:Int))),λd o => ?_,?_⟩
 .refine run_convert_bytes_arg (P:=prog) d 56 5 underlying56 underlying5 B i (ff.size-i) cap _ ?_ (λa s => ?_) 9 underlying9
  .rw[List.length_map,Yj,Yn,j];omega
  .refine(o.cell (p:=⟨B,i+a,none⟩) h.lt).trans ?_
   have e:a<(c::(aj ff).drop (i+1)).length:=by rw[Yj,Yn,j];omega
   rw[G,XQ,Xt e];show W.cell? ⟨B,i+a,none⟩=some (.int .u8 (((c::(aj ff).drop (i+1))[a]:Nat):Int))
   match a,e with
   | 0,_=>exact h.at1
   | a+1,e=>
    refine h.rest (i+(a+1)) _ O ?_;have q:a<((aj ff).drop (i+1)).length:=by rw[Yj] at e;omega
    show(aj ff)[i+(a+1)]? = some (((aj ff).drop (i+1))[a])
    rw[List.getElem_drop,show i+(a+1)=i+1+a from O];exact Xt (by rw[Yn] at q;omega)
 .rw[fu l]
  unfold nl;rw[List.map_map]
  have:(Int.toNat∘λb:Nat=>(b:Int))=id:=by funext b;show((b:Int)).toNat=b;exact YQ b
  rw[this,List.map_id]
theorem yO x wd H K D L P V Z a b pp qp xp fp kp cp pc qc xc fc kc cc pal clr pix fl kl cl ff w(h:Dk w x wd H K D L P V Z pp qp xp fp kp cp pc qc xc fc kc cc pal clr pix fl kl cl)(o6:4<x)(c5:dp wd H D K L P V pal clr pix fl kl ff)(b3:w.cell? ⟨x,14,none⟩=some (.string ff))(f0:dN w)(j7 : -9223372036854775808<=a)(j8:a<9223372036854775808)(j9 : -9223372036854775808<=b)(k0:b<9223372036854775808):Calls prog 13 #[.pointer (some ⟨x,0,none⟩),.int .i64 a,.int .i64 b] w λl T=>l=.returned (.bool true)/\Kept w T:=by
 have f1:bw w:=⟨pa h.grid,f0⟩;have f2:0<w.heap.size:=by have:=h.grid.lt;omega
 obtain⟨o7,o8⟩:=bM c5;obtain⟨o9,c6,c7,_⟩:=ij c5 h.im h.ch;have b4:=aF ff;have f3:ZH0 _:=c6;have f4:ZH0 _:=c7;have f5:ZH0 (∀f,Kept w f->f.cell? ⟨x,14,none⟩=some (.string ff)):=λf r=>(r.cell (p:=⟨x,14,none⟩) (B _ _ b3)).trans b3
 have k1:ZH0 _:=f1;have f6:=U (dO a ff.size w j7 j8 O O);have f7:ZH0 (∀j,Calls prog 17 #[.int .i64 b,.int .i64 8] j λl T=>(∃r:Nat,r<8/\l=.returned (.int .i64 r))/\T=j):=λj=>dO b 8 j j9 k0 O O
 have f8:ZH0 (∀g m:Nat,IA (aj ff) g m->Calls prog 30 #[.pointer (some ⟨x,0,none⟩),.int .i64 g] w λl T=>l=.returned (.int .i64 m)/\T=w):=λg m W=>by
  obtain⟨k2,b5,b6,k3,k4,k5,k6,k7,J⟩:=W.num;have c8:=W.fit;rw[b4] at c8;rw[J];exact kR x g ff w b3 O O k2 b5 b6 k3 k4 k5 k6 k7
 have f9:ZH0 (∀c s M:Nat,(aj ff)[c]? = some s->M<256->M≠s->ot (aj ff) c->∃N,bm dc0 (aj (ff.extract 0 c))/\dc0.feed (aj (ff.extract 0 c))=⟨N,c,0,0⟩/\∃i,EV N c (M::(aj ff).drop (c+1)) i):=λc s M X u k8 a2=>by
  have b7:=(Yb.1 X).1;obtain⟨N,c9,i,k9⟩:=G1 c6 c7 (dG ff) O X u k8 a2;have k:aj (ff.extract 0 c)=(aj ff).take c:=by rw[cM,List.drop_zero,Nat.sub_zero]
  have l0:((aj ff).take c).length=c:=Xo;rw[k];refine⟨N,Rn.ok (d:=dc0) c9 rfl (by show 0+_<=_;omega),?_,i,k9⟩;rw[Rn.feed (d:=dc0) c9 rfl,l0];show(⟨N,0+c,0,0⟩:Dc)=_
  rw[XD]
 have l1:ZH0 (∀j,Kept w j->Calls prog 21 #[] j λk f=>∃e,k=.returned (.pointer (some ⟨e,0,none⟩))/\DI w f e dc0):=λj r=>jL r f2
 clear h c5 f1 c6 c7 f0;go_enter func13,ntmps13;go_wp2_with fail;refine f6.o.mono ?_;rintro l l2 ⟨⟨c,b7,rfl⟩,p0⟩;subst l2;obtain⟨s,X⟩:∃s,(aj ff)[c]? = some s:=⟨_,Xt (by rw[b4];exact b7)⟩;go_upto_block 0 with fail
 go_cut [8,9] from 22 (λg0 l3 j=>j=w/\ot (aj ff) c)
 case first=>
  go_wp2_with fail;go_loopg [8,9] (ff.size-8) (λl4 g0 l3 j=>∃g:Nat,l4=ff.size-g/\g0=.int .i64 g/\j=w/\g<=ff.size/\(c<8\/(g<=c/\Brd (aj ff) g)))
  case atStart=>exact⟨8,O,rfl,rfl,O,by
   by_cases b8:c<8
   .exact Or.inl b8
   .exact R ⟨O,KR f3.o f4.o⟩⟩
  case round=>
   obtain⟨g,d0,rfl,rfl,p1,d1⟩:=hrel;replace d0:ZH0 _:=d0;by_cases b8:c<8
   .have l5:¬(8:Int)<=(c:Int):=O
    clear d1;go_wp2_with fail;go_meet
    case rel=>exact⟨rfl,Or.inl b8⟩
   .have l5:(8:Int)<=(c:Int):=O
    obtain⟨p2,g1⟩:g<=c/\Brd (aj ff) g:=by
     rcases d1 with t|t
     .exact absurd t b8
     .exact t
    obtain⟨m,W⟩:=g1.n f3.o f4.o;have c8:=W.fit;rw[b4] at c8;have g2:ZH0 _:=W;have d2:=f8.o g m W;replace d2:ZH0 _:=d2;have p3:(g:Int)<(ff.size:Int):=O;obtain⟨a3,a4⟩:∃a3,a3=g+4:=⟨_,rfl⟩;have p4:(g:Int)+4=(a3:Int):=O;obtain⟨a8,a5⟩:∃a8,a8=g+12:=⟨_,rfl⟩;have p5:(g:Int)+12=(a8:Int):=O;obtain⟨n,J⟩:∃n,n=a8+m:=⟨_,rfl⟩;have p6:(a8:Int)+(m:Int)=(n:Int):=O;have p7:n<=ff.size:=O;clear d1 g1 W;go_wp2_with fail;refine X9 d2.o ?_;rintro l b9 ⟨rfl,p8⟩;subst b9;by_cases p9:c<a3
    .have l6:(c:Int)<(a3:Int):=O
     replace a4:ZH0 _:=a4;replace a5:ZH0 _:=a5;replace J:ZH0 _:=J;go_wp2;go_ret;exact⟨rfl,Kept.refl _⟩
    .have l6:¬(c:Int)<(a3:Int):=O
     by_cases q0:c<n
     .have l7:(c:Int)<(n:Int):=O
      have a2:ZH0 (ot (aj ff) c):=R ⟨g,m,g2.o,O,O⟩;replace a4:ZH0 _:=a4;replace a5:ZH0 _:=a5;replace J:ZH0 _:=J;go_wp2_with fail;go_meet
      case rel=>exact⟨rfl,a2.o⟩
     .have l7:¬(c:Int)<(n:Int):=O
      have l8:ZH0 (Brd (aj ff) n):=by
       have:=g2.o.next (by rw[b4];omega)
       rw[show g+12+m=n from O] at this;exact this
      have l9:ZH0 (ff.size-n<ff.size-g):=by show ff.size-n<ff.size-g;omega
      replace a4:ZH0 _:=a4;replace a5:ZH0 _:=a5;replace J:ZH0 _:=J;go_wp2_with fail;go_roundg (ff.size-n)
      case measure=>rw[d0.o];exact l9.o
      case rel=>exact⟨n,rfl,rfl,rfl,O,R ⟨O,l8.o⟩⟩
 case rest=>
  obtain⟨q1,a2⟩:=hcut;subst wc;have m0:=U a2;obtain⟨g3,m1,q2,m2,c0,g4⟩:=Ih w ff;have m3:ZH0 _:=c0;have m4:ZH0 (Kept w m1):=g4;have m5:=c0.cell c s X;have m6:=c0.fz c b7;have g5:ZH0 _:=X;have m7:=dG ff s (X8 X);clear c0 g4 a2 X;have q3:(0:Int)<=(c:Int):=O;have q4:(c:Int)<(ff.size:Int):=O;go_upto_region 10 with fail
  go_cut [] from 22 (λj=>∃M,EA w j w.heap.size ff c s M)
  case first=>
   go_region_with ((go_at_call 17;refine(f7.o _).mono ?_;rintro k d3 ⟨⟨r,g6,rfl⟩,q5⟩;subst d3;have q6:(0:Int)<=(r:Int):=O;have c9:(r:Int)<8:=O))
   all_goals
    go_wp2_with fail;go_meet
    case rel=>exact⟨_,m3.o.turn m4.o (E _) g5.o g6 1 _ (by rw[zI m7 g6];rfl)⟩
  case rest=>
   obtain⟨M,u⟩:=hcut;obtain⟨N,b5,b6,i,q⟩:=f9.o c s M g5.o u.y256 u.ne m0.o;obtain⟨d4,g7,c1⟩:=u.conv (cap:=g3-c) b7;have d5:ZH0 (Kept w wc):=u.kept;have c2:ZH0 _:=k1.o.kept u.kept;have m8:d4.size<=990000000:=by
    have:=congrArg List.length c1
    rw[aF,Yj,Yn] at this;omega
   have m9:=U (jL (Kept.refl _) (Xq f2 u.kept.size));have n0:ZH0 (∀f e,DI wc f e dc0->Calls prog 22 #[.pointer (some ⟨e,0,none⟩),.string (ff.extract 0 c)] f λk o=>k=.returned (.tuple #[.int .i64 0,.int .i64 0])/\DI wc o e ⟨N,c,0,0⟩/\Fr1 e f o):=λf e v=>vw (ff.extract 0 c) v b5 b6 (by rw[ByteArray.size_extract];omega) c2.o
   have n1:ZH0 (∀f e,DI wc f e ⟨N,c,0,0⟩->Calls prog 22 #[.pointer (some ⟨e,0,none⟩),.string d4] f λk o=>k=.returned (.tuple #[.int .i64 i.err,.int .i64 i.at1])/\DI wc o e i/\Fr1 e f o):=λf e v=>vw d4 v (by rw[c1];exact q.ok) (by rw[c1];exact q.feed) O c2.o
   have g8:ZH0 (∀f e,DI wc f e i->Calls prog 24 #[.pointer (some ⟨e,0,none⟩)] f λk o=>SnT f i k o):=λf e v=>Ha v q.err q.show' q.pal c2.o.grd
   have n2:ZH0 (∀f e,DI wc f e i->Calls prog 22 #[.pointer (some ⟨e,0,none⟩),.string ff] f λk o=>k=.returned (.tuple #[.int .i64 i.err,.int .i64 i.at1])/\DI wc o e i/\Fr1 e f o):=λf e v=>vw ff v (jn q.err _) (dw q.err _) O c2.o
   have n3:ZH0 (∀f e,DI wc f e i->Calls prog 23 #[.pointer (some ⟨e,0,none⟩)] f λk o=>k=.returned (.tuple #[.int .i64 i.err,.int .i64 i.at1])/\DI wc o e i/\Kept f o):=λf e v=>vJ v q.err
   have g9:=C8 q.show';have q7:((i.err:Int)==0)=false:=by have:=q.err;rw[F];omega
   have q8:¬(i.at1:Int)<(c:Int):=by have:=q.at1;omega
   have n4:ZH0 _:=g7;clear m2 m5 m6 u b5 b6 g7 c1 q m8 f6 f7 f8 f9 l1 b3;have q9:(c:Int)<=(ff.size:Int):=O;have r0:¬(g3=c):=O;go_wp2_with fail;refine m9.o.mono ?_;rintro l h0 ⟨e,rfl,d6⟩;have d7:=f5.o h0 (d5.o.trans d6.kept);have h1:ZH0 _:=d6;clear d6;go_wp2_with fail;refine(n0.o h0 e h1.o).mono ?_;rintro l b9 ⟨rfl,d8,_⟩;have h2:ZH0 _:=d8;have n5:=n4.o b9 d8.kept;clear d8 h1 d7;go_wp2_with fail;refine(n1.o b9 e h2.o).mono ?_;rintro l d3 ⟨rfl,h3,_⟩;have c3:ZH0 _:=h3;clear h3 h2 n5;go_wp2_with fail;refine(g8.o d3 e c3.o).mono ?_;rintro l Q ⟨Y,a9,m,g,rfl,y,z,A,S,a0,C,b0,b1,h4,h5⟩;obtain⟨b2,a1,d9⟩:=cZ Q Y y z;unfold snN at b2 a1 d9;have e0:ZH0 (Kept Q ((Q.alloc (Obj.cells #[.int .i64 0,.int .i64 0,.bool false,.int .i64 0,.int .i64 0,.int .i64 0,.int .i64 0,.int .i64 0,.slice none 0 0,.slice none 0 0,.slice none 0 0] 50)).setCells Q.heap.size 0 Y)):=d9;have h6:ZH0 _:=b1;have e1:ZH0 _:=c3.o.on h5;have n6:ZH0 (∀a6,ai (.slice a9 m g)=some a6->e≠a6):=λa6 t=>by have:=h4 a6 t;have:=c3.o.glt;omega
   have r1:=e1.o.glt;have h7:ZH0 _:=b0;replace y:ZH0 _:=y;replace z:ZH0 _:=z;have G:=U a1;replace A:ZH0 _:=A;replace S:ZH0 _:=S;replace a0:ZH0 _:=a0;replace C:ZH0 _:=C;clear d9 a1 b1 h4 h5 b0 c3;go_upto_region 17 with fail
   generalize ((Q.alloc (Obj.cells #[.int .i64 0,.int .i64 0,.bool false,.int .i64 0,.int .i64 0,.int .i64 0,.int .i64 0,.int .i64 0,.slice none 0 0,.slice none 0 0,.slice none 0 0] 50)).setCells Q.heap.size 0 Y)=e2 at *;clear b2;have n7:=G.o 0 _ A.o;have n8:=G.o 1 _ S.o;have d7:=G.o 2 _ a0.o;have e3:=G.o 9 _ C.o;have h8:ZH0 (∀j,Fr1 e e2 j->j.cell? ⟨Q.heap.size,9,none⟩=some (.slice a9 m g)/\LAt j .i64 (.slice a9 (pxL i).length g) (pxL i)):=λj h9=>⟨(h9.cell (B _ _ e3) (λt=>by have:Q.heap.size=e:=t;omega)).trans e3,(h6.o.kept e0.o).fr h9 (λa6 t=>by rw[<-h7.o] at t;exact λk=>n6.o a6 t k.symm)⟩
   have e4:ZH0 _:=e1.o.on e0.o;have n9:=f5.o e2 (d5.o.trans e4.o.kept);clear e1 h6 e0 G A S a0 C y z;go_wp2_with fail;refine(n2.o e2 e e4.o).mono ?_;rintro l o0 ⟨rfl,i0,i1⟩;have i2:ZH0 _:=i0;have i3:ZH0 _:=i1;clear i0 i1 e4 n7 n8 d7 e3 n9;go_wp2_with fail;refine(n3.o o0 e i2.o).mono ?_;rintro l o1 ⟨rfl,i4,i5⟩;have e5:ZH0 _:=i4;have i6:ZH0 _:=i3.o.kept i5;clear i4 i5 i2 i3;go_wp2_with fail;refine(g8.o o1 e e5.o).mono ?_;rintro l I ⟨Y,i7,i8,a0,rfl,y,z,A,S,_,C,b0,b1,_,e6⟩;obtain⟨b2,a1,e7⟩:=cZ I Y y z;unfold snN at b2 a1 e7;have c4:ZH0 (Kept I ((I.alloc (Obj.cells #[.int .i64 0,.int .i64 0,.bool false,.int .i64 0,.int .i64 0,.int .i64 0,.int .i64 0,.int .i64 0,.slice none 0 0,.slice none 0 0,.slice none 0 0] 50)).setCells I.heap.size 0 Y)):=e7;have i9:ZH0 _:=b1;have j0:ZH0 _:=i6.o.kept e6;have j1:ZH0 (Kept w I):=d5.o.trans (e5.o.kept.trans e6);have o2:ZH0 _:=b0;replace y:ZH0 _:=y;replace z:ZH0 _:=z;have G:=U a1;replace A:ZH0 _:=A;replace S:ZH0 _:=S;replace C:ZH0 _:=C;clear e7 a1 b1 e6 b0 e5 i6;go_upto_region 22 with fail
   generalize ((I.alloc (Obj.cells #[.int .i64 0,.int .i64 0,.bool false,.int .i64 0,.int .i64 0,.int .i64 0,.int .i64 0,.int .i64 0,.slice none 0 0,.slice none 0 0,.slice none 0 0] 50)).setCells I.heap.size 0 Y)=a7 at *;clear b2;have e8:=G.o 0 _ A.o;have o3:=G.o 9 _ C.o;obtain⟨o4,j2⟩:=h8.o a7 (j0.o.kept c4.o);have j3:ZH0 (Calls prog 27 #[.slice a9 m g,.slice i7 i8 a0] a7 λk T=>k=.returned (.bool true)/\Kept a7 T):=by
    have:=bY a9 i7 m i8 g a0 (pxL i) (pxL i) a7 h7.o o2.o j2 (i9.o.kept c4.o) g9 g9
    rw[decide_eq_true rfl] at this;exact this
   have j4:ZH0 (Kept w a7):=j1.o.trans c4.o;have j5:ZH0 (∀j,Kept a7 j->j.cell? ⟨I.heap.size,0,none⟩=some (.int .i64 i.err)):=λj r=>(r.cell (p:=⟨I.heap.size,0,none⟩) (B _ _ e8)).trans e8
   clear j2 h8 j0 i9 c4 G A S C y z j1;go_wp2_with fail;refine j3.o.mono ?_;rintro l j6 ⟨rfl,e9⟩;have r2:=j5.o j6 e9;have o5:ZH0 (Kept w j6):=j4.o.trans e9;clear e9 e8 o3 o4 j4 j3 j5;go_wp2;go_ret;exact⟨rfl,o5.o⟩
theorem rT a b i j s t u v w(A : -9223372036854775808<=a)(B:a<9223372036854775808)(C : -9223372036854775808<=b)(D:b<9223372036854775808)(l:s.size<9223372036854775808)(m:t.size<9223372036854775808)(n:u.size<9223372036854775808)(o:v.size<9223372036854775808)(E : -9223372036854775808<=i)(F:i<9223372036854775808)(G : -9223372036854775808<=j)(H:j<9223372036854775808)(p:aV w)(q:dN w):Calls prog 5 #[.int .i64 a,.string s,.string t,.int .i64 b,.string u,.string v,.int .i64 i,.int .i64 j] w λc g=>c=.returned (.bool true)/\Kept w g:=by
 have I:ZH0 (∀d:World,Calls prog 10 #[.string s,.string t,.string u,.string v] d λc g=>c=.returned (.bool (decide (65536<s.size\/65536<t.size\/65536<u.size\/65536<v.size)))/\g=d):=λd=>fY s t u v d l m n o
 have J:=U (fL a b s t u v w A B C D l m n o p);generalize decide (65536<s.size\/65536<t.size\/65536<u.size\/65536<v.size)=c0 at *;have K:ZH0 _:=q;clear p q;go_enter func5,ntmps5;go_wp2_with fail;refine J.o.mono ?_;rintro c h ⟨L|⟨_,M,N,O,P,Q,R,S,T,Z,V,W,X,Y,a0,a1,a2,a3,a4,a5,a6,a7,a8,a9,b0,b1,b2,b3,b4,rfl,b5,c1,r,x,y⟩,e⟩
 .obtain⟨rfl,rfl⟩:=L
  have f:ZH0 (Kept w h):=e;clear e;go_wp2_with fail;refine(I.o _).mono ?_;rintro c k ⟨rfl,c2⟩;subst k;go_wp2;go_ret;exact⟨rfl,f.o⟩
 .have f:ZH0 (Kept w h):=e
  have b6:ZH0 _:=r;have b7:=U x;have b8:ZH0 _:=y;clear e r x y;go_wp2_with fail;refine(yO M N O P Q R S T Z i j V W X Y a0 a1 a2 a3 a4 a5 a6 a7 a8 a9 b0 b1 b2 b3 b4 h b6.o b5 b7.o b8.o (K.o.kept f.o) E F G H).mono ?_;rintro c k ⟨rfl,z⟩;have b9:ZH0 (Kept w k):=f.o.trans z;clear z;go_wp2;go_ret;exact⟨rfl,b9.o⟩
