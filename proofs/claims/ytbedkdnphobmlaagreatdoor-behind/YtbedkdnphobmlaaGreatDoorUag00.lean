import Derived.Test.YtbedkdnphobmlaaGreatDoorProg
import Derived.Test.YtbedkdnphobmlaaGreatDoorUaa00
import Derived.Test.YtbedkdnphobmlaaGreatDoorUaa01
import Derived.Test.YtbedkdnphobmlaaGreatDoorUaa02
import Derived.Test.YtbedkdnphobmlaaGreatDoorUaa04
import Derived.Test.YtbedkdnphobmlaaGreatDoorUaa07
import Derived.Test.YtbedkdnphobmlaaGreatDoorUaa09
import Derived.Test.YtbedkdnphobmlaaGreatDoorUaa12
import Derived.Test.YtbedkdnphobmlaaGreatDoorUaa13
import Derived.Test.YtbedkdnphobmlaaGreatDoorUaa14
import Derived.Test.YtbedkdnphobmlaaGreatDoorUaa15
import Derived.Test.YtbedkdnphobmlaaGreatDoorUaa16
import Derived.Test.YtbedkdnphobmlaaGreatDoorUaa17
import Derived.Test.YtbedkdnphobmlaaGreatDoorUaa18
import Derived.Test.YtbedkdnphobmlaaGreatDoorUaa19
import Derived.Test.YtbedkdnphobmlaaGreatDoorUaa23
import Derived.Test.YtbedkdnphobmlaaGreatDoorUaa27
import Derived.Test.YtbedkdnphobmlaaGreatDoorUaa33
import Derived.Test.YtbedkdnphobmlaaGreatDoorUaa34
import Derived.Test.YtbedkdnphobmlaaGreatDoorUab00
import Derived.Test.YtbedkdnphobmlaaGreatDoorUae00
import Derived.Test.YtbedkdnphobmlaaGreatDoorUae01
set_option linter.all false
set_option maxRecDepth 100000
set_option maxHeartbeats 0
namespace Go.Proofs.YtbedkdnphobmlaaGreatDoor
open Go.RowKit Px Tryz
structure DI (w W:World) (g:Nat) (d:Dc):Prop where
 kept:Kept w W
 pos:0<w.heap.size
 lo:w.heap.size<=g
 ex:∃c,Blk W g 5957 c/\DcV c 0 d
theorem DI.on{w W W' g d}(h:DI w W g d)(k:Kept W W'):DI w W' g d:=by
 obtain⟨a,b,c⟩:=h.ex;exact⟨h.kept.trans k,h.pos,h.lo,a,b.kept k,c⟩
theorem DI.step{w W W' g d d'}(h:DI w W g d)(k:gO g 5957 d' W W'):DI w W' g d':=by
 obtain⟨a,b,c,e⟩:=k;have f:=h.lo;exact⟨Fr.to_kept h.kept e (λi j l=>O),h.pos,h.lo,a,b,c⟩
theorem jL{w W}(h:Kept w W)(d:0<w.heap.size):Calls prog 21 #[] W λa b=>∃c,a=.returned (.pointer (some ⟨c,0,none⟩))/\DI w b c dc0:=by
 refine(Ay W).mono ?_;rintro a b ⟨rfl,e,f,g,i⟩;exact⟨_,rfl,h.trans i,d,h.size,e,f,g⟩
theorem fK{w W g d}t(h:DI w W g d)(e:bm d (aj t))(f:t.size<=2147483648)(a:bw w):Calls prog 22 #[.pointer (some ⟨g,0,none⟩),.string t] W λb c=>b=.returned (.tuple #[.int .i64 ((d.feed (aj t)).err:Int),.int .i64 ((d.feed (aj t)).at1:Int)])/\DI w c g (d.feed (aj t)):=by
 obtain⟨i,j,k⟩:=h.ex;refine(nK g 5957 t i d W j k (E _) e f (a.kept h.kept) (a.new h.lo)).mono ?_;rintro b c ⟨rfl,l⟩;exact⟨rfl,h.step l⟩
def SnA(W:World)(E A:Nat)(DN:Bool)(e:Ending)(W':World):Prop:=∃cs:List Value,e=.returned (.agg cs.toArray)/\cs.length=11/\(∀v∈cs,v.oneCell'=true)/\cs[0]? = some (.int .i64 (E:Int))/\cs[1]? = some (.int .i64 (A:Int))/\cs[2]? = some (.bool DN)/\Kept W W'
structure cC (s:Rd):Prop where
 hd:lB s
 clear:∀j,s.tl.clear j<256
 sm:SmI s
theorem uB{w W g d}(h:DI w W g d)(a:cC d.file)(f:aS w):Calls prog 24 #[.pointer (some ⟨g,0,none⟩)] W (SnA W d.err d.at1 (decide (d.err=0)&&decide (d.file.part=5))):=by
 obtain⟨i,j,c⟩:=h.ex;refine(zW g 5957 i d W j c (E _) ?_ (f.kept h.kept)).mono ?_
 .by_cases e:d.file.hd.W=0
  .exact L e
  .refine R ⟨c.file.rw,c.file.tl,O,O,a.clear,a.sm.1,a.hd.K,O,a.hd.W,?_,a.hd.H,a.hd.L⟩
   rcases a.sm.2 with b|b
   .exact absurd b e
   .exact b
 .rintro b r ⟨k,rfl,l,m,n,o,p,q⟩
  exact⟨k,rfl,l,m,n,o,p,q⟩
theorem kO(s:Rd)x:(s.keep x).1.part=s.part:=by
 unfold Rd.keep;split
 .rfl
 .split
  .rfl
  .split
   .rfl
   .split
    .unfold Rd.takeStream
     split
     .rfl
     .split
      .rfl
      .rfl
    .rfl
theorem tR(s:Rd):s.accept.1.part=s.part/\s.accept.1.sum=s.sum:=by
 unfold Rd.accept;split
 .unfold Rd.acceptHead
  split
  .exact⟨rfl,rfl⟩
  .exact⟨rfl,rfl⟩
 .split
  .exact⟨rfl,rfl⟩
  .exact⟨rfl,rfl⟩
theorem Bi{a x}(k:cB a x)(c:(a.take x).2=0)(b:(a.take x).1.part=5):(a.take x).1.taken=0/\(a.take x).1.sum<4294967296:=by
 have p:=EK c;have q:=k.part;unfold Rd.take at c b ⊢;by_cases f:a.part=0
 .rw[I f] at b
  exfalso
  unfold Rd.takeSign at b
  split at b
  .replace b:a.part=5:=b;omega
  .split at b
   .exact absurd (show(1:Nat)=5 from b) Xh
   .replace b:a.part=5:=b;omega
 rw[N f] at c b ⊢;by_cases g:a.part=1
 .rw[I g] at b
  exfalso
  unfold Rd.takeLength at b
  split at b
  .replace b:a.part=5:=b;omega
  .split at b
   .replace b:a.part=5:=b;omega
   .exact absurd (show(2:Nat)=5 from b) Xh
 rw[N g] at c b ⊢;by_cases h:a.part=2
 .rw[I h] at b
  exfalso
  unfold Rd.takeType at b
  split at b
  .replace b:a.part=5:=b;omega
  .split at b
   .replace b:a.part=5:=b;omega
   .split at b
    .exact absurd (show(4:Nat)=5 from b) Xh
    .exact absurd (show(3:Nat)=5 from b) Xh
 rw[N h] at c b ⊢;by_cases d:a.part=3
 .rw[I d] at b
  exfalso
  have r:=(kO (a.summed x) x).trans d;unfold Rd.takeData at b
  split at b
  .omega
  .replace b:((a.summed x).keep x).1.dataEnd.part=5:=b
   unfold Rd.dataEnd at b
   split at b
   .exact absurd (show(4:Nat)=5 from b) Xh
   .replace b:((a.summed x).keep x).1.part=5:=b;omega
 rw[N d] at c b ⊢;have m:a.part=4:=O;rw[I m] at c b ⊢;have n:=tR (a.num x);have o:(a.num x).accept.1.sum<4294967296:=by rw[n.2];exact k.sum
 unfold Rd.takeSum at c b ⊢;by_cases i:a.taken+1≠4
 .rw[I i] at b
  replace b:a.part=5:=b;omega
 rw[N i] at c b ⊢;by_cases j:a.number*256+x≠aC a.sum
 .rw[I j] at b
  replace b:a.part=5:=b;omega
 rw[N j] at c b ⊢;by_cases e:(a.num x).accept.2≠0
 .rw[I e] at c
  exact absurd c e
 rw[N e] at c b ⊢;by_cases l:(a.num x).accept.1.ctype=aJ
 .rw[I l]
  exact⟨rfl,o⟩
 .rw[N l] at b
  exact absurd (show(1:Nat)=5 from b) Xh
theorem Ib{l b}(h:Rn rd0 l b)(d:b.part=5)(e:aZ b)y:cB b y:=by
 have m:0<l.length:=by
  rcases Nat.eq_zero_or_pos l.length with a|a
  .have:l=[]:=List.length_eq_zero_iff.1 a
   subst this;have c:rd0=b:=h;rw[<-c] at d;exact absurd (show(0:Nat)=5 from d) Xh
  .exact a
 obtain⟨i,n,j,k,g⟩:=h.at (l.length-1) l[l.length-1] (Xt O);rw[show l.length-1+1=l.length from O,List.drop_length] at g;have c:(i.take l[l.length-1]).1=b:=g;have f:=Bi j k (by rw[c];exact d);rw[c] at f;exact⟨O,λ_=>by rw[f.1];omega,λa=>O,f.2,λa=>O,e.hd,λa=>O,λa=>O,e.raw,e.clear⟩
theorem yf{b:Rd}(a:b.part=5)y:b.take y=(b,22):=by
 unfold Rd.take;rw[N,N,N,N,N]
theorem Bm{W H D K L P V pal clr pix fl kl cl s}(h:dp W H D K L P V pal clr pix fl kl s)(j:cu W H K D pal clr pix)(k:rG L P V fl kl cl):∃a,bm dc0 (aj s)/\dc0.feed (aj s)=⟨a,s.size,0,0⟩/\cC a/\∀b,bm ⟨a,s.size,0,0⟩ [b]/\(⟨a,s.size,0,0⟩:Dc).feed [b]=⟨a,s.size,22,s.size⟩:=by
 obtain⟨a,c,f,q,r,e⟩:=ij h j k;have t:=(bM h).2;have g:=aF s;refine⟨a,Rn.ok (d:=dc0) c rfl (by rw[g];show 0+s.size<=_;omega),?_,⟨e.hd,e.clear,c.smI yp⟩,λb=>⟨?_,?_⟩⟩
 .rw[Rn.feed (d:=dc0) c rfl,g]
  show(⟨a,0+s.size,0,0⟩:Dc)=_
  rw[XD]
 .intro l m i _
  have n:l=0:=by
   have:=(Yb.1 i).1
   simp at this;exact this
  subst n;have o:b=m:=by simpa using i
  subst o;exact⟨Ib c f e b,by show s.size<=4294967296;omega⟩
 .show Dc.one ⟨a,s.size,0,0⟩ b=_
  unfold Dc.one;rw[N (show ¬((0:Nat)≠0) from λp=>p rfl),yf f,I (show((a,22):Rd×Nat).2≠0 from by show(22:Nat)≠0;decide)]
theorem yQ x wd H K D L P V Z a pp qp xp fp kp cp pc qc xc fc kc cc pal clr pix fl kl cl ff w(h:Dk w x wd H K D L P V Z pp qp xp fp kp cp pc qc xc fc kc cc pal clr pix fl kl cl)(b7:4<x)(n:dp wd H D K L P V pal clr pix fl kl ff)(o:w.cell? ⟨x,14,none⟩=some (.string ff)):Calls prog 15 #[.pointer (some ⟨x,0,none⟩),.int .i64 a] w λf a1=>f=.returned (.bool true)/\Kept w a1:=by
 have a2:0<w.heap.size:=by have:=h.grid.lt;omega
 obtain⟨b8,b9⟩:=bM n;obtain⟨g,I,J,M,q⟩:=Bm n h.im h.ch;have N:ZH0 (∀c,Kept w c->c.cell? ⟨x,14,none⟩=some (.string ff)):=λc a3=>(a3.cell (p:=⟨x,14,none⟩) (B _ _ o)).trans o
 have r:ZH0 _:=(gJ h.grid);have a4:ZH0 (∀c b,DI w c b dc0->Calls prog 22 #[.pointer (some ⟨b,0,none⟩),.string ff] c λi s=>i=.returned (.tuple #[.int .i64 0,.int .i64 0])/\DI w s b ⟨g,ff.size,0,0⟩):=λc b j=>by
  have:=fK ff j I O r.o
  rw[J] at this;exact this
 have a5:ZH0 (∀c b e,e.size=1->DI w c b ⟨g,ff.size,0,0⟩->Calls prog 22 #[.pointer (some ⟨b,0,none⟩),.string e] c λi s=>i=.returned (.tuple #[.int .i64 22,.int .i64 ff.size])/\DI w s b ⟨g,ff.size,22,ff.size⟩):=λc b e a6 j=>by
  obtain⟨k,Q⟩:∃k,aj e=[k]:=List.length_eq_one_iff.1 (by rw[aF];exact a6)
  have:=fK e j (by rw[Q];exact(q k).1) O r.o
  rw[Q,(q k).2] at this;exact this
 have a7:ZH0 (∀c b,DI w c b ⟨g,ff.size,22,ff.size⟩->Calls prog 24 #[.pointer (some ⟨b,0,none⟩)] c (SnA c 22 ff.size false)):=λc b j=>uB (d:=⟨g,ff.size,22,ff.size⟩) j M r.o.grd
 clear I J M q h n;go_enter func15,ntmps15;go_wp2_with fail;refine(jL (Kept.refl _) a2).mono ?_;rintro f R ⟨b,rfl,t⟩;have a8:=N.o R t.kept;have S:ZH0 _:=t;clear t o;go_wp2_with fail;refine(a4.o R b S.o).mono ?_;rintro f T ⟨rfl,U⟩;have W:ZH0 _:=U;clear U S a8;have a9:=run_convert_bytes_arg (P:=prog) (T.alloc (Obj.cells #[.int .u8 (a%256)] 5)) 56 5 underlying56 underlying5 T.heap.size 0 1 1 [a%256] rfl (λb0 b1=>by
  have i:b0=0:=by simpa using b1
  subst i;rw[Xr _ _ _ _ rfl];rfl) 9 underlying9
 obtain⟨u,v⟩:∃e,e=strOfNums [a%256]:=⟨_,rfl⟩;have b2:ZH0 (u.size=1):=by show u.size=1;rw[v,strOfNums_size];rfl
 rw[<-v] at a9;clear v;go_wp2_with fail;refine(a5.o _ b u b2.o ((λb3=>W.o.on ((Xs _ _).alloc (E _) b3)) _)).mono ?_;rintro f b4 ⟨rfl,X⟩;have y:ZH0 _:=X;clear X W;go_wp2_with fail;refine(a7.o b4 b y.o).mono ?_;rintro f z ⟨Y,rfl,A,C,_,_,F,G⟩;obtain⟨b5,l,m⟩:=cZ z Y A C;unfold snN at b5 l m;have a0:ZH0 (Kept w ((z.alloc (Obj.cells #[.int .i64 0,.int .i64 0,.bool false,.int .i64 0,.int .i64 0,.int .i64 0,.int .i64 0,.int .i64 0,.slice none 0 0,.slice none 0 0,.slice none 0 0] 50)).setCells z.heap.size 0 Y)):=(y.o.kept.trans G).trans m;have b6:=l 2 _ F;rw[XD] at b6;have c0:=N.o _ a0.o;replace A:ZH0 _:=A;replace C:ZH0 _:=C;replace F:ZH0 _:=F;replace l:ZH0 _:=l;replace m:ZH0 _:=m;replace G:ZH0 _:=G;clear y;go_wp2;go_ret;exact⟨rfl,a0.o⟩
theorem tK a b i s t u v w(y : -9223372036854775808<=a)(z:a<9223372036854775808)(A : -9223372036854775808<=b)(B:b<9223372036854775808)(k:s.size<9223372036854775808)(l:t.size<9223372036854775808)(m:u.size<9223372036854775808)(n:v.size<9223372036854775808)(b3 : -9223372036854775808<=i)(b4:i<9223372036854775808)(o:aV w):Calls prog 7 #[.int .i64 a,.string s,.string t,.int .i64 b,.string u,.string v,.int .i64 i] w λc f=>c=.returned (.bool true)/\Kept w f:=by
 have C:ZH0 (∀d:World,Calls prog 10 #[.string s,.string t,.string u,.string v] d λc f=>c=.returned (.bool (decide (65536<s.size\/65536<t.size\/65536<u.size\/65536<v.size)))/\f=d):=λd=>fY s t u v d k l m n
 have D:=U (fL a b s t u v w y z A B k l m n o);generalize decide (65536<s.size\/65536<t.size\/65536<u.size\/65536<v.size)=b5 at *;clear o;go_enter func7,ntmps7;go_wp2_with fail;refine D.o.mono ?_;rintro c g ⟨E|⟨_,F,G,H,I,J,K,L,M,Z,N,O,P,Q,R,S,T,V,W,X,Y,a0,a1,a2,a3,a4,a5,a6,a7,rfl,a8,b6,p,q,r⟩,e⟩
 .obtain⟨rfl,rfl⟩:=E
  have h:ZH0 (Kept w g):=e;clear e;go_wp2_with fail;refine(C.o _).mono ?_;rintro c j ⟨rfl,b7⟩;subst j;go_wp2;go_ret;exact⟨rfl,h.o⟩
 .have h:ZH0 (Kept w g):=e
  have a9:ZH0 _:=p;have b0:=U q;have b1:ZH0 _:=r;clear e p q r;go_wp2_with fail;refine(yQ F G H I J K L M Z i N O P Q R S T V W X Y a0 a1 a2 a3 a4 a5 a6 a7 g a9.o a8 b0.o b1.o).mono ?_;rintro c j ⟨rfl,x⟩;have b2:ZH0 (Kept w j):=h.o.trans x;clear x;go_wp2;go_ret;exact⟨rfl,b2.o⟩
