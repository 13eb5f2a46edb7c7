import Derived.Test.YtbedkdnphobmlaaGreatDoorProg
import Derived.Test.YtbedkdnphobmlaaGreatDoorUaa00
import Derived.Test.YtbedkdnphobmlaaGreatDoorUaa01
import Derived.Test.YtbedkdnphobmlaaGreatDoorUaa04
import Derived.Test.YtbedkdnphobmlaaGreatDoorUaa07
import Derived.Test.YtbedkdnphobmlaaGreatDoorUaa09
import Derived.Test.YtbedkdnphobmlaaGreatDoorUaa13
import Derived.Test.YtbedkdnphobmlaaGreatDoorUaa14
import Derived.Test.YtbedkdnphobmlaaGreatDoorUaa16
import Derived.Test.YtbedkdnphobmlaaGreatDoorUaa17
import Derived.Test.YtbedkdnphobmlaaGreatDoorUaa18
import Derived.Test.YtbedkdnphobmlaaGreatDoorUaa19
import Derived.Test.YtbedkdnphobmlaaGreatDoorUaa23
import Derived.Test.YtbedkdnphobmlaaGreatDoorUaa27
import Derived.Test.YtbedkdnphobmlaaGreatDoorUaa33
import Derived.Test.YtbedkdnphobmlaaGreatDoorUaa34
import Derived.Test.YtbedkdnphobmlaaGreatDoorUab00
import Derived.Test.YtbedkdnphobmlaaGreatDoorUae00
import Derived.Test.YtbedkdnphobmlaaGreatDoorUae01
set_option linter.all false
set_option maxRecDepth 100000
set_option maxHeartbeats 0
namespace Go.Proofs.YtbedkdnphobmlaaGreatDoor
open Go.RowKit Px Tryz
theorem zm b n c d w(e:Blk w b n c)(f:DcV c 0 d)(q:5957<=n)(r:d.err=0)(s:d.file.part≠5):Calls prog 23 #[.pointer (some ⟨b,0,none⟩)] w λa j=>a=.returned (.tuple #[.int .i64 23,.int .i64 d.count])/\gO b n {d with err:=23,at1:=d.count} w j:=by
 have k:=e.at (i:=5955) O f.err;rw[r] at k;have t:Z (Calls prog 41 #[.pointer (some ⟨b,0,none⟩)] w λa j=>a=.returned (.bool false)/\j=w):=by
  have:=gi b 0 n c d.file w e f.file O
  rw[J s] at this;exact this
 have u:=U (Bn b n 23 c d w e f q);clear e f;go_enter func23,ntmps23;go_wp2_with fail;refine t.o.mono ?_;rintro a v ⟨rfl,B⟩;subst v;go_wp2_with fail;refine u.o.mono ?_;rintro a l ⟨rfl,x,g,h,m⟩;have o:=g.at (i:=5955) O h.err;have p:=g.at (i:=5956) O h.at1;replace o:l.cell? ⟨b,5955,none⟩=some (.int .i64 23):=o;replace p:l.cell? ⟨b,5956,none⟩=some (.int .i64 d.count):=p;have y:Z _:=g;have z:Z _:=h;have A:Z _:=m;clear g h m k;go_wp2_with fail;go_quiet (fail);go_wp2;go_ret2;exact⟨rfl,x,y.o.kept ((Kept.refl _).drewN _),z.o,A.o.kept ((Kept.refl _).drewN _)⟩
structure DI (w W:World) (g:Nat) (d:Dc):Prop where
 kept:Kept w W
 pos:0<w.heap.size
 lo:w.heap.size<=g
 ex:∃c,Blk W g 5957 c/\DcV c 0 d
theorem DI.step{w W W' g d d'}(h:DI w W g d)(k:gO g 5957 d' W W'):DI w W' g d':=by
 obtain⟨a,b,c,e⟩:=k;have f:=h.lo;exact⟨Fr.to_kept h.kept e (λi j l=>O),h.pos,h.lo,a,b,c⟩
theorem jL{w W}(h:Kept w W)(d:0<w.heap.size):Calls prog 21 #[] W λa b=>∃c,a=.returned (.pointer (some ⟨c,0,none⟩))/\DI w b c dc0:=by
 refine(Ay W).mono ?_;rintro a b ⟨rfl,e,f,g,i⟩;exact⟨_,rfl,h.trans i,d,h.size,e,f,g⟩
theorem fK{w W g d}t(h:DI w W g d)(e:bm d (aj t))(f:t.size<=2147483648)(a:bw w):Calls prog 22 #[.pointer (some ⟨g,0,none⟩),.string t] W λb c=>b=.returned (.tuple #[.int .i64 ((d.feed (aj t)).err:Int),.int .i64 ((d.feed (aj t)).at1:Int)])/\DI w c g (d.feed (aj t)):=by
 obtain⟨i,j,k⟩:=h.ex;refine(nK g 5957 t i d W j k (E _) e f (a.kept h.kept) (a.new h.lo)).mono ?_;rintro b c ⟨rfl,l⟩;exact⟨rfl,h.step l⟩
theorem Eg{w W g d}(h:DI w W g d)(c:d.err=0)(e:d.file.part≠5):Calls prog 23 #[.pointer (some ⟨g,0,none⟩)] W λa b=>a=.returned (.tuple #[.int .i64 23,.int .i64 d.count])/\DI w b g {d with err:=23,at1:=d.count}:=by
 obtain⟨f,i,j⟩:=h.ex;refine(zm g 5957 f d W i j (E _) c e).mono ?_;rintro a b ⟨rfl,k⟩;exact⟨rfl,h.step k⟩
def SnA(W:World)(E A:Nat)(DN:Bool)(e:Ending)(W':World):Prop:=∃cs:List Value,e=.returned (.agg cs.toArray)/\cs.length=11/\(∀v∈cs,v.oneCell'=true)/\cs[0]? = some (.int .i64 (E:Int))/\cs[1]? = some (.int .i64 (A:Int))/\cs[2]? = some (.bool DN)/\Kept W W'
structure cC (s:Rd):Prop where
 hd:lB s
 clear:∀j,s.tl.clear j<256
 sm:SmI s
theorem uB{w W g d}(h:DI w W g d)(a:cC d.file)(f:aS w):Calls prog 24 #[.pointer (some ⟨g,0,none⟩)] W (SnA W d.err d.at1 (decide (d.err=0)&&decide (d.file.part=5))):=by
 obtain⟨i,j,c⟩:=h.ex;refine(zW g 5957 i d W j c (E _) ?_ (f.kept h.kept)).mono ?_
 .by_cases e:d.file.hd.W=0
  .exact L e
  .refine R ⟨c.file.rw,c.file.tl,O,O,a.clear,a.sm.1,a.hd.K,O,a.hd.W,?_,a.hd.H,a.hd.L⟩
   rcases a.sm.2 with b|b
   .exact absurd b e
   .exact b
 .rintro b r ⟨k,rfl,l,m,n,o,p,q⟩
  exact⟨k,rfl,l,m,n,o,p,q⟩
theorem jn{d}(h:d.err≠0)l:bm d l:=by
 intro b c _ a;rw[dw h] at a;exact absurd a h
theorem D1{W H D K L P V pal clr pix fl kl cl s}(h:dp W H D K L P V pal clr pix fl kl s)(f:cu W H K D pal clr pix)(g:rG L P V fl kl cl)k(i:k<s.size):∃a,bm dc0 (aj (s.extract 0 k))/\dc0.feed (aj (s.extract 0 k))=⟨a,k,0,0⟩/\a.part≠5/\cC a:=by
 obtain⟨o,j,p,q,r,t⟩:=ij h f g;have u:=(bM h).2;obtain⟨a,b,l,c,m⟩:=kK j k (by rw[aF];exact i);have n:aj (s.extract 0 k)=(aj s).take k:=by rw[cM,List.drop_zero,Nat.sub_zero]
 have e:((aj s).take k).length=k:=by rw[Yd,aF];omega
 rw[n];refine⟨a,Rn.ok (d:=dc0) b rfl (by rw[e];show 0+k<=_;omega),?_,l,c.hd,c.clear,m⟩;rw[Rn.feed (d:=dc0) b rfl,e];show(⟨a,0+k,0,0⟩:Dc)=_
 rw[XD]
theorem AZ x wd H K D L P V Z e pp qp xp fp kp cp pc qc xc fc kc cc pal clr pix fl kl cl ff w(h:Dk w x wd H K D L P V Z pp qp xp fp kp cp pc qc xc fc kc cc pal clr pix fl kl cl)(b6:4<x)(n:dp wd H D K L P V pal clr pix fl kl ff)(o:w.cell? ⟨x,14,none⟩=some (.string ff))(a0 : -9223372036854775808<=e)(a1:e<9223372036854775808):Calls prog 14 #[.pointer (some ⟨x,0,none⟩),.int .i64 e] w λg a2=>g=.returned (.bool true)/\Kept w a2:=by
 have a3:0<w.heap.size:=by have:=h.grid.lt;omega
 obtain⟨b7,b8⟩:=bM n;have E:ZH0 (∀a,a<ff.size->∃e,bm dc0 (aj (ff.extract 0 a))/\dc0.feed (aj (ff.extract 0 a))=⟨e,a,0,0⟩/\e.part≠5/\cC e):=λa q=>D1 n h.im h.ch a q
 have F:ZH0 (∀c,Kept w c->c.cell? ⟨x,14,none⟩=some (.string ff)):=λc a=>(a.cell (p:=⟨x,14,none⟩) (B _ _ o)).trans o
 have r:ZH0 _:=(gJ h.grid);clear h n;go_enter func14,ntmps14;go_wp2_with fail;refine(dO e ff.size w a0 a1 O O).mono ?_;rintro g a4 ⟨⟨a,q,rfl⟩,b9⟩;subst a4;obtain⟨f,G,I,J,M⟩:=E.o a q;have c0:(a:Int)<=(ff.size:Int):=O;have c1:(0:Int)<=(a:Int):=O;have a5:ZH0 (∀c b,DI w c b dc0->Calls prog 22 #[.pointer (some ⟨b,0,none⟩),.string (ff.extract 0 a)] c λj k=>j=.returned (.tuple #[.int .i64 0,.int .i64 0])/\DI w k b ⟨f,a,0,0⟩):=λc b i=>by
  have:=fK (ff.extract 0 a) i G (by rw[ByteArray.size_extract];omega) r.o
  rw[I] at this;exact this
 have a6:ZH0 (∀c b,DI w c b ⟨f,a,0,0⟩->Calls prog 23 #[.pointer (some ⟨b,0,none⟩)] c λj k=>j=.returned (.tuple #[.int .i64 23,.int .i64 a])/\DI w k b ⟨f,a,23,a⟩):=λc b i=>Eg i rfl J
 have a7:ZH0 (∀c b,DI w c b ⟨f,a,23,a⟩->Calls prog 22 #[.pointer (some ⟨b,0,none⟩),.string (ff.extract a ff.size)] c λj k=>j=.returned (.tuple #[.int .i64 23,.int .i64 a])/\DI w k b ⟨f,a,23,a⟩):=λc b i=>by
  have N:(⟨f,a,23,a⟩:Dc).err≠0:=by show(23:Nat)≠0;decide
  have:=fK (ff.extract a ff.size) i (jn N _) (by rw[ByteArray.size_extract];omega) r.o
  rw[dw N] at this;exact this
 have a8:ZH0 (∀c b,DI w c b ⟨f,a,23,a⟩->Calls prog 24 #[.pointer (some ⟨b,0,none⟩)] c (SnA c 23 a false)):=λc b i=>uB (d:=⟨f,a,23,a⟩) i M r.o.grd
 clear G I J M E;go_wp2_with fail;refine(jL (Kept.refl _) a3).mono ?_;rintro g Q ⟨b,rfl,s⟩;have a9:=F.o Q s.kept;have R:ZH0 _:=s;clear s o;go_wp2_with fail;refine(a5.o Q b R.o).mono ?_;rintro g b0 ⟨rfl,S⟩;have T:ZH0 _:=S;clear S R a9;go_wp2_with fail;refine(a6.o b0 b T.o).mono ?_;rintro g U ⟨rfl,t⟩;have b1:=F.o U t.kept;have W:ZH0 _:=t;clear t T;go_wp2_with fail;refine(a7.o U b W.o).mono ?_;rintro g b2 ⟨rfl,X⟩;have u:ZH0 _:=X;clear X W b1;go_wp2_with fail;refine(a8.o b2 b u.o).mono ?_;rintro g v ⟨Y,rfl,y,z,_,_,A,C⟩;obtain⟨b3,l,m⟩:=cZ v Y y z;unfold snN at b3 l m;have b4:ZH0 (Kept w ((v.alloc (Obj.cells #[.int .i64 0,.int .i64 0,.bool false,.int .i64 0,.int .i64 0,.int .i64 0,.int .i64 0,.int .i64 0,.slice none 0 0,.slice none 0 0,.slice none 0 0] 50)).setCells v.heap.size 0 Y)):=(u.o.kept.trans C).trans m;have b5:=l 2 _ A;rw[XD] at b5;replace y:ZH0 _:=y;replace z:ZH0 _:=z;replace A:ZH0 _:=A;replace l:ZH0 _:=l;replace m:ZH0 _:=m;replace C:ZH0 _:=C;clear u;go_wp2;go_ret;exact⟨rfl,b4.o⟩
theorem uF a b i s t u v w(y : -9223372036854775808<=a)(z:a<9223372036854775808)(A : -9223372036854775808<=b)(B:b<9223372036854775808)(k:s.size<9223372036854775808)(l:t.size<9223372036854775808)(m:u.size<9223372036854775808)(n:v.size<9223372036854775808)(C : -9223372036854775808<=i)(D:i<9223372036854775808)(o:aV w):Calls prog 6 #[.int .i64 a,.string s,.string t,.int .i64 b,.string u,.string v,.int .i64 i] w λc f=>c=.returned (.bool true)/\Kept w f:=by
 have E:ZH0 (∀d:World,Calls prog 10 #[.string s,.string t,.string u,.string v] d λc f=>c=.returned (.bool (decide (65536<s.size\/65536<t.size\/65536<u.size\/65536<v.size)))/\f=d):=λd=>fY s t u v d k l m n
 have F:=U (fL a b s t u v w y z A B k l m n o);generalize decide (65536<s.size\/65536<t.size\/65536<u.size\/65536<v.size)=b5 at *;clear o;go_enter func6,ntmps6;go_wp2_with fail;refine F.o.mono ?_;rintro c g ⟨G|⟨_,H,I,J,K,L,M,N,O,Z,P,Q,R,S,T,V,W,X,Y,a0,a1,a2,a3,a4,a5,a6,a7,a8,a9,rfl,b0,b6,p,q,r⟩,e⟩
 .obtain⟨rfl,rfl⟩:=G
  have h:ZH0 (Kept w g):=e;clear e;go_wp2_with fail;refine(E.o _).mono ?_;rintro c j ⟨rfl,b7⟩;subst j;go_wp2;go_ret;exact⟨rfl,h.o⟩
 .have h:ZH0 (Kept w g):=e
  have b1:ZH0 _:=p;have b2:=U q;have b3:ZH0 _:=r;clear e p q r;go_wp2_with fail;refine(AZ H I J K L M N O Z i P Q R S T V W X Y a0 a1 a2 a3 a4 a5 a6 a7 a8 a9 g b1.o b0 b2.o b3.o C D).mono ?_;rintro c j ⟨rfl,x⟩;have b4:ZH0 (Kept w j):=h.o.trans x;clear x;go_wp2;go_ret;exact⟨rfl,b4.o⟩
