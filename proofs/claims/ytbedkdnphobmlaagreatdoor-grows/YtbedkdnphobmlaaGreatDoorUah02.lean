import Derived.Test.YtbedkdnphobmlaaGreatDoorProg
import Derived.Test.YtbedkdnphobmlaaGreatDoorUaa00
import Derived.Test.YtbedkdnphobmlaaGreatDoorUaa01
import Derived.Test.YtbedkdnphobmlaaGreatDoorUaa07
import Derived.Test.YtbedkdnphobmlaaGreatDoorUaa09
import Derived.Test.YtbedkdnphobmlaaGreatDoorUaa13
import Derived.Test.YtbedkdnphobmlaaGreatDoorUaa14
import Derived.Test.YtbedkdnphobmlaaGreatDoorUaa18
import Derived.Test.YtbedkdnphobmlaaGreatDoorUaa27
import Derived.Test.YtbedkdnphobmlaaGreatDoorUaa33
import Derived.Test.YtbedkdnphobmlaaGreatDoorUaa34
import Derived.Test.YtbedkdnphobmlaaGreatDoorUab00
import Derived.Test.YtbedkdnphobmlaaGreatDoorUac00
import Derived.Test.YtbedkdnphobmlaaGreatDoorUac01
import Derived.Test.YtbedkdnphobmlaaGreatDoorUac02
import Derived.Test.YtbedkdnphobmlaaGreatDoorUah00
import Derived.Test.YtbedkdnphobmlaaGreatDoorUah01
set_option linter.all false
set_option maxRecDepth 100000
set_option maxHeartbeats 0
namespace Go.Proofs.YtbedkdnphobmlaaGreatDoor
open Go.RowKit Px Tryz
theorem H8{w W g d}t(h:DI w W g d)(f:bm d (aj t))(i:t.size<=2147483648)(b:bw w):Calls prog 22 #[.pointer (some ⟨g,0,none⟩),.string t] W λc a=>c=.returned (.tuple #[.int .i64 ((d.feed (aj t)).err:Int),.int .i64 ((d.feed (aj t)).at1:Int)])/\DI w a g (d.feed (aj t))/\Fr1 g W a:=by
 obtain⟨j,k,l⟩:=h.ex;refine(nK g 5957 t j d W k l (E _) f i (b.kept h.kept) (b.new h.lo)).mono ?_;rintro c a ⟨rfl,e⟩;exact⟨rfl,h.step e,by obtain⟨_,_,_,m⟩:=e;exact m⟩
theorem A2 x wd H K D L P V Z c a7 qp xp fp kp cp pc qc xc fc kc cc pal clr pix fl kl cl ff w(h:Dk w x wd H K D L P V Z a7 qp xp fp kp cp pc qc xc fc kc cc pal clr pix fl kl cl)(v9:4<x)(i4:dp wd H D K L P V pal clr pix fl kl ff)(i5:w.cell? ⟨x,14,none⟩=some (.string ff))(t1 : -9223372036854775808<=c)(t2:c<9223372036854775808):Calls prog 12 #[.pointer (some ⟨x,0,none⟩),.int .i64 c] w λA C=>A=.returned (.bool true)/\Kept w C:=by
 have t3:0<w.heap.size:=by have:=h.grid.lt;omega
 obtain⟨w0,w1⟩:=bM i4;obtain⟨b1,n9,g2⟩:=H9 i4 h.im h.ch;have g3:ZH0 (∀q,Kept w q->q.cell? ⟨x,14,none⟩=some (.string ff)):=λq d=>(d.cell (p:=⟨x,14,none⟩) (B _ _ i5)).trans i5
 have g4:ZH0 _:=(gJ h.grid);have o0:ZH0 (∀a,Kept w a->Dk a x wd H K D L P V Z a7 qp xp fp kp cp pc qc xc fc kc cc pal clr pix fl kl cl):=λa d=>h.kept d
 have g5:ZH0 _:=n9;have g6:ZH0 _:=h.im;have t4:ZH0 _:=h.ch.l;replace g2:ZH0 _:=g2;clear h i4 n9 i5;go_enter func12,ntmps12;have e1:=g3.o w (Kept.refl _);go_wp2_with fail;refine(dO c ff.size w t1 t2 O O).mono ?_;rintro A t5 ⟨⟨d,t6,rfl⟩,w2⟩;subst t5;obtain⟨b,t,E,o1⟩:=g2.o d t6;have w3:(d:Int)<=(ff.size:Int):=O;have w4:(0:Int)<=(d:Int):=O;obtain⟨u,i6⟩:∃u,u=d+1:=⟨_,rfl⟩;have w5:(d:Int)+1=(u:Int):=O;have w6:(d:Int)<=(u:Int):=O;have w7:(u:Int)<=(ff.size:Int):=O;have g7:ZH0 _:=o1;have t7:ZH0 (∀q g,DI w q g dc0->Calls prog 22 #[.pointer (some ⟨g,0,none⟩),.string (ff.extract 0 d)] q λk b2=>k=.returned (.tuple #[.int .i64 0,.int .i64 0])/\DI w b2 g ⟨b,d,0,0⟩):=λq g c5=>by
  have:=fK (ff.extract 0 d) c5 E.ok (by rw[ByteArray.size_extract];omega) g4.o
  rw[E.fed] at this;exact this
 have t8:ZH0 (∀q g,DI w q g ⟨b,d,0,0⟩->Calls prog 22 #[.pointer (some ⟨g,0,none⟩),.string (ff.extract d u)] q λk b2=>k=.returned (.tuple #[.int .i64 0,.int .i64 0])/\DI w b2 g ⟨t,u,0,0⟩/\Fr1 g q b2):=λq g c5=>by
  rw[i6]
  have:=H8 (ff.extract d (d+1)) c5 E.ok2 (by rw[ByteArray.size_extract];omega) g4.o
  rw[E.fed2] at this;exact this
 have g8:ZH0 (∀q g,DI w q g ⟨b,d,0,0⟩->Calls prog 24 #[.pointer (some ⟨g,0,none⟩)] q λk b2=>SnG q b false (nA b) (4*nA b) k b2):=λq g c5=>by
  have:=zX c5 E.sh E.pl g4.o.grd
  rw[J E.part] at this;exact this
 have i7:ZH0 (∀q g,DI w q g ⟨t,u,0,0⟩->Calls prog 24 #[.pointer (some ⟨g,0,none⟩)] q λk b2=>SnG q t (decide (u=ff.size)) (nA t) (4*nA t) k b2):=λq g c5=>by
  have:=zX c5 E.sh2 E.pl2 g4.o.grd
  rw[show decide (t.part=5)=decide (u=ff.size) from by
   by_cases r:u=ff.size
   .rw[decide_eq_true r,decide_eq_true (E.part2.2 O)]
   .rw[J r,J (λi8=>r (by have:=E.part2.1 i8;omega))]] at this
  exact this
 have i9:ZH0 (∀a (e2 e3 e4 e5 e6:Int) a8 a7 a9,SlC a a8 (nA b) (knP b.rw b.hd)->SlC a a7 (4*nA b) (pxA b)->SlC a a9 (4*nA b) (shA b)->Calls prog 26 #[.agg #[.int .i64 0,.int .i64 0,.bool false,.int .i64 e2,.int .i64 e3,.int .i64 e4,.int .i64 e5,.int .i64 e6,.slice a8 (nA b) (nA b),.slice a7 (4*nA b) (4*nA b),.slice a9 (4*nA b) (4*nA b)]] a λA C=>A=.returned (.bool true)/\Kept a C):=λa e2 e3 e4 e5 e6 a8 a7 a9 e7 c6 j0=>Hg g6.o t4.o g5.o g7.o _ _ _ _ _ _ _ _ a8 a7 a9 a e7 c6 j0
 have j1:ZH0 (∀a (e2 e3 e4 e5 e6:Int) a8 o2 a9,Kept w a->SlC a a8 (nA b) (knP b.rw b.hd)->SlC a a9 (4*nA b) (shA b)->Calls prog 28 #[.pointer (some ⟨x,0,none⟩),.agg #[.int .i64 0,.int .i64 0,.bool false,.int .i64 e2,.int .i64 e3,.int .i64 e4,.int .i64 e5,.int .i64 e6,.slice a8 (nA b) (nA b),.slice o2 (4*nA b) (4*nA b),.slice a9 (4*nA b) (4*nA b)]] a λA C=>A=.returned (.bool true)/\Kept a C):=λa e2 e3 e4 e5 e6 a8 o2 a9 e8 e7 j0=>Ez x wd H K D L P V Z a7 qp xp fp kp cp pc qc xc fc kc cc pal clr pix fl kl cl b b1 _ _ _ _ _ _ _ _ _ a8 a9 a (o0.o a e8) g5.o g7.o e7 j0
 have o3:ZH0 (∀a g9 r,SlC a g9 (4*nA b) (pxA b)->SlC a r (4*nA b) (pxA b)->4*nA b<=100000->Calls prog 27 #[.slice g9 (4*nA b) (4*nA b),.slice r (4*nA b) (4*nA b)] a λk C=>k=.returned (.bool true)/\Kept a C):=λa g9 r e7 c6 h0=>by
  have a0:((List.range (4*nA b)).map (pxA b)).length=4*nA b:=by rw[List.length_map,List.length_range]
  have:=bY g9 r (4*nA b) (4*nA b) (4*nA b) (4*nA b) _ _ a a0.symm a0.symm e7.lat c6.lat (by rw[a0];exact h0) (by rw[a0];exact h0)
  rw[decide_eq_true rfl] at this;exact this
 have c7:ZH0 (nA b<=256/\(0<nA b->nA b=wd*H/\b.hd.W≠0/\nA t=nA b/\t.hd=b.hd)):=by
  have h0:wd*H<=256:=Xz (XF g6.o.w2 g6.o.h2) Xh;by_cases r:b.hd.W=0
  .have e9:nA b=0:=I r
   exact⟨by rw[e9];exact X3 _,λi8=>by rw[e9] at i8;omega⟩
  .have e9:nA b=wd*H:=by unfold nA;rw[N r,g7.o.hd r]
   have h1:=E.hd r;exact⟨by rw[e9];exact h0,λ_=>⟨e9,r,by unfold nA;rw[h1],h1⟩⟩
 have o4:ZH0 (∀f,0<nA b->knP b.rw b.hd f=1->knP t.rw t.hd f=1):=λf t9 k=>by
  obtain⟨_,_,_,h1⟩:=c7.o.2 t9;rw[h1];exact(oU _ _ _).2 (E.mono _ ((oU _ _ _).1 k)).1
 have o5:ZH0 (∀a f,Kept w a->f<nA b->Calls prog 29 #[.pointer (some ⟨x,0,none⟩),.int .i64 f] a λk C=>∃g,k=.returned (.slice (some ⟨g,0,none⟩) 4 4)/\(∀q,Kept C q->LAt q .i64 (.slice (some ⟨g,0,none⟩) ((List.range 4).map (CF b1 wd f)).length 4) ((List.range 4).map (CF b1 wd f)))/\Kept a C):=λa f e8 u0=>tA x wd H K D L P V Z a7 qp xp fp kp cp pc qc xc fc kc cc pal clr pix fl kl cl f b1 a (o0.o a e8) g5.o (by have:=(c7.o.2 O).1;omega)
 have j2:ZH0 (∀a f g G,f<nA b->SlC a (some ⟨g,0,none⟩) (4*nA b) (pxA b)->LAt a .i64 (.slice (some ⟨G,0,none⟩) ((List.range 4).map (CF b1 wd f)).length 4) ((List.range 4).map (CF b1 wd f))->Calls prog 27 #[.slice (some ⟨g,4*f,none⟩) 4 (4*nA b-4*f),.slice (some ⟨G,0,none⟩) 4 4] a λk C=>(∃f0:Bool,k=.returned (.bool f0)/\(knP b.rw b.hd f=1->f0=true))/\Kept a C):=λa f g G u0 c6 v=>by
  obtain⟨h2,c8,_⟩:=c7.o.2 O;exact Hh g5.o g7.o g6.o c8 f g G (4*nA b) a O (by rw[h2]) c6 v
 have u1:ZH0 (decide (u=ff.size)=((u:Int)==(ff.size:Int))):=by
  show decide (u=ff.size)=((u:Int)==(ff.size:Int))
  by_cases r:u=ff.size
  .rw[decide_eq_true r,r];exact(beq_self_eq_true _).symm
  .rw[J r];exact(F.2 O).symm
 obtain⟨j,j3⟩:∃j,j=nA b:=⟨_,rfl⟩;obtain⟨i,j4⟩:∃i,i=4*nA b:=⟨_,rfl⟩;obtain⟨W,o6⟩:∃j,j=nA t:=⟨_,rfl⟩;obtain⟨X,o7⟩:∃i,i=4*nA t:=⟨_,rfl⟩;have o8:ZH0 (i=4*j):=by show i=4*j;rw[j4,j3]
 rw[<-j4] at g8 i9 j1 o3 j2;rw[<-o7] at i7;rw[<-j3] at g8 i9 j1 c7 o4 o5 j2;rw[<-o6] at i7 c7;have w8:=c7.o.1;have w9:i<=1024:=by have:=o8.o;omega
 generalize decide (u=ff.size)=j5 at *;clear E o1 g2 j3 j4 o6 o7;replace i6:ZH0 _:=i6;go_wp2_with fail;refine(jL (Kept.refl _) t3).mono ?_;rintro A o9 ⟨g,rfl,j6⟩;have a6:=g3.o o9 j6.kept;have p0:ZH0 _:=j6;clear j6 e1;go_wp2_with fail;refine(t7.o o9 g p0.o).mono ?_;rintro A u2 ⟨rfl,p1⟩;have f1:ZH0 _:=p1;clear p1 p0 a6;go_wp2_with fail;refine(g8.o u2 g f1.o).mono ?_;rintro A n ⟨f2,f3,f4,f5,f6,Y,S,c9,rfl,p2,p3,j7⟩;have j8:ZH0 (∀r,r=Y\/r=S\/r=c9->∀G,r=some ⟨G,0,none⟩->G≠g):=λr u3 G k=>by have:=p3 r u3 G k;have:=f1.o.glt;omega
 have x0:=Xq f1.o.glt j7.size;clear p3;have h3:ZH0 _:=p2;have p4:ZH0 _:=f1.o.on j7;clear p2 j7 f1;obtain⟨o,s⟩:∃o:List Value,o=[.int .i64 0,.int .i64 0,.bool false,.int .i64 f2,.int .i64 f3,.int .i64 f4,.int .i64 f5,.int .i64 f6,.slice Y j j,.slice S i i,.slice c9 i i]:=⟨_,rfl⟩;have v:o.length=11:=by rw[s];rfl
 have M:∀b3∈o,b3.oneCell'=true:=by
  intro b3 a1;rw[s] at a1;simp only[Y4,List.not_mem_nil,or_false] at a1;rcases a1 with rfl|rfl|rfl|rfl|rfl|rfl|rfl|rfl|rfl|rfl|rfl<;>rfl
 obtain⟨b4,e,a2⟩:=cZ n o v M;unfold snN at b4 e a2;have f7:ZH0 (Kept n ((n.alloc (Obj.cells #[.int .i64 0,.int .i64 0,.bool false,.int .i64 0,.int .i64 0,.int .i64 0,.int .i64 0,.int .i64 0,.slice none 0 0,.slice none 0 0,.slice none 0 0] 50)).setCells n.heap.size 0 o)):=a2;have Q:(Value.agg #[.int .i64 0,.int .i64 0,.bool false,.int .i64 f2,.int .i64 f3,.int .i64 f4,.int .i64 f5,.int .i64 f6,.slice Y j j,.slice S i i,.slice c9 i i])=.agg o.toArray:=by rw[s]
 rw[Q];replace Q:ZH0 _:=Q;replace s:ZH0 _:=s;replace v:ZH0 _:=v;replace M:ZH0 _:=M;replace e:ZH0 _:=e;clear a2;go_upto_region 5 with fail
 generalize ((n.alloc (Obj.cells #[.int .i64 0,.int .i64 0,.bool false,.int .i64 0,.int .i64 0,.int .i64 0,.int .i64 0,.int .i64 0,.slice none 0 0,.slice none 0 0,.slice none 0 0] 50)).setCells n.heap.size 0 o)=T at *;clear b4;replace e:=e.o;rw[s.o] at e;have U:=B T ⟨n.heap.size,0,none⟩ (e 0 _ rfl);have d3:ZH0 (∀a,Kept T a->a.cell? ⟨n.heap.size,0,none⟩=some (.int .i64 0)/\a.cell? ⟨n.heap.size,1,none⟩=some (.int .i64 0)/\a.cell? ⟨n.heap.size,2,none⟩=some (.bool false)/\a.cell? ⟨n.heap.size,3,none⟩=some (.int .i64 f2)/\a.cell? ⟨n.heap.size,4,none⟩=some (.int .i64 f3)/\a.cell? ⟨n.heap.size,5,none⟩=some (.int .i64 f4)/\a.cell? ⟨n.heap.size,6,none⟩=some (.int .i64 f5)/\a.cell? ⟨n.heap.size,7,none⟩=some (.int .i64 f6)/\a.cell? ⟨n.heap.size,8,none⟩=some (.slice Y j j)/\a.cell? ⟨n.heap.size,9,none⟩=some (.slice S i i)/\a.cell? ⟨n.heap.size,10,none⟩=some (.slice c9 i i)):=λa d=>⟨(d.cell (p:=⟨n.heap.size,0,none⟩) U).trans (e 0 _ rfl),(d.cell (p:=⟨n.heap.size,1,none⟩) U).trans (e 1 _ rfl),(d.cell (p:=⟨n.heap.size,2,none⟩) U).trans (e 2 _ rfl),(d.cell (p:=⟨n.heap.size,3,none⟩) U).trans (e 3 _ rfl),(d.cell (p:=⟨n.heap.size,4,none⟩) U).trans (e 4 _ rfl),(d.cell (p:=⟨n.heap.size,5,none⟩) U).trans (e 5 _ rfl),(d.cell (p:=⟨n.heap.size,6,none⟩) U).trans (e 6 _ rfl),(d.cell (p:=⟨n.heap.size,7,none⟩) U).trans (e 7 _ rfl),(d.cell (p:=⟨n.heap.size,8,none⟩) U).trans (e 8 _ rfl),(d.cell (p:=⟨n.heap.size,9,none⟩) U).trans (e 9 _ rfl),(d.cell (p:=⟨n.heap.size,10,none⟩) U).trans (e 10 _ rfl)⟩
 clear e Q s v M;generalize n.heap.size=b5 at *;have u4:ZH0 _:=p4.o.on f7.o;have b0:ZH0 (∀a,Kept T a->SlC a Y j (knP b.rw b.hd)/\SlC a S i (pxA b)/\SlC a c9 i (shA b)):=λa d=>⟨(h3.o.1.kept f7.o).kept d,(h3.o.2.1.kept f7.o).kept d,(h3.o.2.2.kept f7.o).kept d⟩
 clear h3 p4 f7;obtain⟨b6,b7,a6,b8,b9,c0,c1,c2,y,a3,c3⟩:=d3.o T (Kept.refl _);go_wp2_with fail;refine X9 (i9.o T f2 f3 f4 f5 f6 Y S c9 (b0.o T (Kept.refl _)).1 (b0.o T (Kept.refl _)).2.1 (b0.o T (Kept.refl _)).2.2) ?_;rintro A j9 ⟨rfl,k0⟩;have p5:ZH0 (Kept T j9):=k0;have k1:ZH0 _:=u4.o.on k0;clear k0 b6 b7 a6 b8 b9 c0 c1 c2 y a3 c3;obtain⟨b6,b7,a6,b8,b9,c0,c1,c2,y,a3,c3⟩:=d3.o j9 p5.o;clear b6 b7 b8 b9 c0 c1 c2 y a3 c3;go_wp2_with fail;refine(g8.o j9 g k1.o).mono ?_;rintro A l ⟨k2,k3,k4,k5,k6,k7,h4,k8,rfl,p6,_,k9⟩;have p7:ZH0 _:=p6;have p8:ZH0 _:=k1.o.on k9;have p9:ZH0 (Kept T l):=p5.o.trans k9;clear p6 k9 k1 a6;obtain⟨o,s⟩:∃o:List Value,o=[.int .i64 0,.int .i64 0,.bool false,.int .i64 k2,.int .i64 k3,.int .i64 k4,.int .i64 k5,.int .i64 k6,.slice k7 j j,.slice h4 i i,.slice k8 i i]:=⟨_,rfl⟩;have v:o.length=11:=by rw[s];rfl
 have M:∀b3∈o,b3.oneCell'=true:=by
  intro b3 a1;rw[s] at a1;simp only[Y4,List.not_mem_nil,or_false] at a1;rcases a1 with rfl|rfl|rfl|rfl|rfl|rfl|rfl|rfl|rfl|rfl|rfl<;>rfl
 obtain⟨b4,e,a2⟩:=cZ l o v M;unfold snN at b4 e a2;have h5:ZH0 (Kept l ((l.alloc (Obj.cells #[.int .i64 0,.int .i64 0,.bool false,.int .i64 0,.int .i64 0,.int .i64 0,.int .i64 0,.int .i64 0,.slice none 0 0,.slice none 0 0,.slice none 0 0] 50)).setCells l.heap.size 0 o)):=a2;have Q:(Value.agg #[.int .i64 0,.int .i64 0,.bool false,.int .i64 k2,.int .i64 k3,.int .i64 k4,.int .i64 k5,.int .i64 k6,.slice k7 j j,.slice h4 i i,.slice k8 i i])=.agg o.toArray:=by rw[s]
 rw[Q];replace Q:ZH0 _:=Q;replace s:ZH0 _:=s;replace v:ZH0 _:=v;replace M:ZH0 _:=M;replace e:ZH0 _:=e;clear a2;go_upto_region 9 with fail
 generalize ((l.alloc (Obj.cells #[.int .i64 0,.int .i64 0,.bool false,.int .i64 0,.int .i64 0,.int .i64 0,.int .i64 0,.int .i64 0,.slice none 0 0,.slice none 0 0,.slice none 0 0] 50)).setCells l.heap.size 0 o)=d0 at *;clear b4;replace e:=e.o;rw[s.o] at e;have a4:=B d0 ⟨l.heap.size,0,none⟩ (e 0 _ rfl);have q0:ZH0 (∀a,Kept d0 a->a.cell? ⟨l.heap.size,0,none⟩=some (.int .i64 0)/\a.cell? ⟨l.heap.size,1,none⟩=some (.int .i64 0)/\a.cell? ⟨l.heap.size,2,none⟩=some (.bool false)/\a.cell? ⟨l.heap.size,3,none⟩=some (.int .i64 k2)/\a.cell? ⟨l.heap.size,4,none⟩=some (.int .i64 k3)/\a.cell? ⟨l.heap.size,5,none⟩=some (.int .i64 k4)/\a.cell? ⟨l.heap.size,6,none⟩=some (.int .i64 k5)/\a.cell? ⟨l.heap.size,7,none⟩=some (.int .i64 k6)/\a.cell? ⟨l.heap.size,8,none⟩=some (.slice k7 j j)/\a.cell? ⟨l.heap.size,9,none⟩=some (.slice h4 i i)/\a.cell? ⟨l.heap.size,10,none⟩=some (.slice k8 i i)):=λa d=>⟨(d.cell (p:=⟨l.heap.size,0,none⟩) a4).trans (e 0 _ rfl),(d.cell (p:=⟨l.heap.size,1,none⟩) a4).trans (e 1 _ rfl),(d.cell (p:=⟨l.heap.size,2,none⟩) a4).trans (e 2 _ rfl),(d.cell (p:=⟨l.heap.size,3,none⟩) a4).trans (e 3 _ rfl),(d.cell (p:=⟨l.heap.size,4,none⟩) a4).trans (e 4 _ rfl),(d.cell (p:=⟨l.heap.size,5,none⟩) a4).trans (e 5 _ rfl),(d.cell (p:=⟨l.heap.size,6,none⟩) a4).trans (e 6 _ rfl),(d.cell (p:=⟨l.heap.size,7,none⟩) a4).trans (e 7 _ rfl),(d.cell (p:=⟨l.heap.size,8,none⟩) a4).trans (e 8 _ rfl),(d.cell (p:=⟨l.heap.size,9,none⟩) a4).trans (e 9 _ rfl),(d.cell (p:=⟨l.heap.size,10,none⟩) a4).trans (e 10 _ rfl)⟩
 clear e Q s v M;generalize l.heap.size=x1 at *;have q1:ZH0 _:=p8.o.on h5.o;have h6:ZH0 (Kept T d0):=p9.o.trans h5.o;have q2:ZH0 _:=o3.o d0 h4 S (p7.o.2.1.kept h5.o) (b0.o d0 h6.o).2.1 O;obtain⟨q3,h2,c8,q4,q5,q6,q7,q8,l0,q9,r0⟩:=q0.o d0 (Kept.refl _);obtain⟨b6,b7,a6,b8,b9,c0,c1,c2,y,a3,c3⟩:=d3.o d0 h6.o;clear q3 h2 c8 q4 q5 q6 q7 q8 l0 r0 b6 b7 a6 b8 b9 c0 c1 c2 y c3 p7 p8 p9 h5 q0;go_wp2_with fail;refine X9 q2.o ?_;rintro A f8 ⟨rfl,l1⟩;have l2:ZH0 _:=q1.o.on l1;have f9:ZH0 (Kept T f8):=h6.o.trans l1;clear l1 q1 h6 q9 a3 q2;obtain⟨b6,b7,a6,b8,b9,c0,c1,c2,y,a3,c3⟩:=d3.o f8 f9.o;have r1:ZH0 _:=j1.o f8 f2 f3 f4 f5 f6 Y S c9 l2.o.kept (b0.o f8 f9.o).1 (b0.o f8 f9.o).2.2;go_wp2_with fail;refine X9 r1.o ?_;rintro A d4 ⟨rfl,l3⟩;have l4:ZH0 _:=l2.o.on l3;have g0:ZH0 (Kept T d4):=f9.o.trans l3;clear l3 l2 f9 r1 b6 b7 a6 b8 b9 c0 c1 c2 y a3 c3;have e1:=g3.o d4 l4.o.kept;go_wp2_with fail;refine(t8.o d4 g l4.o).mono ?_;rintro A d1 ⟨rfl,r2,d5⟩;have l5:ZH0 _:=r2;have l6:ZH0 (SlC d1 Y j (knP b.rw b.hd)/\SlC d1 S i (pxA b)):=⟨(b0.o d4 g0.o).1.fr d5 (j8.o _ (Or.inl rfl)),(b0.o d4 g0.o).2.1.fr d5 (j8.o _ (R (Or.inl rfl)))⟩;have h7:=Xq U g0.o.size;have l7:ZH0 (d1.cell? ⟨b5,8,none⟩=some (.slice Y j j)/\d1.cell? ⟨b5,9,none⟩=some (.slice S i i)):=by
  obtain⟨b6,b7,a6,b8,b9,c0,c1,c2,y,a3,c3⟩:=d3.o d4 g0.o;exact⟨(d5.cell h7 O).trans y,(d5.cell h7 O).trans a3⟩
 have r3:=Xq h7 d5.size;clear r2 d5 l4 g0 d3 b0 j8 e1 U h7;go_wp2_with fail;refine(i7.o d1 g l5.o).mono ?_;rintro A m ⟨l8,l9,m0,m1,m2,d6,m3,m4,rfl,r4,_,r5⟩;have r6:ZH0 _:=r4;have r7:ZH0 (Kept d1 m):=r5;clear r4 r5;obtain⟨o,s⟩:∃o:List Value,o=[.int .i64 0,.int .i64 0,.bool j5,.int .i64 l8,.int .i64 l9,.int .i64 m0,.int .i64 m1,.int .i64 m2,.slice d6 W W,.slice m3 X X,.slice m4 X X]:=⟨_,rfl⟩;have v:o.length=11:=by rw[s];rfl
 have M:∀b3∈o,b3.oneCell'=true:=by
  intro b3 a1;rw[s] at a1;simp only[Y4,List.not_mem_nil,or_false] at a1;rcases a1 with rfl|rfl|rfl|rfl|rfl|rfl|rfl|rfl|rfl|rfl|rfl<;>rfl
 obtain⟨b4,e,a2⟩:=cZ m o v M;unfold snN at b4 e a2;have m5:ZH0 (Kept m ((m.alloc (Obj.cells #[.int .i64 0,.int .i64 0,.bool false,.int .i64 0,.int .i64 0,.int .i64 0,.int .i64 0,.int .i64 0,.slice none 0 0,.slice none 0 0,.slice none 0 0] 50)).setCells m.heap.size 0 o)):=a2;have Q:(Value.agg #[.int .i64 0,.int .i64 0,.bool j5,.int .i64 l8,.int .i64 l9,.int .i64 m0,.int .i64 m1,.int .i64 m2,.slice d6 W W,.slice m3 X X,.slice m4 X X])=.agg o.toArray:=by rw[s]
 rw[Q];replace Q:ZH0 _:=Q;replace s:ZH0 _:=s;replace v:ZH0 _:=v;replace M:ZH0 _:=M;replace e:ZH0 _:=e;clear a2;go_upto_region 17 with fail
 generalize ((m.alloc (Obj.cells #[.int .i64 0,.int .i64 0,.bool false,.int .i64 0,.int .i64 0,.int .i64 0,.int .i64 0,.int .i64 0,.slice none 0 0,.slice none 0 0,.slice none 0 0] 50)).setCells m.heap.size 0 o)=z at *;clear b4;replace e:=e.o;rw[s.o] at e;have a5:=B z ⟨m.heap.size,0,none⟩ (e 0 _ rfl);have m6:ZH0 (∀a,Kept z a->a.cell? ⟨m.heap.size,0,none⟩=some (.int .i64 0)/\a.cell? ⟨m.heap.size,1,none⟩=some (.int .i64 0)/\a.cell? ⟨m.heap.size,2,none⟩=some (.bool j5)/\a.cell? ⟨m.heap.size,3,none⟩=some (.int .i64 l8)/\a.cell? ⟨m.heap.size,4,none⟩=some (.int .i64 l9)/\a.cell? ⟨m.heap.size,5,none⟩=some (.int .i64 m0)/\a.cell? ⟨m.heap.size,6,none⟩=some (.int .i64 m1)/\a.cell? ⟨m.heap.size,7,none⟩=some (.int .i64 m2)/\a.cell? ⟨m.heap.size,8,none⟩=some (.slice d6 W W)/\a.cell? ⟨m.heap.size,9,none⟩=some (.slice m3 X X)/\a.cell? ⟨m.heap.size,10,none⟩=some (.slice m4 X X)):=λa d=>⟨(d.cell (p:=⟨m.heap.size,0,none⟩) a5).trans (e 0 _ rfl),(d.cell (p:=⟨m.heap.size,1,none⟩) a5).trans (e 1 _ rfl),(d.cell (p:=⟨m.heap.size,2,none⟩) a5).trans (e 2 _ rfl),(d.cell (p:=⟨m.heap.size,3,none⟩) a5).trans (e 3 _ rfl),(d.cell (p:=⟨m.heap.size,4,none⟩) a5).trans (e 4 _ rfl),(d.cell (p:=⟨m.heap.size,5,none⟩) a5).trans (e 5 _ rfl),(d.cell (p:=⟨m.heap.size,6,none⟩) a5).trans (e 6 _ rfl),(d.cell (p:=⟨m.heap.size,7,none⟩) a5).trans (e 7 _ rfl),(d.cell (p:=⟨m.heap.size,8,none⟩) a5).trans (e 8 _ rfl),(d.cell (p:=⟨m.heap.size,9,none⟩) a5).trans (e 9 _ rfl),(d.cell (p:=⟨m.heap.size,10,none⟩) a5).trans (e 10 _ rfl)⟩
 clear e Q s v M;generalize m.heap.size=r8 at *;have m7:ZH0 (Kept d1 z):=r7.o.trans m5.o;have d7:ZH0 (∀a,Kept z a->(a.cell? ⟨b5,8,none⟩=some (.slice Y j j)/\a.cell? ⟨b5,9,none⟩=some (.slice S i i)/\a.cell? ⟨r8,8,none⟩=some (.slice d6 W W))/\SlC a Y j (knP b.rw b.hd)/\SlC a S i (pxA b)/\SlC a d6 W (knP t.rw t.hd)):=λa d=>by
  have h8:=m7.o.trans d;obtain⟨q3,h2,c8,q4,q5,q6,q7,q8,l0,q9,r0⟩:=m6.o a d;exact⟨⟨(h8.cell (p:=⟨b5,8,none⟩) r3).trans l7.o.1,(h8.cell (p:=⟨b5,9,none⟩) r3).trans l7.o.2,l0⟩,l6.o.1.kept h8,l6.o.2.kept h8,(r6.o.1.kept m5.o).kept d⟩
 have m8:ZH0 (Kept w z):=l5.o.kept.trans m7.o;have c8:=(m6.o z (Kept.refl _)).2.2.1;have e1:=g3.o z m8.o;generalize m9:((u:Int)==(ff.size:Int))=x2 at *;rw[u1.o] at c8;clear r6 r7 m5 m7 l7 l6 l5 m6;replace m9:ZH0 _:=m9;have x3:=m9.o;go_quiet (fail);have r9:ZH0 (Kept z (z.drewN nq)):=(Kept.refl _).drewN _;generalize z.drewN nq=u5 at *;clear c8 e1;have y:=(d7.o u5 r9.o).1.1;go_wp2_with fail;go_loopg [12,14,15] j (λu6 x4 u7 x5 a=>∃f:Nat,u6=j-f/\f<=j/\u7=.int .i64 f/\Kept z a)
 case atStart=>exact⟨0,O,O,rfl,r9.o⟩
 case round=>
  obtain⟨f,h9,x6,rfl,s0⟩:=hrel;replace h9:ZH0 _:=h9;have c4:ZH0 (Kept z wr):=s0;clear s0 y;have y:=(d7.o wr c4.o).1.1;by_cases n0:f<j
  .have u8:(f:Int)<(j:Int):=O
   have x7:(0:Int)<=(f:Int):=O;have s1:0<j:=O;have u9:=o8.o;have v0:=(c7.o.2 s1).2.2.1;obtain⟨d8,s2⟩:∃n1,n1=4*f:=⟨_,rfl⟩;obtain⟨i0,v1⟩:∃n1,n1=4*f+4:=⟨_,rfl⟩;have x8:4*(f:Int)=(d8:Int):=O;have x9:(d8:Int)+4=(i0:Int):=O;have y0:d8<=i0:=O;have y1:i0<=i:=O;have y2:i0-d8=4:=O;have y3:(f:Int)<(W:Int):=O;obtain⟨i1,n2⟩:∃g,S=some ⟨g,0,none⟩:=by obtain⟨g,k,_⟩:=(d7.o wr c4.o).2.2.1.at O;exact⟨g,k⟩
   obtain⟨s3,n3⟩:∃g,Y=some ⟨g,0,none⟩:=by obtain⟨g,k,_⟩:=(d7.o wr c4.o).2.1.at O;exact⟨g,k⟩
   obtain⟨s4,n4⟩:∃g,d6=some ⟨g,0,none⟩:=by obtain⟨g,k,_⟩:=(d7.o wr c4.o).2.2.2.at O;exact⟨g,k⟩
   have d2:ZH0 (∀a,Kept z a->a.cell? ⟨b5,8,none⟩=some (.slice (some ⟨s3,0,none⟩) j j)/\a.cell? ⟨b5,9,none⟩=some (.slice (some ⟨i1,0,none⟩) i i)/\a.cell? ⟨r8,8,none⟩=some (.slice (some ⟨s4,0,none⟩) W W)/\a.cell? ⟨s3,f,none⟩=some (.int .i64 (knP b.rw b.hd f))/\a.cell? ⟨s4,f,none⟩=some (.int .i64 (knP t.rw t.hd f))/\SlC a (some ⟨i1,0,none⟩) i (pxA b)):=λa d=>by
    obtain⟨⟨s5,s6,s7⟩,v2,s8,v3⟩:=d7.o a d;obtain⟨y4,a0,i2⟩:=v2 f n0;obtain⟨y5,d9,i3⟩:=v3 f O;rw[n3] at s5 a0;rw[n2] at s6 s8;rw[n4] at s7 d9
    injection a0 with a0
    injection a0 with a0
    injection d9 with d9
    injection d9 with d9
    subst a0;subst d9;exact⟨s5,s6,s7,i2,i3,s8⟩
   have v4:ZH0 (∀a G,Kept z a->LAt a .i64 (.slice (some ⟨G,0,none⟩) ((List.range 4).map (CF b1 wd f)).length 4) ((List.range 4).map (CF b1 wd f))->Calls prog 27 #[.slice (some ⟨i1,d8,none⟩) 4 (i-d8),.slice (some ⟨G,0,none⟩) 4 4] a λk C=>(∃f0:Bool,k=.returned (.bool f0)/\(knP b.rw b.hd f=1->f0=true))/\Kept a C):=λa G e8 v=>by
    rw[s2];exact j2.o a f i1 G n0 (d2.o a e8).2.2.2.2.2 v
   have v5:ZH0 _:=o4.o f s1;have v6:ZH0 _:=(ET b.rw b.hd) f;replace n2:ZH0 _:=n2;replace n3:ZH0 _:=n3;replace n4:ZH0 _:=n4;generalize knP b.rw b.hd f=y6 at *;generalize knP t.rw t.hd f=y7 at *;clear y s2 v1 u9 v0;have y:=(d2.o wr c4.o).1;go_wp2_with fail;refine X9 (o5.o wr f (m8.o.trans c4.o) n0) ?_;rintro k n5 ⟨c6,rfl,n6,s9⟩;have n7:ZH0 (Kept z n5):=c4.o.trans s9;replace n6:ZH0 _:=n6;clear s9 y;have a3:=(d2.o n5 n7.o).2.1;go_wp2_with fail;refine X9 (v4.o n5 c6 n7.o (n6.o _ (Kept.refl _))) ?_;rintro k g1 ⟨⟨y8,rfl,n8⟩,t0⟩;have e0:ZH0 (Kept z g1):=n7.o.trans t0;replace n8:ZH0 _:=n8;clear t0 a3;have y:=(d2.o g1 e0.o).1;have v7:=(d2.o g1 e0.o).2.2.1;have i2:=(d2.o g1 e0.o).2.2.2.1;have i3:=(d2.o g1 e0.o).2.2.2.2.1;rcases v6.o with k|k
   .rw[k] at i2
    clear i3 v7;go_wp2_with fail;go_roundg (j-(f+1))
    case measure=>rw[h9.o];omega
    case rel=>exact⟨f+1,rfl,O,Xj,e0.o⟩
   .have v8:=n8.o k
    subst v8;rw[v5.o k] at i3;rw[k] at i2;go_wp2_with fail;go_roundg (j-(f+1))
    case measure=>rw[h9.o];omega
    case rel=>exact⟨f+1,rfl,O,Xj,e0.o⟩
  .have u8:¬(f:Int)<(j:Int):=O
   go_wp2_with fail;go_ret;exact⟨rfl,m8.o.trans c4.o⟩
theorem vn a b i s t u v w(y : -9223372036854775808<=a)(z:a<9223372036854775808)(A : -9223372036854775808<=b)(B:b<9223372036854775808)(k:s.size<9223372036854775808)(l:t.size<9223372036854775808)(m:u.size<9223372036854775808)(n:v.size<9223372036854775808)(C : -9223372036854775808<=i)(D:i<9223372036854775808)(o:aV w):Calls prog 4 #[.int .i64 a,.string s,.string t,.int .i64 b,.string u,.string v,.int .i64 i] w λc f=>c=.returned (.bool true)/\Kept w f:=by
 have E:ZH0 (∀d:World,Calls prog 10 #[.string s,.string t,.string u,.string v] d λc f=>c=.returned (.bool (decide (65536<s.size\/65536<t.size\/65536<u.size\/65536<v.size)))/\f=d):=λd=>fY s t u v d k l m n
 have F:=U (fL a b s t u v w y z A B k l m n o);generalize decide (65536<s.size\/65536<t.size\/65536<u.size\/65536<v.size)=b5 at *;clear o;go_enter func4,ntmps4;go_wp2_with fail;refine F.o.mono ?_;rintro c g ⟨G|⟨_,H,I,J,K,L,M,N,O,Z,P,Q,R,S,T,V,W,X,Y,a0,a1,a2,a3,a4,a5,a6,a7,a8,a9,rfl,b0,b6,p,q,r⟩,e⟩
 .obtain⟨rfl,rfl⟩:=G
  have h:ZH0 (Kept w g):=e;clear e;go_wp2_with fail;refine(E.o _).mono ?_;rintro c j ⟨rfl,b7⟩;subst j;go_wp2;go_ret;exact⟨rfl,h.o⟩
 .have h:ZH0 (Kept w g):=e
  have b1:ZH0 _:=p;have b2:=U q;have b3:ZH0 _:=r;clear e p q r;go_wp2_with fail;refine(A2 H I J K L M N O Z i P Q R S T V W X Y a0 a1 a2 a3 a4 a5 a6 a7 a8 a9 g b1.o b0 b2.o b3.o C D).mono ?_;rintro c j ⟨rfl,x⟩;have b4:ZH0 (Kept w j):=h.o.trans x;clear x;go_wp2;go_ret;exact⟨rfl,b4.o⟩
