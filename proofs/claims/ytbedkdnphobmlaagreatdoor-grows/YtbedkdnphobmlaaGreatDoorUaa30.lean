import Derived.Test.YtbedkdnphobmlaaGreatDoorProg
import Derived.Test.YtbedkdnphobmlaaGreatDoorUaa00
import Derived.Test.YtbedkdnphobmlaaGreatDoorUaa01
import Derived.Test.YtbedkdnphobmlaaGreatDoorUaa03
import Derived.Test.YtbedkdnphobmlaaGreatDoorUaa08
import Derived.Test.YtbedkdnphobmlaaGreatDoorUaa09
import Derived.Test.YtbedkdnphobmlaaGreatDoorUaa11
import Derived.Test.YtbedkdnphobmlaaGreatDoorUaa19
import Derived.Test.YtbedkdnphobmlaaGreatDoorUaa21
import Derived.Test.YtbedkdnphobmlaaGreatDoorUaa22
import Derived.Test.YtbedkdnphobmlaaGreatDoorUaa24
import Derived.Test.YtbedkdnphobmlaaGreatDoorUaa25
import Derived.Test.YtbedkdnphobmlaaGreatDoorUaa26
import Derived.Test.YtbedkdnphobmlaaGreatDoorUaa27
import Derived.Test.YtbedkdnphobmlaaGreatDoorUaa28
import Derived.Test.YtbedkdnphobmlaaGreatDoorUaa29
set_option linter.all false
set_option maxRecDepth 100000
set_option maxHeartbeats 0
namespace Go.Proofs.YtbedkdnphobmlaaGreatDoor
open Go.RowKit Px Tryz
def BkA(arr:Array Value)(fl:Nat->Nat)(ML:Nat)(fd:Nat->Nat)(MD:Nat):Prop:=∀i,i<288->(arr[i]? = some (.int .u32 (cdF fl ML i))/\arr[288+i]? = some (.int .u8 (szF fl ML i)))/\arr[576+i]? = some (.int .u32 (cdF fd MD i))/\arr[864+i]? = some (.int .u8 (szF fd MD i))
theorem BkA.at{arr fl fd ML MD}(h:BkA arr fl ML fd MD)(w:World)t:BkQ (w.alloc (Obj.cells arr t)) w.heap.size 0 fl ML/\BkQ (w.alloc (Obj.cells arr t)) w.heap.size 576 fd MD:=by
 refine⟨λa b => ?_,λa b => ?_⟩
 .rw[XD];exact⟨(Xr _ _ _ _ rfl).trans (h a b).1.1,(Xr _ _ _ _ rfl).trans (h a b).1.2⟩
 .exact⟨(Xr _ _ _ _ rfl).trans (h a b).2.1,(Xr _ _ _ _ rfl).trans (h a b).2.2⟩
def TkU(fl:Nat->Nat)(ML:Nat)(fd:Nat->Nat)(MD:Nat)(t:Nat×Nat×Nat):Prop:=
 t.1<256/\((t.2.1=0/\dj fl ML t.1)\/(3<=t.2.1/\t.2.1<=258/\1<=t.2.2/\t.2.2<=32768/\(∀j,LSy t.2.1 j->dj fl ML (257+j))/\∀k,DSy t.2.2 k->dj fd MD k))
def Jd(x:Nat)(w:World)(v:Value)(bs:List Nat)(fl:Nat->Nat)(ML:Nat)(fd:Nat->Nat)(MD:Nat)(ts:List (Nat×Nat×Nat))(w':World):Prop:=∃bb,fM (dj fl ML) (dj fd MD) (kcB fl ML) (kcB fd MD) ts bb/\bb.length<=48*ts.length/\WO x w v (bs++(bb++kcB fl ML 256)) w'
theorem TkU.byte{fl fd ML MD t}(h:TkU fl ML fd MD t)(b:t.2.1=0):dj fl ML t.1/\TkB (dj fl ML) (dj fd MD) (kcB fl ML) (kcB fd MD) t (kcB fl ML t.1)/\(kcB fl ML t.1).length<=48:=by
 have:dj fl ML t.1:=by
  rcases h.2 with a|a
  .exact a.2
  .omega
 exact⟨this,L ⟨b,this,rfl⟩,by rw[gH];have:=this.2.2;omega⟩
theorem Ig{fl fd ML MD j k t}(h:TkU fl ML fd MD t)(c:t.2.1≠0)(a:LSy t.2.1 j)(b:DSy t.2.2 k):TkB (dj fl ML) (dj fd MD) (kcB fl ML) (kcB fd MD) t (cpB fl fd ML MD t.2.1 t.2.2 j k)/\(cpB fl fd ML MD t.2.1 t.2.2 j k).length<=48:=by
 rcases h.2 with f|⟨l,g,m,i,d,e⟩
 .exact absurd f.1 c
 .refine⟨R ⟨c,j,k,a.1,a.2.1,a.rest g,b.1,b.2.1,b.rest i,d j a,e k b,rfl⟩,?_⟩
  unfold cpB;simp only[Xv,gH,aU];have n:=(d j a).2.2;have o:=(e k b).2.2;have p:=(AQ j a.1).2.2;have q:=b.1;omega
theorem wh x ML MD fl fd arr lv v bs ts w(h:WC w x v bs)(a1:BkA arr fl ML fd MD)(q:TkX w lv ts)(H:∀l,lv.ownBlock=some l->Off x v l)(b8:ts.length<=1048576)(e9:bs.length<=2000000000)(I:ML<=288)(b9:MD<=288)(a2:∀a∈ts,TkU fl ML fd MD a)(a3:dj fl ML 256):Calls prog 164 #[.pointer (some ⟨x,0,none⟩),lv,.agg arr] w λr c0=>r=.returned (.tuple #[])/\Jd x w v bs fl ML fd MD ts c0:=by
 obtain⟨f0,f1,rfl⟩:=q.form;obtain⟨e,s⟩:∃e,e=ts.length:=⟨_,rfl⟩;rw[<-s] at q b8 H ⊢;have c1:Z _:=s;have c2:Z (∀b,b<e->∃a,ts[b]? = some a/\TkU fl ML fd MD a):=λb a4=>by
  have a5:b<ts.length:=by rw[<-s];exact a4
  exact⟨ts[b],Xt a5,a2 _ (YU a5)⟩
 have c3:=U a3;clear s a2 a3;obtain⟨m,t⟩:∃m,m=w.alloc (Obj.cells arr 154):=⟨_,rfl⟩;have J:Z (Kept w m):=by rw[t];exact(Xs _ _).alloc (E _) _
 have K:Z (BkQ m w.heap.size 0 fl ML/\BkQ m w.heap.size 576 fd MD):=by rw[t];exact a1.at w _
 have c4:Z _:=h.kept J.o;have c5:Z _:=h.lt;have L:=U (h.new (E _));have c6:Z _:=q.kept J.o;have c7:Z _:=H;clear h a1 q H;go_enter func164,ntmps164;go_wp2_with fail;rw[<-t];clear t;go_loopw [6] (λM a6=>∃(b:Nat) (a7:Value) (c:List Nat),b<=e/\M=.int .i64 b/\fM (dj fl ML) (dj fd MD) (kcB fl ML) (kcB fd MD) (ts.take b) c/\c.length<=48*b/\WC a6 x a7 (bs++c)/\WrB x m v a6 a7) (λM _=>e-(intOf M).toNat)
 case atStart=>exact⟨0,v,[],O,rfl,rfl,Xi,by rw[XN];exact c4.o,WrB.refl _ _ _⟩
 case round=>
  obtain⟨b,u,c,a4,rfl,a8,c8,a9,n⟩:=hrel;have N:Z _:=a8;have P:Z _:=a9;clear a8;have y:Z _:=n;have z:Z (BkQ wr w.heap.size 0 fl ML/\BkQ wr w.heap.size 576 fd MD):=⟨K.o.1.next n L.o,K.o.2.next n L.o⟩;have c9:Z (Off x u w.heap.size):=L.o.next n K.o.1.lt;clear a9 n;by_cases d0:b<e
  .obtain⟨a,Q,R⟩:=c2.o b d0
   obtain⟨l,f2,A,b0,B,b1⟩:=(c6.o.frS y.o.fr (λl d1=>(c7.o l d1).no)).cells b a Q
   injection A with d2 d3 d4
   clear d3;subst d2;subst d4;have d5:(b:Int)<(e:Int):=O;have f3:(0:Int)<=(b:Int):=O;have b2:Z (ts.take (b+1)=ts.take b++[a]):=by show ts.take (b+1)=_;rw[List.take_add_one,Q];rfl
   have S:=U R;have f4:(0:Int)<=(a.1:Int):=O;have f5:(a.1:Int)<256:=by have:=R.1;omega
   have f6:(bs++c).length<=2100000000:=by rw[Xv];omega
   clear R Q;by_cases o:a.2.1=0
   .have b3:=S.o.byte o
    have C:Z _:=b3;rw[o] at B;have d6:wr.cell? ⟨l,b*3+1,none⟩=some (.int .i64 0):=B;clear B b3;go_wp2_with fail;refine(mo x w.heap.size 0 ML a.1 fl u (bs++c) wr P.o z.o.1 I C.o.1 O).mono ?_;rintro r p ⟨rfl,j,f,g⟩;have d7:=C.o.2.2;have T:Z (fM (dj fl ML) (dj fd MD) (kcB fl ML) (kcB fd MD) (ts.take (b+1)) (c++kcB fl ML a.1)):=by show fM _ _ _ _ _ _;rw[b2.o];exact N.o.snoc C.o.2.1
    generalize kcB fl ML a.1=k at *;have V:Z (WC p x j (bs++(c++k))):=by rw[<-XY];exact f
    have W:Z _:=y.o.trans g;have X:(c++k).length<=48*(b+1):=by rw[Xv];omega
    clear f g b0 d6 b1 C d7;generalize c++k=Y at *;go_wp2;exact⟨⟨b+1,j,Y,O,Xj,T.o,X,V.o,W.o⟩,Xb⟩
   .have f7:((a.2.1:Int)==0)=false:=by rw[F];omega
    have d8:3<=a.2.1/\a.2.1<=258/\1<=a.2.2/\a.2.2<=32768/\(∀d,LSy a.2.1 d->dj fl ML (257+d))/\∀b,DSy a.2.2 b->dj fd MD b:=by
     rcases S.o.2 with a0|a0
     .exact absurd a0.1 o
     .exact a0
    obtain⟨d9,e0,e1,e2,b4,b5⟩:=d8;have e3:Z _:=o;have e4:Z _:=b4;have e5:Z _:=b5;clear o b4 b5;have b6:Z (∀d i,LSy a.2.1 d->DSy a.2.2 i->TkB (dj fl ML) (dj fd MD) (kcB fl ML) (kcB fd MD) a (cpB fl fd ML MD a.2.1 a.2.2 d i)/\(cpB fl fd ML MD a.2.1 a.2.2 d i).length<=48):=λd i D G=>Ig S.o e3.o D G
    go_wp2_with fail;refine(Ec x w.heap.size a.1 a.2.1 a.2.2 ML MD fl fd u (bs++c) wr P.o z.o.1 z.o.2 c9.o O d9 e0 e1 e2 I b9 e4.o e5.o).mono ?_;rintro r p ⟨rfl,d,i,D,G,j,f,g⟩;obtain⟨b7,e6⟩:=b6.o d i D G;have T:Z (fM (dj fl ML) (dj fd MD) (kcB fl ML) (kcB fd MD) (ts.take (b+1)) (c++cpB fl fd ML MD a.2.1 a.2.2 d i)):=by show fM _ _ _ _ _ _;rw[b2.o];exact N.o.snoc b7
    clear b7 D G b6;generalize cpB fl fd ML MD a.2.1 a.2.2 d i=k at *;have V:Z (WC p x j (bs++(c++k))):=by rw[<-XY];exact f
    have W:Z _:=y.o.trans g;have X:(c++k).length<=48*(b+1):=by rw[Xv];omega
    clear f g b0 B b1 e6;generalize c++k=Y at *;go_wp2;exact⟨⟨b+1,j,Y,O,Xj,T.o,X,V.o,W.o⟩,Xb⟩
  .have d5:¬(b:Int)<(e:Int):=O
   have e7:b=e:=O;subst e7;go_wp2_with fail;refine(mo x w.heap.size 0 ML 256 fl u (bs++c) wr P.o z.o.1 I c3.o (by rw[Xv];omega)).mono ?_;rintro r p ⟨rfl,j,f,g⟩;have e8:Z (Jd x w v bs fl ML fd MD ts p):=by
    have A:=c1.o;refine⟨c,?_,by rw[<-A];exact c8,j,by rw[<-XY];exact f,(y.o.trans g).pre J.o c5.o⟩
    have:=N.o
    rw[A,List.take_length] at this;exact this
   clear f g;go_wp2;go_end0
   exact⟨rfl,e8.o⟩
theorem jA:(zeroCells154).size=1152:=Xk
theorem iH:(prog.info? 154).map (·.size)=some 1152:=Xk
theorem ec(w:World)zs t n(h:zs.size=n):(w.alloc (Obj.cells zs t)).there w.heap.size 0 n:=by
 intro a b;refine⟨?_,XB _ _ _ _ rfl⟩;rw[Xr _ _ _ _ rfl]
 have:a<zs.size:=O
 show(zs[0+a]?).isSome=true
 rw[XD,Array.getElem?_eq_getElem this];rfl
theorem gD{w:World}{b o n}(h:w.there b 0 n)m(c:o+m<=n):w.there b o m:=λa d=>by
 have:=h (o+a) O
 rw[XD] at this;exact this
theorem mN{w W b o cs}(h:w.rangeAt b o cs)(k:Kept w W):W.rangeAt b o cs:=λa c d=>by
 have:=h a c d
 exact(k.cell (p:=⟨b,o+a,none⟩) (B _ _ this)).trans this
theorem yy{w:World}{b o c1 c2}(e:w.rangeAt b o c1)(f:w.rangeAt b (o+c1.length) c2):w.rangeAt b o (c1++c2):=λa d c=>by
 by_cases g:a<c1.length
 .rw[XV g] at c;exact e a d c
 .rw[XP O] at c
  have:=f _ d c
  rw[show o+c1.length+(a-c1.length)=o+a from O] at this;exact this
theorem BkE.bka{c1 c2 fl fd ML MD}(c:BkE c1 fl ML)(d:BkE c2 fd MD):BkA (c1++c2).toArray fl ML fd MD:=by
 have e:=c.1;intro a b;refine⟨⟨?_,?_⟩,?_,?_⟩
 .rw[List.getElem?_toArray,XV O];exact(c.2 a b).1
 .rw[List.getElem?_toArray,XV O];exact(c.2 a b).2
 .rw[List.getElem?_toArray,XP O,e,show 576+a-576=a from O];exact(d.2 a b).1
 .rw[List.getElem?_toArray,XP O,e,show 864+a-576=288+a from O];exact(d.2 a b).2
def rJ(cs:List Value)(fl:Nat->Nat)(ML:Nat)(fd:Nat->Nat)(MD:Nat):Prop:=∃c1 c2,cs=c1++c2/\BkE c1 fl ML/\BkE c2 fd MD
theorem rJ.len{cs fl fd ML MD}(h:rJ cs fl ML fd MD):cs.length=1152:=by
 obtain⟨c,d,rfl,a,b⟩:=h;rw[Xv,a.1,b.1]
theorem rJ.one{cs fl fd ML MD}(h:rJ cs fl ML fd MD):∀a∈cs,a.oneCell'=true:=by
 obtain⟨f,g,rfl,c,d⟩:=h;intro a e;rcases XW.1 e with b|b
 .exact c.one a b
 .exact d.one a b
theorem rJ.bka{cs fl fd ML MD}(h:rJ cs fl ML fd MD):BkA cs.toArray fl ML fd MD:=by
 obtain⟨c,d,rfl,a,b⟩:=h;exact a.bka b
def ED(fl:Nat->Nat)(ML:Nat)(fd:Nat->Nat)(MD:Nat)(r:Ending):Prop:=∃cs:List Value,r=.returned (.agg cs.toArray)/\rJ cs fl ML fd MD
theorem pB g1 n1 k1 g2 n2 k2 fl fd w(B:Byt w g1 n1 fl)(C:Byt w g2 n2 fd)(D:∀i,i<n1->fl i<=15)(F:∀i,i<n2->fd i<=15)(G:0<n1)(H:n1<=288)(I:0<n2)(J:n2<=288):Calls prog 136 #[.slice (some ⟨g1,0,none⟩) n1 k1,.slice (some ⟨g2,0,none⟩) n2 k2] w λd j=>ED fl n1 fd n2 d/\Kept w j:=by
 have Y:Z (∀c,Kept w c->Calls prog 159 #[.slice (some ⟨g1,0,none⟩) n1 k1] c λd j=>BkP fl n1 d/\Kept c j):=λc k=>nZ g1 n1 k1 fl c (B.kept k) D G H
 have a0:Z (∀c,Kept w c->Calls prog 159 #[.slice (some ⟨g2,0,none⟩) n2 k2] c λd j=>BkP fd n2 d/\Kept c j):=λc k=>nZ g2 n2 k2 fd c (C.kept k) F I J
 have K:Z (((w.alloc (Obj.cells zeroCells154 154)).alloc (Obj.cells zeroCells154 154)).there w.heap.size 0 1152):=World.there_alloc (ec _ _ _ _ jA) _;have M:Z (((w.alloc (Obj.cells zeroCells154 154)).alloc (Obj.cells zeroCells154 154)).there (w.heap.size+1) 0 1152):=by
  have:=ec (w.alloc (Obj.cells zeroCells154 154)) zeroCells154 154 1152 jA
  rw[World.size_alloc] at this;exact this
 have s:Z (Kept w ((w.alloc (Obj.cells zeroCells154 154)).alloc (Obj.cells zeroCells154 154))):=((Xs _ _).alloc (E _) _).alloc Xi _;clear B C G H I J D F;go_enter func136,ntmps136;go_upto_region 2 with fail
 generalize ((w.alloc (Obj.cells zeroCells154 154)).alloc (Obj.cells zeroCells154 154))=a1 at *;go_wp2_with fail;refine(Y.o a1 s.o).mono ?_;rintro d e ⟨⟨a,rfl,f⟩,m⟩;replace f:BkE a fl n1:=f;have t:=U f;have n:=f.1;have o:=U (cR M.o m);have p:(storeCells ⟨w.heap.size+1,0,none⟩ a).run prog e=.ok () (e.setCells (w.heap.size+1) 0 a):=bl (by rw[n];exact gD o.o 576 O) f.one;have N:Z ((e.setCells (w.heap.size+1) 0 a).rangeAt (w.heap.size+1) 0 a):=XO _ _ _ _ (by rw[n];exact gD o.o 576 O);have P:Z ((e.setCells (w.heap.size+1) 0 a).there (w.heap.size+1) 0 1152):=World.there_setCells o.o _ _ _;have Q:Z ((e.setCells (w.heap.size+1) 0 a).there w.heap.size 0 1152):=World.there_setCells (cR K.o m) _ _ _;have u:Z (Kept w (e.setCells (w.heap.size+1) 0 a)):=Kept.setCells O _ _ (s.o.trans m);clear m f o K M s;go_wp2_with fail;generalize e.setCells (w.heap.size+1) 0 a=a2 at *;clear p;refine(a0.o a2 u.o).mono ?_;rintro d g ⟨⟨b,rfl,h⟩,l⟩;replace h:BkE b fd n2:=h;have x:=U h;have y:=h.1;have z:=U (cR P.o l);have p:(storeCells ⟨w.heap.size+1,576,none⟩ b).run prog g=.ok () (g.setCells (w.heap.size+1) 576 b):=bl (by rw[y];exact gD z.o 576 O) h.one;have a3:Z ((g.setCells (w.heap.size+1) 576 b).rangeAt (w.heap.size+1) 0 (a++b)):=by
  refine yy (World.rangeAt_setCells_apart (mN N.o l) _ _ _ (R (L O))) ?_;rw[n];exact XO _ _ _ _ (by rw[y];exact gD z.o 576 O)
 have S:Z ((g.setCells (w.heap.size+1) 576 b).there w.heap.size 0 1152):=World.there_setCells (cR Q.o l) _ _ _;have a4:Z (Kept w (g.setCells (w.heap.size+1) 576 b)):=Kept.setCells O _ _ (u.o.trans l);have a5:Z (∀q∈a++b,q.oneCell'=true):=by
  intro q a6;rcases XW.1 a6 with A|A
  .exact t.o.one q A
  .exact x.o.one q A
 have T:Z ((a++b).length=1152):=by show _=_;rw[Xv];omega
 clear l h z P Q N u;go_wp2_with fail;generalize g.setCells (w.heap.size+1) 576 b=V at *;clear p;have W:Z ((prog.info? 154).map (·.size)=some (a++b).length):=by show _=_;rw[T.o];exact iH
 refine wp_load_mid 154 _ rfl (w.heap.size+1) 0 rfl (a++b) _ a3.o underlying154 rfl W.o ?_;have a7:Z (∀c,Kept w c->ED fl n1 fd n2 (.returned (.agg (a++b).toArray))/\Kept w c):=λc k=>⟨⟨a++b,rfl,a,b,rfl,t.o,x.o⟩,k⟩
 clear t x n y;generalize a++b=r at *;have X:=T.o;have p:(storeCells ⟨w.heap.size,0,none⟩ r).run prog V=.ok () (V.setCells w.heap.size 0 r):=bl (by rw[X];exact S.o) a5.o;go_wp2;have a8:=
  Yw _ _ _ _ r _ (XO _ _ _ _ (by rw[X];exact S.o)) underlying154 rfl W.o
 refine XA (v := .agg r.toArray) ?_ rfl (a7.o _ (Kept.setCells (E _) _ _ a4.o));exact ah rfl _ _ _ _ _ rfl a8
def IB(n:Nat)(f:Nat->Nat)(r:Ending):Prop:=∃cs:List Value,r=.returned (.agg cs.toArray)/\cs.length=n/\∀i,i<n->cs[i]? = some (.int .u8 (f i))
theorem EG{n f}:IB n f (.returned (.agg ((List.range n).map (u8C f n)).toArray)):=⟨_,rfl,Xi,λb a=>by rw[XQ,Yp a];show some (u8C f n b)=_;unfold u8C;rw[I a]⟩
theorem xQ{n}{f:Nat->Nat}{b:List Value}(k:b.length=n)(h:∀i,i<n->b[i]? = some (.int .u8 (f i))):∀c∈b,c.oneCell'=true:=by
 intro c d;obtain⟨e,g,j⟩:=List.getElem_of_mem d;have a:=h e O;rw[Xt g,j] at a
 injection a with a
 subst a;rfl
theorem pA{n b f cs W}(r:W.rangeAt b 0 cs)(h:∀i,i<n->cs[i]? = some (.int .u8 (f i))):Byt W b n f:=λa c=>by have:=r a _ (h a c);rw[XD] at this;exact this
theorem vs w:Calls prog 97 #[] w λb c=>ED aq 288 fe 32 b/\Kept w c:=by
 have J:Z (∀a,Calls prog 134 #[] a λb c=>IB 288 aq b/\Kept a c):=λa=>(tp a).mono (λb c m=>⟨by rw[m.1];exact EG,m.2⟩)
 have K:Z (∀a,Calls prog 135 #[] a λb c=>IB 32 fe b/\Kept a c):=λa=>(pd a).mono (λb c m=>⟨by rw[m.1];exact EG,m.2⟩)
 have L:Z (∀(a:World) (q r:Nat),Byt a q 288 aq->Byt a r 32 fe->Calls prog 136 #[.slice (some ⟨q,0,none⟩) 288 288,.slice (some ⟨r,0,none⟩) 32 32] a λb c=>ED aq 288 fe 32 b/\Kept a c):=λa q r Y a0=>pB q 288 288 r 32 32 aq fe a Y a0 (λM _=>by rcases gy M with⟨_,x⟩|⟨_,_,x⟩|⟨_,_,x⟩|⟨_,x⟩<;>omega) (λM _=>by show 5<=15;omega) O O O O
 obtain⟨f,s⟩:∃f,f=w.alloc (Obj.cells zeroCells154 154):=⟨_,rfl⟩;have N:Z (f.there w.heap.size 0 1152):=by rw[s];exact ec _ _ _ _ jA
 have P:Z (Kept w f):=by rw[s];exact(Xs _ _).alloc (E _) _
 go_enter func97,ntmps97;go_upto_region 1 with fail
 rw[<-s];clear s;go_wp2_with fail;refine(J.o f).mono ?_;rintro b g ⟨⟨j,rfl,y,z⟩,Q⟩;obtain⟨h,n⟩:∃h,h=g.alloc (Obj.cells zeroCells150 150):=⟨_,rfl⟩;have A:h.there g.heap.size 0 j.length:=by rw[n,y];exact ec _ _ _ _ (by rw[Ch];simp)
 have k:(storeCells ⟨g.heap.size,0,none⟩ j).run prog h=.ok () (h.setCells g.heap.size 0 j):=bl A (xQ y z);have R:=U (pA (XO _ _ _ _ A) z);have S:Z (Kept f (h.setCells g.heap.size 0 j)):=Q.trans (Kept.setCells (E _) _ _ (by rw[n];exact(Xs _ _).alloc (E _) _));rw[n] at k;clear A z Q;go_upto_region 2 with fail
 rw[<-n];clear k n;generalize h.setCells g.heap.size 0 j=a1 at *;generalize g.heap.size=a2 at *;generalize j.toArray=b0 at *;clear y;go_wp2_with fail;refine(K.o a1).mono ?_;rintro b d ⟨⟨i,rfl,B,C⟩,D⟩;obtain⟨e,o⟩:∃e,e=d.alloc (Obj.cells #[Value.int .u8 0,Value.int .u8 0,Value.int .u8 0,Value.int .u8 0,Value.int .u8 0,Value.int .u8 0,Value.int .u8 0,Value.int .u8 0,Value.int .u8 0,Value.int .u8 0,Value.int .u8 0,Value.int .u8 0,Value.int .u8 0,Value.int .u8 0,Value.int .u8 0,Value.int .u8 0,Value.int .u8 0,Value.int .u8 0,Value.int .u8 0,Value.int .u8 0,Value.int .u8 0,Value.int .u8 0,Value.int .u8 0,Value.int .u8 0,Value.int .u8 0,Value.int .u8 0,Value.int .u8 0,Value.int .u8 0,Value.int .u8 0,Value.int .u8 0,Value.int .u8 0,Value.int .u8 0] 182):=⟨_,rfl⟩;have F:e.there d.heap.size 0 i.length:=by rw[o,B];exact ec _ _ _ _ rfl
 have k:(storeCells ⟨d.heap.size,0,none⟩ i).run prog e=.ok () (e.setCells d.heap.size 0 i):=bl F (xQ B C);have G:Kept d (e.setCells d.heap.size 0 i):=Kept.setCells (E _) _ _ (by rw[o];exact(Xs _ _).alloc (E _) _);have T:=U (pA (XO _ _ _ _ F) C);have V:=U (R.o.kept (D.trans G));have H:Z (Kept f (e.setCells d.heap.size 0 i)):=S.o.trans (D.trans G);rw[o] at k;clear F C D G R S;go_upto_region 3 with fail
 rw[<-o];clear k o;generalize e.setCells d.heap.size 0 i=W at *;generalize d.heap.size=a3 at *;generalize i.toArray=b1 at *;clear B;have a4:=U (L.o W.drew a2 a3 (V.o.kept ((Kept.refl _).drewN 1)) (T.o.kept ((Kept.refl _).drewN 1)));clear J K L V T;have a5:=U (cR N.o H.o);have a6:Z (Kept w W):=P.o.trans H.o;clear N P H;go_region_held3 (λa=>True) (trivial) ((go_at_call 136;refine a4.o.mono ?_;rintro b X ⟨a7,t⟩;obtain⟨l,rfl,p⟩:=a7;have I:=p.len;have u:=cR (cR a5.o ((Kept.refl _).drewN 1)) t;have k:(storeCells ⟨w.heap.size,0,none⟩ l).run prog X=.ok () (X.setCells w.heap.size 0 l):=bl (by rw[I];exact u) p.one;replace u:Z _:=u;replace p:Z _:=p;replace t:Z _:=t))
 go_wp2;have a8:(prog.info? 154).map (·.size)=some l.length:=by rw[I];exact iH
 have a9:=
  Yw _ _ _ _ l _ (XO _ _ _ _ (by rw[I];exact u.o)) underlying154 rfl a8
 refine XA (v := .agg l.toArray) ?_ rfl ⟨⟨l,rfl,p.o⟩,Kept.setCells (E _) _ _ ((a6.o.drewN 1).trans t.o)⟩;exact ah rfl _ _ _ _ _ rfl a9
theorem Cm(n:Nat)(h:n<4294967296):bits BinOp.xor IntKind.u32 IntKind.u32.max (n:Int)=((4294967295-n:Nat):Int):=by
 rw[show IntKind.u32.max=((4294967295:Nat):Int) from rfl,u32_xor_nat 4294967295 n O h]
 have:4294967295 ^^^ n=4294967295-n:=by
  have a:(BitVec.allOnes 32 ^^^ BitVec.ofNat 32 n).toNat=(~~~ BitVec.ofNat 32 n).toNat:=by rw[BitVec.allOnes_xor]
  rw[BitVec.toNat_xor,BitVec.toNat_not,BitVec.toNat_allOnes,X0,X1 O] at a;exact a
 rw[this]
def BkF(W:World)(x:Nat):Prop:=∃cs,rJ cs aq 288 fe 32/\W.rangeAt x 3 cs
theorem BkF.kept{w W x}(h:BkF w x)(k:Kept w W):BkF W x:=by
 obtain⟨a,b,c⟩:=h;exact⟨a,b,mN c k⟩
theorem BkF.next{x w w1 v v1}(h:BkF w x)(k:WrB x w v w1 v1):BkF w1 x:=by
 obtain⟨a,b,c⟩:=h;exact⟨a,b,λd e f=>(k.far _ O).trans (c d e f)⟩
theorem Dr x b v bs w(h:WC w x v bs)(i:bs.length<=900000000):Calls prog 101 #[.pointer (some ⟨x,0,none⟩),.bool b] w λa c=>a=.returned (.tuple #[])/\WO x w v (bs++xb (cA b) 0 1) c:=by
 have f:Z (∀d:Int,d=(cA b:Int)->Calls prog 137 #[.pointer (some ⟨x,0,none⟩),.int .u32 d,.int .u64 1] w λa c=>a=.returned (.tuple #[])/\WO x w v (bs++xb (cA b) 0 1) c):=λd g=>by rw[g];exact bQ x (cA b) 1 v bs w h O (by unfold cA;split<;>omega) O
 clear h;go_enter func101,ntmps101;cases b
 all_goals
  go_wp2_with fail;refine(f.o _ (by rfl)).mono ?_;rintro a j ⟨rfl,e⟩;replace e:Z _:=e;clear f;go_wp2;go_end0
  exact⟨rfl,e.o⟩
def TkG(t:Nat×Nat×Nat):Prop:=t.1<256/\(t.2.1=0\/(3<=t.2.1/\t.2.1<=258/\1<=t.2.2/\t.2.2<=32768))
theorem ny{σ}(h:σ<288):dj aq 288 σ:=⟨h,by rcases gy σ with⟨_,a⟩|⟨_,_,a⟩|⟨_,_,a⟩|⟨_,a⟩<;>omega,by rcases gy σ with⟨_,a⟩|⟨_,_,a⟩|⟨_,_,a⟩|⟨_,a⟩<;>omega⟩
theorem TkG.fix{t}(h:TkG t):TkU aq 288 fe 32 t:=by
 refine⟨h.1,?_⟩;rcases h.2 with a|⟨b,c,d,e⟩
 .exact L ⟨a,ny (by have:=h.1;omega)⟩
 .exact R ⟨b,c,d,e,λi f=>ny (by have:=f.1;omega),λj g=>⟨by have:=g.1;omega,by show 1<=5;omega,by show 5<=15;omega⟩⟩
def FxO(x:Nat)(w:World)(v:Value)(bs:List Nat)(ts:List (Nat×Nat×Nat))(w':World):Prop:=∃bb,fM (dj aq 288) (dj fe 32) (kcB aq 288) (kcB fe 32) ts bb/\bb.length<=48*ts.length/\WO x w v (bs++(xb 1 0 2++(bb++kcB aq 288 256))) w'
theorem Bf x lv v bs ts w(h:WC w x v bs)(k:BkF w x)(l:TkX w lv ts)(m:∀a,lv.ownBlock=some a->Off x v a/\a<w.heap.size)(D:ts.length<=1048576)(n:∀b∈ts,TkG b)(R:bs.length<=900000000):Calls prog 141 #[.pointer (some ⟨x,0,none⟩),lv] w λf E=>f=.returned (.tuple #[])/\FxO x w v bs ts E:=by
 have o:=U (bQ x 1 2 v bs w h O O O);have p:=U k;have q:Z _:=l;have d:Z _:=m;have F:Z (∀b∈ts,TkU aq 288 fe 32 b):=λb G=>(n b G).fix
 clear h k l m n;go_enter func141,ntmps141;go_wp2_with fail;refine o.o.mono ?_;rintro f H ⟨rfl,r,s,c⟩;obtain⟨g,i,t⟩:=p.o.next c;have I:Z _:=s;have J:Z _:=c;have u:=U i;have y:=U t;have K:Z _:=q.o.frS c.fr (λa e=>(d.o a e).1.no);have z:Z ((prog.info? 154).map (·.size)=some g.length):=by show _=_;rw[i.len];exact iH
 have L:Z (∀a,lv.ownBlock=some a->Off x r a):=λa e=>(d.o a e).1.next c (d.o a e).2
 clear s c i t o p q d;go_wp2_with fail;refine wp_load_mid 154 _ rfl x 3 rfl g _ y.o underlying154 rfl z.o ?_;go_wp2_with fail;refine(wh x 288 32 aq fe g.toArray lv r _ ts H I.o u.o.bka K.o L.o D (by rw[Xv,aU];omega) O O F.o (ny O)).mono ?_;rintro f M ⟨rfl,N,A,B,P,j,C⟩;have Q:Z (FxO x w v bs ts M):=⟨N,A,B,P,by rw[XY] at j;exact j,J.o.trans C⟩;clear j C u y z A B;go_wp2;go_end0
 exact⟨rfl,Q.o⟩
theorem LAt.off{x w w1 k dv v v1 l}(h:LAt w k dv l)(r:WrB x w v w1 v1)(b:∀a,ai dv=some a->Off x v a):LAt w1 k dv l:=h.fr r.fr (λa c=>(b a c).no)
def ym(n j:Nat)(d:List Nat):List Nat:=List.replicate ((8-j%8)%8) 0++(xb n 0 16++(xb (4294967295-n) 0 16++bW d))
theorem fy(l:List Int){f k}(b:f<=k)(a:k<l.length):(l.take (k+1)).drop f=(l.take k).drop f++[l.getD k 0]:=by
 rw[List.take_add_one,List.drop_append_of_le_length Xo,G,Xt a];rfl
theorem yl x f dv b l bs w(h:WC w x b bs)(G:LAt w .u8 dv l)(j:isBytes l)(L:∀p,ai dv=some p->Off x b p)(e7:l.length<=65535)(H:f<=l.length)(e8:bs.length<=900000000):Calls prog 138 #[.pointer (some ⟨x,0,none⟩),dv,.int .i64 f] w λd g=>d=.returned (.tuple #[])/\WO x w b (bs++(xb 0 0 2++ym (l.length-f) (bs.length+2) (nl (l.drop f)))) g:=by
 obtain⟨e9,f0,rfl⟩:=G.form;obtain⟨m,y⟩:∃m,m=bs++xb 0 0 2:=⟨_,rfl⟩;obtain⟨n,z⟩:∃n,n=m++List.replicate ((8-m.length%8)%8) 0:=⟨_,rfl⟩;obtain⟨o,A⟩:∃o,o=n++xb (l.length-f) 0 16:=⟨_,rfl⟩;obtain⟨i,C⟩:∃i,i=o++xb (4294967295-(l.length-f)) 0 16:=⟨_,rfl⟩;have M:m.length=bs.length+2:=by rw[y,Xv,aU]
 have c3:n.length<=bs.length+16:=by rw[z,Xv,XE];omega
 have c4:o.length<=bs.length+32:=by rw[A,Xv,aU];omega
 have c5:i.length<=bs.length+48:=by rw[C,Xv,aU];omega
 have c6:Z (bs++(xb 0 0 2++ym (l.length-f) (bs.length+2) (nl (l.drop f)))=i++bW (nl ((l.take l.length).drop f))):=by
  show _=_
  rw[List.take_length,C,A,z,M,y];unfold ym;simp only[XY]
 have N:Z (Calls prog 137 #[.pointer (some ⟨x,0,none⟩),.int .u32 0,.int .u64 2] w λd g=>d=.returned (.tuple #[])/\WO x w b m g):=by rw[y];exact bQ x 0 2 b bs w h O O O
 have P:Z (∀a b,WC a x b m->Calls prog 103 #[.pointer (some ⟨x,0,none⟩)] a λd g=>d=.returned (.tuple #[])/\WO x a b n g):=λa b j=>by rw[z];exact Bj x b m a j O
 have Q:Z (∀a b (e:Int),e=((l.length-f:Nat):Int)->WC a x b n->Calls prog 137 #[.pointer (some ⟨x,0,none⟩),.int .u32 e,.int .u64 16] a λd g=>d=.returned (.tuple #[])/\WO x a b o g):=λa b e k j=>by rw[A,k];exact bQ x (l.length-f) 16 b n a j O O O
 have I:Z (∀a b (e:Int),e=((4294967295-(l.length-f):Nat):Int)->WC a x b o->Calls prog 137 #[.pointer (some ⟨x,0,none⟩),.int .u32 e,.int .u64 16] a λd g=>d=.returned (.tuple #[])/\WO x a b i g):=λa b e k j=>by rw[C,k];exact bQ x (4294967295-(l.length-f)) 16 b o a j O O O
 have c7:Z (∀(a:World) b (c e:Nat),f<=c->c<l.length->l.getD c 0=(e:Int)->e<256->WC a x b (i++bW (nl ((l.take c).drop f)))->Calls prog 137 #[.pointer (some ⟨x,0,none⟩),.int .u32 e,.int .u64 8] a λd g=>d=.returned (.tuple #[])/\WO x a b (i++bW (nl ((l.take (c+1)).drop f))) g):=λa b c e H c8 k f1 j=>by
  rw[fy l H c8,bR,iO,k,<-XY];exact bQ x e 8 b _ a j O O (by rw[Xv,fq,dU,Yn,Yd];omega)
 have r:=Cm (l.length-f) O;rw[show((l.length-f:Nat):Int)=(l.length:Int)-(f:Int) from O] at r;obtain⟨R,S⟩:∃R,R=4294967295-(l.length-f):=⟨_,rfl⟩;rw[<-S] at I r;have T:Z _:=G;have V:Z _:=L;have c9:=U j;have d0:Z (i++bW (nl ((l.take f).drop f))=i):=by
  show _=_
  rw[List.drop_eq_nil_of_le Xo];exact XN _
 clear h G L j y z A C M c3 c4 c5 S;go_enter func138,ntmps138;go_wp2_with fail;refine N.o.mono ?_;rintro d d1 ⟨rfl,d2,W,X⟩;have Y:Z _:=W;have a0:Z _:=X;clear W X N;go_wp2_with fail;refine(P.o d1 d2 Y.o).mono ?_;rintro d d3 ⟨rfl,d4,a1,a2⟩;have a3:Z _:=a1;have a4:Z _:=a0.o.trans a2;clear a1 a2 P Y a0;go_wp2_with fail;refine(Q.o d3 d4 _ (by first|omega|(rw[Yq];omega)) a3.o).mono ?_;rintro d d5 ⟨rfl,d6,a5,a6⟩;have a7:Z _:=a5;have a8:Z _:=a4.o.trans a6;clear a5 a6 a3 a4 Q;go_wp2_with fail;refine(I.o d5 d6 _ (by first|exact r|rfl|(rw[r])) a7.o).mono ?_;rintro d f2 ⟨rfl,d7,a9,b0⟩;have b1:Z _:=a9;have b2:Z _:=a8.o.trans b0;clear a9 b0 a7 a8 I r;go_wp2;go_loopw [7] (λJ a=>∃(c:Nat) (b3:Value),f<=c/\c<=l.length/\J=.int .i64 c/\WC a x b3 (i++bW (nl ((l.take c).drop f)))/\WrB x w b a b3) (λJ _=>l.length-(intOf J).toNat)
 case atStart=>exact⟨f,d7,E _,H,rfl,by rw[d0.o];exact b1.o,b2.o⟩
 case round=>
  clear b1 b2;obtain⟨c,D,d8,f3,rfl,b4,b5⟩:=hrel;have s:Z _:=b4;have q:Z _:=b5;clear b4 b5;by_cases F:c<l.length
  .obtain⟨p,d9,rfl,t⟩:=(T.o.off q.o V.o).cellAt c F
   have e0:=c9.o _ (az F);obtain⟨u,k⟩:∃e:Nat,l.getD c 0=(e:Int):=⟨(l.getD c 0).toNat,O⟩;rw[k] at t;have b6:IntKind.u32.wrap (u:Int)=(u:Int):=by rw[Yq];omega
   have e1:(c:Int)<(l.length:Int):=O;have f4:(0:Int)<=(c:Int):=O;have b7:Z (Off x D p):=(V.o p rfl).next q.o (by
    obtain⟨f5,f6,v,e2⟩:=T.o.cellAt c F
    injection v with v
    injection v with v _
    rw[v];exact B _ _ e2)
   have b8:Z (Calls prog 137 #[.pointer (some ⟨x,0,none⟩),.int .u32 (IntKind.u32.wrap (u:Int)),.int .u64 8] wr.drew λd g=>d=.returned (.tuple #[])/\WO x wr.drew D (i++bW (nl ((l.take (c+1)).drop f))) g):=by rw[b6];exact c7.o wr.drew D c u d8 F k O (s.o.kept ((Kept.refl _).drewN 1))
   clear e0 k b6;go_wp2_with fail;go_region_held3 (λa=>a.cell? ⟨p,d9+c,none⟩=some (.int .u8 u)) (first|exact t|exact b9|go_keep) ((go_at_call 137;refine b8.o.mono ?_;rintro d f7 ⟨rfl,e3,c0,c1⟩;have K:=c1.pre ((Kept.refl _).drewN 1) s.o.lt;have b9:=(K.cellK b7.o (B _ _ t)).trans t))
   have e4:Z _:=c0;have e5:Z _:=q.o.trans K;clear c0 c1 K t b9 b8 s q b7;go_wp2;exact⟨⟨c+1,e3,O,O,Xj,e4.o,e5.o⟩,Xb⟩
  .have c2:c=l.length:=O
   have e1:¬(c:Int)<(l.length:Int):=O;have e6:Z (WO x w b (i++bW (nl ((l.take l.length).drop f))) wr):=⟨D,by rw[<-c2];exact s.o,q.o⟩;clear c2 s q;go_wp2;go_end0
   exact⟨rfl,by rw[c6.o];exact e6.o⟩
theorem LnQ.same{c c' n M g}(h:LnQ c n M g)(e:∀a,a<n->c a=c' a):LnQ c' n M g:=
 ⟨h.le,λa b j=>h.used a b (by rw[e a b];exact j),h.kind,λa d f i k l m=>h.two a d f i k (by rw[e a f];exact l) (by rw[e d i];exact m)⟩
def LnP(w:World)(c:Nat->Int)(n:Nat)(r:Ending)(w':World):Prop:=∃(g:Nat) (f:Nat->Nat),r=.returned (.slice (some ⟨g,0,none⟩) n n)/\w.heap.size<=g/\Byt w' g n f/\LnQ c n 15 f
theorem oT b o n c w(h:∀j,j<n->w.cell? ⟨b,o+j,none⟩=some (.int .i64 (c j)))(f:∀j,c j<=1048577)(s:0<n)(t:n<=1024):Calls prog 162 #[.slice (some ⟨b,o,none⟩) n n,.int .i64 15] w λd a=>LnP w c n d a/\Kept w a:=by
 have e:=oS (.slice (some ⟨b,o,none⟩) n n) ((List.range n).map c) 15 1048577 w (gz h n) Xf Xf O O O (λu g=>by
  obtain⟨i,_,rfl⟩:=YP.1 g;exact f i)
 rw[List.length_map,List.length_range] at e;refine e.mono ?_;rintro d a ⟨⟨k,v,rfl,l,m,x,p⟩,q⟩;exact⟨⟨k,_,rfl,l,p,(AS m O O O).same (λy r=>fU n c r)⟩,q⟩
theorem Iw:∀a,a<259->3<=a->∃j,j<29/\lnT.getD j 0<=a/\(j=28\/a<lnT.getD (j+1) 0):=Xl
theorem Ef{ts c fl fd}(h:CntK ts ts.length c)(e:LnQ c 286 15 fl)(j:LnQ (λi=>c (286+i)) 30 15 fd)(u:ts≠[])(k:∀a∈ts,TkG a):LDK fl fd/\∀a∈ts,TkU fl 286 fd 30 a:=by
 have l:∀a∈ts,∃i,i<ts.length/\ts[i]? = some a:=λa m=>by
  obtain⟨i,d,f⟩:=List.getElem_of_mem m;exact⟨i,d,by rw[Xt d,f]⟩
 have v:∃g,g<286/\g≠256/\1<=c g:=by
  match ts,u,k,l with
  | a::F,_,k,l=>
   obtain⟨i,d,f⟩:=l a Xi;obtain⟨s,b⟩:=k a Xi;rcases b with b|⟨b,G,_⟩
   .exact⟨a.1,O,O,h.lit i a d f b⟩
   .obtain⟨n,w,x⟩:=Iw a.2.1 O b
    exact⟨257+n,O,O,(h.cpy i a d f O).1 n ⟨w,x⟩⟩
 obtain⟨g,y,z,A⟩:=v;refine⟨⟨e.le,j.le,e.two g 256 y O z A h.eob,?_,j.kind⟩,λa m => ?_⟩
 .have:=e.used 256 O h.eob
  omega
 .obtain⟨i,d,f⟩:=l a m
  obtain⟨s,b⟩:=k a m;refine⟨s,?_⟩;by_cases o:a.2.1=0
  .exact L ⟨o,O,e.used _ O (h.lit i a d f o),e.le _ O⟩
  .rcases b with b|⟨B,C,D,E⟩
   .exact absurd b o
   .have t:=h.cpy i a d f o
    exact R ⟨B,C,D,E,λn p=>⟨by have:=p.1;omega,e.used _ (by have:=p.1;omega) (t.1 n p),e.le _ (by have:=p.1;omega)⟩,λr q=>⟨q.1,j.used r q.1 (t.2 r q),j.le r q.1⟩⟩
def DyO(x:Nat)(w:World)(v:Value)(bs:List Nat)(ts:List (Nat×Nat×Nat))(w':World):Prop:=∃a b n f st fl fd bb,Iz fl fd a b n f st/\(hdB a b n f st).length<=4500/\fM (dj fl 286) (dj fd 30) (kcB fl 286) (kcB fd 30) ts bb/\bb.length<=48*ts.length/\dj fl 286 256/\WO x w v (bs++(xb 2 0 2++(hdB a b n f st++(bb++kcB fl 286 256)))) w'
theorem pw{d:World}{b o n m cs}{c:Nat->Int}(e:d.rangeAt b 0 cs)(h:∀i,i<m->cs[i]? = some (.int .i64 (c i)))(f:o+n<=m):∀a,a<n->d.cell? ⟨b,o+a,none⟩=some (.int .i64 (c (o+a))):=λa g=>by
 have:=e _ _ (h (o+a) O)
 rw[XD] at this;exact this
theorem Ee{b:List Value}{c:Nat->Int}(k:b.length=316)(h:∀i,i<316->b[i]? = some (.int .i64 (c i))):∀d∈b,d.oneCell'=true:=by
 intro d e;obtain⟨f,g,j⟩:=List.getElem_of_mem e;have a:=h f O;rw[Xt g,j] at a
 injection a with a
 subst a;rfl
theorem Ie x lv v bs ts w(h:WC w x v bs)(P:TkX w lv ts)(b8:∀b,lv.ownBlock=some b->Off x v b/\b<w.heap.size)(b9:ts.length<=1048576)(c0:ts≠[])(Q:∀R∈ts,TkG R)(i0:bs.length<=800000000):Calls prog 140 #[.pointer (some ⟨x,0,none⟩),lv] w λd S=>d=.returned (.tuple #[])/\DyO x w v bs ts S:=by
 have c1:=U (vF lv ts w P h.tab b9 Q);have g2:Z (∀T,Kept w T->WC T x v bs):=λT g3=>h.kept g3
 have y:Z (∀b,w.heap.size<=b->Off x v b):=λb g4=>h.new g4
 have g5:Z _:=h.lt;have g6:Z _:=P;have V:Z _:=b8;have W:Z (ts≠[]/\∀R∈ts,TkG R):=⟨c0,Q⟩;clear h P b8 c0 Q;go_enter func140,ntmps140;go_wp2_with fail;refine c1.o.mono ?_;rintro d c ⟨⟨f,k,rfl,X,z,Y⟩,c2⟩;have c3:Z _:=Y;have a0:Z (∀a,k a<=1048577):=λa=>by have:=(Y.bd a).2;omega
 clear Y;obtain⟨e,q⟩:∃e,e=c.alloc (Obj.cells zeroCells210 210):=⟨_,rfl⟩;have a1:e.there c.heap.size 0 f.length:=by rw[q,X];exact ec _ _ _ _ (by rw[pG];simp)
 have r:(storeCells ⟨c.heap.size,0,none⟩ f).run prog e=.ok () (e.setCells c.heap.size 0 f):=bl a1 (Ee X z);have l:=XO _ _ _ _ a1;have c4:Z (∀a,a<286->(e.setCells c.heap.size 0 f).cell? ⟨c.heap.size,0+a,none⟩=some (.int .i64 (k a))):=λa A=>by have:=pw (o:=0) (n:=286) l z O a A;rw[XD] at this ⊢;exact this
 have a2:Z (∀a,a<30->(e.setCells c.heap.size 0 f).cell? ⟨c.heap.size,286+a,none⟩=some (.int .i64 (k (286+a)))):=pw l z O;have a3:Z (Kept w (e.setCells c.heap.size 0 f)):=c2.trans (Kept.setCells (E _) _ _ (by rw[q];exact(Xs _ _).alloc (E _) _));rw[q] at r;clear a1 z c2 l c1;go_upto_region 1 with fail
 rw[<-q];clear r q;generalize e.setCells c.heap.size 0 f=g7 at *;generalize c.heap.size=C at *;generalize f.toArray=i1 at *;clear X;go_wp2_with fail;refine(oT C 0 286 k g7 c4.o a0.o O O).mono ?_;rintro d a4 ⟨⟨D,s,rfl,c5,c6,c7⟩,a5⟩;have c8:=U c6;have c9:Z _:=c7;clear c7;have d0:Z _:=Xz a3.o.size c5;have a6:Z (Kept w a4):=a3.o.trans a5;have d1:Z (∀a,a<30->a4.cell? ⟨C,286+a,none⟩=some (.int .i64 (k (286+a)))):=λa A=>(a5.cell (p:=⟨C,286+a,none⟩) (B _ _ (a2.o a A))).trans (a2.o a A)
 clear c6 c5 a5 c4 a2 a3;go_wp2_with fail;refine(oT C 286 30 (λg8=>k (286+g8)) a4 d1.o (λa=>a0.o _) O O).mono ?_;rintro d t ⟨⟨F,G,rfl,d2,d3,d4⟩,a7⟩;have H:=U d3;have m:Z _:=Ef c3.o c9.o d4 W.o.1 W.o.2;clear d4 c9 c3 W a0;have d5:Z _:=Xz a6.o.size d2;have I:Z (Kept w t):=a6.o.trans a7;have J:=U (c8.o.kept a7);have a8:=J.o.lt O;have a9:=H.o.lt O;clear d3 d2 a7 d1 a6 c8;have d6:Z (Calls prog 137 #[.pointer (some ⟨x,0,none⟩),.int .u32 2,.int .u64 2] t λd S=>d=.returned (.tuple #[])/\WO x t v (bs++xb 2 0 2) S):=bQ x 2 2 v bs t (g2.o t I.o) O O O;go_wp2_with fail;refine d6.o.mono ?_;rintro d g9 ⟨rfl,h0,d7,K⟩;have d8:Z _:=d7;have d9:Z _:=K;have e0:=U (J.o.fr (λa=>K.cellK (y.o D d0.o) a8));have e1:=U (H.o.fr (λa=>K.cellK (y.o F d5.o) a9));clear d7 K d6;go_wp2_with fail;refine(Ds x D F s G h0 _ g9 d8.o e0.o e1.o m.o.1 (by rw[Xv,aU];omega)).mono ?_;rintro d e2 ⟨rfl,⟨e3,e4,e5,e6,e7,e8,e9,h1,b0,f0⟩⟩;obtain⟨f1,b1⟩:∃f1,f1=hdB e3 e4 e5 e6 e7:=⟨_,rfl⟩;have f2:Z _:=b1;have h2:Z _:=e8;rw[<-b1] at b0 e9;clear b1 e8;have b2:Z _:=b0;have L:Z _:=d9.o.trans f0;have f3:=U (J.o.fr (λa=>L.o.cellK (y.o D d0.o) a8));have f4:=U (H.o.fr (λa=>L.o.cellK (y.o F d5.o) a9));clear b0 f0 d8 d9 e0 e1 J H a8 a9;go_wp2_with fail;refine(pB D 286 286 F 30 30 s G e2 f3.o f4.o m.o.1.l15 m.o.1.d15 O O O O).mono ?_;rintro d i ⟨⟨g,rfl,M⟩,f5⟩;have b3:=M.len;obtain⟨j,u⟩:∃j,j=i.alloc (Obj.cells zeroCells154 154):=⟨_,rfl⟩;have b4:j.there i.heap.size 0 g.length:=by rw[u,b3];exact ec _ _ _ _ jA
 have r:(storeCells ⟨i.heap.size,0,none⟩ g).run prog j=.ok () (j.setCells i.heap.size 0 g):=bl b4 M.one;have l:=U (XO _ _ _ _ b4);have b5:Kept e2 (j.setCells i.heap.size 0 g):=f5.trans (Kept.setCells (E _) _ _ (by rw[u];exact(Xs _ _).alloc (E _) _));have h3:Z _:=b2.o.kept b5;have b6:Z _:=L.o.kept b5 b2.o.lt;have f6:=U M;have f7:Z ((prog.info? 154).map (·.size)=some g.length):=by show _=_;rw[b3];exact iH
 rw[u] at r;clear b4 f5 f3 f4 M b5 b2 L;go_upto_region 6 with fail
 rw[<-u];clear r u;generalize j.setCells i.heap.size 0 g=h4 at *;generalize i.heap.size=h5 at *;clear b3;go_wp2_with fail;refine wp_load_mid 154 _ rfl h5 0 rfl g _ l.o underlying154 rfl f7.o ?_;go_wp2_with fail;have f8:Z (dj s 286 256):=⟨O,by have:=m.o.1.eob;omega,m.o.1.l15 256 O⟩;refine(wh x 286 30 s G g.toArray lv h1 _ ts h4 h3.o f6.o.bka ((g6.o.kept I.o).frS b6.o.fr (λb N=>(V.o b N).1.no)) (λb N=>(V.o b N).1.next b6.o (Xq (V.o b N).2 I.o.size)) b9 (by simp only[Xv,aU];omega) O O m.o.2 f8.o).mono ?_;rintro d h6 ⟨rfl,h7,f9,g0,h8,b7,g1⟩;have h9:Z (DyO x w v bs ts h6):=⟨e3,e4,e5,e6,e7,s,G,h7,h2.o,by rw[<-f2.o];exact e9,f9,g0,f8.o,h8,by rw[<-f2.o];simp only[XY] at b7 ⊢;exact b7,(b6.o.trans g1).pre I.o g5.o⟩;clear b7 g1 f6 l f7 f9 g0;go_wp2;go_end0
 exact⟨rfl,h9.o⟩
theorem IX l i:(nl l).getD i 0=(l.getD i 0).toNat:=by
 unfold nl;rw[G,G,XQ];cases l[i]? <;> rfl
theorem jK l k:nl (l.take k)=(nl l).take k:=List.map_take ..
theorem qz l k:nl (l.drop k)=(nl l).drop k:=List.map_drop ..
theorem fM.mono{PL PD f g:Nat->Prop}{kl kd}(c:∀a,PL a->f a)(h:∀a,PD a->g a):∀{ts:List (Nat×Nat×Nat)} {b:List Nat},fM PL PD kl kd ts b->fM f g kl kd ts b
 | [],b,d=>d
 | t::ts,b,d=>by
  obtain⟨i,j,k,l,m⟩:=d;refine⟨i,j,k,?_,fM.mono c h m⟩;rcases l with⟨e,n,o⟩|⟨e,p,q,r,s,u,v,w,x,y,z,A⟩
  .exact L ⟨e,c _ n,o⟩
  .exact R ⟨e,p,q,r,s,u,v,w,x,c _ y,h _ z,A⟩
theorem pT{l}{wd:Nat}:∀{ts:List (Nat×Nat×Nat)} {a b:Nat},b<=l.length->TkR l (wd:Int) a ts b->TkD wd ((nl l).take a) ts (((nl l).take b).drop a)/\a<=b
 | [],a,b,i,f=>by
  have s:a=b:=f;subst s;exact⟨List.drop_eq_nil_of_le Xo,E _⟩
 | t::ts,a,b,i,f=>by
  obtain⟨u,v⟩:=f;obtain⟨w,x⟩:=pT i v;have I:=dU l;have y:((nl l).take b).drop a=((nl l).take (a+max t.2.1 1)).drop a++((nl l).take b).drop (a+max t.2.1 1):=by
   have z:((nl l).take b).drop a=(((nl l).take b).drop a).take (max t.2.1 1)++(((nl l).take b).drop a).drop (max t.2.1 1):=(X7 _ _).symm;rw[z,YV]
   congr 1
   rw[List.take_drop,List.take_take,Nat.min_eq_left x]
  have g:(nl l).take a++((nl l).take (a+max t.2.1 1)).drop a=(nl l).take (a+max t.2.1 1):=by
   have j:=X7 a ((nl l).take (a+max t.2.1 1));rw[List.take_take,Nat.min_eq_left O] at j;exact j
  refine⟨⟨_,_,y,?_,by rw[g];exact w⟩,O⟩;rcases u with⟨k,m,h,n⟩|⟨k,m,h,n,A,B,J,C⟩
  .refine L ⟨k,?_,h⟩
   have D:a<l.length:=O;have d:a+max t.2.1 1=a+1:=O;rw[d,<-jK,<-qz,fy l (E a) D,n,List.drop_eq_nil_of_le Xo];rfl
  .have d:a+max t.2.1 1=a+t.2.1:=O
   rw[d];have o:(((nl l).take (a+t.2.1)).drop a).length=t.2.1:=by rw[Yn,Yd];omega
   have p:((nl l).take a).length=a:=Xo;rw[d] at g;refine R ⟨m,h,o,A,by rw[p];exact B,O,λc q => ?_⟩;rw[o] at q;rw[g,p];have r:∀e,e<a+t.2.1->((nl l).take (a+t.2.1)).getD e 0=(l.getD e 0).toNat:=λe F=>by
    rw[<-IX,G,List.getElem?_take_of_lt F,<-G]
   have H:(((nl l).take (a+t.2.1)).drop a).getD c 0=((nl l).take (a+t.2.1)).getD (a+c) 0:=by
    rw[G,Y1,<-G]
   rw[H,r (a+c) O,r (a+c-t.2.2) O,C c q]
theorem TkR.good{l wd}(j:wd<=32768):∀{ts:List (Nat×Nat×Nat)} {a b:Nat},TkR l wd a ts b->∀c∈ts,TkG c
 | [],a,b,_,c,d=>by simp at d
 | u::ts,a,b,g,c,d=>by
  rcases Y4.1 d with e|e
  .rw[e]
   rcases g.1 with⟨h,i,f,k⟩|⟨h,i,f,k,m,n,o,p⟩
   .exact⟨f,L h⟩
   .exact⟨O,R ⟨i,f,m,O⟩⟩
  .exact TkR.good j g.2 c e
theorem CG{n j d}(a:n=d.length)(h:d.length<=65535):ym n j d=List.replicate ((8-j%8)%8) 0++(xb (d.length+(65535-d.length)*65536) 0 32++bW d):=by
 unfold ym;subst a
 congr 1
 rw[<-XY]
 congr 1
 have b:xb (4294967295-d.length) 0 16=xb (65535-d.length) 0 16:=by
  rw[<-pI (4294967295-d.length) 16,show(4294967295-d.length)%2^16=65535-d.length from O]
 rw[b];exact fR d.length 16 (65535-d.length) 16 O
theorem wi:∀{ts:List (Nat×Nat×Nat)} {a:List Nat},fM (dj aq 288) (dj fe 32) (kcB aq 288) (kcB fe 32) ts a->(∀b∈ts,b.1<256)->fM (λc=>c<286) (λc=>c<30) (kcB aq 288) (kcB fe 32) ts a
 | [],a,d,_=>d
 | b::ts,a,d,f=>by
  obtain⟨i,j,k,l,m⟩:=d;refine⟨i,j,k,?_,wi m (λn o=>f n (by simp[o]))⟩;have x:=f b Xi;rcases l with⟨e,y,p⟩|⟨e,g,q,r,s,t,h,u,v,z,A,w⟩
  .exact L ⟨e,by show b.1<286;omega,p⟩
  .exact R ⟨e,g,q,r,s,t,h,u,v,by show 257+g<286;omega,h,w⟩
def BlO(x:Nat)(w:World)(v:Value)(bs:List Nat)(wd:Nat)(last:Bool)(l:List Int)(f:Nat)(w':World):Prop:=∃bb,bb.length<=50*(l.length-f)+4700/\vT wd (nl (l.take f)) last (bs.length%8) bb (nl (l.drop f))/\WO x w v (bs++bb) w'
theorem KU{x w w' v bs wd last l f}(c:isBytes l)(g:l.length<=65535)(i:f<=l.length)(h:WO x w v (bs++xb (cA last) 0 1++(xb 0 0 2++ym (l.length-f) ((bs++xb (cA last) 0 1).length+2) (nl (l.drop f)))) w'):BlO x w v bs wd last l f w':=by
 have a:(nl (l.drop f)).length=l.length-f:=by rw[dU,Yn]
 have b:=KX (wd:=wd) (last:=last) (j:=bs.length%8) (done:=nl (l.take f)) (d:=nl (l.drop f)) (YD _ O) O (mU (λx e=>c x (Yu e)));rw[CG a.symm O,Xv,aU] at h;rw[show(bs.length%8+3)%8=(bs.length+1+2)%8 from O] at b;refine⟨_,?_,b,h.eq (by simp only[XY])⟩;simp only[Xv,aU,XE,fq,a];omega
theorem KT{x w w' v bs}{wd:Nat}{last l f ts}(g:∀b∈ts,TkG b)(i:TkR l (wd:Int) f ts l.length)(o:ts.length<=l.length-f)(h:FxO x w v (bs++xb (cA last) 0 1) ts w'):BlO x w v bs wd last l f w':=by
 obtain⟨p,k,q,m⟩:=h;obtain⟨e,_⟩:=pT (E _) i;rw[<-jK,<-jK,<-qz,List.take_length] at e;refine⟨_,?_,(KW (wd:=wd) (last:=last) (j:=bs.length%8) (done:=nl (l.take f)) (d:=nl (l.drop f)) (PL:=λa=>a<286) (PD:=λa=>a<30) (YD _ O) (λa c=>Be a c) (λa c=>yY a c) (by show 256<286;omega) e (wi k (λb n=>(g b n).1))),m.eq (by simp only[XY])⟩
 have:(kcB aq 288 256).length=7:=by rw[gH];rfl
 simp only[Xv,aU,this];omega
theorem KS{x w w' v bs}{wd:Nat}{last l f ts}(c:TkR l (wd:Int) f ts l.length)(n:ts.length<=l.length-f)(h:DyO x w v (bs++xb (cA last) 0 1) ts w'):BlO x w v bs wd last l f w':=by
 obtain⟨o,p,q,r,s,t,u,y,e,z,g,A,i,k⟩:=h;obtain⟨b,_⟩:=pT (E _) c;rw[<-jK,<-jK,<-qz,List.take_length] at b;refine⟨_,?_,(KV (wd:=wd) (last:=last) (j:=bs.length%8) (done:=nl (l.take f)) (d:=nl (l.drop f)) (YD _ O) e b (g.mono (λm a=>⟨a.1,a.2.1⟩) (λm a=>⟨a.1,a.2.1⟩))),k.eq (by simp only[XY])⟩
 have:=i.2.2
 simp only[Xv,aU,gH];omega
theorem BX(x f i wd:Nat)b last dv v l bs w(h:WC w x v (bs++xb (cA last) 0 1))(D:BkF w x)(F:LAt w .u8 dv l)(G:isBytes l)(H:∀a,ai dv=some a->Off x v a)(I:l.length<=65535)(b4:f<l.length)(b5:bs.length<=700000000)(b6:i<=2)(b7:wd<=32768):Calls prog 102 #[.pointer (some ⟨x,0,none⟩),.int .i64 i,dv,.int .i64 f,.agg #[.int .i64 wd,.int .i64 b]] w λj W=>j=.returned (.tuple #[])/\BlO x w v bs wd last l f W:=by
 obtain⟨c,k⟩:∃c,c=w.alloc (Obj.cells #[.int .i64 wd,.int .i64 b] 161):=⟨_,rfl⟩;have e:Z (Kept w c):=by rw[k];exact(Xs _ _).alloc (E _) _
 have J:c.cell? ⟨w.heap.size,0,none⟩=some (.int .i64 wd):=by rw[k];exact(Xr _ _ _ _ rfl).trans rfl
 have K:c.cell? ⟨w.heap.size,1,none⟩=some (.int .i64 b):=by rw[k];exact(Xr _ _ _ _ rfl).trans rfl
 have d:Z _:=h;have X:=U D;have L:Z _:=F;have r:=U G;have Y:Z _:=H;have b8:(bs++xb (cA last) 0 1).length<=700000001:=by rw[Xv,aU];omega
 clear h D F G H;go_enter func102,ntmps102;go_upto_region 1 with fail
 rw[<-k];clear k;have a0:i=0\/i=1\/i=2:=O;rcases a0 with rfl|rfl|rfl
 .go_wp2_with fail
  refine(yl x f dv v l _ c (d.o.kept e.o) (L.o.kept e.o) r.o Y.o I O O).mono ?_;rintro j g ⟨rfl,M⟩;have m:Z (BlO x w v bs wd last l f g):=KU r.o I O (M.pre e.o d.o.lt);clear M J K;go_wp2
  first
   | go_end0
   | ((try simp only[Exit.inBlock,Exit.then]);refine XA (YA rfl _ _ _) rfl ?_)
  exact⟨rfl,m.o⟩
 all_goals
  go_wp2_with fail;refine(Cq dv l f (wd:Int) b c (L.o.kept e.o) r.o O O).mono ?_;rintro j g ⟨⟨s,t,rfl,N,P,p,u⟩,Q⟩;have n:Z (Kept w g):=e.o.trans Q;have R:Z _:=P;have S:Z _:=p;have y:Z _:=p.good O;have a1:Z (t≠[]):=λq=>by
   have T:=p;rw[q] at T;have b9:f=l.length:=T;omega
  have V:Z (∀a,s.ownBlock=some a->Off x v a/\a<g.heap.size):=λa q=>⟨d.o.new (Xz e.o.size (u a q).1),(u a q).2⟩
  clear P u Q J K p;go_wp2_with fail
 .refine(Bf x s v _ t g (d.o.kept n.o) (X.o.kept n.o) R.o V.o O y.o O).mono ?_
  rintro j z ⟨rfl,o⟩;have m:Z (BlO x w v bs wd last l f z):=by
   obtain⟨a2,A,B,C⟩:=o;exact KT y.o S.o N ⟨a2,A,B,C.pre n.o d.o.lt⟩
  clear o;go_wp2
  first
   | go_end0
   | ((try simp only[Exit.inBlock,Exit.then]);refine XA (YA rfl _ _ _) rfl ?_)
  exact⟨rfl,m.o⟩
 .refine(Ie x s v _ t g (d.o.kept n.o) R.o V.o O a1.o y.o O).mono ?_
  rintro j z ⟨rfl,o⟩;have m:Z (BlO x w v bs wd last l f z):=by
   obtain⟨a3,a4,a5,a6,a7,a8,a9,b0,A,B,C,b1,b2,b3⟩:=o;exact KS S.o N ⟨a3,a4,a5,a6,a7,a8,a9,b0,A,B,C,b1,b2,b3.pre n.o d.o.lt⟩
  clear o;go_wp2
  first
   | go_end0
   | ((try simp only[Exit.inBlock,Exit.then]);refine XA (YA rfl _ _ _) rfl ?_)
  exact⟨rfl,m.o⟩
