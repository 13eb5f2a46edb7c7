import Derived.Test.YtgooinallljbpaaGreatDoorSh00
import Derived.Test.YtgooinallljbpaaGreatDoorSh01
set_option linter.all false
set_option maxRecDepth 100000
set_option maxHeartbeats 0
namespace Go.Proofs.YtgooinallljbpaaGreatDoor
open Go.RowKit Tryz
structure ZAt (w:World) (v:Value) (z:List Px.One):Prop where
 form:∃p c,v=.slice p z.length c
 cells:∀p c,v=.slice p z.length c->∀i,i<z.length->∃g,p=some ⟨g,0,none⟩/\w.cell? ⟨g,i*2,none⟩=some (.int .i64 (Px.vAt z i))/\w.cell? ⟨g,i*2+1,none⟩=some (.int .i64 (Px.pAt z i))
def ae:Value->Option Nat
 | .slice (some a) _ _=>some a.block
 | _=>none
theorem ZAt.fr{S:Nat->Prop}{w w' v z}(h:ZAt w v z)(k:Fr S w w')(b:∀a,ae v=some a->¬S a):ZAt w' v z:=by
 refine⟨h.form,?_⟩;intro i j c l m;obtain⟨a,d,e,n⟩:=h.cells i j c l m;have f:ae v=some a:=by rw[c,d];rfl
 have g:a<w.heap.size:=B _ _ e;exact⟨a,d,(k.cell g (b a f)).trans e,(k.cell g (b a f)).trans n⟩
structure BAt (w:World) (b:Nat) (v:Value) (t:Px.Bt):Prop where
 c0:w.cell? ⟨b,0,none⟩=some v
 c1:w.cell? ⟨b,1,none⟩=some (.int .i64 (t.a:Int))
 c2:w.cell? ⟨b,2,none⟩=some (.bool t.cut)
 c3:w.cell? ⟨b,3,none⟩=some (.int .i64 (t.err:Int))
 fz:∀k,w.frozen? ⟨b,k,none⟩=false
theorem BAt.lt{w b v t}(h:BAt w b v t):b<w.heap.size:=B _ _ h.c0
theorem BAt.same{w w' b v t}(h:BAt w b v t)(e:w'.heap[b]? = w.heap[b]?):BAt w' b v t:=by
 have c:∀a,w'.cell? ⟨b,a,none⟩=w.cell? ⟨b,a,none⟩:=λa=>XK (w:=w) e
 have d:∀a,w'.frozen? ⟨b,a,none⟩=w.frozen? ⟨b,a,none⟩:=λa=>X2 (w:=w) e
 exact⟨(c 0).trans h.c0,(c 1).trans h.c1,(c 2).trans h.c2,(c 3).trans h.c3,λa=>(d a).trans (h.fz a)⟩
theorem BAt.drewN{w b v t}(h:BAt w b v t)n:BAt (w.drewN n) b v t:=h.same rfl
theorem BAt.fr{S:Nat->Prop}{w w' b v t}(h:BAt w b v t)(k:Fr S w w')(a:¬S b):BAt w' b v t:=h.same (k.block b h.lt a)
theorem BAt.kept{w w' b v t}(h:BAt w b v t)(k:Kept w w'):BAt w' b v t:=h.same (k.block b h.lt)
theorem BAt.setA{w b v t}(h:BAt w b v t)(n:Nat):BAt (w.setCell ⟨b,1,none⟩ (.int .i64 n)) b v {t with a:=n} :=
 ⟨by rw[aa _ _ _ _ _ O];exact h.c0,ai h.c1 _,by rw[aa _ _ _ _ _ O];exact h.c2,by rw[aa _ _ _ _ _ O];exact h.c3,λc=>by rw[Xy];exact h.fz c⟩
theorem BAt.setCut{w b v t}(h:BAt w b v t):BAt (w.setCell ⟨b,2,none⟩ (.bool true)) b v {t with cut:=true} :=
 ⟨by rw[aa _ _ _ _ _ O];exact h.c0,by rw[aa _ _ _ _ _ O];exact h.c1,ai h.c2 _,by rw[aa _ _ _ _ _ O];exact h.c3,λa=>by rw[Xy];exact h.fz a⟩
theorem BAt.setErr{w b v t}(h:BAt w b v t)(n:Nat):BAt (w.setCell ⟨b,3,none⟩ (.int .i64 n)) b v {t with err:=n} :=
 ⟨by rw[aa _ _ _ _ _ O];exact h.c0,by rw[aa _ _ _ _ _ O];exact h.c1,by rw[aa _ _ _ _ _ O];exact h.c2,ai h.c3 _,λa=>by rw[Xy];exact h.fz a⟩
theorem bb b v t w(h:BAt w b v t):Calls prog 61 #[.pointer (some ⟨b,0,none⟩)] w λc d=>c=.returned (.bool t.on)/\d=w:=by
 have e:=h.c2;have g:=h.c3;have a:Z (t.on=(!t.cut&&decide (t.err=0))):=rfl;cases f:t.cut<;>rw[f] at e a
 .go_enter func61,ntmps61
  go_wp2;go_ret;refine⟨bh ?_,rfl⟩;rw[a.o,X4];simp;try omega
 .go_enter func61,ntmps61
  go_wp2;go_ret;exact⟨bh (by rw[a.o];rfl),rfl⟩
theorem tL b v z t w(h:BAt w b v t)(d:ZAt w v z)(e:Px.good z)(s:t.a<8*z.length):Calls prog 62 #[.pointer (some ⟨b,0,none⟩)] w λi f=>i=.returned (.int .i64 (Px.bs z t.a))/\BAt f b v {t with a:=t.a+1}/\Fr1 b w f:=by
 obtain⟨j,k,rfl⟩:=d.form;obtain⟨u,rfl,g,l⟩:=d.cells j k rfl (t.a/8) O;have x:=Px.Mx e (t.a/8);have y:=e.2.1;have m:=h.c0;have n:=h.c1;have o:=h.fz;have p:Z (bits .and .i64 ((Px.vAt z (t.a/8):Int)/2^(t.a%8)) 1=(Px.bs z t.a:Int)):=by
  show _=_;rw[Ll _ _ O];rfl
 generalize q:Px.vAt z (t.a/8)=A at *;clear q d l;go_enter func62,ntmps62;go_wp2;go_quiet (fail);have c:=h.drewN nq;have B:(w.drewN nq).cell? _=_:=g;have r:Z (Fr1 b w (w.drewN nq)):=(Fr.refl _ _).drewN nq;have m:=c.c0;have n:=c.c1;have o:=c.fz;generalize w.drewN nq=C at *;clear g;go_wp2;go_quiet (fail);go_wp2;go_ret;refine⟨aj p.o,?_,?_⟩
 .exact(c.drewN _).setA (t.a+1)
 .exact(r.o.drewN _).setCell (L rfl) _ _
theorem yV b v z t w(h:BAt w b v t)(a:ZAt w v z)(d:Px.good z)(f:t.a=8*z.length):Calls prog 62 #[.pointer (some ⟨b,0,none⟩)] w λe c=>e=.returned (.int .i64 0)/\BAt c b v {t with cut:=true}/\Fr1 b w c:=by
 obtain⟨g,i,rfl⟩:=a.form;have j:=d.2.1;have k:=h.c0;have l:=h.c1;have m:=h.c2;have n:=h.fz;clear a;go_enter func62,ntmps62;go_wp2;go_quiet (fail);go_wp2;go_ret;exact⟨rfl,(h.drewN _).setCut,((Fr1.refl _ _).drewN _).set _ _⟩
theorem Kw v k i(a:k<2)(b:v<2^i)(c:i<33):v+k*2^i<2^(i+1):=by
 have d:k*2^i<=1*2^i:=XS _ O;rw[Ya];omega
theorem bp x(a : -9223372036854775808<=x)(b:x<9223372036854775808):wrap64 x=x:=by
 unfold wrap64;omega
theorem Oc i(a:i<33):2^i<=4294967296:=by
 have:=XH (n:=2) O (show i<=32 from O);simpa using this
theorem DD b v t(n:Nat)w(h:BAt w b v t)(a:t.cut=true):Calls prog 59 #[.pointer (some ⟨b,0,none⟩),.int .i64 n] w λc d=>c=.returned (.int .i64 0)/\d=w:=by
 have e:=h.c2;rw[a] at e;go_enter func59,ntmps59;go_wp2;go_loop [5,6] (λf g=>f=.int .i64 0/\g=.int .i64 0) (λ_ _=>0)
 case atStart=>exact⟨rfl,rfl⟩
 case round=>
  obtain⟨rfl,rfl⟩:=hrel;go_wp2
  all_goals go_ret
  all_goals exact⟨rfl,rfl⟩
theorem jJ b v z t(n:Nat)w(h:BAt w b v t)(B:ZAt w v z)(C:∀s,ae v=some s->s≠b)(u:Px.good z)(D:t.a<=8*z.length)(U:n<=32)(l:t.cut=false):Calls prog 59 #[.pointer (some ⟨b,0,none⟩),.int .i64 n] w λf d=>∃x:Nat,f=.returned (.int .i64 x)/\x<2^n/\(t.a+n<=8*z.length->x=Px.ab z t.a n)/\BAt d b v (t.num z n)/\Fr1 b w d:=by
 go_enter func59,ntmps59;go_wp2;go_loopw [5,6] (λE m o=>∃x c:Nat,E=.int .i64 x/\m=.int .i64 c/\c<=n/\x<2^c/\Fr1 b w o/\((t.a+c<=8*z.length/\x=Px.ab z t.a c/\BAt o b v {t with a:=t.a+c})\/(8*z.length<t.a+n/\BAt o b v {t with a:=8*z.length,cut:=true}))) (λ_ m _=>n-(intOf m).toNat)
 case atStart=>exact⟨0,0,rfl,rfl,O,Xi,Fr.refl _ _,L ⟨D,rfl,h⟩⟩
 case round=>
  obtain⟨x,c,rfl,rfl,F,p,i,⟨G,k,g⟩|⟨V,g⟩⟩:=hrel
  .have H:wr.cell? ⟨b,2,none⟩=some (.bool false):=by rw[<-l];exact g.c2
   have y:Z (ZAt wr v z):=B.fr i C;by_cases W:c<n
   .have X:=Oc c O
    by_cases J:t.a+c<8*z.length
    .have K:Z (Px.ab z t.a (c+1)=x+Px.bs z (t.a+c)*2^c):=by show _=_;rw[k];rfl
     have M:=Px.kI z (t.a+c);have e:=tL b v z _ wr g y.o u J;replace e:Z (Calls prog 62 #[.pointer (some ⟨b,0,none⟩)] wr λf d=>f=.returned (.int .i64 (Px.bs z (t.a+c):Int))/\BAt d b v {t with a:=t.a+(c+1)}/\Fr1 b wr d):=e;generalize Px.bs z (t.a+c)=j at *;clear k;go_wp2_with fail;refine e.o.mono ?_;rintro f P ⟨rfl,q,r⟩;go_wp2;have Q:(j:Int)*2^c=((j*2^c:Nat):Int):=Xi;have Y:j*2^c<=1*2^c:=XS _ O;refine⟨⟨x+j*2^c,c+1,aY ?_,Xj,O,(Kw _ _ _ M p O),i.trans r,L ⟨O,K.o.symm,q⟩⟩,Xb⟩;rw[Q,bp ((j*2^c:Nat):Int) O O,<-Int.natCast_add,bp _ O O]
    .have A:t.a+c=8*z.length:=O
     have e:=yV b v z _ wr g y.o u A;replace e:Z (Calls prog 62 #[.pointer (some ⟨b,0,none⟩)] wr λf d=>f=.returned (.int .i64 0)/\BAt d b v {t with a:=8*z.length,cut:=true}/\Fr1 b wr d):=by rw[A] at e;exact e
     clear k;go_wp2_with fail;refine e.o.mono ?_;rintro f P ⟨rfl,q,r⟩;go_wp2;refine⟨⟨x,c+1,aY ?_,Xj,O,by rw[Ya];omega,i.trans r,R ⟨O,q⟩⟩,Xb⟩
     first|rfl|(rw[Int.zero_mul,bp _ O O,Int.add_zero,bp _ O O])
   .have S:c=n:=O
    subst S;go_wp2;go_ret;refine⟨x,rfl,p,λ_=>k,?_,i⟩;unfold Px.Bt.num;rw[N (by rw[l];decide),I G];exact g
  .have H:=g.c2
   have T:Z (t.num z n={t with a:=8*z.length,cut:=true}):=by
    show _=_
    unfold Px.Bt.num;rw[N (by rw[l];decide),N]
   go_wp2
   all_goals go_ret
   all_goals exact⟨x,rfl,(Xq p (XH O F)),λh=>O,by rw[T.o];exact g,i⟩
theorem xl b v t w(h:BAt w b v t)(q:t.a<=8388608):Calls prog 102 #[.pointer (some ⟨b,0,none⟩)] w λl i=>l=.returned (.tuple #[])/\BAt i b v {t with a:=Px.up8 t.a}/\Fr1 b w i:=by
 go_enter func102,ntmps102;go_wp2;go_loopw [] (λe=>∃c:Nat,t.a<=c/\c<=Px.up8 t.a/\BAt e b v {t with a:=c}/\Fr1 b w e) (λe=>Px.up8 t.a-(match e.cell? ⟨b,1,none⟩ with|some (.int .i64 m)=>m.toNat|_=>0))
 case atStart=>exact⟨t.a,O,by unfold Px.up8;omega,h,Fr.refl _ _⟩
 case round=>
  obtain⟨c,r,f,d,j⟩:=hrel;have n:wr.cell? ⟨b,1,none⟩=some (.int .i64 c):=d.c1;have s:=d.fz;have u:Z (c<=Px.up8 t.a):=f;have x:c<=8388700:=by unfold Px.up8 at f;omega
  by_cases k:c%8=0
  .have o:((c:Int)%8 != 0)=false:=by rw[Xx];omega
   have g:Z (c=Px.up8 t.a):=by show _=_;unfold Px.up8 at *;omega
   clear f k;go_wp2;go_end0
   refine⟨rfl,?_,j⟩;rw[<-g.o];exact d
  .have o:((c:Int)%8 != 0)=true:=by rw[XJ];omega
   have g:Z (c+1<=Px.up8 t.a):=by show _<=_;unfold Px.up8 at *;omega
   clear f k;go_wp2;have p:(wr.setCell ⟨b,1,none⟩ (.int .i64 ((c:Int)+1))).cell? ⟨b,1,none⟩=some (.int .i64 ((c:Int)+1)):=ai d.c1 _;refine⟨⟨c+1,O,g.o,(d.setA (c+1)),j.set _ _⟩,?_⟩
   have:=g.o
   rw[n,p];show Px.up8 t.a-((c:Int)+1).toNat<Px.up8 t.a-(c:Int).toNat
   omega
theorem cM b v t(e:Nat)w(h:BAt w b v t)(c:t.cut=false)(d:t.err=0):Calls prog 60 #[.pointer (some ⟨b,0,none⟩),.int .i64 e] w λf a=>f=.returned (.tuple #[])/\BAt a b v {t with err:=e}/\Fr1 b w a:=by
 have g:=h.c2;have i:=h.c3;have j:=h.fz;rw[c] at g;rw[d] at i;go_enter func60,ntmps60;go_wp2;go_end0
 exact⟨rfl,h.setErr e,(Fr1.refl _ _).set _ _⟩
theorem ej b v z t w(h:BAt w b v t)(a:ZAt w v z)(c:Px.good z)(k:0<t.a)(l:t.a<=8*z.length):Calls prog 68 #[.pointer (some ⟨b,0,none⟩)] w λd e=>d=.returned (.int .i64 (Px.pAt z ((t.a-1)/8):Int))/\Kept w e:=by
 obtain⟨f,g,rfl⟩:=a.form;obtain⟨m,rfl,n,i⟩:=a.cells f g rfl ((t.a-1)/8) O;have o:=c.2.1;have p:=h.c0;have q:=h.c1;have j:(t.a-1)/8*2+1=(((t.a:Int)-1)/8).toNat*2+1:=O;rw[j] at i;go_enter func68,ntmps68;go_wp2;go_quiet (fail);go_wp2;go_ret;exact⟨rfl,(Kept.refl _).drewN _⟩
structure IAt (w:World) (v:Value) (l:List Nat):Prop where
 form:∃p c,v=.slice p l.length c
 cells:∀p c,v=.slice p l.length c->∀i,i<l.length->∃g o,p=some ⟨g,o,none⟩/\w.cell? ⟨g,o+i,none⟩=some (.int .i64 (l.getD i 0))
theorem IAt.fr{S:Nat->Prop}{w w' v l}(h:IAt w v l)(k:Fr S w w')(e:∀a,ae v=some a->¬S a):IAt w' v l:=by
 refine⟨h.form,?_⟩;intro f g b i j;obtain⟨a,m,c,d⟩:=h.cells f g b i j;have n:ae v=some a:=by rw[b,c];rfl
 have o:=B _ _ d;exact⟨a,m,c,(k.cell o (e a n)).trans d⟩
theorem IAt.kept{w w' v l}(h:IAt w v l)(k:Kept w w'):IAt w' v l:=h.fr (S:=λ_=>False) ⟨k.os,k.tape,k.output,k.size,λa b _=>k.block a b⟩ (λ_ _ h=>h)
theorem IAt.addr{w v l}(h:IAt w v l)(j:0<l.length):∃c d a,v=.slice (some ⟨c,d,none⟩) l.length a/\∀b,b<l.length->w.cell? ⟨c,d+b,none⟩=some (.int .i64 (l.getD b 0)):=by
 obtain⟨f,a,e⟩:=h.form;obtain⟨c,d,g,_⟩:=h.cells f a e 0 j;refine⟨c,d,a,by rw[e,g],λb k => ?_⟩;obtain⟨q,r,i,m⟩:=h.cells f a e b k;rw[g] at i
 injection i with n
 injection n with o p
 subst o;subst p;exact m
theorem FT v l s w(h:IAt w v l)(t:Px.bS l)(A:s<l.length):Calls prog 133 #[v,.int .i64 s] w λC D=>C=.returned (.int .i64 (Px.codeOf l s))/\Kept w D:=by
 obtain⟨c,d,T,rfl,u⟩:=h.addr O;have U:=t.2;have V:=Px.eE t s;have y:=u s A;have E:Z _:=u;clear u h;go_enter func133,ntmps133;go_wp2;go_loopw [5,6] (λG x H=>∃a:Nat,a<=l.length/\G=.int .i64 (Px.gm l s a)/\x=.int .i64 a/\Kept w H) (λ_ x _=>l.length-(intOf x).toNat)
 case atStart=>exact⟨0,O,rfl,rfl,Kept.refl _⟩
 case round=>
  obtain⟨a,W,rfl,rfl,j⟩:=hrel;by_cases K:a<l.length
  .have f:wr.cell? ⟨c,d+a,none⟩=some (.int .i64 (l.getD a 0)):=by
    have:=E.o a K;exact(j.cell (p:=⟨c,d+a,none⟩) (B _ _ this)).trans this
   have g:=(j.cell (p:=⟨c,d+s,none⟩) (B _ _ y)).trans y;have X:=Px.eE t a;have L:=Px.FU t s a;have m:Z (Px.gm l s (a+1)=Px.gm l s a+if 0<l.getD a 0/\(l.getD a 0<l.getD s 0\/(l.getD a 0=l.getD s 0/\a<s)) then 2^(l.getD s 0-l.getD a 0) else 0):=rfl;have Y:Px.gm l s a<=10485760:=O;clear L;generalize Px.gm l s a=a0 at *;generalize l.getD a 0=b at *;generalize l.getD s 0=e at *;have M:(0<b/\b<e)\/(0<b/\b=e/\a<s)\/(b=e/\¬a<s)\/e<b\/(b=0/\b<e)\/(b=0/\b=e/\a<s):=O;rcases M with⟨n,k⟩|⟨n,k,z⟩|⟨k,z⟩|k|⟨n,k⟩|⟨n,k,z⟩
   .have P:=Px.wG (e-b) O
    go_wp2;go_quiet (fail);have o:(wr.drewN nq).cell? ⟨c,d+a,none⟩=_:=f;have q:(wr.drewN nq).cell? ⟨c,d+s,none⟩=_:=g;have i:Z (Kept w (wr.drewN nq)):=j.drewN nq;generalize wr.drewN nq=r at *;clear f g;go_wp2;go_quiet (fail);go_wp2;refine⟨⟨a+1,O,aY ?_,Xj,i.o.drewN _⟩,Xb⟩;rw[m.o,I];have Q:(2:Int)^(e-b)=((2^(e-b):Nat):Int):=Xi;generalize 2^(e-b)=R at *;rw[Q,bp (R:Int) O O,<-Int.natCast_add,bp _ O O]
   .have P:=Px.wG (e-b) O
    go_wp2;go_quiet (fail);have o:(wr.drewN nq).cell? ⟨c,d+a,none⟩=_:=f;have q:(wr.drewN nq).cell? ⟨c,d+s,none⟩=_:=g;have i:Z (Kept w (wr.drewN nq)):=j.drewN nq;generalize wr.drewN nq=r at *;clear f g;go_wp2;go_quiet (fail);go_wp2;refine⟨⟨a+1,O,aY ?_,Xj,i.o.drewN _⟩,Xb⟩;rw[m.o,I];rw[k,YC];simp
   .skip
    go_wp2;go_quiet (fail);have o:(wr.drewN nq).cell? ⟨c,d+a,none⟩=_:=f;have q:(wr.drewN nq).cell? ⟨c,d+s,none⟩=_:=g;have i:Z (Kept w (wr.drewN nq)):=j.drewN nq;generalize wr.drewN nq=r at *;clear f g;go_wp2
    all_goals
     refine⟨⟨a+1,O,aY ?_,Xj,i.o⟩,Xb⟩;rw[m.o,N,X5]
   .have a1:((b:Int)==(e:Int))=false:=F.2 O
    have a2:decide (b<e)=false:=J;go_wp2;go_quiet (fail);have o:(wr.drewN nq).cell? ⟨c,d+a,none⟩=_:=f;have q:(wr.drewN nq).cell? ⟨c,d+s,none⟩=_:=g;have i:Z (Kept w (wr.drewN nq)):=j.drewN nq;generalize wr.drewN nq=r at *;clear f g;go_wp2
    all_goals
     refine⟨⟨a+1,O,aY ?_,Xj,i.o⟩,Xb⟩;rw[m.o,N,X5]
   .subst n
    go_wp2;go_quiet (fail);have o:(wr.drewN nq).cell? ⟨c,d+a,none⟩=_:=f;have q:(wr.drewN nq).cell? ⟨c,d+s,none⟩=_:=g;have i:Z (Kept w (wr.drewN nq)):=j.drewN nq;generalize wr.drewN nq=r at *;clear f g;go_wp2
    all_goals
     refine⟨⟨a+1,O,aY ?_,Xj,i.o⟩,Xb⟩;rw[m.o,N,X5]
   .subst n
    subst k;go_wp2;go_quiet (fail);have o:(wr.drewN nq).cell? ⟨c,d+a,none⟩=_:=f;have q:(wr.drewN nq).cell? ⟨c,d+s,none⟩=_:=g;have i:Z (Kept w (wr.drewN nq)):=j.drewN nq;generalize wr.drewN nq=r at *;clear f g;go_wp2
    all_goals
     refine⟨⟨a+1,O,aY ?_,Xj,i.o⟩,Xb⟩;rw[m.o,N,X5]
  .have S:Z (a=l.length):=by show _=_;omega
   go_wp2;go_ret;exact⟨aj (by rw[S.o];rfl),j⟩
theorem el v l lone none w(h:IAt w v l)(f:Px.bS l):Calls prog 109 #[v,.bool lone,.bool none] w λy z=>y=.returned (.bool (Px.cS l lone none))/\Kept w z:=by
 have A:=f.2;obtain⟨C,D,rfl⟩:=h.form;have o:Z _:=h.cells C D rfl;clear h;go_enter func109,ntmps109;go_wp2;go_loopw [7,8,9,10] (λE G H g J=>∃a:Nat,a<=l.length/\E=.int .i64 (Px.ee l a)/\G=.int .i64 (Px.dJ l a)/\H=.int .i64 (Px.iA l a)/\g=.int .i64 a/\Kept w J) (λ_ _ _ g _=>l.length-(intOf g).toNat)
 case atStart=>exact⟨0,O,rfl,rfl,rfl,rfl,Kept.refl _⟩
 case round=>
  obtain⟨a,K,rfl,rfl,rfl,rfl,c⟩:=hrel;have q:=Px.GR l a;have r:=Px.Jx l a;have s:=Px.H3 l a;by_cases t:a<l.length
  .obtain⟨L,M,rfl,i⟩:=o.o a t
   have d:=(c.cell (p:=⟨L,M+a,Option.none⟩) (B _ _ i)).trans i;have X:=Px.eE f a;have j:Z (Px.ee l (a+1)=Px.ee l a+if 0<l.getD a 0 then 2^(15-l.getD a 0) else 0):=rfl;have k:Z (Px.dJ l (a+1)=Px.dJ l a+if 0<l.getD a 0 then 1 else 0):=rfl;have m:Z (Px.iA l (a+1)=Px.iA l a+if l.getD a 0=1 then 1 else 0):=rfl;have P:Px.ee l a<=10485760:=O;have Q:Px.dJ l a<=320:=O;have R:Px.iA l a<=320:=O;clear q r s i;generalize Px.ee l a=n at *;generalize Px.dJ l a=S at *;generalize Px.iA l a=T at *;generalize l.getD a 0=b at *;have Y:=Px.wG (15-b) O;have U:b=0\/b=1\/1<b:=O;rcases U with e|e|e
   .subst e
    go_wp2;refine⟨⟨a+1,O,aY ?_,aY ?_,aY ?_,Xj,c⟩,Xb⟩
    .rw[j.o];simp
    .rw[k.o];simp
    .rw[m.o];simp
   .subst e
    go_wp2;refine⟨⟨a+1,O,aY ?_,aY ?_,aY ?_,Xj,c⟩,Xb⟩
    .rw[j.o];simp
    .rw[k.o];simp
    .rw[m.o];simp
   .go_wp2
    have V:(2:Int)^(15-b)=((2^(15-b):Nat):Int):=Xi;refine⟨⟨a+1,O,aY ?_,aY ?_,aY ?_,Xj,c⟩,Xb⟩
    .rw[j.o,I]
     generalize 2^(15-b)=W at *;rw[V,bp (W:Int) O O,<-Int.natCast_add,bp _ O O]
    .rw[k.o,I];simp
    .rw[m.o,N];simp
  .have u:Z (a=l.length):=by show _=_;omega
   have P:Px.ee l a<=10485760:=O;have Q:Px.dJ l a<=320:=O;have R:Px.iA l a<=320:=O;go_wp2
   all_goals go_ret
   all_goals(refine⟨bh ?_,c⟩;have x:=u.o;unfold Px.cS;rw[<-x];clear u x o q r s t f A K c)
   all_goals(generalize Px.ee l a=n at *;generalize Px.dJ l a=S at *;generalize Px.iA l a=T at *)
   all_goals(simp only[XI,F,ne_eq] at *)
   all_goals first
    | (rw[I])
    | (rw[N];first|((have d:n=32768:=O);subst d;simp)|((have d:¬n=32768:=O);simp[d, *];try(rw[X4];simp only[Bool.or_eq_true,Bool.and_eq_true,XI,Y6];omega)))
theorem kQ:(prog.info? 3).map (λi=>(i.zero,i.size,i.bytes))=some (some (.int .i64 0),1,8):=Xk
theorem lU{w:World}{base base' e size v n xs}(h:w.ownsRow base e size v n xs)(j:base'<=base):w.ownsRow base' e size v n xs:=by
 obtain⟨b,a⟩:=h;refine⟨b,?_⟩;rcases a with a|⟨c,d,f,g,k,i⟩
 .exact L a
 .exact R ⟨c,d,f,g,O,i⟩
theorem bO{w W base e size v n xs}(h:w.ownsRow base e size v n xs)(k:Kept w W):W.ownsRow base e size v n xs:=
 h.kept (row:=none) ⟨k.os,k.tape,k.output,k.size,λa b _=>k.block a b⟩ (by cases c:v.ownBlock;exact L rfl;exact R Xi)
def ints(l:List Nat):List Value:=l.map λ(n:Nat)=>Value.int .i64 (n:Int)
theorem uC l i(h:i<l.length):(ints l)[i]? = some (.int .i64 (l.getD i 0)):=by
 simp[ints,XQ,Xt h,G]
theorem wR l x:ints (l++[x])=ints l++[.int .i64 x]:=by simp[ints]
theorem iE{w base v l}(h:w.ownsRow base 3 1 v l.length (ints l)):IAt w v l:=by
 rcases h.2 with⟨a,f⟩|⟨d,k,m,a,n,o⟩
 .refine⟨⟨none,0,by rw[a,f]⟩,?_⟩
  intro g i _ b e;omega
 .refine⟨⟨_,_,a⟩,?_⟩
  intro g i c b e;rw[a] at c
  injection c with c _ _
  refine⟨d,0,c.symm,?_⟩
  have:=h.cells (by rw[a];rfl) b _ (uC l b e)
  have j:(Addr.add ⟨d,0,none⟩ b)=⟨d,0+b,none⟩:=by simp[Addr.add];intro h;exact h.symm
  rw[j] at this;exact this
theorem ak{w:World}{base e size v n xs}(h:w.ownsRow base e size v n xs):∃b c,v=.slice b n c:=by
 rcases h.2 with⟨a,d⟩|⟨f,g,i,a,j,k⟩
 .exact⟨none,0,by rw[a,d]⟩
 .exact⟨_,_,a⟩
theorem ch w{ops rest o a}{q:Exit->Act->World->Prop}T E size bytes zero(r:prog.underlying T=some (.slice E))(U:(prog.info? E).map (λi=>(i.zero,i.size,i.bytes))=some (some zero,size,bytes))(I:zero.cells.size=size)(J:0<size)(t:o.guard=none)s x(u:o.op=Op.call {callee:=Callee.builtin Builtin.append,args:=#[s,x],argTypes:=#[T,T]})base v n xs(y:a.eval s=v)(k:w.ownsRow base E size v n xs)ad m c news(z:a.eval x=.slice (some ad) m c)(A:news.length=m*size)(a2:0<m)(B:∀j g,news[j]? = some g->w.cell? (ad.add j)=some g)(C:∀g∈news,g.oneCell'=true)(K:n+m<=maxLen)(h:(n+m)*bytes<=140737488355328)(V:base<=w.heap.size)(M:∀d b,b.ownsRow base E size d (n+m) (xs++news)->w.grownBy b v.ownBlock->(∀e,d.ownBlock=some e->v.ownBlock=some e\/w.heap.size<=e)->wpList prog ops q rest (a.put o.dst d) b):wpList prog ops q (o::rest) a w:=by
 obtain⟨D,F,N,G,P⟩:=info_parts U;have Q:∀d b,b.ownsRow w.heap.size E size d (n+m) (xs++news)->w.grownBy b none->wpList prog ops q rest (a.put o.dst d) b:=by
  intro d b p f;refine M d b (lU p V) ⟨f.os,f.tape,f.output,f.size,λe l _=>f.block e l Xi⟩ (λe l=>R ((p.lt e l).1))
 rcases k.2 with⟨rfl,W⟩|⟨S,H,a3,rfl,a4,a5,a6,a7,a8,a9⟩
 .subst W
  have X:xs=[]:=YX (by simpa using k.1);subst X;exact wpList_append_grows w t s x T u E D zero size bytes r F N G P I J none 0 0 [] y (λ_=>⟨rfl,rfl⟩) Xi (λY h=>by cases h) ad m c news z A B C O K h Q
 .by_cases Z:n+m<=H
  .refine wpList_append_fits w t s x T u base E D size r F G S n H xs y k ad m c news z A B C Z ?_
   intro b p f;exact M _ b p f (λe l=>L l)
  .exact wpList_append_grows w t s x T u E D zero size bytes r F N G P I J (some ⟨S,0,none⟩) n H xs y (λa0=>by cases a0) k.1 (λY h j g a1=>by cases h;exact k.cells rfl j g a1) ad m c news z A B C O K h Q
theorem bU w{ops rest o a}{i:Exit->Act->World->Prop}(m:o.guard=none)s x(n:o.op=Op.call {callee:=Callee.builtin Builtin.append,args:=#[s,x],argTypes:=#[30,30]})base v l(p:a.eval s=v)(q:w.ownsRow base 3 1 v l.length (ints l))(g c e:Nat)(r:a.eval x=.slice (some ⟨g,0,none⟩) 1 c)(t:w.cell? ⟨g,0,none⟩=some (.int .i64 e))(D:l.length+1<=1048576)(u:base<=w.heap.size)(y:∀d f,f.ownsRow base 3 1 d (l++[e]).length (ints (l++[e]))->w.grownBy f v.ownBlock->(∀h,d.ownBlock=some h->v.ownBlock=some h\/w.heap.size<=h)->wpList prog ops i rest (a.put o.dst d) f):wpList prog ops i (o::rest) a w:=by
 refine ch w 30 3 1 8 (.int .i64 0) underlying30 kQ rfl O m s x n base v l.length (ints l) p q ⟨g,0,none⟩ 1 c [.int .i64 e] r rfl O ?_ ?_ Xn O u ?_
 .intro j z b
  match j,b with
  | 0,b=>simp at b;subst b;exact t
  | j+1,b=>simp at b
 .intro z k;simp at k;subst k;rfl
 .intro d f A B C
  exact y d f (by rw[wR,Xv];exact A) B C
def cp(l:List Nat):List Nat:=(List.range l.length).map (Px.codeOf l)
structure qu (w:World) (B:Nat) (l:List Nat) (S:Nat->Prop):Prop where
 ex:∃v cv,w.cell? ⟨B,0,none⟩=some v/\w.cell? ⟨B,1,none⟩=some cv/\IAt w v l/\IAt w cv (cp l)/\(∀g,ae v=some g->¬S g)/\(∀g,ae cv=some g->¬S g)
 o:¬S B
theorem qu.fr{S:Nat->Prop}{w w' B l}(h:qu w B l S)(k:Fr S w w'):qu w' B l S:=by
 obtain⟨e,f,a,g,i,j,b,c⟩:=h.ex;have d:B<w.heap.size:=World.block_lt_of_cell? _ _ a;exact⟨⟨e,f,(k.cell d h.o).trans a,(k.cell d h.o).trans g,i.fr k b,j.fr k c,b,c⟩,h.o⟩
theorem AA l n(h:n<l.length):(cp l).take (n+1)=(cp l).take n++[Px.codeOf l n]:=by
 have a:(cp l).length=l.length:=by simp[cp]
 rw[XM O]
 congr 2
 simp[cp]
theorem bP v{w:World}{base e size n xs}(h:w.ownsRow base e size v n xs):ae v=v.ownBlock:=by
 rcases h.2 with⟨a,b⟩|⟨c,d,f,a,g,i⟩<;>rw[a]<;>rfl
theorem dK v l(S:Nat->Prop)w(h:IAt w v l)(H:Px.bS l)(R:∀c,ae v=some c->¬S c)(I:∀c,w.heap.size<=c->¬S c)(a9:∀c,ae v=some c->c<w.heap.size):Calls prog 104 #[v] w λm n=>∃J,m=.returned (.pointer (some ⟨J,0,none⟩))/\qu n J l S/\Kept w n:=by
 have b0:=H.2;obtain⟨o,q,rfl⟩:=h.form;go_enter func104,ntmps104;go_wp2;have b1:w.heap.size<(w.alloc (Obj.cells #[Value.slice o l.length q,Value.slice none 0 0] 193)).heap.size:=Xi;go_loopw [4] (λg i=>∃a:Nat,∃d:Value,a<=l.length/\g=.int .i64 a/\i.cell? ⟨w.heap.size,0,none⟩=some (.slice o l.length q)/\i.cell? ⟨w.heap.size,1,none⟩=some d/\i.frozen? ⟨w.heap.size,1,none⟩=false/\i.ownsRow (w.heap.size+1) 3 1 d ((cp l).take a).length (ints ((cp l).take a))/\Kept w i) (λg _=>l.length-(intOf g).toNat)
 case atStart=>exact⟨0,.slice none 0 0,O,rfl,by rw[Xr _ _ _ _ rfl];rfl,by rw[Xr _ _ _ _ rfl];rfl,XB _ _ _ _ rfl,XR _ _ _ _,((Xs _ _).alloc (E _) _)⟩
 case round=>
  obtain⟨a,d,b2,rfl,r,x,K,e,j⟩:=hrel;have s:w.heap.size<wr.heap.size:=B _ _ r;by_cases L:a<l.length
  .have T:((cp l).take a).length=a:=by simp[cp];omega
   have U:Z (Calls prog 133 #[.slice o l.length q,.int .i64 a] wr λm n=>m=.returned (.int .i64 (Px.codeOf l a))/\Kept wr n):=FT _ l a wr (h.kept j) H L;have y:=AA l a L;replace y:Z ((cp l).take (a+1)=(cp l).take a++[Px.codeOf l a]):=y;generalize Px.codeOf l a=z at *;generalize (cp l).take a=t at *;go_wp2_with fail;refine U.o.mono ?_;rintro m b ⟨rfl,k⟩;have A:b.cell? ⟨w.heap.size,0,none⟩=_:=(k.cell (p:=⟨w.heap.size,0,none⟩) s).trans r;have M:b.cell? ⟨w.heap.size,1,none⟩=_:=(k.cell (p:=⟨w.heap.size,1,none⟩) s).trans x;have N:b.frozen? ⟨w.heap.size,1,none⟩=false:=(k.frozen (p:=⟨w.heap.size,1,none⟩) s).trans K;have C:Z (b.ownsRow (w.heap.size+1) 3 1 d t.length (ints t)):=bO e k;have V:Z (Kept w b):=j.trans k;have P:w.heap.size<b.heap.size:=B _ _ A;clear r x K e j s;go_wp2_with (at_builtin;refine bU _ rfl _ _ rfl (w.heap.size+1) d t rfl (C.o.alloc _) b.heap.size 1 z rfl Xi O Xf ?_)
   intro b3 f D F W;obtain⟨X,Y,rfl⟩:=ak D;have a0:some w.heap.size≠d.ownBlock:=λa1=>by have:=(C.o.lt _ a1.symm).1;omega
   have G:w.heap.size<(b.alloc (Obj.cells #[Value.int .i64 z] 3)).heap.size:=Xf;have u:f.heap[w.heap.size]? = b.heap[w.heap.size]? := (F.block _ G a0).trans (YR _ _ _ P);have a2:f.cell? ⟨w.heap.size,0,none⟩=_:=(XK (w:=b) u).trans A;have a3:f.cell? ⟨w.heap.size,1,none⟩=_:=(XK (w:=b) u).trans M;have a4:f.frozen? ⟨w.heap.size,1,none⟩=false:=(X2 (w:=b) u).trans N;have a5:Z (Kept w f):=(V.o.alloc (Yx P) _).grown F (Yx G) (λg a6=>by have:=(C.o.lt g a6).1;omega);have a7:Z (f.ownsRow (w.heap.size+1) 3 1 (.slice X (a+1) Y) (a+1) (ints (t++[z]))):=D;clear A M N D F W G u;go_wp2;refine⟨⟨a+1,_,O,Xj,?_,ai a3 _,?_,?_,?_⟩,Xb⟩
   .rw[aa _ _ _ _ _ O];exact a2
   .rw[Xy];exact a4
   .rw[y.o,Xv,T]
    exact Yf a7.o (show w.heap.size<w.heap.size+1 from O) _
   .exact a5.o.setCell (E _) _
  .have b4:a=l.length:=O
   have a8:(cp l).take a=cp l:=X6 (by simp[cp];omega);go_wp2;go_ret;rw[a8] at e;refine⟨w.heap.size,rfl,⟨⟨.slice o l.length q,d,r,x,h.kept j,iE e,R,?_⟩,I _ (E _)⟩,j⟩;intro c Q;rw[bP _ e] at Q
   have:=(e.lt c Q).1
   exact I c O
theorem AB l s(h:s<l.length):(cp l).getD s 0=Px.codeOf l s:=by
 simp[cp,G,h]
def kW(z:List Px.One)(t:Px.Bt)(l:List Nat)(i0:Nat)(i1:Px.Bt):Prop:=
 (∃(s n:Nat) (h1:1<=n) (h2:t.a+n<=8*z.length) (go:Px.cP z t.a l (n-1)) (hs:s<l.length) (no:Px.dW l n (Px.msb z t.a n) s) (hit:Px.fZ l n (Px.msb z t.a n) s),s=i0/\{t with a:=t.a+n}=i1) \/
 (∃(n:Nat) (h1:1<=n) (h2:t.a+n<=8*z.length) (go:Px.cP z t.a l (n-1)) (no:Px.dW l n (Px.msb z t.a n) l.length) (nm:¬Px.dP l n (Px.msb z t.a n) l.length),0=i0/\{t with a:=t.a+n,err:=13}=i1) \/
 (∃(go:Px.cP z t.a l (8*z.length-t.a)),0=i0/\{t with a:=8*z.length,cut:=true}=i1)
theorem kW.got{z t l}s n(b:1<=n)(c:t.a+n<=8*z.length)(d:Px.cP z t.a l (n-1))(e:s<l.length)(f:Px.dW l n (Px.msb z t.a n) s)(g:Px.fZ l n (Px.msb z t.a n) s):kW z t l s {t with a:=t.a+n}:=L ⟨s,n,b,c,d,e,f,g,rfl,rfl⟩
theorem kW.bad{z t l}n(b:1<=n)(c:t.a+n<=8*z.length)(d:Px.cP z t.a l (n-1))(e:Px.dW l n (Px.msb z t.a n) l.length)(f:¬Px.dP l n (Px.msb z t.a n) l.length):kW z t l 0 {t with a:=t.a+n,err:=13}:=R (L ⟨n,b,c,d,e,f,rfl,rfl⟩)
theorem kW.cut{z t l}(b:Px.cP z t.a l (8*z.length-t.a)):kW z t l 0 {t with a:=8*z.length,cut:=true}:=R (R ⟨b,rfl,rfl⟩)
theorem kW.cs{z:List Px.One}{t:Px.Bt}{l:List Nat}{motive:∀i0 i1,kW z t l i0 i1->Prop}(got:∀(s n:Nat) (h1:1<=n) (h2:t.a+n<=8*z.length) (go:Px.cP z t.a l (n-1)) (hs:s<l.length) (no:Px.dW l n (Px.msb z t.a n) s) (hit:Px.fZ l n (Px.msb z t.a n) s),motive s {t with a:=t.a+n} (kW.got s n h1 h2 go hs no hit))(bad:∀(n:Nat) (h1:1<=n) (h2:t.a+n<=8*z.length) (go:Px.cP z t.a l (n-1)) (no:Px.dW l n (Px.msb z t.a n) l.length) (nm:¬Px.dP l n (Px.msb z t.a n) l.length),motive 0 {t with a:=t.a+n,err:=13} (kW.bad n h1 h2 go no nm))(cut:∀(go:Px.cP z t.a l (8*z.length-t.a)),motive 0 {t with a:=8*z.length,cut:=true} (kW.cut go)){i0:Nat}{i1:Px.Bt}(h:kW z t l i0 i1):motive i0 i1 h:=by
 rcases h with⟨s,n,h1,h2,go,hs,no,hit,rfl,rfl⟩|⟨n,h1,h2,go,no,nm,rfl,rfl⟩|⟨go,rfl,rfl⟩
 .exact got s n h1 h2 go hs no hit
 .exact bad n h1 h2 go no nm
 .exact cut go
theorem nA b B v z t l w(h:BAt w b v t)(e0:ZAt w v z)(e1:∀b7,ae v=some b7->b7≠b)(e2:qu w B l (λk=>k=b))(a1:Px.bS l)(b8:Px.good z)(h2:t.a<=8*z.length)(a2:t.cut=false)(b9:t.err=0):Calls prog 105 #[.pointer (some ⟨b,0,none⟩),.pointer (some ⟨B,0,none⟩)] w λi j=>∃(s:Nat) (c0:Px.Bt),i=.returned (.int .i64 s)/\kW z t l s c0/\BAt j b v c0/\Fr1 b w j:=by
 have h3:=a1.2;go_enter func105,ntmps105;go_wp2;go_loopw [5,6] (λa3 x g=>∃c:Nat,a3=.int .i64 (Px.msb z t.a c)/\x=.int .i64 ((c:Int)+1)/\t.a+c<=8*z.length/\Fr1 b w g/\((Px.cP z t.a l c/\BAt g b v {t with a:=t.a+c})\/(1<=c/\Px.cP z t.a l (c-1)/\Px.dW l c (Px.msb z t.a c) l.length/\¬Px.dP l c (Px.msb z t.a c) l.length/\BAt g b v {t with a:=t.a+c,err:=13}))) (λ_ x g=>8*z.length+2-(intOf x).toNat)
 case atStart=>exact⟨0,rfl,rfl,O,Fr.refl _ _,L ⟨λh4 M c1=>O,h⟩⟩
 case round=>
  obtain⟨c,rfl,rfl,e3,y,⟨A,C⟩|⟨M,A,D,e4,C⟩⟩:=hrel
  .have c2:Z _:=e0.fr y e1
   have e5:Z _:=e2.fr y;have N:Z (Calls prog 61 #[.pointer (some ⟨b,0,none⟩)] wr λi j=>i=.returned (.bool true)/\j=wr):=by
    have:=bb b v _ wr C
    have a4:({t with a:=t.a+c}:Px.Bt).on=true:=by show(!t.cut&&decide (t.err=0))=true;rw[a2,b9];rfl
    rw[a4] at this;exact this
   have e6:c<=15:=by have:=Px.GQ A a1;omega
   have c3:=Px.Iq z t.a c;have c4:=Px.wG c e6;by_cases e7:t.a+c<8*z.length
   .have a5:=U (tL b v z _ wr C c2.o b8 e7)
    have e8:Z (Px.msb z t.a (c+1)=2*Px.msb z t.a c+Px.bs z (t.a+c)):=rfl;have h5:=Px.kI z (t.a+c);have h6:Px.msb z t.a c<32768:=O;clear c3 c4;generalize Px.bs z (t.a+c)=c5 at *;go_wp2_with fail;refine N.o.mono ?_;rintro i n ⟨rfl,rfl⟩;go_wp2_with fail;refine a5.o.mono ?_;rintro i n ⟨rfl,E,G⟩;have e9:n.cell? ⟨b,2,none⟩=some (.bool false):=by rw[<-a2];exact E.c2
    go_wp2;obtain⟨e,c6,c7⟩:∃e:Nat,2*(Px.msb z t.a c:Int)+(c5:Int)=(e:Int)/\e=Px.msb z t.a (c+1):=⟨2*Px.msb z t.a c+c5,O,e8.o.symm⟩;obtain⟨d,c8⟩:∃d:Nat,(c:Int)+1=(d:Int):=⟨c+1,O⟩;have c9:d=c+1:=O;rw[c6,c8];obtain⟨h7,h8,a6,m,a7,d0,f0,f1⟩:=(e5.o.fr G).ex;obtain⟨f2,f3,rfl⟩:=a7.form;have a8:Z _:=c7;have P:Z _:=c9;have h9:d<=16:=O;have i0:1<=d:=O;clear c6 c7 c8 c9;go_loopw [8,9] (λa3 x g=>∃(s:Nat) (H:Bool),a3=.bool H/\x=.int .i64 s/\s<=l.length/\(H=true↔Px.dP l d e s)/\Px.dW l d e s/\Kept n g) (λ_ x _=>l.length-(intOf x).toNat)
    case atStart=>exact⟨0,false,rfl,rfl,O,⟨(λh=>by cases h),(λ⟨s,h,_⟩=>O)⟩,λs h=>O,Kept.refl _⟩
    case round=>
     obtain⟨s,H,rfl,rfl,i1,Q,D,q⟩:=hrel;have d1:=World.block_lt_of_cell? _ _ a6;have S:=(q.cell (p:=⟨B,0,none⟩) d1).trans a6;have f4:=(q.cell (p:=⟨B,1,none⟩) d1).trans m;by_cases T:s<l.length
     .obtain⟨a9,b0,f5,b1⟩:=a7.cells f2 f3 rfl s T
      subst f5;obtain⟨f6,f7,i2,f8,d2⟩:=d0.addr (by simp[cp];omega);subst f8;have d3:(cp l).length=l.length:=by simp[cp]
      have V:=d2 s (by rw[d3];exact T);rw[AB l s T] at V;have i3:=(q.cell (p:=⟨f6,f7+s,none⟩) (World.block_lt_of_cell? _ _ V)).trans V;have W:=(q.cell (p:=⟨a9,b0+s,none⟩) (World.block_lt_of_cell? _ _ b1)).trans b1;have i4:=Px.eE a1 s;have b2:=U D;have f9:Z _:=Q;have X:Z (Px.fZ l d e s↔(l.getD s 0=d/\Px.codeOf l s=e)):=Iff.rfl;have b3:Z (Px.ur l d e s↔(d<l.getD s 0/\Px.codeOf l s/2^(l.getD s 0-d)=e)):=Iff.rfl;rw[d3] at f4;have Y:Z (Kept n wr):=q;clear b1 V d2 D Q a6 m f0 f1 a7 d0 q;generalize l.getD s 0=f at *;generalize Px.codeOf l s=r at *;have d4:∀g,Kept n g->¬Px.fZ l d e s->¬Px.ur l d e s->(∃(a0:Nat) (d5:Bool),Value.bool H=.bool d5/\Value.int .i64 ((s:Int)+1)=.int .i64 a0/\a0<=l.length/\(d5=true↔Px.dP l d e a0)/\Px.dW l d e a0/\Kept n g)/\l.length-(intOf (.int .i64 ((s:Int)+1))).toNat<l.length-(intOf (.int .i64 s)).toNat:=by
       intro g b4 M c1;refine⟨⟨s+1,H,rfl,Xj,O,?_,Px.um b2.o M,b4⟩,Xb⟩;rw[Px.rS,f9.o];exact⟨L,λh=>h.resolve_right c1⟩
      have d6:Z _:=d4;clear d4;by_cases d7:f<d
      .go_wp2
       go_quiet (fail);go_wp2;exact d6.o _ (Y.o.drewN _) (λh=>by have:=X.o.1 h;omega) (λh=>by have:=b3.o.1 h;omega)
      .by_cases u:r/2^(f-d)=e
       .have b5:((r:Int)/2^(f-d)!=(e:Int))=false:=by
         rw[Xx,show(r:Int)/2^(f-d)=((r/2^(f-d):Nat):Int) from Xi,u]
        by_cases K:f=d
        .have g0:Z (Px.fZ l d e s):=X.o.2 ⟨K,by rw[K,YC] at u;simpa using u⟩
         subst K;have i5:((r:Int)!=(e:Int))=false:=by
          rw[YC] at b5;simpa using b5
         go_wp2;go_quiet (fail);have g1:(wr.drewN nq).cell? ⟨B,0,none⟩=_:=S;have g2:(wr.drewN nq).cell? ⟨a9,b0+s,none⟩=_:=W;have I:Z (Kept n (wr.drewN nq)):=Y.o.drewN nq;generalize wr.drewN nq=g3 at *;clear S W;go_wp2;go_ret;refine⟨s,{t with a:=t.a+f},rfl,?_,?_,?_⟩
         .have m:=P.o
          have o:=a8.o;refine kW.got s f O O (by rw[m];exact A) T ?_ ?_
          .rw[show Px.msb z t.a f=e from by rw[m];exact o.symm];exact b2.o
          .rw[show Px.msb z t.a f=e from by rw[m];exact o.symm];exact g0.o
         .have m:=P.o
          rw[m];exact E.kept I.o
         .exact(y.trans G).kept I.o
        .have g4:=U (b3.o.2 ⟨O,u⟩)
         have b6:Z (¬Px.fZ l d e s):=λh=>K (X.o.1 h).1
         have g5:d<f:=O;have g6:decide (f<d)=false:=J;clear K d7 u;go_wp2;go_quiet (fail);have g1:(wr.drewN nq).cell? ⟨B,0,none⟩=_:=S;have g2:(wr.drewN nq).cell? ⟨a9,b0+s,none⟩=_:=W;have I:Z (Kept n (wr.drewN nq)):=Y.o.drewN nq;generalize wr.drewN nq=g3 at *;clear S W;have i6:((f:Int)==(d:Int))=false:=F.2 O;go_wp2;refine⟨⟨s+1,true,rfl,Xj,O,⟨λ_=>Px.rS.2 (R g4.o),λ_=>rfl⟩,Px.um b2.o b6.o,I.o⟩,Xb⟩
       .have b5:((r:Int)/2^(f-d)!=(e:Int))=true:=by
         rw[XJ,show(r:Int)/2^(f-d)=((r/2^(f-d):Nat):Int) from Xi];omega
        have b6:Z (¬Px.fZ l d e s):=λh=>by
         have:=X.o.1 h
         apply u;rw[this.1,YC,this.2];simp
        have g7:Z (¬Px.ur l d e s):=λh=>u (b3.o.1 h).2
        have g5:d<=f:=O;have g6:decide (f<d)=false:=J;clear u d7;go_wp2;go_quiet (fail);go_wp2;exact d6.o _ (Y.o.drewN _) b6.o g7.o
     .have g8:s=l.length:=O
      subst g8;have g9:Z (∀g,BAt g b v {t with a:=t.a+(c+1)}->Calls prog 60 #[.pointer (some ⟨b,0,none⟩),.int .i64 13] g λi j=>i=.returned (.tuple #[])/\BAt j b v {t with a:=t.a+(c+1),err:=13}/\Fr1 b g j):=λg b4=>cM b v _ 13 g b4 a2 b9
      have d8:=E.kept q;cases H
      .go_wp2_with fail
       refine(g9.o _ d8).mono ?_;rintro i i7 ⟨rfl,h0,I⟩;go_wp2;have m:=P.o;have o:=a8.o;subst m;refine⟨⟨c+1,aY (by rw[o]),Xj,O,(y.trans G).trans' ((Fr.of_kept q).trans I) (λi8 _ h=>h),R ⟨O,A,?_,?_,h0⟩⟩,Xb⟩
       .rw[<-o];exact D
       .rw[<-o];exact λh=>by cases Q.2 h
      .go_wp2
       have m:=P.o;have o:=a8.o;subst m;refine⟨⟨c+1,aY (by rw[o]),Xj,O,(y.trans G).kept q,L ⟨Px.tQ A (by rw[<-o];exact D) (by rw[<-o];exact Q.1 rfl),d8⟩⟩,Xb⟩
   .have d9:t.a+c=8*z.length:=O
    have a5:Z (Calls prog 62 #[.pointer (some ⟨b,0,none⟩)] wr λi j=>i=.returned (.int .i64 0)/\BAt j b v {t with a:=8*z.length,cut:=true}/\Fr1 b wr j):=by
     have:=yV b v z _ wr C c2.o b8 d9
     rw[d9] at this;exact this
    have h1:Z (Px.cP z t.a l (8*z.length-t.a)):=by rw[show 8*z.length-t.a=c from O];exact A
    clear c3 c4;go_wp2_with fail;refine N.o.mono ?_;rintro i n ⟨rfl,rfl⟩;go_wp2_with fail;refine a5.o.mono ?_;rintro i n ⟨rfl,E,G⟩;have e9:=E.c2;go_wp2;go_ret;exact⟨0,_,rfl,kW.cut h1.o,E,y.trans G⟩
  .have N:Z (Calls prog 61 #[.pointer (some ⟨b,0,none⟩)] wr λi j=>i=.returned (.bool false)/\j=wr):=by
    have:=bb b v _ wr C
    have a4:({t with a:=t.a+c,err:=13}:Px.Bt).on=false:=by show(!t.cut&&decide (13=0))=false;simp
    rw[a4] at this;exact this
   go_wp2_with fail;refine N.o.mono ?_;rintro i n ⟨rfl,rfl⟩;go_wp2;go_ret;exact⟨0,_,rfl,kW.bad c M e3 A D e4,C,y⟩
theorem Gg(w:World)l t c:IAt (w.alloc (.cells ((l.map λ(n:Nat)=>Value.int .i64 n).toArray) t)) (.slice (some ⟨w.heap.size,0,none⟩) l.length c) l:=by
 refine⟨⟨_,_,rfl⟩,?_⟩;intro d e a f b
 injection a with a _ _
 refine⟨w.heap.size,0,a.symm,?_⟩;rw[Xr _ _ _ _ rfl];simp[XQ,Xt b,G]
theorem kC w:Calls prog 108 #[] w λb a=>b=.returned (.slice (some ⟨w.heap.size,0,none⟩) 19 19)/\IAt a (.slice (some ⟨w.heap.size,0,none⟩) 19 19) Px.yj/\Kept w a:=by
 go_enter func108,ntmps108;go_wp2;go_ret;exact⟨rfl,Gg w Px.yj 3 19,(Xs _ _).alloc (E _) _⟩
def Ml(z:List Px.One)(t:Px.Bt)(n x:Nat):Prop:=x<2^n/\(t.a+n<=8*z.length->x=Px.ab z t.a n)
theorem GZ b v z t(c:Nat)w(h:BAt w b v t)(y:ZAt w v z)(A:∀q,ae v=some q->q≠b)(B:Px.good z)(C:t.a<=8*z.length)(r:t.cut=false)(S:257<=c)(T:c<=285):Calls prog 106 #[.pointer (some ⟨b,0,none⟩),.int .i64 c] w λk i=>∃f:Nat,k=.returned (.int .i64 ((Px.bD c+f:Nat):Int))/\Ml z t (Px.aK c) f/\BAt i b v (t.num z (Px.aK c))/\Fr1 b w i:=by
 have l:Px.aK c=0->t.num z (Px.aK c)=t:=by
  intro j;rw[j];unfold Px.Bt.num;rw[N (by rw[r];decide),I];rfl
 obtain⟨a,rfl⟩:∃a,c=a+257:=⟨c-257,O⟩;by_cases m:a=28
 .subst m
  have e:Px.aK (28+257)=0:=rfl;have g:Px.bD (28+257)=258:=rfl;have o:Z _:=l e;go_enter func106,ntmps106;go_wp2;go_ret;exact⟨0,rfl,⟨by rw[e];decide,λ_=>by rw[e];rfl⟩,by rw[o.o];exact h,Fr.refl _ _⟩
 .by_cases U:a<8
  .have e:Px.aK (a+257)=0:=by unfold Px.aK;rw[N,I]
   have g:Px.bD (a+257)=3+a:=by unfold Px.bD;rw[N,I];omega
   have o:Z _:=l e;have D:Z (Px.bD (a+257)=3+a/\Px.aK (a+257)=0):=⟨g,e⟩;have E:((a:Int)==28)=false:=F.2 O;clear e g l m;go_enter func106,ntmps106;go_wp2;go_ret;have j:=D.o;exact⟨0,aj (by rw[j.1];omega),⟨by rw[j.2];decide,λ_=>by rw[j.2];rfl⟩,by rw[o.o];exact h,Fr.refl _ _⟩
  .have e:Px.aK (a+257)=a/4-1:=by unfold Px.aK;rw[N,N];congr 2
   have g:Px.bD (a+257)=3+(4+a%4)*2^(a/4-1):=by unfold Px.bD;rw[N,N,YL]
   have s:a/4-1<=5:=O;obtain⟨d,u⟩:∃d,d=a/4-1:=⟨_,rfl⟩;have p:(a:Int)/4-1=(d:Int):=O;rw[<-u] at e g s;rw[e,g];have G:Z (Calls prog 59 #[.pointer (some ⟨b,0,none⟩),.int .i64 ((a:Int)/4-1)] w λk i=>∃f:Nat,k=.returned (.int .i64 f)/\f<2^d/\(t.a+d<=8*z.length->f=Px.ab z t.a d)/\BAt i b v (t.num z d)/\Fr1 b w i):=by
    rw[p];exact jJ b v z t d w h y A B C O r
   have E:((a:Int)==28)=false:=F.2 O;have H:2^d<=32:=by have:=XH (n:=2) O s;simpa using this
   have J:Z _:=p;clear e g l m u p;go_enter func106,ntmps106;go_wp2_with fail;refine G.o.mono ?_;rintro k V ⟨f,rfl,K,L,M,P⟩;have W:f<32:=O;have X:(0:Int)<=(a:Int)/4-1:=O;go_wp2;go_ret;refine⟨f,aj ?_,⟨K,L⟩,M,P⟩;have Q:a/4-1=d:=by have:=J.o;omega
   rw[Q];have Y:(4+a%4)*2^d<=7*32:=XF O H;have R:(4+(a:Int)%4)*2^d=(((4+a%4)*2^d:Nat):Int):=Xi;generalize (4+a%4)*2^d=x at *;rw[R,bp (x:Int) O O,bp (3+(x:Int)) O O,bp _ O O];omega
theorem I2 b v z t(c:Nat)w(h:BAt w b v t)(s:ZAt w v z)(u:∀m,ae v=some m->m≠b)(x:Px.good z)(y:t.a<=8*z.length)(o:t.cut=false)(M:c<=29):Calls prog 107 #[.pointer (some ⟨b,0,none⟩),.int .i64 c] w λj g=>∃d:Nat,j=.returned (.int .i64 ((Px.bx c+d:Nat):Int))/\Ml z t (Px.aI c) d/\BAt g b v (t.num z (Px.aI c))/\Fr1 b w g:=by
 have k:Px.aI c=0->t.num z (Px.aI c)=t:=by
  intro i;rw[i];unfold Px.Bt.num;rw[N (by rw[o];decide),I];rfl
 by_cases P:c<4
 .have e:Px.aI c=0:=by unfold Px.aI;rw[I]
  have f:Px.bx c=1+c:=by unfold Px.bx;rw[I]
  have A:Z _:=k e;have B:Z (Px.bx c=1+c/\Px.aI c=0):=⟨f,e⟩;clear e f k;go_enter func107,ntmps107;go_wp2;go_ret;have i:=B.o;exact⟨0,aj (by rw[i.1];omega),⟨by rw[i.2];decide,λ_=>by rw[i.2];rfl⟩,by rw[A.o];exact h,Fr.refl _ _⟩
 .have e:Px.aI c=c/2-1:=by unfold Px.aI;rw[N]
  have f:Px.bx c=1+(2+c%2)*2^(c/2-1):=by unfold Px.bx;rw[N]
  have p:c/2-1<=13:=O;obtain⟨a,q⟩:∃a,a=c/2-1:=⟨_,rfl⟩;have l:(c:Int)/2-1=(a:Int):=O;rw[<-q] at e f p;rw[e,f];have C:Z (Calls prog 59 #[.pointer (some ⟨b,0,none⟩),.int .i64 ((c:Int)/2-1)] w λj g=>∃d:Nat,j=.returned (.int .i64 d)/\d<2^a/\(t.a+a<=8*z.length->d=Px.ab z t.a a)/\BAt g b v (t.num z a)/\Fr1 b w g):=by
   rw[l];exact jJ b v z t a w h s u x y O o
  have D:2^a<=8192:=by have:=XH (n:=2) O p;simpa using this
  have E:Z _:=l;clear e f k q l;go_enter func107,ntmps107;go_wp2_with fail;refine C.o.mono ?_;rintro j Q ⟨d,rfl,F,G,H,J⟩;have R:d<8192:=O;have S:(0:Int)<=(c:Int)/2-1:=O;go_wp2;go_ret;refine⟨d,aj ?_,⟨F,G⟩,H,J⟩;have K:c/2-1=a:=by have:=E.o;omega
  rw[K];have T:(2+c%2)*2^a<=3*8192:=XF O D;have L:(2+(c:Int)%2)*2^a=(((2+c%2)*2^a:Nat):Int):=Xi;generalize (2+c%2)*2^a=r at *;rw[L,bp (r:Int) O O,bp (1+(r:Int)) O O,bp _ O O];omega
