import Derived.Test.YtgooinallljbpaaGreatDoorSh00
import Derived.Test.YtgooinallljbpaaGreatDoorSh31
import Derived.Test.YtgooinallljbpaaGreatDoorSh05
import Derived.Test.YtgooinallljbpaaGreatDoorSh23
import Derived.Test.YtgooinallljbpaaGreatDoorSh22
set_option linter.all false
set_option maxRecDepth 100000
set_option maxHeartbeats 0
namespace Go.Proofs.YtgooinallljbpaaGreatDoor
open Go.RowKit Px Tryz
def flV(f:Fl)(er at':Nat)(pv cv zv iv:Value):Nat->Value
 | 0 => .bool f.on
 | 1 => .int .i64 (f.hd.W:Int)
 | 2 => .int .i64 (f.hd.H:Int)
 | 3 => .int .i64 (f.hd.D:Int)
 | 4 => .int .i64 (f.hd.K:Int)
 | 5 => .int .i64 (f.hd.L:Int)
 | 6 => .bool f.hasPal
 | 7 => .bool f.hasClear
 | 8=>pv
 | 9=>cv
 | 10=>zv
 | 11=>iv
 | 12 => .bool f.over
 | 13 => .bool f.first
 | 14 => .bool f.done
 | 15 => .int .i64 (er:Int)
 | 16 => .int .i64 (at':Int)
 | _=>undef
structure aw (w:World) (b:Nat) (f:Fl) (er at':Nat) (pv cv zv iv:Value):Prop where
 cell:∀k,k<17->w.cell? ⟨b,k,none⟩=some (flV f er at' pv cv zv iv k)
 fz:∀k,w.frozen? ⟨b,k,none⟩=false
 pal:IAt w pv f.pal
 clr:IAt w cv f.clear
 z:w.ownsRow (b+1) 148 2 zv f.z.length (fX f.z)
 ids:∃xs,w.ownsRow (b+1) 3 1 iv f.ids xs
 pb:∀g,ae pv=some g->b<g/\zv.ownBlock≠some g/\iv.ownBlock≠some g
 cb:∀g,ae cv=some g->b<g/\zv.ownBlock≠some g/\iv.ownBlock≠some g
 dis:∀g,zv.ownBlock=some g->iv.ownBlock≠some g
 plt:∀g,ae pv=some g->g<w.heap.size
 clt:∀g,ae cv=some g->g<w.heap.size
theorem aw.lt{w b f er at' pv cv zv iv}(h:aw w b f er at' pv cv zv iv):b<w.heap.size:=B _ _ (h.cell 0 O)
theorem aw.kept{w w' b f er at' pv cv zv iv}(h:aw w b f er at' pv cv zv iv)(k:Kept w w'):aw w' b f er at' pv cv zv iv:=by
 obtain⟨e,g⟩:=h.ids;exact⟨λa i=>(k.cell (p:=⟨b,a,none⟩) h.lt).trans (h.cell a i),λa=>(k.frozen (p:=⟨b,a,none⟩) h.lt).trans (h.fz a),h.pal.kept k,h.clr.kept k,bO h.z k,⟨e,bO g k⟩,h.pb,h.cb,h.dis,λc d=>Xq (h.plt c d) k.size,λc d=>Xq (h.clt c d) k.size⟩
theorem aw.set{w b f er at' pv cv zv iv}(h:aw w b f er at' pv cv zv iv)k v f' er' at''(s:k<17)(m:∀a,a<17->flV f' er' at'' pv cv zv iv a=if a=k then v else flV f er at' pv cv zv iv a)(n:f'.pal=f.pal)(o:f'.clear=f.clear)(p:f'.z=f.z)(q:f'.ids=f.ids):aw (w.setCell ⟨b,k,none⟩ v) b f' er' at'' pv cv zv iv:=by
 have i:Fr1 b w (w.setCell ⟨b,k,none⟩ v):=(Fr1.refl _ _).set _ _;obtain⟨r,l⟩:=h.ids;refine⟨λa j => ?_,λa=>(Xy _ _ _ _).trans (h.fz a),by rw[n];exact h.pal.fr i (λc d e=>by have:=(h.pb c d).1;omega),by rw[o];exact h.clr.fr i (λc d e=>by have:=(h.cb c d).1;omega),by rw[p];exact aU h.z i (λc d e=>by have:=(h.z.lt c d).1;omega),⟨r,by rw[q];exact aU l i (λc d e=>by have:=(l.lt c d).1;omega)⟩,h.pb,h.cb,h.dis,λc g=>by simpa[World.setCell] using h.plt c g,λc g=>by simpa[World.setCell] using h.clt c g⟩;rw[m a j];by_cases e:a=k
 .subst e;rw[I rfl];exact ai (h.cell a j) _
 .rw[N e,aa _ _ _ _ _ (λg=>e g.symm)];exact h.cell a j
theorem bF{P:Nat->Prop}(h:P 0/\P 1/\P 2/\P 3/\P 4/\P 5/\P 6/\P 7/\P 8/\P 9/\P 10/\P 11/\P 12/\P 13/\P 14/\P 15/\P 16):∀a,a<17->P a:=by
 obtain⟨b,c,d,e,f,g,i,j,k,l,m,n,o,p,q,r,s⟩:=h;intro a t
 match a,t with
 | 0,_=>exact b
 | 1,_=>exact c
 | 2,_=>exact d
 | 3,_=>exact e
 | 4,_=>exact f
 | 5,_=>exact g
 | 6,_=>exact i
 | 7,_=>exact j
 | 8,_=>exact k
 | 9,_=>exact l
 | 10,_=>exact m
 | 11,_=>exact n
 | 12,_=>exact o
 | 13,_=>exact p
 | 14,_=>exact q
 | 15,_=>exact r
 | 16,_=>exact s
 | a+17,h=>omega
theorem aw.setErr{w b f er at' pv cv zv iv}(h:aw w b f er at' pv cv zv iv)(e:Nat):aw (w.setCell ⟨b,15,none⟩ (.int .i64 e)) b f e at' pv cv zv iv:=
 h.set 15 _ f e at' O (bF ⟨rfl,rfl,rfl,rfl,rfl,rfl,rfl,rfl,rfl,rfl,rfl,rfl,rfl,rfl,rfl,rfl,rfl⟩) rfl rfl rfl rfl
theorem aw.setAt{w b f er at' pv cv zv iv}(h:aw w b f er at' pv cv zv iv)(e:Nat):aw (w.setCell ⟨b,16,none⟩ (.int .i64 e)) b f er e pv cv zv iv:=
 h.set 16 _ f er e O (bF ⟨rfl,rfl,rfl,rfl,rfl,rfl,rfl,rfl,rfl,rfl,rfl,rfl,rfl,rfl,rfl,rfl,rfl⟩) rfl rfl rfl rfl
theorem aw.setFirst{w b f er at' pv cv zv iv}(h:aw w b f er at' pv cv zv iv):aw (w.setCell ⟨b,13,none⟩ (.bool true)) b {f with first:=true} er at' pv cv zv iv:=
 h.set 13 _ _ er at' O (bF ⟨rfl,rfl,rfl,rfl,rfl,rfl,rfl,rfl,rfl,rfl,rfl,rfl,rfl,rfl,rfl,rfl,rfl⟩) rfl rfl rfl rfl
theorem aw.setOver{w b f er at' pv cv zv iv}(h:aw w b f er at' pv cv zv iv):aw (w.setCell ⟨b,12,none⟩ (.bool true)) b {f with over:=true} er at' pv cv zv iv:=
 h.set 12 _ _ er at' O (bF ⟨rfl,rfl,rfl,rfl,rfl,rfl,rfl,rfl,rfl,rfl,rfl,rfl,rfl,rfl,rfl,rfl,rfl⟩) rfl rfl rfl rfl
theorem aw.setDone{w b f er at' pv cv zv iv}(h:aw w b f er at' pv cv zv iv):aw (w.setCell ⟨b,14,none⟩ (.bool true)) b {f with done:=true} er at' pv cv zv iv:=
 h.set 14 _ _ er at' O (bF ⟨rfl,rfl,rfl,rfl,rfl,rfl,rfl,rfl,rfl,rfl,rfl,rfl,rfl,rfl,rfl,rfl,rfl⟩) rfl rfl rfl rfl
theorem gH b f(e a v q:Nat)pv cv zv iv w(h:aw w b f e a pv cv zv iv):Calls prog 57 #[.pointer (some ⟨b,0,none⟩),.int .i64 v,.int .i64 q] w λi c=>i=.returned (.bool false)/\aw c b f v q pv cv zv iv/\Fr1 b w c:=by
 have d:=h.cell 15 O;have g:=h.cell 16 O;replace d:w.cell? ⟨b,15,none⟩=some (.int .i64 e):=d;replace g:w.cell? ⟨b,16,none⟩=some (.int .i64 a):=g;have k:=h.fz;have j:Z _:=h;clear h;go_enter func57,ntmps57;go_wp2;go_ret;exact⟨rfl,(j.o.setErr v).setAt q,((Fr1.refl _ _).set _ _).set _ _⟩
theorem EW t k(h:k<t.size):ints ((ag t).take (k+1))=ints ((ag t).take k)++[.int .i64 (t[k].toNat:Int)]:=by
 rw[rO t k h,wR]
theorem nR t w(C:t.size<=1048576):Calls prog 132 #[.string t] w λl h=>(∃e,l=.returned e/\h.ownsRow w.heap.size 3 1 e t.size (ints (ag t)))/\Kept w h:=by
 obtain⟨m,n,o,p,q⟩:=info_parts kQ;go_enter func132,ntmps132;go_wp2;go_loopw [3,4] (λe b i=>∃a:Nat,a<=t.size/\b=.int .i64 a/\i.ownsRow w.heap.size 3 1 e a (ints ((ag t).take a))/\Kept w i) (λ_ b _=>t.size-(intOf b).toNat)
 case atStart=>exact⟨0,O,rfl,XR _ _ _ _,Kept.refl _⟩
 case round=>
  obtain⟨a,D,rfl,d,f⟩:=hrel;by_cases r:a<t.size
  .have E:=f.size
   have F:=t[a].toNat_lt;have s:Z _:=EW t a r;generalize ints ((ag t).take a)=G at *;go_wp2_with (at_builtin;refine wpList_append_own _ rfl _ _ 30 rfl w.heap.size 3 m (.int .i64 0) 1 8 underlying30 n o p q rfl Xh _ _ _ rfl (d.alloc _) ⟨wr.heap.size,0,none⟩ 1 1 [.int .i64 (t[a].toNat:Int)] rfl rfl ?c1 ?c2 ?c3 ?c4 ?c5 ?_)
   case c1=>
    intro b u c
    match b,c with
    | 0,c=>simp at c;subst c;simp[Addr.add]
   case c2=>intro u j;simp at j;subst j;rfl
   case c3=>unfold maxLen;omega
   case c4=>omega
   case c5=>simp;omega
   intro H v g k x;have y:Kept w v:=(Xw f O _).grown k Xf (λb c=>(d.lt b c).1);rw[<-s.o] at g;have z:Z _:=g;clear x k d g;go_wp2;exact⟨⟨a+1,O,Xj,z.o,y⟩,Xb⟩
  .have A:a=t.size:=O
   have B:(ag t).take a=ag t:=X6 (by rw[az];omega);rw[B] at d;go_wp2;go_ret;exact⟨⟨_,rfl,by rw[<-A];exact d⟩,f⟩
theorem yW b f e a pv cv zv iv k(n:Nat)dn w(h:aw w b f e a pv cv zv iv)(d:k.size=4)(p:f.first=false):Calls prog 99 #[.pointer (some ⟨b,0,none⟩),.string k,.int .i64 n] w λj g=>j=.returned (.int .i64 (f.begE (ty k) n dn:Int))/\aw g b (if f.begE (ty k) n dn=0 then {f with first:=true} else f) e a pv cv zv iv/\Fr1 b w g:=by
 have s:w.cell? ⟨b,13,none⟩=some (.bool f.first):=h.cell 13 O;have t:=h.fz;rw[p] at s;have l:Z _:=h;clear h;have i:=xM k d;have o:=xN k d;cases q:qo k
 .have c:f.begE (ty k) n dn=3:=by unfold Fl.begE;rw[i,I q]
  rw[c,N];clear c o i;go_enter func99,ntmps99;go_wp2_with (go_at_call 130;refine(du _ _ d).mono ?_;rintro j g ⟨rfl,rfl⟩)
  go_ret;exact⟨rfl,l.o,Fr1.refl _ _⟩
 .have c:f.begE (ty k) n dn=if ty k≠aQ then 4 else if n≠13 then 5 else 0:=by
   unfold Fl.begE;rw[i,N (by rw[q];decide),I p]
  by_cases m:ty k=aQ
  .rw[N (by simpa using m)] at c
   rw[K m] at o;cases r:((n:Int)!=13)
   .rw[N (by rw[Xx] at r;omega)] at c
    rw[c,I rfl];clear c i;go_enter func99,ntmps99;go_wp2_with (go_at_call 130;refine(du _ _ d).mono ?_;rintro j g ⟨rfl,rfl⟩)
    go_ret;exact⟨rfl,l.o.setFirst,(Fr1.refl _ _).set _ _⟩
   .rw[I (by rw[XJ] at r;omega)] at c
    rw[c,N];clear c i;go_enter func99,ntmps99;go_wp2_with (go_at_call 130;refine(du _ _ d).mono ?_;rintro j g ⟨rfl,rfl⟩)
    go_ret;exact⟨rfl,l.o,Fr1.refl _ _⟩
  .rw[I m] at c
   rw[J m] at o;rw[c,N];clear c i;go_enter func99,ntmps99;go_wp2_with (go_at_call 130;refine(du _ _ d).mono ?_;rintro j g ⟨rfl,rfl⟩)
   go_ret;exact⟨rfl,l.o,Fr1.refl _ _⟩
theorem aw.setPal{w w1 b f er at' pv cv zv iv}(h:aw w b f er at' pv cv zv iv)(k:Kept w w1)v d(m:w1.ownsRow w.heap.size 3 1 v d.length (ints d)):aw (w1.setCell ⟨b,8,none⟩ v) b {f with pal:=d} er at' v cv zv iv:=by
 have g:=h.kept k;have l:Fr1 b w1 (w1.setCell ⟨b,8,none⟩ v):=(Fr1.refl _ _).set _ _;obtain⟨r,p⟩:=h.ids;obtain⟨q,o⟩:=g.ids;have s:=h.lt;have e:∀a,ae v=some a->w.heap.size<=a/\a<w1.heap.size:=λa e=>by rw[bP v m] at e;exact m.lt a e
 refine⟨λj n => ?_,λj=>(Xy _ _ _ _).trans (g.fz j),(iE m).fr l (λa c i=>by have:=(e a c).1;omega),g.clr.fr l (λa c i=>by have:=(g.cb a c).1;omega),aU g.z l (λa e i=>by have:=(g.z.lt a e).1;omega),⟨q,aU o l (λa e i=>by have:=(o.lt a e).1;omega)⟩,λa c=>⟨by have:=(e a c).1;omega,λi=>by have:=(h.z.lt a i).2;have:=(e a c).1;omega,λi=>by have:=(p.lt a i).2;have:=(e a c).1;omega⟩,g.cb,g.dis,λa c=>by simpa[World.setCell] using(e a c).2,λa c=>by simpa[World.setCell] using g.clt a c⟩;by_cases i:j=8
 .subst i;exact ai (g.cell 8 n) _
 .rw[aa _ _ _ _ _ (λc=>i c.symm),g.cell j n]
  congr 1
  revert i
  exact bF (P:=λj=>j≠8->flV f er at' pv cv zv iv j=flV {f with pal:=d} er at' v cv zv iv j) ⟨λ_=>rfl,λ_=>rfl,λ_=>rfl,λ_=>rfl,λ_=>rfl,λ_=>rfl,λ_=>rfl,λ_=>rfl,λc=>absurd rfl c,λ_=>rfl,λ_=>rfl,λ_=>rfl,λ_=>rfl,λ_=>rfl,λ_=>rfl,λ_=>rfl,λ_=>rfl⟩ j n
theorem aw.setClear{w w1 b f er at' pv cv zv iv}(h:aw w b f er at' pv cv zv iv)(k:Kept w w1)v d(m:w1.ownsRow w.heap.size 3 1 v d.length (ints d)):aw (w1.setCell ⟨b,9,none⟩ v) b {f with clear:=d} er at' pv v zv iv:=by
 have g:=h.kept k;have l:Fr1 b w1 (w1.setCell ⟨b,9,none⟩ v):=(Fr1.refl _ _).set _ _;obtain⟨r,p⟩:=h.ids;obtain⟨q,o⟩:=g.ids;have s:=h.lt;have e:∀a,ae v=some a->w.heap.size<=a/\a<w1.heap.size:=λa e=>by rw[bP v m] at e;exact m.lt a e
 refine⟨λj n => ?_,λj=>(Xy _ _ _ _).trans (g.fz j),g.pal.fr l (λa c i=>by have:=(g.pb a c).1;omega),(iE m).fr l (λa c i=>by have:=(e a c).1;omega),aU g.z l (λa e i=>by have:=(g.z.lt a e).1;omega),⟨q,aU o l (λa e i=>by have:=(o.lt a e).1;omega)⟩,g.pb,λa c=>⟨by have:=(e a c).1;omega,λi=>by have:=(h.z.lt a i).2;have:=(e a c).1;omega,λi=>by have:=(p.lt a i).2;have:=(e a c).1;omega⟩,g.dis,λa c=>by simpa[World.setCell] using g.plt a c,λa c=>by simpa[World.setCell] using(e a c).2⟩;by_cases i:j=9
 .subst i;exact ai (g.cell 9 n) _
 .rw[aa _ _ _ _ _ (λc=>i c.symm),g.cell j n]
  congr 1
  revert i
  exact bF (P:=λj=>j≠9->flV f er at' pv cv zv iv j=flV {f with clear:=d} er at' pv v zv iv j) ⟨λ_=>rfl,λ_=>rfl,λ_=>rfl,λ_=>rfl,λ_=>rfl,λ_=>rfl,λ_=>rfl,λ_=>rfl,λ_=>rfl,λc=>absurd rfl c,λ_=>rfl,λ_=>rfl,λ_=>rfl,λ_=>rfl,λ_=>rfl,λ_=>rfl,λ_=>rfl⟩ j n
theorem aw.setHasPal{w b f er at' pv cv zv iv}(h:aw w b f er at' pv cv zv iv):aw (w.setCell ⟨b,6,none⟩ (.bool true)) b {f with hasPal:=true} er at' pv cv zv iv:=
 h.set 6 _ _ er at' O (bF ⟨rfl,rfl,rfl,rfl,rfl,rfl,rfl,rfl,rfl,rfl,rfl,rfl,rfl,rfl,rfl,rfl,rfl⟩) rfl rfl rfl rfl
theorem aw.setHasClear{w b f er at' pv cv zv iv}(h:aw w b f er at' pv cv zv iv):aw (w.setCell ⟨b,7,none⟩ (.bool true)) b {f with hasClear:=true} er at' pv cv zv iv:=
 h.set 7 _ _ er at' O (bF ⟨rfl,rfl,rfl,rfl,rfl,rfl,rfl,rfl,rfl,rfl,rfl,rfl,rfl,rfl,rfl,rfl,rfl⟩) rfl rfl rfl rfl
theorem aw.setOn{w b f er at' pv cv zv iv}(h:aw w b f er at' pv cv zv iv):aw (w.setCell ⟨b,0,none⟩ (.bool true)) b {f with on:=true} er at' pv cv zv iv:=
 h.set 0 _ _ er at' O (bF ⟨rfl,rfl,rfl,rfl,rfl,rfl,rfl,rfl,rfl,rfl,rfl,rfl,rfl,rfl,rfl,rfl,rfl⟩) rfl rfl rfl rfl
theorem aw.setW{w:World}{b:Nat}{f:Fl}{a c:Nat}{d e g i:Value}(h:aw w b f a c d e g i)(n:Nat):aw (w.setCell ⟨b,1,none⟩ (.int .i64 n)) b {f with hd:={f.hd with W:=n}} a c d e g i:=
 h.set 1 _ _ a c O (bF ⟨rfl,rfl,rfl,rfl,rfl,rfl,rfl,rfl,rfl,rfl,rfl,rfl,rfl,rfl,rfl,rfl,rfl⟩) rfl rfl rfl rfl
theorem aw.setH{w:World}{b:Nat}{f:Fl}{a c:Nat}{d e g i:Value}(h:aw w b f a c d e g i)(n:Nat):aw (w.setCell ⟨b,2,none⟩ (.int .i64 n)) b {f with hd:={f.hd with H:=n}} a c d e g i:=
 h.set 2 _ _ a c O (bF ⟨rfl,rfl,rfl,rfl,rfl,rfl,rfl,rfl,rfl,rfl,rfl,rfl,rfl,rfl,rfl,rfl,rfl⟩) rfl rfl rfl rfl
theorem aw.setD{w:World}{b:Nat}{f:Fl}{a c:Nat}{d e g i:Value}(h:aw w b f a c d e g i)(n:Nat):aw (w.setCell ⟨b,3,none⟩ (.int .i64 n)) b {f with hd:={f.hd with D:=n}} a c d e g i:=
 h.set 3 _ _ a c O (bF ⟨rfl,rfl,rfl,rfl,rfl,rfl,rfl,rfl,rfl,rfl,rfl,rfl,rfl,rfl,rfl,rfl,rfl⟩) rfl rfl rfl rfl
theorem aw.setK{w:World}{b:Nat}{f:Fl}{a c:Nat}{d e g i:Value}(h:aw w b f a c d e g i)(n:Nat):aw (w.setCell ⟨b,4,none⟩ (.int .i64 n)) b {f with hd:={f.hd with K:=n}} a c d e g i:=
 h.set 4 _ _ a c O (bF ⟨rfl,rfl,rfl,rfl,rfl,rfl,rfl,rfl,rfl,rfl,rfl,rfl,rfl,rfl,rfl,rfl,rfl⟩) rfl rfl rfl rfl
theorem aw.setL{w:World}{b:Nat}{f:Fl}{a c:Nat}{d e g i:Value}(h:aw w b f a c d e g i)(n:Nat):aw (w.setCell ⟨b,5,none⟩ (.int .i64 n)) b {f with hd:={f.hd with L:=n}} a c d e g i:=
 h.set 5 _ _ a c O (bF ⟨rfl,rfl,rfl,rfl,rfl,rfl,rfl,rfl,rfl,rfl,rfl,rfl,rfl,rfl,rfl,rfl,rfl⟩) rfl rfl rfl rfl
theorem aw.drewN{w b f er at' pv cv zv iv}(h:aw w b f er at' pv cv zv iv)n:aw (w.drewN n) b f er at' pv cv zv iv:=h.kept ((Kept.refl _).drewN n)
theorem MM d i(h:i+4<=d.size):Px.cV (seg d i 4)=((gb d i*256+gb d (i+1))*256+gb d (i+2))*256+gb d (i+3):=by
 rw[fV d i 3 O,fV d i 2 O,fV d i 1 O,fV d i 0 O,eG,eG,eG,eG];rw[iF d (i+3) O,iF d (i+2) O,iF d (i+1) O,iF d (i+0) O]
 have:Px.cV (seg d i 0)=0:=rfl
 rw[this,X5];omega
theorem OR d i(h:i+2<=d.size):Px.cV (seg d i 2)=256*gb d i+gb d (i+1):=by
 rw[fV d i 1 O,fV d i 0 O,eG,eG];rw[iF d (i+1) O,iF d (i+0) O]
 have:Px.cV (seg d i 0)=0:=rfl
 rw[this,X5];omega
theorem wI D l(b:l.length%2=0):cI D l=true ↔ ∃a,2*a+1<l.length/\2^D<=256*l.getD (2*a) 0+l.getD (2*a+1) 0:=by
 match l,b with
 | [],_=>simp[cI]
 | [_],b=>simp at b
 | x::h::d,b=>
  have f:d.length%2=0:=by simp at b;omega
  unfold cI;rw[Bool.or_eq_true,XL,(wI D d f)]
  constructor
  .rintro(g|⟨a,e,c⟩)
   .exact⟨0,Xi,by simpa using g⟩
   .exact⟨a+1,Xf,by simpa[Nat.mul_add,G] using c⟩
  .rintro⟨a,e,c⟩
   cases a with
   | zero=>left;simpa using c
   | succ a=>right;exact⟨a,by simp at e;omega,by simpa[Nat.mul_add,G] using c⟩
theorem Dw D(h:D<=16):2^D<=65536:=by
 have:=XH (n:=2) O h
 simpa using this
theorem Fo b f e a pv cv zv iv k d w(h:aw w b f e a pv cv zv iv)(o:d.size<=1048576)(y:(k.toList==[73,72,68,82])=false)(z:(k.toList==[80,76,84,69])=true):Calls prog 101 #[.pointer (some ⟨b,0,none⟩),.string k,.string d] w λj l=>∃q,j=.returned (.int .i64 0)/\aw l b {f with hasPal:=true,pal:=ag d} e a q cv zv iv/\Below b w l:=by
 have r:w.cell? ⟨b,6,none⟩=some (.bool f.hasPal):=h.cell 6 O;have s:=h.fz;have t:=h.lt;have m:Z _:=h.setHasPal;clear h;go_enter func101,ntmps101;go_wp2_with fail;refine(nR d _ o).mono ?_;rintro j u ⟨⟨A,rfl,c⟩,g⟩;obtain⟨B,C,rfl⟩:=ak c;have i:=m.o.kept g;have D:u.cell? ⟨b,8,none⟩=some pv:=i.cell 8 O;have F:=i.fz;rw[<-az d] at c;have v:Z _:=m.o.setPal g _ _ c;have x:Z _:=g;clear i c g r s;go_wp2;go_ret;have n:=v.o;rw[az d] at n;exact⟨_,rfl,n,Y2 (p:=⟨b,8,none⟩) (((Xs b w).setCell (p:=⟨b,6,none⟩) (E b) (.bool true)).trans (x.o.mono (by simpa[World.setCell] using Yx t))) (E b) _⟩
theorem Ft b f e a pv cv zv iv k d w(h:aw w b f e a pv cv zv iv)(j:(k.toList==[73,72,68,82])=false)(l:(k.toList==[80,76,84,69])=false)(m:(k.toList==[116,82,78,83])=false)(n:(k.toList==[73,69,78,68])=true):Calls prog 101 #[.pointer (some ⟨b,0,none⟩),.string k,.string d] w λg c=>g=.returned (.int .i64 0)/\aw c b {f with done:=true} e a pv cv zv iv/\Below b w c:=by
 have o:w.cell? ⟨b,14,none⟩=some (.bool f.done):=h.cell 14 O;have q:=h.fz;have i:Z _:=h;clear h;go_enter func101,ntmps101;go_wp2;go_ret;exact⟨rfl,i.o.setDone,(Xs b w).setCell (p:=⟨b,14,none⟩) (E b) _⟩
theorem Fv b k d w(e:(k.toList==[73,72,68,82])=false)(f:(k.toList==[80,76,84,69])=false)(g:(k.toList==[116,82,78,83])=false)(h:(k.toList==[73,69,78,68])=false):Calls prog 101 #[.pointer (some ⟨b,0,none⟩),.string k,.string d] w λa c=>a=.returned (.int .i64 0)/\c=w:=by
 go_enter func101,ntmps101;go_wp2;go_ret;exact⟨rfl,rfl⟩
theorem Cs b f e a pv cv zv iv k d w(h:aw w b f e a pv cv zv iv)(q:d.size<=1048576)(j:f.hd.K=3)(A:(k.toList==[73,72,68,82])=false)(B:(k.toList==[80,76,84,69])=false)(C:(k.toList==[116,82,78,83])=true):Calls prog 101 #[.pointer (some ⟨b,0,none⟩),.string k,.string d] w λl m=>∃r,l=.returned (.int .i64 0)/\aw m b {f with hasClear:=true,clear:=ag d} e a pv r zv iv/\Below b w m:=by
 have s:w.cell? ⟨b,4,none⟩=some (.int .i64 f.hd.K):=h.cell 4 O;rw[j] at s;have t:w.cell? ⟨b,7,none⟩=some (.bool f.hasClear):=h.cell 7 O;have u:=h.fz;have v:=h.lt;have n:Z _:=h.setHasClear;clear h j;go_enter func101,ntmps101;go_wp2_with fail;go_loop [] (True) (0)
 case atStart=>trivial
 case round=>
  go_wp2_with fail;refine(nR d _ q).mono ?_;rintro l x ⟨⟨D,rfl,c⟩,g⟩;obtain⟨F,G,rfl⟩:=ak c;have i:=n.o.kept g;have H:x.cell? ⟨b,9,none⟩=some cv:=i.cell 9 O;have I:=i.fz;rw[<-az d] at c;have y:Z _:=n.o.setClear g _ _ c;have z:Z _:=g;clear i c g t u;go_wp2;go_ret;have o:=y.o;rw[az d] at o;exact⟨_,rfl,o,Y2 (p:=⟨b,9,none⟩) (((Xs b w).setCell (p:=⟨b,7,none⟩) (E b) (.bool true)).trans (z.o.mono (by simpa[World.setCell] using Yx v))) (E b) _⟩
theorem Cr b f i a pv cv zv iv k d w(h:aw w b f i a pv cv zv iv)(C:d.size<=1048576)(D:d.size%2=0)(F:f.hd.K≠3)(G:f.hd.D<=16)(V:(k.toList==[73,72,68,82])=false)(W:(k.toList==[80,76,84,69])=false)(X:(k.toList==[116,82,78,83])=true):Calls prog 101 #[.pointer (some ⟨b,0,none⟩),.string k,.string d] w λr g=>(r=.returned (.int .i64 9)/\cI f.hd.D (ag d)=true/\g=w)\/(∃H,r=.returned (.int .i64 0)/\cI f.hd.D (ag d)=false/\aw g b {f with hasClear:=true,clear:=ag d} i a pv H zv iv/\Below b w g):=by
 have Y:w.cell? ⟨b,4,none⟩=some (.int .i64 f.hd.K):=h.cell 4 O;have a0:w.cell? ⟨b,3,none⟩=some (.int .i64 f.hd.D):=h.cell 3 O;have a1:((f.hd.K:Int)!=3)=true:=Xe;have I:w.cell? ⟨b,7,none⟩=some (.bool f.hasClear):=h.cell 7 O;have J:=h.fz;have K:=h.lt;have a2:=Dw f.hd.D G;have M:Z _:=(Xs b w).setCell (p:=⟨b,7,none⟩) (E b) (.bool true);have u:Z _:=h.setHasClear;have v:Z (cI f.hd.D (ag d)=true ↔ ∃c,2*c+1<d.size/\2^f.hd.D<=256*gb d (2*c)+gb d (2*c+1)):=by
  have:=wI f.hd.D (ag d) (by rw[az];exact D)
  rw[az] at this;exact this
 clear h F;go_enter func101,ntmps101;go_wp2_with fail;go_loop [10] (λn=>∃c:Nat,2*c<=d.size/\n=.int .i64 ((2*c:Nat):Int)/\Z (∀e,e<c->¬2^f.hd.D<=256*gb d (2*e)+gb d (2*e+1))) (λn=>d.size-(intOf n).toNat)
 case atStart=>exact⟨0,O,rfl,λe x=>O⟩
 case round=>
  obtain⟨c,a3,rfl,y⟩:=hrel;by_cases a4:2*c<d.size
  .obtain⟨o,q⟩:∃o,o=256*gb d (2*c)+gb d (2*c+1):=⟨_,rfl⟩
   have N:Z (∀j,Calls prog 98 #[.string d,.int .i64 (2*(c:Int)),.int .i64 2] j λr g=>r=.returned (.int .i64 o)/\g=j):=λj=>by
    have:=lu d (2*c) 2 j O O O
    rw[OR d (2*c) O,<-q,Yv] at this;exact this
   have z:Z _:=q;clear q;go_wp2_with fail;refine(N.o _).mono ?_;rintro r g ⟨rfl,rfl⟩;have A:Z (wrap64 (2^f.hd.D)=((2^f.hd.D:Nat):Int)):=by
    show wrap64 (2^f.hd.D)=((2^f.hd.D:Nat):Int)
    rw[show(2:Int)^f.hd.D=((2^f.hd.D:Nat):Int) from Xi];generalize 2^f.hd.D=a5 at *;unfold wrap64;omega
   go_wp2
   .rename_i s
    rw[A.o] at s;go_ret;exact L ⟨rfl,v.o.2 ⟨c,O,by have:=z.o;omega⟩,rfl⟩
   .rename_i s
    rw[A.o] at s;refine⟨⟨c+1,O,Xj,λe x => ?_⟩,Xb⟩;by_cases i:e=c
    .subst i;have:=z.o;omega
    .exact y.o e O
  .go_wp2_with fail
   refine(nR d _ C).mono ?_;rintro r P ⟨⟨a6,rfl,l⟩,m⟩;obtain⟨a7,a8,rfl⟩:=ak l;have t:=u.o.kept m;have a9:P.cell? ⟨b,9,none⟩=some cv:=t.cell 9 O;have b0:=t.fz;rw[<-az d] at l;have Q:Z _:=u.o.setClear m _ _ l;have S:Z _:=m;clear t l m I J;go_wp2;go_ret;have B:=Q.o;rw[az d] at B;refine R ⟨_,rfl,?_,B,Y2 (p:=⟨b,9,none⟩) (M.o.trans (S.o.mono (by simpa[World.setCell] using Yx K))) (E b) _⟩
   .rw[Bool.eq_false_iff]
    intro T;obtain⟨e,x,U⟩:=v.o.1 T;exact y.o e O U
theorem Fu b f e a pv cv zv iv(k d:ByteArray)w(h:aw w b f e a pv cv zv iv)(G:(k.toList==[73,72,68,82])=true)(H:d.size=13)(c g n o q:Nat)(r:Z (∀l,Calls prog 98 #[.string d,.int .i64 0,.int .i64 4] l λj i=>j=.returned (.int .i64 c)/\i=l))(s:Z (∀l,Calls prog 98 #[.string d,.int .i64 4,.int .i64 4] l λj i=>j=.returned (.int .i64 g)/\i=l))(I:8<d.size)(J:9<d.size)(K:10<d.size)(L:11<d.size)(M:12<d.size)(t:Z (∀l,Calls prog 131 #[.int .i64 (d[9].toNat:Int),.int .i64 (d[8].toNat:Int)] l λj i=>j=.returned (.bool true)/\i=l))(u:Z (d[8].toNat=n))(v:Z (d[9].toNat=o))(x:Z (d[12].toNat=q))(N:d[8].toNat<256)(P:d[9].toNat<256)(Q:d[12].toNat<256)(R:((c:Int)==0)=false)(S:((g:Int)==0)=false)(T:decide ((2147483648:Int)<=(c:Int))=false)(U:decide ((2147483648:Int)<=(g:Int))=false)(V:d[10].toNat=0)(W:d[11].toNat=0)(X:(d[12].toNat:Int)<=1)(Y:(c:Int)<=16)(a0:(g:Int)<=16):Calls prog 101 #[.pointer (some ⟨b,0,none⟩),.string k,.string d] w λj i=>j=.returned (.int .i64 0)/\aw i b {f with on:=true,hd:=⟨c,g,n,o,q⟩} e a pv cv zv iv/\Below b w i:=by
 have a1:w.cell? ⟨b,0,none⟩=some (.bool f.on):=h.cell 0 O;have a2:w.cell? ⟨b,1,none⟩=some (.int .i64 f.hd.W):=h.cell 1 O;have a3:w.cell? ⟨b,2,none⟩=some (.int .i64 f.hd.H):=h.cell 2 O;have a4:w.cell? ⟨b,3,none⟩=some (.int .i64 f.hd.D):=h.cell 3 O;have a5:w.cell? ⟨b,4,none⟩=some (.int .i64 f.hd.K):=h.cell 4 O;have a6:w.cell? ⟨b,5,none⟩=some (.int .i64 f.hd.L):=h.cell 5 O;have a7:=h.fz;have y:Z (∀m,aw (((((((w.drewN m).setCell ⟨b,0,none⟩ (.bool true)).setCell ⟨b,1,none⟩ (.int .i64 c)).setCell ⟨b,2,none⟩ (.int .i64 g)).setCell ⟨b,3,none⟩ (.int .i64 (d[8].toNat:Int))).setCell ⟨b,4,none⟩ (.int .i64 (d[9].toNat:Int))).setCell ⟨b,5,none⟩ (.int .i64 (d[12].toNat:Int))) b {f with on:=true,hd:=⟨c,g,n,o,q⟩} e a pv cv zv iv):=by
  intro m;rw[u.o,v.o,x.o];exact((((((h.drewN m).setOn).setW c).setH g).setD n).setK o).setL q
 have z:Z (∀m,Below b w (((((((w.drewN m).setCell ⟨b,0,none⟩ (.bool true)).setCell ⟨b,1,none⟩ (.int .i64 c)).setCell ⟨b,2,none⟩ (.int .i64 g)).setCell ⟨b,3,none⟩ (.int .i64 (d[8].toNat:Int))).setCell ⟨b,4,none⟩ (.int .i64 (d[9].toNat:Int))).setCell ⟨b,5,none⟩ (.int .i64 (d[12].toNat:Int)))) :=
  λm=>by
   have A:=below_drewN (Xs b w) m;have B:=A.setCell (p:=⟨b,0,none⟩) (E b) (.bool true);have C:=B.setCell (p:=⟨b,1,none⟩) (E b) (.int .i64 c);have D:=C.setCell (p:=⟨b,2,none⟩) (E b) (.int .i64 g);have F:=D.setCell (p:=⟨b,3,none⟩) (E b) (.int .i64 (d[8].toNat:Int));exact(F.setCell (p:=⟨b,4,none⟩) (E b) (.int .i64 (d[9].toNat:Int))).setCell (p:=⟨b,5,none⟩) (E b) (.int .i64 (d[12].toNat:Int))
 clear h;go_enter func101,ntmps101;go_wp2_with fail;refine(r.o _).mono ?_;rintro j i ⟨rfl,rfl⟩;go_wp2_with fail;refine(s.o _).mono ?_;rintro j i ⟨rfl,rfl⟩;go_wp2_with fail;go_quiet ((go_at_call 131;exact Xu (t.o _)))
 go_wp2_with fail;go_ret;exact⟨rfl,y.o nq,z.o nq⟩
theorem Fs b f e a pv cv zv iv k d w(h:aw w b f e a pv cv zv iv)(Q:(k.toList==[73,72,68,82])=true)(S:d.size=13):Calls prog 101 #[.pointer (some ⟨b,0,none⟩),.string k,.string d] w λj c=>j=.returned (.int .i64 ((aE (gb d)).1:Int))/\aw c b (if(aE (gb d)).1≠0 then f else {f with on:=true,hd:=(aE (gb d)).2}) e a pv cv zv iv/\Below b w c:=by
 have a4:w.cell? ⟨b,0,none⟩=some (.bool f.on):=h.cell 0 O;have a5:w.cell? ⟨b,1,none⟩=some (.int .i64 f.hd.W):=h.cell 1 O;have a6:w.cell? ⟨b,2,none⟩=some (.int .i64 f.hd.H):=h.cell 2 O;have a7:w.cell? ⟨b,3,none⟩=some (.int .i64 f.hd.D):=h.cell 3 O;have a8:w.cell? ⟨b,4,none⟩=some (.int .i64 f.hd.K):=h.cell 4 O;have a9:w.cell? ⟨b,5,none⟩=some (.int .i64 f.hd.L):=h.cell 5 O;have b0:=h.fz;have s:Z (∀g,Calls prog 98 #[.string d,.int .i64 0,.int .i64 4] g λj c=>j=.returned (.int .i64 (wN (gb d):Int))/\c=g):=λg=>by
  have:=lu d 0 4 g O O O
  rw[MM d 0 O] at this;exact this
 have t:Z (∀g,Calls prog 98 #[.string d,.int .i64 4,.int .i64 4] g λj c=>j=.returned (.int .i64 (hN (gb d):Int))/\c=g):=λg=>by
  have:=lu d 4 4 g O O O
  rw[MM d 4 O] at this;exact this
 have D:8<d.size:=O;have E:9<d.size:=O;have G:10<d.size:=O;have H:11<d.size:=O;have K:12<d.size:=O;have L:Z _:=iF d 8 D;have M:Z _:=iF d 9 E;have P:Z _:=iF d 12 K;have T:=d[8].toNat_lt;have U:=d[9].toNat_lt;have V:=d[12].toNat_lt;have b1:wN (gb d)<4294967296:=by have:=ek d 0;have:=ek d 1;have:=ek d 2;have:=ek d 3;unfold wN;omega
 have b2:hN (gb d)<4294967296:=by have:=ek d 4;have:=ek d 5;have:=ek d 6;have:=ek d 7;unfold hN;omega
 have l:=lY (gb d);have u:Z (∀g,Calls prog 131 #[.int .i64 (d[9].toNat:Int),.int .i64 (d[8].toNat:Int)] g λj c=>j=.returned (.bool (gi (gb d 9) (gb d 8)))/\c=g):=λg=>by
  have:=Cc d[9].toNat d[8].toNat g
  rw[L.o,M.o] at this ⊢;exact this
 generalize W:wN (gb d)=i at *;generalize X:hN (gb d)=m at *;generalize Y:gi (gb d 9) (gb d 8)=q at *;clear W X Y;by_cases o:i=0\/m=0\/2147483648<=i\/2147483648<=m\/q=false
 .rw[I o] at l
  rw[l,I Xh];clear l;have n:((i:Int)==0)=true\/(((i:Int)==0)=false/\((m:Int)==0)=true)\/(((i:Int)==0)=false/\((m:Int)==0)=false/\decide ((2147483648:Int)<=(i:Int))=true)
    \/ (((i:Int)==0)=false/\((m:Int)==0)=false/\decide ((2147483648:Int)<=(i:Int))=false/\decide ((2147483648:Int)<=(m:Int))=true)
    \/ (((i:Int)==0)=false/\((m:Int)==0)=false/\decide ((2147483648:Int)<=(i:Int))=false/\decide ((2147483648:Int)<=(m:Int))=false/\q=false):=by
   simp only[XI,F,Y6,Yh];cases q
   .simp;omega
   .simp at o ⊢;omega
  clear o;rcases n with p|⟨p,r⟩|⟨p,r,v⟩|⟨p,r,v,y⟩|⟨p,r,v,y,rfl⟩
  all_goals
   go_enter func101,ntmps101;go_wp2_with fail;refine(s.o _).mono ?_;rintro j c ⟨rfl,rfl⟩;go_wp2_with fail;refine(t.o _).mono ?_;rintro j c ⟨rfl,rfl⟩;go_wp2_with fail;go_quiet ((go_at_call 131;exact Xu (u.o _)))
   go_wp2_with fail;go_ret;exact⟨rfl,h.drewN _,below_drewN (Xs _ _) _⟩
 .rw[N o] at l
  have p:((i:Int)==0)=false:=F.2 O;have r:((m:Int)==0)=false:=F.2 O;have v:decide ((2147483648:Int)<=(i:Int))=false:=J;have y:decide ((2147483648:Int)<=(m:Int))=false:=J;have a0:q=true:=by
   cases q
   .exact absurd (R (R (R (R rfl)))) o
   .rfl
  subst a0;clear o;have z:=(iF d 10 G);have A:=(iF d 11 H);have B:=P.o;by_cases n:gb d 10≠0\/gb d 11≠0\/1<gb d 12
  .rw[I n] at l
   rw[l,I Xh];have C:Z (d[10].toNat≠0\/d[11].toNat≠0\/1<d[12].toNat):=by show _\/_;rw[z,A,B];exact n
   clear n l z A B;go_enter func101,ntmps101;go_wp2_with fail;refine(s.o _).mono ?_;rintro j c ⟨rfl,rfl⟩;go_wp2_with fail;refine(t.o _).mono ?_;rintro j c ⟨rfl,rfl⟩;go_wp2_with fail;go_quiet ((go_at_call 131;exact Xu (u.o _)))
   go_wp2_with fail
   all_goals first
    | (exfalso;have:=C.o;(try simp only[XJ,Xx,ne_eq] at *);omega)
    | (go_ret;exact⟨rfl,h.drewN _,below_drewN (Xs _ _) _⟩)
  .rw[N n] at l
   have a1:d[10].toNat=0:=O;have a2:d[11].toNat=0:=O;have a3:(d[12].toNat:Int)<=1:=O;clear z A B n;by_cases x:16<i\/16<m
   .rw[I x] at l
    rw[l,I Xh];have C:Z _:=x;clear x l;go_enter func101,ntmps101;go_wp2_with fail;refine(s.o _).mono ?_;rintro j c ⟨rfl,rfl⟩;go_wp2_with fail;refine(t.o _).mono ?_;rintro j c ⟨rfl,rfl⟩;go_wp2_with fail;go_quiet ((go_at_call 131;exact Xu (u.o _)))
    go_wp2_with fail
    all_goals first
     | (exfalso;have:=C.o;omega)
     | (go_ret;exact⟨rfl,h.drewN _,below_drewN (Xs _ _) _⟩)
   .rw[N x] at l
    rw[l,N Xi];exact Fu b f e a pv cv zv iv k d w h Q S i m _ _ _ s t D E G H K u L M P T U V p r v y a1 a2 a3 O O
theorem I8 b f e a pv cv zv iv k d w(h:aw w b f e a pv cv zv iv)(t:k.size=4)(x:d.size<=1048576)(D:ty k=aQ->d.size=13)(A:ty k=bB->f.hd.K≠3->d.size%2=0/\f.hd.D<=16):Calls prog 101 #[.pointer (some ⟨b,0,none⟩),.string k,.string d] w λn j=>∃B y,n=.returned (.int .i64 ((f.ends (ty k) (ag d)).2:Int))/\aw j b (f.ends (ty k) (ag d)).1 e a B y zv iv/\Below b w j:=by
 have l:=xN k t;have o:=Dk k t;have q:=Dj k t;have u:=Dl k t;by_cases m:ty k=aQ
 .rw[K m] at l
  refine(Fs b f e a pv cv zv iv k d w h l (D m)).mono ?_;rintro n j ⟨rfl,g,i⟩;have c:f.ends (ty k) (ag d)=if(aE (gb d)).1≠0 then(f,(aE (gb d)).1) else({f with on:=true,hd:=(aE (gb d)).2},0):=by
   unfold Fl.ends;rw[I m];rfl
  by_cases C:(aE (gb d)).1≠0
  .rw[I C] at c g;rw[c];exact⟨_,_,rfl,g,i⟩
  .rw[N C] at c g;rw[c];refine⟨_,_,?_,g,i⟩;rw[show(aE (gb d)).1=0 from O]
 .rw[J m] at l
  by_cases r:ty k=bE
  .rw[K r] at o
   have c:f.ends (ty k) (ag d)=({f with hasPal:=true,pal:=ag d},0):=by
    unfold Fl.ends;rw[N m,I r]
   rw[c];refine(Fo b f e a pv cv zv iv k d w h x l o).mono ?_;rintro n j ⟨B,rfl,g,i⟩;exact⟨_,_,rfl,g,i⟩
  .rw[J r] at o
   by_cases p:ty k=bB
   .rw[K p] at q
    have c:f.ends (ty k) (ag d)=if f.hd.K≠3/\cI f.hd.D (ag d)=true then(f,9) else({f with hasClear:=true,clear:=ag d},0):=by
     unfold Fl.ends;rw[N m,N r,I p]
    by_cases s:f.hd.K=3
    .rw[N (λh=>h.1 s)] at c
     rw[c];refine(Cs b f e a pv cv zv iv k d w h x s l o q).mono ?_;rintro n j ⟨y,rfl,g,i⟩;exact⟨_,_,rfl,g,i⟩
    .refine(Cr b f e a pv cv zv iv k d w h x (A p s).1 s (A p s).2 l o q).mono ?_
     rintro n j (⟨rfl,z,rfl⟩|⟨y,rfl,z,g,i⟩)
     .rw[I ⟨s,z⟩] at c;rw[c];exact⟨_,_,rfl,h,Xs _ _⟩
     .rw[N (by rw[z];simp)] at c;rw[c];exact⟨_,_,rfl,g,i⟩
   .rw[J p] at q
    by_cases v:ty k=cE
    .rw[K v] at u
     have c:f.ends (ty k) (ag d)=({f with done:=true},0):=by unfold Fl.ends;rw[N m,N r,N p,I v]
     rw[c];refine(Ft b f e a pv cv zv iv k d w h l o q u).mono ?_;rintro n j ⟨rfl,g,i⟩;exact⟨_,_,rfl,g,i⟩
    .rw[J v] at u
     have c:f.ends (ty k) (ag d)=(f,0):=by unfold Fl.ends;rw[N m,N r,N p,N v]
     rw[c];refine(Fv b k d w l o q u).mono ?_;rintro n j ⟨rfl,rfl⟩;exact⟨_,_,rfl,h,Xs _ _⟩
def dL(f g:Fl):Prop:=∃o p,g={f with over:=o,first:=p}
theorem dL.refl f:dL f f:=⟨f.over,f.first,rfl⟩
theorem xj f k:dL f (f.begF k):=by
 unfold Fl.begF;split
 .exact⟨f.over,true,rfl⟩
 .split
  .exact⟨true,f.first,rfl⟩
  .exact dL.refl f
structure FBd (i:Nat) (f:Fl):Prop where
 pal:f.pal.length<=1048576
 zl:f.z.length<=i
 ids:f.ids<=i
 zb:∀x∈f.z,x.1<256/\x.2<=1048576
theorem FBd.mono{i j f}(h:FBd i f)(k:i<=j):FBd j f:=⟨h.pal,Xz h.zl k,Xz h.ids k,h.zb⟩
theorem FBd.same{i f g}(h:FBd i f)(k:dL f g):FBd i g:=by
 obtain⟨a,b,rfl⟩:=k;exact⟨h.pal,h.zl,h.ids,h.zb⟩
theorem FBd.good{i:Nat}{f:Fl}(h:FBd i f)(hi:i<=1048576):good f.z:=⟨λx hx=>(h.zb x hx).1,Nat.le_trans h.zl hi,λx hx=>(h.zb x hx).2⟩
theorem rE:FBd 0 Fl.start:=⟨Xh,Xh,Xh,(λb a=>by cases a)⟩
theorem KK{l i x}(h:x∈plc l i):x.1∈l/\x.2<i+l.length:=by
 induction l generalizing i with
 | nil=>cases h
 | cons c l b=>
  rw[plc] at h;rcases Y4.1 h with a|a
  .subst a;exact⟨Xi,Xi⟩
  .have:=b a
   exact⟨by simp[this.1],Xf⟩
theorem zU:∀(l:List Nat) (i x:Nat),plc (l++[x]) i=plc l i++[(x,i+l.length)]
 | [],i,x=>rfl
 | y::l,i,x=>by
  rw[Ye,plc,zU l,plc,Ye,Yj,show i+1+l.length=i+(l.length+1) from O]
theorem D9{i n:Nat}{f k d}(h:FBd i f)(c:∀a∈d,a<256)(g:i+8+d.length<=1048576):FBd (i+8+d.length) (f.data k d (i+8)):=by
 unfold Fl.data;have j:=h.zl;have l:=h.ids;split
 .refine⟨h.pal,?_,?_,λa e => ?_⟩
  .show(f.z++plc d (i+8)).length<=_
   rw[Xv,pS];omega
  .show f.ids+1<=_
   omega
  .rcases XW.1 e with b|b
   .exact h.zb a b
   .have:=KK b
    exact⟨c _ this.1,O⟩
 .exact h.mono O
theorem yG{i k f d}(h:FBd i f)(a:d.length<=1048576):FBd i (f.ends k d).1:=by
 unfold Fl.ends
 (repeat' split)
 all_goals first
  | exact h
  | exact⟨h.pal,h.zl,h.ids,h.zb⟩
  | exact⟨a,h.zl,h.ids,h.zb⟩
theorem LZ{i k n f h' r}(h:FBd i f)(c:∀b∈r,b<256)(g:i+8+r.length<=1048576):FBd (i+8+r.length) (Fl.body f k n h' r (i+8)).f:=by
 have a:FBd (i+8+r.length) (f.data k (r.take n) (i+8)):=(D9 (n:=0) (k:=k) (d:=r.take n) h (λb e=>c b (YE e)) Xo).mono Xo;unfold Fl.body;split
 .exact a
 .split
  .exact a
  .split
   .exact yG a Xo
   .exact yG a Xo
theorem JF{i k n f h' r}(h:FBd i f)(e:∀b∈r,b<256)(m:i+8+r.length<=1048576)(a:(Fl.body f k n h' r (i+8)).took≠0):FBd (i+(Fl.body f k n h' r (i+8)).took) (Fl.body f k n h' r (i+8)).f/\(Fl.body f k n h' r (i+8)).took<=8+r.length/\(Fl.body f k n h' r (i+8)).err=0:=by
 unfold Fl.body at a ⊢;by_cases c:r.length<n+4
 .rw[I c] at a;exact absurd rfl a
 rw[N c] at a ⊢
 split at a
 .exact absurd rfl a
 .rename_i g
  rw[N g]
  split at a
  .exact absurd rfl a
  .rename_i j
   rw[N j];refine⟨yG ((D9 (n:=0) (k:=k) (d:=r.take n) h (λb l=>e b (YE l)) Xo).mono ?_) Xo,?_,rfl⟩
   .rw[Yd];show _<=i+(8+n+4);omega
   .show 8+n+4<=_;omega
theorem JB{i f l dn}(h:FBd i f)(s:∀b∈l,b<256)(u:i+l.length<=1048576):FBd (i+l.length) (f.chunk l i dn).f/\((f.chunk l i dn).took≠0->FBd (i+(f.chunk l i dn).took) (f.chunk l i dn).f/\(f.chunk l i dn).took<=l.length/\(f.chunk l i dn).err=0):=by
 have c:FBd (i+l.length) f:=h.mono O;unfold Fl.chunk;by_cases j:l.length<4
 .rw[I j];exact⟨c,λa=>absurd rfl a⟩
 rw[N j];by_cases m:2147483648<=n4 (l.getD 0 0) (l.getD 1 0) (l.getD 2 0) (l.getD 3 0)
 .rw[I m];exact⟨c,λa=>absurd rfl a⟩
 rw[N m];by_cases o:l.length<8
 .rw[I o];exact⟨c,λa=>absurd rfl a⟩
 rw[N o];generalize n4 (l.getD 4 0) (l.getD 5 0) (l.getD 6 0) (l.getD 7 0)=d;generalize n4 (l.getD 0 0) (l.getD 1 0) (l.getD 2 0) (l.getD 3 0)=g;by_cases p:f.begE d g dn≠0
 .rw[I p];exact⟨c,λa=>absurd rfl a⟩
 rw[N p];have q:=h.same (xj f d);have r:∀b∈l.drop 8,b<256:=λb t=>s b (Yu t)
 have e:(l.drop 8).length=l.length-8:=Yn;refine⟨?_,λa => ?_⟩
 .have:=LZ (k:=d) (n:=g) (h':=l.take 8) q r (by rw[e];omega)
  exact this.mono (by rw[e];omega)
 .have:=JF (k:=d) (n:=g) (h':=l.take 8) q r (by rw[e];omega) a
  rw[e] at this;exact⟨this.1,O,this.2.2⟩
theorem bY t i j:((ag t).drop i).getD j 0=gb t (i+j):=by
 unfold gb;rw[G,Y1,G]
theorem yk t i(h:i+4<=t.size):n4 (gb t i) (gb t (i+1)) (gb t (i+2)) (gb t (i+3))=cV (seg t i 4):=(MM t i h).symm
theorem kV t a b:ag (t.extract a b)=seg t a (b-a):=by
 unfold ag seg ag;rw[<-List.map_drop,<-List.map_take]
 congr 1
 rw[ByteArray.data_extract,Array.toList_extract,List.extract_eq_take_drop]
theorem size_extract(t:ByteArray)a b(c:a<=b)(d:b<=t.size):(t.extract a b).size=b-a:=by
 rw[ByteArray.size_extract];omega
theorem As t i j n:(((ag t).drop i).drop j).take n=seg t (i+j) n:=by unfold seg;rw[YV]
theorem Mz t i(h:i+8<=t.size):ty (t.extract (i+4) (i+8))=n4 (((ag t).drop i).getD 4 0) (((ag t).drop i).getD 5 0) (((ag t).drop i).getD 6 0) (((ag t).drop i).getD 7 0):=by
 unfold ty;rw[kV,show i+8-(i+4)=4 from O,<-yk t (i+4) O,bY,bY,bY,bY]
theorem Kl t i n(h:i+8+n<=t.size):(((ag t).drop i).take 8).drop 4++(((ag t).drop i).drop 8).take n=seg t (i+4) (4+n):=by
 unfold seg;rw[List.drop_take,YV,YV,List.take_add,YV]
theorem KA t i n(h:i<=t.size)(a:t.size<=i+n):seg t i n=seg t i (t.size-i):=by
 unfold seg;have b:((ag t).drop i).length=t.size-i:=by rw[Yn,az]
 rw[X6 O,X6 O]
