import Derived.Test.YtgooinallljbpaaGreatDoorSh00
import Derived.Test.YtgooinallljbpaaGreatDoorSh37
import Derived.Test.YtgooinallljbpaaGreatDoorSh10
import Derived.Test.YtgooinallljbpaaGreatDoorSh05
import Derived.Test.YtgooinallljbpaaGreatDoorSh30
import Derived.Test.YtgooinallljbpaaGreatDoorSh07
import Derived.Test.YtgooinallljbpaaGreatDoorSh24
set_option linter.all false
set_option maxRecDepth 100000
set_option maxHeartbeats 0
namespace Go.Proofs.YtgooinallljbpaaGreatDoor
open Go.RowKit Px Tryz
structure uZ (W:World) (lo fb mb:Nat) (l:List Nat):Prop where
 bf:lo<=fb
 ex:∃(F:Fl) (er at':Nat) (out:List One) (dn sm:Bool) (ser sat sen:Nat) (pw qw:Value),cq l F er at'/\iD F.z out dn sm ser sat sen/\W.cell? ⟨fb,0,none⟩=some (.bool F.on)/\W.cell? ⟨fb,1,none⟩=some (.int .i64 (F.hd.W:Int))/\W.cell? ⟨fb,2,none⟩=some (.int .i64 (F.hd.H:Int))/\W.cell? ⟨fb,5,none⟩=some (.int .i64 (F.hd.L:Int))/\W.cell? ⟨fb,14,none⟩=some (.bool F.done) /\
  FcQ W fb F.hd F.hasClear F.pal F.clear pw qw/\(∀g,ae pw=some g->lo<=g)/\(∀g,ae qw=some g->lo<=g) /\
  (F.on=true->∃g cr cl pr pl ls,ImQ W fb mb g cr cl pr pl F.hd ls/\CQ lo fb mb g pr pl ls/\ls.map Ln.x=eg (aH F.hd (F.pal.length/3) (au F.hd (aq F.hd.L) 0) (λ_=>0) out))
theorem uZ.up{W W' lo fb mb l}(h:uZ W lo fb mb l)(k:Up lo W W'):uZ W' lo fb mb l:=by
 obtain⟨d,e,f,g,i,j,m,n,o,p,q,r,s,t,u,v,w,x,y,a,b,z⟩:=h.ex;refine⟨h.bf,d,e,f,g,i,j,m,n,o,p,q,r,s,k.c h.bf t,k.c h.bf u,k.c h.bf v,k.c h.bf w,k.c h.bf x,y.up h.bf a b k,a,b,λA => ?_⟩;obtain⟨B,C,D,E,F,G,H,c,I⟩:=z A;exact⟨B,C,D,E,F,G,H.up c k,c,I⟩
theorem CQ.low{lo lo' fb mb g pr pl ls}(h:CQ lo fb mb g pr pl ls)(k:lo'<=lo):CQ lo' fb mb g pr pl ls:=⟨Xz k h.fb,Xz k h.mb,Xz k h.g,λa b=>Xz k (h.pr a b),λa b=>Xz k (h.pl a b),λa b=>Xz k (h.ls a b)⟩
theorem uZ.low{W lo lo' fb mb l}(h:uZ W lo fb mb l)(k:lo'<=lo):uZ W lo' fb mb l:=by
 obtain⟨c,d,e,f,g,i,j,m,n,o,p,q,r,s,t,u,v,w,x,y,z,A⟩:=h.ex;refine⟨Xz k h.bf,c,d,e,f,g,i,j,m,n,o,p,q,r,s,t,u,v,w,x,λa b=>Xz k (y a b),λa b=>Xz k (z a b),λb => ?_⟩;obtain⟨a,B,C,D,E,F,G,H,I⟩:=A b;exact⟨a,B,C,D,E,F,G,H.low k,I⟩
theorem IA im:im.lines=eg im:=by cases im using ImR.cs<;>rfl
theorem MV{h C fb mb en w w' out dn sm ls im}(q:OfP h C w w' fb mb out dn sm en ls im)(B:w'.cell? ⟨fb,3,none⟩=some (.int .i64 h.D))(D:w'.cell? ⟨fb,4,none⟩=some (.int .i64 h.K))lo(e:lo<=w.heap.size)(E:lo<=fb):∃j p r k l,ImQ w' fb mb j p r k l h ls/\CQ lo fb mb j k l ls:=by
 obtain⟨Q,j,R,f,F,G,H,I,J,g⟩:=q.fin;obtain⟨S,K,m⟩:=f.c3;obtain⟨k,p,rfl⟩:=ak g;obtain⟨l,r,rfl⟩:=ak m;have z:=Xz q.lo (Yx f.lt);refine⟨j,p,r,k,l,⟨F,G,J,K,H,λs L M b => ?_,λs d b => ?_,q.sz,λd t=>(f.ln d t).2.2,B,D⟩,⟨E,Xz e q.lo,Xz e I,λd b => ?_,λd b => ?_,λd t=>Xz e (Xz z (f.ln d t).2.1)⟩⟩
 .rcases g.2 with⟨_,N⟩|⟨n,u,v,a,_⟩
  .have:=(Yb.1 b).1;omega
  .injection a with a _ _
   subst a;obtain⟨O,P,_⟩:=pP h _ 0 s L M b;have i:=g.cells rfl _ _ O;have A:=g.cells rfl _ _ P;have x:∀c,(⟨n,0,none⟩:Addr).add c=⟨n,c,none⟩:=λc=>by unfold Addr.add;by_cases h:c=0<;>simp[h]
   rw[x] at i A;exact⟨n,rfl,i,A⟩
 .rcases m.2 with⟨_,N⟩|⟨o,u,v,a,_⟩
  .have:=(Yb.1 b).1;omega
  .injection a with a _ _
   subst a;have i:=m.cells rfl s (lnV d) (by rw[XQ,b];rfl);have x:∀c,(⟨o,0,none⟩:Addr).add c=⟨o,c,none⟩:=λc=>by unfold Addr.add;by_cases h:c=0<;>simp[h]
   rw[x] at i;exact⟨o,rfl,i,(f.ln d (X8 b)).1⟩
 .subst b
  rcases g.2 with⟨a,_⟩|⟨n,u,v,a,y,_⟩
  .cases a
  .injection a with a _ _
   injection a with a
   subst a;exact Xz e y
 .subst b
  rcases m.2 with⟨a,_⟩|⟨o,u,v,a,y,_⟩
  .cases a
  .injection a with a _ _
   injection a with a
   subst a;exact Xz e (Xz z y)
structure StX (W:World) (base fb sb mb:Nat) (l:List Nat):Prop where
 pic:uZ W base fb mb l
 bf:base<=fb
 ex:∃(F F':Fl) (er at':Nat) (pv cv zv iv:Value) (out:List One) (dn sm:Bool) (ser sat sen:Nat),cq l F er at'/\dL F F'/\aw W fb F' er at' pv cv zv iv/\iD F.z out dn sm ser sat sen/\W.cell? ⟨sb,5,none⟩=some (.int .i64 (ser:Int))/\W.cell? ⟨sb,6,none⟩=some (.int .i64 (sat:Int)) /\
  ∃me ma:Nat,W.cell? ⟨mb,5,none⟩=some (.int .i64 (me:Int))/\W.cell? ⟨mb,6,none⟩=some (.int .i64 (ma:Int))/\(me,ma)=if F.on=true then imE (aH F.hd (F.pal.length/3) (au F.hd (aq F.hd.L) 0) (λ_=>0) out) dn sm sen else(0,0)
theorem KT im dn sm en:ofE im dn sm en=imE im dn sm en:=by cases im using ImR.cs<;>rfl
theorem Dx{z}(h:good z)a:aB z a<=1048576:=by
 unfold aB pAt;rw[G];cases b:z[(a-1)/8]? with
 | none=>simp
 | some c=>exact h.2.2 c (X8 b)
theorem KI{z out dn sm er at' en}(b:good z)(h:iD z out dn sm er at' en):en<=1048576:=by
 rcases h with⟨e,_,_,_,a,_⟩|⟨c,d,_,_,_,_,_,_,_,_,a⟩|⟨c,d,_,_,_,_,_,_,a,_⟩
 .omega
 .rw[a];exact Dx b _
 .rw[a];exact Dx b _
theorem aw.fd{w b f er at' pv cv zv iv}(h:aw w b f er at' pv cv zv iv):tt w b f.hd f.pal.length:=by
 obtain⟨a,c,d⟩:=h.pal.form;refine⟨h.cell 1 O,h.cell 2 O,h.cell 3 O,h.cell 4 O,h.cell 5 O,a,c,?_⟩;rw[<-d];exact h.cell 8 O
theorem I0{W lo fb mb er at' er0 at0 ser sat sen l F F' pw qw zv iv out dn sm}(a:aw W fb F' er at' pw qw zv iv)(h:dL F F')(i:cq l F er0 at0)(j:iD F.z out dn sm ser sat sen)(c:lo<=fb)(k:F.on=true->∃b m n f g d,ImQ W fb mb b m n f g F.hd d/\CQ lo fb mb b f g d/\d.map Ln.x=eg (aH F.hd (F.pal.length/3) (au F.hd (aq F.hd.L) 0) (λ_=>0) out)):uZ W lo fb mb l:=by
 obtain⟨p,q,o⟩:=h;subst o;exact⟨c,F,er0,at0,out,dn,sm,ser,sat,sen,pw,qw,i,j,a.cell 0 O,a.cell 1 O,a.cell 2 O,a.cell 5 O,a.cell 14 O,⟨a.cell 3 O,a.cell 4 O,a.cell 7 O,a.cell 8 O,a.cell 9 O,a.pal,a.clr⟩,λb e=>Xz c (Yx (a.pb b e).1),λb e=>Xz c (Yx (a.cb b e).1),k⟩
theorem Eo t w(V:t.size<=1048576):Calls prog 26 #[.string t] w λm z=>(∃W X n,m=.returned (.tuple #[.pointer (some ⟨W,0,none⟩),.pointer (some ⟨X,0,none⟩),.pointer (some ⟨n,0,none⟩)])/\StX z w.heap.size W X n (ag t))/\Kept w z:=by
 have c6:=U (GC t w V);have Y:(ag t).length<=1048576:=by rw[az];exact V
 have c7:Z _:=(da t);have a0:Z _:=Y;generalize ag t=e0 at *;clear Y;go_enter func26,ntmps26;go_wp2_with fail;refine c6.o.mono ?_;rintro m d ⟨rfl,⟨g,h,a1,a2,a3,a4,e1,a5,a6,a7,o,N⟩,a8⟩;obtain⟨c8,c9,rfl⟩:=ak o.z;have d0:d.cell? ⟨w.heap.size,10,none⟩=some (.slice c8 h.z.length c9):=o.cell 10 O;have k:=N.good a0.o;have a9:=U (ue _ h.z d (yi o.z) k o.readable);have b0:Z _:=o;have u:=U a6;have c:=U a7;have b1:Z _:=N;have d1:Z (Kept w d):=a8;clear o a6 a7 N a8;generalize d2:h.z.length=e2 at *;clear d2;go_wp2_with fail;refine a9.o.mono ?_;rintro m q ⟨rfl,b2,A,C,D,b3,b4,F,v⟩;have G:=b0.o.kept v.kept;have b5:q.cell? ⟨w.heap.size,0,none⟩=some (.bool h.on):=G.cell 0 O;have e3:=G.lt;have x:Z _:=G;have b:Z _:=v;have y:=B _ _ v.oat.c0;have b6:Z (Kept w q):=d1.o.trans v.kept;clear G v d0 b0 a9;cases l:h.on
 .rw[l] at b5
  have H:Z _:=l;clear l;go_wp2;go_ret3
  have f:∀e,Kept q (q.alloc e):=λe=>(Xs _ _).alloc (E _) e
  refine⟨⟨_,_,_,rfl,⟨?_,E _,g,h,a1,a2,a3,a4,_,a5,A,C,D,b3,b4,F,u.o,c.o,x.o.kept (f _),?_,?_,?_,0,0,?_,?_,?_⟩⟩,b6.o.trans (f _)⟩
  .refine I0 (x.o.kept (f _)) c.o u.o (by have:=b.o.st;obtain⟨e,i,a⟩:=c.o;rw[a] at this;exact this) (E _) (λP => ?_)
   obtain⟨e,i,a⟩:=c.o
   have:=H.o
   rw[a] at this;rw[P] at this;cases this
  .have:=b.o.st
   obtain⟨e,i,a⟩:=c.o;rw[a] at this;exact this
  .exact((f _).cell (p:=⟨d.heap.size,5,none⟩) y).trans b.o.sc.c5
  .exact((f _).cell (p:=⟨d.heap.size,6,none⟩) y).trans b.o.sc.c6
  .rw[Xr _ _ _ _ rfl];rfl
  .rw[Xr _ _ _ _ rfl];rfl
  .obtain⟨e,i,a⟩:=c.o
   have:g.on=false:=by have:=H.o;rw[a] at this;exact this
   rw[this];rfl
 .rw[l] at b5
  have Q:g.on=true:=by
   obtain⟨e,i,a⟩:=c.o;rw[a] at l;exact l
  have j:=(uJ c7.o u.o).hd Q;have b7:Z (∀r,Kept q r->Calls prog 42 #[.pointer (some ⟨w.heap.size,0,none⟩),.pointer (some ⟨d.heap.size,0,none⟩)] r λm z=>∃n R b8,m=.returned (.pointer (some ⟨n,0,none⟩))/\OfP g.hd (g.pal.length/3) r z w.heap.size n A C D F R b8):=λr J=>by
   have b9:=b1.o.pal;have k:=b1.o.good a0.o;have c0:=(x.o.kept J).fd;obtain⟨e,i,a⟩:=c.o;have d3:h.hd=g.hd:=by rw[a]
   have c1:h.pal=g.pal:=by rw[a]
   have e4:=b.o.len;have e5:=k.2.1;have P:=b.o.oat.zat.fr (S:=λ_=>False) (Fr.of_kept J) (λ_ _ a=>a);have K:∀L,r.cell? ⟨d.heap.size,L,none⟩=q.cell? ⟨d.heap.size,L,none⟩:=λL=>J.cell (p:=⟨d.heap.size,L,none⟩) y
   rw[d3,c1] at c0;rw[c1] at b9;exact MT w.heap.size d.heap.size g.pal.length F g.hd b2 A C D r c0 ⟨(K 0).trans b.o.oat.c0,(K 3).trans b.o.sc.c3,(K 4).trans b.o.sc.c4,(K 7).trans b.o.sc.c7,P⟩ j.W j.H j.D j.K j.L j.leg j.bits b.o.by' O b9 (KI k b.o.st) (λM k=>by rw[bP b2 b.o.oat.own] at k;exact Xq (b.o.oat.own.lt M k).2 J.size)
  have H:Z _:=Q;clear j Q l;go_wp2_with fail;refine(b7.o _ ((Xs _ _).alloc (E _) _)).mono ?_;rintro m e6 ⟨n,R,b8,rfl,c2⟩;have s:Z _:=c2;clear c2 b7;go_wp2;go_ret3
  have f:=Kept.trans ((Xs _ _).alloc (E _) _) s.o.kept;obtain⟨e7,M,e8,c3,_⟩:=s.o.fin;refine⟨⟨_,_,_,rfl,⟨?_,E _,g,h,a1,a2,a3,a4,_,a5,A,C,D,b3,b4,F,u.o,c.o,x.o.kept f,?_,?_,?_,_,_,c3.c5,c3.c6,?_⟩⟩,b6.o.trans f⟩
  .have T:=x.o.kept f
   refine I0 T c.o u.o (by have:=b.o.st;obtain⟨e,i,a⟩:=c.o;rw[a] at this;exact this) (E _) (λ_ => ?_);have c4:=T.cell 3 O;have c5:=T.cell 4 O;obtain⟨e,i,a⟩:=c.o;rw[a] at c4 c5;obtain⟨M,d4,d5,d6,d7,d8,d9⟩:=MV s.o c4 c5 w.heap.size Xf (E _);exact⟨M,d4,d5,d6,d7,R,d8,d9,by rw[s.o.lines,s.o.iq,IA]⟩
  .have:=b.o.st
   obtain⟨e,i,a⟩:=c.o;rw[a] at this;exact this
  .exact(f.cell (p:=⟨d.heap.size,5,none⟩) y).trans b.o.sc.c5
  .exact(f.cell (p:=⟨d.heap.size,6,none⟩) y).trans b.o.sc.c6
  .rw[I H.o,s.o.iq,KT]
def rdE(l:List Nat):Nat:=(dcL l).err
def rdA(l:List Nat):Nat:=(dcL l).at1
theorem yc l:rdE l=(af rd0 l).2.1:=by unfold rdE;rw[kR]
theorem MQ l:rdA l=if(af rd0 l).2.1=0 then 0 else(af rd0 l).2.2:=by unfold rdA;rw[kR]
theorem KG{l}(c:∀d∈l,d<256){F er at'}(h:cq l F er at'){out dn sm ser sat sen}(q:iD F.z out dn sm ser sat sen):wj F er at' (aH F.hd (F.pal.length/3) (au F.hd (aq F.hd.L) 0) (λ_=>0) out) dn sm ser sat sen=(rdE l,rdA l):=by
 have b:=kM c h q (λ_=>0);rw[yc,MQ];by_cases a:(af rd0 l).2.1=0
 .rw[I a]
  exact Y7 b.1 ((ve c h q (λ_=>0)) a)
 .rw[N a]
  exact Y7 b.1 (b.2.1 a)
theorem zm base fb sb mb l w(y:∀E∈l,E<256)(h:StX w base fb sb mb l):Calls prog 27 #[.pointer (some ⟨fb,0,none⟩),.pointer (some ⟨sb,0,none⟩),.pointer (some ⟨mb,0,none⟩)] w λF G=>F=.returned (.tuple #[.int .i64 (rdE l),.int .i64 (rdA l)])/\Kept w G:=by
 obtain⟨a,T,n,o,U,V,W,X,H,J,K,e,z,L,A,M,p,B,Y,a0,b,q,a1,a2,f⟩:=h.ex;have a3:w.cell? ⟨fb,15,none⟩=some (.int .i64 n):=p.cell 15 O;have a4:w.cell? ⟨fb,16,none⟩=some (.int .i64 o):=p.cell 16 O;have r:=KG y A B;unfold wj at r;generalize imE (aH a.hd (a.pal.length/3) (au a.hd (aq a.hd.L) 0) (λ_=>0) H) J K L=P at *;obtain⟨Q,R⟩:=P;have C:(if b≠0 then(b,q) else if e≠0 then(e,z) else(n,o))=(rdE l,rdA l):=by
  rw[<-r];by_cases k:a.on=true
  .rw[I k] at f
   injection f with s D
   subst s;subst D;by_cases m:b≠0
   .rw[I m,I ⟨k,m⟩]
   .rw[N m,N (show ¬(a.on=true/\(b,q).1≠0) from λc=>m c.2)]
  .rw[N k] at f
   injection f with s D
   rw[s,N (λc=>c rfl),N (show ¬(a.on=true/\(Q,R).1≠0) from λc=>k c.1)]
 have d:Z _:=C;generalize rdE l=t at *;generalize rdA l=u at *;clear p A M B f r C h y;by_cases v:b=0
 .subst v
  by_cases x:e=0
  .subst x
   have g:(n,o)=(t,u):=d.o
   injection g with i j
   subst i;subst j;clear d;go_enter func27,ntmps27;go_wp2;go_quiet (fail);go_wp2;go_ret2;exact⟨rfl,(Kept.refl _).drewN _⟩
  .have g:(e,z)=(t,u):=by have:=d.o;rw[N (λc=>c rfl),I x] at this;exact this
   injection g with i j
   subst i;subst j;have S:((e:Int)!=0)=true:=Xe;clear d x;go_enter func27,ntmps27;go_wp2;go_quiet (fail);go_wp2;go_ret2;exact⟨rfl,(Kept.refl _).drewN _⟩
 .have g:(b,q)=(t,u):=by have:=d.o;rw[I v] at this;exact this
  injection g with i j
  subst i;subst j;have S:((b:Int)!=0)=true:=Xe;clear d v;go_enter func27,ntmps27;go_wp2;go_quiet (fail);go_wp2;go_ret2;exact⟨rfl,(Kept.refl _).drewN _⟩
def NR(c:Nat->Value)(j:Nat)(v:Value):Nat->Value:=λk=>if k=j then v else c k
structure P6 (w:World) (b:Nat) (c:Nat->Value):Prop where
 cell:∀k,k<6->w.cell? ⟨b,k,none⟩=some (c k)
 fz:∀k,w.frozen? ⟨b,k,none⟩=false
theorem P6.lt{w b c}(h:P6 w b c):b<w.heap.size:=B _ _ (h.cell 0 O)
theorem P6.same{w w' b c}(h:P6 w b c)(e:w'.heap[b]? = w.heap[b]?):P6 w' b c:=⟨λa d=>(XK (w:=w) e).trans (h.cell a d),λa=>(X2 (w:=w) e).trans (h.fz a)⟩
theorem P6.kept{w w' b c}(h:P6 w b c)(k:Kept w w'):P6 w' b c:=h.same (k.block b h.lt)
theorem P6.set{w b c}(h:P6 w b c)j(g:j<6)v:P6 (w.setCell ⟨b,j,none⟩ v) b (NR c j v):=by
 refine⟨λa e => ?_,λa=>(Xy _ _ _ _).trans (h.fz a)⟩;unfold NR;by_cases d:a=j
 .subst d;rw[I rfl];exact ai (h.cell a e) _
 .rw[N d,aa _ _ _ _ _ (λf=>d f.symm)];exact h.cell a e
def ey(t:ByteArray)(cut:Bool):Nat:=if rdE (ag t)=0/\cut=true then 23 else rdE (ag t)
def pQ(t:ByteArray)(cut:Bool):Nat:=if rdE (ag t)=0/\cut=true then t.size else rdA (ag t)
def Pa(w:World)(fb:Nat)(l:List Nat):Prop:=∃dn:Bool,w.cell? ⟨fb,14,none⟩=some (.bool dn)/\(rdE l=0->(dn=true↔(dcL l).file.part=5))
structure ec (w:World) (b:Nat) (t:ByteArray) (cut:Bool):Prop where
 ex:∃c,P6 w b c/\c 0=.string t/\c 1=.bool cut/\c 4=.int .i64 (ey t cut)/\c 5=.int .i64 (pQ t cut)/\∃fb mb,c 2=.pointer (some ⟨fb,0,none⟩)/\c 3=.pointer (some ⟨mb,0,none⟩)/\uZ w (b+1) fb mb (ag t)
theorem ec.kept{w w' b t cut}(h:ec w b t cut)(k:Kept w w'):ec w' b t cut:=by
 obtain⟨a,c,d,e,f,g,i,j,l,m,n⟩:=h.ex;exact⟨a,c.kept k,d,e,f,g,i,j,l,m,n.up (.of k)⟩
theorem ec.oth{w w' b d t cut}(h:ec w b t cut)(k:Fr1 d w w')(p:d<b):ec w' b t cut:=by
 obtain⟨c,a,e,f,g,i,j,l,m,n,o⟩:=h.ex;exact⟨c,a.same (k.block b a.lt O),e,f,g,i,j,l,m,n,o.up (.fr k O)⟩
theorem uZ.dn{W lo fb mb l}(b:∀c∈l,c<256)(h:uZ W lo fb mb l):Pa W fb l:=by
 obtain⟨d,i,j,k,m,n,o,p,q,r,s,e,f,t,u,v,w,g,_⟩:=h.ex;refine⟨d.done,g,λa => ?_⟩;rw[yc] at a;rw[kR];exact(((kM b e f (λ_=>0)).2.2) a).symm
theorem ux b t cut c w(h:P6 w b c)(r:c 0=.string t)(B:c 1=.bool cut)(L:t.size<=1048576):Calls prog 18 #[.pointer (some ⟨b,0,none⟩)] w λk n=>k=.returned (.tuple #[])/\ec n b t cut/\Fr1 b w n:=by
 have C:=h.cell 0 O;rw[r] at C;have M:=h.lt;have P:Z _:=h;have o:Z _:=r;have p:Z _:=B;have s:Z (ey t cut=if rdE (ag t)=0/\cut=true then 23 else rdE (ag t)):=rfl;have u:Z (pQ t cut=if rdE (ag t)=0/\cut=true then t.size else rdA (ag t)):=rfl;have Q:Z (∀a v g l i,StX a v g l i (ag t)->Calls prog 27 #[.pointer (some ⟨g,0,none⟩),.pointer (some ⟨l,0,none⟩),.pointer (some ⟨i,0,none⟩)] a λk n=>k=.returned (.tuple #[.int .i64 (rdE (ag t):Int),.int .i64 (rdA (ag t):Int)])/\Kept a n):=λa v g l i m=>zm v g l i _ a (da t) m
 generalize rdE (ag t)=q at *;generalize rdA (ag t)=D at *;clear h r B;go_enter func18,ntmps18;go_wp2_with fail;refine(Eo t w L).mono ?_;rintro k a4 ⟨⟨g,l,i,rfl,m⟩,E⟩;go_wp2_with fail;refine(Q.o _ _ _ _ _ m).mono ?_;rintro k G ⟨rfl,x⟩;have H:=(m.pic.low M).up (.of x);have y:=E.trans x;have d:=P.o.kept y;have R:=d.cell 0 O;rw[o.o] at R;have S:=d.cell 1 O;rw[p.o] at S;have a5:=d.cell 2 O;have a6:=d.cell 3 O;have a7:=d.cell 4 O;have a8:=d.cell 5 O;have a9:=d.fz;have z:Z _:=d;have T:Z _:=H;have U:Z (Fr1 b w G):=Fr.of_kept y;clear m E x y d H C;have A:Z (∀(a:World) (e:Nat->Value),P6 a b e->Fr1 b G a->e 0=.string t->e 1=.bool cut->e 2=.pointer (some ⟨g,0,none⟩)->e 3=.pointer (some ⟨i,0,none⟩)->e 4=.int .i64 (ey t cut)->e 5=.int .i64 (pQ t cut)->ec a b t cut/\Fr1 b w a):=λa e V J W X Y a0 a1 a2=>⟨⟨e,V,W,X,a1,a2,g,i,Y,a0,T.o.up (.fr J O)⟩,U.o.trans J⟩
 cases K:((q:Int)==0)
 .have f:Z (ey t cut=q/\pQ t cut=D):=by
   have:q≠0:=by rw[F] at K;omega
   exact⟨by rw[s.o,N (λj=>this j.1)],by rw[u.o,N (λj=>this j.1)]⟩
  go_wp2;go_end0
  refine⟨rfl,A.o _ _ ((((z.o.set 2 O _).set 3 O _).set 4 O _).set 5 O _) (((((Fr1.refl _ _).set _ _).set _ _).set _ _).set _ _) o.o p.o rfl rfl ?_ ?_⟩
  .rw[f.o.1];rfl
  .rw[f.o.2];rfl
 .have a3:q=0:=by rw[XI] at K;omega
  subst a3;cases cut
  .have f:Z (ey t false=0/\pQ t false=D):=⟨by rw[s.o,N (λj=>by cases j.2)],by rw[u.o,N (λj=>by cases j.2)]⟩
   go_wp2;go_end0
   refine⟨rfl,A.o _ _ ((((z.o.set 2 O _).set 3 O _).set 4 O _).set 5 O _) (((((Fr1.refl _ _).set _ _).set _ _).set _ _).set _ _) o.o p.o rfl rfl ?_ ?_⟩
   .rw[f.o.1];rfl
   .rw[f.o.2];rfl
  .have f:Z (ey t true=23/\pQ t true=t.size):=⟨by rw[s.o,I ⟨rfl,rfl⟩],by rw[u.o,I ⟨rfl,rfl⟩]⟩
   go_wp2;go_end0
   refine⟨rfl,A.o _ _ ((((((z.o.set 2 O _).set 3 O _).set 4 O _).set 5 O _).set 4 O _).set 5 O _) (((((((Fr1.refl _ _).set _ _).set _ _).set _ _).set _ _).set _ _).set _ _) o.o p.o rfl rfl ?_ ?_⟩
   .rw[f.o.1];rfl
   .rw[f.o.2];rfl
def R0c:Nat->Value
 | 0 => .string ⟨#[]⟩
 | 1 => .bool false
 | 2 => .pointer none
 | 3 => .pointer none
 | _ => .int .i64 0
theorem Ob(w:World):P6 (w.alloc (.cells #[.string ⟨#[]⟩,.bool false,.pointer none,.pointer none,.int .i64 0,.int .i64 0] 78)) w.heap.size R0c:=by
 refine⟨λa b => ?_,λa=>XB _ _ _ _ rfl⟩;rw[Xr _ _ _ _ rfl]
 match a,b with
 | 0,_=>rfl
 | 1,_=>rfl
 | 2,_=>rfl
 | 3,_=>rfl
 | 4,_=>rfl
 | 5,_=>rfl
 | a+6,c=>omega
theorem Ij w:Calls prog 9 #[] w λa b=>a=.returned (.pointer (some ⟨w.heap.size,0,none⟩))/\ec b w.heap.size ⟨#[]⟩ false/\Kept w b:=by
 go_enter func9,ntmps9;go_wp2_with fail;refine(ux _ ⟨#[]⟩ false R0c _ (Ob w) rfl rfl Xh).mono ?_;rintro a e ⟨rfl,c,d⟩;go_wp2;go_ret;exact⟨rfl,c,Fr.to_kept ((Xs _ _).alloc (E _) _) d (λf g h=>O)⟩
theorem wU b t p cut w(h:ec w b t cut)(f:(t++p).size<=1048576)(g:ey t cut=0->cut=false):Calls prog 15 #[.pointer (some ⟨b,0,none⟩),.string p] w λi j=>
   (ey t cut=0->i=.returned (.tuple #[.int .i64 (ey (t++p) false:Int),.int .i64 (pQ (t++p) false:Int)])/\ec j b (t++p) false)/\(ey t cut≠0->i=.returned (.tuple #[.int .i64 (ey t cut),.int .i64 (pQ t cut)])/\ec j b t cut)/\Fr1 b w j:=by
 obtain⟨L,a,c,d,k,l,M,N,r,s,u⟩:=h.ex;have v:=a.cell 0 O;rw[c] at v;have x:=a.cell 4 O;rw[k] at x;have y:=a.cell 5 O;rw[l] at y;have P:=a.fz;have Q:t.size+p.size<=1048576:=by rw[Y5] at f;exact f
 cases m:((ey t cut:Int)==0)
 .have e:ey t cut≠0:=by rw[F] at m;omega
  have n:Z _:=e;have o:Z _:=h;clear e g h a c d k l r s u;go_enter func15,ntmps15;go_wp2;go_quiet (fail);go_wp2;go_ret2;exact⟨λc=>absurd c n.o,λ_=>⟨rfl,o.o.kept ((Kept.refl _).drewN _)⟩,(Fr1.refl _ _).drewN _⟩
 .have e:ey t cut=0:=by rw[XI] at m;omega
  have n:Z _:=e;have D:=g e;subst D;have z:=U (ux b (t++p) false _ _ (a.set 0 O (.string (t++p))) rfl d f);clear e g h a c d k l r s u;go_enter func15,ntmps15;go_wp2_with fail;refine z.o.mono ?_;rintro i R ⟨rfl,d,A⟩;obtain⟨S,q,E,G,B,C,H⟩:=d.ex;have I:=q.cell 4 O;rw[B] at I;have J:=q.cell 5 O;rw[C] at J;have o:Z _:=d;have K:Z _:=((Fr1.refl _ _).set _ _).trans A;clear v x y m d A q E G B C H z;go_wp2;go_quiet (fail);go_wp2;go_ret2;exact⟨λ_=>⟨rfl,o.o.kept ((Kept.refl _).drewN _)⟩,λc=>absurd n.o c,K.o.drewN _⟩
theorem CC b t w(h:ec w b t false)(H:t.size<=1048576):Calls prog 17 #[.pointer (some ⟨b,0,none⟩)] w λs u=>∃cut,cut=decide (rdE (ag t)=0/\(dcL (ag t)).file.part≠5)/\s=.returned (.tuple #[.int .i64 (ey t cut),.int .i64 (pQ t cut)])/\ec u b t cut/\Fr1 b w u:=by
 obtain⟨T,a,i,c,j,k,V,W,l,o,v⟩:=h.ex;obtain⟨I,x,m⟩:=v.dn (da t);clear v;have y:=a.cell 1 O;rw[c] at y;have z:=a.cell 2 O;rw[l] at z;have A:=a.cell 4 O;rw[j] at A;have B:=a.cell 5 O;rw[k] at B;have X:=a.fz;have p:ey t false=rdE (ag t):=by unfold ey;rw[N (λd=>by cases d.2)]
 cases q:((ey t false:Int)==0)
 .have e:rdE (ag t)≠0:=by rw[F] at q;omega
  have f:Z (false=decide (rdE (ag t)=0/\(dcL (ag t)).file.part≠5)):=by
   show _=_
   rw[J (λd=>e d.1)]
  have g:Z _:=h;clear e h a i c j k l o x m p;go_enter func17,ntmps17;go_wp2;go_quiet (fail);go_wp2;go_ret2;exact⟨false,f.o,rfl,g.o.kept ((Kept.refl _).drewN _),(Fr1.refl _ _).drewN _⟩
 .have e:rdE (ag t)=0:=by rw[XI] at q;omega
  have n:=m e;cases I
  .have f:Z (true=decide (rdE (ag t)=0/\(dcL (ag t)).file.part≠5)):=by
    show _=_
    rw[K ⟨e,λd=>by have:=n.2 d;cases this⟩]
   have C:=U (ux b t true _ _ (a.set 1 O (.bool true)) i rfl H);clear e h a i c j k l o m p n;go_enter func17,ntmps17;go_wp2_with fail;refine C.o.mono ?_;rintro s Y ⟨rfl,c,D⟩;obtain⟨a0,r,L,M,E,G,P⟩:=c.ex;have Q:=r.cell 4 O;rw[E] at Q;have R:=r.cell 5 O;rw[G] at R;have g:Z _:=c;have S:Z _:=((Fr1.refl _ _).set _ _).trans D;clear y z A B q c D r L M E G P C x;go_wp2;go_quiet (fail);go_wp2;go_ret2;exact⟨true,f.o,rfl,g.o.kept ((Kept.refl _).drewN _),S.o.drewN _⟩
  .have f:Z (false=decide (rdE (ag t)=0/\(dcL (ag t)).file.part≠5)):=by
    show _=_
    rw[J (λd=>d.2 (n.1 rfl))]
   have g:Z _:=h;clear e h a i c j k l o m p n;go_enter func17,ntmps17;go_wp2;go_quiet (fail);go_wp2;go_ret2;exact⟨false,f.o,rfl,g.o.kept ((Kept.refl _).drewN _),(Fr1.refl _ _).drewN _⟩
theorem yT s t:ag (s++t)=ag s++ag t:=by
 unfold ag;simp[ByteArray.data_append]
theorem Ms{w W g d}t(h:DI w W g d)(f:vd d (ag t))(i:t.size<=2147483648)(b:bC w):Calls prog 14 #[.pointer (some ⟨g,0,none⟩),.string t] W λc a=>c=.returned (.tuple #[.int .i64 ((d.feed (ag t)).err:Int),.int .i64 ((d.feed (ag t)).at1:Int)])/\DI w a g (d.feed (ag t))/\Fr1 g W a:=by
 obtain⟨j,k,l⟩:=h.ex;refine(Nb g 5957 t j d W k l (E _) f i (b.kept h.kept) (b.new h.lo)).mono ?_;rintro c a ⟨rfl,e⟩;refine⟨rfl,h.step e,?_⟩;obtain⟨_,_,_,m⟩:=e;exact m
theorem Ni{w W g l}(h:DI w W g (dcL l)):Calls prog 16 #[.pointer (some ⟨g,0,none⟩)] W λd c=>d=.returned (.tuple #[.int .i64 ((dcZ l).err:Int),.int .i64 ((dcZ l).at1:Int)])/\DI w c g (dcZ l)/\Fr1 g W c:=by
 obtain⟨f,i,j⟩:=h.ex;unfold dcZ;by_cases b:(dcL l).err=0
 .by_cases e:(dcL l).file.part=5
  .rw[N (λk=>k.2 e)]
   have m:=Ng b;refine(FZ g 5957 f (dcL l) W i j (E _) b m e).mono ?_;rintro d c ⟨rfl,a⟩;rw[b,m];exact⟨rfl,h.on a,Fr.of_kept a⟩
  .rw[I ⟨b,e⟩]
   refine(F4 g 5957 f (dcL l) W i j (E _) b e).mono ?_;rintro d c ⟨rfl,a⟩;refine⟨rfl,h.step a,?_⟩;obtain⟨_,_,_,n⟩:=a;exact n
 .rw[N (λk=>b k.1)]
  refine(F0 g 5957 f (dcL l) W i j (E _) b).mono ?_;rintro d c ⟨rfl,a⟩;exact⟨rfl,h.on a,Fr.of_kept a⟩
theorem DI.oth{w W W' g b d}(h:DI w W g d)(k:Fr1 b W W')(f:g<b):DI w W' g d:=by
 obtain⟨a,c,e⟩:=h.ex;have i:=h.lo;refine⟨Fr.to_kept h.kept k (λj l m=>O),h.pos,h.lo,a,?_,e⟩;exact c.fr k O
structure ny (w0 W:World) (d b:Nat) (t:ByteArray) (cut:Bool):Prop where
 di:DI w0 W d (if cut=true then dcZ (ag t) else dcL (ag t))
 ref:ec W b t cut
 lt:d<b
 cz:cut=true->rdE (ag t)=0/\(dcL (ag t)).file.part≠5
theorem tB t:ey t false=rdE (ag t):=by unfold ey;rw[N (λa=>by cases a.2)]
theorem Dt t:pQ t false=rdA (ag t):=by unfold pQ;rw[N (λa=>by cases a.2)]
theorem LJ{l:List Nat}(h:rdE l=0/\(dcL l).file.part≠5):dcZ l={dcL l with err:=23,at1:=(dcL l).count}:=I h
theorem Je{l}(h:¬(rdE l=0/\(dcL l).file.part≠5)):dcZ l=dcL l:=N h
theorem Fy{l}(h:rdE l=0):(dcL l).count=l.length:=by
 rw[yc] at h;rw[kR];exact uf _ _ h
theorem OS t:ey t (decide (rdE (ag t)=0/\(dcL (ag t)).file.part≠5))=(dcZ (ag t)).err/\pQ t (decide (rdE (ag t)=0/\(dcL (ag t)).file.part≠5))=(dcZ (ag t)).at1:=by
 by_cases a:rdE (ag t)=0/\(dcL (ag t)).file.part≠5
 .rw[LJ a,K a]
  unfold ey pQ;rw[I ⟨a.1,rfl⟩,I ⟨a.1,rfl⟩];refine⟨rfl,?_⟩;show t.size=(dcL (ag t)).count
  rw[Fy a.1,az]
 .rw[Je a,J a,tB,Dt]
  exact⟨rfl,rfl⟩
def Pf(w0 W':World)(d b:Nat)(t p:ByteArray)(cut:Bool):Prop:=∃t',t'.size<=t.size+p.size/\ny w0 W' d b t' cut
theorem ss w0 W d b t p cut(h:ny w0 W d b t cut)(L:t.size+p.size<=1048576)(F:bC w0):Calls prog 10 #[.pointer (some ⟨d,0,none⟩),.pointer (some ⟨b,0,none⟩),.string p] W λa u=>a=.returned (.bool true)/\Pf w0 u d b t p cut:=by
 have G:(t++p).size<=1048576:=by rw[Y5];exact L
 by_cases c:ey t cut=0
 .have M:cut=false:=by
   cases cut
   .rfl
   .have:=h.cz rfl
    unfold ey at c;rw[I ⟨this.1,rfl⟩] at c;cases c
  subst M;have i:DI w0 W d (dcL (ag t)):=h.di;have f:=Ms p i (Nf (ag t) (ag p) (da t) (da p) (by rw[az,az];omega)) O F;rw[LM,<-yT] at f;have j:Z (Calls prog 14 #[.pointer (some ⟨d,0,none⟩),.string p] W λN u=>N=.returned (.tuple #[.int .i64 (ey (t++p) false:Int),.int .i64 (pQ (t++p) false:Int)])/\DI w0 u d (dcL (ag (t++p)))/\Fr1 d W u):=by
   rw[tB,Dt];exact f
  have k:Z (∀e,Fr1 d W e->Calls prog 15 #[.pointer (some ⟨b,0,none⟩),.string p] e λa g=>a=.returned (.tuple #[.int .i64 (ey (t++p) false:Int),.int .i64 (pQ (t++p) false:Int)])/\ec g b (t++p) false/\Fr1 b e g):=λe w=>by
   refine(wU b t p false e (h.ref.oth w h.lt) G (λ_=>rfl)).mono ?_;rintro a g ⟨H,_,x⟩;exact⟨(H c).1,(H c).2,x⟩
  have l:Z _:=h.lt;generalize ey (t++p) false=P at *;generalize pQ (t++p) false=Q at *;clear h f i c;go_enter func10,ntmps10;go_wp2_with fail;refine j.o.mono ?_;rintro a y ⟨rfl,m,n⟩;go_wp2_with fail;refine(k.o y n).mono ?_;rintro a z ⟨rfl,o,q⟩;have A:Z (ny w0 z d b (t++p) false):=⟨m.oth q l.o,o,l.o,(λB=>by cases B)⟩;clear m n q o j k;go_wp2;go_ret;exact⟨rfl,t++p,by rw[Y5];omega,A.o⟩
 .obtain⟨r,s⟩:∃r,r=(if cut=true then dcZ (ag t) else dcL (ag t)):=⟨_,rfl⟩
  have i:=h.di;rw[<-s] at i;have v:r.err=ey t cut/\r.at1=pQ t cut:=by
   cases cut
   .rw[s,tB,Dt];exact⟨rfl,rfl⟩
   .have R:=h.cz rfl
    have C:=OS t;rw[K R] at C;rw[s];exact⟨C.1.symm,C.2.symm⟩
  have D:r.err≠0:=by rw[v.1];exact c
  have f:=Ms p i (uH D _) O F;rw[lB D,v.1,v.2] at f;have j:=U f;have k:Z (∀e,Fr1 d W e->Calls prog 15 #[.pointer (some ⟨b,0,none⟩),.string p] e λa g=>a=.returned (.tuple #[.int .i64 (ey t cut),.int .i64 (pQ t cut)])/\ec g b t cut/\Fr1 b e g):=λe w=>by
   refine(wU b t p cut e (h.ref.oth w h.lt) G (λB=>absurd B c)).mono ?_;rintro a g ⟨_,J,x⟩;exact⟨(J c).1,(J c).2,x⟩
  have l:Z _:=h.lt;have S:Z _:=h.cz;have T:Z _:=s;generalize ey t cut=P at *;generalize pQ t cut=Q at *;clear h f i c v D s;go_enter func10,ntmps10;go_wp2_with fail;refine j.o.mono ?_;rintro a y ⟨rfl,m,n⟩;go_wp2_with fail;refine(k.o y n).mono ?_;rintro a z ⟨rfl,o,q⟩;have E:=m.oth q l.o;rw[T.o] at E;have A:Z (ny w0 z d b t cut):=⟨E,o,l.o,S.o⟩;clear m E n q o j k;go_wp2;go_ret;exact⟨rfl,t,O,A.o⟩
def Pg(w0 W':World)(d b:Nat)(t:ByteArray):Prop:=∃cut,ny w0 W' d b t cut
theorem ll w0 W d b t(h:ny w0 W d b t false)(x:t.size<=1048576):Calls prog 12 #[.pointer (some ⟨d,0,none⟩),.pointer (some ⟨b,0,none⟩)] W λc y=>c=.returned (.bool true)/\Pg w0 y d b t:=by
 have j:DI w0 W d (dcL (ag t)):=h.di;have g:=OS t;obtain⟨a,e⟩:∃a,a=decide (rdE (ag t)=0/\(dcL (ag t)).file.part≠5):=⟨_,rfl⟩;rw[<-e] at g;have k:=Ni j;rw[<-g.1,<-g.2] at k;have o:=U k;have p:Z (∀f,Fr1 d W f->Calls prog 17 #[.pointer (some ⟨b,0,none⟩)] f λc l=>c=.returned (.tuple #[.int .i64 (ey t a),.int .i64 (pQ t a)])/\ec l b t a/\Fr1 b f l):=λf z=>by
  refine(CC b t f (h.ref.oth z h.lt) x).mono ?_;rintro c l ⟨M,q,A,B,C⟩;rw[<-e] at q;subst q;exact⟨A,B,C⟩
 have r:Z _:=h.lt;have D:Z (DI w0 W d (dcL (ag t))->a=true->rdE (ag t)=0/\(dcL (ag t)).file.part≠5):=λ_ i=>by rw[e] at i;exact Yr i
 have E:Z (dcZ (ag t)=if a=true then dcZ (ag t) else dcL (ag t)):=by
  show dcZ (ag t)=_
  by_cases m:rdE (ag t)=0/\(dcL (ag t)).file.part≠5
  .rw[e,I (K m)]
  .rw[e,N (by rw[J m];decide)];exact Je m
 have F:Z _:=j;generalize ey t a=O at *;generalize pQ t a=P at *;clear h k g e j;go_enter func12,ntmps12;go_wp2_with fail;refine o.o.mono ?_;rintro c G ⟨rfl,s,u⟩;go_wp2_with fail;refine(p.o G u).mono ?_;rintro c H ⟨rfl,v,w⟩;have n:=s.oth w r.o;rw[E.o] at n;have L:Z (ny w0 H d b t a):=⟨n,v,r.o,λi=>D.o F.o i⟩;clear s n u w v o p;go_wp2;go_ret;exact⟨rfl,a,L.o⟩
