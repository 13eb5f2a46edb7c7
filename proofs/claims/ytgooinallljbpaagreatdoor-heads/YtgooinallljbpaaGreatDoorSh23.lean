import Derived.Test.YtgooinallljbpaaGreatDoorSh00
import Derived.Test.YtgooinallljbpaaGreatDoorSh22
set_option linter.all false
namespace Go.Proofs.YtgooinallljbpaaGreatDoor
open Go.RowKit Px Tryz
theorem yN s l m:bg s (l++m)=bg (bg s l) m:=by unfold bg;rw[Yk]
theorem AV.enter{t q}(h:AV t q)p:AV t (q.enter p):=⟨h.hd,h.st,h.rw,h.sd,h.sum,h.length,h.ctype,h.sp,h.sc,h.dov,h.col,h.cls,h.pal,h.clr⟩
theorem CI{t f h r k n i dn}(D:Ag t f)(x:Sm t f)(l:t.ctype=k)(m:t.length=n)(E:t.sum=bg ax (h.drop 4))(d:k≠aG)(F:f.begE k n dn=0)(G:f.done=false):gg (t.note.enter (if t.note.length=0 then 4 else 3)) r (Fl.body (f.begF k) k n h r i) i:=by
 have c:=(kP (t:=t) (by rw[l];exact d)).enter (if t.note.length=0 then 4 else 3);have H:=(kP (t:=t) (by rw[l];exact d)).length.trans m;rw[H] at c ⊢;obtain⟨a,g⟩:∃a,a=t.note.enter (if n=0 then 4 else 3):=⟨_,rfl⟩;have e:a.part=if n=0 then 4 else 3:=by rw[g];rfl
 have q:a.taken=0:=by rw[g];rfl
 have J:a.number=0:=by rw[g];rfl
 rw[<-g] at c ⊢;clear g;have y:=c.ctype.trans l;have z:=c.length.trans m;have K:∀A B,(f.begF k).data k A B=f.begF k:=λA B=>by unfold Fl.data;rw[N d]
 have C:dy (f.begF k) t.rw:=by
  refine x.ok.to ?_ ?_ ?_
  .unfold Fl.begF;split;rfl;split<;>rfl
  .unfold Fl.begF;split;rfl;split<;>rfl
  .unfold Fl.begF;split;rfl;split<;>rfl
 unfold Fl.body;rw[K];by_cases L:n<=r.length
 .have M:∃b,af a r=shf n (af b (r.drop n))/\DtA a (r.take n) b/\b.part=4/\b.taken=0/\b.number=0:=by
   by_cases o:n=0
   .subst o
    rw[I rfl] at e;exact⟨a,rfl,DtA.refl a,e,q,J⟩
   .rw[N o] at e
    have p:(r.take n).length=n:=Xf;obtain⟨b,j,s⟩:=Au (s0:=a) (by rw[y];exact d) (r.take n) e q (by rw[p,z]) (by intro u;rw[u] at p;simp at p;omega);refine⟨b.enter 4,?_,j.enter 4,rfl,rfl,rfl⟩
    conv=>lhs;rw[<-X7 n r]
    rw[lq,s,I rfl,p]
  obtain⟨b,P,v,Q,R,S⟩:=M;refine Dn (k:=k) L P Q R S (by rw[v.sum,(c.sum.trans E),yN]) (by rw[v.rw,c.rw];exact C) (λT U V W => ?_);have w:=xn (dn:=dn) D x l d (by rw[m];exact F) G c ((((v.num T).num U).num V).num W) (by rw[m];simp;omega);exact⟨w.1,w.2.1,λX=>w.2.2 X _⟩
 .have o:¬n=0:=O
  rw[N o] at e;rw[I];obtain⟨b,j,s,Y,Z⟩:=qg (s0:=a) (by rw[y];exact d) r [] a (DtA.refl a) e q (by rw[z];simp;omega);refine gg.stop rfl (by rw[j]) (λu=>absurd rfl u) (λ_ => ?_) ?_
  .rw[j]
   show b.part≠5
   rw[Y];decide
  .rw[j]
   show dy _ b.rw
   rw[s.rw,c.rw];exact C
theorem wK{t:Rd}(a:t.ctype=aG):t.note=t.begin:=by
 have b:t.note1=t.begin:=by unfold Rd.note1;rw[N (by rw[a];exact kF),N (by rw[a];exact kE),I a]
 have c:t.begin.ctype=aG:=by unfold Rd.begin;split<;>exact a
 unfold Rd.note;rw[b];unfold Rd.note2;rw[J (λd=>d c),Y9];rfl
theorem IdA.enter{s0 q dk}(h:IdA s0 dk q)p:IdA s0 dk (q.enter p):=⟨h.sum,h.ctype,h.length,h.hd,h.tl,h.sp,h.sc,h.sd,h.dov⟩
theorem KN(f:Fl):f.ov aG=false:=by unfold Fl.ov;simp
theorem Gi{t f h r n i dn}(s:Ag t f)(V:Sm t f)(W:t.ctype=aG)(b4:t.length=n)(b5:t.sum=bg ax (h.drop 4))(b6:f.begE aG n dn=0)(b7:f.done=false)(b8:Cap f.r0):gg (t.note.enter (if t.note.length=0 then 4 else 3)) r (Fl.body (f.begF aG) aG n h r i) i:=by
 have L:=dw bT b6;obtain⟨X,b9,c0,c1⟩:=s.on L;have c2:f.begF aG=f:=by
  unfold Fl.begF;rw[N (by rw[L];decide)];rw[KN,N Xh]
 rw[wK W,c2];obtain⟨a,j⟩:∃a,a=t.begin:=⟨_,rfl⟩;have A:a.length=n:=by rw[j,<-b4];unfold Rd.begin;split<;>rfl
 have Y:a.ctype=aG:=by rw[j,<-W];unfold Rd.begin;split<;>rfl
 have c3:a.sum=bg ax (h.drop 4):=by rw[j,<-b5];unfold Rd.begin;split<;>rfl
 have Z:a.hd=t.hd:=by rw[j];unfold Rd.begin;split<;>rfl
 have a0:a.tl=t.tl:=by rw[j];unfold Rd.begin;split<;>rfl
 have c4:a.sp=t.sp:=by rw[j];unfold Rd.begin;split<;>rfl
 have c5:a.sc=t.sc:=by rw[j];unfold Rd.begin;split<;>rfl
 have c6:a.dov=t.dov:=by rw[j];unfold Rd.begin;split<;>rfl
 have c7:a.sd=true:=by
  rw[j];unfold Rd.begin;cases l:t.sd with
  | true=>rw[I rfl];exact l
  | false=>rw[N Xh]
 have c8:∀e,SK f.r0 (f.z++e) f.z.length a.st a.rw:=λe=>by
  by_cases w:0<f.ids
  .have l:t.begin=t:=by unfold Rd.begin;rw[s.sd,K w];rfl
   rw[j,l];exact V.sk w e
  .have c9:f.z=[]:=by
    rcases V with⟨_,M,_⟩|⟨M,_⟩
    .exact M
    .exact absurd M w
   have l:t.begin={t with sd:=true,st:=St.start,rw:=Rw.start t.hd t.tl.colours}:=by unfold Rd.begin;rw[s.sd,J w];rfl
   have x:Rw.start t.hd t.tl.colours=f.r0:=by unfold Fl.r0;rw[X,s.col]
   rw[j,l,c9,x];exact lh _ _
 rw[<-j,A];clear j;obtain⟨c,u⟩:∃c,c=a.enter (if n=0 then 4 else 3):=⟨_,rfl⟩;have B:c.part=if n=0 then 4 else 3:=by rw[u];rfl
 have a1:c.taken=0:=by rw[u];rfl
 have d0:c.number=0:=by rw[u];rfl
 have g:IdA a [] c:=by rw[u];exact⟨rfl,rfl,rfl,rfl,rfl,rfl,rfl,rfl,rfl⟩
 have a2:c.st=a.st:=by rw[u];rfl
 have a3:c.rw=a.rw:=by rw[u];rfl
 rw[<-u];clear u;have a4:IdA c [] c:=⟨rfl,rfl,rfl,rfl,rfl,rfl,rfl,rfl,rfl⟩;have m:∀e,f.data aG e i={f with ids:=f.ids+1,z:=f.z++plc e i}:=λe=>by unfold Fl.data;rw[I rfl]
 have P:∀e,(f.data aG e i).r0=f.r0:=λe=>by rw[m];rfl
 obtain⟨d1,Q⟩:=zx (d:=r.take n) (i:=i) b8 c8;have d2:(cD a.st a.rw (r.take n)).2.2≠0->∀v:Ch,v.f=f.data aG (r.take n) i->(af c r).2.1=(cD a.st a.rw (r.take n)).2.2->(af c r).2.2=stN a.st a.rw (r.take n)->(af c r).1.rw=(cD a.st a.rw (r.take n)).2.1->gg c r v i:=λl v C a5 d3 d4=>by
  refine gg.bad (by rw[a5];exact l) (by rw[C,m];show 0<f.ids+1;omega) ?_;rw[C,P,m,a5,d3,d4];exact d1 l
 have S:∀e,f.data aG e i=((f.data aG e i).ends aG e).1:=λe=>by unfold Fl.ends;rw[N bT,N kF,N kE,N uq]
 have d5:∀e,((f.data aG e i).ends aG e).2=0:=λe=>by unfold Fl.ends;rw[N bT,N kF,N kE,N uq]
 have d6:∀(v:Ch),v=Fl.body f aG n h r i->v.f=f.data aG (r.take n) i:=λv C=>by
  rw[C];unfold Fl.body;split
  .rfl
  .split
   .rfl
   .split
    .exact(S _).symm
    .exact(S _).symm
 have a6:∀(b:Rd),IdA c (r.take n) b->b.st=(cD a.st a.rw (r.take n)).1->b.rw=(cD a.st a.rw (r.take n)).2.1->(cD a.st a.rw (r.take n)).2.2=0->b.part=4->b.taken=0->b.number=0->n<=r.length->af c r=shf n (af b (r.drop n))->gg c r (Fl.body f aG n h r i) i:=by
  intro b o a7 a8 a9 d7 d8 d9 e0 e1;have e2:dy (f.data aG (r.take n) i) b.rw:=R ⟨by rw[m];show 0<f.ids+1;omega,b.st,by
   have:=Q a9 []
   rw[XN] at this;rw[P,m,a7,a8];exact this⟩
  refine Dn (k:=aG) e0 e1 d7 d8 d9 (by rw[o.sum,g.sum,c3];show bg (bg (bg ax (h.drop 4)) []) _=_;rw[yN];rfl) e2 (λD E F G => ?_);have T:((((b.num D).num E).num F).num G).ctype=aG:=(o.ctype.trans g.ctype).trans Y;have e3:((((b.num D).num E).num F).num G).accept=((((b.num D).num E).num F).num G,0):=by
   unfold Rd.accept;rw[N (by rw[T];exact bT),N (by rw[T];exact kE)]
  rw[e3,d5,<-S];refine⟨rfl,λp=>absurd rfl p,λ_=>⟨?_,?_,R ⟨by rw[m];exact b7,by show((((b.num D).num E).num F).num G).ctype≠cE;rw[T];exact uq⟩⟩⟩
  .rw[m]
   exact⟨λp=>(by rw[L] at p;cases p),λ_=>⟨by show b.hd=_;rw[o.hd,g.hd,Z,X],b9,by show b.hd.W≠0;rw[o.hd,g.hd,Z];exact c0,c1⟩,by show b.sp=_;rw[o.sp,g.sp,c4,s.sp],by show b.sc=_;rw[o.sc,g.sc,c5,s.sc],by show b.sd=decide (0<f.ids+1);rw[o.sd,g.sd,c7,K],by show b.dov=_;rw[o.dov,g.dov,c6,s.dov],by show b.tl.colours=_;rw[o.tl,g.tl,a0,s.col],by show TbQ b.tl _;rw[o.tl,g.tl,a0];exact s.tb.to rfl rfl rfl rfl rfl rfl rfl⟩
  .rw[m]
   refine R ⟨by show 0<f.ids+1;omega,λl => ?_⟩;show SK f.r0 (f.z++plc (r.take n) i++l) (f.z++plc (r.take n) i).length b.st b.rw
   rw[a7,a8];exact Q a9 l
 by_cases b0:n=0
 .subst b0
  rw[I rfl] at B;exact a6 c a4 a2 a3 rfl B a1 d0 (X3 _) rfl
 .rw[N b0] at B
  have e4:(r.take n).length<=n:=Xf;have b1:=DU (s0:=c) (g.ctype.trans Y) (r.take n) [] c a4 B a1 (by rw[g.length,A];simpa using e4);rw[a2,a3] at b1;rcases b1 with⟨y,q,H,e5⟩|⟨y,b,q,H,e6,e7,b2,b3⟩
  .have x:af c r=af c (r.take n):=by
    conv=>lhs;rw[<-X7 n r]
    rw[lq,N (by rw[q];exact y)]
   exact d2 y _ (d6 _ rfl) (by rw[x];exact q) (by rw[x];exact H) (by rw[x];exact e5)
  .rw[Ze] at H e7
   by_cases w:n<=r.length
   .have U:(r.take n).length=n:=by simp;omega
    rw[I ⟨by intro p;rw[p] at U;simp at U;omega,by rw[g.length,A];simp;omega⟩] at q;refine a6 (b.enter 4) (H.enter 4) b2 b3 y rfl rfl rfl w ?_
    conv=>lhs;rw[<-X7 n r]
    rw[lq,q,I rfl,U]
   .have e8:r.take n=r:=X6 O
    rw[e8] at q;rw[N (λp=>by have:=p.2;rw[g.length,A] at this;simp at this;omega)] at q;unfold Fl.body;rw[I];refine gg.stop rfl (by rw[q]) (λp=>absurd rfl p) (λ_ => ?_) ?_
    .rw[q];show b.part≠5;rw[e6];decide
    .refine R ⟨by rw[m];show 0<f.ids+1;omega,b.st,?_⟩
     rw[q];show SK (f.data aG (r.take n) i).r0 (f.data aG (r.take n) i).z (f.data aG (r.take n) i).z.length b.st b.rw
     have:=Q y []
     rw[XN] at this;rw[P,m,b2,b3];exact this
def gf(s:Rd)(l:List Nat)(C:Ch)(i:Nat):Prop:=
 (∃(h1:(af s l).2.1≠0) (h2:0<C.f.ids) (h3:dp C.f.r0 C.f.z (af s l).2.1 (i+(af s l).2.2) (af s l).1.rw),True) \/
 (∃(h1:C.took=0) (h2:(af s l).2.1=C.err) (h3:C.err≠0->(af s l).2.2=C.at') (h4:C.err=0->(af s l).1.part≠5) (h5:dy C.f (af s l).1.rw),True) \/
 (∃(s':Rd) (h1:8<=C.took) (h0:C.err=0) (hm:C.took<=l.length) (h2:af s l=shf C.took (af s' (l.drop C.took))) (h3:Ag s' C.f) (h4:Sm s' C.f) (h5:(C.f.done=true/\s'.part=5)\/(C.f.done=false/\s'.part=1/\s'.taken=0/\s'.number=0)),True)
theorem gf.bad{s l C i}(a:(af s l).2.1≠0)(b:0<C.f.ids)(c:dp C.f.r0 C.f.z (af s l).2.1 (i+(af s l).2.2) (af s l).1.rw):gf s l C i:=L ⟨a,b,c,trivial⟩
theorem gf.stop{s l C i}(a:C.took=0)(b:(af s l).2.1=C.err)(c:C.err≠0->(af s l).2.2=C.at')(d:C.err=0->(af s l).1.part≠5)(e:dy C.f (af s l).1.rw):gf s l C i:=R (L ⟨a,b,c,d,e,trivial⟩)
theorem gf.on{s l C i}s'(a:8<=C.took)(b:C.err=0)(c:C.took<=l.length)(d:af s l=shf C.took (af s' (l.drop C.took)))(e:Ag s' C.f)(f:Sm s' C.f)(g:(C.f.done=true/\s'.part=5)\/(C.f.done=false/\s'.part=1/\s'.taken=0/\s'.number=0)):gf s l C i:=R (R ⟨s',a,b,c,d,e,f,g,trivial⟩)
theorem gf.cs{s:Rd}{l:List Nat}{C:Ch}{i:Nat}{motive:gf s l C i->Prop}(bad:∀(h1:(af s l).2.1≠0) (h2:0<C.f.ids) (h3:dp C.f.r0 C.f.z (af s l).2.1 (i+(af s l).2.2) (af s l).1.rw),motive (gf.bad h1 h2 h3))(stop:∀(h1:C.took=0) (h2:(af s l).2.1=C.err) (h3:C.err≠0->(af s l).2.2=C.at') (h4:C.err=0->(af s l).1.part≠5) (h5:dy C.f (af s l).1.rw),motive (gf.stop h1 h2 h3 h4 h5))(on:∀(s':Rd) (h1:8<=C.took) (h0:C.err=0) (hm:C.took<=l.length) (h2:af s l=shf C.took (af s' (l.drop C.took))) (h3:Ag s' C.f) (h4:Sm s' C.f) (h5:(C.f.done=true/\s'.part=5)\/(C.f.done=false/\s'.part=1/\s'.taken=0/\s'.number=0)),motive (gf.on s' h1 h0 hm h2 h3 h4 h5))(h:gf s l C i):motive h:=by
 rcases h with⟨h1,h2,h3,_⟩|⟨h1,h2,h3,h4,h5,_⟩|⟨s',h1,h0,hm,h2,h3,h4,h5,_⟩
 .exact bad h1 h2 h3
 .exact stop h1 h2 h3 h4 h5
 .exact on s' h1 h0 hm h2 h3 h4 h5
theorem tA a b q:shf a (shf b q)=shf (b+a) q:=by
 unfold shf;simp;omega
theorem Ip{a b c d}(e:a<256)(f:b<256)(g:c<256)(h:d<256):n4 a b c d<4294967296:=by unfold n4;omega
theorem mg(l:List Nat)(h:4<=l.length):∃a b c d e,l=a::b::c::d::e:=by
 match l,h with
 | a::b::c::d::e,_=>exact⟨a,b,c,d,e,rfl⟩
theorem AG{s f l i dn}(b0:Ag s f)(A:Sm s f)(a0:s.part=1)(b1:s.taken=0)(a1:s.number=0)(a2:f.done=false)(b2:∀w∈l,w<256)(b3:f.first=true->Cap f.r0)(b4:dn=decide (s.st.part=10)):gf s l (f.chunk l i dn) i:=by
 subst b4;unfold Fl.chunk;by_cases a3:l.length<4
 .rw[I a3]
  obtain⟨v,B,T,U⟩:=nN 1 (L rfl) l s a0 O;refine gf.stop rfl (by rw[B]) (λq=>absurd rfl q) (λ_ => ?_) (by rw[B];show dy f v.rw;rw[T.rw];exact A.ok);rw[B];show v.part≠5;rw[U];decide
 rw[N a3];obtain⟨m,n,o,p,C,rfl⟩:=mg l O;have e:=uy (a:=m) (b:=n) (c:=o) (d:=p) (r:=C) a0 b1 a1;show gf s _ (if 2147483648<=n4 m n o p then _ else _) i
 by_cases J:2147483648<=n4 m n o p
 .rw[I J]
  rw[I J] at e;refine gf.stop rfl (by rw[e]) (λ_=>by rw[e]) (λq=>by cases q) (by rw[e];exact A.ok)
 rw[N J];rw[N J] at e;by_cases K:(m::n::o::p::C).length<8
 .rw[I K]
  obtain⟨v,B,T,U⟩:=nN 2 (R (L rfl)) C (lnS s (n4 m n o p)) rfl (by show 0+C.length<4;simp at K;omega);rw[B] at e;refine gf.stop rfl (by rw[e];rfl) (λq=>absurd rfl q) (λ_ => ?_) (by rw[e];show dy f v.rw;rw[T.rw];exact A.ok);rw[e];show v.part≠5;rw[U];decide
 rw[N K];obtain⟨g,h,j,k,t,rfl⟩:=mg C (by simp at K;omega);have x:=xP (s:=lnS s (n4 m n o p)) (a:=g) (b:=h) (c:=j) (d:=k) (r:=t) rfl rfl rfl;obtain⟨u,D⟩:∃u,u=tyS (lnS s (n4 m n o p)) (n4 g h j k) (bg (lnS s (n4 m n o p)).sum [g,h,j,k]):=⟨_,rfl⟩;rw[<-D] at x;have M:gd s u:=by rw[D];exact⟨rfl,rfl,rfl,rfl,rfl,rfl,rfl,rfl⟩
 have E:u.ctype=n4 g h j k:=by rw[D];rfl
 have V:u.length=n4 m n o p:=by rw[D];rfl
 have a4:u.sum=bg ax [g,h,j,k]:=by rw[D];rfl
 have P:∀w,w∈[g,h,j,k]->w<256:=λw a5=>b2 w (by simp at a5 ⊢;rcases a5 with rfl|rfl|rfl|rfl<;>simp)
 have W:=b0.same M;have a6:=A.same M;have a7:=uU W (by rw[E];exact(Ip (P g Xi) (P h Xi) (P j Xi) (P k Xi)));rw[E,V,M.st] at a7;rw[a7] at x;show gf s _ (if f.begE (n4 g h j k) (n4 m n o p) (decide (s.st.part=10))≠0 then⟨f,f.begE (n4 g h j k) (n4 m n o p) (decide (s.st.part=10)),7,0⟩ else Fl.body (f.begF (n4 g h j k)) (n4 g h j k) (n4 m n o p) [m,n,o,p,g,h,j,k] t (i+8)) i
 by_cases F:f.begE (n4 g h j k) (n4 m n o p) (decide (s.st.part=10))≠0
 .rw[I F]
  rw[I F] at x;rw[x] at e;refine gf.stop rfl (by rw[e];rfl) (λ_=>by rw[e];rfl) (λq=>absurd q F) (by rw[e];show dy f u.rw;rw[M.rw];exact A.ok)
 rw[N F];rw[N F] at x;rw[x,tA] at e;have Q:f.begE (n4 g h j k) (n4 m n o p) (decide (s.st.part=10))=0:=O;have X:gg (u.note.enter (if u.note.length=0 then 4 else 3)) t (Fl.body (f.begF (n4 g h j k)) (n4 g h j k) (n4 m n o p) [m,n,o,p,g,h,j,k] t (i+8)) (i+8):=by
  by_cases a8:n4 g h j k=aG
  .rw[a8] at E Q ⊢
   exact Gi W a6 E V a4 Q a2 (b3 (dw bT Q))
  .exact CI W a6 E V a4 a8 Q a2
 generalize Fl.body (f.begF (n4 g h j k)) (n4 g h j k) (n4 m n o p) [m,n,o,p,g,h,j,k] t (i+8)=a9 at X;generalize u.note.enter (if u.note.length=0 then 4 else 3)=y at X e;cases X using gg.cs with
 | bad z G H=>
  refine gf.bad (by rw[e];exact z) G ?_;rw[e];show dp a9.f.r0 a9.f.z (af y t).2.1 (i+((af y t).2.2+(4+4))) (af y t).1.rw
  rw[show i+((af y t).2.2+(4+4))=i+8+(af y t).2.2 from O];exact H
 | stop z G H Y Z=>
  refine gf.stop z (by rw[e];exact G) (λq => ?_) (λq=>by rw[e];exact Y q) (by rw[e];exact Z);rw[e];show(af y t).2.2+(4+4)=_
  have:=H q
  omega
 | on S v z b5 a1 G H Y Z=>
  refine gf.on v O b5 (by rw[z];simp;omega) ?_ H Y Z;rw[e,G,z,tA,show S+(4+4)=8+S from O];rw[show 8+S=S+8 from O];rfl
structure za (h:Hd):Prop where
 W:h.W<=16
 H:h.H<=16
 W1:1<=h.W
 H1:1<=h.H
 L:h.L<=1
 D:okD h.D
 K:kOk h.K
 leg:(h.K=0\/h.K=3)\/(h.D=8\/h.D=16)
theorem za.bits{h}(k:za h):1<=bo h:=by
 have b:=k.D;unfold okD at b;unfold bo
 have:1<=chn h.K:=by rcases k.K with a|a|a|a|a<;>rw[a]<;>decide
 have:=XF this (show 1<=h.D from O)
 omega
theorem ID{k d}(h:¬gi k d=false):kOk k/\okD d/\((k=0\/k=3)\/(d=8\/d=16)):=by
 have b:=wL h;refine⟨b,?_⟩;unfold gi at h;unfold okD;rcases b with a|a|a|a|a<;>subst a<;>simp at h<;>omega
theorem wS r(h:(aE r).1=0):za (aE r).2:=by
 unfold aE at h ⊢;simp only at h ⊢
 split at h
 .cases h
 .split at h
  .cases h
  .split at h
   .cases h
   .rename_i b c d
    rw[N b,N c,N d];have e:¬gi (r 9) (r 8)=false:=λa=>b (R (R (R (R a))))
    obtain⟨f,g,i⟩:=ID e;have j:¬((r 0*256+r 1)*256+r 2)*256+r 3=0:=λa=>b (L a)
    have k:¬((r 4*256+r 5)*256+r 6)*256+r 7=0:=λa=>b (R (L a))
    exact⟨by show((r 0*256+r 1)*256+r 2)*256+r 3<=16;omega,by show((r 4*256+r 5)*256+r 6)*256+r 7<=16;omega,by show 1<=((r 0*256+r 1)*256+r 2)*256+r 3;omega,by show 1<=((r 4*256+r 5)*256+r 6)*256+r 7;omega,by show r 12<=1;omega,g,f,i⟩
structure FOk (f:Fl):Prop where
 ids:0<f.ids->f.first=true
 on:f.first=true->f.on=true/\za f.hd
 z:f.ids=0->f.z=[]
theorem FOk.cap{f}(h:FOk f)(b:f.first=true):Cap f.r0:=by
 obtain⟨_,a⟩:=h.on b;exact Gh a.W a.H a.D a.bits
structure ew (f g:Fl):Prop where
 ids:f.ids<=g.ids
 z:∃d,g.z=f.z++d
 r0:0<f.ids->g.r0=f.r0
theorem ew.refl f:ew f f:=⟨E _,⟨[],Xi⟩,λ_=>rfl⟩
theorem L3{f k n dn}(h:FOk f)(d:f.begE k n dn=0):ew f (f.begF k)/\(f.begF k).first=true/\(k≠aQ->FOk (f.begF k))/\(k=aQ->f.first=false):=by
 by_cases a:f.first=true
 .obtain⟨g,b⟩:=ql (k:=k) a
  rw[b];exact⟨⟨E _,⟨[],Xi⟩,λ_=>rfl⟩,a,λ_=>⟨h.ids,h.on,h.z⟩,λc=>by subst c;exact(kJ d).1⟩
 .have e:f.first=false:=by simpa using a
  have b:f.begF k={f with first:=true}:=by unfold Fl.begF;rw[I e]
  rw[b];refine⟨⟨E _,⟨[],Xi⟩,λ_=>rfl⟩,rfl,λc => ?_,λ_=>e⟩;exact absurd (dw c d) a
theorem LN{f k}(h:FOk f\/k=aQ)(c:f.first=true)d i:ew f (f.data k d i)/\(k≠aQ->FOk (f.data k d i)):=by
 unfold Fl.data;by_cases b:k=aG
 .rw[I b]
  refine⟨⟨by show f.ids<=f.ids+1;omega,⟨plc d i,rfl⟩,λ_=>rfl⟩,λa => ?_⟩;rcases h with h|h
  .exact⟨λ_=>c,h.on,λe=>by cases e⟩
  .exact absurd h a
 .rw[N b]
  refine⟨ew.refl f,λa => ?_⟩;rcases h with h|h
  .exact h
  .exact absurd h a
theorem ew.trans{a b c}(h:ew a b)(k:ew b c):ew a c:=by
 obtain⟨d,e⟩:=h.z;obtain⟨f,g⟩:=k.z;refine⟨Xz h.ids k.ids,⟨d++f,by rw[g,e,XY]⟩,λi => ?_⟩
 have:=h.ids
 rw[k.r0 O,h.r0 i]
theorem LD{f f0:Fl}{k n:Nat}{dn:Bool}{d}(h:k≠aQ->FOk f)(l:f.first=true)(m:k=aQ->f.ids=0/\f.z=[])(o:k=bE->f.ids=0):ew f (f.ends k d).1/\((f.ends k d).2=0->FOk (f.ends k d).1):=by
 unfold Fl.ends;by_cases e:k=aQ
 .rw[I e]
  obtain⟨r,p⟩:=m e;by_cases c:(aE (λq=>d.getD q 0)).1≠0
  .rw[I c]
   exact⟨ew.refl f,λb=>absurd b c⟩
  .rw[N c]
   refine⟨⟨E _,⟨[],Xi⟩,λb=>absurd b O⟩,λ_=>⟨λb=>l,λ_=>⟨rfl,wS _ O⟩,λ_=>p⟩⟩
 rw[N e];have a:=h e;by_cases g:k=bE
 .rw[I g]
  have s:=o g;exact⟨⟨E _,⟨[],Xi⟩,λb=>absurd b O⟩,λ_=>⟨a.ids,a.on,a.z⟩⟩
 rw[N g];by_cases i:k=bB
 .rw[I i]
  by_cases c:f.hd.K≠3/\cI f.hd.D d=true
  .rw[I c];exact⟨ew.refl f,λb=>by cases b⟩
  .rw[N c];exact⟨⟨E _,⟨[],Xi⟩,λ_=>rfl⟩,λ_=>⟨a.ids,a.on,a.z⟩⟩
 rw[N i];by_cases j:k=cE
 .rw[I j];exact⟨⟨E _,⟨[],Xi⟩,λ_=>rfl⟩,λ_=>⟨a.ids,a.on,a.z⟩⟩
 .rw[N j];exact⟨ew.refl f,λ_=>a⟩
theorem chunk_ok{f}(h:FOk f)l i dn:ew f (f.chunk l i dn).f/\((f.chunk l i dn).took≠0->FOk (f.chunk l i dn).f):=by
 unfold Fl.chunk;by_cases s:l.length<4
 .rw[I s];exact⟨ew.refl f,λa=>absurd rfl a⟩
 rw[N s];by_cases t:2147483648<=n4 (l.getD 0 0) (l.getD 1 0) (l.getD 2 0) (l.getD 3 0)
 .rw[I t];exact⟨ew.refl f,λa=>absurd rfl a⟩
 rw[N t];by_cases u:l.length<8
 .rw[I u];exact⟨ew.refl f,λa=>absurd rfl a⟩
 rw[N u];generalize n4 (l.getD 4 0) (l.getD 5 0) (l.getD 6 0) (l.getD 7 0)=c;generalize n4 (l.getD 0 0) (l.getD 1 0) (l.getD 2 0) (l.getD 3 0)=b;by_cases v:f.begE c b dn≠0
 .rw[I v];exact⟨ew.refl f,λa=>absurd rfl a⟩
 rw[N v];have o:f.begE c b dn=0:=O;obtain⟨B,w,C,D⟩:=L3 h o;have x:=LN (f:=f.begF c) (k:=c) (by by_cases e:c=aQ;exact R e;exact L (C e)) w ((l.drop 8).take b) (i+8);have j:=B.trans x.1;have E:((f.begF c).data c ((l.drop 8).take b) (i+8)).first=true:=by unfold Fl.data;split<;>exact w
 have p:=LD (n:=b) (dn:=dn) (f0:=f) (d:=(l.drop 8).take b) x.2 E (λe=>by
   have q:=D e;have m:f.ids=0:=by
    by_cases g:0<f.ids
    .rw[h.ids g] at q;cases q
    .omega
   subst e;have g:(f.begF aQ).data aQ ((l.drop 8).take b) (i+8)={f with first:=true}:=by unfold Fl.data;rw[N (λa=>bT a.symm)];unfold Fl.begF;rw[I q]
   rw[g];exact⟨m,h.z m⟩) (λe=>by
   subst e;have r:=dw (λg=>pU g.symm) o;have m:=(uW r (lJ r o)).1;obtain⟨H,g⟩:=ql (k:=bE) r;have F:(f.begF bE).data bE ((l.drop 8).take b) (i+8)=f.begF bE:=by unfold Fl.data;rw[N (λa=>kF a.symm)]
   rw[F,g];exact m)
 unfold Fl.body;generalize (f.begF c).data c ((l.drop 8).take b) (i+8)=G at *;by_cases y:(l.drop 8).length<b+4
 .rw[I y];exact⟨j,λa=>absurd rfl a⟩
 rw[N y];by_cases z:bz (bg ax ((l.take 8).drop 4++(l.drop 8).take b))≠n4 ((l.drop 8).getD b 0) ((l.drop 8).getD (b+1) 0) ((l.drop 8).getD (b+2) 0) ((l.drop 8).getD (b+3) 0)
 .rw[I z];exact⟨j,λa=>absurd rfl a⟩
 rw[N z];by_cases A:(G.ends c ((l.drop 8).take b)).2≠0
 .rw[I A];exact⟨j.trans p.1,λa=>absurd rfl a⟩
 .rw[N A];exact⟨j.trans p.1,λ_=>p.2 O⟩
def la(l:List Nat):Nat:=n4 (l.getD 4 0) (l.getD 5 0) (l.getD 6 0) (l.getD 7 0)
def rJ(z:List One)(dn:Bool):Prop:=∃out sm er at' en,iD z out dn sm er at' en
theorem uP{f:Fl}{l i dn dn'}(h:f.ov (la l)=false):f.chunk l i dn=f.chunk l i dn':=by
 have b:∀a,f.begE (la l) a dn=f.begE (la l) a dn':=λa=>by
  unfold Fl.begE;rw[h,YM,YM]
 unfold Fl.chunk;unfold la at b;rw[b]
def Hb(l:List Nat):Prop:=∀j,j<8->j<l.length->l.getD j 0=dD j
def WkN(l:List Nat):Nat->Nat->Fl->Prop
 | 0,i0,i1=>Hb l/\8=i0/\Fl.start=i1
 | m+1,i0,i1=>∃(i:Nat) (f:Fl) (dn:Bool) (h:WkN l m i f) (hd:f.done=false) (hi:i<l.length) (hr:f.ov (la (l.drop i))=true->rJ f.z dn) (ht:(f.chunk (l.drop i) i dn).took≠0),i+(f.chunk (l.drop i) i dn).took=i0/\(f.chunk (l.drop i) i dn).f=i1
def Wk(l:List Nat)(i:Nat)(f:Fl):Prop:=∃m,WkN l m i f
theorem Wk.start{l}(h:Hb l):Wk l 8 Fl.start:=⟨0,h,rfl,rfl⟩
theorem Wk.next{l i f dn}(h:Wk l i f)(a:f.done=false)(b:i<l.length)(c:f.ov (la (l.drop i))=true->rJ f.z dn)(d:(f.chunk (l.drop i) i dn).took≠0):Wk l (i+(f.chunk (l.drop i) i dn).took) (f.chunk (l.drop i) i dn).f:=by
 obtain⟨e,h⟩:=h;exact⟨e+1,i,f,dn,h,a,b,c,d,rfl,rfl⟩
theorem Wk.cs{l:List Nat}{motive:∀i f,Wk l i f->Prop}(start:∀(h:Hb l),motive 8 Fl.start (Wk.start h))(next:∀{i:Nat} {f:Fl} {dn:Bool} (h:Wk l i f) (hd:f.done=false) (hi:i<l.length) (hr:f.ov (la (l.drop i))=true->rJ f.z dn) (ht:(f.chunk (l.drop i) i dn).took≠0),motive i f h->motive (i+(f.chunk (l.drop i) i dn).took) (f.chunk (l.drop i) i dn).f (Wk.next h hd hi hr ht)){i:Nat}{f:Fl}(h:Wk l i f):motive i f h:=by
 obtain⟨m,q⟩:=h
 induction m generalizing i f with
 | zero=>obtain⟨h,rfl,rfl⟩:=q;exact start h
 | succ m ih=>
  obtain⟨i,f,dn,h,hd,hi,hr,ht,rfl,rfl⟩:=q;exact next ⟨m,h⟩ hd hi hr ht (ih h)
def cq(l:List Nat)(i0:Fl)(i1:Nat)(i2:Nat):Prop:=
 (∃(i:Nat) (h8:i<8) (hi:i<l.length) (hb:l.getD i 0≠dD i) (hg:∀j,j<i->l.getD j 0=dD j),Fl.start=i0/\1=i1/\i=i2) \/
 (∃(i:Nat) (f:Fl) (h:Wk l i f) (hi:l.length<=i),f=i0/\0=i1/\0=i2) \/
 (∃(i:Nat) (f:Fl) (h:Wk l i f) (hd:f.done=true) (hi:i<l.length),f=i0/\22=i1/\i=i2) \/
 (∃(i:Nat) (f:Fl) (dn:Bool) (h:Wk l i f) (hd:f.done=false) (hi:i<l.length) (hr:f.ov (la (l.drop i))=true->rJ f.z dn) (ht:(f.chunk (l.drop i) i dn).took=0),(f.chunk (l.drop i) i dn).f=i0/\(f.chunk (l.drop i) i dn).err=i1/\(if(f.chunk (l.drop i) i dn).err=0 then 0 else i+(f.chunk (l.drop i) i dn).at')=i2)
theorem cq.sign{l}i(b:i<8)(c:i<l.length)(d:l.getD i 0≠dD i)(e:∀a,a<i->l.getD a 0=dD a):cq l Fl.start 1 i:=L ⟨i,b,c,d,e,rfl,rfl,rfl⟩
theorem cq.o{l i f}(h:Wk l i f)(a:l.length<=i):cq l f 0 0:=R (L ⟨i,f,h,a,rfl,rfl,rfl⟩)
theorem cq.trail{l i f}(h:Wk l i f)(a:f.done=true)(b:i<l.length):cq l f 22 i:=R (R (L ⟨i,f,h,a,b,rfl,rfl,rfl⟩))
theorem cq.stop{l i f dn}(h:Wk l i f)(a:f.done=false)(b:i<l.length)(c:f.ov (la (l.drop i))=true->rJ f.z dn)(d:(f.chunk (l.drop i) i dn).took=0):cq l (f.chunk (l.drop i) i dn).f (f.chunk (l.drop i) i dn).err (if(f.chunk (l.drop i) i dn).err=0 then 0 else i+(f.chunk (l.drop i) i dn).at'):=R (R (R ⟨i,f,dn,h,a,b,c,d,rfl,rfl,rfl⟩))
theorem cq.cs{l:List Nat}{motive:∀i0 i1 i2,cq l i0 i1 i2->Prop}(sign:∀(i:Nat) (h8:i<8) (hi:i<l.length) (hb:l.getD i 0≠dD i) (hg:∀j,j<i->l.getD j 0=dD j),motive Fl.start 1 i (cq.sign i h8 hi hb hg))(out:∀{i:Nat} {f:Fl} (h:Wk l i f) (hi:l.length<=i),motive f 0 0 (cq.o h hi))(trail:∀{i:Nat} {f:Fl} (h:Wk l i f) (hd:f.done=true) (hi:i<l.length),motive f 22 i (cq.trail h hd hi))(stop:∀{i:Nat} {f:Fl} {dn:Bool} (h:Wk l i f) (hd:f.done=false) (hi:i<l.length) (hr:f.ov (la (l.drop i))=true->rJ f.z dn) (ht:(f.chunk (l.drop i) i dn).took=0),motive (f.chunk (l.drop i) i dn).f (f.chunk (l.drop i) i dn).err (if(f.chunk (l.drop i) i dn).err=0 then 0 else i+(f.chunk (l.drop i) i dn).at') (cq.stop h hd hi hr ht)){i0:Fl}{i1:Nat}{i2:Nat}(h:cq l i0 i1 i2):motive i0 i1 i2 h:=by
 rcases h with⟨i,h8,hi,hb,hg,rfl,rfl,rfl⟩|⟨i,f,h,hi,rfl,rfl,rfl⟩|⟨i,f,h,hd,hi,rfl,rfl,rfl⟩|⟨i,f,dn,h,hd,hi,hr,ht,rfl,rfl,rfl⟩
 .exact sign i h8 hi hb hg
 .exact out h hi
 .exact trail h hd hi
 .exact stop h hd hi hr ht
theorem pL:∀(m j:Nat) (s:Rd) (l:List Nat),j+m=8->s.part=0->s.taken=j ->
  ((∃c,c<m/\c<l.length/\l.getD c 0≠dD (j+c)/\(∀a,a<c->l.getD a 0=dD (j+a))/\(af s l).2.1=1/\(af s l).2.2=c/\(af s l).1.rw=s.rw) \/
   ((∀a,a<m->a<l.length->l.getD a 0=dD (j+a))/\l.length<m/\(af s l).2.1=0/\(af s l).1.part=0/\(af s l).1.rw=s.rw) \/
   ((∀a,a<m->l.getD a 0=dD (j+a))/\m<=l.length/\∃e,af s l=shf m (af e (l.drop m))/\(0<m->e.part=1/\e.taken=0/\e.number=0)/\gd s e))
 | 0,j,s,l,q,h,n=>R (R ⟨λa f=>O,X3 _,s,rfl,λp=>O,gd.refl s⟩)
 | m+1,j,s,[],q,h,n=>R (L ⟨λa _ f=>by simp at f,Xi,rfl,h,rfl⟩)
 | m+1,j,s,x::l,q,h,n=>by
  have r:s.take x=s.takeSign x:=by unfold Rd.take;rw[I h]
  by_cases g:x=dD j
  .have b:s.take x=if j+1=8 then(({s with taken:=j+1}:Rd).enter 1,0) else({s with taken:=j+1},0):=by
    rw[r];unfold Rd.takeSign;rw[n,N (by rintro(p|p);omega;exact p g)]
   by_cases t:j+1=8
   .rw[I t] at b
    have v:m=0:=O;subst v;refine R (R ⟨λa f => ?_,Xi,({s with taken:=j+1}:Rd).enter 1,?_,λ_=>⟨rfl,rfl,rfl⟩,⟨rfl,rfl,rfl,rfl,rfl,rfl,rfl,rfl⟩⟩)
    .have:a=0:=O
     subst this;exact g
    .rw[aL b];rfl
   .rw[N t] at b
    have w:=pL m (j+1) {s with taken:=j+1} l O h rfl;rcases w with⟨c,o,u,i,k,d,y,z⟩|⟨o,u,i,k,A⟩|⟨o,u,e,i,k,d⟩
    .left
     refine⟨c+1,O,Xf,by rw[Zc,show j+(c+1)=j+1+c from O];exact i,λa f => ?_,?_,?_,?_⟩
     .cases a with
      | zero=>exact g
      | succ a=>rw[Zc,show j+(a+1)=j+1+a from O];exact k a O
     .rw[aL b];exact d
     .rw[aL b];show _+1=_;rw[y]
     .rw[aL b];exact z
    .right;left
     refine⟨λa f B => ?_,Xf,by rw[aL b];exact i,by rw[aL b];exact k,by rw[aL b];exact A⟩;cases a with
     | zero=>exact g
     | succ a=>rw[Zc,show j+(a+1)=j+1+a from O];exact o a O (by simpa using B)
    .right;right
     refine⟨λa f => ?_,Xf,e,?_,λ_=>k O,⟨d.hd,d.tl,d.st,d.rw,d.sp,d.sc,d.sd,d.dov⟩⟩
     .cases a with
      | zero=>exact g
      | succ a=>rw[Zc,show j+(a+1)=j+1+a from O];exact o a O
     .rw[aL b,i,tA];rfl
  .left
   have b:s.take x=(s,1):=by
    rw[r];unfold Rd.takeSign;rw[I (by right;rw[n];exact g)]
   refine⟨0,O,Xi,g,λa f=>O,?_,?_,?_⟩
   .rw[dE b Xh]
   .rw[dE b Xh]
   .rw[dE b Xh]
theorem JQ{s}(h:gd rd0 s):Ag s Fl.start:=⟨λ_=>⟨by rw[h.hd];rfl,rfl⟩,(λa=>by cases a),h.sp,h.sc,h.sd,h.dov,by rw[h.tl];rfl,by rw[h.tl];exact⟨λc b=>by simp[Fl.start] at b,rfl,λc b=>by simp[Fl.start] at b,λ_=>rfl,λa=>by simp[Fl.start] at a,by simp[Fl.start]⟩⟩
theorem Fa:FOk Fl.start:=⟨(λa=>by simp[Fl.start] at a),(λa=>by cases a),λ_=>rfl⟩
def WI(l:List Nat)(i:Nat)(f:Fl):Prop:=
 (∃(h1:(af rd0 l).2.1≠0) (h2:0<f.ids) (h3:dp f.r0 f.z (af rd0 l).2.1 (af rd0 l).2.2 (af rd0 l).1.rw),True) \/
 (∃(h1:l.length<8) (h2:i=8) (h3:f=Fl.start) (h4:(af rd0 l).2.1=0) (h5:(af rd0 l).1.part≠5) (h6:(af rd0 l).1.rw.known=λ_=>false),True) \/
 (∃(s':Rd) (hi:i<=l.length) (h2:af rd0 l=shf i (af s' (l.drop i))) (h3:Ag s' f) (h4:Sm s' f) (h5:(f.done=true/\s'.part=5)\/(f.done=false/\s'.part=1/\s'.taken=0/\s'.number=0)),True)
theorem WI.bad{l i f}(a:(af rd0 l).2.1≠0)(b:0<f.ids)(c:dp f.r0 f.z (af rd0 l).2.1 (af rd0 l).2.2 (af rd0 l).1.rw):WI l i f:=L ⟨a,b,c,trivial⟩
theorem WI.few{l i f}(a:l.length<8)(b:i=8)(c:f=Fl.start)(d:(af rd0 l).2.1=0)(e:(af rd0 l).1.part≠5)(g:(af rd0 l).1.rw.known=λ_=>false):WI l i f:=R (L ⟨a,b,c,d,e,g,trivial⟩)
theorem WI.ok{l i f}s'(a:i<=l.length)(b:af rd0 l=shf i (af s' (l.drop i)))(c:Ag s' f)(d:Sm s' f)(e:(f.done=true/\s'.part=5)\/(f.done=false/\s'.part=1/\s'.taken=0/\s'.number=0)):WI l i f:=R (R ⟨s',a,b,c,d,e,trivial⟩)
theorem WI.cs{l:List Nat}{i:Nat}{f:Fl}{motive:WI l i f->Prop}(bad:∀(h1:(af rd0 l).2.1≠0) (h2:0<f.ids) (h3:dp f.r0 f.z (af rd0 l).2.1 (af rd0 l).2.2 (af rd0 l).1.rw),motive (WI.bad h1 h2 h3))(few:∀(h1:l.length<8) (h2:i=8) (h3:f=Fl.start) (h4:(af rd0 l).2.1=0) (h5:(af rd0 l).1.part≠5) (h6:(af rd0 l).1.rw.known=λ_=>false),motive (WI.few h1 h2 h3 h4 h5 h6))(ok:∀(s':Rd) (hi:i<=l.length) (h2:af rd0 l=shf i (af s' (l.drop i))) (h3:Ag s' f) (h4:Sm s' f) (h5:(f.done=true/\s'.part=5)\/(f.done=false/\s'.part=1/\s'.taken=0/\s'.number=0)),motive (WI.ok s' hi h2 h3 h4 h5))(h:WI l i f):motive h:=by
 rcases h with⟨h1,h2,h3,_⟩|⟨h1,h2,h3,h4,h5,h6,_⟩|⟨s',hi,h2,h3,h4,h5,_⟩
 .exact bad h1 h2 h3
 .exact few h1 h2 h3 h4 h5 h6
 .exact ok s' hi h2 h3 h4 h5
theorem dp.grow{f g e p r}(h:dp f.r0 f.z e p r)(k:ew f g)(b:0<f.ids):dp g.r0 g.z e p r:=by
 obtain⟨c,d⟩:=k.z;refine⟨h.1,λi j l m n o q a => ?_⟩;rw[d,XY] at a;rw[k.r0 b];exact h.2 (c++i) j l m n o q a
theorem On{s f k dn}(a:Sm s f)(h:f.ov k=true)(b:rJ f.z dn):dn=decide (s.st.part=10):=by
 obtain⟨d,e,g,i,j,c⟩:=b;refine a.dn ?_ c;unfold Fl.ov at h;simp at h;exact h.1.1
theorem rH{s f l i dn}(c:Ag s f)(a:Sm s f)(d:s.part=1)(e:s.taken=0)(g:s.number=0)(h:f.done=false)(j:∀m∈l,m<256)(k:f.first=true->Cap f.r0)(n:f.ov (la l)=true->rJ f.z dn):gf s l (f.chunk l i dn) i:=by
 cases b:f.ov (la l) with
 | true=>exact AG c a d e g h j k (On a b (n b))
 | false=>rw[uP (dn':=decide (s.st.part=10)) b];exact AG c a d e g h j k rfl
theorem np{l}(t:∀k∈l,k<256){i f}(h:Wk l i f):WI l i f/\FOk f:=by
 induction h using Wk.cs with
 | start u=>
  refine⟨?_,Fa⟩;rcases pL 8 0 rd0 l rfl rfl rfl with⟨i,d,a,b,_⟩|⟨d,a,b,e,v⟩|⟨d,a,g,b,e,c⟩
  .have:=u i d a
   rw[XD] at b;exact absurd this b
  .exact WI.few a rfl rfl b (by rw[e];decide) (by rw[v];rfl)
  .exact WI.ok g a b (JQ c) (L ⟨rfl,rfl,by rw[c.rw];rfl⟩) (R ⟨rfl,e Xh⟩)
 | next h o K w p x=>
  rename_i i f y
  obtain⟨z,q⟩:=x;obtain⟨r,A⟩:=chunk_ok q (l.drop i) i y;refine⟨?_,A p⟩;cases z using WI.cs with
  | bad d a b=>exact WI.bad d (Xq a r.ids) (b.grow r a)
  | few d a b e c s=>omega
  | ok g d a b e c=>
   rcases c with⟨c,_⟩|⟨_,s,B,C⟩
   .rw[o] at c;cases c
   have D:=rH (i:=i) b e s B C o (λk E=>t k (Yu E)) (λF=>q.cap F) w;cases D using gf.cs with
   | bad j m n=>
    refine WI.bad (by rw[a];exact j) m ?_;rw[a];show dp _ _ (af g (l.drop i)).2.1 ((af g (l.drop i)).2.2+i) (af g (l.drop i)).1.rw
    rw[Nat.add_comm];exact n
   | stop j=>exact absurd j p
   | on G j M H m n I J=>
    refine WI.ok G (by simp at H;omega) ?_ n I J;rw[a,m,tA,YV,Nat.add_comm i]
theorem CD{f:Fl}{l i dn}(e:f.done=false)(b:(f.chunk l i dn).took=0)(c:(f.chunk l i dn).err=0):(f.chunk l i dn).f.done=false:=by
 unfold Fl.chunk at b c ⊢;by_cases h:l.length<4
 .rw[I h];exact e
 rw[N h] at b c ⊢;by_cases j:2147483648<=n4 (l.getD 0 0) (l.getD 1 0) (l.getD 2 0) (l.getD 3 0)
 .rw[I j];exact e
 rw[N j] at b c ⊢;by_cases k:l.length<8
 .rw[I k];exact e
 rw[N k] at b c ⊢;generalize n4 (l.getD 4 0) (l.getD 5 0) (l.getD 6 0) (l.getD 7 0)=d at *;generalize n4 (l.getD 0 0) (l.getD 1 0) (l.getD 2 0) (l.getD 3 0)=a at *;by_cases m:f.begE d a dn≠0
 .rw[I m];exact e
 rw[N m] at b c ⊢;unfold Fl.body at b c ⊢;have n:((f.begF d).data d ((l.drop 8).take a) (i+8)).done=false:=by
  have q:(f.begF d).done=false:=by
   unfold Fl.begF;split
   .exact e
   .split<;>exact e
  unfold Fl.data;split<;>exact q
 generalize (f.begF d).data d ((l.drop 8).take a) (i+8)=r at *;by_cases o:(l.drop 8).length<a+4
 .rw[I o];exact n
 rw[N o] at b c ⊢;by_cases p:bz (bg ax ((l.take 8).drop 4++(l.drop 8).take a))≠n4 ((l.drop 8).getD a 0) ((l.drop 8).getD (a+1) 0) ((l.drop 8).getD (a+2) 0) ((l.drop 8).getD (a+3) 0)
 .rw[I p];exact n
 rw[N p] at b c ⊢;by_cases g:(r.ends d ((l.drop 8).take a)).2≠0
 .rw[I g] at c;exact absurd c g
 .rw[N g] at b
  exact absurd b (by show ¬(8+a+4=0);omega)
theorem CV{l}(t:∀k∈l,k<256){F er at'}(h:cq l F er at'):((af rd0 l).2.1≠0/\0<F.ids/\dp F.r0 F.z (af rd0 l).2.1 (af rd0 l).2.2 (af rd0 l).1.rw) \/
  ((af rd0 l).2.1=er/\(er≠0->(af rd0 l).2.2=at')/\(er=0->((af rd0 l).1.part=5↔F.done=true))/\dy F (af rd0 l).1.rw):=by
 cases h using cq.cs with
 | sign _ u p y G=>
  right
  rcases pL 8 0 rd0 l rfl rfl rfl with⟨v,d,a,c,f,e,m,z⟩|⟨d,a,c,f,U⟩|⟨d,a,g,c,f,e⟩
  .have n:v=at':=by
    by_cases H:v<at'
    .have:=G v H;rw[XD] at c;exact absurd this c
    .by_cases I:at'<v
     .have:=f at' I;rw[XD] at this;exact absurd this y
     .omega
   subst n;exact⟨e,λ_=>m,(λb=>by cases b),L ⟨rfl,rfl,by rw[z];rfl⟩⟩
  .have:=d at' u p;rw[XD] at this;exact absurd this y
  .have:=d at' u;rw[XD] at this;exact absurd this y
 | out h p=>
  obtain⟨b,w⟩:=np t h;cases b using WI.cs with
  | bad d a c=>exact L ⟨d,a,c⟩
  | few d a c f e m=>subst c;exact R ⟨f,λb=>absurd rfl b,λ_=>⟨λb=>absurd b e,(λb=>by cases b)⟩,L ⟨rfl,rfl,m⟩⟩
  | ok g d a c f e=>
   rename_i j
   have n:=Y8.2 p;rw[n] at a
   right
   refine⟨by rw[a];rfl,λb=>absurd rfl b,λ_ => ?_,by rw[a];exact f.ok⟩;rw[a];show g.part=5↔_
   rcases e with⟨o,q⟩|⟨o,q,_⟩
   .exact⟨λ_=>o,λ_=>q⟩
   .rw[o,q];exact⟨(λb=>by cases b),(λb=>by cases b)⟩
 | trail h r p=>
  obtain⟨b,w⟩:=np t h;cases b using WI.cs with
  | bad d a c=>exact L ⟨d,a,c⟩
  | few d a c f e m=>omega
  | ok g d a c f e=>
   right
   rcases e with⟨o,q⟩|⟨o,q,_⟩
   .have A:∃k x,l.drop at'=k::x:=by
     cases n:l.drop at' with
     | nil=>have:=Y8.1 n;omega
     | cons k x=>exact⟨k,x,rfl⟩
    obtain⟨k,x,n⟩:=A;rw[n] at a;have J:g.take k=(g,22):=by unfold Rd.take;rw[N,N,N,N,N]
    rw[dE J Xh] at a;refine⟨by rw[a];rfl,λ_=>by rw[a];show 0+at'=at';omega,(λb=>by cases b),by rw[a];exact f.ok⟩
   .rw[r] at o;cases o
 | stop h r p K M=>
  rename_i j V P
  obtain⟨b,w⟩:=np t h;obtain⟨E,W⟩:=chunk_ok w (l.drop j) j P;cases b using WI.cs with
  | bad d a c=>exact L ⟨d,Xq a E.ids,c.grow E a⟩
  | few d a c f e m=>omega
  | ok g d a c f e=>
   rcases e with⟨e,_⟩|⟨_,m,z,u⟩
   .rw[r] at e;cases e
   have Q:=rH (i:=j) c f m z u r (λk A=>t k (Yu A)) (λs=>w.cap s) K;cases Q using gf.cs with
   | bad B C D=>
    refine L ⟨by rw[a];exact B,C,?_⟩;rw[a];show dp _ _ (af g (l.drop j)).2.1 ((af g (l.drop j)).2.2+j) (af g (l.drop j)).1.rw
    rw[Nat.add_comm];exact D
   | stop B C D S T=>
    right
    refine⟨by rw[a];exact C,λb => ?_,λb => ?_,by rw[a];exact T⟩
    .rw[a,N b]
     show(af g (l.drop j)).2.2+j=_
     rw[D b];omega
    .rw[a]
     show(af g (l.drop j)).1.part=5↔_
     rw[CD r M b];exact⟨λs=>absurd s (S b),(λs=>by cases s)⟩
   | on X B=>omega
structure FOn (f:Fl):Prop where
 ids:0<f.ids->f.on=true
 hd:f.on=true->za f.hd
 z:f.ids=0->f.z=[]
theorem wT:FOn Fl.start:=⟨(λa=>by simp[Fl.start] at a),(λa=>by cases a),λ_=>rfl⟩
theorem FOn.of{f g}(h:FOn f)(b:g.on=f.on)(c:g.hd=f.hd)(e:g.ids=f.ids)(d:g.z=f.z):FOn g:=⟨λa=>by rw[b];exact h.ids O,λa=>by rw[c];exact h.hd (by rw[<-b];exact a),λa=>by rw[d];exact h.z O⟩
theorem AF{f}(o:FOk f)(h:FOn f)l i dn:FOn (f.chunk l i dn).f:=by
 unfold Fl.chunk;by_cases e:l.length<4
 .rw[I e];exact h
 rw[N e];by_cases g:2147483648<=n4 (l.getD 0 0) (l.getD 1 0) (l.getD 2 0) (l.getD 3 0)
 .rw[I g];exact h
 rw[N g];by_cases j:l.length<8
 .rw[I j];exact h
 rw[N j];generalize n4 (l.getD 4 0) (l.getD 5 0) (l.getD 6 0) (l.getD 7 0)=a;generalize n4 (l.getD 0 0) (l.getD 1 0) (l.getD 2 0) (l.getD 3 0)=c;by_cases k:f.begE a c dn≠0
 .rw[I k];exact h
 rw[N k];have p:f.begE a c dn=0:=O;have m:FOn (f.begF a):=by
  unfold Fl.begF;split
  .exact h.of rfl rfl rfl rfl
  .split
   .exact h.of rfl rfl rfl rfl
   .exact h
 have q:a=aG->(f.begF a).on=true:=λd=>by
  subst d
  have:(f.begF aG).on=f.on:=by
   unfold Fl.begF;split
   .rfl
   .split<;>rfl
  rw[this];exact(o.on (dw bT p)).1
 have b:FOn ((f.begF a).data a ((l.drop 8).take c) (i+8)):=by
  unfold Fl.data;by_cases d:a=aG
  .rw[I d]
   exact⟨λ_=>q d,m.hd,(λr=>by cases r)⟩
  .rw[N d];exact m
 have n:FOn (((f.begF a).data a ((l.drop 8).take c) (i+8)).ends a ((l.drop 8).take c)).1:=by
  generalize (f.begF a).data a ((l.drop 8).take c) (i+8)=s at *;generalize (l.drop 8).take c=t at *;unfold Fl.ends;split
  .split
   .exact b
   .rename_i u
    exact⟨λ_=>rfl,λ_=>wS _ O,b.z⟩
  .split
   .exact b.of rfl rfl rfl rfl
   .split
    .split
     .exact b
     .exact b.of rfl rfl rfl rfl
    .split
     .exact b.of rfl rfl rfl rfl
     .exact b
 unfold Fl.body;split
 .exact b
 .split
  .exact b
  .split
   .exact n
   .exact n
theorem Gz{l}(a:∀b∈l,b<256){i f}(h:Wk l i f):FOn f:=by
 induction h using Wk.cs with
 | start d=>exact wT
 | next h e g j k c=>exact AF (np a h).2 c _ _ _
theorem uJ{l}(a:∀c∈l,c<256){F er at'}(h:cq l F er at'):FOn F:=by
 cases h using cq.cs with
 | sign _ e b f g=>exact wT
 | out h b=>exact Gz a h
 | trail h d b=>exact Gz a h
 | stop h d b i j=>exact AF (np a h).2 (Gz a h) _ _ _
def imE(im:ImR)(dn sm:Bool)(en:Nat):Nat×Nat:=
 match im with
 | .inl (_,e,p)=>(e,p)
 | .inr (.inl _)=>if(dn&&sm)=true then(18,en) else(0,0)
 | .inr (.inr _)=>(0,0)
def wj(F:Fl)(er at':Nat)(im:ImR)(dn sm:Bool)(ser sat sen:Nat):Nat×Nat:=
 if F.on=true/\(imE im dn sm sen).1≠0 then imE im dn sm sen else if ser≠0 then(ser,sat) else(er,at')
theorem Lj{h C}(d:okD h.D)(e:1<=bo h)up out dn sm er at' en(g:er=0->at'=0):ofV (aH h C (au h (aq h.L) 0) up out) dn sm er at' en=if(imE (aH h C (au h (aq h.L) 0) up out) dn sm en).1≠0 then imE (aH h C (au h (aq h.L) 0) up out) dn sm en else(er,at'):=by
 have a:=Ci d e _ _ _ up out (E _) (pJ h C up);generalize aH h C (au h (aq h.L) 0) up out=f at a;cases f using ImR.cs with
 | bad b i j=>
  obtain⟨_,a⟩:=a
  have:=a.1
  unfold ofV imE;rw[I this]
 | part b=>
  unfold ofV imE;by_cases c:(dn&&sm)=true
  .simp only[c,if_true];rfl
  .simp only[c,if_false];rfl
 | full b=>unfold ofV imE;rfl
def RdZ(ser sat:Nat):Prop:=ser=0->sat=0
theorem Bh{l}(t:∀y∈l,y<256){F er at'}(h:cq l F er at'){out dn sm ser sat sen}(q:iD F.z out dn sm ser sat sen)(A:RdZ ser sat)up:(wj F er at' (aH F.hd (F.pal.length/3) (au F.hd (aq F.hd.L) 0) up out) dn sm ser sat sen).1=(af rd0 l).2.1 /\
  ((af rd0 l).2.1≠0->(wj F er at' (aH F.hd (F.pal.length/3) (au F.hd (aq F.hd.L) 0) up out) dn sm ser sat sen).2=(af rd0 l).2.2) /\
  ((af rd0 l).2.1=0->((af rd0 l).1.part=5↔F.done=true)):=by
 have o:=uJ t h;have u:=CV t h;by_cases k:F.on=true
 .have m:=o.hd k
  obtain⟨E,i⟩:=MU (C:=F.pal.length/3) m.D m.bits up out dn sm ser sat sen;rw[Lj m.D m.bits up out dn sm ser sat sen A] at i;have B:Rw.start F.hd (F.pal.length/3)=F.r0:=rfl;rw[B] at i;unfold wj;generalize imE (aH F.hd (F.pal.length/3) (au F.hd (aq F.hd.L) 0) up out) dn sm sen=n at *;rcases u with⟨b,j,f⟩|⟨b,j,f,v⟩
  .have:=f.2 [] out dn sm ser sat sen (by rw[XN];exact q)
   obtain⟨d,g⟩:=Bi i this;by_cases c:n.1≠0
   .rw[I c] at d g
    rw[I ⟨k,c⟩];exact⟨d,λ_=>g,λa=>absurd a b⟩
   .rw[N c] at d g
    have D:ser≠0:=by intro a;exact b (d.symm.trans a)
    rw[N (λa=>c a.2),I D];exact⟨d,λ_=>g,λa=>absurd a b⟩
  .have w:n.1=0/\ser=0:=by
    rcases v with⟨p,r,_⟩|⟨p,G,x⟩
    .have x:=lh F.r0 F.z
     rw[r] at q;have e:=eC (z:=[]) (lh F.r0 []) q;have s:Vd F.r0 out dn sm ser sat sen 0 sat F.r0:=R ⟨e.1,R ⟨e.2.2.2.2,e.2.1.symm,rfl⟩⟩;obtain⟨d,g⟩:=Bi i s;by_cases c:n.1≠0
     .rw[I c] at d;exact absurd d c
     .exact⟨O,e.2.1⟩
    .have e:=eC x q
     have s:Vd F.r0 out dn sm ser sat sen 0 sat (af rd0 l).1.rw:=R ⟨e.1,R ⟨e.2.2.2.2,e.2.1.symm,rfl⟩⟩;obtain⟨d,g⟩:=Bi i s;by_cases c:n.1≠0
     .rw[I c] at d;exact absurd d c
     .exact⟨O,e.2.1⟩
   rw[N (λa=>a.2 w.1),N (λa=>a w.2)];exact⟨b.symm,λa=>(j (by rw[<-b];exact a)).symm,λa=>f (by rw[<-b];exact a)⟩
 .have p:F.ids=0:=by
   by_cases c:0<F.ids
   .exact absurd (o.ids c) k
   .omega
  have r:=o.z p;rw[r] at q;have e:=eC (z:=[]) (lh F.r0 []) q;unfold wj;rw[N (λa=>k a.1),N (λa=>a e.2.1)];rcases u with⟨b,j,f⟩|⟨b,j,f,v⟩
  .omega
  .exact⟨b.symm,λa=>(j (by rw[<-b];exact a)).symm,λa=>f (by rw[<-b];exact a)⟩
theorem rdz{z out dn sm er at' en}(h:iD z out dn sm er at' en):RdZ er at':=by
 intro a;rcases h with⟨k,_,_,_,_,e,f⟩|⟨b,g,_,_,_,_,_,_,i,_,_⟩|⟨b,g,_,_,_,_,_,_,_,c,j⟩
 .rw[f,I (by rw[<-e];exact a)]
 .rw[i] at a;cases a
 .by_cases d:b<8*z.length
  .rw[I d] at c;rw[c] at a;cases a
  .rw[j,N d]
theorem kM{l}(a:∀b∈l,b<256){F er at'}(h:cq l F er at'){out dn sm ser sat sen}(q:iD F.z out dn sm ser sat sen)up:(wj F er at' (aH F.hd (F.pal.length/3) (au F.hd (aq F.hd.L) 0) up out) dn sm ser sat sen).1=(af rd0 l).2.1 /\
  ((af rd0 l).2.1≠0->(wj F er at' (aH F.hd (F.pal.length/3) (au F.hd (aq F.hd.L) 0) up out) dn sm ser sat sen).2=(af rd0 l).2.2) /\
  ((af rd0 l).2.1=0->((af rd0 l).1.part=5↔F.done=true)):=Bh a h q (rdz q) up
theorem Mw{l F er at'}(h:cq l F er at'):er=0->at'=0:=by
 intro a;cases h using cq.cs with
 | sign _ d b e f=>cases a
 | out h b=>rfl
 | trail h c b=>cases a
 | stop h c b g i=>rw[I a]
theorem ve{l}(f:∀g∈l,g<256){F er at'}(h:cq l F er at'){out dn sm ser sat sen}(q:iD F.z out dn sm ser sat sen)up(e:(af rd0 l).2.1=0):(wj F er at' (aH F.hd (F.pal.length/3) (au F.hd (aq F.hd.L) 0) up out) dn sm ser sat sen).2=0:=by
 have d:=kM f h q up;rw[e] at d;have a:=d.1;unfold wj at a ⊢;by_cases b:F.on=true/\(imE (aH F.hd (F.pal.length/3) (au F.hd (aq F.hd.L) 0) up out) dn sm sen).1≠0
 .rw[I b] at a;exact absurd a b.2
 .rw[N b] at a ⊢
  by_cases c:ser≠0
  .rw[I c] at a;exact absurd a c
  .rw[N c] at a ⊢
   exact Mw h a
