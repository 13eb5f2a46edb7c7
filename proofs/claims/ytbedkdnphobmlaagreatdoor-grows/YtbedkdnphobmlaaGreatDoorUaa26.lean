import Derived.Test.YtbedkdnphobmlaaGreatDoorProg
import Derived.Test.YtbedkdnphobmlaaGreatDoorUaa00
import Derived.Test.YtbedkdnphobmlaaGreatDoorUaa01
import Derived.Test.YtbedkdnphobmlaaGreatDoorUaa21
import Derived.Test.YtbedkdnphobmlaaGreatDoorUaa25
set_option linter.all false
set_option maxRecDepth 100000
set_option maxHeartbeats 0
namespace Go.Proofs.YtbedkdnphobmlaaGreatDoor
open Go.RowKit Px Tryz
def NxX(w:World)(R:List (Bool×Nat))(e:Ending)(w':World):Prop:=∃v,e=.returned v/\fh w' w.heap.size v R
theorem yG lv rv ls r B w(c1:LfX w lv ls)(c2:ItX w rv r)(g8:ls.length<=1024)(g9:r.length<=4096)(j4:B<=1152921504606846976)(f7:∀x∈ls,x.2<=B)(c7:∀x∈r,x.2<=B):Calls prog 192 #[lv,rv] w λa D=>NxX w (mg (ls.map (λx=>x.2)) (prs r)) a D/\Kept w D:=by
 obtain⟨q,a3⟩:∃q,q=ls.map (λx=>x.2):=⟨_,rfl⟩;obtain⟨u,c3⟩:∃u,u=prs r:=⟨_,rfl⟩;have f8:ZH0 (∀c,c<ls.length->∃x,ls[c]? = some x/\x.2<=B/\q.drop c=x.2::q.drop (c+1)):=λc c4=>by
  refine⟨ls[c],Xt c4,f7 _ (YU c4),?_⟩;have h0:c<q.length:=by rw[a3];simpa using c4
  rw[Yy h0];simp[a3]
 have c8:ZH0 (∀a,2*a+1<r.length->∃x c9,r[2*a]? = some x/\r[2*a+1]? = some c9/\x.2<=B/\c9.2<=B/\u.drop a=(x.2+c9.2)::u.drop (a+1)):=λa i=>by
  have d0:2*a<r.length:=O;refine⟨r[2*a],r[2*a+1],Xt d0,Xt i,c7 _ (YU d0),c7 _ (YU i),?_⟩;have d1:u[a]? = some (r[2*a].2+r[2*a+1].2):=by rw[c3];exact wH r a _ _ (Xt d0) (Xt i)
  have f9:=(Yb.1 d1).1;rw[Yy f9]
  congr 1
  rw[Xt f9] at d1;exact Ym d1
 have d2:ZH0 (∀a,¬2*a+1<r.length->u.drop a=[]):=λa i=>by
  apply List.drop_eq_nil_of_le;rw[c3,jH];omega
 have d3:ZH0 (q.drop ls.length=[]):=by
  show q.drop ls.length=[]
  apply List.drop_eq_nil_of_le;rw[a3];simp
 rw[<-a3,<-c3];clear a3 c3 f7 c7;obtain⟨H,g0⟩:∃H,H=ls.length:=⟨_,rfl⟩;obtain⟨j,g1⟩:∃j,j=r.length:=⟨_,rfl⟩;obtain⟨h1,h2,rfl⟩:=c1.form;obtain⟨h3,h4,rfl⟩:=c2.form;rw[<-g0] at c1 g8 f8 d3 ⊢;rw[<-g1] at c2 g9 c8 d2 ⊢;have d4:ZH0 (∀k,Kept w k->LfX k (.slice h1 H h2) ls):=λk d5=>c1.kept d5
 have a1:ZH0 (∀k,Kept w k->ItX k (.slice h3 j h4) r):=λk d5=>c2.kept d5
 clear c1 c2 g0 g1;go_enter func192,ntmps192;go_wp2;go_loopw [5,6,7] (λa4 I d6 k=>∃(c a:Nat) (b:List (Bool×Nat)),c<=H/\2*a<=j/\I=.int .i64 ((2*a+1:Nat):Int)/\d6=.int .i64 c/\fh k w.heap.size a4 b/\Kept w k/\b.length=c+a/\b++mg (q.drop c) (u.drop a)=mg q u) (λ_ _ d6 _=>H-(intOf d6).toNat)
 case atStart=>exact⟨0,0,[],O,O,rfl,rfl,XR _ _ _ _,Kept.refl _,rfl,rfl⟩
 case round=>
  obtain⟨c,a,b,c4,i,rfl,rfl,v,l,F,P⟩:=hrel;have y:ZH0 _:=P;have G:ZH0 _:=F;clear P F;obtain⟨s,t,rfl⟩:=v.slice;have f:=U v;have g:ZH0 (Kept w wr):=l;clear v;by_cases g2:c<H
  .have h5:(c:Int)<(H:Int):=O
   clear l;go_wp2_with fail;go_loopw [5,6] (λa4 I k=>∃(a:Nat) (b:List (Bool×Nat)),2*a<=j/\I=.int .i64 ((2*a+1:Nat):Int)/\fh k w.heap.size a4 b/\Kept w k/\b.length=c+a/\b++mg (q.drop c) (u.drop a)=mg q u) (λ_ I _=>j-(intOf I).toNat)
   case atStart=>exact⟨a,b,i,rfl,f.o,g.o,G.o,y.o⟩
   case round=>
    clear f g i G y;obtain⟨a,b,i,rfl,v,l,F,P⟩:=hrel;have y:ZH0 _:=P;clear P;obtain⟨s,t,rfl⟩:=v.slice;have f:=U v;have g:ZH0 (Kept w wr):=l;obtain⟨h6,g3,h7,d7⟩:=f8.o c g2;obtain⟨d8,rfl,g4,R⟩:=(d4.o wr l).two g3;obtain⟨d,g5⟩:∃d:Nat,d=h6.2:=⟨_,rfl⟩;rw[<-g5] at R h7 d7;have d9:ZH0 _:=d7;clear g5 d7 g3;clear v;have j5:(0:Int)<=(c:Int):=O;obtain⟨m,z⟩:∃m,m=2*a+1:=⟨_,rfl⟩;obtain⟨n,S⟩:∃n,n=2*a:=⟨_,rfl⟩;rw[<-z];have T:ZH0 _:=z;obtain⟨e,L⟩:∃e,e=b.length:=⟨_,rfl⟩;rw[<-L] at f ⊢;have Q:ZH0 _:=L;have G:ZH0 _:=F;have e0:e+1<=100000000:=O;have c5:ZH0 _:=i;have a5:ZH0 _:=f.o.ge;by_cases h8:m<j
    .have e1:(m:Int)<(j:Int):=O
     obtain⟨e2,e3,V,W,e4,e5,M⟩:=c8.o a O;rw[<-S] at V;rw[<-z] at W;obtain⟨e6,rfl,a6⟩:=(a1.o wr l).two V;obtain⟨h9,A,a7⟩:=(a1.o wr l).two W
     injection A with A
     injection A with a2 _ _
     subst a2;obtain⟨o,a8⟩:∃o:Nat,o=e2.2:=⟨_,rfl⟩;obtain⟨p,a9⟩:∃p:Nat,p=e3.2:=⟨_,rfl⟩;rw[<-a8] at a6 e4 M;rw[<-a9] at a7 e5 M;have c6:ZH0 _:=M;have i0:IntKind.i64.wrap ((o:Int)+(p:Int))=((o+p:Nat):Int):=Xd;clear a8 a9 M V W;have i1:(m:Int)-1=(n:Int):=O;have i2:(n:Int)<(j:Int):=O;have i3:(0:Int)<=(n:Int):=O;have i4:(0:Int)<=(m:Int):=O;clear l g4 S z L i F;by_cases g6:(o:Int)+(p:Int)<(d:Int)
     .have i5:=K g6
      go_wp2_with fail;go_quiet (fail);replace f:ZH0 (fh (wr.drewN nq) w.heap.size (.slice s e t) b):=f.o.kept ((Kept.refl _).drewN nq);replace g:ZH0 (Kept w (wr.drewN nq)):=g.o.drewN nq;replace a6:(wr.drewN nq).cell? ⟨e6,n*2+1,none⟩=some (.int .i64 o):=a6;replace a7:(wr.drewN nq).cell? ⟨e6,m*2+1,none⟩=some (.int .i64 p):=a7;replace R:(wr.drewN nq).cell? ⟨d8,c*2+1,none⟩=some (.int .i64 d):=R;generalize wr.drewN nq=h at *;have b0:ZH0 (∀(b:TypeId) (Z:Int),(h.alloc (Obj.cells #[.bool false,.int .i64 Z] b)).cell? ⟨h.heap.size,0,none⟩=some (.bool false)):=λb Z=>(Xr _ _ _ _ rfl).trans rfl
      have b1:ZH0 (∀(b:TypeId) (Z:Int),(h.alloc (Obj.cells #[.bool false,.int .i64 Z] b)).cell? ⟨h.heap.size,1,none⟩=some (.int .i64 Z)):=λb Z=>(Xr _ _ _ _ rfl).trans rfl
      have i6:IntKind.i64.wrap (n:Int)=(n:Int):=Xd;have i7:=g.o.size;go_upto_region 7 with fail
      go_region_law ((refine EH (by rfl) _ _ (by rfl) w.heap.size (.slice s e t) e b Q.o (by rfl) (by exact f.o.kept (Kept.drewN ((Xs _ _).alloc (E _) _) 1)) h.heap.size 1 false (o+p) (by rfl) (by exact b0.o _ _) (by exact b1.o _ _) e0 Xf ?_;intro i8 i9 e7 b2 b3))
      all_goals
       have e8:ZH0 (Kept w e7):=Fr.to_kept (g.o.trans (Kept.drewN ((Xs _ _).alloc (E _) _) 1)) b3 (λA j0 e9=>by have:=a5.o A e9;omega);have f0:=U b2;clear b3 b2 b0 b1 f g d4 a1;go_wp2;have a2:=T.o;have X:=G.o;exact⟨⟨a+1,b++[(false,o+p)],O,Xj,f0.o,e8.o,by rw[Xv,X];simp;omega,by rw[<-y.o,d9.o,c6.o,Dq _ _ _ _ O,XY];rfl⟩,Xb⟩
     .have i5:=J g6
      go_wp2_with fail;go_quiet (fail);replace f:ZH0 (fh (wr.drewN nq) w.heap.size (.slice s e t) b):=f.o.kept ((Kept.refl _).drewN nq);replace g:ZH0 (Kept w (wr.drewN nq)):=g.o.drewN nq;replace R:(wr.drewN nq).cell? ⟨d8,c*2+1,none⟩=some (.int .i64 d):=R;generalize wr.drewN nq=h at *;have b4:ZH0 (fh (h.alloc (Obj.cells #[.bool true,.int .i64 d] 246)) w.heap.size (.slice s e t) b):=f.o.kept ((Xs _ _).alloc (E _) _);have Y:ZH0 (Kept w (h.alloc (Obj.cells #[.bool true,.int .i64 d] 246))):=g.o.trans ((Xs _ _).alloc (E _) _);have b5:ZH0 (∀(C:Nat) (N:Value),[Value.bool true,.int .i64 d][C]? = some N->(h.alloc (Obj.cells #[.bool true,.int .i64 d] 246)).cell? (Addr.add ⟨h.heap.size,0,none⟩ C)=some N):=by
       intro C N f1;have a:(Addr.add ⟨h.heap.size,0,none⟩ C)=⟨h.heap.size,C,none⟩:=by unfold Addr.add;split<;>simp_all
       rw[a];refine(Xr _ _ _ _ rfl).trans ?_
       simpa using f1
      have b6:ZH0 _:=Y.o.size;have b7:ZH0 ((h.alloc (Obj.cells #[.bool true,.int .i64 d] 246)).ownsRow w.heap.size 246 2 (.slice s e t) e (itV b)):=by have:=b4.o;unfold fh at this;rw[<-Q.o] at this;exact this
      clear b4;go_wp2_with (at_builtin;refine bG _ 228 228 246 2 16 (.agg #[.bool false,.int .i64 0]) underlying228 vh rfl O rfl _ _ rfl w.heap.size (.slice s e t) e (itV b) rfl b7.o ⟨h.heap.size,0,none⟩ 1 1 [.bool true,.int .i64 d] rfl rfl O b5.o (by intro N b8;simp at b8;rcases b8 with rfl|rfl<;>rfl) Xn O b6.o ?_ rfl)
      intro j1 D a0 b9 f2;obtain⟨f3,f4,rfl⟩:=aW a0;have f5:ZH0 (fh D w.heap.size (.slice f3 (e+1) f4) (b++[(true,d)])):=by
       show D.ownsRow w.heap.size _ 2 _ (b++[(true,d)]).length (itV (b++[(true,d)]))
       rw[lK,Xv,<-Q.o];exact a0
      have f6:ZH0 (Kept w D):=Y.o.grown b9 b6.o a5.o;clear a0 b9 f2 b7 b5 Y f g;go_wp2;have X:=G.o;exact⟨⟨c+1,a,b++[(true,d)],O,c5.o,bU (by rw[T.o]),Xj,f5.o,f6.o,by rw[Xv,X];simp;omega,by rw[<-y.o,d9.o,AH d _ _ (λj2 c0=>by rw[c6.o] at c0;simp at c0;omega),XY];rfl⟩,Xb⟩
    .have e1:¬(m:Int)<(j:Int):=O
     clear S z L i F l g4;go_wp2_with fail;go_quiet (fail);replace f:ZH0 (fh (wr.drewN nq) w.heap.size (.slice s e t) b):=f.o.kept ((Kept.refl _).drewN nq);replace g:ZH0 (Kept w (wr.drewN nq)):=g.o.drewN nq;replace R:(wr.drewN nq).cell? ⟨d8,c*2+1,none⟩=some (.int .i64 d):=R;generalize wr.drewN nq=h at *;have b4:ZH0 (fh (h.alloc (Obj.cells #[.bool true,.int .i64 d] 246)) w.heap.size (.slice s e t) b):=f.o.kept ((Xs _ _).alloc (E _) _);have Y:ZH0 (Kept w (h.alloc (Obj.cells #[.bool true,.int .i64 d] 246))):=g.o.trans ((Xs _ _).alloc (E _) _);have b5:ZH0 (∀(C:Nat) (N:Value),[Value.bool true,.int .i64 d][C]? = some N->(h.alloc (Obj.cells #[.bool true,.int .i64 d] 246)).cell? (Addr.add ⟨h.heap.size,0,none⟩ C)=some N):=by
      intro C N f1;have a:(Addr.add ⟨h.heap.size,0,none⟩ C)=⟨h.heap.size,C,none⟩:=by unfold Addr.add;split<;>simp_all
      rw[a];refine(Xr _ _ _ _ rfl).trans ?_
      simpa using f1
     have b6:ZH0 _:=Y.o.size;have b7:ZH0 ((h.alloc (Obj.cells #[.bool true,.int .i64 d] 246)).ownsRow w.heap.size 246 2 (.slice s e t) e (itV b)):=by have:=b4.o;unfold fh at this;rw[<-Q.o] at this;exact this
     clear b4;go_wp2_with (at_builtin;refine bG _ 228 228 246 2 16 (.agg #[.bool false,.int .i64 0]) underlying228 vh rfl O rfl _ _ rfl w.heap.size (.slice s e t) e (itV b) rfl b7.o ⟨h.heap.size,0,none⟩ 1 1 [.bool true,.int .i64 d] rfl rfl O b5.o (by intro N b8;simp at b8;rcases b8 with rfl|rfl<;>rfl) Xn O b6.o ?_ rfl)
     intro j1 D a0 b9 f2;obtain⟨f3,f4,rfl⟩:=aW a0;have f5:ZH0 (fh D w.heap.size (.slice f3 (e+1) f4) (b++[(true,d)])):=by
       show D.ownsRow w.heap.size _ 2 _ (b++[(true,d)]).length (itV (b++[(true,d)]))
       rw[lK,Xv,<-Q.o];exact a0
     have f6:ZH0 (Kept w D):=Y.o.grown b9 b6.o a5.o;clear a0 b9 f2 b7 b5 Y f g;go_wp2;have X:=G.o;exact⟨⟨c+1,a,b++[(true,d)],O,c5.o,bU (by rw[T.o]),Xj,f5.o,f6.o,by rw[Xv,X];simp;omega,by rw[<-y.o,d9.o,AH d _ _ (λj2 c0=>by rw[d2.o a (by have:=T.o;omega)] at c0;simp at c0),XY];rfl⟩,Xb⟩
  .have h5:¬(c:Int)<(H:Int):=O
   clear d4 g2;have j3:c=H:=O;subst j3;go_wp2;go_loopw [5,6] (λa4 I k=>∃(a:Nat) (b:List (Bool×Nat)),2*a<=j/\I=.int .i64 ((2*a+1:Nat):Int)/\fh k w.heap.size a4 b/\Kept w k/\b.length=c+a/\b++mg (q.drop c) (u.drop a)=mg q u) (λ_ I _=>j-(intOf I).toNat)
   case atStart=>exact⟨a,b,i,rfl,f.o,g.o,G.o,y.o⟩
   case round=>
    clear f g i l G y;obtain⟨a,b,i,rfl,v,l,F,P⟩:=hrel;have y:ZH0 _:=P;clear P;obtain⟨s,t,rfl⟩:=v.slice;have f:=U v;have g:ZH0 (Kept w wr):=l;clear v;obtain⟨m,z⟩:∃m,m=2*a+1:=⟨_,rfl⟩;obtain⟨n,S⟩:∃n,n=2*a:=⟨_,rfl⟩;rw[<-z];have T:ZH0 _:=z;obtain⟨e,L⟩:∃e,e=b.length:=⟨_,rfl⟩;rw[<-L] at f ⊢;have Q:ZH0 _:=L;have G:ZH0 _:=F;have e0:e+1<=100000000:=O;have c5:ZH0 _:=i;have a5:ZH0 _:=f.o.ge;by_cases h8:m<j
    .have e1:(m:Int)<(j:Int):=O
     obtain⟨e2,e3,V,W,e4,e5,M⟩:=c8.o a O;rw[<-S] at V;rw[<-z] at W;obtain⟨e6,rfl,a6⟩:=(a1.o wr l).two V;obtain⟨h9,A,a7⟩:=(a1.o wr l).two W
     injection A with A
     injection A with a2 _ _
     subst a2;obtain⟨o,a8⟩:∃o:Nat,o=e2.2:=⟨_,rfl⟩;obtain⟨p,a9⟩:∃p:Nat,p=e3.2:=⟨_,rfl⟩;rw[<-a8] at a6 e4 M;rw[<-a9] at a7 e5 M;have c6:ZH0 _:=M;have i0:IntKind.i64.wrap ((o:Int)+(p:Int))=((o+p:Nat):Int):=Xd;clear a8 a9 M V W;have i1:(m:Int)-1=(n:Int):=O;have i2:(n:Int)<(j:Int):=O;have i3:(0:Int)<=(n:Int):=O;have i4:(0:Int)<=(m:Int):=O;have i6:IntKind.i64.wrap (n:Int)=(n:Int):=Xd;have b0:ZH0 (∀(b:TypeId) (Z:Int),(wr.alloc (Obj.cells #[.bool false,.int .i64 Z] b)).cell? ⟨wr.heap.size,0,none⟩=some (.bool false)):=λb Z=>(Xr _ _ _ _ rfl).trans rfl
     have b1:ZH0 (∀(b:TypeId) (Z:Int),(wr.alloc (Obj.cells #[.bool false,.int .i64 Z] b)).cell? ⟨wr.heap.size,1,none⟩=some (.int .i64 Z)):=λb Z=>(Xr _ _ _ _ rfl).trans rfl
     have i7:=g.o.size;clear l S z L i F;go_upto_region 11 with fail
     go_region_law ((refine EH (by rfl) _ _ (by rfl) w.heap.size (.slice s e t) e b Q.o (by rfl) (by exact f.o.kept (Kept.drewN ((Xs _ _).alloc (E _) _) 1)) wr.heap.size 1 false (o+p) (by rfl) (by exact b0.o _ _) (by exact b1.o _ _) e0 Xf ?_;intro i8 i9 e7 b2 b3))
     all_goals
      have e8:ZH0 (Kept w e7):=Fr.to_kept (g.o.trans (Kept.drewN ((Xs _ _).alloc (E _) _) 1)) b3 (λA j0 e9=>by have:=a5.o A e9;omega);have f0:=U b2;clear b3 b2 b0 b1 f g a1;go_wp2;have a2:=T.o;have X:=G.o;exact⟨⟨a+1,b++[(false,o+p)],O,Xj,f0.o,e8.o,by rw[Xv,X];simp;omega,by rw[<-y.o,d3.o,c6.o,Dp,XY];rfl⟩,Xb⟩
    .have e1:¬(m:Int)<(j:Int):=O
     clear S z L i F l;go_wp2;go_ret;have a2:=Q.o;have j6:=c5.o;have g7:=y.o;rw[d3.o,d2.o a (by have:=T.o;omega),Hu,XN] at g7;rw[<-g7];exact⟨⟨_,rfl,f.o⟩,g.o⟩
end Go.Proofs.YtbedkdnphobmlaaGreatDoor
namespace Px
theorem wX f l ls(g:∀c a,a∈f c->a.2∈ls\/a.2∈c):∀c a,a∈mgL f l ls c->a.2∈l::ls\/a.2∈c
 | [],a,b=>by
  unfold mgL at b;obtain⟨j,i,rfl⟩:=YP.1 b;exact L i
 | p::c,a,b=>by
  unfold mgL at b;by_cases h:p<l
  .rw[I h] at b
   rcases Y4.1 b with d|d
   .exact R (by rw[d];exact List.mem_cons_self)
   .rcases wX f l ls g c a d with e|e
    .exact L e
    .exact R (List.mem_cons_of_mem _ e)
  .rw[N h] at b
   rcases Y4.1 b with d|d
   .exact L (by rw[d];exact List.mem_cons_self)
   .rcases g _ a d with e|e
    .exact L (List.mem_cons_of_mem _ e)
    .exact R e
theorem uW:∀b c a,a∈mg b c->a.2∈b\/a.2∈c
 | [],c,a,d=>by
  obtain⟨f,e,rfl⟩:=YP.1 (show a∈c.map (λa=>(false,a)) from d);exact R e
 | l::b,c,a,d=>wX (mg b) l b (uW b) c a d
theorem wG:∀(r:List (Bool×Nat)) (b:Nat),b∈prs r->∃x a,x∈r/\a∈r/\b=x.2+a.2
 | [],b,c=>by simp[prs] at c
 | [_],b,c=>by simp[prs] at c
 | x::a::r,b,c=>by
  rcases Y4.1 (show b∈(x.2+a.2)::prs r from c) with d|d
  .exact⟨x,a,List.mem_cons_self,List.mem_cons_of_mem _ List.mem_cons_self,d⟩
  .obtain⟨e,f,g,h,i⟩:=wG r b d
   exact⟨e,f,List.mem_cons_of_mem _ (List.mem_cons_of_mem _ g),List.mem_cons_of_mem _ (List.mem_cons_of_mem _ h),i⟩
theorem uG ls B(b:∀a∈ls,a<=B):∀j,∀a∈rwN ls j,a.2<=B*2^j
 | 0,a,c=>by
  rcases uW ls [] a c with q|q
  .simpa using b _ q
  .simp at q
 | j+1,a,c=>by
  rcases uW ls (prs (rwN ls j)) a c with q|q
  .exact Xz (b _ q) (Nat.le_mul_of_pos_right _ (Nat.two_pow_pos _))
  .obtain⟨d,e,f,g,h⟩:=wG _ _ q
   have i:=uG ls B b j d f;have k:=uG ls B b j e g;rw[Ya,<-Y3];omega
theorem z6 ls j:(rwN ls j).length<=2*ls.length:=by
 obtain⟨a,b,_⟩:=qk ls j;omega
def rwA(ls:List Nat):Nat->List (Bool×Nat)
 | 0=>[]
 | j+1=>rwN ls j
theorem Hj ls:∀i,mg ls (prs (rwA ls i))=rwN ls i
 | 0=>rfl
 | i+1=>rfl
end Px
namespace Go.Proofs.YtbedkdnphobmlaaGreatDoor
open Go.RowKit Px Tryz
def XOk(W:World)(N:Nat)(v:Value)(r:List (Bool×Nat))(u:Value):Prop:=ItX W u r/\∀g,u.ownBlock=some g->N<=g/\g<W.heap.size/\v.ownBlock≠some g
def XL(W:World)(N:Nat)(v:Value)(lo:List Nat)(xs:List Value):Prop:=∀(k:Nat) (u:Value),xs[k]? = some u->XOk W N v (rwN lo k) u
theorem XOk.go{S:Nat->Prop}{W W' N v v' u r}(h:XOk W N v r u)(k:Fr S W W')(g:∀a,S a->a<W.heap.size->a<N\/v.ownBlock=some a)(i:∀a,v'.ownBlock=some a->v.ownBlock=some a\/W.heap.size<=a):XOk W' N v' r u:=by
 obtain⟨j,d⟩:=h;refine⟨j.frS k (λa c l => ?_),λa c=>⟨(d a c).1,Xq (d a c).2.1 k.size,λb => ?_⟩⟩
 .obtain⟨m,f,e⟩:=d a c
  rcases g a l f with b|b
  .omega
  .exact e b
 .obtain⟨m,f,e⟩:=d a c
  rcases i a b with b|b
  .exact e b
  .omega
theorem XL.go{S:Nat->Prop}{W W' N v v' lo xs}(h:XL W N v lo xs)(k:Fr S W W')(b:∀a,S a->a<W.heap.size->a<N\/v.ownBlock=some a)(c:∀a,v'.ownBlock=some a->v.ownBlock=some a\/W.heap.size<=a):XL W' N v' lo xs:=
 λd e f=>(h d e f).go k b c
theorem XL.snoc{W N v u lo xs}(h:XL W N v lo xs)(c:XOk W N v (rwN lo xs.length) u):XL W N v lo (xs++[u]):=by
 intro b d a;by_cases e:b<xs.length
 .rw[XV e] at a;exact h b d a
 .rw[XP O] at a
  match f:b-xs.length,a with
  | 0,a=>
   simp at a;subst a
   have:b=xs.length:=O
   rw[this];exact c
  | j+1,a=>simp at a
structure zw (W:World) (N:Nat) (v:Value) (q:Nat) (lo:List Nat):Prop where
 form:∃p c,v=.slice p q c
 cells:∀i,i<q->∃(g c:Nat) (u:Value),v=.slice (some ⟨g,0,none⟩) q c/\N<=g/\W.cell? ⟨g,i,none⟩=some u/\ItX W u (rwN lo i)/\∀g',u.ownBlock=some g'->N<=g'
theorem zw.frS{S:Nat->Prop}{w W N v q lo}(h:zw w N v q lo)(k:Fr S w W)(c:∀a,S a->a<N):zw W N v q lo:=by
 refine⟨h.form,λg i => ?_⟩;obtain⟨a,j,l,m,n,d,o,e⟩:=h.cells g i;exact⟨a,j,l,m,n,(k.cell (B _ _ d) (λb=>by have:=c a b;omega)).trans d,o.frS k (λf p b=>by have:=c f b;have:=e f p;omega),e⟩
theorem XL.at{W N v q lo xs}(h:XL W N v lo xs)(o:W.ownsRow N 228 1 v q xs):zw W N v q lo:=by
 obtain⟨f,g,i⟩:=aW o;refine⟨⟨f,g,i⟩,λa s => ?_⟩;have t:=o.1;rcases o.2 with⟨_,u⟩|⟨b,j,w,c,x⟩
 .omega
 .have k:∀d,(Addr.add ⟨b,0,none⟩ d)=⟨b,d,none⟩:=λd=>by unfold Addr.add;split<;>simp_all
  have e:a<xs.length:=O;have l:W.cell? ⟨b,a,none⟩=some xs[a]:=by
   have:=o.cells (by rw[c];rfl) a xs[a] (Xt e)
   rw[k] at this;exact this
  obtain⟨m,n⟩:=h a _ (Xt e);exact⟨b,j,xs[a],c,(o.lt b (by rw[c];rfl)).1,l,m,λp r=>(n p r).1⟩
def K9(w:World)(q:Nat)(lo:List Nat)(r:Ending)(w':World):Prop:=∃lv,r=.returned lv/\zw w' w.heap.size lv q lo
theorem z7 lv ls(M B:Nat)w(X:LfX w lv ls)(b6:ls.length<=1024)(d5:M<=15)(d6:B<=35184372088832)(C:∀x∈ls,x.2<=B):Calls prog 176 #[lv,.int .i64 M] w λY l=>K9 w M (ls.map (λx=>x.2)) Y l/\Kept w l:=by
 obtain⟨b,n⟩:∃b,b=ls.map (λx=>x.2):=⟨_,rfl⟩;have b7:Z (∀(g:World) (a:Nat) (u:Value),a<15->Kept w g->ItX g u (rwA b a)->Calls prog 192 #[lv,u] g λc l=>NxX g (rwN b a) c l/\Kept g l):=λg a u o D F=>by
  have b8:∀x∈b,x<=B:=λx e=>by
   rw[n] at e;obtain⟨b9,c0,rfl⟩:=YP.1 e;exact C b9 c0
  have c1:∀x∈rwA b a,x.2<=B*16384:=λx e=>by
   match a,o,e with
   | 0,_,e=>exact absurd e (by simp[rwA])
   | d+1,o,e=>
    exact Xz (uG b B b8 d x e) (Nat.mul_le_mul_left _ (Xz (XH O (show d<=14 from O)) Xh))
  have c2:(rwA b a).length<=4096:=by
   match a with
   | 0=>simp[rwA]
   | d+1=>
    have:=z6 b d
    have c:b.length=ls.length:=by rw[n];simp
    show(rwN b d).length<=4096
    omega
  have:=yG lv u ls (rwA b a) (B*16384) g (X.kept D) F b6 c2 O (λx e=>Xz (C x e) (Nat.le_mul_of_pos_right _ O)) c1
  rw[<-n,Hj] at this;exact this
 rw[<-n];clear X C n;go_enter func176,ntmps176;go_wp2;go_loopw [5,6,7] (λG c3 H g=>∃(a:Nat) (p:List Value),a<=M/\H=.int .i64 a/\XOk g w.heap.size G (rwA b a) c3/\g.ownsRow w.heap.size 228 1 G a p/\XL g w.heap.size G b p/\Kept w g) (λ_ _ H _=>15-(intOf H).toNat)
 case atStart=>exact⟨0,[],O,rfl,⟨⟨⟨none,0,rfl⟩,λa x o=>by simp[rwA] at o⟩,λf c=>by cases c⟩,XR _ _ _ _,λD q F=>by simp at F,Kept.refl _⟩
 case round=>
  obtain⟨a,p,o,rfl,c4,I,e,a0⟩:=hrel;obtain⟨v,y,rfl⟩:=aW I;obtain⟨z,a1⟩:=c4;obtain⟨d7,d8,rfl⟩:=z.form;obtain⟨a2,a3⟩:∃a2,a2=(rwA b a).length:=⟨_,rfl⟩;rw[<-a3] at z a1 ⊢;have r:=U I;have J:=U e;have m:Z (Kept w wr):=a0;have c5:Z _:=z;clear I e a0 z a1 a3;by_cases d9:a<M
  .have c6:(a:Int)<(M:Int):=O
   by_cases c7:a<15
   .have e0:(a:Int)<15:=O
    go_wp2_with fail;refine(b7.o wr a _ c7 m.o c5.o).mono ?_;rintro Y h ⟨⟨e1,rfl,s⟩,a4⟩;obtain⟨j,k,rfl⟩:=s.slice;obtain⟨i,a5⟩:∃i,i=(rwN b a).length:=⟨_,rfl⟩;rw[<-a5] at s ⊢;clear a5;have A:Kept h (h.alloc (Obj.cells #[.slice j i k] 228)):=(Xs _ _).alloc (E _) _;have t:Z (Kept wr (h.alloc (Obj.cells #[.slice j i k] 228))):=a4.trans A;have K:=U (bZ r.o t.o);have a6:Z (∀(d:Nat) (q:Value),[Value.slice j i k][d]? = some q->(h.alloc (Obj.cells #[.slice j i k] 228)).cell? (Addr.add ⟨h.heap.size,0,none⟩ d)=some q):=by
     intro d q N;have c:(Addr.add ⟨h.heap.size,0,none⟩ d)=⟨h.heap.size,d,none⟩:=by unfold Addr.add;split<;>simp_all
     rw[c];refine(Xr _ _ _ _ rfl).trans ?_
     simpa using N
    have P:Z _:=(m.o.trans t.o).size;have a7:Z (XOk (h.alloc (Obj.cells #[.slice j i k] 228)) w.heap.size (.slice v a y) (rwN b a) (.slice j i k)):=by
     refine⟨s.at.kept A,λf c => ?_⟩;have a8:h.ownsRow wr.heap.size _ 2 (.slice j i k) _ _:=s;have e2:=(a8.lt f c).1;have e3:=(a8.lt f c).2;have e4:=m.o.size;have e5:=A.size;exact⟨O,O,λc8=>by have:=(r.o.lt f c8).2;omega⟩
    have a9:=U (J.o.go (S:=λ_=>False) (Fr.of_kept t.o) (λ_ c9 _=>c9.elim) (λf c=>L c));have b0:Z (∀d,(Value.slice v a y).ownBlock=some d->w.heap.size<=d):=λd N=>(r.o.lt d N).1
    have b1:Z (Kept w (h.alloc (Obj.cells #[.slice j i k] 228))):=m.o.trans t.o;clear a4 s A t r J m;go_wp2_with (at_builtin;refine bG _ 225 225 228 1 24 (.slice none 0 0) underlying225 HZ rfl O rfl _ _ rfl w.heap.size (.slice v a y) a p rfl K.o ⟨h.heap.size,0,none⟩ 1 1 [.slice j i k] rfl rfl O a6.o (by intro q b2;simp at b2;rcases b2 with rfl;rfl) Xn O P.o ?_ rfl)
    intro e6 l Q T b3;have V:=(Fr.refl _ _).grown T (λD c=>L c);obtain⟨d0,d1,rfl⟩:=aW Q;have b4:Z (∀f,(Value.slice d0 (a+1) d1).ownBlock=some f->(Value.slice v a y).ownBlock=some f\/(h.alloc (Obj.cells #[.slice j i k] 228)).heap.size<=f):=λf c=>by have:=b3 f c;simpa using this
    have d2:=U Q;have b5:=U (a7.o.go V (λf W _=>R W) b4.o);have d3:=U ((a9.o.go V (λf W _=>R W) b4.o).snoc (by have:=K.o.1;rw[show p.length=a from O];exact b5.o));have d4:Z (Kept w l):=b1.o.grown T P.o b0.o;clear Q T b3 V K a6 P a7 a9 b0 b1;go_wp2;exact⟨⟨a+1,_,O,Xj,b5.o,d2.o,d3.o,d4.o⟩,Xb⟩
   .omega
  .have c6:¬(a:Int)<(M:Int):=O
   have c:a=M:=O;subst c;go_wp2;go_ret;exact⟨⟨_,rfl,J.o.at r.o⟩,m.o⟩
end Go.Proofs.YtbedkdnphobmlaaGreatDoor
namespace Px
theorem xU:∀c:List Nat,Asc c↔c.Pairwise (λa b=>a<=b)
 | []=>⟨λ_=>List.Pairwise.nil,λ_=>trivial⟩
 | x::c=>by
  rw[List.pairwise_cons,<-xU c];exact Iff.rfl
structure Srt (f:Nat->Int) (k:Nat) (ls:List (Nat×Nat)):Prop where
 asc:ls.Pairwise (λa b=>a.2<=b.2)
 nod:ls.Pairwise (λa b=>a.1≠b.1)
 mem:∀s o,(s,o)∈ls↔s<k/\1<=f s/\f s=(o:Int)
theorem Srt.nil f:Srt f 0 []:=⟨List.Pairwise.nil,List.Pairwise.nil,λa b=>Xi⟩
theorem Srt.skip{f k ls}(h:Srt f k ls)(g:f k<1):Srt f (k+1) ls:=by
 refine⟨h.asc,h.nod,λc i => ?_⟩;rw[h.mem]
 constructor
 .rintro⟨d,a,b⟩;exact⟨O,a,b⟩
 .rintro⟨d,a,b⟩
  refine⟨?_,a,b⟩;by_cases e:c=k
  .subst e;omega
  .omega
theorem ng{A:List (Nat×Nat)}{d}(h:A.length=d+1):∃a c,A=a++[c]/\a.length=d:=by
 have b:A≠[]:=by intro e;subst e;simp at h
 exact⟨A.dropLast,A.getLast b,(List.dropLast_concat_getLast b).symm,by simp[h]⟩
def Bub(ls:List (Nat×Nat))(x:Nat×Nat)(i:Nat)(cur:List (Nat×Nat)):Prop:=∃A B,cur=A++x::B/\A.length=i/\A++B=ls/\∀y∈B,x.2<y.2
theorem Bub.start ls x:Bub ls x ls.length (ls++[x]):=⟨ls,[],rfl,rfl,XN _,λb a=>by simp at a⟩
theorem Bub.len{ls cur x i}(h:Bub ls x i cur):cur.length=ls.length+1/\i<=ls.length:=by
 obtain⟨a,b,rfl,rfl,rfl,_⟩:=h;simp;omega
theorem Bub.here{ls cur x i}(h:Bub ls x i cur):cur[i]? = some x:=by
 obtain⟨a,b,rfl,rfl,rfl,_⟩:=h;rw[XP (E _),YC];rfl
theorem Bub.down{ls cur x y d}(h:Bub ls x (d+1) cur)(a:cur[d]? = some y)(e:x.2<y.2):Bub ls x d ((cur.set (d+1) y).set d x):=by
 obtain⟨o,f,rfl,g,i,j⟩:=h;obtain⟨k,l,rfl,b⟩:=ng g;rw[XV Xf,XP O,b,YC] at a;simp at a;subst a;refine⟨k,l::f,?_,b,by rw[<-i];simp,λm n => ?_⟩
 .subst b
  simp
 .rcases Y4.1 n with c|c
  .rw[c];exact e
  .exact j m c
theorem Bub.fin{f k o i ls cur}(h:Bub ls (k,o) i cur)(n:Srt f k ls)(x:f k=(o:Int))(B:1<=f k)(C:i=0\/∃d t,i=d+1/\cur[d]? = some t/\t.2<=o):Srt f (k+1) cur:=by
 obtain⟨u,y,rfl,p,v,D⟩:=h;have l:=n.asc;have m:=n.nod;rw[<-v] at l m;rw[List.pairwise_append] at l m;have E:∀b∈u,b.2<=o:=by
  rcases C with a|⟨d,t,a,w,F⟩
  .rw[a] at p
   rw[YX p];simp
  .rw[a] at p
   obtain⟨M,G,rfl,H⟩:=ng p;rw[XV Xf,XP O,H,YC] at w;simp at w;subst w;intro b g;rcases XW.1 g with e|e
   .have N:=(List.pairwise_append.1 l.1).2.2 b e G Xi
    omega
   .simp at e
    rw[e];exact F
 have z:∀q∈u++y,q.1<k:=λq A=>by
  rw[v] at A;exact((n.mem q.1 q.2).1 (by simpa using A)).1
 refine⟨?_,?_,λr e => ?_⟩
 .rw[List.pairwise_append,List.pairwise_cons]
  refine⟨l.1,⟨λc j=>Yx (D c j),l.2.1⟩,λb g c j => ?_⟩;rcases Y4.1 j with a|a
  .rw[a];exact E b g
  .exact l.2.2 b g c a
 .rw[List.pairwise_append,List.pairwise_cons]
  refine⟨m.1,⟨λc j => ?_,m.2.1⟩,λb g c j => ?_⟩
  .have:=z c (List.mem_append_right _ j)
   show k≠c.1
   omega
  .rcases Y4.1 j with a|a
   .have:=z b (List.mem_append_left _ g)
    rw[a];show b.1≠k
    omega
   .exact m.2.2 b g c a
 .have I:(r,e)∈u++(k,o)::y↔(r,e)=(k,o)\/(r,e)∈ls:=by
   rw[<-v];simp only[XW,Y4]
   constructor
   .rintro(h|h|h)
    .exact R (L h)
    .exact L h
    .exact R (R h)
   .rintro(h|h|h)
    .exact R (L h)
    .exact L h
    .exact R (R h)
  rw[I,n.mem]
  constructor
  .rintro(h|⟨b,c,s⟩)
   .injection h with J K
    subst J;subst K;exact⟨O,B,x⟩
   .exact⟨O,c,s⟩
  .rintro⟨b,c,s⟩
   by_cases a:r=k
   .subst a
    left
    rw[x] at s
    have:e=o:=O
    rw[this]
   .exact R ⟨O,c,s⟩
end Px
namespace Go.Proofs.YtbedkdnphobmlaaGreatDoor
open Go.RowKit Px Tryz
def lfV:List (Nat×Nat)->List Value
 | []=>[]
 | x::r => .int .i64 (x.1:Int) :: .int .i64 (x.2:Int)::lfV r
theorem xe:∀a b,lfV (a++b)=lfV a++lfV b
 | [],b=>rfl
 | x::a,b=>by show _::_::lfV (a++b)=_;rw[xe a b];rfl
theorem qG:∀(r:List (Nat×Nat)) (i:Nat) (x:Nat×Nat),r[i]? = some x->(lfV r)[i*2]? = some (.int .i64 (x.1:Int))/\(lfV r)[i*2+1]? = some (.int .i64 (x.2:Int))
 | [],i,x,a=>by simp at a
 | y::r,0,x,a=>by simp at a;subst a;exact⟨rfl,rfl⟩
 | y::r,i+1,x,a=>by
  have:=qG r i x (by simpa using a)
  rw[show(i+1)*2=i*2+1+1 from O];exact⟨by simpa[lfV] using this.1,by simpa[lfV] using this.2⟩
theorem xd:∀(r:List (Nat×Nat)) (j:Nat) (x:Nat×Nat),lfV (r.set j x)=((lfV r).set (j*2) (.int .i64 (x.1:Int))).set (j*2+1) (.int .i64 (x.2:Int))
 | [],j,x=>by simp[lfV]
 | y::r,0,x=>rfl
 | y::r,j+1,x=>by
  rw[show(j+1)*2=j*2+1+1 from O];show _::_::lfV (r.set j x)=_
  rw[xd r j x];simp[lfV]
def ef(W:World)(N:Nat)(v:Value)(ls:List (Nat×Nat)):Prop:=W.ownsRow N 224 2 v ls.length (lfV ls)
theorem ef.kept{w W N v ls}(h:ef w N v ls)(k:Kept w W):ef W N v ls:=bZ h k
theorem ef.slice{W N v ls}(h:ef W N v ls):∃a b,v=.slice a ls.length b:=aW h
theorem ef.lt{W N v ls}(h:ef W N v ls):∀a,v.ownBlock=some a->N<=a/\a<W.heap.size:=λa b=>World.ownsRow.lt h a b
theorem ef.at{W N v r}(o:ef W N v r):LfX W v r:=by
 obtain⟨i,j,k⟩:=aW o;refine⟨⟨i,j,k⟩,λe f d => ?_⟩;have p:=(Yb.1 d).1;rcases o.2 with⟨_,q⟩|⟨b,l,s,g,t⟩
 .omega
 .have m:∀a,(Addr.add ⟨b,0,none⟩ a)=⟨b,a,none⟩:=λa=>by unfold Addr.add;split<;>simp_all
  have h:∀a c,(lfV r)[a]? = some c->W.cell? ⟨b,a,none⟩=some c:=λa c n=>by
   have:=World.ownsRow.cells o (by rw[g];rfl) a c n
   rw[m] at this;exact this
  exact⟨b,l,g,h _ _ (qG r e f d).1,h _ _ (qG r e f d).2⟩
theorem ef.put{W N g n c j x ls}(h:ef W N (.slice (some ⟨g,0,none⟩) n c) ls):ef ((W.setCell ⟨g,j*2,none⟩ (.int .i64 (x.1:Int))).setCell ⟨g,j*2+1,none⟩ (.int .i64 (x.2:Int))) N (.slice (some ⟨g,0,none⟩) n c) (ls.set j x):=by
 have a:n=ls.length:=by
  obtain⟨e,f,b⟩:=aW h
  injection b
 subst a;have d:=(World.ownsRow.stored h (j*2) (.int .i64 (x.1:Int))).1;show World.ownsRow _ N _ 2 _ (ls.set j x).length (lfV (ls.set j x))
 rw[xd,List.length_set];exact((d.stored (j*2+1) (.int .i64 (x.2:Int))).1)
theorem ef.fz{W N g n c ls}(h:ef W N (.slice (some ⟨g,0,none⟩) n c) ls)j:W.frozen? ⟨g,j,none⟩=false:=by
 have a:n=ls.length:=by
  obtain⟨d,e,b⟩:=aW h
  injection b
 subst a;exact World.ownsRow.frozenAt h j
theorem ef.cell{W N g n c i x ls}(h:ef W N (.slice (some ⟨g,0,none⟩) n c) ls)(e:ls[i]? = some x):W.cell? ⟨g,i*2,none⟩=some (.int .i64 (x.1:Int))/\W.cell? ⟨g,i*2+1,none⟩=some (.int .i64 (x.2:Int)):=by
 obtain⟨f,k,a,b,d⟩:=h.at.cells i x e;have j:g=f:=by injection a with a _ _;injection a with a;injection a with a _ _
 rw[<-j] at b d;exact⟨b,d⟩
def Jg(w:World)(f:Nat->Int)(n:Nat)(r:Ending)(w':World):Prop:=∃lv ls,r=.returned lv/\ef w' w.heap.size lv ls/\Srt f n ls/\ls.length<=n
theorem zV ov l w(W:LAt w .i64 ov l)(f3:l.length<=1024):Calls prog 175 #[ov] w λd1 u=>Jg w (λs=>l.getD s 0) l.length d1 u/\Kept w u:=by
 obtain⟨o,X⟩:∃o:Nat->Int,o=λs=>l.getD s 0:=⟨_,rfl⟩
 have d2:Z (∀a,l.getD a 0=o a):=λa=>by rw[X]
 rw[<-X];clear X;obtain⟨d3,d4,rfl⟩:=W.form;have d5:Z (∀n,Kept w n->LAt n .i64 (.slice d3 l.length d4) l):=λn a=>W.kept a
 clear W;go_enter func175,ntmps175;go_wp2;go_loopw [3,4,5,6] (λd6 Y _ _ n=>∃(a:Nat) (f:List (Nat×Nat)),a<=l.length/\f.length<=a/\Y=.int .i64 a/\ef n w.heap.size d6 f/\Srt o a f/\Kept w n) (λ_ Y _ _ _=>l.length-(intOf Y).toNat)
 case atStart=>exact⟨0,[],O,E _,rfl,XR _ _ _ _,Srt.nil o,Kept.refl _⟩
 case round=>
  obtain⟨a,f,f4,d7,rfl,K,b8,v⟩:=hrel;obtain⟨b9,c0,rfl⟩:=K.slice;obtain⟨g,M⟩:∃g,g=f.length:=⟨_,rfl⟩;rw[<-M] at K d7 ⊢;have q:Z _:=M;have z:Z (wr.ownsRow w.heap.size 224 2 (.slice b9 g c0) g (lfV f)):=by
   have:=K
   unfold ef at this;rw[<-M] at this;exact this
  have N:Z _:=b8;have P:Z (Kept w wr):=v;clear K b8 M;by_cases d8:a<l.length
  .have d9:(a:Int)<(l.length:Int):=O
   have f5:(0:Int)<=(a:Int):=O;obtain⟨f6,f7,rfl,a0⟩:=(d5.o wr v).cellAt a d8;clear v;rw[d2.o a] at a0;obtain⟨A,a1⟩:∃A,A=o a:=⟨_,rfl⟩;rw[<-a1] at a0;have a2:Z _:=a1;clear a1;by_cases e0:A<1
   .go_wp2
    exact⟨⟨a+1,f,O,by rw[<-q.o];omega,Xj,(by have:=z.o;unfold ef;rw[<-q.o];exact this),N.o.skip (by rw[<-a2.o];exact e0),P.o⟩,Xb⟩
   .obtain⟨d,rfl⟩:∃d:Nat,A=(d:Int):=⟨A.toNat,O⟩
    have a3:Z (Kept w (wr.alloc (Obj.cells #[.int .i64 a,.int .i64 d] 224))):=P.o.trans ((Xs _ _).alloc (E _) _);have c1:Z (∀(b:Nat) (Q:Value),[Value.int .i64 a,.int .i64 d][b]? = some Q->(wr.alloc (Obj.cells #[.int .i64 a,.int .i64 d] 224)).cell? (Addr.add ⟨wr.heap.size,0,none⟩ b)=some Q):=by
     intro b Q a4;have e1:(Addr.add ⟨wr.heap.size,0,none⟩ b)=⟨wr.heap.size,b,none⟩:=by unfold Addr.add;split<;>simp_all
     rw[e1];refine(Xr _ _ _ _ rfl).trans ?_
     simpa using a4
    have a5:Z _:=a3.o.size;go_wp2_with (at_builtin;refine bG _ 221 221 224 2 16 (.agg #[.int .i64 0,.int .i64 0]) underlying221 H0 rfl O rfl _ _ rfl w.heap.size (.slice b9 g c0) g (lfV f) rfl (bZ z.o ((Xs _ _).alloc (E _) _)) ⟨wr.heap.size,0,none⟩ 1 1 [.int .i64 a,.int .i64 d] rfl rfl O c1.o (by intro Q c2;simp at c2;rcases c2 with rfl|rfl<;>rfl) Xn O a5.o ?_ rfl)
    intro f8 u a6 c3 e2;obtain⟨c,r,rfl,_,_⟩:=a6.form O;have e3:Z (ef u w.heap.size (.slice (some ⟨c,0,none⟩) (g+1) r) (f++[(a,d)])):=by
     show u.ownsRow w.heap.size _ 2 _ (f++[(a,d)]).length (lfV (f++[(a,d)]))
     rw[xe,Xv,<-q.o];exact a6
    have e4:Z (Bub f (a,d) g (f++[(a,d)])):=by rw[q.o];exact Bub.start _ _
    have c4:Z (∀k e,Bub f (a,d) k e->(k=0\/∃c5 c6,k=c5+1/\e[c5]? = some c6/\c6.2<=d)->Srt o (a+1) e):=λk e e5 e6=>e5.fin N.o a2.o.symm (by rw[<-a2.o];omega) e6
    have e7:Z (Kept w u):=a3.o.grown c3 a5.o (λb a4=>(z.o.lt b a4).1);clear a6 c3 e2 a3 c1 a5 z N P a0;go_wp2;go_loopw [5,6] (λa7 _ n=>∃(k:Nat) (e:List (Nat×Nat)),k<=g/\a7=.int .i64 k/\ef n w.heap.size (.slice (some ⟨c,0,none⟩) (g+1) r) e/\Bub f (a,d) k e/\Kept w n) (λa7 _ _=>(intOf a7).toNat)
    case atStart=>exact⟨g,_,O,bU O,e3.o,e4.o,e7.o⟩
    case round=>
     obtain⟨k,e,f9,rfl,T,U,v⟩:=hrel;have a8:Z (Bub f (a,d) k e):=U;have a9:Z (e.length=g+1):=by have:=U.len.1;rw[<-q.o] at this;exact this
     have b0:Z (ef wr w.heap.size (.slice (some ⟨c,0,none⟩) (g+1) r) e):=T;have b1:Z (Kept w wr):=v;by_cases g0:0<k
     .obtain⟨b,rfl⟩:∃b,k=b+1:=⟨k-1,O⟩
      have c7:b<e.length:=by have:=a9.o;omega
      obtain⟨b2,b3⟩:∃b2,e[b]? = some b2:=⟨e[b],Xt c7⟩;obtain⟨y,C⟩:=T.cell b3;obtain⟨D,F⟩:=T.cell U.here;have b4:Z _:=b3;obtain⟨m,h⟩:=b2;replace y:wr.cell? ⟨c,b*2,none⟩=some (.int .i64 m):=y;replace C:wr.cell? ⟨c,b*2+1,none⟩=some (.int .i64 h):=C;replace D:wr.cell? ⟨c,(b+1)*2,none⟩=some (.int .i64 a):=D;replace F:wr.cell? ⟨c,(b+1)*2+1,none⟩=some (.int .i64 d):=F;clear T v U b3 c7;by_cases e8:(d:Int)<(h:Int)
      .go_wp2_with fail
       go_quiet (fail);have b5:Z (ef (wr.drewN nq) w.heap.size (.slice (some ⟨c,0,none⟩) (g+1) r) e):=b0.o.kept ((Kept.refl _).drewN nq);have c8:Z (Kept w (wr.drewN nq)):=b1.o.drewN nq;replace y:(wr.drewN nq).cell? ⟨c,b*2,none⟩=some (.int .i64 m):=y;replace C:(wr.drewN nq).cell? ⟨c,b*2+1,none⟩=some (.int .i64 h):=C;replace D:(wr.drewN nq).cell? ⟨c,(b+1)*2,none⟩=some (.int .i64 a):=D;replace F:(wr.drewN nq).cell? ⟨c,(b+1)*2+1,none⟩=some (.int .i64 d):=F;generalize wr.drewN nq=j at *;have G:c<j.heap.size:=B _ _ y;have H:=(b5.o.lt c rfl).1;have t:Kept j (j.alloc (Obj.cells #[.int .i64 a,.int .i64 d] 224)):=(Xs _ _).alloc (E _) _;have V:Z (ef (j.alloc (Obj.cells #[.int .i64 a,.int .i64 d] 224)) w.heap.size (.slice (some ⟨c,0,none⟩) (g+1) r) e):=b5.o.kept t;have I:Z (ef (((j.alloc (Obj.cells #[.int .i64 a,.int .i64 d] 224)).setCell ⟨c,(b+1)*2,none⟩ (.int .i64 m)).setCell ⟨c,(b+1)*2+1,none⟩ (.int .i64 h)) w.heap.size (.slice (some ⟨c,0,none⟩) (g+1) r) (e.set (b+1) (m,h))):=ef.put (x:=(m,h)) V.o;have e9:Z (ef (((((j.alloc (Obj.cells #[.int .i64 a,.int .i64 d] 224)).setCell ⟨c,(b+1)*2,none⟩ (.int .i64 m)).setCell ⟨c,(b+1)*2+1,none⟩ (.int .i64 h)).setCell ⟨c,b*2,none⟩ (.int .i64 a)).setCell ⟨c,b*2+1,none⟩ (.int .i64 d)) w.heap.size (.slice (some ⟨c,0,none⟩) (g+1) r) ((e.set (b+1) (m,h)).set b (a,d))):=ef.put (x:=(a,d)) I.o;have f0:Z (Kept w (((((j.alloc (Obj.cells #[.int .i64 a,.int .i64 d] 224)).setCell ⟨c,(b+1)*2,none⟩ (.int .i64 m)).setCell ⟨c,(b+1)*2+1,none⟩ (.int .i64 h)).setCell ⟨c,b*2,none⟩ (.int .i64 a)).setCell ⟨c,b*2+1,none⟩ (.int .i64 d))):=((((c8.o.trans t).setCell H _).setCell H _).setCell H _).setCell H _;have g1:=(t.cell (p:=⟨c,b*2,none⟩) G).trans y;have g2:=(t.cell (p:=⟨c,b*2+1,none⟩) G).trans C;have g3:=(t.cell (p:=⟨c,(b+1)*2,none⟩) G).trans D;have g4:=(t.cell (p:=⟨c,(b+1)*2+1,none⟩) G).trans F;have g5:=V.o.fz ((b+1)*2);have g6:=V.o.fz ((b+1)*2+1);have b6:Fr (λb7=>b7=c) (j.alloc (Obj.cells #[.int .i64 a,.int .i64 d] 224)) (((j.alloc (Obj.cells #[.int .i64 a,.int .i64 d] 224)).setCell ⟨c,(b+1)*2,none⟩ (.int .i64 m)).setCell ⟨c,(b+1)*2+1,none⟩ (.int .i64 h)):=(Fr.setCell (S:=λb7=>b7=c) (Fr.refl _ _) (L rfl) _ _).setCell (L rfl) _ _
       have c9:¬j.heap.size=c:=O;have d0:j.heap.size<(j.alloc (Obj.cells #[.int .i64 a,.int .i64 d] 224)).heap.size:=Xi;have g7:(((j.alloc (Obj.cells #[.int .i64 a,.int .i64 d] 224)).setCell ⟨c,(b+1)*2,none⟩ (.int .i64 m)).setCell ⟨c,(b+1)*2+1,none⟩ (.int .i64 h)).cell? ⟨j.heap.size,0,none⟩=some (.int .i64 a):=(b6.cell d0 c9).trans ((Xr _ _ _ _ rfl).trans rfl);have g8:(((j.alloc (Obj.cells #[.int .i64 a,.int .i64 d] 224)).setCell ⟨c,(b+1)*2,none⟩ (.int .i64 m)).setCell ⟨c,(b+1)*2+1,none⟩ (.int .i64 h)).cell? ⟨j.heap.size,1,none⟩=some (.int .i64 d):=(b6.cell d0 c9).trans ((Xr _ _ _ _ rfl).trans rfl);obtain⟨g9,h0⟩:=I.o.cell (i:=b) (x:=(m,h)) (by rw[List.getElem?_set_ne O];exact b4.o);have h1:=I.o.fz (b*2);have h2:=I.o.fz (b*2+1);clear b5 c8 V I t b6 G H;go_wp2;exact⟨⟨b,_,O,bU O,e9.o,a8.o.down b4.o (by show d<h;omega),f0.o⟩,by simp[intOf]⟩
      .have h3:=J e8
       go_wp2_with fail;go_quiet (fail);go_wp2;exact⟨⟨a+1,e,O,by rw[a9.o];omega,Xj,b0.o.kept ((Kept.refl _).drewN _),c4.o _ _ a8.o (R ⟨b,(m,h),rfl,b4.o,by show h<=d;omega⟩),b1.o.drewN _⟩,Xb⟩
     .have f1:k=0:=O
      subst f1;go_wp2_with fail;go_quiet (fail);go_wp2;exact⟨⟨a+1,e,O,by rw[a9.o];omega,Xj,b0.o.kept ((Kept.refl _).drewN _),c4.o _ _ a8.o (L rfl),b1.o.drewN _⟩,Xb⟩
  .have d9:¬(a:Int)<(l.length:Int):=O
   go_wp2;go_ret;have f2:a=l.length:=O;refine⟨⟨_,f,rfl,(by have:=z.o;unfold ef;rw[<-q.o];exact this),?_,by rw[<-q.o];omega⟩,P.o⟩;rw[<-f2];exact N.o
end Go.Proofs.YtbedkdnphobmlaaGreatDoor
namespace Px
theorem xN:∀(i:Nat) (r:List (Bool×Nat)) (x:Bool×Nat),r[i]? = some x->cT (i+1) r=cT i r+(if x.1 then 1 else 0)
 | i,[],x,h=>by simp at h
 | 0,y::r,x,h=>by simp at h;subst h;simp[cT]
 | i+1,y::r,x,h=>by
  show(if y.1 then 1 else 0)+cT (i+1) r=(if y.1 then 1 else 0)+cT i r+_
  rw[xN i r x (by simpa using h)];omega
theorem xO:∀(t:Nat) (r:List (Bool×Nat)),r.length<=t->cT t r=cT r.length r
 | 0,[],_=>rfl
 | 0,y::r,h=>by simp at h
 | t+1,[],_=>rfl
 | t+1,y::r,h=>by
  show(if y.1 then 1 else 0)+cT t r=(if y.1 then 1 else 0)+cT r.length r
  rw[xO t r (by simpa using h)]
def fP(ls:List (Nat×Nat))(cs:List Nat)(s:Nat):Nat:=(cs.filter (λc=>decide (s∈(ls.take c).map (λx=>x.1)))).length
theorem yI ls cs c s:fP ls (cs++[c]) s=fP ls cs s+(if s∈(ls.take c).map (λx=>x.1) then 1 else 0):=by
 unfold fP;rw[List.filter_append,Xv,List.filter_cons,List.filter_nil];by_cases a:s∈(ls.take c).map (λx=>x.1)
 .rw[I a,I (K a)];rfl
 .rw[N a,N (by rw[J a];exact Bool.false_ne_true)];rfl
theorem wZ ls cs s:fP ls cs s<=cs.length:=List.length_filter_le _ _
theorem xa{ls}(g:ls.Pairwise (λa b=>a.1≠b.1)){i x}(d:ls[i]? = some x)cs:fP ls cs x.1=lnO cs i:=by
 unfold fP lnO
 congr 1
 apply List.filter_congr;intro o _
 congr 1
 apply propext;have h:=(Yb.1 d).1;have j:=(Yb.1 d).2
 constructor
 .intro e
  obtain⟨p,q,k⟩:=YP.1 e;obtain⟨c,l,r⟩:=List.getElem_of_mem q;have t:c<o:=by have:=l;simp at this;omega
  have m:c<ls.length:=by have:=l;simp at this;omega
  have n:ls[c]=p:=by rw[<-r,List.getElem_take]
  by_cases s:c=i
  .omega
  .exfalso
   rcases Nat.lt_or_gt_of_ne s with f|f
   .have:=List.pairwise_iff_getElem.1 g c i m h f
    rw[n,j] at this;exact this k
   .have:=List.pairwise_iff_getElem.1 g i c h m f
    rw[n,j] at this;exact this k.symm
 .intro e
  refine YP.2 ⟨x,?_,rfl⟩;refine X8 (i:=i) ?_;rw[List.getElem?_take,I e];exact d
theorem oR{ls s}(h:s ∉ ls.map (λx=>x.1))cs:fP ls cs s=0:=by
 unfold fP;rw[List.filter_eq_nil_iff.2 (λe _ => ?_)]
 .rfl
 .simp only[Y6]
  intro a;obtain⟨b,c,d⟩:=YP.1 a;exact h (YP.2 ⟨b,YE c,d⟩)
def tu(lo:List Nat)(t:Nat):Nat->List Nat
 | 0=>[]
 | j+1=>cts lo t j
theorem y9 lo t j:tu lo t (j+1)=cT t (rwN lo j)::tu lo (2*(t-cT t (rwN lo j))) j:=by
 cases j with
 | zero=>rfl
 | succ j=>rfl
theorem BA lo:∀(b t:Nat),(tu lo t b).length=b
 | 0,_=>rfl
 | b+1,t=>jX lo b t
end Px
namespace Go.Proofs.YtbedkdnphobmlaaGreatDoor
open Go.RowKit Px Tryz
theorem uY v r F w(h:ItX w v r)(u:r.length<=1048576):Calls prog 177 #[v,.int .i64 F] w λd x=>d=.returned (.int .i64 (cT F.toNat r))/\Kept w x:=by
 obtain⟨y,z,rfl⟩:=h.form;obtain⟨b,j⟩:∃b,b=r.length:=⟨_,rfl⟩;rw[<-j] at h u ⊢;have A:Z (∀e,Kept w e->ItX e (.slice y b z) r):=λe c=>h.kept c
 have m:Z _:=j;clear h j;go_enter func177,ntmps177;go_wp2;go_loopw [5,6] (λB k e=>∃a c:Nat,a<=b/\c<=a/\c=cT a r/\(a<=F.toNat)/\B=.int .i64 c/\k=.int .i64 a/\Kept w e) (λ_ k _=>b-(intOf k).toNat)
 case atStart=>exact⟨0,0,O,O,rfl,O,rfl,rfl,Kept.refl _⟩
 case round=>
  obtain⟨a,c,K,L,n,M,rfl,rfl,o⟩:=hrel;have f:Z (Kept w wr):=o;have i:Z _:=n;clear o n;by_cases N:(a:Int)<F
  .by_cases C:a<b
   .have D:(a:Int)<(b:Int):=O
    have p:a<r.length:=by rw[<-m.o];exact C
    obtain⟨g,l⟩:∃g,r[a]? = some g:=⟨r[a],Xt p⟩;obtain⟨E,P,d,q,G⟩:=(A.o wr f.o).cells a g l
    injection d with H I J
    subst H;subst J;have s:Z _:=xN a r g l;obtain⟨t,Q⟩:=g;replace q:wr.cell? ⟨E,a*2,none⟩=some (.bool t):=q;clear I p l G;cases t
    .go_wp2
     exact⟨⟨a+1,c,O,O,by rw[s.o,<-i.o];rfl,O,rfl,Xj,f.o⟩,Xb⟩
    .go_wp2
     exact⟨⟨a+1,c+1,O,O,by rw[s.o,<-i.o];rfl,O,Xj,Xj,f.o⟩,Xb⟩
   .have D:¬(a:Int)<(b:Int):=O
    go_wp2;go_ret;have d:a=r.length:=by have:=m.o;omega
    refine⟨?_,f.o⟩;rw[xO F.toNat r O,<-d,<-i.o];rfl
  .go_wp2
   go_ret;have d:a=F.toNat:=O;refine⟨?_,f.o⟩;rw[<-d,<-i.o];rfl
