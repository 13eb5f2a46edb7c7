import Derived.Test.YtbedkdnphobmlaaGreatDoorProg
import Derived.Deep.RegionHeld3
import Derived.Test.YtbedkdnphobmlaaGreatDoorUaa00
import Derived.Test.YtbedkdnphobmlaaGreatDoorUaa01
import Derived.Test.YtbedkdnphobmlaaGreatDoorUaa06
set_option linter.all false
set_option maxRecDepth 100000
set_option maxHeartbeats 0
namespace Go.Proofs.YtbedkdnphobmlaaGreatDoor
open Go.RowKit Tryz
theorem pD n e w(c:0<=n)(d:n<e):Calls prog 64 #[.int .i64 n,.int .i64 e] w λa b=>a=.returned (.bool true)/\b=w:=by
 go_enter func64,ntmps64;go_wp2;go_ret;exact⟨rfl,rfl⟩
theorem np(n:Nat)w(c:1<=n)(d:n<=16):Calls prog 59 #[.int .i64 n] w λa b=>a=.returned (.bool true)/\b=w:=by
 have e:(1:Int)<=(n:Int):=O;have f:(n:Int)<=16:=O;go_enter func59,ntmps59;go_wp2;go_ret;exact⟨rfl,rfl⟩
theorem ve p n c w(d:1<=n)(e:n<=64):Calls prog 65 #[.slice p n c] w λa b=>a=.returned (.bool true)/\b=w:=by
 have f:(1:Int)<=(n:Int):=O;have g:(n:Int)<=64:=O;go_enter func65,ntmps65;go_wp2;go_ret;exact⟨rfl,rfl⟩
theorem dH v l e w(f:LAt w .i64 v l)(r:l.length<=1048576)(i:∀j∈l,0<=j/\j<e):Calls prog 66 #[v,.int .i64 e] w λd g=>d=.returned (.bool true)/\Kept w g:=by
 obtain⟨s,t,rfl⟩:=f.form;have n:Z _:=f;have o:Z _:=i;clear f i;go_enter func66,ntmps66;go_wp2;go_loopw [5] (λv b=>∃a:Nat,a<=l.length/\v=.int .i64 a/\Kept w b) (λv _=>l.length-(intOf v).toNat)
 case atStart=>exact⟨0,O,rfl,Kept.refl _⟩
 case round=>
  obtain⟨a,u,rfl,c⟩:=hrel;by_cases k:a<l.length
  .obtain⟨x,y,rfl,z⟩:=(n.o.kept c).cellAt a k
   have h:=o.o _ (az k);generalize l.getD a 0=m at *;have p:Z (∀b,Calls prog 64 #[.int .i64 m,.int .i64 e] b λd g=>d=.returned (.bool true)/\g=b):=λb=>pD m e b h.1 h.2
   clear h;have q:(a:Int)<(l.length:Int):=O;replace c:Z (Kept w wr):=c;go_wp2_with fail;refine(p.o _).mono ?_;rintro d A ⟨rfl,rfl⟩;go_wp2;exact⟨⟨a+1,O,Xj,c.o⟩,Xb⟩
  .have q:¬(a:Int)<(l.length:Int):=O
   go_wp2;go_ret;exact⟨rfl,c⟩
theorem vg v l w(g:LAt w .i64 v l)(y:0<l.length)(z:l.length<=1048576)(i:∀k∈l,0<=k)(m:1<=l.getD 0 0):Calls prog 67 #[v] w λn o=>n=.returned (.bool true)/\Kept w o:=by
 obtain⟨A,B,rfl⟩:=g.form;have p:Z _:=g;have q:Z _:=i;clear g i;go_enter func67,ntmps67;go_wp2;go_loopw [3,4] (λr v s=>∃a:Nat,∃c:Bool,a<=l.length/\v=.int .i64 a/\r=.bool c/\(0<a->c=true)/\Kept w s) (λ_ v _=>l.length-(intOf v).toNat)
 case atStart=>exact⟨0,false,O,rfl,rfl,λC=>O,Kept.refl _⟩
 case round=>
  obtain⟨a,c,D,rfl,rfl,e,b⟩:=hrel;by_cases j:a<l.length
  .obtain⟨E,F,rfl,G⟩:=(p.o.kept b).cellAt a j
   have H:=q.o _ (az j);have h:a=0->1<=l.getD a 0:=λd=>by rw[d];exact m
   generalize l.getD a 0=t at *;have u:(a:Int)<(l.length:Int):=O;replace b:Z (Kept w wr):=b;replace e:Z (0<a->c=true):=e;by_cases I:0<t
   .go_wp2
    exact⟨⟨a+1,true,O,Xj,rfl,λ_=>rfl,b.o⟩,Xb⟩
   .have x:0<a:=by
     rcases Nat.eq_zero_or_pos a with d|d
     .have:=h d;omega
     .exact d
    have f:=e.o x;replace h:Z _:=h;go_wp2;exact⟨⟨a+1,c,O,Xj,by first|rfl|rw[f],λ_=>f,b.o⟩,Xb⟩
  .have f:=e O
   subst f;have u:¬(a:Int)<(l.length:Int):=O;go_wp2;go_ret;exact⟨rfl,b⟩
theorem Bh K D w(h:ax K D):Calls prog 60 #[.int .i64 K,.int .i64 D] w λa b=>a=.returned (.bool true)/\b=w:=by
 unfold ax at h;rcases h with⟨rfl,h⟩|⟨rfl,h⟩|⟨rfl|rfl|rfl,h⟩
 .rcases h with rfl|rfl|rfl|rfl|rfl
  all_goals
   go_enter func60,ntmps60;go_wp2;go_ret;exact⟨rfl,rfl⟩
 .rcases h with rfl|rfl|rfl|rfl
  all_goals
   go_enter func60,ntmps60;go_wp2;go_ret;exact⟨rfl,rfl⟩
 all_goals
  rcases h with rfl|rfl
  all_goals
   go_enter func60,ntmps60;go_wp2;go_ret;exact⟨rfl,rfl⟩
theorem sP a b c d(D:Nat)w(h:D=1\/D=2\/D=4\/D=8\/D=16):Calls prog 129 #[.agg #[.int .i64 a,.int .i64 b,.int .i64 D,.int .i64 c,.int .i64 d]] w λe f=>e=.returned (.int .u32 ((2^D:Nat):Int))/\Kept w f:=by
 rcases h with rfl|rfl|rfl|rfl|rfl
 all_goals
  go_enter func129,ntmps129;go_wp2;go_ret;exact⟨rfl,Xw (Xs _ _) (E _) _⟩
theorem jh a H K(D:Nat)pv cv xv w(h:D=1\/D=2\/D=4\/D=8\/D=16):Calls prog 92 #[.agg #[.int .i64 a,.int .i64 H,.int .i64 K,.int .i64 D,pv,cv,xv]] w λb c=>b=.returned (.int .i64 ((2^D:Nat):Int))/\Kept w c:=by
 have i:Z (∀(a:World) (d e f g:Int),Calls prog 129 #[.agg #[.int .i64 d,.int .i64 e,.int .i64 D,.int .i64 f,.int .i64 g]] a λb c=>b=.returned (.int .u32 ((2^D:Nat):Int))/\Kept a c):=λa d e f g=>sP d e f g D a h
 have k:(2^D:Nat)<=65536:=by rcases h with rfl|rfl|rfl|rfl|rfl<;>decide
 generalize (2^D:Nat)=l at *;clear h;go_enter func92,ntmps92;go_wp2_with fail;refine(i.o _ _ _ _ _).mono ?_;rintro b m ⟨rfl,j⟩;go_wp2;go_ret;refine⟨rfl,Kept.trans (Xw (Xw (Xs _ _) (E _) _) Xi _) j⟩
structure cu (W H K D:Nat) (pal clr pix:List Int):Prop where
 w1:1<=W
 w2:W<=16
 h1:1<=H
 h2:H<=16
 lg:ax K D
 pal3:K=3->∃n,1<=n/\pal.length=3*n/\n<=2^D
 palN:K≠3->pal=[]
 palB:∀y∈pal,0<=y/\y<256
 clr:clr=[]\/((K=0\/K=2)/\clr.length=chan K/\∀y∈clr,0<=y/\y<((2^D:Nat):Int))\/(K=3/\1<=clr.length/\clr.length<=pal.length/3/\∀y∈clr,0<=y/\y<256)
 pixL:pix.length=W*H*chan K
 pixB:∀y∈pix,0<=y/\y<((if K=3 then pal.length/3 else 2^D:Nat):Int)
theorem dS{D}(h:D=1\/D=2\/D=4\/D=8\/D=16):2^D<=65536:=by rcases h with rfl|rfl|rfl|rfl|rfl<;>decide
theorem eg{D}(h:D=1\/D=2\/D=4\/D=8):2^D<=256:=by rcases h with rfl|rfl|rfl|rfl<;>decide
theorem yS W H K D pv cv xv pal clr pix w(h:cu W H K D pal clr pix)(l:LAt w .i64 pv pal):Calls prog 61 #[.agg #[.int .i64 W,.int .i64 H,.int .i64 K,.int .i64 D,pv,cv,xv]] w λg m=>g=.returned (.bool true)/\Kept w m:=by
 obtain⟨e,f,rfl⟩:=l.form;have j:Kept w (w.alloc (Obj.cells #[.int .i64 W,.int .i64 H,.int .i64 K,.int .i64 D,.slice e pal.length f,cv,xv] 33)):=Xw (Xs _ _) (E _) _;have s:pal.length<=768/\pal.length%3=0:=by
  by_cases q:K=3
  .obtain⟨t,F,G,I⟩:=h.pal3 q
   have u:D=1\/D=2\/D=4\/D=8:=by have:=h.lg;unfold ax at this;omega
   have:=eg u
   omega
  .rw[h.palN q];simp
 obtain⟨J,L⟩:=s;have v:Z (∀k:World,Calls prog 92 #[.agg #[.int .i64 W,.int .i64 H,.int .i64 K,.int .i64 D,.slice e pal.length f,cv,xv]] k λg m=>g=.returned (.int .i64 ((2^D:Nat):Int))/\Kept k m):=λk=>jh _ _ _ D _ _ _ k h.lg.d
 have a:∀n o,#[Value.int .i64 W,.int .i64 H,.int .i64 K,.int .i64 D,.slice e pal.length f,cv,xv][n]? = some o->(w.alloc (Obj.cells #[.int .i64 W,.int .i64 H,.int .i64 K,.int .i64 D,.slice e pal.length f,cv,xv] 33)).cell? ⟨w.heap.size,n,none⟩=some o:=by
  intro n o x;rw[Xr _ _ _ _ rfl];exact x
 have b:w.heap.size<(w.alloc (Obj.cells #[.int .i64 W,.int .i64 H,.int .i64 K,.int .i64 D,.slice e pal.length f,cv,xv] 33)).heap.size:=Xi;replace a:Z _:=a;replace j:Z _:=j;replace b:Z _:=b;have M:¬(768:Int)<(pal.length:Int):=O;have N:(pal.length:Int).tmod 3=0:=by rw[XU O];exact O
 go_enter func61,ntmps61;go_wp2_with fail;generalize (w.alloc (Obj.cells #[.int .i64 W,.int .i64 H,.int .i64 K,.int .i64 D,.slice e pal.length f,cv,xv] 33))=P at *;refine(dH _ pal 256 _ (l.kept j) O h.palB).mono ?_;rintro g y ⟨rfl,d⟩;have Q:=(d.cell (p:=⟨w.heap.size,0,none⟩) b.o).trans (a.o 0 _ rfl);have R:=(d.cell (p:=⟨w.heap.size,1,none⟩) b.o).trans (a.o 1 _ rfl);have S:=(d.cell (p:=⟨w.heap.size,2,none⟩) b.o).trans (a.o 2 _ rfl);have T:=(d.cell (p:=⟨w.heap.size,3,none⟩) b.o).trans (a.o 3 _ rfl);have U:=(d.cell (p:=⟨w.heap.size,4,none⟩) b.o).trans (a.o 4 _ rfl);have V:=(d.cell (p:=⟨w.heap.size,5,none⟩) b.o).trans (a.o 5 _ rfl);have X:=(d.cell (p:=⟨w.heap.size,6,none⟩) b.o).trans (a.o 6 _ rfl);have i:Z (Kept w y):=Kept.trans j.o d;clear d l a b;rcases h.lg.k with c|c|c|c|c
 .have r:(pal.length:Int)=0:=by rw[h.palN O];rfl
  subst c;clear h;go_wp2;go_ret;exact⟨rfl,i.o⟩
 .subst c
  clear h;go_wp2;go_ret;exact⟨rfl,i.o⟩
 .obtain⟨t,z,A,B⟩:=h.pal3 c
  have r:(0:Int)<(pal.length:Int):=O;have Y:(pal.length:Int)/3<=((2^D:Nat):Int):=O;subst c;generalize (2^D:Nat)=a0 at *;clear h z A B;go_wp2_with fail;refine(v.o _).mono ?_;rintro g a1 ⟨rfl,C⟩;go_wp2;go_ret;exact⟨rfl,i.o.trans C⟩
 .have r:(pal.length:Int)=0:=by rw[h.palN O];rfl
  subst c;clear h;go_wp2;go_ret;exact⟨rfl,i.o⟩
 .subst c
  clear h;go_wp2;go_ret;exact⟨rfl,i.o⟩
theorem yT W H K D pp qp xp pc qc xc pal clr pix w(h:cu W H K D pal clr pix)(v:LAt w .i64 (.slice pp pal.length pc) pal)(l:LAt w .i64 (.slice qp clr.length qc) clr)(x:LAt w .i64 (.slice xp pix.length xc) pix):Calls prog 62 #[.agg #[.int .i64 W,.int .i64 H,.int .i64 K,.int .i64 D,.slice pp pal.length pc,.slice qp clr.length qc,.slice xp pix.length xc]] w λb f=>b=.returned (.bool true)/\Kept w f:=by
 have d:Kept w (w.alloc (Obj.cells #[.int .i64 W,.int .i64 H,.int .i64 K,.int .i64 D,.slice pp pal.length pc,.slice qp clr.length qc,.slice xp pix.length xc] 33)):=Xw (Xs _ _) (E _) _;have e:∀c y,#[Value.int .i64 W,.int .i64 H,.int .i64 K,.int .i64 D,.slice pp pal.length pc,.slice qp clr.length qc,.slice xp pix.length xc][c]? = some y->(w.alloc (Obj.cells #[.int .i64 W,.int .i64 H,.int .i64 K,.int .i64 D,.slice pp pal.length pc,.slice qp clr.length qc,.slice xp pix.length xc] 33)).cell? ⟨w.heap.size,c,none⟩=some y:=by
  intro c y Q;rw[Xr _ _ _ _ rfl];exact Q
 have g:w.heap.size<(w.alloc (Obj.cells #[.int .i64 W,.int .i64 H,.int .i64 K,.int .i64 D,.slice pp pal.length pc,.slice qp clr.length qc,.slice xp pix.length xc] 33)).heap.size:=Xi;have L:Z (∀a:World,Calls prog 92 #[.agg #[.int .i64 W,.int .i64 H,.int .i64 K,.int .i64 D,.slice pp pal.length pc,.slice qp clr.length qc,.slice xp pix.length xc]] a λb f=>b=.returned (.int .i64 ((2^D:Nat):Int))/\Kept a f):=λa=>jh _ _ _ D _ _ _ a h.lg.d
 have M:Z (∀a:World,Calls prog 93 #[.int .i64 K] a λb f=>b=.returned (.int .i64 (chan K))/\f=a):=λa=>fT K a h.lg.k
 have k:Z (∀a,Kept (w.alloc (Obj.cells #[.int .i64 W,.int .i64 H,.int .i64 K,.int .i64 D,.slice pp pal.length pc,.slice qp clr.length qc,.slice xp pix.length xc] 33)) a->(a.cell? ⟨w.heap.size,0,none⟩=some (.int .i64 W)/\a.cell? ⟨w.heap.size,1,none⟩=some (.int .i64 H)/\a.cell? ⟨w.heap.size,2,none⟩=some (.int .i64 K)/\a.cell? ⟨w.heap.size,3,none⟩=some (.int .i64 D)/\a.cell? ⟨w.heap.size,4,none⟩=some (.slice pp pal.length pc)/\a.cell? ⟨w.heap.size,5,none⟩=some (.slice qp clr.length qc)/\a.cell? ⟨w.heap.size,6,none⟩=some (.slice xp pix.length xc))):=λa c=>⟨(c.cell (p:=⟨w.heap.size,0,none⟩) g).trans (e 0 _ rfl),(c.cell (p:=⟨w.heap.size,1,none⟩) g).trans (e 1 _ rfl),(c.cell (p:=⟨w.heap.size,2,none⟩) g).trans (e 2 _ rfl),(c.cell (p:=⟨w.heap.size,3,none⟩) g).trans (e 3 _ rfl),(c.cell (p:=⟨w.heap.size,4,none⟩) g).trans (e 4 _ rfl),(c.cell (p:=⟨w.heap.size,5,none⟩) g).trans (e 5 _ rfl),(c.cell (p:=⟨w.heap.size,6,none⟩) g).trans (e 6 _ rfl)⟩
 rcases h.clr with z|⟨m,r,s⟩|⟨m,r,s,N⟩
 .have P:((clr.length:Int)==0)=true:=by rw[z];rfl
  have Y:(clr.length:Int)=0:=by rw[z];rfl
  clear h v l x z;replace d:Z _:=d;go_enter func62,ntmps62;go_wp2;go_ret;exact⟨rfl,d.o⟩
 .have a0:=@bI K
  have P:((clr.length:Int)==0)=false:=Xa;have t:Z (∀a,Kept (w.alloc (Obj.cells #[.int .i64 W,.int .i64 H,.int .i64 K,.int .i64 D,.slice pp pal.length pc,.slice qp clr.length qc,.slice xp pix.length xc] 33)) a->Calls prog 66 #[.slice qp clr.length qc,.int .i64 ((2^D:Nat):Int)] a λb f=>b=.returned (.bool true)/\Kept a f):=λa c=>dH _ clr _ _ ((l.kept d).kept c) O s
  have A:(clr.length:Int)=(chan K:Int):=O;clear h v l x s;replace d:Z _:=d;have a1:((clr.length:Int)==(chan K:Int))=true:=by rw[A];exact beq_self_eq_true _
  replace A:Z _:=A;replace r:Z _:=r;replace e:Z _:=e;generalize (2^D:Nat)=a2 at *;generalize chan K=a3 at *;rcases m with rfl|rfl
  .go_enter func62,ntmps62
   go_wp2_with fail;generalize (w.alloc (Obj.cells #[.int .i64 W,.int .i64 H,.int .i64 0,.int .i64 D,.slice pp pal.length pc,.slice qp clr.length qc,.slice xp pix.length xc] 33))=B at *;have i:=k.o B (Kept.refl _);replace i:Z _:=i;go_region_held3 (λa=>a.cell? ⟨w.heap.size,0,none⟩=some (.int .i64 W)/\a.cell? ⟨w.heap.size,1,none⟩=some (.int .i64 H)/\a.cell? ⟨w.heap.size,2,none⟩=some (.int .i64 0)/\a.cell? ⟨w.heap.size,3,none⟩=some (.int .i64 D)/\a.cell? ⟨w.heap.size,4,none⟩=some (.slice pp pal.length pc)/\a.cell? ⟨w.heap.size,5,none⟩=some (.slice qp clr.length qc)/\a.cell? ⟨w.heap.size,6,none⟩=some (.slice xp pix.length xc)) (first|exact i.o|exact C.o|exact G.o|go_keep) ((first|(go_at_call 93;refine(M.o _).mono ?_;rintro b R ⟨rfl,rfl⟩)|(go_at_call 92;refine(L.o _).mono ?_;rintro b I ⟨rfl,J⟩;have j:=Kept.trans ((Kept.refl _).drewN 1) J;have C:Z _:=k.o I j)|(go_at_call 66;refine(t.o _ (by exact j)).mono ?_;rintro b u ⟨rfl,n⟩;have o:=Kept.trans j n;have G:Z _:=k.o u o)))
   go_wp2;go_ret;exact⟨rfl,Kept.trans d.o o⟩
  .go_enter func62,ntmps62
   go_wp2_with fail;generalize (w.alloc (Obj.cells #[.int .i64 W,.int .i64 H,.int .i64 2,.int .i64 D,.slice pp pal.length pc,.slice qp clr.length qc,.slice xp pix.length xc] 33))=B at *;have i:=k.o B (Kept.refl _);replace i:Z _:=i;go_region_held3 (λa=>a.cell? ⟨w.heap.size,0,none⟩=some (.int .i64 W)/\a.cell? ⟨w.heap.size,1,none⟩=some (.int .i64 H)/\a.cell? ⟨w.heap.size,2,none⟩=some (.int .i64 2)/\a.cell? ⟨w.heap.size,3,none⟩=some (.int .i64 D)/\a.cell? ⟨w.heap.size,4,none⟩=some (.slice pp pal.length pc)/\a.cell? ⟨w.heap.size,5,none⟩=some (.slice qp clr.length qc)/\a.cell? ⟨w.heap.size,6,none⟩=some (.slice xp pix.length xc)) (first|exact i.o|exact C.o|exact G.o|go_keep) ((first|(go_at_call 93;refine(M.o _).mono ?_;rintro b R ⟨rfl,rfl⟩)|(go_at_call 92;refine(L.o _).mono ?_;rintro b I ⟨rfl,J⟩;have j:=Kept.trans ((Kept.refl _).drewN 1) J;have C:Z _:=k.o I j)|(go_at_call 66;refine(t.o _ (by exact j)).mono ?_;rintro b u ⟨rfl,n⟩;have o:=Kept.trans j n;have G:Z _:=k.o u o)))
   go_wp2;go_ret;exact⟨rfl,Kept.trans d.o o⟩
 .have P:((clr.length:Int)==0)=false:=by rw[F];omega
  have t:Z (∀a,Kept (w.alloc (Obj.cells #[.int .i64 W,.int .i64 H,.int .i64 K,.int .i64 D,.slice pp pal.length pc,.slice qp clr.length qc,.slice xp pix.length xc] 33)) a->Calls prog 66 #[.slice qp clr.length qc,.int .i64 256] a λb f=>b=.returned (.bool true)/\Kept a f):=λa c=>dH _ clr _ _ ((l.kept d).kept c) (by
   obtain⟨S,T,U,V⟩:=h.pal3 m
   have:=dS h.lg.d
   omega) N
  obtain⟨q,X⟩:∃q,q=pal.length/3:=⟨_,rfl⟩;have a4:(pal.length:Int)/3=(q:Int):=O;have a5:q<=65536:=by
   obtain⟨S,T,U,V⟩:=h.pal3 m
   have:=dS h.lg.d
   omega
  have a6:(clr.length:Int)<=(q:Int):=O;subst m;clear X;clear h v l x N r s;replace d:Z _:=d;replace e:Z _:=e;go_enter func62,ntmps62;go_wp2_with fail;refine(t.o _ (Kept.refl _)).mono ?_;rintro b u ⟨rfl,n⟩;go_wp2;go_ret;exact⟨rfl,Kept.trans d.o n⟩
theorem yR W H K D pp qp xp pc qc xc pal clr pix w(h:cu W H K D pal clr pix)(Q:LAt w .i64 (.slice pp pal.length pc) pal)(R:LAt w .i64 (.slice qp clr.length qc) clr)(z:LAt w .i64 (.slice xp pix.length xc) pix):Calls prog 63 #[.agg #[.int .i64 W,.int .i64 H,.int .i64 K,.int .i64 D,.slice pp pal.length pc,.slice qp clr.length qc,.slice xp pix.length xc]] w λd i=>d=.returned (.bool true)/\Kept w i:=by
 have l:Kept w (w.alloc (Obj.cells #[.int .i64 W,.int .i64 H,.int .i64 K,.int .i64 D,.slice pp pal.length pc,.slice qp clr.length qc,.slice xp pix.length xc] 33)):=Xw (Xs _ _) (E _) _;have f:∀c r,#[Value.int .i64 W,.int .i64 H,.int .i64 K,.int .i64 D,.slice pp pal.length pc,.slice qp clr.length qc,.slice xp pix.length xc][c]? = some r->(w.alloc (Obj.cells #[.int .i64 W,.int .i64 H,.int .i64 K,.int .i64 D,.slice pp pal.length pc,.slice qp clr.length qc,.slice xp pix.length xc] 33)).cell? ⟨w.heap.size,c,none⟩=some r:=by
  intro c r S;rw[Xr _ _ _ _ rfl];exact S
 have j:w.heap.size<(w.alloc (Obj.cells #[.int .i64 W,.int .i64 H,.int .i64 K,.int .i64 D,.slice pp pal.length pc,.slice qp clr.length qc,.slice xp pix.length xc] 33)).heap.size:=Xi;have T:Z (∀a:World,Calls prog 92 #[.agg #[.int .i64 W,.int .i64 H,.int .i64 K,.int .i64 D,.slice pp pal.length pc,.slice qp clr.length qc,.slice xp pix.length xc]] a λd i=>d=.returned (.int .i64 ((2^D:Nat):Int))/\Kept a i):=λa=>jh _ _ _ D _ _ _ a h.lg.d
 have A:Z (∀a:World,Calls prog 93 #[.int .i64 K] a λd i=>d=.returned (.int .i64 (chan K))/\i=a):=λa=>fT K a h.lg.k
 have g:Z (∀a,Kept (w.alloc (Obj.cells #[.int .i64 W,.int .i64 H,.int .i64 K,.int .i64 D,.slice pp pal.length pc,.slice qp clr.length qc,.slice xp pix.length xc] 33)) a->(a.cell? ⟨w.heap.size,0,none⟩=some (.int .i64 W)/\a.cell? ⟨w.heap.size,1,none⟩=some (.int .i64 H)/\a.cell? ⟨w.heap.size,2,none⟩=some (.int .i64 K)/\a.cell? ⟨w.heap.size,3,none⟩=some (.int .i64 D)/\a.cell? ⟨w.heap.size,4,none⟩=some (.slice pp pal.length pc)/\a.cell? ⟨w.heap.size,5,none⟩=some (.slice qp clr.length qc)/\a.cell? ⟨w.heap.size,6,none⟩=some (.slice xp pix.length xc))):=λa c=>⟨(c.cell (p:=⟨w.heap.size,0,none⟩) j).trans (f 0 _ rfl),(c.cell (p:=⟨w.heap.size,1,none⟩) j).trans (f 1 _ rfl),(c.cell (p:=⟨w.heap.size,2,none⟩) j).trans (f 2 _ rfl),(c.cell (p:=⟨w.heap.size,3,none⟩) j).trans (f 3 _ rfl),(c.cell (p:=⟨w.heap.size,4,none⟩) j).trans (f 4 _ rfl),(c.cell (p:=⟨w.heap.size,5,none⟩) j).trans (f 5 _ rfl),(c.cell (p:=⟨w.heap.size,6,none⟩) j).trans (f 6 _ rfl)⟩
 have U:=dS h.lg.d;have a2:pix.length<=1024:=by rw[h.pixL];exact Xz (XF (XF h.w2 h.h2) (@bI K).2) Xh
 obtain⟨m,k⟩:∃m:Nat,m=(if K=3 then pal.length/3 else 2^D:Nat):=⟨_,rfl⟩;have B:Z (∀a,Kept (w.alloc (Obj.cells #[.int .i64 W,.int .i64 H,.int .i64 K,.int .i64 D,.slice pp pal.length pc,.slice qp clr.length qc,.slice xp pix.length xc] 33)) a->Calls prog 66 #[.slice xp pix.length xc,.int .i64 m] a λd i=>d=.returned (.bool true)/\Kept a i):=λa c=>dH _ pix _ _ ((z.kept l).kept c) O (λV X=>by rw[k];exact h.pixB V X)
 have a3:m<=65536:=by
  rw[k];split
  .rename_i Y
   obtain⟨a4,a5,a6,a7⟩:=h.pal3 Y;omega
  .exact U
 have a8:W*H<=256:=Xz (XF h.w2 h.h2) Xh;have s:(W:Int)*(H:Int)=((W*H:Nat):Int):=Xi;have t:=h.pixL;have a9:=h.lg.k;clear h Q R z;generalize (2^D:Nat)=b0 at *;generalize chan K=u at *;generalize W*H=n at *;have o:(n:Int)*(u:Int)=((n*u:Nat):Int):=Xi;rw[<-t] at o;have b1:IntKind.i64.wrap ((W:Int)*(H:Int))=(n:Int):=by rw[s,XC];omega
 have b2:IntKind.i64.wrap ((n:Int)*(u:Int))=(pix.length:Int):=by rw[o,XC];omega
 replace s:Z _:=s;replace o:Z _:=o;replace t:Z _:=t;replace l:Z _:=l;replace f:Z _:=f;go_enter func63,ntmps63;go_wp2_with fail;generalize (w.alloc (Obj.cells #[.int .i64 W,.int .i64 H,.int .i64 K,.int .i64 D,.slice pp pal.length pc,.slice qp clr.length qc,.slice xp pix.length xc] 33))=a0 at *;refine(T.o _).mono ?_;rintro d C ⟨rfl,v⟩;obtain⟨G,J,L,b3,b4,b5,M⟩:=g.o C v;have q:Z (Kept a0 C):=v;clear v;by_cases P:K=3
 .subst P
  rw[I rfl] at k;have b6:(pal.length:Int)/3=(m:Int):=O;replace k:Z _:=k;go_wp2_with fail;go_region_held3 (λa=>a.cell? ⟨w.heap.size,0,none⟩=some (.int .i64 W)/\a.cell? ⟨w.heap.size,1,none⟩=some (.int .i64 H)/\a.cell? ⟨w.heap.size,2,none⟩=some (.int .i64 3)/\a.cell? ⟨w.heap.size,6,none⟩=some (.slice xp pix.length xc)) (first|exact⟨G,J,L,M⟩|exact x|go_keep) ((first|(go_at_call 93;refine(A.o _).mono ?_;rintro d a1 ⟨rfl,rfl⟩)|(go_at_call 66;refine(B.o _ (by exact q.o.drewN 1)).mono ?_;rintro d b ⟨rfl,y⟩;have e:=(q.o.drewN 1).trans y;have x:b.cell? ⟨w.heap.size,0,none⟩=some (.int .i64 W)/\b.cell? ⟨w.heap.size,1,none⟩=some (.int .i64 H)/\b.cell? ⟨w.heap.size,2,none⟩=some (.int .i64 3)/\b.cell? ⟨w.heap.size,6,none⟩=some (.slice xp pix.length xc):=⟨(g.o b e).1,(g.o b e).2.1,(g.o b e).2.2.1,(g.o b e).2.2.2.2.2.2⟩)))
  go_wp2;go_ret;exact⟨rfl,Kept.trans l.o e⟩
 .rw[N P] at k
  subst k;have b7:((K:Int)==3)=false:=Xa;go_wp2_with fail;go_region_held3 (λa=>a.cell? ⟨w.heap.size,0,none⟩=some (.int .i64 W)/\a.cell? ⟨w.heap.size,1,none⟩=some (.int .i64 H)/\a.cell? ⟨w.heap.size,2,none⟩=some (.int .i64 K)/\a.cell? ⟨w.heap.size,6,none⟩=some (.slice xp pix.length xc)) (first|exact⟨G,J,L,M⟩|exact x|go_keep) ((first|(go_at_call 93;refine(A.o _).mono ?_;rintro d a1 ⟨rfl,rfl⟩)|(go_at_call 66;refine(B.o _ (by exact q.o.drewN 1)).mono ?_;rintro d b ⟨rfl,y⟩;have e:=(q.o.drewN 1).trans y;have x:b.cell? ⟨w.heap.size,0,none⟩=some (.int .i64 W)/\b.cell? ⟨w.heap.size,1,none⟩=some (.int .i64 H)/\b.cell? ⟨w.heap.size,2,none⟩=some (.int .i64 K)/\b.cell? ⟨w.heap.size,6,none⟩=some (.slice xp pix.length xc):=⟨(g.o b e).1,(g.o b e).2.1,(g.o b e).2.2.1,(g.o b e).2.2.2.2.2.2⟩)))
  go_wp2;go_ret;exact⟨rfl,Kept.trans l.o e⟩
theorem oV W H K D pp qp xp pc qc xc pal clr pix w(h:cu W H K D pal clr pix)(k:LAt w .i64 (.slice pp pal.length pc) pal)(t:LAt w .i64 (.slice qp clr.length qc) clr)(u:LAt w .i64 (.slice xp pix.length xc) pix):Calls prog 48 #[.agg #[.int .i64 W,.int .i64 H,.int .i64 K,.int .i64 D,.slice pp pal.length pc,.slice qp clr.length qc,.slice xp pix.length xc]] w λc d=>c=.returned (.int .i64 0)/\Kept w d:=by
 have e:Kept w (w.alloc (Obj.cells #[.int .i64 W,.int .i64 H,.int .i64 K,.int .i64 D,.slice pp pal.length pc,.slice qp clr.length qc,.slice xp pix.length xc] 33)):=Xw (Xs _ _) (E _) _;have f:∀b v,#[Value.int .i64 W,.int .i64 H,.int .i64 K,.int .i64 D,.slice pp pal.length pc,.slice qp clr.length qc,.slice xp pix.length xc][b]? = some v->(w.alloc (Obj.cells #[.int .i64 W,.int .i64 H,.int .i64 K,.int .i64 D,.slice pp pal.length pc,.slice qp clr.length qc,.slice xp pix.length xc] 33)).cell? ⟨w.heap.size,b,none⟩=some v:=by
  intro b v C;rw[Xr _ _ _ _ rfl];exact C
 have g:w.heap.size<(w.alloc (Obj.cells #[.int .i64 W,.int .i64 H,.int .i64 K,.int .i64 D,.slice pp pal.length pc,.slice qp clr.length qc,.slice xp pix.length xc] 33)).heap.size:=Xi;have x:Z (∀a:World,Kept (w.alloc (Obj.cells #[.int .i64 W,.int .i64 H,.int .i64 K,.int .i64 D,.slice pp pal.length pc,.slice qp clr.length qc,.slice xp pix.length xc] 33)) a->(a.cell? ⟨w.heap.size,0,none⟩=some (.int .i64 W)/\a.cell? ⟨w.heap.size,1,none⟩=some (.int .i64 H)/\a.cell? ⟨w.heap.size,2,none⟩=some (.int .i64 K)/\a.cell? ⟨w.heap.size,3,none⟩=some (.int .i64 D)/\a.cell? ⟨w.heap.size,4,none⟩=some (.slice pp pal.length pc)/\a.cell? ⟨w.heap.size,5,none⟩=some (.slice qp clr.length qc)/\a.cell? ⟨w.heap.size,6,none⟩=some (.slice xp pix.length xc))):=λa b=>⟨(b.cell (p:=⟨w.heap.size,0,none⟩) g).trans (f 0 _ rfl),(b.cell (p:=⟨w.heap.size,1,none⟩) g).trans (f 1 _ rfl),(b.cell (p:=⟨w.heap.size,2,none⟩) g).trans (f 2 _ rfl),(b.cell (p:=⟨w.heap.size,3,none⟩) g).trans (f 3 _ rfl),(b.cell (p:=⟨w.heap.size,4,none⟩) g).trans (f 4 _ rfl),(b.cell (p:=⟨w.heap.size,5,none⟩) g).trans (f 5 _ rfl),(b.cell (p:=⟨w.heap.size,6,none⟩) g).trans (f 6 _ rfl)⟩
 have F:Z (∀(a:World),Calls prog 59 #[.int .i64 W] a λc d=>c=.returned (.bool true)/\d=a):=λa=>np W a h.w1 h.w2
 have G:Z (∀(a:World),Calls prog 59 #[.int .i64 H] a λc d=>c=.returned (.bool true)/\d=a):=λa=>np H a h.h1 h.h2
 have I:Z (∀(a:World),Calls prog 60 #[.int .i64 K,.int .i64 D] a λc d=>c=.returned (.bool true)/\d=a):=λa=>Bh K D a h.lg
 have J:Z (∀a,Kept (w.alloc (Obj.cells #[.int .i64 W,.int .i64 H,.int .i64 K,.int .i64 D,.slice pp pal.length pc,.slice qp clr.length qc,.slice xp pix.length xc] 33)) a->Calls prog 61 #[.agg #[.int .i64 W,.int .i64 H,.int .i64 K,.int .i64 D,.slice pp pal.length pc,.slice qp clr.length qc,.slice xp pix.length xc]] a λc d=>c=.returned (.bool true)/\Kept a d):=λa b=>yS W H K D _ _ _ pal clr pix a h ((k.kept e).kept b)
 have L:Z (∀a,Kept (w.alloc (Obj.cells #[.int .i64 W,.int .i64 H,.int .i64 K,.int .i64 D,.slice pp pal.length pc,.slice qp clr.length qc,.slice xp pix.length xc] 33)) a->Calls prog 62 #[.agg #[.int .i64 W,.int .i64 H,.int .i64 K,.int .i64 D,.slice pp pal.length pc,.slice qp clr.length qc,.slice xp pix.length xc]] a λc d=>c=.returned (.bool true)/\Kept a d):=λa b=>yT W H K D pp qp xp pc qc xc pal clr pix a h ((k.kept e).kept b) ((t.kept e).kept b) ((u.kept e).kept b)
 have M:Z (∀a,Kept (w.alloc (Obj.cells #[.int .i64 W,.int .i64 H,.int .i64 K,.int .i64 D,.slice pp pal.length pc,.slice qp clr.length qc,.slice xp pix.length xc] 33)) a->Calls prog 63 #[.agg #[.int .i64 W,.int .i64 H,.int .i64 K,.int .i64 D,.slice pp pal.length pc,.slice qp clr.length qc,.slice xp pix.length xc]] a λc d=>c=.returned (.bool true)/\Kept a d):=λa b=>yR W H K D pp qp xp pc qc xc pal clr pix a h ((k.kept e).kept b) ((t.kept e).kept b) ((u.kept e).kept b)
 clear h k t u;replace e:Z _:=e;replace f:Z _:=f;go_enter func48,ntmps48;go_wp2_with fail;generalize (w.alloc (Obj.cells #[.int .i64 W,.int .i64 H,.int .i64 K,.int .i64 D,.slice pp pal.length pc,.slice qp clr.length qc,.slice xp pix.length xc] 33))=i at *;obtain⟨l,m,n,o,q,r,s⟩:=x.o i (Kept.refl _);refine(F.o _).mono ?_;rintro c i ⟨rfl,rfl⟩;go_wp2_with fail;refine(G.o _).mono ?_;rintro c i ⟨rfl,rfl⟩;go_wp2_with fail;refine(I.o _).mono ?_;rintro c i ⟨rfl,rfl⟩;go_wp2_with fail;refine(J.o _ (Kept.refl _)).mono ?_;rintro c z ⟨rfl,j⟩;clear l m n o q r s;obtain⟨l,m,n,o,q,r,s⟩:=x.o z j;replace j:Z (Kept i z):=j;go_wp2_with fail;refine(L.o _ j.o).mono ?_;rintro c A ⟨rfl,B⟩;clear l m n o q r s;have y:Z (Kept i A):=j.o.trans B;obtain⟨l,m,n,o,q,r,s⟩:=x.o A y.o;clear B;go_wp2_with fail;refine(M.o _ y.o).mono ?_;rintro c O ⟨rfl,N⟩;go_wp2;go_ret;exact⟨rfl,Kept.trans e.o (y.o.trans N)⟩
theorem mX(w:World):Calls prog 37 #[] w λr w'=>(∃a,r=.returned (.pointer (some a)))/\Kept w w':=by
 go_enter func37,ntmps37;go_wp2;go_ret;exact⟨⟨_,rfl⟩,Below.alloc (Below.refl _ _) (Nat.le_refl _) _⟩
