import Derived.Test.YtbedkdnphobmlaaGreatDoorProg
import Derived.Deep.CutBlock
import Derived.KernelRfl
import Derived.Test.YtbedkdnphobmlaaGreatDoorUaa00
import Derived.Test.YtbedkdnphobmlaaGreatDoorUaa01
import Derived.Test.YtbedkdnphobmlaaGreatDoorUaa06
import Derived.Test.YtbedkdnphobmlaaGreatDoorUaa07
import Derived.Test.YtbedkdnphobmlaaGreatDoorUaa13
set_option linter.all false
set_option maxRecDepth 100000
set_option maxHeartbeats 0
namespace Go.Proofs.YtbedkdnphobmlaaGreatDoor
open Go.RowKit Tryz
theorem dO c(n:Nat)w(g : -9223372036854775808<=c)(h:c<9223372036854775808)(i:1<=n)(j:n<=1099511627776):Calls prog 17 #[.int .i64 c,.int .i64 n] w λa b=>(∃k:Nat,k<n/\a=.returned (.int .i64 k))/\b=w:=by
 by_cases l:c<0
 .go_enter func17,ntmps17
  go_wp2;go_ret;have d : -(c+1).tmod (n:Int)=(-(c+1))%(n:Int):=by rw[<-Int.neg_tmod,XU O]
  have e:=Int.emod_nonneg (-(c+1)) (show(n:Int)≠0 from O);have f:=Int.emod_lt_of_pos (-(c+1)) (show(0:Int)<(n:Int) from O);exact⟨⟨((-(c+1))%(n:Int)).toNat,O,an (by rw[d];omega)⟩,rfl⟩
 .go_enter func17,ntmps17
  go_wp2;go_ret;have e:=Int.emod_nonneg c (show(n:Int)≠0 from O);have f:=Int.emod_lt_of_pos c (show(0:Int)<(n:Int) from O);exact⟨⟨(c%(n:Int)).toNat,O,an O⟩,rfl⟩
theorem dE(K:Nat)w(h:K=0\/K=2\/K=3\/K=4\/K=6):Calls prog 35 #[.int .i64 K] w λa b=>a=.returned (.int .i64 (chan K))/\b=w:=by
 rcases h with rfl|rfl|rfl|rfl|rfl
 all_goals
  go_enter func35,ntmps35;go_wp2;go_ret;exact⟨rfl,rfl⟩
theorem vN s(k:Nat)w(g:s.size<=65536)(h:k<=1048576):Calls prog 34 #[.string s,.int .i64 k] w λb c=>(∃v:Nat,v<256/\b=.returned (.int .i64 v))/\Kept w c:=by
 by_cases d:s.size=0
 .have e:((s.size:Int)==0)=true:=by rw[d];rfl
  go_enter func34,ntmps34;go_wp2;go_ret;exact⟨⟨0,O,rfl⟩,Kept.refl _⟩
 .have e:((s.size:Int)==0)=false:=by rw[F];omega
  have i:k%s.size<s.size:=YD _ O;have j:(k:Int).tmod (s.size:Int)=((k%s.size:Nat):Int):=by rw[XU O];exact Yo k s.size
  have l:=(Yo k s.size).symm;have m:((k%s.size:Nat):Int)<(s.size:Int):=O;generalize k%s.size=a at *;have n:(0:Int)<=(a:Int):=O;go_enter func34,ntmps34;go_wp2;go_ret;have f:s[a].toNat<256:=UInt8.toNat_lt _;refine⟨⟨s[a].toNat,f,an ?_⟩,Kept.refl _⟩;unfold wrap64;omega
theorem fY s t u v w(k:s.size<9223372036854775808)(l:t.size<9223372036854775808)(m:u.size<9223372036854775808)(n:v.size<9223372036854775808):Calls prog 10 #[.string s,.string t,.string u,.string v] w λe f=>e=.returned (.bool (decide (65536<s.size\/65536<t.size\/65536<u.size\/65536<v.size)))/\f=w:=by
 by_cases a:65536<s.size
 .have g:(65536:Int)<(s.size:Int):=O
  go_enter func10,ntmps10;go_wp2;go_ret;exact⟨bz (by simp[a]),rfl⟩
 .have g:¬(65536:Int)<(s.size:Int):=O
  by_cases b:65536<t.size
  .have h:(65536:Int)<(t.size:Int):=O
   go_enter func10,ntmps10;go_wp2;go_ret;exact⟨bz (by simp[b]),rfl⟩
  .have h:¬(65536:Int)<(t.size:Int):=O
   by_cases c:65536<u.size
   .have i:(65536:Int)<(u.size:Int):=O
    go_enter func10,ntmps10;go_wp2;go_ret;exact⟨bz (by simp[c]),rfl⟩
   .have i:¬(65536:Int)<(u.size:Int):=O
    by_cases d:65536<v.size
    .have j:(65536:Int)<(v.size:Int):=O
     go_enter func10,ntmps10;go_wp2;go_ret;exact⟨bz (by simp[d]),rfl⟩
    .have j:¬(65536:Int)<(v.size:Int):=O
     go_enter func10,ntmps10;go_wp2;go_ret;exact⟨bz (by simp[a,b,c,d]),rfl⟩
theorem A7:(prog.info? 3).map (λi=>(i.zero,i.size,i.bytes))=some (some (.int .i64 0),1,8):=Xk
def bj(w:World)(N:Nat)(v:Value)(l:List Int):Prop:=w.ownsRow N 3 1 v l.length (l.map (Value.int .i64))
theorem bj.slice{w N v l}(h:bj w N v l):∃a b,v=.slice a l.length b:=aW h
theorem bj.kept{w W N v l}(h:bj w N v l)(k:Kept w W):bj W N v l:=bZ h k
theorem bj.alloc{w N v l}(h:bj w N v l)o:bj (w.alloc o) N v l:=h.kept (Xw (Xs _ _) (E _) o)
theorem bj.drewN{w N v l}(h:bj w N v l)k:bj (w.drewN k) N v l:=h.kept ((Kept.refl _).drewN k)
theorem bj.set{w N v l}(h:bj w N v l){b}(a:b<N)k u:bj (w.setCell ⟨b,k,none⟩ u) N v l:=Yf h a _
theorem bj.ge{w N v l}(h:bj w N v l):∀a,v.ownBlock=some a->N<=a:=λa b=>(World.ownsRow.lt h a b).1
theorem bj.nil w N:bj w N (.slice none 0 0) []:=XR _ _ _ _
theorem bj.lat{w N v l}(h:bj w N v l):LAt w .i64 v l:=wR h
theorem Es w{ops rest o a}{i:Exit->Act->World->Prop}(n:o.guard=none)s x(p:o.op=Op.call {callee:=Callee.builtin Builtin.append,args:=#[s,x],argTypes:=#[31,31]})N v l(q:a.eval s=v)(r:bj w N v l)g c e(t:a.eval x=.slice (some ⟨g,0,none⟩) 1 c)(u:w.cell? ⟨g,0,none⟩=some (.int .i64 e))(F:l.length+1<=1048576)(y:N<=w.heap.size)(z:∀b d,bj d N b (l++[e])->Fr (λk=>v.ownBlock=some k) w d->(∀k,b.ownBlock=some k->v.ownBlock=some k\/w.heap.size<=k)->wpList prog ops i rest (a.put o.dst b) d):wpList prog ops i (o::rest) a w:=by
 refine bG w 31 31 3 1 8 (.int .i64 0) underlying31 A7 rfl O n s x p N v l.length (l.map (Value.int .i64)) q r ⟨g,0,none⟩ 1 c [.int .i64 e] t rfl O ?_ ?_ Xn O y ?_ rfl
 .intro j A f
  match j,f with
  | 0,f=>simp at f;subst f;exact u
  | j+1,f=>simp at f
 .intro A m;simp at m;subst m;rfl
 .intro b d B h C
  refine z b d ?_ ⟨h.os,h.tape,h.output,h.size,λk D E=>h.block k D (λe=>E e.symm)⟩ C;show d.ownsRow N 3 1 b (l++[e]).length ((l++[e]).map (Value.int .i64))
  rw[Xv,Zf];exact B
theorem oK{w ops o a}{K:Act->World->Prop}{p:Exit->Act->World->Prop}{q:Prop}(r:o.guard=none)s x(t:o.op=Op.call {callee:=Callee.builtin Builtin.append,args:=#[s,x],argTypes:=#[31,31]})N v l(u:a.eval s=v)(y:bj w N v l)g c e(z:a.eval x=.slice (some ⟨g,0,none⟩) 1 c)(A:w.cell? ⟨g,0,none⟩=some (.int .i64 e))(S:l.length+1<=1048576)(B:N<=w.heap.size)(C:∀b i d,bj d N (.slice (some ⟨b,0,none⟩) (l.length+1) i) (l++[e])->Fr (λk=>v.ownBlock=some k) w d->(v.ownBlock=some b\/w.heap.size<=b)->K (a.put o.dst (.slice (some ⟨b,0,none⟩) (l.length+1) i)) d):if Region.wanted o (yielded ops a.tmps)=true then Oper.wp prog o a w K p else q:=by
 obtain⟨D,E,F,G,H⟩:=info_parts' A7;refine step_append_lies w r s x 31 t N 3 D (.int .i64 0) 1 8 underlying31 E F G H rfl O v l.length (l.map (Value.int .i64)) u y ⟨g,0,none⟩ 1 c [.int .i64 e] z rfl ?_ ?_ O Xn O B w.heap.size rfl ?_
 .intro j I f
  match j,f with
  | 0,f=>simp at f;subst f;exact A
  | j+1,f=>simp at f
 .intro I m;simp at m;subst m;rfl
 .intro b i d J h M T
  refine C b i d ?_ ⟨h.os,h.tape,h.output,h.size,λk P Q=>h.block k P (λe=>Q e.symm)⟩ (by rcases M with n|n;exact L n;exact R O);show d.ownsRow N 3 1 _ (l++[e]).length ((l++[e]).map (Value.int .i64))
  rw[Xv,Zf];exact J
structure ea (w W:World) (x N so:Nat) (s t:ByteArray) (P V Z:Int) (fv kv cv:Value) (fl kl cl:List Int):Prop where
 lt:x<N
 sN:so<N
 sx:so≠x
 size:N<=W.heap.size
 fz:∀k,W.frozen? ⟨x,k,none⟩=false
 c8:W.cell? ⟨x,8,none⟩=some fv
 c9:W.cell? ⟨x,9,none⟩=some kv
 c11:W.cell? ⟨x,11,none⟩=some cv
 c10:W.cell? ⟨x,10,none⟩=some (.int .i64 P)
 c12:W.cell? ⟨x,12,none⟩=some (.int .i64 V)
 c13:W.cell? ⟨x,13,none⟩=some (.int .i64 Z)
 of:bj W N fv fl
 ok:bj W N kv kl
 oc:bj W N cv cl
 fk:∀g,fv.ownBlock=some g->kv.ownBlock≠some g
 fc:∀g,fv.ownBlock=some g->cv.ownBlock≠some g
 kc:∀g,kv.ownBlock=some g->cv.ownBlock≠some g
 o3:W.cell? ⟨so,3,none⟩=some (.string s)
 o4:W.cell? ⟨so,4,none⟩=some (.string t)
 rest:∀j,j<8\/13<j->W.cell? ⟨x,j,none⟩=w.cell? ⟨x,j,none⟩
 fr:Fr1 x w W
 wN:w.heap.size<=N
theorem dT{S:Nat->Prop}{w W N v l}(h:bj w N v l)(k:Fr S w W)(d:∀a,v.ownBlock=some a->¬S a):bj W N v l:=by
 refine⟨h.1,?_⟩;rcases h.2 with e|⟨a,f,g,b,i,c,j⟩
 .exact L e
 .refine R ⟨a,f,g,b,i,?_,j⟩
  rw[k.block a ((Array.getElem?_eq_some_iff.1 c).1) (d a (by rw[b];rfl))];exact c
theorem ea.grow_f{w W W2 x N so s t P V Z fv kv cv fl kl cl}(h:ea w W x N so s t P V Z fv kv cv fl kl cl)v' l'(e:Fr (λg=>fv.ownBlock=some g) W W2)(v:bj W2 N v' l')(p:∀g,v'.ownBlock=some g->fv.ownBlock=some g\/W.heap.size<=g):ea w (W2.setCell ⟨x,8,none⟩ v') x N so s t P V Z v' kv cv l' kl cl:=by
 have i:=Xq h.lt h.size;have j:=h.lt;have B:=h.sx;have l:=h.of.ge;have m:¬fv.ownBlock=some x:=λc=>by have:=l x c;omega
 have y:¬fv.ownBlock=some so:=λc=>by have:=l so c;have:=h.sN;omega
 have c:∀b,b≠8->(W2.setCell ⟨x,8,none⟩ v').cell? ⟨x,b,none⟩=W.cell? ⟨x,b,none⟩:=λb n=>(aa _ _ _ _ _ (λa=>n a.symm)).trans (e.cell i m)
 have q:∀b,(W2.setCell ⟨x,8,none⟩ v').cell? ⟨so,b,none⟩=W.cell? ⟨so,b,none⟩:=λb=>(Yl _ _ _ _ (by intro a;injection a;omega)).trans (e.cell (Xq h.sN h.size) y)
 have z:(W2.setCell ⟨x,8,none⟩ v').heap.size=W2.heap.size:=by simp[World.setCell]
 have r:∀(o:Value) (u:List Int),bj W N o u->∀g,o.ownBlock=some g->g<W.heap.size:=λo u a g d=>(World.ownsRow.lt a g d).2
 exact⟨h.lt,h.sN,h.sx,by rw[z];exact Xz h.size e.size,λA=>by rw[Xy];exact(e.frozen i m).trans (h.fz A),af ((e.cell (k:=8) i m).trans h.c8) _,(c 9 O).trans h.c9,(c 11 O).trans h.c11,(c 10 O).trans h.c10,(c 12 O).trans h.c12,(c 13 O).trans h.c13,v.set j _ _,(dT h.ok e (λg d a=>h.fk g a d)).set j _ _,(dT h.oc e (λg d a=>h.fc g a d)).set j _ _,λg d a=>by rcases p g d with f|f;exact h.fk g f a;have:=r _ _ h.ok g a;omega,λg d a=>by rcases p g d with f|f;exact h.fc g f a;have:=r _ _ h.oc g a;omega,h.kc,(q 3).trans h.o3,(q 4).trans h.o4,λb n=>(c b O).trans (h.rest b n),Fr.setCell (S:=λg=>g=x) (Fr.trans' h.fr e (λg d a=>by have:=l g a;have:=h.wN;omega)) (L rfl) _ _,h.wN⟩
theorem ea.grow_k{w W W2 x N so s t P V Z fv kv cv fl kl cl}(h:ea w W x N so s t P V Z fv kv cv fl kl cl)v' l'(e:Fr (λg=>kv.ownBlock=some g) W W2)(v:bj W2 N v' l')(p:∀g,v'.ownBlock=some g->kv.ownBlock=some g\/W.heap.size<=g):ea w (W2.setCell ⟨x,9,none⟩ v') x N so s t P V Z fv v' cv fl l' cl:=by
 have i:=Xq h.lt h.size;have j:=h.lt;have B:=h.sx;have l:=h.ok.ge;have m:¬kv.ownBlock=some x:=λd=>by have:=l x d;omega
 have y:¬kv.ownBlock=some so:=λd=>by have:=l so d;have:=h.sN;omega
 have d:∀b,b≠9->(W2.setCell ⟨x,9,none⟩ v').cell? ⟨x,b,none⟩=W.cell? ⟨x,b,none⟩:=λb n=>(aa _ _ _ _ _ (λa=>n a.symm)).trans (e.cell i m)
 have q:∀b,(W2.setCell ⟨x,9,none⟩ v').cell? ⟨so,b,none⟩=W.cell? ⟨so,b,none⟩:=λb=>(Yl _ _ _ _ (by intro a;injection a;omega)).trans (e.cell (Xq h.sN h.size) y)
 have z:(W2.setCell ⟨x,9,none⟩ v').heap.size=W2.heap.size:=by simp[World.setCell]
 have r:∀(o:Value) (u:List Int),bj W N o u->∀g,o.ownBlock=some g->g<W.heap.size:=λo u a g c=>(World.ownsRow.lt a g c).2
 exact⟨h.lt,h.sN,h.sx,by rw[z];exact Xz h.size e.size,λA=>by rw[Xy];exact(e.frozen i m).trans (h.fz A),(d 8 O).trans h.c8,af ((e.cell (k:=9) i m).trans h.c9) _,(d 11 O).trans h.c11,(d 10 O).trans h.c10,(d 12 O).trans h.c12,(d 13 O).trans h.c13,(dT h.of e (λg c a=>h.fk g c a)).set j _ _,v.set j _ _,(dT h.oc e (λg c a=>h.kc g a c)).set j _ _,λg c a=>by rcases p g a with f|f;exact h.fk g c f;have:=r _ _ h.of g c;omega,h.fc,λg c a=>by rcases p g c with f|f;exact h.kc g f a;have:=r _ _ h.oc g a;omega,(q 3).trans h.o3,(q 4).trans h.o4,λb n=>(d b O).trans (h.rest b n),Fr.setCell (S:=λg=>g=x) (Fr.trans' h.fr e (λg c a=>by have:=l g a;have:=h.wN;omega)) (L rfl) _ _,h.wN⟩
theorem ea.grow_c{w W W2 x N so s t P V Z fv kv cv fl kl cl}(h:ea w W x N so s t P V Z fv kv cv fl kl cl)v' l'(e:Fr (λg=>cv.ownBlock=some g) W W2)(v:bj W2 N v' l')(p:∀g,v'.ownBlock=some g->cv.ownBlock=some g\/W.heap.size<=g):ea w (W2.setCell ⟨x,11,none⟩ v') x N so s t P V Z fv kv v' fl kl l':=by
 have i:=Xq h.lt h.size;have j:=h.lt;have B:=h.sx;have l:=h.oc.ge;have m:¬cv.ownBlock=some x:=λd=>by have:=l x d;omega
 have y:¬cv.ownBlock=some so:=λd=>by have:=l so d;have:=h.sN;omega
 have d:∀c,c≠11->(W2.setCell ⟨x,11,none⟩ v').cell? ⟨x,c,none⟩=W.cell? ⟨x,c,none⟩:=λc n=>(aa _ _ _ _ _ (λa=>n a.symm)).trans (e.cell i m)
 have q:∀c,(W2.setCell ⟨x,11,none⟩ v').cell? ⟨so,c,none⟩=W.cell? ⟨so,c,none⟩:=λc=>(Yl _ _ _ _ (by intro a;injection a;omega)).trans (e.cell (Xq h.sN h.size) y)
 have z:(W2.setCell ⟨x,11,none⟩ v').heap.size=W2.heap.size:=by simp[World.setCell]
 have r:∀(o:Value) (u:List Int),bj W N o u->∀g,o.ownBlock=some g->g<W.heap.size:=λo u a g b=>(World.ownsRow.lt a g b).2
 exact⟨h.lt,h.sN,h.sx,by rw[z];exact Xz h.size e.size,λA=>by rw[Xy];exact(e.frozen i m).trans (h.fz A),(d 8 O).trans h.c8,(d 9 O).trans h.c9,af ((e.cell (k:=11) i m).trans h.c11) _,(d 10 O).trans h.c10,(d 12 O).trans h.c12,(d 13 O).trans h.c13,(dT h.of e (λg b a=>h.fc g b a)).set j _ _,(dT h.ok e (λg b a=>h.kc g b a)).set j _ _,v.set j _ _,h.fk,λg b a=>by rcases p g a with f|f;exact h.fc g b f;have:=r _ _ h.of g b;omega,λg b a=>by rcases p g a with f|f;exact h.kc g b f;have:=r _ _ h.ok g b;omega,(q 3).trans h.o3,(q 4).trans h.o4,λc n=>(d c O).trans (h.rest c n),Fr.setCell (S:=λg=>g=x) (Fr.trans' h.fr e (λg b a=>by have:=l g a;have:=h.wN;omega)) (L rfl) _ _,h.wN⟩
theorem mu N p c l e w(h:bj w N (.slice p l.length c) l)(k:N<=w.heap.size)(s:l.length<=65536):Calls prog 36 #[.slice p l.length c,.int .i64 e] w λm g=>∃a d b,m=.returned (.slice (some ⟨a,0,none⟩) (List.length b) d)/\bj g N (.slice (some ⟨a,0,none⟩) b.length d) b/\0<b.length/\(b=[e]\/b=l)/\((Value.slice p l.length c).ownBlock=some a\/w.heap.size<=a)/\Kept w g:=by
 by_cases n:l.length=0
 .have o:((l.length:Int)==0)=true:=by rw[n];rfl
  have f:=U h;clear h;go_enter func36,ntmps36;go_wp2;go_ret;refine⟨_,_,[e],rfl,?_,Xi,L rfl,R (E _),Xw (Xs _ _) (E _) _⟩;exact World.ownsRow_lit w _ 1 k Xn rfl
 .have o:((l.length:Int)==0)=false:=by rw[F];omega
  have f:=U h;clear h;obtain⟨a,i,rfl,rfl⟩:∃a i,p=some ⟨a,0,none⟩/\c=i:=by
   rcases f.o.2 with⟨j,t⟩|⟨a,d,u,j,_⟩
   .omega
   .injection j with q v r
    exact⟨a,d,q,r⟩
  go_enter func36,ntmps36;go_wp2;go_ret;exact⟨a,_,l,rfl,f.o,O,R rfl,L rfl,Kept.refl _⟩
theorem qt{g1 n d m A}(h:A=some g1\/m<=g1):∀a,(Value.slice (some ⟨g1,0,none⟩) n d).ownBlock=some a->A=some a\/m<=a:=by
 intro a b;have c:g1=a:=by injection b
 subst c;exact h
theorem bj.cell0{w N g cap l}(h:bj w N (.slice (some ⟨g,0,none⟩) l.length cap) l)j(a:j<l.length):w.cell? ⟨g,j,none⟩=some (.int .i64 (l.getD j 0)):=by
 have:=World.ownsRow.cellAt h j O
 rw[this,XQ,Xt a];simp[G,Xt a]
theorem bj.stored{w N g cap l}(h:bj w N (.slice (some ⟨g,0,none⟩) l.length cap) l)j e:bj (w.setCell ⟨g,j,none⟩ (.int .i64 e)) N (.slice (some ⟨g,0,none⟩) l.length cap) (l.set j e):=by
 have:=(World.ownsRow.stored h j (.int .i64 e)).1
 unfold bj;rw[List.length_set,List.map_set];exact this
theorem ea.first{w W x N so g cap s t P V Z fv kv fl kl cl}(h:ea w W x N so s t P V Z fv kv (.slice (some ⟨g,0,none⟩) cl.length cap) fl kl cl)e:ea w (W.setCell ⟨g,0,none⟩ (.int .i64 e)) x N so s t P V Z fv kv (.slice (some ⟨g,0,none⟩) cl.length cap) fl kl (cl.set 0 e):=by
 have o:=h.oc.ge g rfl;have p:=h.lt;have q:=h.sN;have d:Fr (λb=>b=g) W (W.setCell ⟨g,0,none⟩ (.int .i64 e)):=Fr.setCell (S:=λb=>b=g) (Fr.refl _ _) (L rfl) _ _;have j:=Xq h.lt h.size;have k:¬x=g:=O;have m:¬so=g:=O;have c:∀a,(W.setCell ⟨g,0,none⟩ (.int .i64 e)).cell? ⟨x,a,none⟩=W.cell? ⟨x,a,none⟩:=λa=>d.cell j k
 have l:∀a,(W.setCell ⟨g,0,none⟩ (.int .i64 e)).cell? ⟨so,a,none⟩=W.cell? ⟨so,a,none⟩:=λa=>d.cell (Xq h.sN h.size) m
 exact⟨h.lt,h.sN,h.sx,Xz h.size d.size,λb=>(d.frozen j k).trans (h.fz b),(c 8).trans h.c8,(c 9).trans h.c9,(c 11).trans h.c11,(c 10).trans h.c10,(c 12).trans h.c12,(c 13).trans h.c13,dT h.of d (λb f i=>by subst i;exact h.fc _ f rfl),dT h.ok d (λb f i=>by subst i;exact h.kc _ f rfl),h.oc.stored 0 e,h.fk,h.fc,h.kc,(l 3).trans h.o3,(l 4).trans h.o4,λa n=>(c a).trans (h.rest a n),Fr.setCell (S:=λb=>b=x) h.fr (R (by have:=h.wN;omega)) _ _,h.wN⟩
structure ChR (w W:World) (x P V Z:Nat) (fp kp cp:Option Addr) (fc kc cc:Nat) (fl kl cl:List Int):Prop where
 ok:∀L,L<=1->rG L P V fl kl cl
 z:Z<=64
 fz:∀k,W.frozen? ⟨x,k,none⟩=false
 c8:W.cell? ⟨x,8,none⟩=some (.slice fp fl.length fc)
 c9:W.cell? ⟨x,9,none⟩=some (.slice kp kl.length kc)
 c10:W.cell? ⟨x,10,none⟩=some (.int .i64 (P:Int))
 c11:W.cell? ⟨x,11,none⟩=some (.slice cp cl.length cc)
 c12:W.cell? ⟨x,12,none⟩=some (.int .i64 (V:Int))
 c13:W.cell? ⟨x,13,none⟩=some (.int .i64 (Z:Int))
 lf:LAt W .i64 (.slice fp fl.length fc) fl
 lk:LAt W .i64 (.slice kp kl.length kc) kl
 lc:LAt W .i64 (.slice cp cl.length cc) cl
 bf:∀g,ai (.slice fp fl.length fc)=some g->w.heap.size<=g/\g<W.heap.size
 bk:∀g,ai (.slice kp kl.length kc)=some g->w.heap.size<=g/\g<W.heap.size
 bc:∀g,ai (.slice cp cl.length cc)=some g->w.heap.size<=g/\g<W.heap.size
 rest:∀j,j<8\/13<j->W.cell? ⟨x,j,none⟩=w.cell? ⟨x,j,none⟩
 fr:Fr1 x w W
theorem ea.done{w W}{x so P V Z:Nat}{s t fp kp cp fc kc cc fl kl cl}(h:ea w W x (w.heap.size+1) so s t ((P:Int)+1) (V:Int) (Z:Int) (.slice fp fl.length fc) (.slice kp kl.length kc) (.slice cp cl.length cc) fl kl cl)(z:P<4000)(A:V<8)(B:Z<65)(k:0<fl.length)(l:fl.length<=64)(m:∀a∈fl,0<=a/\a<=4)(n:0<kl.length)(o:kl.length<=64)(p:∀a∈kl,0<=a/\a<=2)(g:0<cl.length)(q:cl.length<=64)(i:∀a∈cl,0<=a/\a<=255)(C:cl.getD 0 0≠0):ChR w W x (P+1) V Z fp kp cp fc kc cc fl kl cl:=by
 have f:∀(d:Option Addr) (e:Nat) (c:List Int),bj W (w.heap.size+1) (.slice d c.length e) c->∀b,ai (.slice d c.length e)=some b->w.heap.size<=b/\b<W.heap.size:=λd e c j b r=>by
  have u:(Value.slice d c.length e).ownBlock=some b:=by rw[<-fA _ j];exact r
  have:=World.ownsRow.lt j b u
  omega
 exact⟨λD v=>⟨v,O,O,O,k,l,m,n,o,p,g,q,λa y=>by have:=i a y;omega,by have:=i _ (az g);omega⟩,O,h.fz,h.c8,h.c9,h.c10,h.c11,h.c12,h.c13,h.of.lat,h.ok.lat,h.oc.lat,f _ _ _ h.of,f _ _ _ h.ok,f _ _ _ h.oc,h.rest,h.fr⟩
theorem mv{l' l}{e b c:Int}(h:l'=[e]\/l'=l)(f:b<=e/\e<=c)(g:∀a∈l,b<=a/\a<=c):∀a∈l',b<=a/\a<=c:=by
 intro a d;rcases h with rfl|rfl
 .simp at d;subst d;exact f
 .exact g a d
theorem mw{l' l}{e:Int}(h:l'=[e]\/l'=l)(a:l.length<=64):l'.length<=64:=by
 rcases h with rfl|rfl
 .simp
 .exact a
theorem iw(x A B C:Nat)s t w(e9:x<w.heap.size)(f0:∀I,w.frozen? ⟨x,I,none⟩=false)(f1:∀c,c<15->(w.cell? ⟨x,c,none⟩).isSome=true)(m7:A<=1099511627776)(g4:B<=1099511627776)(j:C<=1099511627776)(m8:s.size<=65536)(m9:t.size<=65536):Calls prog 19 #[.pointer (some ⟨x,0,none⟩),.agg #[.int .i64 A,.int .i64 B,.int .i64 C,.string s,.string t]] w λX f2=>X=.returned (.tuple #[])/\∃m n Z:Nat,∃j8 j9 k0:Option Addr,∃k1 k2 b2:Nat,∃d e g:List Int,ChR w f2 x m n Z j8 j9 k0 k1 k2 b2 d e g:=by
 have f3:ZH0 (∀(o:World) (d8 b8:Nat),d8<=1099511627776->1<=b8->b8<=1099511627776->Calls prog 17 #[.int .i64 d8,.int .i64 b8] o λX f2=>(∃I:Nat,I<b8/\X=.returned (.int .i64 I))/\f2=o):=λo d8 b8 n0 k3 k4=>dO (d8:Int) b8 o O O k3 k4
 have b3:Kept w (w.alloc (Obj.cells #[.int .i64 A,.int .i64 B,.int .i64 C,.string s,.string t] 41)):=Xw (Xs _ _) (E _) _;have n1:w.heap.size<(w.alloc (Obj.cells #[.int .i64 A,.int .i64 B,.int .i64 C,.string s,.string t] 41)).heap.size:=Xi;have Y:∀c,c<15->((w.alloc (Obj.cells #[.int .i64 A,.int .i64 B,.int .i64 C,.string s,.string t] 41)).cell? ⟨x,c,none⟩).isSome=true:=λc g5=>by rw[b3.cell (p:=⟨x,c,none⟩) e9];exact f1 c g5
 have N:∀I,(w.alloc (Obj.cells #[.int .i64 A,.int .i64 B,.int .i64 C,.string s,.string t] 41)).frozen? ⟨x,I,none⟩=false:=λI=>(b3.frozen (p:=⟨x,I,none⟩) e9).trans (f0 I)
 have k5:(w.alloc (Obj.cells #[.int .i64 A,.int .i64 B,.int .i64 C,.string s,.string t] 41)).cell? ⟨w.heap.size,1,none⟩=some (.int .i64 B):=by rw[Xr _ _ _ _ rfl];rfl
 have k6:(w.alloc (Obj.cells #[.int .i64 A,.int .i64 B,.int .i64 C,.string s,.string t] 41)).cell? ⟨w.heap.size,2,none⟩=some (.int .i64 C):=by rw[Xr _ _ _ _ rfl];rfl
 have g6:(w.alloc (Obj.cells #[.int .i64 A,.int .i64 B,.int .i64 C,.string s,.string t] 41)).cell? ⟨w.heap.size,3,none⟩=some (.string s):=by rw[Xr _ _ _ _ rfl];rfl
 have g7:(w.alloc (Obj.cells #[.int .i64 A,.int .i64 B,.int .i64 C,.string s,.string t] 41)).cell? ⟨w.heap.size,4,none⟩=some (.string t):=by rw[Xr _ _ _ _ rfl];rfl
 have n2:w.heap.size≠x:=O;replace b3:ZH0 _:=b3;replace f0:ZH0 _:=f0;replace f1:ZH0 _:=f1;go_enter func19,ntmps19;go_wp2_with fail;generalize (w.alloc (Obj.cells #[.int .i64 A,.int .i64 B,.int .i64 C,.string s,.string t] 41))=f4 at *;obtain⟨n3,g8⟩:=Option.isSome_iff_exists.1 (Y 8 O);obtain⟨n4,g9⟩:=Option.isSome_iff_exists.1 (Y 9 O);obtain⟨n5,h0⟩:=Option.isSome_iff_exists.1 (Y 10 O);obtain⟨n6,h1⟩:=Option.isSome_iff_exists.1 (Y 11 O);obtain⟨n7,h2⟩:=Option.isSome_iff_exists.1 (Y 12 O);obtain⟨n8,h3⟩:=Option.isSome_iff_exists.1 (Y 13 O);have c1:=N 8;have c2:=N 9;have k7:=N 10;have d9:=N 11;have k8:=N 12;have k9:=N 13;replace N:ZH0 _:=N;replace Y:ZH0 _:=Y;refine(f3.o _ A 4000 O O O).mono ?_;rintro X f4 ⟨⟨m,h4,rfl⟩,rfl⟩;go_wp2_with fail;refine(f3.o _ B 8 O O O).mono ?_;rintro X f5 ⟨⟨n,h5,rfl⟩,f6⟩;subst f6;go_wp2_with fail;refine(f3.o _ C 65 O O O).mono ?_;rintro X f5 ⟨⟨Z,h6,rfl⟩,f6⟩;subst f6;go_upto_block 0 with fail
 have f7:ZH0 (ea w ((((((f4.setCell ⟨x,10,none⟩ (Value.int IntKind.i64 ((m:Int)+1))).setCell ⟨x,12,none⟩ (Value.int IntKind.i64 (n:Int))).setCell ⟨x,13,none⟩ (Value.int IntKind.i64 (Z:Int))).setCell ⟨x,8,none⟩ (Value.slice none 0 0)).setCell ⟨x,9,none⟩ (Value.slice none 0 0)).setCell ⟨x,11,none⟩ (Value.slice none 0 0)) x (w.heap.size+1) w.heap.size s t ((m:Int)+1) (n:Int) (Z:Int) (.slice none 0 0) (.slice none 0 0) (.slice none 0 0) [] [] []):=by
  have b:∀(o:World) (a0 a7:Nat) (a8:Value),a0≠a7->(o.setCell ⟨x,a0,none⟩ a8).cell? ⟨x,a7,none⟩=o.cell? ⟨x,a7,none⟩:=λo a0 a7 a8 l0=>aa _ _ _ _ _ l0
  have h7:∀(o:World) (a0 a7:Nat) (a8:Value),(o.setCell ⟨x,a0,none⟩ a8).cell? ⟨w.heap.size,a7,none⟩=o.cell? ⟨w.heap.size,a7,none⟩:=λo a0 a7 a8=>Yl _ _ _ _ (by intro f;injection f;omega)
  have l1:∀(o:World) (a0:Nat) (a8:Value),(o.setCell ⟨x,a0,none⟩ a8).heap.size=o.heap.size:=λo a0 a8=>by simp[World.setCell]
  refine⟨O,O,O,by simp only[l1];omega,λI=>by simp only[Xy];exact N.o I,?_,?_,?_,?_,?_,?_,bj.nil _ _,bj.nil _ _,bj.nil _ _,(λa9 J=>by cases J),(λa9 J=>by cases J),(λa9 J=>by cases J),?_,?_,?_,?_,O⟩
  .rw[b _ 11 8 _ O,b _ 9 8 _ O]
   exact af (by rw[b _ 13 8 _ O,b _ 12 8 _ O,b _ 10 8 _ O];exact g8) _
  .rw[b _ 11 9 _ O]
   exact af (by rw[b _ 8 9 _ O,b _ 13 9 _ O,b _ 12 9 _ O,b _ 10 9 _ O];exact g9) _
  .exact af (by rw[b _ 9 11 _ O,b _ 8 11 _ O,b _ 13 11 _ O,b _ 12 11 _ O,b _ 10 11 _ O];exact h1) _
  .rw[b _ 11 10 _ O,b _ 9 10 _ O,b _ 8 10 _ O,b _ 13 10 _ O,b _ 12 10 _ O]
   exact af h0 _
  .rw[b _ 11 12 _ O,b _ 9 12 _ O,b _ 8 12 _ O,b _ 13 12 _ O]
   exact af (by rw[b _ 10 12 _ O];exact h2) _
  .rw[b _ 11 13 _ O,b _ 9 13 _ O,b _ 8 13 _ O]
   exact af (by rw[b _ 12 13 _ O,b _ 10 13 _ O];exact h3) _
  .simp only[h7];exact g6
  .simp only[h7];exact g7
  .intro c g5
   rw[b _ 11 c _ O,b _ 9 c _ O,b _ 8 c _ O,b _ 13 c _ O,b _ 12 c _ O,b _ 10 c _ O];exact b3.o.cell (p:=⟨x,c,none⟩) e9
  .exact Fr1.set (Fr1.set (Fr1.set (Fr1.set (Fr1.set (Fr1.set (Fr.of_kept b3.o) _ _) _ _) _ _) _ _) _ _) _ _
 generalize ((((((f4.setCell ⟨x,10,none⟩ (Value.int IntKind.i64 ((m:Int)+1))).setCell ⟨x,12,none⟩ (Value.int IntKind.i64 (n:Int))).setCell ⟨x,13,none⟩ (Value.int IntKind.i64 (Z:Int))).setCell ⟨x,8,none⟩ (Value.slice none 0 0)).setCell ⟨x,9,none⟩ (Value.slice none 0 0)).setCell ⟨x,11,none⟩ (Value.slice none 0 0))=n9 at *;clear g8 g9 h0 h1 h2 h3 c1 c2 k7 d9 k8 k9 k5 k6 g6 g7 N Y b3;go_cut [] from 7 (λb4=>∃D H:Value,∃d e:List Int,d.length<=64/\e.length<=64/\(∀a∈d,0<=a/\a<=4)/\(∀a∈e,0<=a/\a<=2)/\ea w b4 x (w.heap.size+1) w.heap.size s t ((m:Int)+1) (n:Int) (Z:Int) D H (.slice none 0 0) d e [])
 case first=>
  go_wp2_with fail;go_loopw [5] (λb5 b4=>∃i:Nat,∃D H:Value,∃d e:List Int,b5=.int .i64 i/\i<=s.size/\i<=64/\d.length=i/\e.length=i/\(∀a∈d,0<=a/\a<=4)/\(∀a∈e,0<=a/\a<=2)/\ea w b4 x (w.heap.size+1) w.heap.size s t ((m:Int)+1) (n:Int) (Z:Int) D H (.slice none 0 0) d e []) (λb5 _=>64-(intOf b5).toNat)
  case atStart=>exact⟨0,_,_,[],[],rfl,O,O,rfl,rfl,λa y=>by simp at y,λa y=>by simp at y,f7.o⟩
  case round=>
   obtain⟨i,D,H,d,e,rfl,o0,o1,P,Q,a1,a2,h⟩:=hrel;clear f7;by_cases l2:i<s.size/\i<64
   .obtain⟨e0,h8⟩:=l2
    have o2:(i:Int)<(s.size:Int):=O;have o3:(i:Int)<64:=O;have o4:(0:Int)<=(i:Int):=O;obtain⟨c3,c4,rfl⟩:=h.of.slice;obtain⟨c5,c6,rfl⟩:=h.ok.slice;have h9:=h.c8;have f8:=h.o3;have l3:=h.size;have c7:x<wr.heap.size:=O;replace P:ZH0 _:=P;replace Q:ZH0 _:=Q;replace a1:ZH0 _:=a1;replace a2:ZH0 _:=a2;have o5:d.length<=64:=by have:=P.o;omega
    have f9:=U h.of;have a3:¬(Value.slice c3 d.length c4).ownBlock=some x:=λK=>by have:=f9.o.ge x K;omega
    replace h:ZH0 _:=h;go_wp2;have g4:s[i].toNat<256:=UInt8.toNat_lt _;obtain⟨r,a4⟩:∃r:Int,r=(IntKind.i64.wrap (s[i].toNat:Int)).tmod 5:=⟨_,rfl⟩;have l4:0<=r/\r<=4:=by
     rw[a4,wrapN _ O,XU O];omega
    replace a4:ZH0 (r=(IntKind.i64.wrap (s[i].toNat:Int)).tmod 5):=a4;go_region_law ((refine oK (by rfl) _ _ (by rfl) (w.heap.size+1) (.slice c3 d.length c4) d (by rfl) (by exact(f9.o.alloc _).drewN 1) wr.heap.size 1 r (by rfl) (by rw[a4.o];simp) O Xf ?_;intro e1 i0 e2 c8 c9 d0;have u:=(((Fr.refl _ wr).alloc _).drewN 1).trans c9;have d1:=(u.cell (k:=8) c7 a3).trans h9;have l5:=(u.frozen (k:=8) c7 a3).trans (h.fz 8)))
    all_goals
     have l:ZH0 _:=ea.grow_f h.o _ _ u c8 (λa9 J=>by
      have K:e1=a9:=by injection J
      subst K;rcases d0 with f|f
      .exact L f
      .exact R (by simp at f;omega))
     clear u c9 c8 d0 d1 l5 h h9 f8 f9 a3;generalize e2.setCell ⟨x,8,none⟩ (Value.slice (some ⟨e1,0,none⟩) (d.length+1) i0)=d2 at *;have l6:=l.o.c9;have f8:=l.o.o3;have o6:=l.o.size;have i1:x<d2.heap.size:=O;have i2:=U l.o.ok;have a3:¬(Value.slice c5 e.length c6).ownBlock=some x:=λK=>by have:=i2.o.ge x K;omega
     have o7:e.length<=64:=by have:=Q.o;omega
     go_wp2;obtain⟨b6,e3⟩:∃b6:Int,b6=(IntKind.i64.wrap ((IntKind.i64.wrap (s[i].toNat:Int)).tdiv 5)).tmod 3:=⟨_,rfl⟩;have o8:0<=b6/\b6<=2:=by
      rw[e3,wrapN _ O,XZ O,lZ _ O O,XU O];omega
     replace e3:ZH0 (b6=(IntKind.i64.wrap ((IntKind.i64.wrap (s[i].toNat:Int)).tdiv 5)).tmod 3):=e3;go_region_law ((refine oK (by rfl) _ _ (by rfl) (w.heap.size+1) (.slice c5 e.length c6) e (by rfl) (by exact(i2.o.alloc _).drewN 1) d2.heap.size 1 b6 (by rfl) (by rw[e3.o];simp) O Xf ?_;intro l7 o9 i3 i4 i5 i6;have u:=(((Fr.refl _ d2).alloc _).drewN 1).trans i5;have a5:=(u.cell (k:=9) i1 a3).trans l6;have l8:=(u.frozen (k:=9) i1 a3).trans (l.o.fz 9)))
     all_goals
      have g0:ZH0 _:=ea.grow_k l.o _ _ u i4 (λa9 J=>by
       have K:l7=a9:=by injection J
       subst K;rcases i6 with f|f
       .exact L f
       .exact R (by simp at f;omega))
      clear u i5 i4 i6 a5 l8;go_wp2;refine⟨⟨i+1,_,_,d++[r],e++[b6],Xj,O,O,by simp;exact P.o,by simp;exact Q.o,?_,?_,g0.o⟩,Xb⟩
      .intro a y
       rcases XW.1 y with f|f
       .exact a1.o a f
       .simp at f;omega
      .intro a y
       rcases XW.1 y with f|f
       .exact a2.o a f
       .simp at f;omega
   .replace h:ZH0 _:=h
    have d3:d.length<=64:=O;have d4:ZH0 (∃D H:Value,∃d e:List Int,d.length<=64/\e.length<=64/\(∀a∈d,0<=a/\a<=4)/\(∀a∈e,0<=a/\a<=2)/\ea w wr x (w.heap.size+1) w.heap.size s t ((m:Int)+1) (n:Int) (Z:Int) D H (.slice none 0 0) d e []):=⟨D,H,d,e,d3,O,a1,a2,h.o⟩;have f8:=h.o.o3;clear P Q a1 a2 h d3;by_cases l9:i<s.size
    .have e0:(i:Int)<(s.size:Int):=O
     have h8:¬(i:Int)<64:=O;go_wp2;go_meet
     case rel=>exact d4.o
    .have e0:¬(i:Int)<(s.size:Int):=O
     go_wp2;go_meet
     case rel=>exact d4.o
 case rest=>
  obtain⟨D,H,d,e,P,Q,a1,a2,h⟩:=hcut;clear f7;have e4:=h.o4;replace h:ZH0 (ea w wc x (w.heap.size+1) w.heap.size s t ((m:Int)+1) (n:Int) (Z:Int) D H (.slice none 0 0) d e []):=h;replace P:ZH0 _:=P;replace Q:ZH0 _:=Q;replace a1:ZH0 _:=a1;replace a2:ZH0 _:=a2;go_upto_block 2 with fail
  go_cut [] from 7 (λb4=>∃b0:Value,∃g:List Int,g.length<=64/\(∀a∈g,0<=a/\a<=255)/\ea w b4 x (w.heap.size+1) w.heap.size s t ((m:Int)+1) (n:Int) (Z:Int) D H b0 d e g)
  case first=>
   go_wp2_with fail;go_loopw [6] (λb5 b4=>∃c:Nat,∃b0:Value,∃g:List Int,b5=.int .i64 c/\c<=t.size/\c<=64/\g.length=c/\(∀a∈g,0<=a/\a<=255)/\ea w b4 x (w.heap.size+1) w.heap.size s t ((m:Int)+1) (n:Int) (Z:Int) D H b0 d e g) (λb5 _=>64-(intOf b5).toNat)
   case atStart=>exact⟨0,_,[],rfl,O,O,rfl,λa y=>by simp at y,h.o⟩
   case round=>
    obtain⟨c,b0,g,rfl,p0,p1,S,a6,v⟩:=hrel;clear h e4;by_cases m0:c<t.size/\c<64
    .obtain⟨p2,p3⟩:=m0
     have p4:(c:Int)<(t.size:Int):=O;have p5:(c:Int)<64:=O;have p6:(0:Int)<=(c:Int):=O;obtain⟨d5,b2,rfl⟩:=v.oc.slice;have m1:=v.c11;have e4:=v.o4;have l3:=v.size;have c7:x<wr.heap.size:=O;replace S:ZH0 _:=S;replace a6:ZH0 _:=a6;have p7:g.length<=64:=by have:=S.o;omega
     have i7:=U v.oc;have a3:¬(Value.slice d5 g.length b2).ownBlock=some x:=λK=>by have:=i7.o.ge x K;omega
     replace v:ZH0 _:=v;have g4:t[c].toNat<256:=UInt8.toNat_lt _;obtain⟨r,a4⟩:∃r:Int,r=IntKind.i64.wrap (t[c].toNat:Int):=⟨_,rfl⟩;have l4:0<=r/\r<=255:=by rw[a4,wrapN _ O];omega
     replace a4:ZH0 (r=IntKind.i64.wrap (t[c].toNat:Int)):=a4;go_wp2;go_region_law ((refine oK (by rfl) _ _ (by rfl) (w.heap.size+1) (.slice d5 g.length b2) g (by rfl) (by exact(i7.o.alloc _).drewN 1) wr.heap.size 1 r (by rfl) (by rw[a4.o];simp) O Xf ?_;intro e1 i0 e2 c8 c9 d0;have u:=(((Fr.refl _ wr).alloc _).drewN 1).trans c9;have T:=(u.cell (k:=11) c7 a3).trans m1;have m2:=(u.frozen (k:=11) c7 a3).trans (v.fz 11)))
     all_goals
      have e5:ZH0 _:=ea.grow_c v.o _ _ u c8 (λa9 J=>by
       have K:e1=a9:=by injection J
       subst K;rcases d0 with f|f
       .exact L f
       .exact R (by simp at f;omega))
      clear u c9 c8 d0 T m2;go_wp2;refine⟨⟨c+1,_,g++[r],Xj,O,O,by simp;exact S.o,?_,e5.o⟩,Xb⟩;intro a y;rcases XW.1 y with f|f
      .exact a6.o a f
      .simp at f;omega
    .replace v:ZH0 _:=v
     have d3:g.length<=64:=O;have d4:ZH0 (∃b0:Value,∃g:List Int,g.length<=64/\(∀a∈g,0<=a/\a<=255)/\ea w wr x (w.heap.size+1) w.heap.size s t ((m:Int)+1) (n:Int) (Z:Int) D H b0 d e g):=⟨b0,g,d3,a6,v.o⟩;have e4:=v.o.o4;clear S a6 v d3;by_cases l9:c<t.size
     .have e0:(c:Int)<(t.size:Int):=O
      have h8:¬(c:Int)<64:=O;go_wp2;go_meet
      case rel=>exact d4.o
     .have e0:¬(c:Int)<(t.size:Int):=O
      go_wp2;go_meet
      case rel=>exact d4.o
  case rest=>
   obtain⟨b0,g,S,a6,j⟩:=hcut;clear h e4;obtain⟨c3,c4,rfl⟩:=j.of.slice;obtain⟨c5,c6,rfl⟩:=j.ok.slice;obtain⟨d5,b2,rfl⟩:=j.oc.slice;have d1:=j.c8;have a5:=j.c9;have T:=j.c11;have c1:=j.fz 8;replace S:ZH0 _:=S;replace a6:ZH0 _:=a6;replace j:ZH0 (ea w wc x (w.heap.size+1) w.heap.size s t ((m:Int)+1) (n:Int) (Z:Int) (.slice c3 d.length c4) (.slice c5 e.length c6) (.slice d5 g.length b2) d e g):=j;go_wp2_with fail;refine(mu (w.heap.size+1) c3 c4 d 1 wc j.o.of j.o.size (by have:=P.o;omega)).mono ?_;rintro X f5 ⟨i8,i9,b9,rfl,V,e6,M,b1,q⟩;replace d1:=(q.cell (p:=⟨x,8,none⟩) (Xq j.o.lt j.o.size)).trans d1;replace a5:=(q.cell (p:=⟨x,9,none⟩) (Xq j.o.lt j.o.size)).trans a5;replace c1:=(q.frozen (p:=⟨x,8,none⟩) (Xq j.o.lt j.o.size)).trans c1;clear T;have z:ZH0 _:=ea.grow_f j.o _ b9 (Fr.of_kept q) V (qt b1);have j0:ZH0 _:=mv M O a1.o;have j1:ZH0 _:=mw M P.o;clear q V M b1;replace e6:ZH0 _:=e6;go_wp2_with fail;generalize (f5.setCell ⟨x,8,none⟩ (.slice (some ⟨i8,0,none⟩) b9.length i9))=e2 at *;clear d1 a5 c1;have a5:=z.o.c9;have c2:=z.o.fz 9;have T:=z.o.c11;refine(mu (w.heap.size+1) c5 c6 e 2 e2 z.o.ok z.o.size (by have:=Q.o;omega)).mono ?_;rintro X d2 ⟨j2,j3,c0,rfl,V,e7,M,b1,q⟩;replace a5:=(q.cell (p:=⟨x,9,none⟩) (Xq z.o.lt z.o.size)).trans a5;replace T:=(q.cell (p:=⟨x,11,none⟩) (Xq z.o.lt z.o.size)).trans T;replace c2:=(q.frozen (p:=⟨x,9,none⟩) (Xq z.o.lt z.o.size)).trans c2;have l:ZH0 _:=ea.grow_k z.o _ c0 (Fr.of_kept q) V (qt b1);have j4:ZH0 _:=mv M O a2.o;have j5:ZH0 _:=mw M Q.o;clear q V M b1 z j;replace e7:ZH0 _:=e7;go_wp2_with fail;generalize (d2.setCell ⟨x,9,none⟩ (.slice (some ⟨j2,0,none⟩) c0.length j3))=i3 at *;clear a5 c2 T;have T:=l.o.c11;have d9:=l.o.fz 11;refine(mu (w.heap.size+1) d5 b2 g 9 i3 l.o.oc l.o.size (by have:=S.o;omega)).mono ?_;rintro X m3 ⟨g1,j6,W,rfl,V,d6,M,b1,q⟩;replace T:=(q.cell (p:=⟨x,11,none⟩) (Xq l.o.lt l.o.size)).trans T
   replace d9:=(q.frozen (p:=⟨x,11,none⟩) (Xq l.o.lt l.o.size)).trans d9;have e5:ZH0 _:=ea.grow_c l.o _ W (Fr.of_kept q) V (qt b1);have g2:ZH0 _:=mv M O a6.o;have j7:ZH0 _:=mw M S.o;have m4:=bj.cell0 V 0 d6;have p8:=World.ownsRow.frozenAt V 0;clear q V M b1 l;obtain⟨b7,d7⟩:∃b7,b7=W.getD 0 0:=⟨_,rfl⟩;rw[<-d7] at m4;replace d7:ZH0 _:=d7;have p9:0<=b7/\b7<=255:=by rw[d7.o];exact g2.o _ (az d6)
   by_cases e8:b7=0
   .have m5:(b7==0)=true:=by rw[e8];rfl
    subst e8;go_wp2;go_end0
    have g0:=ea.first e5.o 1;have g3:(W.set 0 1).length=W.length:=List.length_set;have m6:ea w ((m3.setCell ⟨x,11,none⟩ (.slice (some ⟨g1,0,none⟩) W.length j6)).setCell ⟨g1,0,none⟩ (.int .i64 1)) x (w.heap.size+1) w.heap.size s t ((m:Int)+1) (n:Int) (Z:Int) (.slice (some ⟨i8,0,none⟩) b9.length i9) (.slice (some ⟨j2,0,none⟩) c0.length j3) (.slice (some ⟨g1,0,none⟩) (W.set 0 1).length j6) b9 c0 (W.set 0 1):=by rw[g3];exact g0
    refine⟨rfl,m+1,n,Z,_,_,_,_,_,_,b9,c0,W.set 0 1,m6.done h4 h5 h6 e6.o j1.o j0.o e7.o j5.o j4.o (by rw[g3];exact d6) (by rw[g3];exact j7.o) ?_ ?_⟩
    .intro a y
     rcases List.mem_or_eq_of_mem_set y with f|f
     .exact g2.o a f
     .omega
    .have:0<W.length:=d6
     simp[G,List.getElem?_set,this]
   .have m5:(b7==0)=false:=by rw[F];exact e8
    go_wp2;go_end0
    exact⟨rfl,m+1,n,Z,_,_,_,_,_,_,b9,c0,W,e5.o.done h4 h5 h6 e6.o j1.o j0.o e7.o j5.o j4.o d6 j7.o g2.o (by rw[<-d7.o];exact e8)⟩
structure cF (w W:World) (x N so:Nat) (s t:ByteArray) (u:Nat->Option Value) (pv qv xv:Value) (pl ql xl:List Int):Prop where
 lt:x<N
 sN:so<N
 sx:so≠x
 size:N<=W.heap.size
 fz:∀k,W.frozen? ⟨x,k,none⟩=false
 c4:W.cell? ⟨x,4,none⟩=some pv
 c5:W.cell? ⟨x,5,none⟩=some qv
 c6:W.cell? ⟨x,6,none⟩=some xv
 op:bj W N pv pl
 oq:bj W N qv ql
 ox:bj W N xv xl
 pq:∀g,pv.ownBlock=some g->qv.ownBlock≠some g
 px:∀g,pv.ownBlock=some g->xv.ownBlock≠some g
 qx:∀g,qv.ownBlock=some g->xv.ownBlock≠some g
 o3:W.cell? ⟨so,3,none⟩=some (.string s)
 o4:W.cell? ⟨so,4,none⟩=some (.string t)
 rest:∀j,j<4\/6<j->W.cell? ⟨x,j,none⟩=u j
 fr:Fr1 x w W
 wN:w.heap.size<=N
theorem cF.kept{w W W' x N so s t u pv qv xv pl ql xl}(h:cF w W x N so s t u pv qv xv pl ql xl)(k:Kept W W'):cF w W' x N so s t u pv qv xv pl ql xl:=by
 have c:=Xq h.lt h.size;have d:=Xq h.sN h.size;have b:∀a,W'.cell? ⟨x,a,none⟩=W.cell? ⟨x,a,none⟩:=λa=>k.cell (p:=⟨x,a,none⟩) c
 exact⟨h.lt,h.sN,h.sx,Xz h.size k.size,λa=>(k.frozen (p:=⟨x,a,none⟩) c).trans (h.fz a),(b 4).trans h.c4,(b 5).trans h.c5,(b 6).trans h.c6,h.op.kept k,h.oq.kept k,h.ox.kept k,h.pq,h.px,h.qx,(k.cell (p:=⟨so,3,none⟩) d).trans h.o3,(k.cell (p:=⟨so,4,none⟩) d).trans h.o4,λa e=>(b a).trans (h.rest a e),h.fr.kept k,h.wN⟩
theorem cF.grow_p{w W W2 x N so s t u pv qv xv pl ql xl}(h:cF w W x N so s t u pv qv xv pl ql xl)v' l'(d:Fr (λg=>pv.ownBlock=some g) W W2)(y:bj W2 N v' l')(p:∀g,v'.ownBlock=some g->pv.ownBlock=some g\/W.heap.size<=g):cF w (W2.setCell ⟨x,4,none⟩ v') x N so s t u v' qv xv l' ql xl:=by
 have i:=Xq h.lt h.size;have j:=h.lt;have C:=h.sx;have l:=h.op.ge;have m:¬pv.ownBlock=some x:=λe=>by have:=l x e;omega
 have z:¬pv.ownBlock=some so:=λe=>by have:=l so e;have:=h.sN;omega
 have e:∀b,b≠4->(W2.setCell ⟨x,4,none⟩ v').cell? ⟨x,b,none⟩=W.cell? ⟨x,b,none⟩:=λb n=>(aa _ _ _ _ _ (λa=>n a.symm)).trans (d.cell i m)
 have q:∀b,(W2.setCell ⟨x,4,none⟩ v').cell? ⟨so,b,none⟩=W.cell? ⟨so,b,none⟩:=λb=>(Yl _ _ _ _ (by intro a;injection a;omega)).trans (d.cell (Xq h.sN h.size) z)
 have A:(W2.setCell ⟨x,4,none⟩ v').heap.size=W2.heap.size:=by simp[World.setCell]
 have r:∀(o:Value) (v:List Int),bj W N o v->∀g,o.ownBlock=some g->g<W.heap.size:=λo v a g c=>(World.ownsRow.lt a g c).2
 exact⟨h.lt,h.sN,h.sx,by rw[A];exact Xz h.size d.size,λB=>by rw[Xy];exact(d.frozen i m).trans (h.fz B),af ((d.cell (k:=4) i m).trans h.c4) _,(e 5 O).trans h.c5,(e 6 O).trans h.c6,y.set j _ _,(dT h.oq d (λg c a=>h.pq g a c)).set j _ _,(dT h.ox d (λg c a=>h.px g a c)).set j _ _,λg c a=>by rcases p g c with f|f;exact h.pq g f a;have:=r _ _ h.oq g a;omega,λg c a=>by rcases p g c with f|f;exact h.px g f a;have:=r _ _ h.ox g a;omega,h.qx,(q 3).trans h.o3,(q 4).trans h.o4,λb n=>(e b O).trans (h.rest b n),Fr.setCell (S:=λg=>g=x) (Fr.trans' h.fr d (λg c a=>by have:=l g a;have:=h.wN;omega)) (L rfl) _ _,h.wN⟩
theorem cF.grow_q{w W W2 x N so s t u pv qv xv pl ql xl}(h:cF w W x N so s t u pv qv xv pl ql xl)v' l'(d:Fr (λg=>qv.ownBlock=some g) W W2)(y:bj W2 N v' l')(p:∀g,v'.ownBlock=some g->qv.ownBlock=some g\/W.heap.size<=g):cF w (W2.setCell ⟨x,5,none⟩ v') x N so s t u pv v' xv pl l' xl:=by
 have i:=Xq h.lt h.size;have j:=h.lt;have C:=h.sx;have l:=h.oq.ge;have m:¬qv.ownBlock=some x:=λe=>by have:=l x e;omega
 have z:¬qv.ownBlock=some so:=λe=>by have:=l so e;have:=h.sN;omega
 have e:∀b,b≠5->(W2.setCell ⟨x,5,none⟩ v').cell? ⟨x,b,none⟩=W.cell? ⟨x,b,none⟩:=λb n=>(aa _ _ _ _ _ (λa=>n a.symm)).trans (d.cell i m)
 have q:∀b,(W2.setCell ⟨x,5,none⟩ v').cell? ⟨so,b,none⟩=W.cell? ⟨so,b,none⟩:=λb=>(Yl _ _ _ _ (by intro a;injection a;omega)).trans (d.cell (Xq h.sN h.size) z)
 have A:(W2.setCell ⟨x,5,none⟩ v').heap.size=W2.heap.size:=by simp[World.setCell]
 have r:∀(o:Value) (v:List Int),bj W N o v->∀g,o.ownBlock=some g->g<W.heap.size:=λo v a g c=>(World.ownsRow.lt a g c).2
 exact⟨h.lt,h.sN,h.sx,by rw[A];exact Xz h.size d.size,λB=>by rw[Xy];exact(d.frozen i m).trans (h.fz B),(e 4 O).trans h.c4,af ((d.cell (k:=5) i m).trans h.c5) _,(e 6 O).trans h.c6,(dT h.op d (λg c a=>h.pq g c a)).set j _ _,y.set j _ _,(dT h.ox d (λg c a=>h.qx g a c)).set j _ _,λg c a=>by rcases p g a with f|f;exact h.pq g c f;have:=r _ _ h.op g c;omega,h.px,λg c a=>by rcases p g c with f|f;exact h.qx g f a;have:=r _ _ h.ox g a;omega,(q 3).trans h.o3,(q 4).trans h.o4,λb n=>(e b O).trans (h.rest b n),Fr.setCell (S:=λg=>g=x) (Fr.trans' h.fr d (λg c a=>by have:=l g a;have:=h.wN;omega)) (L rfl) _ _,h.wN⟩
theorem cF.grow_x{w W W2 x N so s t u pv qv xv pl ql xl}(h:cF w W x N so s t u pv qv xv pl ql xl)v' l'(d:Fr (λg=>xv.ownBlock=some g) W W2)(y:bj W2 N v' l')(p:∀g,v'.ownBlock=some g->xv.ownBlock=some g\/W.heap.size<=g):cF w (W2.setCell ⟨x,6,none⟩ v') x N so s t u pv qv v' pl ql l':=by
 have i:=Xq h.lt h.size;have j:=h.lt;have C:=h.sx;have l:=h.ox.ge;have m:¬xv.ownBlock=some x:=λe=>by have:=l x e;omega
 have z:¬xv.ownBlock=some so:=λe=>by have:=l so e;have:=h.sN;omega
 have e:∀c,c≠6->(W2.setCell ⟨x,6,none⟩ v').cell? ⟨x,c,none⟩=W.cell? ⟨x,c,none⟩:=λc n=>(aa _ _ _ _ _ (λa=>n a.symm)).trans (d.cell i m)
 have q:∀c,(W2.setCell ⟨x,6,none⟩ v').cell? ⟨so,c,none⟩=W.cell? ⟨so,c,none⟩:=λc=>(Yl _ _ _ _ (by intro a;injection a;omega)).trans (d.cell (Xq h.sN h.size) z)
 have A:(W2.setCell ⟨x,6,none⟩ v').heap.size=W2.heap.size:=by simp[World.setCell]
 have r:∀(o:Value) (v:List Int),bj W N o v->∀g,o.ownBlock=some g->g<W.heap.size:=λo v a g b=>(World.ownsRow.lt a g b).2
 exact⟨h.lt,h.sN,h.sx,by rw[A];exact Xz h.size d.size,λB=>by rw[Xy];exact(d.frozen i m).trans (h.fz B),(e 4 O).trans h.c4,(e 5 O).trans h.c5,af ((d.cell (k:=6) i m).trans h.c6) _,(dT h.op d (λg b a=>h.px g b a)).set j _ _,(dT h.oq d (λg b a=>h.qx g b a)).set j _ _,y.set j _ _,h.pq,λg b a=>by rcases p g a with f|f;exact h.px g b f;have:=r _ _ h.op g b;omega,λg b a=>by rcases p g a with f|f;exact h.qx g b f;have:=r _ _ h.oq g b;omega,(q 3).trans h.o3,(q 4).trans h.o4,λc n=>(e c O).trans (h.rest c n),Fr.setCell (S:=λg=>g=x) (Fr.trans' h.fr d (λg b a=>by have:=l g a;have:=h.wN;omega)) (L rfl) _ _,h.wN⟩
structure ImR (w W:World) (x wd H K D L:Nat) (pp qp xp:Option Addr) (pc qc xc:Nat) (pal clr pix:List Int):Prop where
 ok:cu wd H K D pal clr pix
 l:L<=1
 fz:∀k,W.frozen? ⟨x,k,none⟩=false
 c0:W.cell? ⟨x,0,none⟩=some (.int .i64 (wd:Int))
 c1:W.cell? ⟨x,1,none⟩=some (.int .i64 (H:Int))
 c2:W.cell? ⟨x,2,none⟩=some (.int .i64 (K:Int))
 c3:W.cell? ⟨x,3,none⟩=some (.int .i64 (D:Int))
 c4:W.cell? ⟨x,4,none⟩=some (.slice pp pal.length pc)
 c5:W.cell? ⟨x,5,none⟩=some (.slice qp clr.length qc)
 c6:W.cell? ⟨x,6,none⟩=some (.slice xp pix.length xc)
 c7:W.cell? ⟨x,7,none⟩=some (.int .i64 (L:Int))
 lp:LAt W .i64 (.slice pp pal.length pc) pal
 lq:LAt W .i64 (.slice qp clr.length qc) clr
 lx:LAt W .i64 (.slice xp pix.length xc) pix
 bp:∀g,ai (.slice pp pal.length pc)=some g->w.heap.size<=g/\g<W.heap.size
 bq:∀g,ai (.slice qp clr.length qc)=some g->w.heap.size<=g/\g<W.heap.size
 bx:∀g,ai (.slice xp pix.length xc)=some g->w.heap.size<=g/\g<W.heap.size
 rest:∀j,7<j->W.cell? ⟨x,j,none⟩=w.cell? ⟨x,j,none⟩
 fr:Fr1 x w W
 kp:pal.length<=pc
 kx:pix.length<=xc
theorem qs{g1 n d m:Nat}{A:Option Nat}{w:World}{o:Obj}(h:A=some g1\/((w.alloc o).drewN m).heap.size<=g1):∀g,(Value.slice (some ⟨g1,0,none⟩) n d).ownBlock=some g->A=some g\/w.heap.size<=g:=by
 refine qt (match h with|Or.inl q=>Or.inl q|Or.inr q=>Or.inr ?_);simp at q;omega
theorem kj{l}{e:Int}{n:Nat}(h:l.length=n):(l++[e]).length=n+1:=by simp[h]
theorem lW{l}{e c d:Int}(h:∀a∈l,c<=a/\a<d)(f:c<=e/\e<d):∀a∈l++[e],c<=a/\a<d:=by
 intro a g;rcases XW.1 g with b|b
 .exact h a b
 .simp at b;subst b;exact f
def imU(w:World)(x wd H K D L:Nat):Nat->Option Value:=λj=>if j=0 then some (.int .i64 (wd:Int)) else if j=1 then some (.int .i64 (H:Int)) else if j=2 then some (.int .i64 (K:Int)) else if j=3 then some (.int .i64 (D:Int)) else if j=7 then some (.int .i64 (L:Int)) else w.cell? ⟨x,j,none⟩
def Iy(K D M:Nat)(pl ql:List Int):Prop:=(K=3/\1<=M/\M<=2^D/\pl.length=3*M/\ql.length<=M/\(∀y∈pl,0<=y/\y<256)/\(∀y∈ql,0<=y/\y<256))\/(K≠3/\M=2^D/\pl=[]/\ql=[])
def vR(K D M:Nat)(pl ql:List Int):Prop:=(K=3/\1<=M/\M<=2^D/\pl.length=3*M/\ql.length<=M/\(∀y∈pl,0<=y/\y<256)/\(∀y∈ql,0<=y/\y<256))\/(K≠3/\M=2^D/\pl=[]/\(ql=[]\/((K=0\/K=2)/\ql.length=chan K/\∀y∈ql,0<=y/\y<((2^D:Nat):Int))))
theorem xh{K D}(h:ax K D):D=1\/D=2\/D=4\/D=8\/D=16:=by unfold ax at h;omega
theorem yK{D}(h:ax 3 D):D=1\/D=2\/D=4\/D=8:=by unfold ax at h;omega
theorem gF{K D}(h:ax K D):K=0\/K=2\/K=3\/K=4\/K=6:=by unfold ax at h;omega
theorem Do{D:Nat}(h:D=1\/D=2\/D=4\/D=8\/D=16):wrap64 (2^min (IntKind.u64.wrap (D:Int)).toNat 64)=((2^D:Nat):Int):=by
 rcases h with rfl|rfl|rfl|rfl|rfl<;>kernel_rfl
theorem vR.ok{wd H K D M pl ql xl}(h:vR K D M pl ql)(e:ax K D)(f:1<=wd)(g:wd<=16)(i:1<=H)(j:H<=16)(k:xl.length=wd*H*chan K)(l:∀a∈xl,0<=a/\a<(M:Int)):cu wd H K D pl ql xl:=by
 rcases h with⟨rfl,n,o,d,s,p,q⟩|⟨m,rfl,rfl,r⟩
 .refine⟨f,g,i,j,e,λ_=>⟨M,n,d,o⟩,λh=>absurd rfl h,p,?_,k,?_⟩
  .by_cases b:ql=[]
   .exact L b
   .refine R (R ⟨rfl,?_,?_,q⟩)
    .have:=List.length_pos_iff.2 b;omega
    .rw[d];omega
  .intro a c
   have:=l a c
   rw[I rfl,d];omega
 .refine⟨f,g,i,j,e,λh=>absurd h m,λ_=>rfl,(λa c=>by simp at c),?_,k,?_⟩
  .rcases r with b|b
   .exact L b
   .exact R (L b)
  .intro a c
   rw[N m];exact l a c
theorem bj.cap{W N p c l}(h:bj W N (.slice p l.length c) l):l.length<=c:=by
 rcases Nat.eq_zero_or_pos l.length with b|b
 .rw[b];exact X3 _
 .rcases h.2 with⟨a,_⟩|⟨f,g,i,a,_,_,d,_⟩
  .injection a with _ j _;omega
  .injection a with _ _ e;rw[e];exact d
theorem cF.done{w W}{x g wd H K D M L:Nat}{s t pp qp xp pc qc xc pl ql xl}(h:cF w W x (w.heap.size+1) g s t (imU w x wd H K D L) (.slice pp pl.length pc) (.slice qp ql.length qc) (.slice xp xl.length xc) pl ql xl)(i:cu wd H K D pl ql xl)(j:L<=1):ImR w W x wd H K D L pp qp xp pc qc xc pl ql xl:=by
 have e:∀(c:Option Addr) (d:Nat) (b:List Int),bj W (w.heap.size+1) (.slice c b.length d) b->∀a,ai (.slice c b.length d)=some a->w.heap.size<=a/\a<W.heap.size:=λc d b f a k=>by
  have l:(Value.slice c b.length d).ownBlock=some a:=by rw[<-fA _ f];exact k
  have:=World.ownsRow.lt f a l
  omega
 exact⟨i,j,h.fz,(h.rest 0 O).trans rfl,(h.rest 1 O).trans rfl,(h.rest 2 O).trans rfl,(h.rest 3 O).trans rfl,h.c4,h.c5,h.c6,(h.rest 7 O).trans rfl,h.op.lat,h.oq.lat,h.ox.lat,e _ _ _ h.op,e _ _ _ h.oq,e _ _ _ h.ox,λm n=>by
  rw[h.rest m O];unfold imU;rw[N,N,N,N,N],h.fr,h.op.cap,h.ox.cap⟩
