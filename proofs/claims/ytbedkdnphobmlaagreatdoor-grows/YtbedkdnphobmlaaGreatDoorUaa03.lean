import Derived.Test.YtbedkdnphobmlaaGreatDoorProg
import Derived.Deep.MidRow
import Derived.OpenShut
import Derived.Deep.AppendLies
import Derived.Deep.RegionLaw
import Derived.Lib.SmallJoins
import Derived.Laws.BytesArg
import Derived.Deep.RegionHeld3
import Derived.Test.YtbedkdnphobmlaaGreatDoorUaa00
import Derived.Test.YtbedkdnphobmlaaGreatDoorUaa01
import Derived.Test.YtbedkdnphobmlaaGreatDoorUaa02
set_option linter.all false
set_option maxRecDepth 100000
set_option maxHeartbeats 0
namespace Go.Proofs.YtbedkdnphobmlaaGreatDoor
open Go.RowKit Tryz
def Rng(k:IntKind)(m:Int)(W:World)(b o n:Nat):Prop:=∀j,j<n->∃z:Int,0<=z/\z<m/\W.cell? ⟨b,o+j,none⟩=some (.int k z)
theorem ia{k m}{c:List Value}{n}(i:c.length=n)(h:∀j,j<n->∃a:Int,0<=a/\a<m/\c[j]? = some (.int k a)):∀d∈c,d.oneCell'=true:=by
 intro d e;obtain⟨j,f,g⟩:=List.getElem_of_mem e;obtain⟨a,_,_,b⟩:=h j O;rw[Xt f] at b
 injection b with b
 rw[<-g,b];rfl
theorem cR{w W b o n}(h:w.there b o n)(f:Kept w W):W.there b o n:=by
 intro a e;obtain⟨c,g⟩:=h a e;obtain⟨j,i⟩:=Option.isSome_iff_exists.1 c;have d:=B _ _ i;exact⟨by rw[f.cell (p:=⟨b,o+a,none⟩) d];exact c,by rw[f.frozen (p:=⟨b,o+a,none⟩) d];exact g⟩
theorem bV{w:World}{b o n}(h:w.there b o n){c k}u(i:c≠b):(w.setCell ⟨c,k,none⟩ u).there b o n:=by
 intro a d;obtain⟨e,f⟩:=h a d;exact⟨by rw[Yl _ _ _ _ (by intro g;injection g;omega)];exact e,by rw[Xy];exact f⟩
theorem ah{P fn p ty}(h:fn.results=#[.cell p ty])tmps w b o v(a:tmps.getD p undef=.pointer (some ⟨b,o,none⟩))(c:(loadVar ty ⟨b,o,none⟩).run P w=.ok v w):(results fn tmps).run P w=.ok v w:=by
 have d:tmps[p]?.getD undef=.pointer (some ⟨b,o,none⟩):=by simpa using a
 simp[results,h,d,asAddr,Sem.run_bind,Result.andThen,c]
theorem Fr.setCells{S:Nat->Prop}{x y}(h:Fr S x y){b}(c:S b\/x.heap.size<=b):∀(d:List Value) (a:Nat) {y:World},Fr S x y->Fr S x (y.setCells b a d)
 | [],_,_,h=>h
 | v::e,a,_,h=>Fr.setCells (h.setCell c a v) c e (a+1) (h.setCell c a v)
theorem Kept.setCells{x b}(c:x.heap.size<=b):∀(d:List Value) (a:Nat) {y:World},Kept x y->Kept x (y.setCells b a d)
 | [],_,_,h=>h
 | v::e,a,_,h=>Kept.setCells c e (a+1) (h.setCell c _)
theorem ib:(prog.info? 5).map (λi=>(i.zero,i.size,i.bytes))=some (some (.int .u8 0),1,1):=by kernel_rfl
def isBytes(l:List Int):Prop:=∀x∈l,0<=x/\x<256
theorem isBytes.snoc{l:List Int}{x:Int}(h:isBytes l)(h0:0<=x)(h1:x<256):isBytes (l++[x]):=by
 intro y hy;simp at hy;rcases hy with hy|rfl
 .exact h y hy
 .exact⟨h0,h1⟩
theorem isBytes.nil:isBytes []:=λ_ h=>by simp at h
theorem isBytes.app{l m:List Int}(h:isBytes l)(k:isBytes m):isBytes (l++m):=by
 intro y hy;simp at hy;rcases hy with hy|hy
 .exact h y hy
 .exact k y hy
def u8s(l:List Int):List Value:=l.map (Value.int .u8)
def EC(w:World)(N:Nat)(v:Value)(n:Nat):Prop:=∃l:List Int,l.length=n/\isBytes l/\w.ownsRow N 5 1 v n (u8s l)
abbrev FrN(x N:Nat):World->World->Prop:=Fr (λg=>g=x\/N<=g)
def Cw(W:World)(x:Nat):Nat:=match W.cell? ⟨x,2,none⟩ with|some (.int _ v)=>v.toNat|_=>0
end Go.Proofs.YtbedkdnphobmlaaGreatDoor
namespace Go.Proofs.YtbedkdnphobmlaaGreatDoor
open Go.RowKit Px Tryz
def bg(w:World)(N:Nat)(v:Value)(l:List Int):Prop:=isBytes l/\w.ownsRow N 5 1 v l.length (u8s l)
theorem bg.own8{w N v l}(h:bg w N v l):EC w N v l.length:=⟨l,rfl,h.1,h.2⟩
theorem bg.slice{w N v l}(h:bg w N v l):∃a b,v=.slice a l.length b:=aW h.2
theorem bg.kept{w W N v l}(h:bg w N v l)(k:Kept w W):bg W N v l:=⟨h.1,bZ h.2 k⟩
theorem bg.alloc{w N v l}(h:bg w N v l)o:bg (w.alloc o) N v l:=h.kept ((Xs _ _).alloc (E _) o)
theorem bg.drewN{w N v l}(h:bg w N v l)k:bg (w.drewN k) N v l:=h.kept ((Kept.refl _).drewN k)
theorem bg.set{w N v l}(h:bg w N v l){b}(a:b<N)k u:bg (w.setCell ⟨b,k,none⟩ u) N v l:=⟨h.1,Yf h.2 a _⟩
theorem bg.ge{w N v l}(h:bg w N v l):∀a,v.ownBlock=some a->N<=a:=λa b=>(h.2.lt a b).1
theorem bg.nil w N:bg w N (.slice none 0 0) []:=⟨isBytes.nil,XR _ _ _ _⟩
theorem bg.lat{w N v l}(h:bg w N v l):LAt w .u8 v l:=wR h.2
theorem bg.base{w N M v l}(h:bg w N v l)(a:M<=N):bg w M v l:=⟨h.1,mS h.2 a⟩
theorem xV w{ops rest o a}{n:Exit->Act->World->Prop}(q:o.guard=none)s x(r:o.op=Op.call {callee:=Callee.builtin Builtin.append,args:=#[s,x],argTypes:=#[56,56]})N v l(t:a.eval s=v)(u:bg w N v l)g o' m c es(y:a.eval x=.slice (some ⟨g,o',none⟩) m c)(z:m=es.length)(A:0<m)(B:isBytes es)(C:∀b,b<m->w.cell? ⟨g,o'+b,none⟩=some (.int .u8 (es.getD b 0)))(M:l.length+m<=1099511627776)(D:N<=w.heap.size)(E:∀f d,bg d N f (l++es)->Fr (λk=>v.ownBlock=some k) w d->wpList prog ops n rest (a.put o.dst f) d):wpList prog ops n (o::rest) a w:=by
 obtain⟨F,H⟩:=u;subst z;refine bG w 56 56 5 1 1 (.int .u8 0) underlying56 ib rfl O q s x r N v l.length (u8s l) t H ⟨g,o',none⟩ es.length c (u8s es) y (by simp[u8s]) A ?_ ?_ Xn O D ?_ rfl
 .intro b I h
  have i:b<es.length:=by
   have:=(Yb.1 h).1
   simpa[u8s] using this
  have j:(Addr.add ⟨g,o',none⟩ b)=⟨g,o'+b,none⟩:=by unfold Addr.add;split<;>simp_all
  rw[j,C b i];simp[u8s,XQ,Xt i] at h
  rw[<-h];simp[G,Xt i]
 .intro I p;simp[u8s] at p;obtain⟨P,_,rfl⟩:=p;rfl
 .intro f d J e Q
  refine E f d ⟨F.app B,by simpa[u8s] using J⟩ ⟨e.os,e.tape,e.output,e.size,λk K L=>e.block k K (λj=>L j.symm)⟩
theorem II{w ops o a}{K:Act->World->Prop}{q:Exit->Act->World->Prop}{r:Prop}(t:o.guard=none)s x(u:o.op=Op.call {callee:=Callee.builtin Builtin.append,args:=#[s,x],argTypes:=#[56,56]})N v l(y:a.eval s=v)(z:bg w N v l)g m c es(A:a.eval x=.slice (some ⟨g,0,none⟩) m c)(B:m=es.length)(C:0<m)(D:isBytes es)(E:∀b,b<m->w.cell? ⟨g,b,none⟩=some (.int .u8 (es.getD b 0)))(W:l.length+m<=1099511627776)(F:N<=w.heap.size)(H:∀f h d,bg d N (.slice (some ⟨f,0,none⟩) (l.length+m) h) (l++es)->Fr (λk=>v.ownBlock=some k) w d->K (a.put o.dst (.slice (some ⟨f,0,none⟩) (l.length+m) h)) d):if Region.wanted o (yielded ops a.tmps)=true then Oper.wp prog o a w K q else r:=by
 obtain⟨I,J⟩:=z;subst B;obtain⟨L,M,P,Q,R⟩:=info_parts' ib;refine step_append_lies w t s x 56 u N 5 L (.int .u8 0) 1 1 underlying56 M P Q R rfl O v l.length (u8s l) y J ⟨g,0,none⟩ es.length c (u8s es) A (by simp[u8s]) ?_ ?_ C Xn O F w.heap.size rfl ?_
 .intro b S i
  have j:b<es.length:=by
   have:=(Yb.1 i).1
   simpa[u8s] using this
  have n:(Addr.add ⟨g,0,none⟩ b)=⟨g,b,none⟩:=by unfold Addr.add;split<;>simp_all
  rw[n,E b j];simp[u8s,XQ,Xt j] at i
  rw[<-i];simp[G,Xt j]
 .intro S p;simp[u8s] at p;obtain⟨X,_,rfl⟩:=p;rfl
 .intro f h d T e Y Z
  refine H f h d ⟨I.app D,by simpa[u8s] using T⟩ ⟨e.os,e.tape,e.output,e.size,λk U V=>e.block k U (λn=>V n.symm)⟩
def leB:Nat->Nat->List Int
 | 0,_=>[]
 | k+1,r=>((r%256:Nat):Int)::leB k (r/256)
theorem xi:∀(k r:Nat),(leB k r).length=k
 | 0,_=>rfl
 | k+1,r=>congrArg (·+1) (xi k (r/256))
theorem sT:∀(k r:Nat),leB (k+1) r=leB k r++[((r/256^k%256:Nat):Int)]
 | 0,r=>by show[((r%256:Nat):Int)]=[((r/256^0%256:Nat):Int)];rw[Nat.pow_zero,Nat.div_one]
 | k+1,r=>by
  show((r%256:Nat):Int)::leB (k+1) (r/256)=(((r%256:Nat):Int)::leB k (r/256))++_
  rw[sT k (r/256),Ye,Nat.div_div_eq_div_mul,show 256*256^k=256^(k+1) from by rw[Ya,Zk]]
theorem tY(a g t:Nat)(c:a<2^g)(h:a+t*2^g<4294967296):bits .or .u32 (a:Int) ((t*2^g:Nat):Int)=((a+t*2^g:Nat):Int):=by
 rw[u32_or_nat _ _ O O]
 have:=YW (b:=a) (i:=g) c t
 rw[Nat.shiftLeft_eq] at this;rw[Nat.or_comm,<-this,Nat.add_comm]
end Go.Proofs.YtbedkdnphobmlaaGreatDoor
namespace Go.Proofs.YtbedkdnphobmlaaGreatDoor
open Go.RowKit Tryz
theorem Ch:zeroCells150=Array.replicate 288 (.int .u8 0):=by kernel_rfl
theorem lC:zeroCells152=Array.replicate 288 (.int .u32 0)++Array.replicate 288 (.int .u8 0):=by kernel_rfl
theorem CK:(prog.info? 152).map (·.size)=some 576:=by kernel_rfl
theorem vq(j:Nat)(h:j<288):(Array.replicate 288 (Value.int .u32 0)++Array.replicate 288 (Value.int .u8 0))[j]? = some (.int .u32 0):=by
 rw[Array.getElem?_append_left (by simpa using h)];simp[h]
theorem qX(j:Nat)(h:j<288):(Array.replicate 288 (Value.int .u32 0)++Array.replicate 288 (Value.int .u8 0))[288+j]? = some (.int .u8 0):=by
 rw[Array.getElem?_append_right (by simp)];simp[h]
theorem bl{P W b o cs}(h:W.there b o cs.length)(d:∀e∈cs,e.oneCell'=true):(storeCells ⟨b,o,none⟩ cs).run P W=.ok () (W.setCells b o cs):=by
 have:=run_storeCells_cells (P:=P) b o cs 0 W (λa c=>by rw[X5];exact(h a c).1) (λa c=>by rw[X5];exact(h a c).2) d
 rw[X5] at this;exact this
theorem ky v l(k:Nat)w(a:LAt w .i64 v l)(b:0<l.length)(g:l.length<=1048576)(h:k<=4611686018427387904):Calls prog 100 #[v,.int .i64 k] w λd e=>d=.returned (.int .i64 (l.getD (k%l.length) 0))/\Kept w e:=by
 obtain⟨i,j,m,rfl,c⟩:=a.addr b;have f:k%l.length<l.length:=YD _ b;have n:=c _ f;have o:(k:Int).tmod (l.length:Int)=((k%l.length:Nat):Int):=by rw[XU O];exact Yo k l.length
 have p:(0:Int)<=((k%l.length:Nat):Int):=O;have q:((k%l.length:Nat):Int)<(l.length:Int):=O;have r:¬(l.length=0):=O;have s:((l.length:Int)==0)=false:=by rw[F];exact O
 have t:¬((k:Int)<0):=O;clear c a;generalize l.getD (k%l.length) 0=u at *;generalize k%l.length=x at *;go_enter func100,ntmps100;go_wp2;go_ret;exact⟨rfl,Kept.refl _⟩
theorem lay_size o:∀(l:List Value) (n:Nat) (a:Array Value),(List.foldl (λ(b:Array Value) (x:Value×Nat)=>b.setIfInBounds (o+x.snd) x.fst) a (l.zipIdx n)).size=a.size
 | [],_,_=>rfl
 | v::c,n,a=>by rw[List.zipIdx_cons,List.foldl_cons,lay_size o c (n+1)];simp
theorem qK o:∀(l:List Value) (n:Nat) (a:Array Value) (j:Nat),(j<o+n\/o+n+l.length<=j)->(List.foldl (λ(b:Array Value) (x:Value×Nat)=>b.setIfInBounds (o+x.snd) x.fst) a (l.zipIdx n))[j]? = a[j]?
 | [],_,_,_,_=>rfl
 | v::c,n,a,j,h=>by
  rw[List.zipIdx_cons,List.foldl_cons,qK o c (n+1) _ j (by simp at h;omega)];rw[Array.getElem?_setIfInBounds_ne (by simp at h;show o+n≠j;omega)]
theorem AV o:∀(l:List Value) (n:Nat) (a:Array Value) (j:Nat) (b:j<l.length),o+n+l.length<=a.size->(List.foldl (λ(c:Array Value) (x:Value×Nat)=>c.setIfInBounds (o+x.snd) x.fst) a (l.zipIdx n))[o+n+j]? = l[j]?
 | [],_,_,_,b,_=>by simp at b
 | v::r,n,a,j,b,hz=>by
  rw[List.zipIdx_cons,List.foldl_cons];cases j with
  | zero=>
   rw[qK o r (n+1) _ _ (L O)];simp at hz;rw[X5,Array.getElem?_setIfInBounds_self_of_lt O];rfl
  | succ j=>
   have:=AV o r (n+1) (a.setIfInBounds (o+n) v) j (by simpa using b) (by simp at hz ⊢;omega)
   rw[show o+n+(j+1)=o+(n+1)+j from O,this];rfl
theorem setCells_size b:∀(a:List Value) (o:Nat) (w:World),(w.setCells b o a).heap.size=w.heap.size
 | [],_,_=>rfl
 | v::c,o,w=>by rw[World.setCells,setCells_size b c];simp[World.setCell]
theorem LAt.lt{w k v l}(h:LAt w k v l)(b:0<l.length):∀a,ai v=some a->a<w.heap.size:=by
 obtain⟨a,f,g,rfl,c⟩:=h.addr b;intro d e
 have:a=d:=by injection e
 subst this;exact B _ _ (c 0 b)
theorem LAt.part{w k g o c l}(h:LAt w k (.slice (some ⟨g,o,none⟩) l.length c) l)a n c'(q:a+n<=l.length):LAt w k (.slice (some ⟨g,o+a,none⟩) n c') ((l.drop a).take n):=by
 have e:((l.drop a).take n).length=n:=Xf;refine⟨⟨some ⟨g,o+a,none⟩,c',by rw[e]⟩,?_⟩;intro r s i d f;rw[e] at f
 injection i with j _ _
 refine⟨g,o+a,j.symm,?_⟩;obtain⟨t,u,b,m⟩:=h.cells _ _ rfl (a+d) O
 injection b with b
 injection b with b p
 subst b;subst p;rw[show o+a+d=o+(a+d) from O,m]
 congr 2
 simp[G,List.getElem?_take,f,Y1]
theorem isBytes.part{l}(h:isBytes l)a n:isBytes ((l.drop a).take n):=λb c=>h b (Yu (YE c))
end Go.Proofs.YtbedkdnphobmlaaGreatDoor
namespace Go.Proofs.YtbedkdnphobmlaaGreatDoor
open Go.RowKit Px Tryz
def beB(n:Nat):List Int:=[((n/16777216%256:Nat):Int),((n/65536%256:Nat):Int),((n/256%256:Nat):Int),((n%256:Nat):Int)]
end Go.Proofs.YtbedkdnphobmlaaGreatDoor
namespace Px
def gb(s:Nat)(l:List Int):Nat:=l.foldl (λs x=>bh s x.toNat) s
theorem zf s l(b:Nat):gb s (l++[(b:Int)])=bh (gb s l) b:=by unfold gb;rw[Yk];rfl
end Px
namespace Go.Proofs.YtbedkdnphobmlaaGreatDoor
open Go.RowKit Px Tryz
theorem bg.slice'{w N v l}(h:bg w N v l){n}(e:l.length=n):∃a b,v=.slice a n b:=by subst e;exact h.slice
theorem ki w{ops rest o a}{j:Exit->Act->World->Prop}(n:o.guard=none)s x(p:o.op=Op.call {callee:=Callee.builtin Builtin.append,args:=#[s,x],argTypes:=#[56,56]})N v L(q:a.eval s=v)(r:bg w N v L)g o' m c es(t:a.eval x=.slice (some ⟨g,o',none⟩) m c)(u:m=es.length)(y:0<m)(z:isBytes es)(A:∀b,b<m->w.cell? ⟨g,o'+b,none⟩=some (.int .u8 (es.getD b 0)))(P:L.length+m<=1099511627776)(B:N<=w.heap.size)(C:∀d e,bg e N d (L++es)->Fr (λk=>v.ownBlock=some k) w e->(∀k,d.ownBlock=some k->v.ownBlock=some k\/w.heap.size<=k)->wpList prog ops j rest (a.put o.dst d) e):wpList prog ops j (o::rest) a w:=by
 obtain⟨D,E⟩:=r;subst u;refine bG w 56 56 5 1 1 (.int .u8 0) underlying56 ib rfl O n s x p N v L.length (u8s L) q E ⟨g,o',none⟩ es.length c (u8s es) t (by simp[u8s]) y ?_ ?_ Xn O B ?_ rfl
 .intro b F h
  have i:b<es.length:=by
   have:=(Yb.1 h).1
   simpa[u8s] using this
  rw[Addr.add_mid,A b i];simp[u8s,XQ,Xt i] at h
  rw[<-h];simp[G,Xt i]
 .intro F l;simp[u8s] at l;obtain⟨Q,_,rfl⟩:=l;rfl
 .intro d e H f I
  exact C d e ⟨D.app z,by simpa[u8s] using H⟩ ⟨f.os,f.tape,f.output,f.size,λk J K=>f.block k J (λM=>K M.symm)⟩ I
theorem B6 w{ops rest o a}{j:Exit->Act->World->Prop}(m:o.guard=none)s x(n:o.op=Op.call {callee:=Callee.builtin Builtin.append,args:=#[s,x],argTypes:=#[56,56]})N v L(q:a.eval s=v)(r:bg w N v L)(V:0<L.length)p c l(t:a.eval x=.slice p l.length c)(A:LAt w .u8 (.slice p l.length c) l)(B:isBytes l)(C:p=none->c=0)(D:L.length+l.length<=1099511627776)(E:N<=w.heap.size)(u:∀g d,bg d N g (L++l)->Fr (λk=>v.ownBlock=some k) w d->(∀k,g.ownBlock=some k->v.ownBlock=some k\/w.heap.size<=k)->wpList prog ops j rest (a.put o.dst g) d):wpList prog ops j (o::rest) a w:=by
 by_cases f:l.length=0
 .obtain⟨F,y⟩:=r
  have G:=y;rcases y.2 with⟨z,W⟩|⟨h,H,X,z,Y,Z,a0,a1,a2,a3⟩
  .omega
  .subst z
   obtain⟨I,J,a4,K,a5⟩:=info_parts' ib;refine wpList_append_fits_any w m s x 56 n N 5 I 1 underlying56 J K h L.length H (u8s L) q G p l.length c [] t (by simp[f]) (λb=>⟨f,C b⟩) (λa6 _ a7 M P=>by simp at P) (λM Q=>by simp at Q) O ?_;intro d R e;refine u _ d ?_ ⟨e.os,e.tape,e.output,e.size,λk i S=>e.block k i (λb=>S b.symm)⟩ (λk i=>Or.inl i);rw[(YX f),XN];refine⟨F,?_⟩
   simpa[f] using R
 .obtain⟨h,T,a8,b,U⟩:=A.addr O
  injection b with b _ _
  subst b;exact ki w m s x n N v L q r h T l.length c l t rfl O B U D E u
structure WrY (W:World) (x N:Nat) (L:List Int) (S:Nat->Prop):Prop where
 lt:x<N
 size:N<=W.heap.size
 fz:∀k,W.frozen? ⟨x,k,none⟩=false
 sx:S x
 new:∀g,W.heap.size<=g->S g
 o:∃ov,W.cell? ⟨x,0,none⟩=some ov/\bg W N ov L/\∀g,ov.ownBlock=some g->S g
theorem WrY.kept{W W' x N L}{S:Nat->Prop}(h:WrY W x N L S)(k:Kept W W'):WrY W' x N L S:=by
 obtain⟨c,d,e,f,g,i,j,l,m⟩:=h;have a:x<W.heap.size:=O;exact⟨c,Xz d k.size,λb=>(k.frozen (p:=⟨x,b,none⟩) a).trans (e b),f,λn o=>g n (Xz k.size o),i,(k.cell (p:=⟨x,0,none⟩) a).trans j,l.kept k,m⟩
theorem WrY.turn{W x N L}{S b:Nat->Prop}(h:WrY W x N L S)(c:∀a,a<W.heap.size->S a->b a)(f:∀a,W.heap.size<=a->b a):WrY W x N L b:=by
 obtain⟨g,i,j,k,o,l,m,d,n⟩:=h;exact⟨g,i,j,c x O k,f,l,m,d,λa e=>c a (d.2.lt a e).2 (n a e)⟩
structure bo (x N:Nat) (L:List Int) (S:Nat->Prop) (w w':World):Prop where
 at':WrY w' x N L S
 fr:Fr S w w'
theorem bo.trans{x N L M}{S:Nat->Prop}{a b c}(h:bo x N L S a b)(k:bo x N M S b c):bo x N M S a c:=⟨k.at',h.fr.trans k.fr⟩
theorem bo.refl{x N L}{S:Nat->Prop}{a}(h:WrY a x N L S):bo x N L S a a:=⟨h,Fr.refl _ _⟩
theorem bo.kept{x N L}{S:Nat->Prop}{a b c}(h:bo x N L S a b)(k:Kept b c):bo x N L S a c:=⟨h.at'.kept k,h.fr.kept k⟩
theorem xT(n:Nat)(h:n<4294967296):[(n:Int)/16777216,(n:Int)/65536%256,(n:Int)/256%256,(n:Int)%256]=beB n:=by
 unfold beB;rw[show(n:Int)/16777216=((n/16777216%256:Nat):Int) from O,show(n:Int)/65536%256=((n/65536%256:Nat):Int) from O,show(n:Int)/256%256=((n/256%256:Nat):Int) from O,show(n:Int)%256=((n%256:Nat):Int) from O]
theorem fg n:(beB n).length=4:=rfl
theorem iD n:isBytes (beB n):=by
 intro b a;unfold beB at a;simp only[Y4,List.not_mem_nil,or_false] at a;rcases a with rfl|rfl|rfl|rfl<;>omega
theorem At(x N n:Nat)L w(S:Nat->Prop)(h:WrY w x N L S)(G:n<4294967296)(H:L.length<=2000000000):Calls prog 143 #[.pointer (some ⟨x,0,none⟩),.int .u32 n] w λI J=>I=.returned (.tuple #[])/\bo x N (L++beB n) S w J:=by
 obtain⟨t,K,e,u,f,a3,M,m,g⟩:=h;obtain⟨b,i⟩:∃b,L.length=b:=⟨_,rfl⟩;obtain⟨v,y,rfl⟩:=m.slice' i;rw[i] at H;have z:=U m;replace e:Z (∀a,w.frozen? ⟨x,a,none⟩=false):=e;have o:¬(Value.slice v b y).ownBlock=some x:=λp=>by have:=z.o.ge x p;omega
 have q:x<w.heap.size:=O;replace g:Z _:=g;replace f:Z (∀j,w.heap.size<=j->S j):=f;have P:Z ((L++beB n).length=b+4):=by show(L++beB n).length=b+4;rw[Xv,i,fg]
 have Q:Z (L.length+4<=1099511627776):=by show L.length+4<=1099511627776;omega
 clear m i;go_enter func143,ntmps143;have A:Z _:=xT n G;have R:Z (isBytes [(n:Int)/16777216,(n:Int)/65536%256,(n:Int)/256%256,(n:Int)%256]):=by rw[A.o];exact iD n
 have T:Z (∀c,c<4->(w.alloc (Obj.cells #[Value.int IntKind.u8 ((n:Int)/16777216),Value.int IntKind.u8 ((n:Int)/65536%256),Value.int IntKind.u8 ((n:Int)/256%256),Value.int IntKind.u8 ((n:Int)%256)] 5)).cell? ⟨w.heap.size,0+c,none⟩=some (.int .u8 ([(n:Int)/16777216,(n:Int)/65536%256,(n:Int)/256%256,(n:Int)%256].getD c 0))):=by
  intro c a4;rw[XD];rw[Xr _ _ _ _ rfl]
  have:c=0\/c=1\/c=2\/c=3:=O
  rcases this with rfl|rfl|rfl|rfl<;>rfl
 go_wp2_with (at_builtin;refine ki _ rfl _ _ rfl N (.slice v b y) L rfl (z.o.alloc _) w.heap.size 0 4 4 [(n:Int)/16777216,(n:Int)/65536%256,(n:Int)/256%256,(n:Int)%256] rfl rfl O R.o T.o Q.o Xf ?_)
 intro a5 r l B C;rw[A.o] at l;obtain⟨D,E,rfl⟩:=l.slice' P.o;have d:=((Fr.refl _ w).alloc _).trans B;have V:=(d.cell (k:=0) q o).trans M;have a6:=(d.frozen (k:=0) q o).trans (e 0);have W:=U l;have s:Z _:=d.mono (λX _ p=>g.o X p);have Y:Z (∀a,(Value.slice D (b+4) E).ownBlock=some a->S a):=λa a0=>by
  rcases C a a0 with h|h
  .exact g.o a h
  .exact f.o a (by first|omega|(simp at h;omega))
 have a1:Z (∀a,r.frozen? ⟨x,a,none⟩=false):=λa=>(d.frozen q o).trans (e.o a)
 clear B l d C;go_wp2;go_end0
 have F:(r.setCell ⟨x,0,none⟩ (Value.slice D (b+4) E)).heap.size=r.heap.size:=by simp[World.setCell]
 exact⟨rfl,⟨t,by rw[F];exact Xz K s.o.size,λa=>by rw[Xy];exact a1.o a,u,λj a2=>f.o j (by rw[F] at a2;have:=s.o.size;omega),⟨_,af V _,W.o.set t _ _,Y.o⟩⟩,s.o.setCell (Or.inl u) _ _⟩
end Go.Proofs.YtbedkdnphobmlaaGreatDoor
namespace Go.Proofs.YtbedkdnphobmlaaGreatDoor
open Go.RowKit Tryz
def lnT:List Nat:=[3,4,5,6,7,8,9,10,11,13,15,17,19,23,27,31,35,43,51,59,67,83,99,115,131,163,195,227,258]
def lbT:List Nat:=[0,0,0,0,0,0,0,0,1,1,1,1,2,2,2,2,3,3,3,3,4,4,4,4,5,5,5,5,0]
def dsT:List Nat:=[1,2,3,4,5,7,9,13,17,25,33,49,65,97,129,193,257,385,513,769,1025,1537,2049,3073,4097,6145,8193,12289,16385,24577]
def orT:List Nat:=[16,17,18,0,8,7,9,6,10,5,11,4,12,3,13,2,14,1,15]
structure ep (w:World):Prop where
 len:∀j,j<29->w.cell? ⟨1,j,none⟩=some (.int .i64 (lnT.getD j 0:Nat))
 lbt:∀j,j<29->w.cell? ⟨4,j,none⟩=some (.int .i64 (lbT.getD j 0:Nat))
 dis:∀j,j<30->w.cell? ⟨2,j,none⟩=some (.int .i64 (dsT.getD j 0:Nat))
 ord:∀j,j<19->w.cell? ⟨3,j,none⟩=some (.int .i64 (orT.getD j 0:Nat))
theorem ep.kept{w W}(h:ep w)(k:Kept w W):ep W:=
 ⟨λa b=>(k.cell (B _ _ (h.len a b))).trans (h.len a b),λa b=>(k.cell (B _ _ (h.lbt a b))).trans (h.lbt a b),λa b=>(k.cell (B _ _ (h.dis a b))).trans (h.dis a b),λa b=>(k.cell (B _ _ (h.ord a b))).trans (h.ord a b)⟩
theorem ep.fr{S:Nat->Prop}{w W}(h:ep w)(k:Fr S w W)(c:¬S 1)(d:¬S 4)(e:¬S 2)(f:¬S 3):ep W:=
 ⟨λa b=>(k.cell (B _ _ (h.len a b)) c).trans (h.len a b),λa b=>(k.cell (B _ _ (h.lbt a b)) d).trans (h.lbt a b),λa b=>(k.cell (B _ _ (h.dis a b)) e).trans (h.dis a b),λa b=>(k.cell (B _ _ (h.ord a b)) f).trans (h.ord a b)⟩
theorem AQ:∀a,a<29->3<=lnT.getD a 0/\lnT.getD a 0<=258/\lbT.getD a 0<=5:=Xh
theorem iX(w:World)(o:Obj)(n:Nat)(hn:n=w.heap.size):(w.alloc o).heap[n]? = some o:=by subst hn;exact heap_alloc_new w o
end Go.Proofs.YtbedkdnphobmlaaGreatDoor
namespace Go.Proofs.YtbedkdnphobmlaaGreatDoor
open Go.RowKit Px Tryz
def chB(T:Nat)(l:List Int):List Int:=beB l.length++(beB T++(l++beB (aC (gb ag (beB T++l)))))
theorem dF T l:(chB T l).length=l.length+12:=by
 unfold chB;rw[Xv,Xv,Xv,fg,fg,fg];omega
theorem Ea s a(h:s<4294967296)(b:isBytes a):gb s a<4294967296:=by
 unfold gb
 induction a generalizing s with
 | nil=>exact h
 | cons c a d=>
  have g:=b c Xi;exact d _ (bH _ _ h O) (λe f=>b e (by simp[f]))
theorem vC:Value.int .u32 4294967295=Value.int .u32 ((gb ag []:Nat):Int):=rfl
theorem oo(x N T:Nat)L(S:Nat->Prop)z l w(h:∀q:Nat,q<4294967296->Calls prog 143 #[.pointer (some ⟨x,0,none⟩),.int .u32 q] w λf i=>f=.returned (.tuple #[])/\bo x N (L++beB q) S w i)(e9:0<L.length)(a5:LAt w .u8 z l)(a6:isBytes l)(c7:∀c o,z=.slice none c o->o=0)(c8:∀g,ai z=some g->¬S g)(f0:L.length<=1000000000)(f1:l.length<=1000000)(f2:T<4294967296):Calls prog 106 #[.pointer (some ⟨x,0,none⟩),.int .u32 T,z] w λf i=>f=.returned (.tuple #[])/\bo x N (L++chB T l) S w i:=by
 obtain⟨A,o,rfl⟩:=a5.form;obtain⟨a,E⟩:∃a,L.length=a:=⟨_,rfl⟩;obtain⟨c,F⟩:∃c,l.length=c:=⟨_,rfl⟩;have c9:Z (∀(e:World) (H:List Int) (q:Nat),q<4294967296->H.length<=2000000000->WrY e x N H S->Calls prog 143 #[.pointer (some ⟨x,0,none⟩),.int .u32 q] e λf i=>f=.returned (.tuple #[])/\bo x N (H++beB q) S e i):=λe H q u v f3=>At x N q H e S f3 u v
 have f4:Z (∀(e:World) (j I:Nat),j<4294967296->I<256->Calls prog 81 #[.int .u32 j,.int .u8 I] e λf i=>f=.returned (.int .u32 (bh j I:Nat))/\i=e):=λe j I a7 f5=>jq j I e a7 f5
 have f6:Z (∀(e:World) (j:Nat),j<4294967296->Calls prog 85 #[.int .u32 j] e λf i=>f=.returned (.int .u32 (aC j:Nat))/\i=e):=λe j a7=>nN j e a7
 have f7:Z _:=h;have a8:Z _:=a5;have d0:Z _:=c8;have f8:Z (isBytes l):=a6;have f9:Z (A=none->o=0):=λr=>c7 l.length o (by rw[r])
 rw[F] at a8 d0 f1 ⊢;rw[E] at f0 e9;have J:Z ((L++beB c).length=a+4):=by show(L++beB c).length=a+4;rw[Xv,E,fg]
 have V:Z ((L++beB c++beB T).length=a+8):=by show(L++beB c++beB T).length=a+8;rw[Xv,Xv,E,fg,fg]
 have s:Z ((L++beB c++beB T++l).length=a+8+c):=by show(L++beB c++beB T++l).length=a+8+c;rw[Xv,Xv,Xv,E,fg,fg,F]
 obtain⟨K,W⟩:∃K,K=L++beB c:=⟨_,rfl⟩;obtain⟨t,a9⟩:∃t,t=L++beB c++beB T:=⟨_,rfl⟩;have d1:Z _:=F;have X:Z ((L++beB c++beB T++l).drop (a+4)=beB T++l):=by
  show(L++beB c++beB T++l).drop (a+4)=beB T++l
  rw[XY (L++beB c),List.drop_append_of_le_length (by rw[J.o];omega),List.drop_of_length_le (by rw[J.o];omega),Ze]
 have g0:Z (isBytes (beB T++l)):=(iD T).app a6;have b0:Z (L++chB T l=L++beB c++beB T++l++beB (aC (gb ag (beB T++l)))):=by
  show L++chB T l=_
  unfold chB;rw[F];simp only[XY]
 rw[<-a9] at V s X b0;rw[<-W] at J;have g1:Z _:=W;have g2:Z (K++beB T=t):=by show K++beB T=t;rw[W,a9]
 clear h a5 c8 a6 c7 E F W a9;have g3:c<4294967296:=O;go_enter func106,ntmps106;go_wp2_with fail;refine(f7.o c g3).mono ?_;rintro f g4 ⟨rfl,y⟩;rw[<-g1.o] at y;obtain⟨i3,g5,d2,g6⟩:=y.at'.o;obtain⟨i4,i5,rfl⟩:=d2.slice' J.o;replace y:Z (bo x N K S w g4):=y;clear d2 g6;go_wp2_with fail;refine(c9.o _ _ T f2 (by rw[J.o];omega) y.o.at').mono ?_;rintro f b1 ⟨rfl,m⟩;rw[g2.o] at m;replace m:Z (bo x N t S w b1):=y.o.trans m;obtain⟨i6,g7,Y,M⟩:=m.o.at'.o;obtain⟨b2,b3,rfl⟩:=Y.slice' V.o;have g8:=m.o.at'.fz 0;have i7:=m.o.at'.size;have d3:=m.o.at'.lt;have b4:¬(Value.slice b2 (a+8) b3).ownBlock=some x:=λr=>by have:=Y.ge x r;omega
 have b5:x<b1.heap.size:=O;have d4:Z (bg b1 N (.slice b2 (a+8) b3) t):=Y;replace M:Z _:=M;clear y g5 Y;have d5:Z _:=a8.o.fr m.o.fr d0.o;clear a8;have b6:Z (Value.slice A c o=.slice A l.length o):=by show Value.slice A c o=.slice A l.length o;rw[d1.o]
 go_wp2_with (at_builtin;refine B6 _ rfl _ _ rfl N (.slice b2 (a+8) b3) t rfl d4.o (by rw[V.o];omega) A o l b6.o (by rw[<-b6.o];exact d5.o) f8.o f9.o (by rw[V.o,d1.o];omega) O ?_)
 intro i8 a0 b7 C d6;obtain⟨P,a1,rfl⟩:=b7.slice' s.o;have d7:=(C.cell (k:=0) b5 b4).trans g7;have i9:=(C.frozen (k:=0) b5 b4).trans g8;have b8:Z (bo x N (t++l) S w (a0.setCell ⟨x,0,none⟩ (.slice P (a+8+c) a1))):=by
  have d8:(a0.setCell ⟨x,0,none⟩ (Value.slice P (a+8+c) a1)).heap.size=a0.heap.size:=by simp[World.setCell]
  have Q:=m.o.at';have j0:=C.size;refine⟨⟨d3,by rw[d8];omega,λb=>by rw[Xy];exact(C.frozen b5 b4).trans (Q.fz b),Q.sx,λg R=>Q.new g (by rw[d8] at R;omega),⟨_,af d7 _,b7.set d3 _ _,?_⟩⟩,?_⟩
  .intro g R
   rcases d6 g R with h|h
   .exact M.o g h
   .exact Q.new g h
  .exact(m.o.fr.trans (C.mono (λg9 _ r=>M.o g9 r))).setCell (Or.inl Q.sx) _ _
 have b9:=af d7 (.slice P (a+8+c) a1);clear C b7 d6 d5 m M d4 b6;go_wp2_with fail;generalize a0.setCell ⟨x,0,none⟩ (.slice P (a+8+c) a1)=d9 at *;obtain⟨d,e0⟩:∃d,d=t++l:=⟨_,rfl⟩;rw[<-e0] at b8 s X b0;clear e0;go_loopg [7,8] (c+4) (λh0 h1 z e=>∃b:Nat,h0=a+8+c-b/\a+4<=b/\b<=a+8+c/\z=.int .i64 b/\h1=.int .u32 (gb ag ((d.drop (a+4)).take (b-(a+4))):Nat)/\Kept d9 e)
 case atStart=>exact⟨a+4,O,O,O,Xj,by rw[YC,List.take_zero];exact vC,Kept.refl _⟩
 case round=>
  obtain⟨b,c0,j1,j2,rfl,rfl,v⟩:=hrel;replace c0:Z _:=c0;have c1:Z _:=b8.o.kept v;have h2:=(v.cell (p:=⟨x,0,none⟩) (B _ _ b9)).trans b9;replace v:Z (Kept d9 wr):=v;clear b9 b8;have a2:gb ag ((d.drop (a+4)).take (b-(a+4)))<4294967296:=Ea _ _ (by unfold ag;omega) (λh3 e1=>by rw[X.o] at e1;exact g0.o h3 (YE e1));by_cases j3:b<a+8+c
  .obtain⟨j4,a3,c2,_⟩:=c1.o.at'.o
   rw[h2] at a3
   injection a3 with a3
   subst a3;have e2:=c2.lat;have e3:=c2.1;obtain⟨g,U,rfl,c3⟩:∃g U,P=some ⟨g,U,none⟩/\wr.cell? ⟨g,U+b,none⟩=some (.int .u8 (d.getD b 0)):=by
    obtain⟨g,U,j5,r,c3⟩:=e2.addr (by rw[s.o];omega)
    injection r with r _ _
    exact⟨g,U,r,c3 b (by rw[s.o];omega)⟩
   have a4:b<d.length:=by rw[s.o];omega
   have e4:=e3 _ (az a4);obtain⟨D,c4⟩:∃D:Nat,d.getD b 0=(D:Int):=⟨(d.getD b 0).toNat,O⟩;have e5:Z (gb ag ((d.drop (a+4)).take (b+1-(a+4)))=bh (gb ag ((d.drop (a+4)).take (b-(a+4)))) D):=by
    show gb ag ((d.drop (a+4)).take (b+1-(a+4)))=_
    rw[<-zf];have h4:b-(a+4)<(d.drop (a+4)).length:=by rw[Yn,s.o];omega
    have R:(d.drop (a+4))[b-(a+4)]=(D:Int):=by
     rw[List.getElem_drop,<-c4,G,Xt a4];simp only[show a+4+(b-(a+4))=b from O,Option.getD_some]
    rw[show b+1-(a+4)=(b-(a+4))+1 from O,XM h4,R]
   rw[c4] at c3 e4;have h5:D<256:=O;clear e4 c2 e3 e2 c4;replace a4:Z _:=a4;have h6:(b:Int)<(a:Int)+8+(c:Int):=O;have j6:(0:Int)<=(b:Int):=O;obtain⟨q,u⟩:∃q,q=gb ag ((d.drop (a+4)).take (b-(a+4))):=⟨_,rfl⟩;rw[<-u] at e5 a2 ⊢;clear u;go_wp2_with fail;refine(f4.o _ q D a2 h5).mono ?_;rintro f c5 ⟨rfl,h7⟩;subst c5;go_wp2_with fail;go_roundg (a+8+c-(b+1))
   case measure=>rw[c0.o];omega
   case rel=>exact⟨b+1,rfl,O,O,Xj,by rw[e5.o],v.o⟩
  .have h6:¬(b:Int)<(a:Int)+8+(c:Int):=O
   have e6:b=a+8+c:=O;have e7:Z (gb ag ((d.drop (a+4)).take (b-(a+4)))=gb ag (beB T++l)):=by
    show gb ag ((d.drop (a+4)).take (b-(a+4)))=_
    rw[X6 (by rw[Yn,s.o];omega),X.o]
   obtain⟨q,u⟩:∃q,q=gb ag ((d.drop (a+4)).take (b-(a+4))):=⟨_,rfl⟩;rw[<-u] at e7 a2 ⊢;clear u;replace e6:Z _:=e6;have h8:aC q<4294967296:=by unfold aC;exact YY (n:=32) O O
   have h9:Z (aC q=aC (gb ag (beB T++l))):=by show aC q=_;rw[e7.o]
   have c6:=f6.o wr q a2;generalize aC q=e8 at *;replace c6:Z (Calls prog 85 #[.int .u32 q] wr λf i=>f=.returned (.int .u32 e8)/\i=wr):=c6;go_wp2_with fail;refine c6.o.mono ?_;rintro f c5 ⟨rfl,h7⟩;subst c5;go_wp2_with fail;refine(c9.o _ d e8 h8 (by rw[s.o];omega) c1.o.at').mono ?_;rintro f i0 ⟨rfl,i1⟩;have i2:Z (bo x N (L++chB T l) S w i0):=by
    rw[b0.o,<-h9.o];exact c1.o.trans i1
   go_wp2_with fail;go_end0
   exact⟨rfl,i2.o⟩
theorem xY(x N T:Nat)L(S:Nat->Prop)v l w(h:WrY w x N L S)(c:0<L.length)(d:LAt w .u8 v l)(e:isBytes l)(f:∀g a,v=.slice none g a->a=0)(i:∀b,ai v=some b->¬S b)(j:L.length<=1000000000)(k:l.length<=1000000)(m:T<4294967296):Calls prog 106 #[.pointer (some ⟨x,0,none⟩),.int .u32 T,v] w λn o=>n=.returned (.tuple #[])/\bo x N (L++chB T l) S w o:=
 oo x N T L S v l w (λp q=>At x N p L w S h q O) c d e f i j k m
theorem Ho x N L(S:Nat->Prop)v l w(h:WrY w x N L S)(k:0<L.length)(b:LAt w .u8 v l)(e:isBytes l)(f:∀m c,v=.slice none m c->c=0)(g:∀i,ai v=some i->¬S i)(n:L.length<=1000000000)(o:l.length<=1000000):Calls prog 72 #[.pointer (some ⟨x,0,none⟩),v] w λa d=>a=.returned (.tuple #[])/\bo x N (L++chB bC l) S w d:=by
 have p:Z (Calls prog 106 #[.pointer (some ⟨x,0,none⟩),.int .u32 1347179589,v] w λa d=>a=.returned (.tuple #[])/\bo x N (L++chB bC l) S w d):=(λ(j:Nat) (q:j<4294967296)=>xY x N j L S v l w h k b e f g n o q) bC Xh;obtain⟨s,c,rfl⟩:=b.form;clear h b e f g;go_enter func72,ntmps72;go_wp2_with fail;refine p.o.mono ?_;rintro a t ⟨rfl,r⟩;go_wp2;go_end0
 exact⟨rfl,r⟩
theorem BN x N L(S:Nat->Prop)v l w(h:WrY w x N L S)(k:0<L.length)(b:LAt w .u8 v l)(e:isBytes l)(f:∀m c,v=.slice none m c->c=0)(g:∀i,ai v=some i->¬S i)(n:L.length<=1000000000)(o:l.length<=1000000):Calls prog 74 #[.pointer (some ⟨x,0,none⟩),v] w λa d=>a=.returned (.tuple #[])/\bo x N (L++chB aT l) S w d:=by
 have p:Z (Calls prog 106 #[.pointer (some ⟨x,0,none⟩),.int .u32 1951551059,v] w λa d=>a=.returned (.tuple #[])/\bo x N (L++chB aT l) S w d):=(λ(j:Nat) (q:j<4294967296)=>xY x N j L S v l w h k b e f g n o q) aT Xh;obtain⟨s,c,rfl⟩:=b.form;clear h b e f g;go_enter func74,ntmps74;go_wp2_with fail;refine p.o.mono ?_;rintro a t ⟨rfl,r⟩;go_wp2;go_end0
 exact⟨rfl,r⟩
theorem D7 x N L(S:Nat->Prop)v l w(h:WrY w x N L S)(k:0<L.length)(b:LAt w .u8 v l)(e:isBytes l)(f:∀m c,v=.slice none m c->c=0)(g:∀i,ai v=some i->¬S i)(n:L.length<=1000000000)(o:l.length<=1000000):Calls prog 108 #[.pointer (some ⟨x,0,none⟩),v] w λa d=>a=.returned (.tuple #[])/\bo x N (L++chB ar l) S w d:=by
 have p:Z (Calls prog 106 #[.pointer (some ⟨x,0,none⟩),.int .u32 1229209940,v] w λa d=>a=.returned (.tuple #[])/\bo x N (L++chB ar l) S w d):=(λ(j:Nat) (q:j<4294967296)=>xY x N j L S v l w h k b e f g n o q) ar Xh;obtain⟨s,c,rfl⟩:=b.form;clear h b e f g;go_enter func108,ntmps108;go_wp2_with fail;refine p.o.mono ?_;rintro a t ⟨rfl,r⟩;go_wp2;go_end0
 exact⟨rfl,r⟩
theorem Ia x N L(S:Nat->Prop)w(h:WrY w x N L S)(e:0<L.length)(f:L.length<=1000000000):Calls prog 77 #[.pointer (some ⟨x,0,none⟩)] w λa b=>a=.returned (.tuple #[])/\bo x N (L++chB aJ []) S w b:=by
 have g:Z (Calls prog 106 #[.pointer (some ⟨x,0,none⟩),.int .u32 1229278788,(.slice none 0 0)] w λa b=>a=.returned (.tuple #[])/\bo x N (L++chB aJ []) S w b):=(λ(d:Nat) (i:d<4294967296)=>xY x N d L S (.slice none 0 0) [] w h e LAt.nil isBytes.nil (λl m c=>by injection c with _ _ c;exact c.symm) (λn j=>by cases j) f Xi i) aJ Xh;clear h;go_enter func77,ntmps77;go_wp2_with fail;refine g.o.mono ?_;rintro a o ⟨rfl,k⟩;go_wp2;go_end0
 exact⟨rfl,k⟩
end Go.Proofs.YtbedkdnphobmlaaGreatDoor
namespace Go.Proofs.YtbedkdnphobmlaaGreatDoor
open Go.RowKit Tryz
def S0(x N:Nat):Nat->Prop:=λg=>g=x\/N<=g
def S1(x N d:Nat):Nat->Prop:=λg=>(g=x\/N<=g)/\g≠d
end Go.Proofs.YtbedkdnphobmlaaGreatDoor
namespace Go.Proofs.YtbedkdnphobmlaaGreatDoor
open Go.RowKit Px Tryz
def eu:List Int:=[137,80,78,71,13,10,26,10]
theorem kD:eu.length=8:=rfl
theorem mB:isBytes eu:=by
 intro b a;simp[eu] at a
 rcases a with rfl|rfl|rfl|rfl|rfl|rfl|rfl|rfl<;>omega
structure rE (W:World) (x N g:Nat) (S:Nat->Prop):Prop where
 lt:x<N
 size:N<=W.heap.size
 fz:∀k,W.frozen? ⟨x,k,none⟩=false
 sx:S x
 new:∀g,W.heap.size<=g->S g
 o:W.cell? ⟨x,0,none⟩=some (.slice (some ⟨g,0,none⟩) 8 8)
 gx:g≠x
 cl:∀j,j<8->W.cell? ⟨g,j,none⟩=some (.int .u8 (eu.getD j 0))
theorem B5 w{ops rest o a}{r:Exit->Act->World->Prop}(z:o.guard=none)s x(A:o.op=Op.call {callee:=Callee.builtin Builtin.append,args:=#[s,x],argTypes:=#[56,56]})N g n(B:a.eval s=.slice (some ⟨g,0,none⟩) n n)ol(t:ol.length=n)(C:isBytes ol)(D:∀b,b<n->w.cell? ⟨g,b,none⟩=some (.int .u8 (ol.getD b 0)))g2 m c es(E:a.eval x=.slice (some ⟨g2,0,none⟩) m c)(F:m=es.length)(U:0<m)(H:isBytes es)(I:∀b,b<m->w.cell? ⟨g2,0+b,none⟩=some (.int .u8 (es.getD b 0)))(u:n+m<=1099511627776)(J:N<=w.heap.size)(K:∀f h,bg h N f (ol++es)->Kept w h->(∀k,f.ownBlock=some k->w.heap.size<=k)->wpList prog ops r rest (a.put o.dst f) h):wpList prog ops r (o::rest) a w:=by
 subst F;obtain⟨L,M,P,Q,R⟩:=info_parts' ib;have v:∀(i:List Int) (b:Nat) (d:Value),(u8s i)[b]? = some d->b<i.length/\d=.int .u8 (i.getD b 0):=by
  intro i b d e;have p:b<i.length:=by
   have:=(Yb.1 e).1
   simpa[u8s] using this
  refine⟨p,?_⟩;simp[u8s,XQ,Xt p] at e
  rw[<-e];simp[G,Xt p]
 refine wpList_append_grows w z s x 56 A 5 L (.int .u8 0) 1 1 underlying56 M P Q R rfl O (some ⟨g,0,none⟩) n n (u8s ol) B (λS=>by cases S) (by simp[u8s,t]) ?_ ⟨g2,0,none⟩ es.length c (u8s es) E (by simp[u8s]) ?_ ?_ O Xn O ?_
 .intro V u b d e
  cases u
  obtain⟨l,rfl⟩:=v ol b d e;rw[Addr.add_mid,XD];exact D b O
 .intro b d e
  obtain⟨l,rfl⟩:=v es b d e;rw[Addr.add_mid];exact I b l
 .intro d y;simp[u8s] at y;obtain⟨W,_,rfl⟩:=y;rfl
 .intro f h l j
  have q:bg h w.heap.size f (ol++es):=⟨C.app H,by simpa[u8s,t] using l⟩;exact K f h ⟨q.1,mS q.2 J⟩ ⟨j.os,j.tape,j.output,j.size,λk T=>j.block k T Xi⟩ q.ge
theorem sG(x N g n:Nat)w(S:Nat->Prop)(h:rE w x N g S)(z:n<4294967296):Calls prog 143 #[.pointer (some ⟨x,0,none⟩),.int .u32 n] w λA C=>A=.returned (.tuple #[])/\bo x N (eu++beB n) S w C:=by
 obtain⟨o,D,d,q,e,F,V,j⟩:=h;replace d:Z (∀b,w.frozen? ⟨x,b,none⟩=false):=d;replace e:Z (∀g,w.heap.size<=g->S g):=e;have k:x<w.heap.size:=O;have G:Z (∀a,a<8->(w.alloc (Obj.cells #[Value.int IntKind.u8 ((n:Int)/16777216),Value.int IntKind.u8 ((n:Int)/65536%256),Value.int IntKind.u8 ((n:Int)/256%256),Value.int IntKind.u8 ((n:Int)%256)] 5)).cell? ⟨g,a,none⟩=some (.int .u8 (eu.getD a 0))):=by
  intro a l;rw[YG _ _ _ (B w _ (j a l))];exact j a l
 clear j;have H:Z (isBytes [(n:Int)/16777216,(n:Int)/65536%256,(n:Int)/256%256,(n:Int)%256]):=by
  intro W r;simp at r;rcases r with rfl|rfl|rfl|rfl<;>omega
 have I:Z (∀a,a<4->(w.alloc (Obj.cells #[Value.int IntKind.u8 ((n:Int)/16777216),Value.int IntKind.u8 ((n:Int)/65536%256),Value.int IntKind.u8 ((n:Int)/256%256),Value.int IntKind.u8 ((n:Int)%256)] 5)).cell? ⟨w.heap.size,0+a,none⟩=some (.int .u8 ([(n:Int)/16777216,(n:Int)/65536%256,(n:Int)/256%256,(n:Int)%256].getD a 0))):=by
  intro a l;rw[XD];rw[Xr _ _ _ _ rfl]
  have:a=0\/a=1\/a=2\/a=3:=O
  rcases this with rfl|rfl|rfl|rfl<;>rfl
 have J:Z ((eu++beB n).length=8+4):=rfl;go_enter func143,ntmps143;go_wp2_with (at_builtin;refine B5 _ rfl _ _ rfl N g 8 rfl eu kD mB G.o w.heap.size 4 4 [(n:Int)/16777216,(n:Int)/65536%256,(n:Int)/256%256,(n:Int)%256] rfl rfl O H.o I.o O Xf ?_)
 intro X f i s t;rw[(xT n z)] at i;obtain⟨u,v,rfl⟩:=i.slice' J.o;have c:=Kept.trans (Xw (Xs _ _) (E _) _) s;have K:=(c.cell (p:=⟨x,0,none⟩) k).trans F;have Y:=(c.frozen (p:=⟨x,0,none⟩) k).trans (d 0);have M:=U i;have m:Z (Fr S w f):=Fr.of_kept c;have P:Z (∀b,(Value.slice u (8+4) v).ownBlock=some b->S b):=λb Q=>e.o b (by have:=t b Q;first|omega|(simp at this;omega))
 have R:Z (∀b,f.frozen? ⟨x,b,none⟩=false):=λb=>(c.frozen (p:=⟨x,b,none⟩) k).trans (d.o b)
 clear s i c t;go_wp2;go_end0
 have y:(f.setCell ⟨x,0,none⟩ (Value.slice u (8+4) v)).heap.size=f.heap.size:=by simp[World.setCell]
 exact⟨rfl,⟨o,by rw[y];exact Xz D m.o.size,λb=>by rw[Xy];exact R.o b,q,λg T=>e.o g (by rw[y] at T;have:=m.o.size;omega),⟨_,af K _,M.o.set o _ _,P.o⟩⟩,m.o.setCell (L q) _ _⟩
theorem En b:Calls prog 70 #[] b λe d=>∃c,e=.returned (.agg #[.slice (some ⟨c,0,none⟩) 8 8])/\b.heap.size<=c/\(∀a,a<8->d.cell? ⟨c,a,none⟩=some (.int .u8 (eu.getD a 0)))/\Kept b d:=by
 have k:=λ(b:World) (f:Array Value) (g h c:Nat) (i:c=b.heap.size)=>Joins.run_convert_bytes_const_at (P:=prog) b 56 5 f g h c i underlying56 underlying5
 go_enter func70,ntmps70;have j:(prog.info? 122).map (·.size)=some 1:=Xk;go_wp2;refine XA (v := .agg #[.slice (some ⟨b.heap.size+1,0,none⟩) 8 8]) (ah rfl _ _ b.heap.size 0 _ rfl ?_) rfl ?_
 .refine run_loadVar_row _ _ 122 122 _ (0,0) _ ?_ underlying122 rfl j
  rw[heap_alloc_old _ _ Xi];exact iX _ _ _ rfl
 .refine⟨b.heap.size+1,rfl,O,?_,Xw (Xw (Xs _ _) (E _) _) Xi _⟩
  .intro a l
   rw[Joins.cell_alloc_mark_at _ _ _ _ _ _ Xi]
   have:a=0\/a=1\/a=2\/a=3\/a=4\/a=5\/a=6\/a=7:=O
   rcases this with rfl|rfl|rfl|rfl|rfl|rfl|rfl|rfl<;>rfl
def hdI(W H D K L:Nat):List Int:=[0,0,0,(W:Int),0,0,0,(H:Int),(D:Int),(K:Int),0,0,(L:Int)]
theorem vk W H D K L(b:W<=16)(c:H<=16)(d:D<=16)(e:K<=6)(f:L<=1):isBytes (hdI W H D K L):=by
 intro g a;simp only[hdI,Y4,List.not_mem_nil,or_false] at a;omega
theorem DO(a H D K L:Nat)w(e:a<=16)(f:H<=16)(g:D<=16)(h:K<=6)(i:L<=1):Calls prog 105 #[.agg #[.int .i64 a,.int .i64 H,.int .i64 D,.int .i64 K,.int .i64 L]] w λb c=>b=.returned (.agg (u8s (hdI a H D K L)).toArray)/\Kept w c:=by
 have d:(prog.info? 72).map (·.size)=some 13:=Xk;go_enter func105,ntmps105;go_wp2;refine XA (v := .agg #[.int .u8 ((a:Int)/16777216),.int .u8 ((a:Int)/65536),.int .u8 ((a:Int)/256),.int .u8 a,.int .u8 ((H:Int)/16777216),.int .u8 ((H:Int)/65536),.int .u8 ((H:Int)/256),.int .u8 H,.int .u8 D,.int .u8 K,.int .u8 0,.int .u8 0,.int .u8 L]) (ah rfl _ _ (w.heap.size+1) 0 _ rfl ?_) rfl ?_
 .refine run_loadVar_row _ _ 72 72 _ (0,0) _ ?_ underlying72 rfl d
  exact iX _ _ _ Xi
 .refine⟨?_,Xw (Xw (Xs _ _) (E _) _) Xi _⟩
  rw[show(a:Int)/16777216=0 from O,show(a:Int)/65536=0 from O,show(a:Int)/256=0 from O,show(H:Int)/16777216=0 from O,show(H:Int)/65536=0 from O,show(H:Int)/256=0 from O];rfl
theorem G2 x N L(S:Nat->Prop)w(h:WrY w x N L S)(i:0<L.length)(j:L.length<=1000000000):Calls prog 78 #[.pointer (some ⟨x,0,none⟩)] w λk l=>k=.returned (.string (strOfNums L))/\Kept w l:=by
 obtain⟨s,t,u,v,y,z,m,c,n⟩:=h;have d:=c.lat;obtain⟨a,b⟩:∃a,L.length=a:=⟨_,rfl⟩;obtain⟨o,p,q,rfl,e⟩:=d.addr O;have f:=run_convert_bytes_arg (P:=prog) w 56 5 underlying56 underlying5 o p L.length q L rfl e 9 underlying9;clear c n d e;rw[b] at i j m f;replace b:Z (L.length=a):=b;obtain⟨A,g⟩:∃r,r=strOfNums L:=⟨_,rfl⟩;rw[<-g] at f ⊢;clear g;go_enter func78,ntmps78;go_wp2;go_ret;exact⟨rfl,Kept.refl _⟩
theorem bo.widen{x N n}{S c:Nat->Prop}{w w'}(h:bo x N n c w w')(d:∀a,c a->S a)(e:∀a,w'.heap.size<=a->S a):bo x N n S w w' :=
 ⟨h.at'.turn (λa _ b=>d a b) e,h.fr.mono (λa _ b=>d a b)⟩
theorem rE.turn{W x N g}{S a:Nat->Prop}(h:rE W x N g S)(b:a x)(c:∀g,W.heap.size<=g->a g):rE W x N g a:=⟨h.lt,h.size,h.fz,b,c,h.o,h.gx,h.cl⟩
theorem rE.kept{W W' x N g}{S:Nat->Prop}(h:rE W x N g S)(k:Kept W W'):rE W' x N g S:=by
 obtain⟨e,f,i,j,l,m,n,b⟩:=h;have c:x<W.heap.size:=O;exact⟨e,Xz f k.size,λa=>(k.frozen (p:=⟨x,a,none⟩) c).trans (i a),j,λg o=>l g (Xz k.size o),(k.cell (p:=⟨x,0,none⟩) c).trans m,n,λa d=>(k.cell (p:=⟨g,a,none⟩) (B _ _ (b a d))).trans (b a d)⟩
theorem DM(x N g d H D K L:Nat)w(h:rE w x N g (S0 x N))(l:d<=16)(t:H<=16)(u:D<=16)(v:K<=6)(y:L<=1):Calls prog 71 #[.pointer (some ⟨x,0,none⟩),.agg #[.int .i64 d,.int .i64 H,.int .i64 D,.int .i64 K,.int .i64 L]] w λj p=>j=.returned (.tuple #[])/\bo x N (eu++chB bt (hdI d H D K L)) (S0 x N) w p:=by
 have W:Z (∀m:World,Calls prog 105 #[.agg #[.int .i64 d,.int .i64 H,.int .i64 D,.int .i64 K,.int .i64 L]] m λj p=>j=.returned (.agg (u8s (hdI d H D K L)).toArray)/\Kept m p):=λm=>DO d H D K L m l t u v y
 have z:Z (Kept w (w.alloc (Obj.cells #[.int .i64 d,.int .i64 H,.int .i64 D,.int .i64 K,.int .i64 L] 71))):=Xw (Xs _ _) (E _) _;have A:=U (vk d H D K L l t u v y);have i:Z ((hdI d H D K L).length=13):=rfl;generalize hdI d H D K L=c at *;have X:Z _:=h;have b0:=h.lt;have b1:=h.size;clear h;go_enter func71,ntmps71;go_wp2_with fail;generalize (w.alloc (Obj.cells #[.int .i64 d,.int .i64 H,.int .i64 D,.int .i64 K,.int .i64 L] 71))=b2 at *;refine(W.o _).mono ?_;rintro j a ⟨rfl,B⟩;have Y:(u8s c).length=13:=by rw[<-i.o];simp[u8s]
 have C:∀b,b<13->∃q:Int,0<=q/\q<256/\(u8s c)[b]? = some (.int .u8 q):=by
  intro b n;have o:b<c.length:=by rw[i.o];exact n
  have:=A.o c[b] (YU o)
  exact⟨c[b],O,O,by simp[u8s,XQ,Xt o]⟩
 have a0:Z (∀b,b<13->(u8s c)[b]? = some (.int .u8 (c.getD b 0))):=by
  intro b n;have o:b<c.length:=by rw[i.o];exact n
  simp[u8s,XQ,Xt o,G]
 generalize u8s c=e at *;have k:Z ((a.alloc (Obj.cells #[Value.int .u8 0,.int .u8 0,.int .u8 0,.int .u8 0,.int .u8 0,.int .u8 0,.int .u8 0,.int .u8 0,.int .u8 0,.int .u8 0,.int .u8 0,.int .u8 0,.int .u8 0] 72)).there a.heap.size 0 e.length):=by
  intro b n;refine⟨?_,XB _ _ _ _ rfl⟩;rw[Xr _ _ _ _ rfl,XD]
  have:b<13:=O
  rw[Array.getElem?_eq_getElem (by simpa using this)];rfl
 have a1:(storeCells ⟨a.heap.size,0,none⟩ e).run prog (a.alloc (Obj.cells #[Value.int .u8 0,.int .u8 0,.int .u8 0,.int .u8 0,.int .u8 0,.int .u8 0,.int .u8 0,.int .u8 0,.int .u8 0,.int .u8 0,.int .u8 0,.int .u8 0,.int .u8 0] 72))=.ok () ((a.alloc (Obj.cells #[Value.int .u8 0,.int .u8 0,.int .u8 0,.int .u8 0,.int .u8 0,.int .u8 0,.int .u8 0,.int .u8 0,.int .u8 0,.int .u8 0,.int .u8 0,.int .u8 0,.int .u8 0] 72)).setCells a.heap.size 0 e):=bl k.o (ia Y C);have a2:Z (LAt ((a.alloc (Obj.cells #[Value.int .u8 0,.int .u8 0,.int .u8 0,.int .u8 0,.int .u8 0,.int .u8 0,.int .u8 0,.int .u8 0,.int .u8 0,.int .u8 0,.int .u8 0,.int .u8 0,.int .u8 0] 72)).setCells a.heap.size 0 e) .u8 (.slice (some ⟨a.heap.size,0,none⟩) 13 13) c):=by
  refine⟨⟨some ⟨a.heap.size,0,none⟩,13,by rw[i.o]⟩,?_⟩;intro b3 a3 F I J;rw[i.o] at J F
  injection F with a4 _ _
  exact⟨a.heap.size,0,a4.symm,XO _ _ _ _ k.o I _ (a0.o I J)⟩
 have r:Z (((a.alloc (Obj.cells #[Value.int .u8 0,.int .u8 0,.int .u8 0,.int .u8 0,.int .u8 0,.int .u8 0,.int .u8 0,.int .u8 0,.int .u8 0,.int .u8 0,.int .u8 0,.int .u8 0,.int .u8 0] 72)).setCells a.heap.size 0 e).heap.size=a.heap.size+1):=by show _=_;rw[setCells_size];simp
 have M:Z (Kept w ((a.alloc (Obj.cells #[Value.int .u8 0,.int .u8 0,.int .u8 0,.int .u8 0,.int .u8 0,.int .u8 0,.int .u8 0,.int .u8 0,.int .u8 0,.int .u8 0,.int .u8 0,.int .u8 0,.int .u8 0] 72)).setCells a.heap.size 0 e)):=(z.o.trans B).trans (Kept.setCells (E _) _ _ (Xw (Xs _ _) (E _) _));have b4:=(z.o.trans B).size;clear C k;go_wp2_with fail;generalize (a.alloc (Obj.cells #[Value.int .u8 0,.int .u8 0,.int .u8 0,.int .u8 0,.int .u8 0,.int .u8 0,.int .u8 0,.int .u8 0,.int .u8 0,.int .u8 0,.int .u8 0,.int .u8 0,.int .u8 0] 72)).setCells a.heap.size 0 e=P at *;clear a1;have s:=λ(Q:Nat) (k:Q<4294967296)=>oo x N Q eu (S1 x N a.heap.size) (.slice (some ⟨a.heap.size,0,none⟩) 13 13) c P (λa5 l=>sG x N g a5 P _ ((X.o.kept M.o).turn ⟨Or.inl rfl,O⟩ (λb5 T=>⟨R (by rw[r.o] at T;omega),by rw[r.o] at T;omega⟩)) l) Xh a2.o A.o (λb6 a3 f=>by injection f with f _ _;cases f) (λa6 a7 f=>by
  have:a.heap.size=a6:=by injection a7
  exact f.2 this.symm) Xh (by rw[i.o];decide) k
 replace s:Z _:=s;refine X9 (s.o bt ?_) ?_
 rotate_left
 .rintro j a8 ⟨rfl,V⟩
  have a9:Z (bo x N (eu++chB bt c) (S0 x N) w a8):=by
   have b7:=V.fr.size;have b8:=r.o
   have:=V.widen (S:=S0 x N) (λg f=>f.1) (λg b9=>R O)
   exact⟨this.at',Fr.trans (Fr.of_kept M.o) this.fr⟩
  go_wp2;go_end0
  exact⟨rfl,a9.o⟩
 .decide
end Go.Proofs.YtbedkdnphobmlaaGreatDoor
namespace Go.Proofs.YtbedkdnphobmlaaGreatDoor
open Go.RowKit Tryz
theorem IZ(n j:Nat)(h:j<n):(madeCells #[Value.int .u8 0] n).toList[j]? = some (.int .u8 0):=by
 simp[madeCells,h,Nat.mod_one]
