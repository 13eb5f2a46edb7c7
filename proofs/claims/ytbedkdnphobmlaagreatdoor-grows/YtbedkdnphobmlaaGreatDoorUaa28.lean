import Derived.Test.YtbedkdnphobmlaaGreatDoorProg
import Derived.Test.YtbedkdnphobmlaaGreatDoorUaa00
import Derived.Test.YtbedkdnphobmlaaGreatDoorUaa01
import Derived.Test.YtbedkdnphobmlaaGreatDoorUaa03
import Derived.Test.YtbedkdnphobmlaaGreatDoorUaa04
import Derived.Test.YtbedkdnphobmlaaGreatDoorUaa07
import Derived.Test.YtbedkdnphobmlaaGreatDoorUaa09
import Derived.Test.YtbedkdnphobmlaaGreatDoorUaa11
import Derived.Test.YtbedkdnphobmlaaGreatDoorUaa21
import Derived.Test.YtbedkdnphobmlaaGreatDoorUaa22
import Derived.Test.YtbedkdnphobmlaaGreatDoorUaa24
import Derived.Test.YtbedkdnphobmlaaGreatDoorUaa25
import Derived.Test.YtbedkdnphobmlaaGreatDoorUaa26
import Derived.Test.YtbedkdnphobmlaaGreatDoorUaa27
set_option linter.all false
set_option maxRecDepth 100000
set_option maxHeartbeats 0
namespace Go.Proofs.YtbedkdnphobmlaaGreatDoor
open Go.RowKit Px Tryz
theorem bg.frS{S:Nat->Prop}{w W N v l}(h:bg w N v l)(k:Fr S w W)(b:∀a,v.ownBlock=some a->¬S a):bg W N v l:=⟨h.1,Dd h.2 k b⟩
theorem bg.setO{w N v l}(h:bg w N v l){b}(c:v.ownBlock≠some b)k u:bg (w.setCell ⟨b,k,none⟩ u) N v l:=
 h.frS (S:=λa=>a=b) (Fr.setCell (S:=λa=>a=b) (Fr.refl _ _) (L rfl) _ _) (λa d e=>c (by rw[d,e]))
theorem IH{w ops o a}{K:Act->World->Prop}{n:Exit->Act->World->Prop}{p:Prop}(q:o.guard=none)s x(r:o.op=Op.call {callee:=Callee.builtin Builtin.append,args:=#[s,x],argTypes:=#[56,56]})v l(t:a.eval s=v)(u:bg w 0 v l)g c e(y:a.eval x=.slice (some ⟨g,0,none⟩) 1 c)(z:0<=e)(A:e<256)(B:w.cell? ⟨g,0,none⟩=some (.int .u8 e))(V:l.length+1<=1099511627776)H(C:w.heap.size=H)(D:∀b h d,bg d 0 (.slice (some ⟨b,0,none⟩) (l.length+1) h) (l++[e])->Fr (λk=>v.ownBlock=some k) w d->(v.ownBlock=some b\/b=H)->K (a.put o.dst (.slice (some ⟨b,0,none⟩) (l.length+1) h)) d):if Region.wanted o (yielded ops a.tmps)=true then Oper.wp prog o a w K n else p:=by
 obtain⟨E,F⟩:=u;obtain⟨G,I,J,L,M⟩:=info_parts' ib;refine step_append_lies w q s x 56 r 0 5 G (.int .u8 0) 1 1 underlying56 I J L M rfl O v l.length (u8s l) t F ⟨g,0,none⟩ 1 c (u8s [e]) y (by simp[u8s]) ?_ ?_ O Xn O (X3 _) H C ?_
 .intro i N j
  have W:i<1:=by
   have:=(Yb.1 j).1
   simpa[u8s] using this
  have P:i=0:=O;subst P;have Q:(Addr.add ⟨g,0,none⟩ 0)=⟨g,0,none⟩:=by unfold Addr.add;split<;>simp_all
  rw[Q,B]
  simpa[u8s] using j
 .intro N m;simp[u8s] at m;subst m;rfl
 .intro b h d R f S X
  exact D b h d ⟨E.snoc z A,by simpa[u8s] using R⟩ ⟨f.os,f.tape,f.output,f.size,λk T U=>f.block k T (λe=>U e.symm)⟩ S
structure zy (W:World) (x:Nat) (v:Value) (l:List Int) (r m:Nat):Prop where
 lt:x<W.heap.size
 fz:∀k,W.frozen? ⟨x,k,none⟩=false
 o:W.cell? ⟨x,0,none⟩=some v
 own:bg W 0 v l
 ne:v.ownBlock≠some x
 rest:W.cell? ⟨x,1,none⟩=some (.int .u32 (r:Int))
 sz:W.cell? ⟨x,2,none⟩=some (.int .u64 (m:Int))
theorem zy.kept{x r m v l w w'}(h:zy w x v l r m)(k:Kept w w'):zy w' x v l r m:=
 ⟨Xq h.lt k.size,λa=>(k.frozen (p:=⟨x,a,none⟩) h.lt).trans (h.fz a),(k.cell (p:=⟨x,0,none⟩) h.lt).trans h.o,h.own.kept k,h.ne,(k.cell (p:=⟨x,1,none⟩) h.lt).trans h.rest,(k.cell (p:=⟨x,2,none⟩) h.lt).trans h.sz⟩
theorem Aq x v0 l(r m n s:Nat)w(h:zy w x v0 l r m)(a8:r<2^m)(g4:m<=7)(g5:s<=16)(d3:n<4294967296)(g6:l.length<=1073741824):Calls prog 137 #[.pointer (some ⟨x,0,none⟩),.int .u32 n,.int .u64 s] w λR a9=>R=.returned (.tuple #[])/\∃b0,zy a9 x b0 (l++leB ((m+s)/8) (kJ r m n s)) (kJ r m n s/256^((m+s)/8)) ((m+s)%8)/\WrB x w v0 a9 b0:=by
 obtain⟨d4,d5,b1,T,b2,b3,b4⟩:=h;obtain⟨V,W,rfl⟩:=T.slice;obtain⟨o,X⟩:∃o,o=(Value.slice V l.length W).ownBlock:=⟨_,rfl⟩;have z:ZH0 _:=X;have Y:ZH0 (o≠some x):=by rw[X];exact b2
 clear X b2;have b5:=U T;have b6:=wF (n:=n) (s:=s) a8;have d6:=EJ (k:=m+s) O;obtain⟨b,a0⟩:∃b,b=kJ r m n s:=⟨_,rfl⟩;have d7:ZH0 (∀c:Int,c=bits BinOp.or IntKind.u32 (r:Int) (bits BinOp.and IntKind.u32 (n:Int) ((2^s-1)%4294967296)*2^m%4294967296)->c=(b:Int)):=λc a1=>by
  have g7:=EJ (k:=s) O;have g8:1<=2^s:=Nat.one_le_two_pow;have a2:((2:Int)^s-1)%4294967296=((2^s-1:Nat):Int):=by
   have:(2:Int)^s=((2^s:Nat):Int):=Xi
   rw[this];omega
  have d8:n%2^s*2^m<=kJ r m n s:=by unfold kJ;omega
  have d9:((n%2^s:Nat):Int)*2^m%4294967296=((n%2^s*2^m:Nat):Int):=by
   have:((n%2^s:Nat):Int)*2^m=((n%2^s*2^m:Nat):Int):=Xi
   rw[this];obtain⟨Z,e0⟩:∃Z,Z=n%2^s*2^m:=⟨_,rfl⟩;rw[<-e0] at d8 ⊢;omega
  rw[a1,a2,eZ n s d3 O,d9,tY r m _ a8 (by show kJ r m n s<_;omega),a0];rfl
 rw[<-a0] at b6 ⊢;clear T a0 b6 d6;obtain⟨t,b7⟩:∃t,t=m+s:=⟨_,rfl⟩;have g9:(m:Int)+(s:Int)=(t:Int):=O;have h0:t<=23:=O;rw[<-b7];clear b7;go_enter func137,ntmps137;go_wp2;go_region
 rw[d7.o _ rfl];have b8:((w.setCell {block:=x,off:=1} (Value.int IntKind.u32 (b:Int))).drew)=((w.setCell {block:=x,off:=1} (Value.int IntKind.u32 (b:Int))).drewN 1):=rfl;rw[b8];clear b8;have e1:((w.setCell ⟨x,1,none⟩ (Value.int IntKind.u32 (b:Int))).drewN 1).cell? ⟨x,0,none⟩=some (Value.slice V l.length W):=(aa _ _ _ _ _ O).trans b1;have e2:((w.setCell ⟨x,1,none⟩ (Value.int IntKind.u32 (b:Int))).drewN 1).cell? ⟨x,1,none⟩=some (Value.int IntKind.u32 (b:Int)):=af b3 _;have e3:((w.setCell ⟨x,1,none⟩ (Value.int IntKind.u32 (b:Int))).drewN 1).cell? ⟨x,2,none⟩=some (Value.int IntKind.u64 (m:Int)):=(aa _ _ _ _ _ O).trans b4;have b9:∀a,((w.setCell ⟨x,1,none⟩ (Value.int IntKind.u32 (b:Int))).drewN 1).frozen? ⟨x,a,none⟩=false:=λa=>by show(w.setCell _ _).frozen? _=false;rw[Xy];exact d5 a
 have c0:ZH0 (bg ((w.setCell ⟨x,1,none⟩ (Value.int IntKind.u32 (b:Int))).drewN 1) 0 (.slice V l.length W) l):=(b5.o.setO (by rw[<-z.o];exact Y.o) _ _).drewN _;have c1:ZH0 (FrQ x o w ((w.setCell ⟨x,1,none⟩ (Value.int IntKind.u32 (b:Int))).drewN 1)):=(Fr.setCell (S:=λc2=>c2=x\/o=some c2) (Fr.refl _ _) (L (L rfl)) _ _).drewN _;have c3:ZH0 (∀d,3<=d->((w.setCell ⟨x,1,none⟩ (Value.int IntKind.u32 (b:Int))).drewN 1).cell? ⟨x,d,none⟩=w.cell? ⟨x,d,none⟩):=λd A=>aa _ _ _ _ _ O
 generalize (w.setCell ⟨x,1,none⟩ (Value.int IntKind.u32 (b:Int))).drewN 1=h1 at *;clear b1 b3 b4;go_wp2;generalize ((2:Int)^s%4294967296-1)%4294967296=h2;go_loopw [] (λp=>∃a c:Nat,∃H:Value,8*c+a=t/\p.cell? ⟨x,2,none⟩=some (.int .u64 a)/\p.cell? ⟨x,0,none⟩=some H/\bg p 0 H (l++leB c b)/\OvQ x o w H/\p.cell? ⟨x,1,none⟩=some (.int .u32 ((b/256^c:Nat):Int))/\(∀a,p.frozen? ⟨x,a,none⟩=false)/\FrQ x o w p/\(∀d,3<=d->p.cell? ⟨x,d,none⟩=w.cell? ⟨x,d,none⟩)) (λp=>Cw p x)
 case atStart=>
  refine⟨t,0,_,O,?_,(aa _ _ _ _ _ O).trans e1,?_,⟨by rw[<-z.o];exact Y.o,λa E=>L (by rw[z.o];exact E)⟩,?_,?_,c1.o.setCell (L (L rfl)) _ _,?_⟩
  .exact af e3 _
  .rw[show leB 0 b=[] from rfl,XN];exact c0.o.setO (by rw[<-z.o];exact Y.o) _ _
  .rw[Nat.pow_zero,Nat.div_one];exact(aa _ _ _ _ _ O).trans e2
  .intro a;rw[Xy];exact b9 a
  .intro d A;rw[aa _ _ _ _ _ O];exact c3.o d A
 case round=>
  obtain⟨a,c,H,h3,I,F,J,K,M,v,a3,c4⟩:=hrel;obtain⟨e4,e5,rfl⟩:=J.slice;have c5:=a3.size;have a4:ZH0 _:=a3;have a5:ZH0 _:=c4;obtain⟨e,B⟩:∃e,e=l++leB c b:=⟨_,rfl⟩;have c6:e.length=l.length+c:=by rw[B,Xv,xi]
  rw[<-B] at J F K;have C:=U J;replace v:ZH0 (∀a,wr.frozen? ⟨x,a,none⟩=false):=v;obtain⟨f,D⟩:∃f,f=b/256^c:=⟨_,rfl⟩;rw[<-D] at M;obtain⟨N,a6⟩:∃N,N=e.length:=⟨_,rfl⟩;rw[<-a6] at C F K;have G:=U K;clear K;have h4:N<=1073741824+3:=O;have h5:e.length<=1073741824+3:=O;replace c6:ZH0 _:=c6;clear J a3 c4 b9 b5 c0 c1 c3;by_cases h6:8<=a
  .have e6:(8:Int)<=(a:Int):=O
   have P:=pR f;have e7:0<=IntKind.u8.wrap (f:Int):=by rw[P];omega
   have a2:IntKind.u8.wrap (f:Int)<256:=by rw[P];omega
   have e8:ZH0 (e++[IntKind.u8.wrap (f:Int)]=l++leB (c+1) b):=by
    show e++[IntKind.u8.wrap (f:Int)]=l++leB (c+1) b
    rw[P,B,sT,D,XY]
   have e9:ZH0 (f/256=b/256^(c+1)):=by
    show f/256=b/256^(c+1)
    rw[D,Nat.div_div_eq_div_mul,Ya]
   have u:=G.o.1;have q:x<wr.heap.size:=O;clear P B D a6;go_wp2;go_region_law ((refine IH (by rfl) _ _ (by rfl) (.slice e4 N e5) e (by rfl) (by first|exact C.o.alloc _|exact(C.o.drewN _).alloc _|exact(C.o.alloc _).drewN _) wr.heap.size 1 (IntKind.u8.wrap (f:Int)) (by rfl) e7 a2 Xi O (wr.heap.size+1) Xi ?_;intro g i y c7 c8 f0;have j:=(((Fr.refl _ wr).drewN 1).alloc _).trans c8;have c9:=(j.cell (k:=0) q u).trans F;have d0:=(j.cell (k:=1) q u).trans M;have d1:=(j.cell (k:=2) q u).trans I;have f1:=(j.frozen (k:=0) q u).trans (v 0);have f2:=(j.frozen (k:=1) q u).trans (v 1);have f3:=(j.frozen (k:=2) q u).trans (v 2)))
   all_goals
    have Q:ZH0 (OvQ x o w (.slice (some ⟨g,0,none⟩) (e.length+1) i)):=G.o.next f0 q c5;have f4:ZH0 (bg (y.setCell ⟨x,0,none⟩ (Value.slice (some ⟨g,0,none⟩) (e.length+1) i)) 0 (Value.slice (some ⟨g,0,none⟩) (e.length+1) i) (l++leB (c+1) b)):=by rw[<-e8.o];exact c7.setO Q.o.1 _ _
    have f5:ZH0 (FrQ x o w (y.setCell ⟨x,0,none⟩ (Value.slice (some ⟨g,0,none⟩) (e.length+1) i))):=(a4.o.trans' j (λf6 f7 R=>G.o.own f6 f7 R)).setCell (L (L rfl)) _ _;have f8:ZH0 (∀d,3<=d->(y.setCell ⟨x,0,none⟩ (Value.slice (some ⟨g,0,none⟩) (e.length+1) i)).cell? ⟨x,d,none⟩=w.cell? ⟨x,d,none⟩):=λd A=>(aa _ _ _ _ _ O).trans ((j.cell q u).trans (a5.o d A))
    have a7:ZH0 (∀a,(y.setCell ⟨x,0,none⟩ (Value.slice (some ⟨g,0,none⟩) (e.length+1) i)).frozen? ⟨x,a,none⟩=false):=λa=>by rw[Xy];exact(j.frozen q u).trans (v.o a)
    have f9:=af c9 (Value.slice (some ⟨g,0,none⟩) (e.length+1) i);have g0:=(aa y x 0 1 (Value.slice (some ⟨g,0,none⟩) (e.length+1) i) O).trans d0;have d2:=(aa y x 0 2 (Value.slice (some ⟨g,0,none⟩) (e.length+1) i) O).trans d1;have g1:Cw wr x=a:=by unfold Cw;rw[I];simp
    generalize y.setCell ⟨x,0,none⟩ (Value.slice (some ⟨g,0,none⟩) (e.length+1) i)=h7 at *;have h8:=a7.o 1;have h9:=a7.o 2;clear j c8 c7 C a4 a5 c9 d0 d1 f1 f2 f3 F M I;go_wp2;refine⟨⟨a-8,c+1,_,O,?_,(aa _ _ _ _ _ O).trans ((aa _ _ _ _ _ O).trans f9),(f4.o.setO Q.o.1 _ _).setO Q.o.1 _ _,Q.o,?_,?_,(f5.o.setCell (L (L rfl)) _ _).setCell (L (L rfl)) _ _,?_⟩,?_⟩
    .rw[af ((aa _ _ _ _ _ O).trans d2)]
     exact congrArg some (bU O)
    .rw[aa _ _ _ _ _ O,af g0]
     exact congrArg some (bU (by rw[<-e9.o];omega))
    .intro a;rw[Xy,Xy];exact a7.o a
    .intro d A;rw[aa _ _ _ _ _ O,aa _ _ _ _ _ O];exact f8.o d A
    .rw[g1]
     unfold Cw;rw[af ((aa _ _ _ _ _ O).trans d2)];show((a:Int)-8).toNat<a
     omega
  .have e6:¬(8:Int)<=(a:Int):=O
   have g2:ZH0 _:=B;have g3:ZH0 _:=D;clear B D a6;go_wp2;go_end0
   have a1:t/8=c:=O;have E:t%8=a:=O;rw[a1,E,<-g3.o,<-g2.o];exact⟨rfl,_,⟨Xq d4 c5,v.o,F,C.o,G.o.1,M,I⟩,⟨by rw[<-z.o];exact a4.o,λa E=>by rw[<-z.o];exact G.o.2 a E,a5.o⟩⟩
def BC(W:World)(x:Nat)(v:Value)(bs:List Nat):Prop:=∃(l:List Int) (r m:Nat),zy W x v l r m/\r<2^m/\m<=7/\bs=oa l r m
theorem BC.kept{x v bs w w'}(h:BC w x v bs)(k:Kept w w'):BC w' x v bs:=by
 obtain⟨a,b,c,d,e⟩:=h;exact⟨a,b,c,d.kept k,e⟩
theorem BC.lt{x v bs w}(h:BC w x v bs):x<w.heap.size:=by
 obtain⟨b,c,d,a,e⟩:=h;exact a.lt
structure WC (W:World) (x:Nat) (v:Value) (bs:List Nat):Prop where
 bit:BC W x v bs
 tab:ep W
 off:K1 x v
theorem WC.next{x bs bs' w w1 v v1}(h:WC w x v bs)(k:WrB x w v w1 v1)(b:BC w1 x v1 bs'):WC w1 x v1 bs' :=
 ⟨b,h.tab.fr k.fr h.off.len.no h.off.lbt.no h.off.dis.no h.off.ord.no,⟨h.off.len.next k (B _ _ (h.tab.len 0 O)),h.off.lbt.next k (B _ _ (h.tab.lbt 0 O)),h.off.dis.next k (B _ _ (h.tab.dis 0 O)),h.off.ord.next k (B _ _ (h.tab.ord 0 O))⟩⟩
theorem WC.kept{x bs w w1 v}(h:WC w x v bs)(k:Kept w w1):WC w1 x v bs:=⟨h.bit.kept k,h.tab.kept k,h.off⟩
theorem WC.lt{x bs w v}(h:WC w x v bs):x<w.heap.size:=h.bit.lt
theorem WC.new{x bs w v}(h:WC w x v bs){g}(c:w.heap.size<=g):Off x v g:=by
 refine⟨λa=>by have:=h.lt;omega,λa => ?_⟩;obtain⟨d,e,f,b,_⟩:=h.bit
 have:=(b.own.2.lt g a).2
 omega
def WO(x:Nat)(w:World)(v:Value)(bs:List Nat)(w':World):Prop:=∃v',WC w' x v' bs/\WrB x w v w' v'
theorem WO.refl{x bs w v}(h:WC w x v bs):WO x w v bs w:=⟨v,h,WrB.refl _ _ _⟩
theorem WO.next{x bs w w1 w2 v v1}(k:WrB x w v w1 v1)(h:WO x w1 v1 bs w2):WO x w v bs w2:=by
 obtain⟨a,b,c⟩:=h;exact⟨a,b,k.trans c⟩
theorem WO.pre{x bs w w1 w2 v}(k:Kept w w1)(a:x<w.heap.size)(h:WO x w1 v bs w2):WO x w v bs w2:=by
 obtain⟨b,c,d⟩:=h;exact⟨b,c,d.pre k a⟩
theorem WO.eq{x bs cs w w1 v}(h:WO x w v bs w1)(e:bs=cs):WO x w v cs w1:=e ▸ h
theorem C9 r k m(h:r<2^(8*k+m)):r/256^k<2^m:=by
 rw[show(256:Nat)^k=2^(8*k) from by rw[Nat.pow_mul]];exact YN (by rw[<-Nat.pow_add];exact h)
theorem bQ(x n s:Nat)v bs w(h:WC w x v bs)(g:s<=16)(i:n<4294967296)(j:bs.length<=8000000000):Calls prog 137 #[.pointer (some ⟨x,0,none⟩),.int .u32 n,.int .u64 s] w λa c=>a=.returned (.tuple #[])/\WO x w v (bs++xb n 0 s) c:=by
 obtain⟨d,a,e,k,b,l,rfl⟩:=h.bit;rw[kU] at j;refine(Aq x v d a e n s w k b l g i O).mono ?_;rintro p c ⟨rfl,m,o,f⟩;refine⟨rfl,m,h.next f ⟨_,_,_,o,?_,O,(zt d a e n s b).symm⟩,f⟩;refine C9 _ _ _ ?_;rw[Nat.div_add_mod];exact wF b
theorem Ii(x n s:Nat)v0 bs w(h:WC w x v0 bs)(F:s<=15)(r:n<4294967296)(G:bs.length<=4000000000):Calls prog 198 #[.pointer (some ⟨x,0,none⟩),.int .u32 n,.int .u64 s] w λc g=>c=.returned (.tuple #[])/\WO x w v0 (bs++cb n s) g:=by
 have t:Z _:=h;clear h;go_enter func198,ntmps198;go_wp2;go_loopw [2] (λi u=>∃(a:Nat) (b:List Nat),a<=s/\i=.int .u64 a/\bs++cb n s=b++cb n a/\b.length<=4000000016/\b.length+a<=bs.length+s/\WO x w v0 b u) (λi _=>(intOf i).toNat)
 case atStart=>exact⟨s,bs,O,rfl,rfl,O,O,WO.refl t.o⟩
 case round=>
  obtain⟨a,b,H,rfl,d,k,l,v⟩:=hrel;obtain⟨j,e,f⟩:=v;by_cases I:0<a
  .have J:(0:Int)<=(a:Int)-1:=O
   have K:(a:Int)-1<=32:=O;have m:(n:Int)/2^((a:Int)-1).toNat=((n/2^(a-1):Nat):Int):=by
    rw[show((a:Int)-1).toNat=a-1 from O];simp
   have y:Z (Calls prog 137 #[.pointer (some ⟨x,0,none⟩),.int .u32 ((n:Int)/2^((a:Int)-1).toNat),.int .u64 1] wr λc g=>c=.returned (.tuple #[])/\WO x wr j (b++xb (n/2^(a-1)) 0 1) g):=by
    rw[m];exact bQ x (n/2^(a-1)) 1 j b wr e O (Zh (Yz _ _) r) O
   have z:Z _:=f;have A:Z (bs++cb n s=(b++xb (n/2^(a-1)) 0 1)++cb n (a-1)):=by
    show bs++cb n s=_
    have o:=Ip n (a-1);rw[show a-1+1=a from O] at o;rw[d,o,XY]
   have p:Z ((b++xb (n/2^(a-1)) 0 1).length+(a-1)<=bs.length+s/\(b++xb (n/2^(a-1)) 0 1).length<=4000000016):=by
    have:(b++xb (n/2^(a-1)) 0 1).length=b.length+1:=by rw[Xv,aU]
    exact⟨O,O⟩
   clear f e d k l m;generalize b++xb (n/2^(a-1)) 0 1=B at *;go_wp2_with fail;rw[show(n:Int)/2^(a-1)=(n:Int)/2^((a:Int)-1).toNat by congr 2;omega];refine y.o.mono ?_;rintro c L ⟨rfl,q⟩;have C:=U (WO.next z.o q);clear q;go_wp2;exact⟨⟨a-1,B,O,bU O,A.o,p.o.2,p.o.1,C.o⟩,Xb⟩
  .have D:a=0:=O
   subst D;have E:Z (WO x w v0 (bs++cb n s) wr):=by rw[d];exact⟨j,by rw[show cb n 0=[] from rfl,XN];exact e,f⟩
   clear e f d k l;go_wp2;go_end0
   exact⟨rfl,E.o⟩
theorem Bj x v0 bs w(h:WC w x v0 bs)(d:bs.length<=4000000000):Calls prog 103 #[.pointer (some ⟨x,0,none⟩)] w λb l=>b=.returned (.tuple #[])/\WO x w v0 (bs++List.replicate ((8-bs.length%8)%8) 0) l:=by
 obtain⟨q,b,a,e,m,n,f⟩:=h.bit;have r:=e.sz;have c:bs.length%8=a:=by rw[f,kU];omega
 have g:Z _:=h;rw[c];clear h e m f;by_cases i:a=0
 .subst i
  clear c d n;go_enter func103,ntmps103;go_wp2;go_end0
  exact⟨rfl,by rw[show List.replicate ((8-0)%8) 0=([]:List Nat) from rfl,XN];exact WO.refl g.o⟩
 .have o:Z ((8-a)%8=8-a):=by show(8-a)%8=8-a;omega
  have j:=U (bQ x 0 (8-a) v0 bs w g.o O O O);have k:((8-a:Nat):Int)=8-(a:Int):=O;rw[k] at j;have s:(0:Int)<(a:Int):=O;clear k i c d;go_enter func103,ntmps103;go_wp2_with fail;refine j.o.mono ?_;rintro b t ⟨rfl,p⟩;go_wp2;go_end0
  exact⟨rfl,by rw[o.o,<-vY (8-a) 0];exact p⟩
end Go.Proofs.YtbedkdnphobmlaaGreatDoor
namespace Go.Proofs.YtbedkdnphobmlaaGreatDoor
open Go.RowKit Tryz
def KY(l:List Int)(M:Nat)(r:Ending):Prop:=∃a:Nat,M<=a/\a<=l.length/\(∀i,a<=i->i<l.length->l.getD i 0=0)/\r=.returned (.int .i64 (a:Int))
def La(l:List Int)(a:Nat)(r:Ending):Prop:=∃n:Nat,1<=n/\a+n<=l.length/\(∀i,i<n->l.getD (a+i) 0=l.getD a 0)/\r=.returned (.int .i64 (n:Int))
def ShC(l:List Int)(a:Nat)(R:Int)(r:Ending):Prop:=∃s:Nat,((s=18/\11<=R/\l.getD a 0=0)\/(s=17/\3<=R/\l.getD a 0=0)\/(s=16/\3<=R/\0<a/\l.getD (a-1) 0=l.getD a 0)\/l.getD a 0=(s:Int))/\r=.returned (.int .i64 (s:Int))
theorem zK v l M w(e:LAt w .u8 v l)(y:l.length<=1048576)(n:M<=l.length):Calls prog 178 #[v,.int .i64 M] w λo p=>KY l M o/\p=w:=by
 obtain⟨z,A,rfl⟩:=e.form;have q:Z _:=e;clear e;go_enter func178,ntmps178;go_wp2;go_loopw [5] (λv r=>∃a:Nat,a<=l.length/\M<=a/\(∀c,a<=c->c<l.length->l.getD c 0=0)/\v=.int .i64 a/\r=w) (λv _=>(intOf v).toNat)
 case atStart=>exact⟨l.length,O,n,λc s h=>O,rfl,rfl⟩
 case round=>
  obtain⟨a,i,j,k,rfl,rfl⟩:=hrel;have f:Z _:=k;clear k;by_cases B:(M:Int)<(a:Int)
  .by_cases C:0<a
   .obtain⟨b,rfl⟩:∃b,a=b+1:=⟨a-1,O⟩
    obtain⟨D,E,rfl,t⟩:=q.o.cellAt b O;obtain⟨d,g⟩:∃d,d=l.getD b 0:=⟨_,rfl⟩;rw[<-g] at t;have u:Z _:=g;clear g;have G:(0:Int)<=(b:Int):=O;have H:(b:Int)<(l.length:Int):=O;by_cases m:d=0
    .subst m
     go_wp2;refine⟨⟨b,O,O,λc s h => ?_,bU O,trivial⟩,by simp[intOf]⟩;by_cases x:c=b
     .rw[x];exact u.o.symm
     .exact f.o c O h
    .have I:(d==0)=false:=by rw[F];exact m
     go_wp2;go_ret;exact⟨⟨b+1,j,i,f.o,rfl⟩,rfl⟩
   .exfalso;omega
  .go_wp2
   go_ret;exact⟨⟨a,j,i,f.o,rfl⟩,rfl⟩
theorem CY v l a w(i:LAt w .u8 v l)(Q:l.length<=1048576)(u:a<l.length):Calls prog 193 #[v,.int .i64 a] w λx y=>La l a x/\Kept w y:=by
 obtain⟨z,A,rfl⟩:=i.form;have B:Z (∀e,Kept w e->LAt e .u8 (.slice z l.length A) l):=λe C=>i.kept C
 have R:(0:Int)<=(a:Int):=O;have S:(a:Int)<(l.length:Int):=O;clear i;go_enter func193,ntmps193;go_wp2;go_loopw [5] (λv e=>∃b:Nat,a+b<=l.length/\(∀c,c<b->l.getD (a+c) 0=l.getD a 0)/\v=.int .i64 b/\Kept w e) (λv _=>l.length-(intOf v).toNat)
 case atStart=>exact⟨0,O,λc T=>O,rfl,Kept.refl _⟩
 case round=>
  obtain⟨b,U,p,rfl,j⟩:=hrel;have k:Z _:=p;clear p;have m:Z (Kept w wr):=j;have q:Z _:=B.o wr j;clear j;by_cases D:a+b<l.length
  .have r:(a:Int)+(b:Int)<(l.length:Int):=O
   obtain⟨V,W,rfl,E⟩:=q.o.cellAt a u;obtain⟨X,Y,f,G⟩:=q.o.cellAt (a+b) D
   injection f with f
   injection f with H I
   subst H;subst I;have K:Z (l.getD (a+b) 0=l.getD a 0->∀c,c<b+1->l.getD (a+c) 0=l.getD a 0):=λd c a0=>by
    by_cases f:c=b
    .rw[f];exact d
    .exact k.o c O
   have L:Z (b=0->l.getD (a+b) 0=l.getD a 0):=λd=>by rw[d];rfl
   obtain⟨g,n⟩:∃g,g=l.getD a 0:=⟨_,rfl⟩;obtain⟨h,o⟩:∃h,h=l.getD (a+b) 0:=⟨_,rfl⟩;rw[<-n] at E;rw[<-o] at G;have s:Z _:=n;have t:Z _:=o;clear n o;have M:(0:Int)<=(a:Int)+(b:Int):=O;have a1:((a:Int)+(b:Int)).toNat=a+b:=O;by_cases d:h=g
   .have N:Z _:=K.o (by rw[<-s.o,<-t.o];exact d)
    subst d;go_wp2_with fail;go_quiet (fail);go_wp2;exact⟨⟨b+1,O,N.o,Xj,m.o.drewN _⟩,Xb⟩
   .have a2:(h==g)=false:=by rw[F];exact d
    go_wp2_with fail;go_quiet (fail);go_wp2;go_ret;refine⟨⟨b,?_,O,k.o,rfl⟩,m.o.drewN _⟩;by_cases P:b=0
    .exact absurd (by rw[s.o,t.o];exact L.o P) d
    .omega
  .have r:¬(a:Int)+(b:Int)<(l.length:Int):=O
   have M:(0:Int)<=(a:Int)+(b:Int):=O;have a3:=J r;go_wp2_with fail;go_quiet (fail);go_wp2;go_ret;exact⟨⟨b,O,O,k.o,rfl⟩,m.o.drewN _⟩
theorem uD v l a R w(m:LAt w .u8 v l)(x:isBytes l)(X:l.length<=1048576)(y:a<l.length):Calls prog 194 #[v,.int .i64 a,.int .i64 R] w λe f=>ShC l a R e/\Kept w f:=by
 obtain⟨Y,a0,rfl⟩:=m.form;have a1:¬(a:Int)<0:=O;have a2:¬(l.length:Int)<=(a:Int):=O;have a3:(0:Int)<=(a:Int):=O;have a4:(a:Int)<(l.length:Int):=O;have i:Z (∀c,Calls prog 218 #[.int .i64 16,.int .i64 R] c λe f=>e=.returned (.bool (decide (3<=R)))/\f=c):=λc=>vt 16 3 2 R c (L ⟨rfl,rfl,rfl⟩)
 have D:Z (∀c,Calls prog 218 #[.int .i64 17,.int .i64 R] c λe f=>e=.returned (.bool (decide (3<=R)))/\f=c):=λc=>vt 17 3 3 R c (Or.inr (L ⟨rfl,rfl,rfl⟩))
 have E:Z (∀c,Calls prog 218 #[.int .i64 18,.int .i64 R] c λe f=>e=.returned (.bool (decide (11<=R)))/\f=c):=λc=>vt 18 11 7 R c (Or.inr (Or.inr ⟨rfl,rfl,rfl⟩))
 obtain⟨G,H,rfl,I⟩:=m.cellAt a y;obtain⟨J,K⟩:=x _ (az y);obtain⟨d,n⟩:∃d:Nat,l.getD a 0=(d:Int):=⟨(l.getD a 0).toNat,O⟩;rw[n] at I J K;have g:Z _:=n;clear n;have z:Z (∀(b:Nat),0<a->a-1=b->∃h:Int,h=l.getD (a-1) 0/\w.cell? ⟨G,H+b,none⟩=some (.int .u8 h)):=λb a5 M=>by
  obtain⟨a6,a7,o,p⟩:=m.cellAt b O
  injection o with o
  injection o with N P
  subst N;subst P;exact⟨_,by rw[M],p⟩
 clear m x;generalize q:decide (3<=R)=r at *;generalize s:decide (11<=R)=A at *;have B:Z (r=true->3<=R):=λt=>by rw[t] at q;exact Yr q
 have Q:Z (A=true->11<=R):=λt=>by rw[t] at s;exact Yr s
 clear q s;have a8:IntKind.i64.wrap (d:Int)=(d:Int):=Xd;go_enter func194,ntmps194;by_cases S:d=0
 .subst S
  go_wp2_with fail;refine(E.o _).mono ?_;rintro e f ⟨rfl,rfl⟩;cases A
  .go_wp2_with fail
   refine(D.o _).mono ?_;rintro e f ⟨rfl,rfl⟩;cases r
   .go_wp2_with fail
    by_cases u:0<a
    .obtain⟨b,rfl⟩:∃b,a=b+1:=⟨a-1,O⟩
     obtain⟨h,j,p⟩:=z.o b u O;have C:Z _:=j;clear j;have T:(b:Int)<(l.length:Int):=O;have U:(0:Int)<=(b:Int):=O;by_cases k:h=0
     .subst k
      go_quiet ((go_at_call 218;exact Xu (i.o _)))
      go_wp2;go_ret;exact⟨⟨0,Or.inr (Or.inr (Or.inr g.o)),rfl⟩,(Kept.refl _).drewN _⟩
     .have V:(h==0)=false:=by rw[F];exact k
      go_quiet ((go_at_call 218;exact Xu (i.o _)))
      go_wp2;go_ret;exact⟨⟨0,Or.inr (Or.inr (Or.inr g.o)),rfl⟩,(Kept.refl _).drewN _⟩
    .have W:¬(0:Int)<(a:Int):=O
     go_quiet ((go_at_call 218;exact Xu (i.o _)))
     go_wp2;go_ret;exact⟨⟨0,Or.inr (Or.inr (Or.inr g.o)),rfl⟩,(Kept.refl _).drewN _⟩
   .go_wp2
    go_ret;exact⟨⟨17,Or.inr (L ⟨rfl,B.o (by first|rfl|trivial),g.o⟩),rfl⟩,Kept.refl _⟩
  .go_wp2
   go_ret;exact⟨⟨18,L ⟨rfl,Q.o (by first|rfl|trivial),g.o⟩,rfl⟩,Kept.refl _⟩
 .have a9:((d:Int)==0)=false:=by rw[F];omega
  go_wp2_with fail;by_cases u:0<a
  .obtain⟨b,rfl⟩:∃b,a=b+1:=⟨a-1,O⟩
   obtain⟨h,j,p⟩:=z.o b u O;have C:Z _:=j;clear j;have T:(b:Int)<(l.length:Int):=O;have U:(0:Int)<=(b:Int):=O;by_cases k:h=(d:Int)
   .subst k
    go_quiet ((go_at_call 218;exact Xu (i.o _)))
    cases r
    .go_wp2
     go_ret;exact⟨⟨d,Or.inr (Or.inr (Or.inr g.o)),rfl⟩,(Kept.refl _).drewN _⟩
    .go_wp2
     go_ret;exact⟨⟨16,Or.inr (Or.inr (L ⟨rfl,B.o (by first|rfl|trivial),O,by rw[<-C.o,g.o]⟩)),rfl⟩,(Kept.refl _).drewN _⟩
   .have V:(h==(d:Int))=false:=by rw[F];exact k
    go_quiet ((go_at_call 218;exact Xu (i.o _)))
    go_wp2;go_ret;exact⟨⟨d,Or.inr (Or.inr (Or.inr g.o)),rfl⟩,(Kept.refl _).drewN _⟩
  .have W:¬(0:Int)<(a:Int):=O
   go_quiet ((go_at_call 218;exact Xu (i.o _)))
   go_wp2;go_ret;exact⟨⟨d,Or.inr (Or.inr (Or.inr g.o)),rfl⟩,(Kept.refl _).drewN _⟩
end Go.Proofs.YtbedkdnphobmlaaGreatDoor
namespace Go.Proofs.YtbedkdnphobmlaaGreatDoor
open Go.RowKit Px Tryz
def stV:List (Nat×Nat)->List Value
 | []=>[]
 | x::r => .int .i64 (x.1:Int) :: .int .i64 (x.2:Int)::stV r
theorem wu:∀a b,stV (a++b)=stV a++stV b
 | [],b=>rfl
 | x::a,b=>by show _::_::stV (a++b)=_;rw[wu a b];rfl
theorem wt:∀(r:List (Nat×Nat)) (i:Nat) (x:Nat×Nat),r[i]? = some x->(stV r)[i*2]? = some (.int .i64 (x.1:Int))/\(stV r)[i*2+1]? = some (.int .i64 (x.2:Int))
 | [],i,x,a=>by simp at a
 | y::r,0,x,a=>by simp at a;subst a;exact⟨rfl,rfl⟩
 | y::r,i+1,x,a=>by
  have:=wt r i x (by simpa using a)
  rw[show(i+1)*2=i*2+1+1 from O,show i*2+1+1+1=i*2+1+1+1 from rfl];exact⟨by simpa[stV] using this.1,by simpa[stV] using this.2⟩
structure StX (W:World) (v:Value) (ts:List (Nat×Nat)):Prop where
 form:∃p c,v=.slice p ts.length c
 cells:∀i x,ts[i]? = some x->∃(g c:Nat),v=.slice (some ⟨g,0,none⟩) ts.length c/\W.cell? ⟨g,i*2,none⟩=some (.int .i64 (x.1:Int))/\W.cell? ⟨g,i*2+1,none⟩=some (.int .i64 (x.2:Int))
theorem StX.frS{S:Nat->Prop}{w W v r}(h:StX w v r)(k:Fr S w W)(f:∀a,v.ownBlock=some a->¬S a):StX W v r:=by
 refine⟨h.form,λg i j => ?_⟩;obtain⟨a,l,b,c,m⟩:=h.cells g i j;have d:=f a (by rw[b];rfl);have e:=B _ _ c;exact⟨a,l,b,(k.cell e d).trans c,(k.cell e d).trans m⟩
theorem StX.kept{w W v r}(h:StX w v r)(k:Kept w W):StX W v r:=h.frS (S:=λ_=>False) (Fr.of_kept k) (λ_ _ a=>a)
theorem CD{W N v r}(o:W.ownsRow N 248 2 v r.length (stV r)):StX W v r:=by
 obtain⟨h,i,j⟩:=aW o;refine⟨⟨h,i,j⟩,λk l d => ?_⟩;have q:=(Yb.1 d).1;rcases o.2 with⟨_,s⟩|⟨b,m,t,e,u⟩
 .omega
 .have n:∀a,(Addr.add ⟨b,0,none⟩ a)=⟨b,a,none⟩:=λa=>by unfold Addr.add;split<;>simp_all
  have f:∀a c,(stV r)[a]? = some c->W.cell? ⟨b,a,none⟩=some c:=λa c p=>by
   have:=o.cells (by rw[e];rfl) a c p
   rw[n] at this;exact this
  have g:=wt r k l d;exact⟨b,m,e,f _ _ g.1,f _ _ g.2⟩
theorem StX.two{W p n c ts}(h:StX W (.slice p n c) ts){i t}(b:ts[i]? = some t):∃a:Nat,p=some ⟨a,0,none⟩/\W.cell? ⟨a,i*2,none⟩=some (.int .i64 (t.1:Int))/\W.cell? ⟨a,i*2+1,none⟩=some (.int .i64 (t.2:Int)):=by
 obtain⟨a,j,d,e,f⟩:=h.cells i t b
 injection d with g k l
 exact⟨a,g,e,f⟩
def tT(xs:List Value)(n:Nat)(ts:List (Nat×Nat)):Prop:=xs=stV ts/\n=ts.length
theorem tT.snoc{xs n ts}(h:tT xs n ts)(s:Nat){z}{t:Nat}(a:z=(t:Int)):tT (xs++[.int .i64 s,.int .i64 z]) (n+1) (ts++[(s,t)]) :=
 ⟨by rw[h.1,wu,a];rfl,by rw[Xv,h.2];rfl⟩
theorem kH k a b w(h:(k=16/\a=3/\b=2)\/(k=17/\a=3/\b=3)\/(k=18/\a=11/\b=7)):Calls prog 195 #[.int .i64 k] w λc d=>c=.returned (.tuple #[.int .i64 a,.int .i64 b])/\d=w:=by
 rcases h with⟨rfl,rfl,rfl⟩|⟨rfl,rfl,rfl⟩|⟨rfl,rfl,rfl⟩
 all_goals
  go_enter func195,ntmps195;go_wp2;go_ret2;exact⟨rfl,rfl⟩
theorem z8 k w(h:k<=15):Calls prog 195 #[.int .i64 k] w λa b=>a=.returned (.tuple #[.int .i64 1,.int .i64 0])/\b=w:=by
 have c:(k==16)=false:=Xa;have d:(k==17)=false:=Xa;have e:(k==18)=false:=Xa;clear h;go_enter func195,ntmps195;go_wp2;go_ret2;exact⟨rfl,rfl⟩
def Je(w:World)(row:Nat->Nat)(m:Nat)(r:Ending)(w':World):Prop:=∃lv ts,r=.returned lv/\ts.length<=m/\StX w' lv ts/\gg row 0 ts m/\(∀t∈ts,t.2<=127)/\∀g,lv.ownBlock=some g->w.heap.size<=g/\g<w'.heap.size
theorem yn v l row w(c2:LAt w .u8 v l)(f4:l.length<=65536)(c3:∀i,i<l.length->l.getD i 0=(row i:Int)/\row i<=15):Calls prog 179 #[v] w λV z=>Je w row l.length V z/\Kept w z:=by
 obtain⟨e1,e2,rfl⟩:=c2.form;have a7:Z (∀a8,Kept w a8->LAt a8 .u8 (.slice e1 l.length e2) l):=λa8 e3=>c2.kept e3
 have b2:Z (isBytes l):=λf5 b5=>by
  obtain⟨i,W,rfl⟩:=List.getElem_of_mem b5
  have:=c3 i W
  rw[G,Xt W] at this;have B:l[i]=(row i:Int):=this.1;rw[B]
  have:=this.2
  omega
 have b6:Z _:=c3;clear c2 c3;go_enter func179,ntmps179;go_wp2;go_loopw [3,4,5,6,7,8,9] (λe4 c4 _ _ _ _ _ a8=>∃(d e:Nat) (k:List Value) (q:List (Nat×Nat)),e<=l.length/\d<=e/\c4=.int .i64 e/\a8.ownsRow w.heap.size 248 2 e4 d k/\tT k d q/\gg row 0 q e/\(∀j∈q,j.2<=127)/\Kept w a8) (λ_ c4 _ _ _ _ _ _=>l.length-(intOf c4).toNat)
 case atStart=>exact⟨0,0,[],[],O,O,rfl,XR _ _ _ _,⟨rfl,rfl⟩,rfl,λj e5=>by simp at e5,Kept.refl _⟩
 case round=>
  obtain⟨d,e,k,q,f6,e6,rfl,c5,b5,d3,d4,d5⟩:=hrel;obtain⟨C,D,rfl⟩:=aW c5;have b7:=U c5;have F:=U b5;have H:Z _:=d3;have J:Z _:=d4;clear d3 d4;have b8:Z (Kept w wr):=d5;clear c5 b5 d5;by_cases b9:e<l.length
  .have e7:(e:Int)<(l.length:Int):=O
   go_wp2_with fail;refine(CY _ l e wr (a7.o wr b8.o) O b9).mono ?_;rintro V c6 ⟨⟨g,f7,f8,d6,rfl⟩,c7⟩;have X:Z (∀i,i<g->row (e+i)=row e):=λi W=>by
    have K:=d6 i W;rw[(b6.o (e+i) O).1,(b6.o e b9).1] at K;omega
   clear d6;have c8:Z (Kept w c6):=b8.o.trans c7;have d7:=U (bZ b7.o c7);clear c7 b7 b8;go_wp2_with fail;refine(uD _ l e (g:Int) c6 (a7.o c6 c8.o) b2.o O b9).mono ?_;rintro V b3 ⟨⟨p,e8,rfl⟩,c9⟩;have M:Z _:=b6.o e b9;have b4:Z (0<e->l.getD (e-1) 0=(row (e-1):Int)):=λb=>(b6.o (e-1) O).1
   have S:Z (Kept w b3):=c8.o.trans c9;have P:=U (bZ d7.o c9);clear c9 d7 c8;have T:Z (∀f,(Value.slice C d D).ownBlock=some f->w.heap.size<=f):=λf Q=>(P.o.lt f Q).1
   rcases e8 with⟨rfl,d8,A⟩|⟨rfl,d8,A⟩|⟨rfl,d8,e9,A⟩|A
   .have r:Z (∀a:Nat,11<=a->a<=138->a<=g->rF row e (18,a-11) a):=λa c0 c1 d9=>R (R (R ⟨rfl,by show a-11<128;omega,by show a=a-11+11;omega,λi W=>by have K:=X.o i O;rw[K];have Y:=M.o.1;rw[A] at Y;omega⟩))
    clear A;try rw[show((18:Nat):Int)=18 from rfl]
    go_wp2_with fail;refine(kH 18 11 7 b3 (R (R ⟨rfl,rfl,rfl⟩))).mono ?_;rintro V c ⟨rfl,rfl⟩;go_upto_region 8 with fail
    obtain⟨a,s,a9,b0,b1⟩:∃a:Nat,(if(138:Int)<(g:Int) then(138:Int) else(g:Int))=(a:Int)/\a<=g/\11<=a/\a<=138:=by
     by_cases b:(138:Int)<(g:Int)
     .exact⟨138,by rw[I b];rfl,O,O,O⟩
     .exact⟨g,by rw[N b],E _,O,O⟩
    rw[s];clear s;have t:Z ((c.alloc (Obj.cells #[.int .i64 18,.int .i64 ((a:Int)-11)] 248)).ownsRow w.heap.size 248 2 (.slice C d D) d k):=bZ P.o ((Xs _ _).alloc (E _) _);have m:Z (Kept w (c.alloc (Obj.cells #[.int .i64 18,.int .i64 ((a:Int)-11)] 248))):=S.o.trans ((Xs _ _).alloc (E _) _);have u:Z (∀(f:Nat) (h:Value),[Value.int .i64 18,.int .i64 ((a:Int)-11)][f]? = some h->(c.alloc (Obj.cells #[.int .i64 18,.int .i64 ((a:Int)-11)] 248)).cell? (Addr.add ⟨c.heap.size,0,none⟩ f)=some h):=by
     intro f h Q;have B:(Addr.add ⟨c.heap.size,0,none⟩ f)=⟨c.heap.size,f,none⟩:=by unfold Addr.add;split<;>simp_all
     rw[B];refine(Xr _ _ _ _ rfl).trans ?_
     simpa using Q
    have n:Z _:=m.o.size;clear P S a7 b2;go_wp2_with (at_builtin;refine bG _ 230 230 248 2 16 (.agg #[.int .i64 0,.int .i64 0]) underlying230 qQ rfl O rfl _ _ rfl w.heap.size (.slice C d D) d k rfl t.o ⟨c.heap.size,0,none⟩ 1 1 [.int .i64 18,.int .i64 ((a:Int)-11)] rfl rfl O u.o (by intro h x;simp at x;rcases x with rfl|rfl<;>rfl) Xn O n.o ?_ rfl)
    intro d0 z o y a0;obtain⟨d1,d2,rfl⟩:=aW o;have a1:=U o;have a2:Z (tT (k++[.int .i64 18,.int .i64 ((a:Int)-11)]) (d+1) (q++[(18,a-11)])):=F.o.snoc 18 O;have a3:Z _:=H.o.snoc (r.o a b0 b1 a9);have a4:Z (∀j∈q++[(18,a-11)],j.2<=127):=λj a5=>by
     rcases XW.1 a5 with b|b
     .exact J.o j b
     .rw[Y0] at b;rw[b];show a-11<=127;omega
    have a6:Z (Kept w z):=m.o.grown y n.o T.o;clear o y a0 t m u n T F;clear H r X M b4 J;go_wp2;exact⟨⟨d+1,e+a,_,_,O,O,bU O,a1.o,a2.o,a3.o,a4.o,a6.o⟩,Xb⟩
   .have r:Z (∀a:Nat,3<=a->a<=10->a<=g->rF row e (17,a-3) a):=λa c0 c1 d9=>R (R (L ⟨rfl,by show a-3<8;omega,by show a=a-3+3;omega,λi W=>by have K:=X.o i O;rw[K];have Y:=M.o.1;rw[A] at Y;omega⟩))
    clear A;try rw[show((17:Nat):Int)=17 from rfl]
    go_wp2_with fail;refine(kH 17 3 3 b3 (R (L ⟨rfl,rfl,rfl⟩))).mono ?_;rintro V c ⟨rfl,rfl⟩;go_upto_region 8 with fail
    obtain⟨a,s,a9,b0,b1⟩:∃a:Nat,(if(10:Int)<(g:Int) then(10:Int) else(g:Int))=(a:Int)/\a<=g/\3<=a/\a<=10:=by
     by_cases b:(10:Int)<(g:Int)
     .exact⟨10,by rw[I b];rfl,O,O,O⟩
     .exact⟨g,by rw[N b],E _,O,O⟩
    rw[s];clear s;have t:Z ((c.alloc (Obj.cells #[.int .i64 17,.int .i64 ((a:Int)-3)] 248)).ownsRow w.heap.size 248 2 (.slice C d D) d k):=bZ P.o ((Xs _ _).alloc (E _) _);have m:Z (Kept w (c.alloc (Obj.cells #[.int .i64 17,.int .i64 ((a:Int)-3)] 248))):=S.o.trans ((Xs _ _).alloc (E _) _);have u:Z (∀(f:Nat) (h:Value),[Value.int .i64 17,.int .i64 ((a:Int)-3)][f]? = some h->(c.alloc (Obj.cells #[.int .i64 17,.int .i64 ((a:Int)-3)] 248)).cell? (Addr.add ⟨c.heap.size,0,none⟩ f)=some h):=by
     intro f h Q;have B:(Addr.add ⟨c.heap.size,0,none⟩ f)=⟨c.heap.size,f,none⟩:=by unfold Addr.add;split<;>simp_all
     rw[B];refine(Xr _ _ _ _ rfl).trans ?_
     simpa using Q
    have n:Z _:=m.o.size;clear P S a7 b2;go_wp2_with (at_builtin;refine bG _ 230 230 248 2 16 (.agg #[.int .i64 0,.int .i64 0]) underlying230 qQ rfl O rfl _ _ rfl w.heap.size (.slice C d D) d k rfl t.o ⟨c.heap.size,0,none⟩ 1 1 [.int .i64 17,.int .i64 ((a:Int)-3)] rfl rfl O u.o (by intro h x;simp at x;rcases x with rfl|rfl<;>rfl) Xn O n.o ?_ rfl)
    intro d0 z o y a0;obtain⟨d1,d2,rfl⟩:=aW o;have a1:=U o;have a2:Z (tT (k++[.int .i64 17,.int .i64 ((a:Int)-3)]) (d+1) (q++[(17,a-3)])):=F.o.snoc 17 O;have a3:Z _:=H.o.snoc (r.o a b0 b1 a9);have a4:Z (∀j∈q++[(17,a-3)],j.2<=127):=λj a5=>by
     rcases XW.1 a5 with b|b
     .exact J.o j b
     .rw[Y0] at b;rw[b];show a-3<=127;omega
    have a6:Z (Kept w z):=m.o.grown y n.o T.o;clear o y a0 t m u n T F;clear H r X M b4 J;go_wp2;exact⟨⟨d+1,e+a,_,_,O,O,bU O,a1.o,a2.o,a3.o,a4.o,a6.o⟩,Xb⟩
   .have r:Z (∀a:Nat,3<=a->a<=6->a<=g->rF row e (16,a-3) a):=λa c0 c1 d9=>R (L ⟨rfl,by show a-3<4;omega,O,by show a=a-3+3;omega,λi W=>by have K:=X.o i O;rw[K];have Y:=b4.o e9;rw[A,M.o.1] at Y;omega⟩)
    clear A;try rw[show((16:Nat):Int)=16 from rfl]
    go_wp2_with fail;refine(kH 16 3 2 b3 (L ⟨rfl,rfl,rfl⟩)).mono ?_;rintro V c ⟨rfl,rfl⟩;go_upto_region 8 with fail
    obtain⟨a,s,a9,b0,b1⟩:∃a:Nat,(if(6:Int)<(g:Int) then(6:Int) else(g:Int))=(a:Int)/\a<=g/\3<=a/\a<=6:=by
     by_cases b:(6:Int)<(g:Int)
     .exact⟨6,by rw[I b];rfl,O,O,O⟩
     .exact⟨g,by rw[N b],E _,O,O⟩
    rw[s];clear s;have t:Z ((c.alloc (Obj.cells #[.int .i64 16,.int .i64 ((a:Int)-3)] 248)).ownsRow w.heap.size 248 2 (.slice C d D) d k):=bZ P.o ((Xs _ _).alloc (E _) _);have m:Z (Kept w (c.alloc (Obj.cells #[.int .i64 16,.int .i64 ((a:Int)-3)] 248))):=S.o.trans ((Xs _ _).alloc (E _) _);have u:Z (∀(f:Nat) (h:Value),[Value.int .i64 16,.int .i64 ((a:Int)-3)][f]? = some h->(c.alloc (Obj.cells #[.int .i64 16,.int .i64 ((a:Int)-3)] 248)).cell? (Addr.add ⟨c.heap.size,0,none⟩ f)=some h):=by
     intro f h Q;have B:(Addr.add ⟨c.heap.size,0,none⟩ f)=⟨c.heap.size,f,none⟩:=by unfold Addr.add;split<;>simp_all
     rw[B];refine(Xr _ _ _ _ rfl).trans ?_
     simpa using Q
    have n:Z _:=m.o.size;clear P S a7 b2;go_wp2_with (at_builtin;refine bG _ 230 230 248 2 16 (.agg #[.int .i64 0,.int .i64 0]) underlying230 qQ rfl O rfl _ _ rfl w.heap.size (.slice C d D) d k rfl t.o ⟨c.heap.size,0,none⟩ 1 1 [.int .i64 16,.int .i64 ((a:Int)-3)] rfl rfl O u.o (by intro h x;simp at x;rcases x with rfl|rfl<;>rfl) Xn O n.o ?_ rfl)
    intro d0 z o y a0;obtain⟨d1,d2,rfl⟩:=aW o;have a1:=U o;have a2:Z (tT (k++[.int .i64 16,.int .i64 ((a:Int)-3)]) (d+1) (q++[(16,a-3)])):=F.o.snoc 16 O;have a3:Z _:=H.o.snoc (r.o a b0 b1 a9);have a4:Z (∀j∈q++[(16,a-3)],j.2<=127):=λj a5=>by
     rcases XW.1 a5 with b|b
     .exact J.o j b
     .rw[Y0] at b;rw[b];show a-3<=127;omega
    have a6:Z (Kept w z):=m.o.grown y n.o T.o;clear o y a0 t m u n T F;clear H r X M b4 J;go_wp2;exact⟨⟨d+1,e+a,_,_,O,O,bU O,a1.o,a2.o,a3.o,a4.o,a6.o⟩,Xb⟩
   .have e0:row e=p:=by have:=M.o.1;omega
    have f0:(p:Int)<=15:=by have:=M.o.2;omega
    have r:Z (∀a,a-1=0->a=1->rF row e (p,a-1) a):=λa c0 c1=>L ⟨by show p<=15;omega,c0,c1,e0⟩
    clear A e0;go_wp2_with fail;refine(z8 (p:Int) b3 f0).mono ?_;rintro V c ⟨rfl,rfl⟩;go_upto_region 8 with fail
    obtain⟨a,s,a9,b0,b1⟩:∃a:Nat,(if(1:Int)<(g:Int) then(1:Int) else(g:Int))=(a:Int)/\a<=g/\1<=a/\a<=1:=by
     by_cases b:(1:Int)<(g:Int)
     .exact⟨1,by rw[I b];rfl,O,O,O⟩
     .exact⟨g,by rw[N b],E _,O,O⟩
    rw[s];clear s;have t:Z ((c.alloc (Obj.cells #[.int .i64 p,.int .i64 ((a:Int)-1)] 248)).ownsRow w.heap.size 248 2 (.slice C d D) d k):=bZ P.o ((Xs _ _).alloc (E _) _);have m:Z (Kept w (c.alloc (Obj.cells #[.int .i64 p,.int .i64 ((a:Int)-1)] 248))):=S.o.trans ((Xs _ _).alloc (E _) _);have u:Z (∀(f:Nat) (h:Value),[Value.int .i64 p,.int .i64 ((a:Int)-1)][f]? = some h->(c.alloc (Obj.cells #[.int .i64 p,.int .i64 ((a:Int)-1)] 248)).cell? (Addr.add ⟨c.heap.size,0,none⟩ f)=some h):=by
     intro f h Q;have B:(Addr.add ⟨c.heap.size,0,none⟩ f)=⟨c.heap.size,f,none⟩:=by unfold Addr.add;split<;>simp_all
     rw[B];refine(Xr _ _ _ _ rfl).trans ?_
     simpa using Q
    have n:Z _:=m.o.size;clear P S a7 b2;go_wp2_with (at_builtin;refine bG _ 230 230 248 2 16 (.agg #[.int .i64 0,.int .i64 0]) underlying230 qQ rfl O rfl _ _ rfl w.heap.size (.slice C d D) d k rfl t.o ⟨c.heap.size,0,none⟩ 1 1 [.int .i64 p,.int .i64 ((a:Int)-1)] rfl rfl O u.o (by intro h x;simp at x;rcases x with rfl|rfl<;>rfl) Xn O n.o ?_ rfl)
    intro d0 z o y a0;obtain⟨d1,d2,rfl⟩:=aW o;have a1:=U o;have a2:Z (tT (k++[.int .i64 p,.int .i64 ((a:Int)-1)]) (d+1) (q++[(p,a-1)])):=F.o.snoc p O;have a3:Z _:=H.o.snoc (r.o a O O);have a4:Z (∀j∈q++[(p,a-1)],j.2<=127):=λj a5=>by
     rcases XW.1 a5 with b|b
     .exact J.o j b
     .rw[Y0] at b;rw[b];show a-1<=127;omega
    have a6:Z (Kept w z):=m.o.grown y n.o T.o;clear o y a0 t m u n T F;clear H r X M b4 J;go_wp2;exact⟨⟨d+1,e+a,_,_,O,O,bU O,a1.o,a2.o,a3.o,a4.o,a6.o⟩,Xb⟩
  .have e7:¬(e:Int)<(l.length:Int):=O
   go_wp2;go_ret;have f1:e=l.length:=O;subst f1;obtain⟨K,Y⟩:=F.o;subst K;subst Y;exact⟨⟨_,q,rfl,e6,CD b7.o,H.o,J.o,λf2 f3=>b7.o.lt f2 f3⟩,b8.o⟩
theorem fU n(f:Nat->Int){i}(h:i<n):((List.range n).map f).getD i 0=f i:=by
 rw[G,XQ,Yp h];rfl
theorem gz{W k b o n f}(h:∀j,j<n->W.cell? ⟨b,o+j,none⟩=some (.int k (f j)))c:LAt W k (.slice (some ⟨b,o,none⟩) n c) ((List.range n).map f):=by
 refine⟨⟨some ⟨b,o,none⟩,c,Xi⟩,?_⟩;intro g i a e d;rw[List.length_map,List.length_range] at d
 injection a with a _ _
 exact⟨b,o,a.symm,by rw[h e d,fU n f d]⟩
structure LnQ (c:Nat->Int) (n M:Nat) (g:Nat->Nat):Prop where
 le:∀s,s<n->g s<=M
 used:∀s,s<n->1<=c s->1<=g s
 kind:eF (mkC g n) 15=32768\/(∃x,x<n/\g x=1/\∀i,i<n->i≠x->g i=0)\/∀i,i<n->g i=0
 two:∀s t,s<n->t<n->s≠t->1<=c s->1<=c t->eF (mkC g n) 15=32768
theorem AR cs s:fP [] cs s=0:=by
 unfold fP;rw[List.length_eq_zero_iff,List.filter_eq_nil_iff];intro a _;simp
theorem wx{f n ls}(h:Srt f n ls){s}(a:s<n)(b:1<=f s):(s,(f s).toNat)∈ls:=(h.mem s _).2 ⟨a,b,O⟩
theorem AS{f n M ls}(j:Srt f n ls)(t:1<=M)(u:M<=15)(v:ls.length<=2^M):LnQ f n M (gr M ls):=by
 by_cases w:2<=ls.length
 .obtain⟨h,i,k⟩:=yJ j w t v
  have o:=Bd _ u (λl _=>i l) h;refine⟨λa _=>i a,λa b c => ?_,L o,λ_ _ _ _ _ _ _=>o⟩;by_cases g:gr M ls a=0
  .have:=(k a b).1 g;omega
  .omega
 .by_cases x:ls.length=1
  .match ls,x with
   | [(d,p)],_=>
    have e:∀a,gr M [(d,p)] a=if a=d then 1 else 0:=λa=>by
     unfold gr;rw[I (by rfl)];by_cases g:a=d
     .rw[I g,I (by simp[g])]
     .rw[N g,N (by simp[g])]
    have y:d<n/\1<=f d:=by have:=(j.mem d p).1 Xi;exact⟨this.1,this.2.1⟩
    have only:∀a,a<n->1<=f a->a=d:=λa b c=>by
     have:=wx j b c
     rw[Y0] at this;exact congrArg Prod.fst this
    refine⟨λa _=>by rw[e];split<;>omega,λa b c => ?_,R (L ⟨d,y.1,by rw[e,I rfl],λl _ z=>by rw[e,N z]⟩),λa q h i k m r => ?_⟩
    .rw[e,I (only a b c)];omega
    .exact absurd ((only a h m).trans (only q i r).symm) k
  .have A:ls=[]:=List.length_eq_zero_iff.1 O
   subst A;have e:∀a,gr M [] a=0:=λa=>by
    unfold gr;rw[N Xi,AR]
   have s:∀a,a<n->1<=f a->False:=λa b c=>by
    have:=wx j b c
    simp at this
   exact⟨λa _=>by rw[e];omega,λa b c=>absurd (s a b c) id,R (R (λl _=>e l)),λa q h i k m r=>absurd (s a h m) id⟩
def Cn9(W:World)(b:Nat)(c:Nat->Int):Prop:=∀j,j<19->W.cell? ⟨b,j,none⟩=some (.int .i64 (c j))
theorem Cn9.up{W b c}(h:Cn9 W b c){i}(e:i<19){z}(f:z=c i+1):Cn9 (W.setCell ⟨b,i,none⟩ (.int .i64 z)) b (up1 c i):=λd g=>by
 unfold up1;by_cases a:i=d
 .subst a;rw[I rfl,af (h i e),f]
 .rw[N (λj=>a j.symm),aa _ _ _ _ _ a];exact h d g
structure CnK (ts:List (Nat×Nat)) (k:Nat) (c:Nat->Int):Prop where
 bd:∀i,0<=c i/\c i<=(k:Int)
 one:∀i t,i<k->ts[i]? = some t->1<=c t.1
theorem CnK.next{ts k c t}(h:CnK ts k c)(e:ts[k]? = some t):CnK ts (k+1) (up1 c t.1):=by
 refine⟨λa=>⟨Int.le_trans (h.bd a).1 (ja c t.1 a),?_⟩,λa d g b => ?_⟩
 .have:=zE c t.1 a;have:=(h.bd a).2;push_cast;omega
 .by_cases f:a=k
  .subst f
   rw[e] at b
   have:=Ym b
   rw[<-this,pP]
   have:=(h.bd t.1).1
   omega
  .exact Int.le_trans (h.one a d O b) (ja c t.1 d.1)
theorem EW:#[Value.int .i64 0,Value.int .i64 0,Value.int .i64 0,Value.int .i64 0,Value.int .i64 0,Value.int .i64 0,Value.int .i64 0,Value.int .i64 0,Value.int .i64 0,Value.int .i64 0,Value.int .i64 0,Value.int .i64 0,Value.int .i64 0,Value.int .i64 0,Value.int .i64 0,Value.int .i64 0,Value.int .i64 0,Value.int .i64 0,Value.int .i64 0]=Array.replicate 19 (Value.int .i64 0):=by rfl
def ShL(w:World)(ts:List (Nat×Nat))(r:Ending)(w':World):Prop:=∃(g:Nat) (f:Nat->Nat),r=.returned (.slice (some ⟨g,0,none⟩) 19 19)/\w.heap.size<=g/\Byt w' g 19 f/\(∀i,i<19->f i<=7)/\(∀t∈ts,1<=f t.1)/\∀t∈ts,∀u∈ts,t.1≠u.1->eF (mkC f 19) 15=32768
theorem LnQ.shl{ts c f}(h:LnQ (λs=>((List.range 19).map c).getD s 0) 19 7 f)(l:CnK ts ts.length c)(d:∀a∈ts,a.1<19):(∀e,e<19->f e<=7)/\(∀a∈ts,1<=f a.1)/\∀a∈ts,∀g∈ts,a.1≠g.1->eF (mkC f 19) 15=32768:=by
 have i:∀a∈ts,1<=((List.range 19).map c).getD a.1 0:=λa b=>by
  rw[fU 19 c (d a b)];obtain⟨e,j,rfl⟩:=List.getElem_of_mem b;exact l.one e _ j (Xt j)
 exact⟨h.le,λa b=>h.used _ (d a b) (i a b),λa b g k m=>h.two _ _ (d a b) (d g k) m (i a b) (i g k)⟩
theorem uC lv ts w(m:StX w lv ts)(a0:ts.length<=1048576)(t:∀b∈ts,b.1<19):Calls prog 180 #[lv] w λh f=>ShL w ts h f/\Kept w f:=by
 obtain⟨a1,a2,rfl⟩:=m.form;obtain⟨c,n⟩:∃c,c=ts.length:=⟨_,rfl⟩;rw[<-n] at m a0 ⊢;have a3:Z _:=n;have a4:Z (∀a,a<c->∃b,ts[a]? = some b/\b.1<19):=λa o=>by
  have G:a<ts.length:=by rw[<-n];exact o
  exact⟨ts[a],Xt G,t _ (YU G)⟩
 have a5:Z _:=t;clear n t;have a6:Z (∀d,Kept w d->StX d (.slice a1 c a2) ts):=λd a=>m.kept a
 obtain⟨i,j⟩:∃i,i=w.alloc (Obj.cells #[Value.int .i64 0,Value.int .i64 0,Value.int .i64 0,Value.int .i64 0,Value.int .i64 0,Value.int .i64 0,Value.int .i64 0,Value.int .i64 0,Value.int .i64 0,Value.int .i64 0,Value.int .i64 0,Value.int .i64 0,Value.int .i64 0,Value.int .i64 0,Value.int .i64 0,Value.int .i64 0,Value.int .i64 0,Value.int .i64 0,Value.int .i64 0] 249):=⟨_,rfl⟩;have H:Z (Cn9 i w.heap.size (λ_=>0)):=by
  rw[j];intro p u;rw[Xr _ _ _ _ rfl];rw[EW];simp[u]
 have I:Z (∀a,i.frozen? ⟨w.heap.size,a,none⟩=false):=by rw[j];exact λa=>XB _ _ _ _ rfl
 have e:Z (Kept w i):=by rw[j];exact(Xs _ _).alloc (E _) _
 clear m;go_enter func180,ntmps180;go_upto_region 2 with fail
 rw[<-j];clear j;go_wp2_with fail;go_loopw [4,5] (λv _ d=>∃(a:Nat) (g:Nat->Int),a<=c/\v=.int .i64 a/\Cn9 d w.heap.size g/\CnK ts a g/\(∀a,d.frozen? ⟨w.heap.size,a,none⟩=false)/\Kept w d) (λv _ _=>c-(intOf v).toNat)
 case atStart=>exact⟨0,λ_=>0,O,rfl,H.o,⟨λx=>⟨Xi,Xi⟩,λx b b7=>O⟩,I.o,e.o⟩
 case round=>
  clear H I e;obtain⟨a,g,o,rfl,J,K,L,e⟩:=hrel;have y:=U J;have q:Z _:=K;clear K;have M:Z _:=L;have z:Z (Kept w wr):=e;clear J L;by_cases a7:a<c
  .have a8:(a:Int)<(c:Int):=O
   have b8:(0:Int)<=(a:Int):=O;obtain⟨b,A,B⟩:=a4.o a a7;obtain⟨k,rfl,a9,b0⟩:=(a6.o wr e).two A;have N:Z _:=q.o.next A;have P:=y.o b.1 B;have b1:=M.o b.1;have Q:=q.o.bd b.1;obtain⟨C,D⟩:∃C,C=g b.1:=⟨_,rfl⟩;have R:Z _:=D;rw[<-D] at P Q;obtain⟨l,r⟩:∃l,l=b.1:=⟨_,rfl⟩;rw[<-r] at a9 N P b1 B R;have b9:(0:Int)<=(l:Int):=O;have c0:(l:Int)<19:=O;obtain⟨c1,b2⟩:=Q;have c2:C<=1048576:=O;clear e b0 D A r b2;go_wp2;exact⟨⟨a+1,up1 g l,O,Xj,y.o.up B (by rw[<-R.o]),N.o,λp=>by rw[Xy];exact M.o p,z.o.setCell Xi _⟩,Xb⟩
  .have a8:¬(a:Int)<(c:Int):=O
   have S:a=c:=O;have T:Z (Calls prog 162 #[.slice (some ⟨w.heap.size,0,none⟩) 19 19,.int .i64 7] wr λh f=>ShL wr ts h f/\Kept wr f):=by
    have V:=oS (.slice (some ⟨w.heap.size,0,none⟩) 19 19) ((List.range 19).map g) 7 1048576 wr (gz (λp u=>by rw[XD];exact y.o p u) 19) Xi Xi O O O (λc3 b3=>by
     obtain⟨x,_,rfl⟩:=YP.1 b3
     have:=(q.o.bd x).2
     omega)
    rw[List.length_map,List.length_range] at V;refine V.mono ?_;rintro h f ⟨⟨k,c4,rfl,s,r,c5,b4⟩,o⟩;have F:=(AS r O O O).shl (ts:=ts) (by have:=q.o;rw[S,a3.o] at this;exact this) a5.o;exact⟨⟨k,_,rfl,s,b4,F.1,F.2.1,F.2.2⟩,o⟩
   clear e S;go_wp2_with fail;refine T.o.mono ?_;rintro h W ⟨⟨k,b5,rfl,s,X⟩,Y⟩;have b6:Z (ShL w ts (.returned (.slice (some ⟨k,0,none⟩) 19 19)) W/\Kept w W):=⟨⟨k,b5,rfl,Xz z.o.size s,X⟩,z.o.trans Y⟩;clear X Y s T;go_wp2;go_ret;exact b6.o
