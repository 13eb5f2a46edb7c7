import Derived.Test.YtbedkdnphobmlaaGreatDoorProg
import Derived.Test.YtbedkdnphobmlaaGreatDoorUaa00
import Derived.Test.YtbedkdnphobmlaaGreatDoorUaa01
import Derived.Test.YtbedkdnphobmlaaGreatDoorUaa03
import Derived.Test.YtbedkdnphobmlaaGreatDoorUaa09
import Derived.Test.YtbedkdnphobmlaaGreatDoorUaa11
import Derived.Test.YtbedkdnphobmlaaGreatDoorUaa21
import Derived.Test.YtbedkdnphobmlaaGreatDoorUaa22
import Derived.Test.YtbedkdnphobmlaaGreatDoorUaa25
import Derived.Test.YtbedkdnphobmlaaGreatDoorUaa27
import Derived.Test.YtbedkdnphobmlaaGreatDoorUaa28
set_option linter.all false
set_option maxRecDepth 100000
set_option maxHeartbeats 0
namespace Go.Proofs.YtbedkdnphobmlaaGreatDoor
open Go.RowKit Px Tryz
theorem Ci:#[Value.int .u8 0,Value.int .u8 0,Value.int .u8 0,Value.int .u8 0,Value.int .u8 0,Value.int .u8 0,Value.int .u8 0,Value.int .u8 0,Value.int .u8 0,Value.int .u8 0,Value.int .u8 0,Value.int .u8 0,Value.int .u8 0,Value.int .u8 0,Value.int .u8 0,Value.int .u8 0,Value.int .u8 0,Value.int .u8 0,Value.int .u8 0]=Array.replicate 19 (Value.int .u8 0):=by rfl
theorem Byt.lt{W g n f}(h:Byt W g n f)(a:0<n):g<W.heap.size:=B _ _ (h 0 a)
theorem Byt.fr{w W g n f}(h:Byt w g n f)(k:∀a,W.cell? ⟨g,a,none⟩=w.cell? ⟨g,a,none⟩):Byt W g n f:=λb c=>(k b).trans (h b c)
theorem mF f:∀k i,shB f i (k+1)=shB f i k++xb (f (cy.getD (i+k) 0)) 0 3
 | 0,i=>by show xb (f (cy.getD i 0)) 0 3++[]=[]++_;rw[XN,Ze];rfl
 | k+1,i=>by
  show xb (f (cy.getD i 0)) 0 3++shB f (i+1) (k+1)=(xb (f (cy.getD i 0)) 0 3++shB f (i+1) k)++_
  rw[mF f k (i+1),XY,show i+1+k=i+(k+1) from O]
theorem lH f:∀k i,(shB f i k).length=3*k
 | 0,i=>rfl
 | k+1,i=>by rw[mF,Xv,lH f k i,aU];omega
theorem He(i:Nat)w(a:ep w)(b:i<19):Calls prog 196 #[.int .i64 i] w λc d=>c=.returned (.int .i64 (cy.getD i 0:Nat))/\Kept w d:=by
 have e:w.cell? ⟨3,i,none⟩=some (.int .i64 (cy.getD i 0:Nat)):=a.ord i b;have f:¬(i:Int)<0:=O;have g:¬(19:Int)<=(i:Int):=O;have h:(0:Int)<=(i:Int):=O;have j:(i:Int)<19:=O;generalize cy.getD i 0=k at *;clear a b;go_enter func196,ntmps196;go_wp2;go_ret;exact⟨rfl,Kept.refl _⟩
def ShO(x:Nat)(w:World)(v:Value)(bs:List Nat)(f:Nat->Nat)(w':World):Prop:=∃n,4<=n/\n<=19/\(∀q,n<=q->q<19->f (cy.getD q 0)=0)/\WO x w v (bs++(xb (n-4) 0 4++shB f 0 n)) w'
def shF(f:Nat->Nat)(k:Nat):Nat->Nat:=λi=>if i<k then f (cy.getD i 0) else 0
theorem yr x g f v bs w(h:WC w x v bs)(a2:Byt w g 19 f)(s:∀l,l<19->f l<=7)(f7:bs.length<=1000000000):Calls prog 181 #[.pointer (some ⟨x,0,none⟩),.slice (some ⟨g,0,none⟩) 19 19] w λi t=>i=.returned (.tuple #[])/\ShO x w v bs f t:=by
 have L:Z (∀b,Kept w b->WC b x v bs):=λb a=>h.kept a
 have a3:Z (∀b,Kept w b->Byt b g 19 f):=λb a=>a2.kept a
 have M:=U (h.new (E _));have d4:Z _:=h.lt;obtain⟨u,y⟩:∃u,u=w.alloc (Obj.cells #[Value.int .u8 0,Value.int .u8 0,Value.int .u8 0,Value.int .u8 0,Value.int .u8 0,Value.int .u8 0,Value.int .u8 0,Value.int .u8 0,Value.int .u8 0,Value.int .u8 0,Value.int .u8 0,Value.int .u8 0,Value.int .u8 0,Value.int .u8 0,Value.int .u8 0,Value.int .u8 0,Value.int .u8 0,Value.int .u8 0,Value.int .u8 0] 83):=⟨_,rfl⟩;have d5:Z _:=s;have a4:Z (Byt u w.heap.size 19 (shF f 0)):=by
  rw[y];intro c z;rw[Xr _ _ _ _ rfl,show shF f 0 c=0 from N];rw[Ci];simp[z]
 have a5:Z (∀a,u.frozen? ⟨w.heap.size,a,none⟩=false):=by rw[y];exact λa=>XB _ _ _ _ rfl
 have a6:Z (Kept w u):=by rw[y];exact(Xs _ _).alloc (E _) _
 clear h a2 s;go_enter func181,ntmps181;go_upto_region 1 with fail
 rw[<-y];clear y;go_wp2_with fail;go_loopw [5,6] (λP _ b=>∃a:Nat,a<=19/\P=.int .i64 a/\Byt b w.heap.size 19 (shF f a)/\(∀a,b.frozen? ⟨w.heap.size,a,none⟩=false)/\Kept w b) (λP _ _=>19-(intOf P).toNat)
 case atStart=>exact⟨0,O,rfl,a4.o,a5.o,a6.o⟩
 case round=>
  clear a4 a5 a6;obtain⟨a,f8,rfl,a7,s,a8⟩:=hrel;have q:=U a7;have Q:Z _:=s;have r:Z (Kept w wr):=a8;clear a7 s a8;by_cases D:a<19
  .have d6:(a:Int)<19:=O
   have d7:(0:Int)<=(a:Int):=O;go_wp2_with fail;refine(He a wr (L.o wr r.o).tab D).mono ?_;rintro i m ⟨rfl,F⟩;obtain⟨n,G⟩:∃n,n=cy.getD a 0:=⟨_,rfl⟩;have d8:n<19:=by rw[G];exact uO a D
   have d9:Z _:=G;rw[<-G];clear G;have j:=q.o.lt O;have a9:=U (q.o.kept F);have b0:Z (∀a,m.frozen? ⟨w.heap.size,a,none⟩=false):=λc=>(F.frozen (p:=⟨w.heap.size,c,none⟩) j).trans (Q.o c)
   have b1:Z (Kept w m):=r.o.trans F;have e0:=a3.o m b1.o n d8;have o:=a9.o a D;obtain⟨b2,R⟩:∃b2,b2=f n:=⟨_,rfl⟩;have e1:Z _:=R;rw[<-R] at e0;generalize shF f a a=k at o;clear R;have f9:=b0.o a;have g0:(0:Int)<=(n:Int):=O;have g1:(n:Int)<19:=O;clear F q Q r;go_wp2;refine⟨⟨a+1,O,Xj,a9.o.set D ?_ ?_,λc=>by rw[Xy];exact b0.o c,b1.o.setCell Xi _⟩,Xb⟩
   .rw[e1.o,d9.o,show shF f (a+1) a=f (cy.getD a 0) from I]
   .intro e2 g2
    unfold shF;by_cases e:e2<a
    .rw[I e,I]
    .rw[N e,N]
  .have d6:¬(a:Int)<19:=O
   have e3:a=19:=O;have S:Z (Byt wr w.heap.size 19 (λl=>f (cy.getD l 0))):=λc z=>by
    have:=q.o c z
    rw[show shF f a c=f (cy.getD c 0) from I] at this;exact this
   have b3:=U (zK _ ((List.range 19).map (λl=>((f (cy.getD l 0):Nat):Int))) 4 wr (gz (λc z=>by rw[XD];exact S.o c z) 19) Xi Xi);have j:=q.o.lt O;go_wp2_with fail;refine b3.o.mono ?_;rintro i m ⟨⟨d,e4,b4,T,rfl⟩,rfl⟩;rw[List.length_map,List.length_range] at b4 T;have e5:Z (∀e,d<=e->e<19->f (cy.getD e 0)=0):=λe e6 b5=>by
    have:=T e e6 b5
    rw[fU 19 _ b5] at this;omega
   clear b3 T;have b6:Z (∀e:Int,e=((d-4:Nat):Int)->Calls prog 137 #[.pointer (some ⟨x,0,none⟩),.int .u32 e,.int .u64 4] m λi t=>i=.returned (.tuple #[])/\WO x m v (bs++xb (d-4) 0 4) t):=λe e7=>by rw[e7];exact bQ x (d-4) 4 v bs m (L.o m r.o) O O O
   go_wp2_with fail;refine(b6.o _ (by first|omega|(rw[Yq];omega))).mono ?_;rintro i g3 ⟨rfl,e8,b7,H⟩;have b8:Z _:=b7;have b9:Z _:=H.pre r.o d4.o;have c0:=U (M.o.next H j);have c1:=U (S.o.fr (λc=>H.cellK M.o j));clear b7 H b6 q S Q r L a3 M j e3;go_wp2_with fail;go_loopw [8] (λV b=>∃(a:Nat) (W:Value),a<=d/\V=.int .i64 a/\WC b x W (bs++(xb (d-4) 0 4++shB f 0 a))/\WrB x w v b W/\Off x W w.heap.size/\Byt b w.heap.size 19 (λl=>f (cy.getD l 0))) (λV _=>19-(intOf V).toNat)
   case atStart=>exact⟨0,e8,O,rfl,by rw[show shB f 0 0=[] from rfl,XN];exact b8.o,b9.o,c0.o,c1.o⟩
   case round=>
    clear b8 b9 c0 c1;obtain⟨a,X,g4,rfl,c2,c3,c4,J⟩:=hrel;have A:Z _:=c2;have Y:Z _:=c3;have K:=U c4;have c5:=U J;clear c2 c3 c4;by_cases g5:a<d
    .have e9:(a:Int)<(d:Int):=O
     have c6:a<19:=O;have g6:(a:Int)<19:=O;have d7:(0:Int)<=(a:Int):=O;have o:=J a c6;have f0:=d5.o _ (uO a c6);have c7:Z (shB f 0 (a+1)=shB f 0 a++xb (f (cy.getD a 0)) 0 3):=by show shB f 0 (a+1)=_;rw[mF,XD]
     obtain⟨k,a0⟩:∃k,k=f (cy.getD a 0):=⟨_,rfl⟩;simp only[<-a0] at o;rw[<-a0] at f0 c7;have j:=B _ _ o;have c8:IntKind.u32.wrap (k:Int)=(k:Int):=by rw[Yq];omega
     have c9:Z (Calls prog 137 #[.pointer (some ⟨x,0,none⟩),.int .u32 (IntKind.u32.wrap (k:Int)),.int .u64 3] wr.drew λi t=>i=.returned (.tuple #[])/\WO x wr.drew X (bs++(xb (d-4) 0 4++shB f 0 a)++xb k 0 3) t):=by
      rw[c8];exact bQ x k 3 X _ wr.drew (A.o.kept ((Kept.refl _).drewN 1)) O O (by simp only[Xv,aU,lH];omega)
     clear J a0 c8;go_wp2_with fail;go_region_held3 (λb=>b.cell? ⟨w.heap.size,a,none⟩=some (.int .u8 k)) (first|exact o|exact d0|go_keep) ((go_at_call 137;refine c9.o.mono ?_;rintro i f1 ⟨rfl,d1,d2,d3⟩;have C:=d3.pre ((Kept.refl _).drewN 1) A.o.lt;have d0:=(C.cellK K.o j).trans o))
     have f2:Z (WC f1 x d1 (bs++(xb (d-4) 0 4++shB f 0 (a+1)))):=by
      rw[c7.o,<-XY (xb (d-4) 0 4),<-XY];exact d2
     have f3:Z _:=Y.o.trans C;have f4:=U (K.o.next C j);have f5:=U (c5.o.fr (λc=>C.cellK K.o j));clear d2 d3 C d0 o c9 A Y K c5;go_wp2;exact⟨⟨a+1,d1,O,Xj,f2.o,f3.o,f4.o,f5.o⟩,Xb⟩
    .have e9:¬(a:Int)<(d:Int):=O
     have a1:a=d:=O;have f6:Z (ShO x w v bs f wr):=⟨d,e4,b4,e5.o,X,by rw[<-a1];rw[<-a1] at A;exact A.o,Y.o⟩;clear J a1;go_wp2;go_end0
     exact⟨rfl,f6.o⟩
theorem Bp f{n}(a:n<=15):∀N,eF (mkC f N) n<=N*32768
 | 0=>by show eF (λ_=>0) n<=_;rw[lO];exact X3 _
 | N+1=>by
  rw[xu f N n a]
  have:=Bp f a N
  have b:(if 1<=f N/\f N<=n then 2^(n-f N) else 0)<=32768:=by
   split
   .exact Xz (XH O (show n-f N<=15 from O)) Xh
   .omega
  omega
theorem qC f{n}(a:1<=n)(b:n<=15):∀i,mkC f i n<=i
 | 0=>E _
 | i+1=>by rw[eS f i n a b];have:=qC f a b i;split<;>omega
def cdF(f:Nat->Nat)(M j:Nat):Nat:=if j<M/\1<=f j then cY f M j else 0
def szF(f:Nat->Nat)(M j:Nat):Nat:=if j<M then f j else 0
def cdK(f:Nat->Nat)(M k i:Nat):Nat->Nat:=λj=>if j<M/\1<=f j/\(f j<k\/(f j=k/\j<i)) then cY f M j else 0
def szK(f:Nat->Nat)(M k i:Nat):Nat->Nat:=λj=>if j<M/\1<=f j/\(f j<k\/(f j=k/\j<i)) then f j else 0
theorem vz{f:Nat->Nat}{M k i j}(h:j≠i):(j<M/\1<=f j/\(f j<k\/(f j=k/\j<i+1)))↔(j<M/\1<=f j/\(f j<k\/(f j=k/\j<i))):=by
 constructor
 .rintro⟨a,b,c⟩;exact⟨a,b,O⟩
 .rintro⟨a,b,c⟩;exact⟨a,b,O⟩
theorem Ei{f M k i}(b:i<M)(d:1<=k)(h:f i=k):upd (cdK f M k i) i (cY f M i)=cdK f M k (i+1):=funext λc=>by
 by_cases a:c=i
 .rw[a,upd_same];unfold cdK;rw[I ⟨b,O,R ⟨h,O⟩⟩]
 .rw[upd_ne _ _ _ a];unfold cdK;simp only[vz a]
theorem Cx{f M k i}(b:i<M)(d:1<=k)(h:f i=k):upd (szK f M k i) i k=szK f M k (i+1):=funext λc=>by
 by_cases a:c=i
 .rw[a,upd_same];unfold szK;rw[I ⟨b,O,R ⟨h,O⟩⟩,h]
 .rw[upd_ne _ _ _ a];unfold szK;simp only[vz a]
theorem xx{f:Nat->Nat}{M k i j}(h:f i≠k):(j<M/\1<=f j/\(f j<k\/(f j=k/\j<i+1)))↔(j<M/\1<=f j/\(f j<k\/(f j=k/\j<i))):=by
 by_cases c:j=i
 .subst c
  constructor
  .rintro⟨a,b,d⟩;exact⟨a,b,O⟩
  .rintro⟨a,b,d⟩;exact⟨a,b,O⟩
 .exact vz c
theorem Ej{f M k i}(h:f i≠k):cdK f M k (i+1)=cdK f M k i:=funext λa=>by unfold cdK;simp only[xx h]
theorem Cy{f M k i}(h:f i≠k):szK f M k (i+1)=szK f M k i:=funext λa=>by unfold szK;simp only[xx h]
theorem xy{f:Nat->Nat}{M k j}:(j<M/\1<=f j/\(f j<k\/(f j=k/\j<M)))↔(j<M/\1<=f j/\(f j<k+1\/(f j=k+1/\j<0))):=by
 constructor
 .rintro⟨a,b,c⟩;exact⟨a,b,O⟩
 .rintro⟨a,b,c⟩;exact⟨a,b,O⟩
theorem Ek f M k:cdK f M k M=cdK f M (k+1) 0:=funext λa=>by unfold cdK;simp only[xy]
theorem Cz f M k:szK f M k M=szK f M (k+1) 0:=funext λa=>by unfold szK;simp only[xy]
theorem El{f M j}(h:∀b,b<M->f b<=15):cdK f M 16 0 j=cdF f M j:=by
 unfold cdK cdF;by_cases a:j<M/\1<=f j
 .rw[I a,I ⟨a.1,a.2,by have:=h j a.1;omega⟩]
 .rw[N a,N (λc=>a ⟨c.1,c.2.1⟩)]
theorem CA{f M j}(h:∀c,c<M->f c<=15):szK f M 16 0 j=szF f M j:=by
 unfold szK szF;by_cases a:j<M
 .by_cases d:1<=f j
  .rw[I a,I ⟨a,d,by have:=h j a;omega⟩]
  .rw[I a,N (λb=>d b.2.1)];omega
 .rw[N a,N (λb=>a b.1)]
theorem pz f M j:cdK f M 1 0 j=0/\szK f M 1 0 j=0:=by
 unfold cdK szK;exact⟨N,N⟩
structure BkW (W:World) (b:Nat) (c z:Nat->Nat):Prop where
 cd:∀i,i<288->W.cell? ⟨b,i,none⟩=some (.int .u32 (c i))
 sz:∀i,i<288->W.cell? ⟨b,288+i,none⟩=some (.int .u8 (z i))
 fz:∀k,W.frozen? ⟨b,k,none⟩=false
theorem BkW.put{W b c z}(h:BkW W b c z){i}(f:i<288)(q k:Nat):BkW ((W.setCell ⟨b,i,none⟩ (.int .u32 q)).setCell ⟨b,288+i,none⟩ (.int .u8 k)) b (upd c i q) (upd z i k):=by
 refine⟨λa e => ?_,λa e => ?_,λa=>by rw[Xy,Xy];exact h.fz a⟩
 .rw[aa _ _ _ _ _ O]
  by_cases d:i=a
  .subst d;rw[af (h.cd i f),upd_same]
  .rw[aa _ _ _ _ _ d,upd_ne _ _ _ (λq=>d q.symm)];exact h.cd a e
 .by_cases d:i=a
  .subst d;rw[af ((aa _ _ _ _ _ O).trans (h.sz i f)),upd_same]
  .rw[aa _ _ _ _ _ O,aa _ _ _ _ _ O,upd_ne _ _ _ (λq=>d q.symm)];exact h.sz a e
theorem BkW.list{W b c z}(h:BkW W b c z):∃e:List Value,e.length=576/\W.rangeAt b 0 e/\(∀i,i<288->e[i]? = some (.int .u32 (c i))/\e[288+i]? = some (.int .u8 (z i)))/\∀f∈e,f.oneCell'=true:=by
 have g:∀i,i<576->((List.range 576).map (λi=>if i<288 then Value.int .u32 (c i) else Value.int .u8 (z (i-288):Int)))[i]? = some (if i<288 then Value.int .u32 (c i) else Value.int .u8 (z (i-288):Int)):=λi j=>by
  rw[XQ,Yp j];rfl
 refine⟨(List.range 576).map (λi=>if i<288 then Value.int .u32 (c i) else Value.int .u8 (z (i-288):Int)),Xi,λa f d => ?_,λi j=>⟨?_,?_⟩,λf d => ?_⟩
 .have l:a<576:=by have:=(Yb.1 d).1;simpa using this
  rw[g a l] at d
  injection d with d
  rw[XD,<-d];by_cases k:a<288
  .rw[I k];exact h.cd a k
  .rw[N k];have:=h.sz (a-288) O;rw[show 288+(a-288)=a from O] at this;exact this
 .rw[g i O,I j]
 .rw[g (288+i) O,N,show 288+i-288=i from O]
 .obtain⟨i,_,rfl⟩:=YP.1 d
  split<;>rfl
def BkP(f:Nat->Nat)(M:Nat)(r:Ending):Prop:=∃cs:List Value,r=.returned (.agg cs.toArray)/\cs.length=576/\∀i,i<288->cs[i]? = some (.int .u32 (cdF f M i))/\cs[288+i]? = some (.int .u8 (szF f M i))
theorem BW v l f w(J:LAt w .u8 v l)(a5:0<l.length)(a6:l.length<=288)(K:∀i,i<l.length->l.getD i 0=(f i:Int)/\f i<=15):Calls prog 159 #[v] w λa7 a8=>BkP f l.length a7/\Kept w a8:=by
 obtain⟨a9,b0,c8,rfl,x⟩:=J.addr O;obtain⟨a,A⟩:∃a,a=l.length:=⟨_,rfl⟩;rw[<-A] at x a6 a5 ⊢;have b1:=B _ _ (x 0 O);have L:Z (BkW ((w.alloc (Obj.cells zeroCells152 152)).alloc (Obj.cells zeroCells152 152)) (w.heap.size+1) (cdK f a 1 0) (szK f a 1 0)):=by
  refine⟨?_,?_,λb=>XB _ _ _ _ Xi⟩
  .intro d n
   rw[(pz f a d).1,Xr _ _ _ _ Xi,lC];simpa using vq d n
  .intro d n
   rw[(pz f a d).2,Xr _ _ _ _ Xi,lC];simpa using qX d n
 have M:Z (((w.alloc (Obj.cells zeroCells152 152)).alloc (Obj.cells zeroCells152 152)).there w.heap.size 0 576):=by
  refine World.there_alloc ?_ _;intro d n;refine⟨?_,XB _ _ _ _ rfl⟩;rw[Xr _ _ _ _ rfl,lC];by_cases b2:d<288
  .rw[show 0+d=d from O,vq d b2];rfl
  .have:=qX (d-288) O
   rw[show 0+d=288+(d-288) from O,this];rfl
 have Q:Z (Kept w ((w.alloc (Obj.cells zeroCells152 152)).alloc (Obj.cells zeroCells152 152))):=((Xs _ _).alloc (E _) _).alloc Xi _;have b3:Z _:=x;have R:Z (∀i,i<a->l.getD i 0=(f i:Int)/\f i<=15):=λi m=>K i (by rw[<-A];exact m)
 clear x K J A;go_enter func159,ntmps159;go_wp2;generalize ((w.alloc (Obj.cells zeroCells152 152)).alloc (Obj.cells zeroCells152 152))=c9 at *;go_loopw [4,5] (λC v o=>∃b q:Nat,1<=b/\b<=16/\v=.int .u8 b/\C=.int .u32 q/\q=2*eF (mkC f a) (b-1)/\BkW o (w.heap.size+1) (cdK f a b 0) (szK f a b 0)/\o.there w.heap.size 0 576/\Kept w o) (λ_ v _=>16-(intOf v).toNat)
 case atStart=>exact⟨1,0,O,O,rfl,rfl,rfl,L.o,M.o,Q.o⟩
 case round=>
  obtain⟨b,q,s,d0,rfl,rfl,S,c,e,g⟩:=hrel;have b4:q<=18874368:=by have:=Bp f (show b-1<=15 from O) a;omega
  have T:Z _:=S;replace c:Z (BkW wr (w.heap.size+1) (cdK f a b 0) (szK f a b 0)):=c;clear S;replace e:Z (wr.there w.heap.size 0 576):=e;replace g:Z (Kept w wr):=g;clear L M Q;by_cases d1:b<=15
  .have b5:(b:Int)<=15:=O
   go_wp2;go_loopw [4,6] (λC v o=>∃i h:Nat,i<=a/\v=.int .i64 i/\C=.int .u32 h/\h=q+mkC f i b/\BkW o (w.heap.size+1) (cdK f a b i) (szK f a b i)/\o.there w.heap.size 0 576/\Kept w o) (λ_ v _=>a-(intOf v).toNat)
   case atStart=>exact⟨0,q,O,rfl,rfl,rfl,c.o,e.o,g.o⟩
   case round=>
    clear c e g;obtain⟨i,h,m,rfl,rfl,U,c,e,g⟩:=hrel;have d2:h<=18874656:=by have:=qC f s (show b<=15 from O) i;omega
    have y:Z _:=U;clear U;by_cases z:i<a
    .have d3:(0:Int)<=(i:Int):=O
     have b6:(i:Int)<(a:Int):=O;have d4:(i:Int)<288:=O;have D:i<288:=O;have V:=(g.cell (p:=⟨a9,b0+i,none⟩) b1).trans (b3.o i z);obtain⟨W,b7⟩:=R.o i z;rw[W] at V;clear W;have X:Z (∃k,k=f i):=⟨_,rfl⟩;obtain⟨k,F⟩:=X.o;have t:Z _:=F;rw[<-F] at V b7;clear F X;by_cases Y:k=b
     .subst Y
      have b8:=c.cd i D;have b9:=c.sz i D;generalize cdK f a k i i=d5 at b8;generalize szK f a k i i=d6 at b9;have d7:=c.fz i;have d8:=c.fz (288+i);replace c:Z (BkW wr (w.heap.size+1) (cdK f a k i) (szK f a k i)):=c;replace e:Z (wr.there w.heap.size 0 576):=e;replace g:Z (Kept w wr):=g;go_wp2;have c0:Z (h+1=q+mkC f (i+1) k):=by
       show h+1=_
       rw[eS f i k s O,I t.o.symm,y.o];omega
      refine⟨⟨i+1,h+1,O,Xj,bU O,c0.o,?_,?_,?_⟩,Xb⟩
      .have c1:cY f a i=h:=by
        unfold cY;rw[<-t.o,<-T.o,<-y.o]
       rw[<-Ei z s t.o.symm,<-Cx z s t.o.symm,c1];exact c.o.put D h k
      .exact bV (bV e.o _ O) _ O
      .exact(g.o.setCell Xi _).setCell Xi _
     .replace c:Z (BkW wr (w.heap.size+1) (cdK f a b i) (szK f a b i)):=c
      replace e:Z (wr.there w.heap.size 0 576):=e;replace g:Z (Kept w wr):=g;go_wp2;have G:f i≠b:=λc2=>Y (by rw[t.o];exact c2)
      refine⟨⟨i+1,h,O,Xj,rfl,?_,?_,e.o,g.o⟩,Xb⟩
      .rw[eS f i b s O,N G,y.o];omega
      .rw[Ej G,Cy G];exact c.o
    .have b6:¬(i:Int)<(a:Int):=O
     replace c:Z (BkW wr (w.heap.size+1) (cdK f a b i) (szK f a b i)):=c;replace e:Z (wr.there w.heap.size 0 576):=e;replace g:Z (Kept w wr):=g;go_wp2;have c3:i=a:=O;subst c3;refine⟨⟨b+1,h*2,O,O,Xj,bU O,?_,?_,e.o,g.o⟩,Xb⟩
     .obtain⟨r,rfl⟩:∃r,b=r+1:=⟨b-1,O⟩
      have c4:=T.o;have d9:=y.o;rw[show r+1-1=r from rfl] at c4;show h*2=2*(2*eF (mkC f i) r+mkC f i (r+1))
      omega
     .rw[<-Ek,<-Cz];exact c.o
  .have b5:¬(b:Int)<=15:=O
   have a0:b=16:=O;obtain⟨j,a1,H,a2,a3⟩:=c.o.list;have c5:Z _:=a3;have u:Z _:=a1;replace H:Z (wr.rangeAt (w.heap.size+1) 0 j):=H;have c6:Z (∀i,i<288->j[i]? = some (.int .u32 (cdF f a i))/\j[288+i]? = some (.int .u8 (szF f a i))):=λi m=>by
    have a4:∀i,i<a->f i<=15:=λi m=>(R.o i m).2
    rw[<-El a4,<-CA a4,<-a0];exact a2 i m
   clear a1 a2 a3 a0 b4;have m:Z ((prog.info? 152).map (·.size)=some j.length):=by show _=_;rw[u.o];exact CK
   go_wp2;refine wp_load_mid 152 _ rfl (w.heap.size+1) 0 rfl j _ H.o underlying152 rfl m.o ?_;have e0:(storeCells ⟨w.heap.size,0,none⟩ j).run prog wr=.ok () (wr.setCells w.heap.size 0 j):=by
    have:=run_storeCells_cells (P:=prog) w.heap.size 0 j 0 wr (λd n=>by simpa using(e.o d (by rw[<-u.o];exact n)).1) (λd n=>by simpa using(e.o d (by rw[<-u.o];exact n)).2) c5.o
    simpa using this
   go_wp2;have c7:=
    Yw _ _ _ _ j _ (XO _ _ _ _ (by rw[u.o];exact e.o)) underlying152 rfl m.o
   refine XA (v := .agg j.toArray) ?_ rfl ⟨⟨j,rfl,u.o,c6.o⟩,Kept.setCells (E _) _ _ g.o⟩;exact ah rfl _ _ _ _ _ rfl c7
def BkQ(W:World)(b o:Nat)(f:Nat->Nat)(M:Nat):Prop:=∀i,i<288->W.cell? ⟨b,o+i,none⟩=some (.int .u32 (cdF f M i))/\W.cell? ⟨b,o+288+i,none⟩=some (.int .u8 (szF f M i))
theorem BkQ.lt{W b o M f}(h:BkQ W b o f M):b<W.heap.size:=B _ _ (h 0 O).1
theorem BkQ.frS{S:Nat->Prop}{w W b o M f}(h:BkQ w b o f M)(k:Fr S w W)(a:¬S b):BkQ W b o f M:=λc d=>⟨(k.cell h.lt a).trans (h c d).1,(k.cell h.lt a).trans (h c d).2⟩
theorem BkQ.kept{w W b o M f}(h:BkQ w b o f M)(k:Kept w W):BkQ W b o f M:=λa c=>⟨(k.cell h.lt).trans (h a c).1,(k.cell h.lt).trans (h a c).2⟩
theorem BkQ.next{x b o M f w w1 v v1}(h:BkQ w b o f M)(k:WrB x w v w1 v1)(a:Off x v b):BkQ w1 b o f M:=h.frS k.fr a.no
def dj(f:Nat->Nat)(M σ:Nat):Prop:=σ<M/\1<=f σ/\f σ<=15
theorem Ij{f M σ}(a:M<=288)(h:dj f M σ):cY f M σ<4294967296:=by
 unfold cY;have b:=Bp f (show f σ-1<=15 by have:=h.2.2;omega) M;have c:=qC f h.2.1 h.2.2 σ
 have:=h.1
 omega
theorem Eo b o M a f w(d:BkQ w b o f M)(l:M<=288)(c:dj f M a):Calls prog 197 #[.pointer (some ⟨b,o,none⟩),.int .i64 a] w λh i=>h=.returned (.tuple #[.int .u32 (cY f M a),.int .u64 (f a)])/\Kept w i:=by
 obtain⟨j,k⟩:=d a (by have:=c.1;omega);have e:cdF f M a=cY f M a:=I ⟨c.1,c.2.1⟩;have g:szF f M a=f a:=I c.1;rw[e] at j;rw[g] at k;have m:(0:Int)<=(a:Int):=O;have n:(a:Int)<288:=by have:=c.1;omega
 have p:=c.2.2;generalize cY f M a=q at *;generalize f a=r at *;clear d c e g;go_enter func197,ntmps197;go_wp2;go_quiet (fail);go_wp2;go_ret2;exact⟨rfl,(Kept.refl _).drewN _⟩
theorem gH f M σ:(kcB f M σ).length=f σ:=vL _ _
theorem mo x b o M a c v0 bs w(h:WC w x v0 bs)(j:BkQ w b o c M)(k:M<=288)(f:dj c M a)(l:bs.length<=4000000000):Calls prog 183 #[.pointer (some ⟨x,0,none⟩),.int .i64 a,.pointer (some ⟨b,o,none⟩)] w λd g=>d=.returned (.tuple #[])/\WO x w v0 (bs++kcB c M a) g:=by
 have m:=U (Eo b o M a c w j k f);have n:Z (∀e,Kept w e->Calls prog 198 #[.pointer (some ⟨x,0,none⟩),.int .u32 (cY c M a),.int .u64 (c a)] e λd g=>d=.returned (.tuple #[])/\WO x e v0 (bs++kcB c M a) g):=λe s=>Ii x (cY c M a) (c a) v0 bs e (h.kept s) f.2.2 (Ij k f) l
 have t:Z _:=h.lt;clear h j l f;generalize kcB c M a=y at *;generalize cY c M a=z at *;generalize c a=A at *;go_enter func183,ntmps183;go_wp2_with fail;refine m.o.mono ?_;rintro d p ⟨rfl,i⟩;have q:=n.o p i;have u:Z (Kept w p):=i;clear i m n;go_wp2_with fail;refine q.mono ?_;rintro d B ⟨rfl,r⟩;have v:=U (WO.pre u.o t.o r);clear r q;go_wp2;go_end0
 exact⟨rfl,v.o⟩
def cpB(fl fd:Nat->Nat)(ML MD L D j k:Nat):List Nat:=kcB fl ML (257+j)++(xb (L-lnT.getD j 0) 0 (lbT.getD j 0)++(kcB fd MD k++xb (D-dsT.getD k 0) 0 (k/2-1)))
def TkO(x:Nat)(w:World)(v:Value)(bs:List Nat)(fl fd:Nat->Nat)(ML MD L D:Nat)(w':World):Prop:=∃j k,LSy L j/\DSy D k/\WO x w v (bs++cpB fl fd ML MD L D j k) w'
theorem rR(L a:Nat)(h:a<=L)(b:L<=65536):IntKind.u32.wrap (IntKind.i64.wrap ((L:Int)-(a:Int)))=((L-a:Nat):Int):=by
 rw[XC,Yq];omega
theorem Ec(x b B L D g i:Nat)fl fd v bs w(h:WC w x v bs)(c3:BkQ w b 0 fl g)(c4:BkQ w b 576 fd i)(c5:Off x v b)(h8:bs.length<=3000000000)(f1:3<=L)(f2:L<=258)(f3:1<=D)(f4:D<=32768)(f5:g<=288)(f6:i<=288)(c6:∀a,LSy L a->dj fl g (257+a))(c7:∀d,DSy D d->dj fd i d):Calls prog 184 #[.pointer (some ⟨x,0,none⟩),.agg #[.int .u8 B,.int .i64 L,.int .i64 D],.pointer (some ⟨b,0,none⟩)] w λc z=>c=.returned (.tuple #[])/\TkO x w v bs fl fd g i L D z:=by
 obtain⟨l,Q⟩:∃l,l=w.alloc (Obj.cells #[.int .u8 B,.int .i64 L,.int .i64 D] 205):=⟨_,rfl⟩;have a0:Z (Kept w l):=by rw[Q];exact(Xs _ _).alloc (E _) _
 have q:Z (w.heap.size<l.heap.size/\l.cell? ⟨w.heap.size,1,none⟩=some (.int .i64 L)/\l.cell? ⟨w.heap.size,2,none⟩=some (.int .i64 D)):=by
  rw[Q];exact⟨Xi,(Xr _ _ _ _ rfl).trans rfl,(Xr _ _ _ _ rfl).trans rfl⟩
 have R:Z _:=h;have f7:=U c3;have f8:=U c4;have c8:Z _:=c6;have c9:Z _:=c7;have f9:=U c5;have a1:=U (h.new (E _));clear h c3 c4 c5 c6 c7;go_enter func184,ntmps184;go_wp2_with fail;rw[<-Q];clear Q;refine(sQ L l (R.o.kept a0.o).tab f1 f2).mono ?_;rintro c A ⟨⟨a,C,rfl⟩,F⟩;have d0:=U C;have d1:=C.1;have d2:=C.2.1;have g0:(kcB fl g (257+a)).length<=15:=by rw[gH];exact(c8.o a C).2.2
 have g1:=(AQ a d1).2.2;clear C;have e:Z (Kept w A):=a0.o.trans F;have r:Z (w.heap.size<A.heap.size/\A.cell? ⟨w.heap.size,1,none⟩=some (.int .i64 L)/\A.cell? ⟨w.heap.size,2,none⟩=some (.int .i64 D)):=⟨Xq q.o.1 F.size,(F.cell (p:=⟨w.heap.size,1,none⟩) q.o.1).trans q.o.2.1,(F.cell (p:=⟨w.heap.size,2,none⟩) q.o.1).trans q.o.2.2⟩;clear F q a0;go_wp2_with fail;refine(Il a A (R.o.kept e.o).tab d1).mono ?_;rintro c G ⟨rfl,H⟩;obtain⟨m,a2⟩:∃m,m=lnT.getD a 0:=⟨_,rfl⟩;obtain⟨j,a3⟩:∃j,j=lbT.getD a 0:=⟨_,rfl⟩;have g2:Z _:=a2;have g3:Z _:=a3;rw[<-a2] at d2 ⊢;rw[<-a3] at g1 ⊢;clear a2 a3;have f:Z (Kept w G):=e.o.trans H;have n:Z (w.heap.size<G.heap.size/\G.cell? ⟨w.heap.size,1,none⟩=some (.int .i64 L)/\G.cell? ⟨w.heap.size,2,none⟩=some (.int .i64 D)):=⟨Xq r.o.1 H.size,(H.cell (p:=⟨w.heap.size,1,none⟩) r.o.1).trans r.o.2.1,(H.cell (p:=⟨w.heap.size,2,none⟩) r.o.1).trans r.o.2.2⟩;clear H r e;go_wp2_with fail;refine(mo x b 0 g (257+a) fl v bs G (R.o.kept f.o) (f7.o.kept f.o) f5 (c8.o a d0.o) O).mono ?_;rintro c s ⟨rfl,d3,a4,t⟩;obtain⟨e,a5⟩:∃e,e=kcB fl g (257+a):=⟨_,rfl⟩;have g4:Z _:=a5;rw[<-a5] at g0 a4;clear a5;have a6:Z _:=a4;have d4:Z _:=t.pre f.o R.o.lt;have o:Z (w.heap.size<s.heap.size/\s.cell? ⟨w.heap.size,1,none⟩=some (.int .i64 L)/\s.cell? ⟨w.heap.size,2,none⟩=some (.int .i64 D)):=⟨Xq n.o.1 t.fr.size,(t.cellK a1.o n.o.1).trans n.o.2.1,(t.cellK a1.o n.o.1).trans n.o.2.2⟩;have S:=U (a1.o.next t n.o.1);clear a4 t n;have a7:=o.o.2.1;have d5:IntKind.u64.wrap (j:Int)=(j:Int):=by rw[IntKind.wrap_u64];omega
 have d6:Z (Calls prog 137 #[.pointer (some ⟨x,0,none⟩),.int .u32 (IntKind.u32.wrap (IntKind.i64.wrap ((L:Int)-(m:Int)))),.int .u64 (IntKind.u64.wrap (j:Int))] s.drew λc z=>c=.returned (.tuple #[])/\WO x s.drew d3 (bs++e++xb (L-m) 0 j) z):=by
  rw[d5,rR L m d2 O];exact bQ x (L-m) j d3 (bs++e) s.drew (a6.o.kept ((Kept.refl _).drewN 1)) O O (by rw[Xv];omega)
 clear d5;go_wp2_with fail;go_region_held3 (λa8=>a8.cell? ⟨w.heap.size,1,none⟩=some (.int .i64 L)) (first|exact a7|exact d7|go_keep) ((go_at_call 137;refine d6.o.mono ?_;rintro c a9 ⟨rfl,g5,b0,d8⟩;have u:=d8.pre ((Kept.refl _).drewN 1) a6.o.lt;have d7:=(u.cellK S.o o.o.1).trans a7))
 obtain⟨f,T⟩:∃f,f=xb (L-m) 0 j:=⟨_,rfl⟩;have g6:Z _:=T;have h9:f.length<=5:=by rw[T,aU];omega
 rw[<-T] at b0;clear T;have V:Z _:=b0;have d9:Z _:=d4.o.trans u;have W:Z (w.heap.size<a9.heap.size/\a9.cell? ⟨w.heap.size,2,none⟩=some (.int .i64 D)):=⟨Xq o.o.1 u.fr.size,(u.cellK S.o o.o.1).trans o.o.2.2⟩;have b1:=U (S.o.next u o.o.1);clear b0 d8 u a7 d7 o S a6 d4 d6;have e0:=W.o.2;go_wp2_with fail;refine(tt D a9 V.o.tab f3 f4).mono ?_;rintro c b2 ⟨⟨d,I,rfl⟩,J⟩;rw[XD];have e1:=U I;have g7:=I.1;have e2:=I.2.1;have g8:(kcB fd i d).length<=15:=by rw[gH];exact(c9.o d I).2.2
 clear I;have X:Z _:=V.o.kept J;have e3:Z _:=d9.o.kept J V.o.lt;have Y:Z (w.heap.size<b2.heap.size/\b2.cell? ⟨w.heap.size,2,none⟩=some (.int .i64 D)):=⟨Xq W.o.1 J.size,(J.cell (p:=⟨w.heap.size,2,none⟩) W.o.1).trans e0⟩;clear J W V d9 e0;go_wp2_with fail;refine(Io d b2 X.o.tab g7).mono ?_;rintro c b3 ⟨rfl,K⟩;obtain⟨y,b4⟩:∃y,y=dsT.getD d 0:=⟨_,rfl⟩;obtain⟨k,b5⟩:∃k,k=d/2-1:=⟨_,rfl⟩;have g9:Z _:=b4;have h0:Z _:=b5;have i0:k<=13:=O;rw[<-b4] at e2 ⊢;rw[<-b5];clear b4 b5;have e4:Z _:=X.o.kept K;have b6:Z _:=e3.o.kept K X.o.lt;have M:Z (w.heap.size<b3.heap.size/\b3.cell? ⟨w.heap.size,2,none⟩=some (.int .i64 D)):=⟨Xq Y.o.1 K.size,(K.cell (p:=⟨w.heap.size,2,none⟩) Y.o.1).trans Y.o.2⟩;clear K Y X e3;go_wp2_with fail;refine(mo x b 576 i d fd g5 (bs++e++f) b3 e4.o (f8.o.next b6.o f9.o) f6 (c9.o d e1.o) (by simp only[Xv];omega)).mono ?_;rintro c N ⟨rfl,e5,b7,P⟩;obtain⟨b8,b9⟩:∃b8,b8=kcB fd i d:=⟨_,rfl⟩;have h1:Z _:=b9;rw[<-b9] at g8 b7;clear b9;have e6:Z _:=b7;have h2:Z _:=b6.o.trans P;have e7:Z (w.heap.size<N.heap.size/\N.cell? ⟨w.heap.size,2,none⟩=some (.int .i64 D)):=⟨Xq M.o.1 P.fr.size,(P.cellK b1.o M.o.1).trans M.o.2⟩;have h3:=U (b1.o.next P M.o.1);clear b7 P M e4 b6 b1;have c0:=e7.o.2;have e8:IntKind.u64.wrap (k:Int)=(k:Int):=by rw[IntKind.wrap_u64];omega
 have h4:Z (Calls prog 137 #[.pointer (some ⟨x,0,none⟩),.int .u32 (IntKind.u32.wrap (IntKind.i64.wrap ((D:Int)-(y:Int)))),.int .u64 (IntKind.u64.wrap (k:Int))] N.drew λc z=>c=.returned (.tuple #[])/\WO x N.drew e5 (bs++e++f++b8++xb (D-y) 0 k) z):=by
  rw[e8,rR D y e2 O];exact bQ x (D-y) k e5 _ N.drew (e6.o.kept ((Kept.refl _).drewN 1)) O O (by simp only[Xv];omega)
 clear e8;go_wp2_with fail;go_region_held3 (λa8=>a8.cell? ⟨w.heap.size,2,none⟩=some (.int .i64 D)) (first|exact c0|exact e9|go_keep) ((go_at_call 137;refine h4.o.mono ?_;rintro c h5 ⟨rfl,h6,c1,f0⟩;have c2:=f0.pre ((Kept.refl _).drewN 1) e6.o.lt;have e9:=(c2.cellK h3.o e7.o.1).trans c0))
 have h7:Z (TkO x w v bs fl fd g i L D h5):=by
  refine⟨a,d,d0.o,e1.o,h6,?_,h2.o.trans c2⟩;unfold cpB;rw[<-g4.o,<-g2.o,<-g3.o,<-g6.o,<-h1.o,<-g9.o,<-h0.o];simp only[XY] at c1;exact c1
 clear c1 f0 c2 c0 e9;go_wp2;go_end0
 exact⟨rfl,h7.o⟩
def BkE(cs:List Value)(f:Nat->Nat)(M:Nat):Prop:=cs.length=576/\∀i,i<288->cs[i]? = some (.int .u32 (cdF f M i))/\cs[288+i]? = some (.int .u8 (szF f M i))
theorem BkE.one{cs f M}(h:BkE cs f M):∀c∈cs,c.oneCell'=true:=by
 intro c g;obtain⟨b,d,e⟩:=List.getElem_of_mem g;have j:=h.1;by_cases i:b<288
 .have a:=(h.2 b i).1
  rw[Xt d,e] at a
  injection a with a
  subst a;rfl
 .have a:=(h.2 (b-288) O).2
  rw[show 288+(b-288)=b from O,Xt d,e] at a
  injection a with a
  subst a;rfl
theorem BkE.range{cs f M W b o}(h:BkE cs f M)(r:W.rangeAt b o cs):BkQ W b o f M:=λa c=>⟨r a _ (h.2 a c).1,by have:=r _ _ (h.2 a c).2;rw[<-Yg] at this;exact this⟩
theorem nZ g n c b w(h:Byt w g n b)(e:∀a,a<n->b a<=15)(l:0<n)(m:n<=288):Calls prog 159 #[.slice (some ⟨g,0,none⟩) n c] w λf i=>BkP b n f/\Kept w i:=by
 have:=BW (.slice (some ⟨g,0,none⟩) n c) ((List.range n).map (λa=>(b a:Int))) b w (gz (λj k=>by rw[XD];exact h j k) c) Xf Xf (λa d=>by
  rw[List.length_map,List.length_range] at d;exact⟨fU n _ d,e a d⟩)
 rw[List.length_map,List.length_range] at this;exact this
theorem Hk(b:Nat)w(h:b<19):Calls prog 195 #[.int .i64 b] w λc d=>(∃e:Int,c=.returned (.tuple #[.int .i64 e,.int .i64 (rbN b:Nat)]))/\d=w:=by
 by_cases g:b<=15
 .have f:rbN b=0:=by unfold rbN;rw[N,N,N]
  rw[f];exact(z8 (b:Int) w O).mono (λc d a=>⟨⟨1,a.1⟩,a.2⟩)
 .have:b=16\/b=17\/b=18:=O
  rcases this with rfl|rfl|rfl
  .exact(kH 16 3 2 w (L ⟨rfl,rfl,rfl⟩)).mono (λc d a=>⟨⟨3,a.1⟩,a.2⟩)
  .exact(kH 17 3 3 w (R (L ⟨rfl,rfl,rfl⟩))).mono (λc d a=>⟨⟨3,a.1⟩,a.2⟩)
  .exact(kH 18 11 7 w (R (R ⟨rfl,rfl,rfl⟩))).mono (λc d a=>⟨⟨11,a.1⟩,a.2⟩)
theorem wv f t:(stB f t).length=f t.1+rbN t.1:=by unfold stB;rw[Xv,vL,aU]
theorem uK σ:rbN σ<=7:=by
 unfold rbN
 repeat' split
 all_goals omega
theorem zS x j f lv v bs ts w(h:WC w x v bs)(b1:Byt w j 19 f)(K:∀A,A<19->f A<=7)(C:StX w lv ts)(L:∀j,lv.ownBlock=some j->Off x v j)(e3:ts.length<=65536)(b2:∀a∈ts,a.1<19/\1<=f a.1/\a.2<=127)(g5:bs.length<=1000000000):Calls prog 182 #[.pointer (some ⟨x,0,none⟩),lv,.slice (some ⟨j,0,none⟩) 19 19] w λe q=>e=.returned (.tuple #[])/\WO x w v (bs++ts.flatMap (stB f)) q:=by
 obtain⟨g6,g7,rfl⟩:=C.form;obtain⟨g,D⟩:∃g,g=ts.length:=⟨_,rfl⟩;rw[<-D] at C e3 L ⊢;have e4:Z _:=D;have e5:Z (∀b,b<g->∃a,ts[b]? = some a/\a.1<19/\1<=f a.1/\a.2<=127):=λb b3=>by
  have b4:b<ts.length:=by rw[<-D];exact b3
  exact⟨ts[b],Xt b4,b2 _ (YU b4)⟩
 have M:Z _:=K;clear D b2;have b5:=U (nZ j 19 19 f w b1 (λA e6=>by have:=K A e6;omega) O O);have F:Z _:=h;have b6:Z _:=C;have b7:Z _:=L;clear h b1 C L K;go_enter func182,ntmps182;go_wp2_with fail;refine b5.o.mono ?_;rintro e i ⟨⟨r,rfl,n⟩,b8⟩;replace n:BkE r f 19:=n;have G:=U n;have N:Z (Kept w i):=b8;have P:=n.1;clear b8 b5;obtain⟨k,s⟩:∃k,k=i.alloc (Obj.cells zeroCells152 152):=⟨_,rfl⟩;have Q:k.there i.heap.size 0 576:=by
  rw[s];intro o g8;refine⟨?_,XB _ _ _ _ rfl⟩;rw[Xr _ _ _ _ rfl,lC];by_cases h:o<288
  .rw[show 0+o=o from O,vq o h];rfl
  .have:=qX (o-288) O
   rw[show 0+o=288+(o-288) from O,this];rfl
 have b9:(storeCells ⟨i.heap.size,0,none⟩ r).run prog k=.ok () (k.setCells i.heap.size 0 r):=bl (by rw[P];exact Q) n.one;have c0:=U (n.range (XO _ _ _ _ (by rw[P];exact Q)));have c1:Z (Kept i k):=by rw[s];exact(Xs _ _).alloc (E _) _
 have R:Z (Kept w (k.setCells i.heap.size 0 r)):=N.o.trans (Kept.setCells (E _) _ _ c1.o);rw[s] at b9;go_wp2_with fail;rw[<-s];clear b9 s Q n;generalize k.setCells i.heap.size 0 r=e7 at *;have S:=N.o.size;obtain⟨H,c2⟩:∃H,H=i.heap.size:=⟨_,rfl⟩;rw[<-c2] at c0 S ⊢;have e8:=U (F.o.new S);have e9:Z _:=F.o.kept R.o;have c3:Z _:=b6.o.kept R.o;have f0:Z _:=F.o.lt;clear c2 S N c1 G P F b6;go_loopw [7,8,9] (λT _ _ d=>∃(b:Nat) (c4:Value) (c:List Nat),b<=g/\T=.int .i64 b/\c=(ts.take b).flatMap (stB f)/\c.length<=22*b/\WC d x c4 (bs++c)/\WrB x e7 v d c4) (λT _ _ _=>g-(intOf T).toNat)
 case atStart=>exact⟨0,v,[],O,rfl,rfl,Xi,by rw[XN];exact e9.o,WrB.refl _ _ _⟩
 case round=>
  obtain⟨b,V,c,b3,rfl,c5,g9,t,W⟩:=hrel;have X:Z _:=c5;have Y:Z _:=t;have u:Z _:=W;have c6:=U (c0.o.next W e8.o);clear t W c5;by_cases f1:b<g
  .obtain⟨a,I,p,c7,f2⟩:=e5.o b f1
   obtain⟨c8,rfl,a0,a1⟩:=(c3.o.frS u.o.fr (λj f3=>(b7.o j f3).no)).two I;have f4:(b:Int)<(g:Int):=O;have h0:(0:Int)<=(b:Int):=O;have a2:=U ((b7.o c8 rfl).next u.o (by obtain⟨h1,l,f5,_⟩:=c3.o.two I;injection l with l;injection l with l;rw[l];exact B _ _ f5));have f6:Z ((ts.take (b+1)).flatMap (stB f)=c++stB f a):=by
    show(ts.take (b+1)).flatMap (stB f)=_
    rw[List.take_add_one,I,X.o];simp
   have G:Z (dj f 19 a.1):=⟨p,c7,by have:=M.o _ p;omega⟩;have h2:(stB f a).length<=14:=by rw[wv];have:=M.o _ p;have:=uK a.1;omega
   have a3:Z (stB f a=kcB f 19 a.1++xb a.2 0 (rbN a.1)):=rfl;have h3:(kcB f 19 a.1).length<=7:=by rw[gH];exact M.o _ p
   have h4:=uK a.1;have a4:=U (Hk a.1 wr p);have h5:(bs++c).length<=1100000000:=by rw[Xv];omega
   have a5:Z (∀d,Kept wr d->Calls prog 183 #[.pointer (some ⟨x,0,none⟩),.int .i64 (a.1:Int),.pointer (some ⟨H,0,none⟩)] d λe q=>e=.returned (.tuple #[])/\WO x d V (bs++c++kcB f 19 a.1) q):=λd c9=>mo x H 0 19 a.1 f V (bs++c) d (Y.o.kept c9) (c6.o.kept c9) O G.o O
   clear G X I;generalize stB f a=a6 at *;generalize kcB f 19 a.1=f7 at *;generalize rbN a.1=y at *;obtain⟨d0,t⟩:∃d0,d0=a.1:=⟨_,rfl⟩;obtain⟨m,d1⟩:∃m,m=a.2:=⟨_,rfl⟩;rw[<-t] at a0 a4 a5;rw[<-d1] at a1 a3 f2;clear t d1 p c7;go_wp2_with fail;refine a4.o.mono ?_;rintro e h6 ⟨⟨h7,rfl⟩,rfl⟩;clear a4;go_wp2_with fail;refine(a5.o _ (Kept.refl _)).mono ?_;rintro e a7 ⟨rfl,d2,d3,z⟩;have J:=B _ _ a0;have a8:Z _:=d3;have d4:Z _:=u.o.trans z;have d5:=U (a2.o.next z J);have a9:=(z.cellK a2.o J).trans a1;have f8:=Xq J z.fr.size;clear d3 z Y u a0 a1 J a2 c6 a5;have d6:IntKind.u64.wrap (y:Int)=(y:Int):=by rw[IntKind.wrap_u64];omega
   have d7:IntKind.u32.wrap (m:Int)=(m:Int):=by rw[Yq];omega
   have d8:Z (Calls prog 137 #[.pointer (some ⟨x,0,none⟩),.int .u32 (IntKind.u32.wrap (m:Int)),.int .u64 (IntKind.u64.wrap (y:Int))] a7.drew λe q=>e=.returned (.tuple #[])/\WO x a7.drew d2 (bs++c++f7++xb m 0 y) q):=by
    rw[d6,d7];exact bQ x m y d2 _ a7.drew (a8.o.kept ((Kept.refl _).drewN 1)) O O (by rw[Xv];omega)
   clear d6 d7;go_wp2_with fail;go_region_held3 (λd=>d.cell? ⟨c8,b*2+1,none⟩=some (.int .i64 m)) (first|exact a9|exact d9|go_keep) ((go_at_call 137;refine d8.o.mono ?_;rintro e f9 ⟨rfl,e0,e1,e2⟩;have b0:=e2.pre ((Kept.refl _).drewN 1) a8.o.lt;have d9:=(b0.cellK d5.o f8).trans a9))
   have g0:Z (WC f9 x e0 (bs++(c++a6))):=by
    rw[a3.o,<-XY,<-XY];exact e1
   have g1:Z _:=d4.o.trans b0;have g2:(c++a6).length<=22*(b+1):=by rw[Xv];omega
   clear e1 e2 b0 d9 a9 d8 a8 d4 d5 a3;go_wp2;exact⟨⟨b+1,e0,c++a6,O,Xj,f6.o.symm,g2,g0.o,g1.o⟩,Xb⟩
  .have f4:¬(b:Int)<(g:Int):=O
   have g3:b=g:=O;subst g3;have g4:Z (WO x w v (bs++ts.flatMap (stB f)) wr):=by
    have l:=X.o;rw[e4.o,List.take_length] at l;rw[<-l];exact⟨V,Y.o,u.o.pre R.o f0.o⟩
   go_wp2;go_end0
   exact⟨rfl,g4.o⟩
theorem gg.same{row σ}(i:σ≠16):∀{ts:List (Nat×Nat)} {k m:Nat},gg row k ts m->(∀c∈ts,c.1=σ)->∀a,k<=a->a<m->row a=if σ<=15 then σ else 0
 | [],k,m,d,_,a,h1,h2=>by
  have r:k=m:=d;omega
 | c::ts,k,m,d,g,a,h1,h2=>by
  obtain⟨j,l,n⟩:=d;have o:=g c Xi;by_cases s:a<k+j
  .rcases l with⟨e,f,h,b⟩|⟨e,f⟩|⟨e,f,h,b⟩|⟨e,f,h,b⟩
   .rw[show a=k from O,b,I,o]
   .omega
   .have:=b (a-k) O
    rw[show k+(a-k)=a from O] at this;rw[this,N]
   .have:=b (a-k) O
    rw[show k+(a-k)=a from O] at this;rw[this,N]
  .exact gg.same i n (λp q=>g p (by simp[q])) a O h2
theorem gg.differ{row ts m i}(h:gg row 0 ts m)(j:i<m)(k:row i≠row 0):∃b∈ts,∃a∈ts,b.1≠a.1:=by
 match ts,h with
 | [],h=>
  have d:0=m:=h;omega
 | b::ts,h=>
  by_cases g:∃a∈b::ts,b.1≠a.1
  .obtain⟨a,e,l⟩:=g
   exact⟨b,Xi,a,e,l⟩
  .exfalso
   have n:∀a∈b::ts,a.1=b.1:=λa e=>by
    by_cases c:b.1=a.1
    .exact c.symm
    .exact absurd ⟨a,e,c⟩ g
   have o:b.1≠16:=by
    obtain⟨p,c,_⟩:=h;rcases c with⟨f,_⟩|⟨_,_,f,_⟩|⟨f,_⟩|⟨f,_⟩<;>omega
   have d:=gg.same o h n;exact k ((d i O j).trans (d 0 O O).symm)
theorem gg.lt19{row}:∀{ts:List (Nat×Nat)} {k m:Nat},gg row k ts m->∀a∈ts,a.1<19
 | [],k,m,_,a,b=>by simp at b
 | u::ts,k,m,e,a,b=>by
  obtain⟨h,f,g⟩:=e;rcases Y4.1 b with c|c
  .rw[c]
   rcases f with⟨d,_⟩|⟨d,_⟩|⟨d,_⟩|⟨d,_⟩<;>omega
  .exact gg.lt19 g a c
theorem rZ v:∀n,sm (λ_=>v) n=n*v
 | 0=>by simp[sm]
 | n+1=>by show sm (λ_=>v) n+v=_;rw[rZ v n,YO,Zi]
theorem wB{f g}:∀n,(∀i,i<n->f i=g i)->sm f n=sm g n
 | 0,_=>rfl
 | n+1,a=>by show sm f n+f n=sm g n+g n;rw[wB n (λi b=>a i O),a n O]
theorem tn{f a}(m:257<=a)(n:a<=286)(d:∀b,b<a->f b<=15)(h:eF (mkC f a) 15=32768):∃b,b<a/\f b≠f 0:=by
 by_cases e:∃b,b<a/\f b≠f 0
 .exact e
 .exfalso
  have i:∀b,b<a->f b=f 0:=λb g=>by
   by_cases j:f b=f 0
   .exact j
   .exact absurd ⟨b,g,j⟩ e
  rw[vy f 15 O a d] at h;have k:=wB a (λb g=>by show(if f b=0 then 0 else 2^(15-f b))=_;rw[i b g]);rw[k,rZ] at h;have o:=d 0 O;generalize f 0=c at *;have l:c=0\/c=1\/c=2\/c=3\/c=4\/c=5\/c=6\/c=7\/c=8\/c=9\/c=10\/c=11\/c=12\/c=13\/c=14\/c=15:=O;clear k e i d;rcases l with rfl|rfl|rfl|rfl|rfl|rfl|rfl|rfl|rfl|rfl|rfl|rfl|rfl|rfl|rfl|rfl
  all_goals
   simp at h;try omega
structure LDK (fl fd:Nat->Nat):Prop where
 l15:∀i,i<286->fl i<=15
 d15:∀i,i<30->fd i<=15
 lit:eF (mkC fl 286) 15=32768
 eob:fl 256≠0
 dis:eF (mkC fd 30) 15=32768\/(∃x,x<30/\fd x=1/\∀i,i<30->i≠x->fd i=0)\/∀i,i<30->fd i=0
def rwF(fl fd:Nat->Nat)(a:Nat):Nat->Nat:=λi=>if i<a then fl i else fd (i-a)
theorem LDK.row{fl fd a b}(h:LDK fl fd)(l:257<=a)(m:a<=286)(n:1<=b)(o:b<=30)(p:∀c,a<=c->c<286->fl c=0)(j:∀c,b<=c->c<30->fd c=0):ou a b (rwF fl fd a):=by
 have k:∀c,c<a->rwF fl fd a c=fl c:=λc e=>I e
 have d:∀c,rwF fl fd a (a+c)=fd c:=λc=>by show(if a+c<a then _ else _)=_;rw[if_neg O,show a+c-a=c from O]
 have q:mkC fl 286=mkC fl a:=by
  have:=jM fl (N:=a) (286-a) (λc f r=>p c f O)
  rw[show a+(286-a)=286 from O] at this;exact this
 have s:mkC fd 30=mkC fd b:=by
  have:=jM fd (N:=b) (30-b) (λc f r=>j c f O)
  rw[show b+(30-b)=30 from O] at this;exact this
 refine⟨l,m,n,o,?_,?_,?_⟩
 .rw[dP a k,<-q];exact h.lit
 .rw[show(λc=>rwF fl fd a (a+c))=fd from funext d]
  rcases h.dis with g|⟨i,t,u,v⟩|g
  .exact L (by rw[<-s];exact g)
  .refine R (L ⟨i,?_,by rw[d];exact u,λc e w=>by rw[d];exact v c O w⟩)
   by_cases x:i<b
   .exact x
   .have:=j i O t;omega
  .exact R (R (λc e=>by rw[d];exact g c O))
 .rw[k 256 O];exact h.eob
theorem DQ{a b n f}(g:∀e,e<19->f e<=7)(l:n<=19):∀ts:List (Nat×Nat),(∀c∈ts,c.1<19)->(hdB a b n f ts).length<=71+14*ts.length:=by
 have h:∀ts:List (Nat×Nat),(∀c∈ts,c.1<19)->(ts.flatMap (stB f)).length<=14*ts.length:=by
  intro ts
  induction ts with
  | nil=>intro _;simp
  | cons c ts i=>
   intro d;rw[List.flatMap_cons,Xv,wv,Yj]
   have:=i (λj k=>d j (by simp[k]))
   have:=g _ (d c Xi)
   have:=uK c.1
   omega
 intro ts d
 have:=h ts d
 unfold hdB;simp only[Xv,aU,lH];omega
def LnO(x:Nat)(w:World)(v:Value)(bs:List Nat)(fl fd:Nat->Nat)(w':World):Prop:=∃a b n f st,Iz fl fd a b n f st/\(hdB a b n f st).length<=4500/\WO x w v (bs++hdB a b n f st) w'
theorem zL g n M c w(h:Byt w g n c)(r:n<=1024)(s:M<=n):Calls prog 178 #[.slice (some ⟨g,0,none⟩) n n,.int .i64 M] w λd e=>(∃a:Nat,M<=a/\a<=n/\(∀b,a<=b->b<n->c b=0)/\d=.returned (.int .i64 a))/\e=w:=by
 have:=zK (.slice (some ⟨g,0,none⟩) n n) ((List.range n).map (λb=>(c b:Int))) M w (gz (λk l=>by rw[XD];exact h k l) n) Xf Xf
 refine this.mono ?_;rintro d e ⟨⟨a,m,f,i,o⟩,p⟩;rw[List.length_map,List.length_range] at f i;refine⟨⟨a,m,f,λb q j => ?_,o⟩,p⟩
 have:=i b q j
 rw[fU n _ j] at this;omega
theorem Et(f g:Nat->Int)a b{i}(h:i<a+b):((List.range a).map f++(List.range b).map g).getD i 0=if i<a then f i else g (i-a):=by
 rw[G];by_cases c:i<a
 .rw[XV (by simp;exact c),I c,XQ,Yp c];rfl
 .rw[XP Xf,N c,List.length_map,List.length_range,XQ,Yp O];rfl
theorem oO(f:Nat->Nat)n(h:∀i,i<n->f i<256):isBytes ((List.range n).map (λi=>(f i:Int))):=λc a=>by
 obtain⟨i,b,rfl⟩:=YP.1 a
 have:=h i (Yi.1 b)
 omega
theorem Ds x g1 g2 fl k v bs w(h:WC w x v bs)(c4:Byt w g1 286 fl)(c5:Byt w g2 30 k)(c6:LDK fl k)(j7:bs.length<=900000000):Calls prog 163 #[.pointer (some ⟨x,0,none⟩),.slice (some ⟨g1,0,none⟩) 286 286,.slice (some ⟨g2,0,none⟩) 30 30] w λi n=>i=.returned (.tuple #[])/\LnO x w v bs fl k n:=by
 have h0:Z (∀t,Kept w t->WC t x v bs):=λt a3=>h.kept a3
 have a4:Z (∀e,w.heap.size<=e->Off x v e):=λe L=>h.new L
 have h1:Z _:=h.lt;have a5:=U c4;have M:=U c5;have q:Z _:=c6;clear h c4 c5 c6;go_enter func163,ntmps163;go_wp2_with fail;refine(zL g1 286 257 fl w a5.o O O).mono ?_;rintro i n ⟨⟨d,c7,c8,c9,rfl⟩,rfl⟩;have d0:Z _:=c9;clear c9;go_wp2_with fail;refine(zL g2 30 1 k _ M.o O O).mono ?_;rintro i n ⟨⟨f,h2,h3,d1,rfl⟩,rfl⟩;have d2:Z _:=d1;clear d1
 rename World=>w
 have d3:Z _:=q.o.row c7 c8 h2 h3 d0.o d2.o;obtain⟨l,N⟩:∃l,l=(List.range d).map (λc=>(fl c:Int)):=⟨_,rfl⟩;obtain⟨m,P⟩:∃m,m=(List.range f).map (λc=>(k c:Int)):=⟨_,rfl⟩;have j8:(0:Int)<=(d:Int):=O;have j9:(d:Int)<=286:=O;have k0:(0:Int)<=(f:Int):=O;have k1:(f:Int)<=30:=O;have A:Z (d=l.length/\isBytes l/\∀g,g<d->w.cell? ⟨g1,0+g,none⟩=some (.int .u8 (l.getD g 0))):=by
  rw[N];exact⟨Xi,oO fl d (λc o=>by have:=q.o.l15 c O;omega),λg D=>by rw[XD,fU d _ D];exact a5.o g O⟩
 have Q:Z (f=m.length/\isBytes m/\∀g,g<f->w.cell? ⟨g2,0+g,none⟩=some (.int .u8 (m.getD g 0))):=by
  rw[P];exact⟨Xi,oO k f (λc o=>by have:=q.o.d15 c O;omega),λg D=>by rw[XD,fU f _ D];exact M.o g O⟩
 have d4:Z _:=M.o.lt O;have a6:Z ((l++m).length=d+f/\∀c,c<(l++m).length->(l++m).getD c 0=(rwF fl k d c:Int)/\rwF fl k d c<=15):=by
  have a7:(l++m).length=d+f:=by rw[N,P];simp
  refine⟨a7,λc o=>⟨?_,?_⟩⟩
  .rw[N,P,Et _ _ d f O]
   unfold rwF
   split<;>rfl
  .unfold rwF
   split
   .exact q.o.l15 c O
   .exact q.o.d15 _ O
 have d5:Z (∃c,c<d+f/\rwF fl k d c≠rwF fl k d 0):=by
  have a8:∀c,c<d->rwF fl k d c=fl c:=λc o=>I o
  obtain⟨c,o,u⟩:=tn c7 c8 (λc o=>by rw[a8 c o];exact q.o.l15 c O) d3.o.lit;exact⟨c,O,u⟩
 clear N P a5 M;go_wp2_with (at_builtin;refine xV _ rfl _ _ rfl w.heap.size (.slice none 0 0) [] rfl (bg.nil _ _) g1 0 d 286 l rfl A.o.1 O A.o.2.1 A.o.2.2 Xf (E _) ?_)
 intro k2 h4 F d6;try rw[Ze] at F
 obtain⟨h5,h6,rfl⟩:=F.slice;rw[<-A.o.1] at F ⊢;have R:Z (Kept w h4):=Fr.to_kept (Kept.refl _) d6 (λc _ j=>by cases j);have a9:=U F;have d7:Z _:=A.o.1;clear F d6 A;go_wp2_with (at_builtin;refine xV _ rfl _ _ rfl w.heap.size (.slice h5 d h6) l rfl a9.o g2 0 f 30 m rfl Q.o.1 O Q.o.2.1 (λg D=>(R.o.cell (p:=⟨g2,0+g,none⟩) d4.o).trans (Q.o.2.2 g D)) (by rw[<-d7.o];omega) R.o.size ?_)
 intro k3 G b0 d8;obtain⟨d9,e0,rfl⟩:=b0.slice;have b1:Z (Kept w G):=Fr.to_kept R.o d8 (λc o j=>by have:=a9.o.ge c j;omega);have e1:Z (Calls prog 179 #[.slice d9 (d+f) e0] G λi n=>Je G (rwF fl k d) (d+f) i n/\Kept G n):=by
  obtain⟨a7,a8⟩:=a6.o
  have:=yn (.slice d9 (l++m).length e0) (l++m) (rwF fl k d) G b0.lat O a8
  rw[a7] at this;exact this
 rw[a6.o.1];clear b0 d8 a9 Q R d4 a6 d7;go_wp2_with fail;refine e1.o.mono ?_;rintro i H ⟨⟨k4,B,rfl,h7,S,e2,e3,T⟩,e4⟩;obtain⟨b2,b3,rfl⟩:=S.form;obtain⟨J,u⟩:∃J,J=B.length:=⟨_,rfl⟩;have b4:Z _:=u;rw[<-u] at S T h7 ⊢;have b5:Z (∀t,Kept H t->StX t (.slice b2 J b3) B):=λt a3=>S.kept a3
 have C:Z _:=e2;have h8:Z _:=e3;clear u e2 e3;have b6:Z (∀e,(Value.slice b2 J b3).ownBlock=some e->w.heap.size<=e/\e<H.heap.size):=λe j=>⟨Xz b1.o.size (T e j).1,(T e j).2⟩
 have b7:Z (Kept w H):=b1.o.trans e4;clear S T e4 e1 b1;go_wp2_with fail;refine(uC _ B H (b5.o H (Kept.refl _)) (by rw[<-b4.o];omega) C.o.lt19).mono ?_;rintro i y ⟨⟨e,K,rfl,L,e5,e6,e7,e8⟩,V⟩;have W:Z _:=e6;have e9:Z _:=e7;have h9:Z (eF (mkC K 19) 15=32768):=by
  obtain⟨c,o,u⟩:=d5.o;obtain⟨r,s,i0,i1,i2⟩:=C.o.differ o u;exact e8 r s i0 i1 i2
 clear e6 e7 e8 d5;have f0:Z (Kept w y):=b7.o.trans V;have X:=U e5;have i3:Z _:=Xz b7.o.size L;have f1:Z _:=b5.o y V;have b8:Z (∀e,(Value.slice b2 J b3).ownBlock=some e->w.heap.size<=e/\e<y.heap.size):=λe j=>⟨(b6.o e j).1,Xq (b6.o e j).2 V.size⟩
 clear e5 V L b7 b5 b6;have f2:Z (∀z:Int,z=((d-257:Nat):Int)->Calls prog 137 #[.pointer (some ⟨x,0,none⟩),.int .u32 z,.int .u64 5] y λi n=>i=.returned (.tuple #[])/\WO x y v (bs++xb (d-257) 0 5) n):=λz b9=>by rw[b9];exact bQ x (d-257) 5 v bs y (h0.o y f0.o) O O O
 go_wp2_with fail;refine(f2.o _ (by first|omega|(rw[Yq];omega))).mono ?_;rintro i c0 ⟨rfl,f3,f4,f5⟩;have f6:Z _:=f4;have f7:Z _:=f5;clear f4 f5 f2;have f8:Z (∀z:Int,z=((f-1:Nat):Int)->Calls prog 137 #[.pointer (some ⟨x,0,none⟩),.int .u32 z,.int .u64 5] c0 λi n=>i=.returned (.tuple #[])/\WO x c0 f3 (bs++xb (d-257) 0 5++xb (f-1) 0 5) n):=λz b9=>by rw[b9];exact bQ x (f-1) 5 f3 _ c0 f6.o O O (by simp only[Xv,aU];omega)
 go_wp2_with fail;refine(f8.o _ (by first|omega|(rw[Yq];omega))).mono ?_;rintro i i4 ⟨rfl,i5,f9,g0⟩;have g3:Z _:=f9;have c1:Z _:=f7.o.trans g0;have g4:=X.o.lt O;have g5:=U (a4.o e i3.o);clear f9 g0 f8 f6 f7;go_wp2_with fail;refine(yr x e K i5 _ i4 g3.o (X.o.fr (λg=>c1.o.cellK g5.o g4)) W.o (by simp only[Xv,aU];omega)).mono ?_;rintro i i6 ⟨rfl,c2,i7,g6,g7,i8,c3,g8⟩;have i9:Z _:=g7;clear g7;obtain⟨Y,a0⟩:∃Y,Y=bs++xb (d-257) 0 5++xb (f-1) 0 5++(xb (c2-4) 0 4++shB K 0 c2):=⟨_,rfl⟩;have j0:Z _:=a0;have k5:Y.length<=900001000:=by rw[a0];simp only[Xv,aU,lH];omega
 rw[<-a0] at c3;clear a0;have j1:Z _:=c3;have a1:Z _:=c1.o.trans g8;have j2:=U (X.o.fr (λg=>a1.o.cellK g5.o g4));have j3:Z _:=f1.o.frS a1.o.fr (λe j=>(a4.o e (b8.o e j).1).no);clear c3 g8 g3 c1 X f1;go_wp2_with fail;refine(zS x e K _ i8 Y B i6 j1.o j2.o W.o j3.o (λe j=>(a4.o e (b8.o e j).1).next a1.o (b8.o e j).2) (by rw[<-b4.o];omega) (λr s=>⟨C.o.lt19 r s,e9.o r s,h8.o r s⟩) O).mono ?_;rintro i j4 ⟨rfl,j5,a2,g9⟩;have j6:Z (LnO x w v bs fl k j4):=by
  refine⟨d,f,c2,K,B,⟨d3.o,q.o.l15,q.o.d15,d0.o,d2.o,W.o,h9.o,i7,g6,i9.o,C.o,λr s=>⟨C.o.lt19 r s,e9.o r s⟩⟩,?_,j5,?_,(a1.o.trans g9).pre f0.o h1.o⟩
  .have:=DQ (a:=d) (b:=f) W.o g6 B C.o.lt19
   have j:=b4.o;omega
  .rw[j0.o] at a2
   unfold hdB;simp only[XY] at a2 ⊢;exact a2
 clear a2 g9;go_wp2;go_end0
 exact⟨rfl,j6.o⟩
