import Derived.Test.YtbedkdnphobmlaaGreatDoorProg
import Derived.Test.YtbedkdnphobmlaaGreatDoorUaa00
import Derived.Test.YtbedkdnphobmlaaGreatDoorUaa01
import Derived.Test.YtbedkdnphobmlaaGreatDoorUaa03
import Derived.Test.YtbedkdnphobmlaaGreatDoorUaa07
import Derived.Test.YtbedkdnphobmlaaGreatDoorUaa08
import Derived.Test.YtbedkdnphobmlaaGreatDoorUaa09
import Derived.Test.YtbedkdnphobmlaaGreatDoorUaa11
import Derived.Test.YtbedkdnphobmlaaGreatDoorUaa19
import Derived.Test.YtbedkdnphobmlaaGreatDoorUaa21
import Derived.Test.YtbedkdnphobmlaaGreatDoorUaa22
import Derived.Test.YtbedkdnphobmlaaGreatDoorUaa24
import Derived.Test.YtbedkdnphobmlaaGreatDoorUaa28
import Derived.Test.YtbedkdnphobmlaaGreatDoorUaa30
set_option linter.all false
set_option maxRecDepth 100000
set_option maxHeartbeats 0
namespace Go.Proofs.YtbedkdnphobmlaaGreatDoor
open Go.RowKit Px Tryz
def nG(V:Nat):Nat:=(31-256*(8+16*V)%31)%31
def vj(V:Nat):Nat:=(8+16*V)+nG V*256
theorem H4:∀a,a<8->kY (vj a)=true/\vj a<65536/\vj a%256/16=a:=Xh
theorem WO.number{x n s:Nat}{w W v bs}(h:WO x w v bs W)(c:s<=16)(d:n<4294967296)(m:bs.length<=4000000000):Calls prog 137 #[.pointer (some ⟨x,0,none⟩),.int .u32 n,.int .u64 s] W λa b=>a=.returned (.tuple #[])/\WO x w v (bs++xb n 0 s) b:=by
 obtain⟨e,f,g⟩:=h;refine(bQ x n s e bs W f c d O).mono ?_;rintro a b ⟨i,j,k,l⟩;exact⟨i,j,k,g.trans l⟩
theorem DL(x d:Nat)v0 bs w(h:WC w x v0 bs)(g:d<=7)(r:bs.length<=900000000):Calls prog 98 #[.pointer (some ⟨x,0,none⟩),.int .i64 d] w λc n=>c=.returned (.tuple #[])/\WO x w v0 (bs++xb (vj d) 0 16) n:=by
 have i:Z (∀(f:Nat) (k:Int),k=(f:Int)->f<256->Calls prog 137 #[.pointer (some ⟨x,0,none⟩),.int .u32 k,.int .u64 8] w λc n=>c=.returned (.tuple #[])/\WO x w v0 (bs++xb f 0 8) n):=λf k o t=>by rw[o];exact WO.number (s:=8) (WO.refl h) O O O
 have j:Z (∀p (q f:Nat) (k:Int),k=(f:Int)->f<256->WO x w v0 (bs++xb q 0 8) p->Calls prog 137 #[.pointer (some ⟨x,0,none⟩),.int .u32 k,.int .u64 8] p λc n=>c=.returned (.tuple #[])/\WO x w v0 (bs++xb q 0 8++xb f 0 8) n):=λp q f k o t u=>by rw[o];exact WO.number (s:=8) u O O (by rw[Xv,aU];omega)
 have e:Z (bs++xb (8+16*d) 0 8++xb (nG d) 0 8=bs++xb (vj d) 0 16):=by
  show _=_
  rw[XY,fR (8+16*d) 8 (nG d) 8 O];rfl
 clear h r;have v:d=0\/d=1\/d=2\/d=3\/d=4\/d=5\/d=6\/d=7:=O;rcases v with rfl|rfl|rfl|rfl|rfl|rfl|rfl|rfl
 .clear g
  rw[<-e.o];clear e;go_enter func98,ntmps98;go_wp2_with fail;refine(i.o (8+16*0) _ Xh Xh).mono ?_;rintro c l ⟨rfl,a⟩;replace a:Z _:=a;go_wp2_with fail;refine(j.o _ (8+16*0) (nG 0) _ Xh Xh a.o).mono ?_;rintro c m ⟨rfl,b⟩;replace b:Z _:=b;go_wp2;go_end0
  exact⟨rfl,b.o⟩
 .clear g
  rw[<-e.o];clear e;go_enter func98,ntmps98;go_wp2_with fail;refine(i.o (8+16*1) _ Xh Xh).mono ?_;rintro c l ⟨rfl,a⟩;replace a:Z _:=a;go_wp2_with fail;refine(j.o _ (8+16*1) (nG 1) _ Xh Xh a.o).mono ?_;rintro c m ⟨rfl,b⟩;replace b:Z _:=b;go_wp2;go_end0
  exact⟨rfl,b.o⟩
 .clear g
  rw[<-e.o];clear e;go_enter func98,ntmps98;go_wp2_with fail;refine(i.o (8+16*2) _ Xh Xh).mono ?_;rintro c l ⟨rfl,a⟩;replace a:Z _:=a;go_wp2_with fail;refine(j.o _ (8+16*2) (nG 2) _ Xh Xh a.o).mono ?_;rintro c m ⟨rfl,b⟩;replace b:Z _:=b;go_wp2;go_end0
  exact⟨rfl,b.o⟩
 .clear g
  rw[<-e.o];clear e;go_enter func98,ntmps98;go_wp2_with fail;refine(i.o (8+16*3) _ Xh Xh).mono ?_;rintro c l ⟨rfl,a⟩;replace a:Z _:=a;go_wp2_with fail;refine(j.o _ (8+16*3) (nG 3) _ Xh Xh a.o).mono ?_;rintro c m ⟨rfl,b⟩;replace b:Z _:=b;go_wp2;go_end0
  exact⟨rfl,b.o⟩
 .clear g
  rw[<-e.o];clear e;go_enter func98,ntmps98;go_wp2_with fail;refine(i.o (8+16*4) _ Xh Xh).mono ?_;rintro c l ⟨rfl,a⟩;replace a:Z _:=a;go_wp2_with fail;refine(j.o _ (8+16*4) (nG 4) _ Xh Xh a.o).mono ?_;rintro c m ⟨rfl,b⟩;replace b:Z _:=b;go_wp2;go_end0
  exact⟨rfl,b.o⟩
 .clear g
  rw[<-e.o];clear e;go_enter func98,ntmps98;go_wp2_with fail;refine(i.o (8+16*5) _ Xh Xh).mono ?_;rintro c l ⟨rfl,a⟩;replace a:Z _:=a;go_wp2_with fail;refine(j.o _ (8+16*5) (nG 5) _ Xh Xh a.o).mono ?_;rintro c m ⟨rfl,b⟩;replace b:Z _:=b;go_wp2;go_end0
  exact⟨rfl,b.o⟩
 .clear g
  rw[<-e.o];clear e;go_enter func98,ntmps98;go_wp2_with fail;refine(i.o (8+16*6) _ Xh Xh).mono ?_;rintro c l ⟨rfl,a⟩;replace a:Z _:=a;go_wp2_with fail;refine(j.o _ (8+16*6) (nG 6) _ Xh Xh a.o).mono ?_;rintro c m ⟨rfl,b⟩;replace b:Z _:=b;go_wp2;go_end0
  exact⟨rfl,b.o⟩
 .clear g
  rw[<-e.o];clear e;go_enter func98,ntmps98;go_wp2_with fail;refine(i.o (8+16*7) _ Xh Xh).mono ?_;rintro c l ⟨rfl,a⟩;replace a:Z _:=a;go_wp2_with fail;refine(j.o _ (8+16*7) (nG 7) _ Xh Xh a.o).mono ?_;rintro c m ⟨rfl,b⟩;replace b:Z _:=b;go_wp2;go_end0
  exact⟨rfl,b.o⟩
theorem yb(a:Nat)w(b:a<=7):Calls prog 99 #[.int .i64 a] w λc d=>c=.returned (.int .i64 ((256*2^a:Nat):Int))/\d=w:=by
 have e:a=0\/a=1\/a=2\/a=3\/a=4\/a=5\/a=6\/a=7:=O;clear b;rcases e with rfl|rfl|rfl|rfl|rfl|rfl|rfl|rfl
 all_goals
  go_enter func99,ntmps99;go_wp2;go_ret;exact⟨an (by first|decide +kernel|kernel_rfl),rfl⟩
theorem yk S(h:S<4294967296):xb (S/16777216) 0 8++(xb (S/65536) 0 8++(xb (S/256) 0 8++xb S 0 8))=xb (dm S) 0 32:=by
 have b:∀a,xb a 0 8=xb (a%256) 0 8:=λa=>by have:=pI a 8;rw[show(2:Nat)^8=256 from rfl] at this;exact this.symm
 rw[b (S/65536),b (S/256),b S,fR (S/256%256) 8 (S%256) 8 O,fR (S/65536%256) 8 _ (8+8) O,fR (S/16777216) 8 _ (8+(8+8)) O]
 congr 1
 unfold dm;omega
theorem G6 x v0 g l bs w(h:WC w x v0 bs)(C:LAt w .u8 g l)(I:isBytes l)(b3:l.length<=1048576)(b4:bs.length<=900000000):Calls prog 104 #[.pointer (some ⟨x,0,none⟩),g] w λi k=>i=.returned (.tuple #[])/\WO x w v0 (bs++xb (dm (kr 1 (nl l))) 0 32) k:=by
 obtain⟨b5,b6,rfl⟩:=C.form;obtain⟨e,y⟩:∃e,e=kr 1 (nl l):=⟨_,rfl⟩;have M:e<4294967296:=by rw[y];exact xX _
 rw[<-y,<-yk e M];have N:Z _:=y;clear y;obtain⟨o,u⟩:∃o,o=bs++xb (e/16777216) 0 8:=⟨_,rfl⟩;obtain⟨p,z⟩:∃p,p=o++xb (e/65536) 0 8:=⟨_,rfl⟩;obtain⟨q,A⟩:∃q,q=p++xb (e/256) 0 8:=⟨_,rfl⟩;obtain⟨r,D⟩:∃r,r=q++xb e 0 8:=⟨_,rfl⟩;have P:Z (bs++(xb (e/16777216) 0 8++(xb (e/65536) 0 8++(xb (e/256) 0 8++xb e 0 8)))=r):=by
  show _=_
  rw[D,A,z,u];simp only[XY]
 have Q:o.length=bs.length+8:=by rw[u,Xv,aU]
 have S:p.length=bs.length+16:=by rw[z,Xv,aU];omega
 have T:q.length=bs.length+24:=by rw[A,Xv,aU];omega
 have V:Z (∀a,WO x w v0 bs a->Calls prog 137 #[.pointer (some ⟨x,0,none⟩),.int .u32 ((e/16777216:Nat):Int),.int .u64 8] a λi k=>i=.returned (.tuple #[])/\WO x w v0 o k):=λa b=>by rw[u];exact WO.number (s:=8) b O O O
 have W:Z (∀a,WO x w v0 o a->Calls prog 137 #[.pointer (some ⟨x,0,none⟩),.int .u32 ((e/65536:Nat):Int),.int .u64 8] a λi k=>i=.returned (.tuple #[])/\WO x w v0 p k):=λa b=>by rw[z];exact WO.number (s:=8) b O O O
 have X:Z (∀a,WO x w v0 p a->Calls prog 137 #[.pointer (some ⟨x,0,none⟩),.int .u32 ((e/256:Nat):Int),.int .u64 8] a λi k=>i=.returned (.tuple #[])/\WO x w v0 q k):=λa b=>by rw[A];exact WO.number (s:=8) b O O O
 have Y:Z (∀a,WO x w v0 q a->Calls prog 137 #[.pointer (some ⟨x,0,none⟩),.int .u32 e,.int .u64 8] a λi k=>i=.returned (.tuple #[])/\WO x w v0 r k):=λa b=>by rw[D];exact WO.number (s:=8) b O O O
 clear u z A D Q S T;have a0:Z _:=C;have a1:=U I;have J:Z _:=h;clear h C I;go_enter func104,ntmps104;go_wp2;go_loopw [4,5] (λa2 g a=>∃j c:Nat,j<=l.length/\g=.int .i64 j/\a2=.int .u32 c/\c=kr 1 (nl (l.take j))/\c<4294967296/\Kept w a) (λ_ g _=>l.length-(intOf g).toNat)
 case atStart=>exact⟨0,1,O,rfl,rfl,rfl,O,Kept.refl _⟩
 case round=>
  obtain⟨j,c,b7,rfl,rfl,K,a3,n⟩:=hrel;have E:Z _:=K;clear K;by_cases F:j<l.length
  .obtain⟨b8,b9,rfl,a4⟩:=(a0.o.kept n).cellAt j F
   have G:=a1.o _ (az F);have a5:=G.1;have u:=G.2;clear G;obtain⟨v,H⟩:∃c:Nat,l.getD j 0=(c:Int):=⟨(l.getD j 0).toNat,O⟩;rw[H] at a4 a5 u;have a6:Z (adl c v=kr 1 (nl (l.take (j+1)))):=by
    show _=_
    have B:=fy l (X3 j) F;rw[List.drop_zero,List.drop_zero,H] at B;rw[B,bR,tQ,<-E.o];rfl
   clear H;have c0:(j:Int)<(l.length:Int):=O;have c1:(0:Int)<=(j:Int):=O;have a7:Z (∀a,Calls prog 142 #[.int .u32 c,.int .u8 v] a λB k=>B=.returned (.int .u32 (adl c v))/\k=a):=λa=>xW c v a a3 O
   have a8:Z (adl c v<4294967296):=vO _ _;generalize adl c v=a9 at *;replace n:Z (Kept w wr):=n;go_wp2_with fail;refine(a7.o _).mono ?_;rintro i c2 ⟨rfl,rfl⟩;go_wp2;exact⟨⟨j+1,a9,O,Xj,rfl,a6.o,a8.o,n.o⟩,Xb⟩
  .replace n:Z (Kept w wr):=n
   have b0:j=l.length:=O;subst b0;have b1:c=e:=by rw[E.o,N.o,List.take_length]
   subst b1;have b2:Z (WO x w v0 bs wr):=⟨v0,J.o.kept n.o,(WrB.refl _ _ _).kept n.o J.o.lt⟩;clear n E;go_wp2;go_loopw [6] (λg a=>(g=.int .i64 32/\WO x w v0 bs a)\/(g=.int .i64 24/\WO x w v0 o a)\/(g=.int .i64 16/\WO x w v0 p a)\/(g=.int .i64 8/\WO x w v0 q a)\/(g=.int .i64 0/\WO x w v0 r a)) (λg _=>(intOf g).toNat)
   case atStart=>exact L ⟨rfl,b2.o⟩
   case round=>
    rcases hrel with⟨rfl,b⟩|⟨rfl,b⟩|⟨rfl,b⟩|⟨rfl,b⟩|⟨rfl,b⟩
    .have m:(c:Int)/16777216=((c/16777216:Nat):Int):=O
     have d:=V.o wr b;try rw[<-m] at d
     replace d:Z _:=d;clear m;go_wp2_with fail;refine X9 d.o ?_;rintro i t ⟨rfl,f⟩;replace f:Z (WO x w v0 o t):=f;go_wp2;exact⟨R (L ⟨by first|rfl|go_num,f.o⟩),by simp[intOf]⟩
    .have m:(c:Int)/65536=((c/65536:Nat):Int):=O
     have d:=W.o wr b;try rw[<-m] at d
     replace d:Z _:=d;clear m;go_wp2_with fail;refine X9 d.o ?_;rintro i t ⟨rfl,f⟩;replace f:Z (WO x w v0 p t):=f;go_wp2;exact⟨R (R (L ⟨by first|rfl|go_num,f.o⟩)),by simp[intOf]⟩
    .have m:(c:Int)/256=((c/256:Nat):Int):=O
     have d:=X.o wr b;try rw[<-m] at d
     replace d:Z _:=d;clear m;go_wp2_with fail;refine X9 d.o ?_;rintro i t ⟨rfl,f⟩;replace f:Z (WO x w v0 q t):=f;go_wp2;exact⟨R (R (R (L ⟨by first|rfl|go_num,f.o⟩))),by simp[intOf]⟩
    .have m:=trivial
     have d:=Y.o wr b
     skip
     replace d:Z _:=d;clear m;go_wp2_with fail;refine X9 d.o ?_;rintro i t ⟨rfl,f⟩;replace f:Z (WO x w v0 r t):=f;go_wp2;exact⟨R (R (R (R ⟨by first|rfl|go_num,f.o⟩))),by simp[intOf]⟩
    .replace b:Z (WO x w v0 r wr):=b
     go_wp2;go_end0
     exact⟨rfl,by rw[P.o];exact b.o⟩
theorem mA:(zeroCells159).size=1155:=Xk
theorem vX:(zeroCells159)[0]? = some (.slice none 0 0):=Xk
theorem vW:(zeroCells159)[1]? = some (.int .u32 0):=Xk
theorem vV:(zeroCells159)[2]? = some (.int .u64 0):=Xk
theorem yM ct(h:rJ ct aq 288 fe 32):∃c:Array Value,List.foldl (λ(j:Array Value) (x:Value×Nat)=>j.setIfInBounds (3+x.snd) x.fst) zeroCells159 ct.zipIdx=c/\c.size=1155/\c.toList[0]? = some (.slice none 0 0)/\c.toList[1]? = some (.int .u32 0)/\c.toList[2]? = some (.int .u64 0)/\(∀i,i<ct.length->c.toList[3+i]? = ct[i]?)/\(∀e∈c.toList,e.oneCell'=true):=by
 have r:=h.len;have f:=lay_size 3 ct 0 zeroCells159;have g:=λa (h:a<3)=>qK 3 ct 0 zeroCells159 a (L O)
 have k:=λa (h:a<ct.length)=>AV 3 ct 0 zeroCells159 a h (by rw[mA];omega)
 rw[mA] at f;obtain⟨c,d⟩:∃c,c=List.foldl (λ(j:Array Value) (x:Value×Nat)=>j.setIfInBounds (3+x.snd) x.fst) zeroCells159 ct.zipIdx:=⟨_,rfl⟩;rw[<-d] at f;refine⟨c,d.symm,f,?_,?_,?_,?_,?_⟩
 .rw[Array.getElem?_toList,d,g 0 O,vX]
 .rw[Array.getElem?_toList,d,g 1 O,vW]
 .rw[Array.getElem?_toList,d,g 2 O,vV]
 .intro i n
  rw[Array.getElem?_toList,d];exact k i n
 .intro e o
  obtain⟨a,l,p⟩:=List.getElem_of_mem o;have b:c.toList[a]? = some e:=by rw[Xt l,p]
  rw[Array.getElem?_toList] at b;have s:a<1155:=by simpa[f] using l
  by_cases q:a<3
  .rw[d,g a q] at b
   have:a=0\/a=1\/a=2:=O
   rcases this with rfl|rfl|rfl
   .rw[vX] at b;injection b with b;rw[<-b];rfl
   .rw[vW] at b;injection b with b;rw[<-b];rfl
   .rw[vV] at b;injection b with b;rw[<-b];rfl
  .have m:=k (a-3) O
   rw[show 3+0+(a-3)=a from O,<-d,b] at m;exact h.one e (X8 m.symm)
theorem bg.re{w N v l}(h:bg w 0 v l)(d:∀a,v.ownBlock=some a->N<=a):bg w N v l:=by
 refine⟨h.1,h.2.1,?_⟩;rcases h.2.2 with e|⟨b,f,g,c,j,i⟩
 .exact L e
 .exact R ⟨b,f,g,c,d b (by rw[c];rfl),i⟩
def BkU(wd:Nat)(B:List Nat)(l:List Int)(f:Nat):Prop:=(f<l.length/\BkN wd B (nl (l.take f)))\/(f=l.length/\EE wd B (nl l))
theorem BkU.step{wd f te j B bb l}(h:BkU wd B l f)(k:f<te)(m:te<=l.length)(g:j%8=B.length%8)(a:vT wd (nl ((l.take te).take f)) (decide (te=l.length)) (j%8) bb (nl ((l.take te).drop f))):BkU wd (B++bb) l te:=by
 rcases h with⟨i,c⟩|⟨i,_⟩
 .rw[List.take_take,Nat.min_eq_left O,g] at a
  have d:nl (l.take f)++nl ((l.take te).drop f)=nl (l.take te):=by
   rw[<-bR];have e:=X7 f (l.take te);rw[List.take_take,Nat.min_eq_left O] at e;rw[e]
  by_cases b:te=l.length
  .rw[K b] at a
   have:=c.last a
   rw[d,b,List.take_length] at this;exact R ⟨b,this⟩
  .rw[J b] at a
   have:=c.more a
   rw[d] at this;exact L ⟨O,this⟩
 .omega
def SmX(w:World)(l:List Int)(r:Ending)(w':World):Prop:=∃ov L,r=.returned ov/\bg w' w.heap.size ov L/\6<=L.length/\L.length<=1250000/\tS (bW (nl L)) (nl l)/\Kept w w'
theorem BC.whole{W x v bs}(h:BC W x v bs)(i:bs.length%8=0):∃L,bg W 0 v L/\W.cell? ⟨x,0,none⟩=some v/\bs=bW (nl L)/\bs.length=8*L.length:=by
 obtain⟨a,e,b,c,j,k,d⟩:=h;have f:=kU a e b;rw[<-d] at f;have g:b=0:=O;subst g;refine⟨a,c.own,c.o,?_,O⟩;rw[d];unfold oa;exact XN _
theorem zQ g o c kv fv cv l kl lace srch(P s:Nat)w(g7:LAt w .u8 (.slice (some ⟨g,o,none⟩) l.length c) l)(g8:isBytes l)(q8:l.length<=c)(g9:LAt w .i64 kv kl)(h0:ep w)(q9:l.length<=2100)(h1:0<l.length)(e2:0<kl.length)(r0:kl.length<=64)(h2:∀h∈kl,0<=h/\h<=2)(r1:1<=P)(r2:P<=1048576)(e3:s<=7):Calls prog 69 #[.slice (some ⟨g,o,none⟩) l.length c,.agg #[.int .i64 lace,fv,kv,.int .i64 P,cv,.int .i64 s,.int .i64 srch]] w λk v=>SmX w l k v:=by
 obtain⟨T,a9⟩:∃T,T=w.alloc (Obj.cells #[Value.int .i64 lace,fv,kv,.int .i64 P,cv,.int .i64 s,.int .i64 srch] 35):=⟨_,rfl⟩;have h3:Z (∀a n,#[Value.int .i64 lace,fv,kv,.int .i64 P,cv,.int .i64 s,.int .i64 srch][a]? = some n->T.cell? ⟨w.heap.size,a,none⟩=some n):=by
  intro a n z;rw[a9,Xr _ _ _ _ rfl];exact z
 have h4:Z (Kept w T):=by rw[a9];exact(Xs _ _).alloc (E _) _
 have c2:Z (w.heap.size<T.heap.size):=by rw[a9];show _<_;simp
 have e4:Z _:=g7;have e5:Z _:=g9;have m8:Z _:=h2;have h5:=U g8;have a0:Z _:=h0;clear g7 g9 h2 g8 h0;go_enter func69,ntmps69;go_upto_region 1 with fail
 rw[<-a9];clear a9;go_wp2_with fail;refine(vs T).mono ?_;rintro k x ⟨⟨b0,rfl,c3⟩,e6⟩;obtain⟨y,m9,h6,h7,h8,h9,i0,i1⟩:=yM b0 c3;obtain⟨D,V⟩:∃D,D=x.alloc (Obj.cells zeroCells159 159):=⟨_,rfl⟩;have e7:D.there x.heap.size 0 y.toList.length:=by rw[V,Array.length_toList,h6];exact ec _ _ _ _ mA
 have i2:(storeCells ⟨x.heap.size,0,none⟩ y.toList).run prog D=.ok () (D.setCells x.heap.size 0 y.toList):=bl e7 i1;have b1:=U (XO _ _ _ _ e7);have i3:Z (∀a,(D.setCells x.heap.size 0 y.toList).frozen? ⟨x.heap.size,a,none⟩=false):=λa=>by rw[World.frozen?_setCells,V];exact XB _ _ _ _ rfl
 have i4:Z ((D.setCells x.heap.size 0 y.toList).heap.size=x.heap.size+1):=by
  show _=_
  rw[setCells_size,V];simp
 have b2:Z (y.toList[0]? = some (.slice none 0 0)/\y.toList[1]? = some (.int .u32 0)/\y.toList[2]? = some (.int .u64 0)/\(∀c4,c4<b0.length->y.toList[3+c4]? = b0[c4]?)):=⟨h7,h8,h9,i0⟩;have c5:Z (Kept T (D.setCells x.heap.size 0 y.toList)):=e6.trans (Kept.setCells (E _) _ _ (by rw[V];exact(Xs _ _).alloc (E _) _));have i5:=U c3;have r3:=Xq c2.o e6.size;have n0:=c3.len;rw[V] at i2;clear h7 h8 h9 i0 i1 e7 e6 c3;go_upto_region 2 with fail
 rw[<-V];clear i2 m9 h6 V;generalize D.setCells x.heap.size 0 y.toList=G at *;generalize n1:x.heap.size=h at *;clear n1;have i6:h<G.heap.size:=by have:=i4.o;omega
 have a1:Z (Kept w G):=h4.o.trans c5.o;have b3:∀u,u<w.heap.size->Off h (.slice none 0 0) u:=λu a2=>⟨O,λm=>by cases m⟩
 have i7:Z (WC G h (.slice none 0 0) []):=by
  refine⟨⟨[],0,0,⟨i6,i3.o,b1.o 0 _ b2.o.1,bg.nil _ _,λm=>(by cases m),b1.o 1 _ b2.o.2.1,b1.o 2 _ b2.o.2.2.1⟩,O,O,rfl⟩,(a0.o.kept a1.o),⟨b3 _ ?_,b3 _ ?_,b3 _ ?_,b3 _ ?_⟩⟩
  .exact World.block_lt_of_cell? _ _ (a0.o.len 0 O)
  .exact World.block_lt_of_cell? _ _ (a0.o.lbt 0 O)
  .exact World.block_lt_of_cell? _ _ (a0.o.dis 0 O)
  .exact World.block_lt_of_cell? _ _ (a0.o.ord 0 O)
 have i8:Z (BkF G h):=⟨b0,i5.o,λi9 n z=>by
  have:=b1.o (3+i9) n (by rw[b2.o.2.2.2 i9 ((Yb.1 z).1)];exact z)
  rw[XD] at this;exact this⟩
 have n2:=e4.o.lt h1 g rfl;have e8:Z (∀a n,#[Value.int .i64 lace,fv,kv,.int .i64 P,cv,.int .i64 s,.int .i64 srch][a]? = some n->G.cell? ⟨w.heap.size,a,none⟩=some n):=λa n z=>(c5.o.cell (p:=⟨w.heap.size,a,none⟩) c2.o).trans (h3.o a n z)
 have c6:Z _:=Xq c2.o c5.o.size;have e9:Z (Off h (.slice none 0 0) w.heap.size):=⟨O,λm=>by cases m⟩;have n3:=e8.o 5 _ rfl;clear b3 b1 i3 i4 b2 i5 c5 h4 c2 h3 n0;generalize b0.toArray=r4 at *;clear i6;go_wp2_with fail;refine(DL h s _ [] G i7.o e3 Xi).mono ?_;rintro k I ⟨rfl,j0,c7,a3⟩;rw[Ze] at c7;obtain⟨q,c8⟩:∃q,q=xb (vj s) 0 16:=⟨_,rfl⟩;have n4:Z _:=c8;have n5:q.length=16:=by rw[c8,aU]
 rw[<-c8] at c7;clear c8;have c9:Z _:=c7;have j1:Z _:=a3;have j2:=U (i8.o.next a3);have n6:=U (e9.o.next a3 c6.o);have d0:Z (∀a n,#[Value.int .i64 lace,fv,kv,.int .i64 P,cv,.int .i64 s,.int .i64 srch][a]? = some n->I.cell? ⟨w.heap.size,a,none⟩=some n):=λa n z=>(a3.cellK e9.o c6.o).trans (e8.o a n z)
 have f0:Z _:=Xq c6.o a3.fr.size;have j3:=d0.o 5 _ rfl;have j4:=d0.o 6 _ rfl;obtain⟨t,f1⟩:∃t,t=256*2^s:=⟨_,rfl⟩;have n7:Z _:=f1;have n8:t<=32768:=by
  have:(2:Nat)^s<=2^7:=XH O e3
  omega
 have j5:Z (∀b,Calls prog 99 #[.int .i64 s] b λk v=>k=.returned (.int .i64 t)/\v=b):=λb=>by rw[f1];exact yb s b e3
 clear c7 a3 n3 f1;go_wp2_with fail;go_region_held3 (λb=>b.cell? ⟨w.heap.size,5,none⟩=some (.int .i64 s)/\b.cell? ⟨w.heap.size,6,none⟩=some (.int .i64 srch)) (first|exact⟨j3,j4⟩|go_keep) ((go_at_call 99;refine(j5.o _).mono ?_;rintro k M ⟨rfl,rfl⟩))
 all_goals
  clear j3 j4 j5;obtain⟨M,d1⟩:∃M,M=(I.alloc (Obj.cells #[Value.int .i64 t,Value.int .i64 srch] 161)).drew:=⟨_,rfl⟩;have a4:Z (Kept I M):=by rw[d1];exact Kept.drewN ((Xs _ _).alloc (E _) _) 1
  have b4:Z (M.cell? ⟨I.heap.size,0,none⟩=some (.int .i64 t)/\M.cell? ⟨I.heap.size,1,none⟩=some (.int .i64 srch)/\I.heap.size<M.heap.size):=by rw[d1];exact⟨(Xr _ _ _ _ rfl).trans rfl,(Xr _ _ _ _ rfl).trans rfl,by show I.heap.size<(I.alloc _).heap.size;simp⟩
  rw[<-d1];clear d1;have f2:=U (c9.o.new (E _));have j6:Z _:=c9.o.kept a4.o;have j7:Z _:=j1.o.kept a4.o c9.o.lt;have j8:=U (j2.o.kept a4.o);have j9:Z (∀a n,#[Value.int .i64 lace,fv,kv,.int .i64 P,cv,.int .i64 s,.int .i64 srch][a]? = some n->M.cell? ⟨w.heap.size,a,none⟩=some n):=λa n z=>(a4.o.cell (p:=⟨w.heap.size,a,none⟩) f0.o).trans (d0.o a n z)
  have n9:Z _:=Xq f0.o a4.o.size;clear i7 j1 i8 j2 c9 e8 d0 c6 f0 e9 a4;generalize I.heap.size=d2 at *;have r5:=j9.o 3 _ rfl;have f3:Z (∀u,ai (.slice (some ⟨g,o,none⟩) l.length c)=some u->Off h (.slice none 0 0) u):=λu a2=>by
   have m:g=u:=by injection a2
   exact⟨O,λm=>by cases m⟩
  have f4:Z (∀b r,WrB h G (.slice none 0 0) b r->LAt b .u8 (.slice (some ⟨g,o,none⟩) l.length c) l/\Off h r g):=λb r k=>⟨(e4.o.kept a1.o).off k f3.o,(f3.o g rfl).next k (Xq n2 a1.o.size)⟩
  have o0:Z (∀b r,WrB h G (.slice none 0 0) b r->LAt b .i64 kv kl):=λb r k=>(e5.o.kept a1.o).fr k.fr (λu a2=>by
   have:=(e5.o.lt e2) u a2
   intro m;rcases m with m|m
   .omega
   .cases m)
  have o1:Z (∀(b:World) (a:Nat),a<=65536->LAt b .i64 kv kl->Calls prog 100 #[kv,.int .i64 a] b λk v=>k=.returned (.int .i64 (kl.getD (a%kl.length) 0))/\Kept b v):=λb a r6 N=>ky kv kl a b N e2 O O
  have o2:Z (∀(b:World) (r:Value) (W:List Nat) (A f e:Nat),f<e->e<=l.length->W.length<=100000000->A<=2->WC b h r (W++xb (cA (decide (e=l.length))) 0 1)->BkF b h->WrB h G (.slice none 0 0) b r->Calls prog 102 #[.pointer (some ⟨h,0,none⟩),.int .i64 A,.slice (some ⟨g,o,none⟩) e c,.int .i64 f,.agg #[.int .i64 t,.int .i64 srch]] b λk v=>k=.returned (.tuple #[])/\BlO h b r W t (decide (e=l.length)) (l.take e) f v):=λb r W A f e o3 r7 r8 o4 d3 a2 k0=>by
   have k1:((l.drop 0).take e).length=e:=Xf
   have:=BX h f A t srch (decide (e=l.length)) _ r _ W b d3 a2 ((f4.o b r k0).1.part 0 e c O) (h5.o.part 0 e) (λu m=>by
    have k2:g=u:=by injection m
    rw[<-k2];exact(f4.o b r k0).2) (by rw[k1];omega) (by rw[k1];exact o3) O o4 n8
   exact this
  clear e4 e5 f3 a0;go_wp2_with fail;go_loopw [8,9,10,11] (λa5 d4 _ _ b=>∃(f a:Nat) (i:List Nat) (r:Value),f<=l.length/\a5=.int .i64 f/\d4=.int .i64 a/\a<=f/\(a=0->f=0)/\i.length<=4700*a+50*f/\BkU t i l f/\WC b h r (q++i)/\BkF b h/\WrB h M j0 b r) (λa5 _ _ _ _=>l.length-(intOf a5).toNat)
  case atStart=>exact⟨0,0,[],j0,O,rfl,rfl,O,λ_=>rfl,Xi,L ⟨h1,by rw[List.take_zero];exact BkN.nil t⟩,by rw[XN];exact j6.o,j8.o,WrB.refl _ _ _⟩
  case round=>
   obtain⟨f,a,i,d5,r9,rfl,rfl,s0,o5,s1,k3,k4,k5,X⟩:=hrel;have k6:=U k3;have b5:Z _:=k4;have f5:=U k5;have d6:Z _:=j7.o.trans X;clear j6 j8 k3 k4 k5;by_cases s2:f<l.length
   .obtain⟨e,k7⟩:∃e,e=f+min P (l.length-f):=⟨_,rfl⟩
    have o6:Z _:=k7;have f6:e<=l.length:=O;have k8:f<e:=O;have o7:wr.cell? ⟨w.heap.size,2,none⟩=some kv:=(X.cellK n6.o n9.o).trans (j9.o 2 _ rfl);have f7:=(X.cellK f2.o b4.o.2.2).trans b4.o.1;have d7:=U (f2.o.next X b4.o.2.2);have d8:Z _:=World.block_lt_of_cell? _ _ f7;have b6:=o1.o wr a O (o0.o wr d5 d6.o);obtain⟨A,f8⟩:∃A:Nat,kl.getD (a%kl.length) 0=(A:Int)/\A<=2:=by
     have:=m8.o _ (az (YD a e2))
     exact⟨(kl.getD (a%kl.length) 0).toNat,O,O⟩
    rw[f8.1] at b6;have o8:=f8.2;clear f8 k7;replace b6:Z (Calls prog 100 #[kv,.int .i64 a] wr λk v=>k=.returned (.int .i64 A)/\Kept wr v):=b6;have o9:(f:Int)<(l.length:Int):=O;have s3:(e:Int)<=(c:Int):=O;have s4:(0:Int)<=(e:Int):=O;have p0:((a:Int)==0)=true\/((a:Int)==0)=false:=by cases((a:Int)==0)<;>simp
    rcases p0 with k9|k9
    all_goals
      have s5:e-f+f=e:=O;have f9:=λb r W=>o2.o b r W A f e k8 f6
      replace f9:Z _:=f9;go_upto_region 10 with fail
      rw[show(if(l.length:Int)-(f:Int)<(P:Int) then(l.length:Int)-(f:Int) else(P:Int))=((e-f:Nat):Int) by have:=o6.o;split<;>omega,show(f:Int)+((e-f:Nat):Int)=(e:Int) from O];generalize e-f=s6 at *;go_wp2_with fail;refine b6.o.mono ?_;rintro k d9 ⟨rfl,Y⟩;have b7:Z _:=b5.o.kept Y;have a6:Z _:=X.kept Y b5.o.lt;have l0:=U (f5.o.kept Y);have l1:=(Y.cell (p:=⟨d2,0,none⟩) d8.o).trans f7;have l2:=(Y.cell (p:=⟨d2,1,none⟩) d8.o).trans ((X.cellK f2.o b4.o.2.2).trans b4.o.2.1);have b8:Z _:=Xq d8.o Y.size;clear Y f7 o7 b6 b5 f5 d6;go_wp2_with fail;have p1:(q++i).length<=20000000:=by rw[Xv];omega
      refine(Dr h _ d5 (q++i) d9 b7.o O).mono ?_;rintro k l3 ⟨rfl,d4,R,C⟩;have l4:((e:Int)==(l.length:Int))=decide (e=l.length):=by
       by_cases S:e=l.length
       .rw[K S,S];simp
       .rw[J S,F];omega
      first|rw[l4] at R|skip
      clear l4;have b9:Z _:=R;have a7:Z _:=a6.o.trans C;have g0:=U (l0.o.next C);have c0:=U (d7.o.next C b8.o);have g1:=(C.cellK d7.o b8.o).trans l1;have g2:=(C.cellK d7.o b8.o).trans l2;have g3:Z _:=Xq b8.o C.fr.size;clear R C l1 l2 b7 a6 l0 b8 d7 d8;go_wp2_with fail;go_region_held3 (λb=>b.cell? ⟨d2,0,none⟩=some (.int .i64 t)/\b.cell? ⟨d2,1,none⟩=some (.int .i64 srch)) (first|exact⟨g1,g2⟩|exact⟨l5,l6⟩|go_keep) ((go_at_call 102;refine(f9.o l3.drew d4 (q++i) O o8 (b9.o.kept ((Kept.refl _).drewN 1)) (g0.o.kept ((Kept.refl _).drewN 1)) ((j7.o.trans a7.o).kept ((Kept.refl _).drewN 1) b9.o.lt)).mono ?_;rintro k p2 ⟨rfl,g4,l7,l8,l9,m0,m1⟩;have c1:=m1.pre ((Kept.refl _).drewN 1) b9.o.lt;have l5:=(c1.cellK c0.o g3.o).trans g1;have l6:=(c1.cellK c0.o g3.o).trans g2))
      all_goals
       have p3:Z (WC p2 h l9 (q++(i++g4))):=by rw[<-XY];exact m0
       have p4:=U (g0.o.next c1);have p5:Z _:=a7.o.trans c1;have p6:=U (k6.o.step (j:=(q++i).length) k8 f6 (by rw[Xv];omega) l8);have p7:(i++g4).length<=4700*(a+1)+50*e:=by
        have m:(l.take e).length=e:=Xo;rw[m] at l7;rw[Xv];omega
       clear m0 m1 c1 g1 g2 l5 l6 l8 b9 a7 g0 c0 g3 l7;go_wp2;exact⟨⟨e,a+1,i++g4,l9,f6,rfl,by first|rfl|go_num,O,O,p7,p6.o,p3.o,p4.o,p5.o⟩,Xb⟩
   .have s7:f=l.length:=O
    have s8:0<a:=by
     rcases Nat.eq_zero_or_pos a with N|N
     .have:=o5 N;omega
     .exact N
    have k9:((a:Int)==0)=false:=Xa;have o9:¬(f:Int)<(l.length:Int):=O;have p1:(q++i).length<=9975100:=by rw[Xv];omega
    have p8:Z (EE t i (nl l)):=by
     rcases k6.o with⟨S,_⟩|⟨_,S⟩
     .omega
     .exact S
    obtain⟨Q,e0⟩:∃Q,Q=List.replicate ((8-(q++i).length%8)%8) 0:=⟨_,rfl⟩;have p9:Z _:=e0;have s9:(q++i++Q).length%8=0/\Q.length<=7:=by
     rw[e0];simp only[Xv,XE];omega
    have m2:Z (Calls prog 103 #[.pointer (some ⟨h,0,none⟩)] wr λk v=>k=.returned (.tuple #[])/\WO h wr d5 (q++i++Q) v):=by rw[e0];exact Bj h d5 (q++i) wr b5.o O
    clear X e0;go_wp2_with fail;refine m2.o.mono ?_;rintro k d9 ⟨rfl,a5,m3,m4⟩;have b7:Z _:=m3;have a6:Z _:=d6.o.trans m4;clear m3 m4 m2 b5 f5 d6;go_wp2_with fail;refine(G6 h a5 _ l _ d9 b7.o (f4.o d9 a5 a6.o).1 h5.o O (by rw[Xv];omega)).mono ?_;rintro k l3 ⟨rfl,d4,R,C⟩;obtain⟨a8,e1⟩:∃a8,a8=q++i++Q++xb (dm (kr 1 (nl l))) 0 32:=⟨_,rfl⟩;have q0:Z _:=e1;have q1:a8.length%8=0/\a8.length<=9975200/\48<=a8.length:=by
     have t0:a8.length=(q++i++Q).length+32:=by rw[e1,Xv,aU]
     have k2:(q++i++Q).length=(q++i).length+Q.length:=Xv ..;have t1:(q++i).length=16+i.length:=by rw[Xv,n5]
     omega
    rw[<-e1] at R;clear e1;have b9:Z _:=R;have a7:Z _:=a6.o.trans C;obtain⟨m5,g5,q2,m6,t2⟩:=R.bit.whole q1.1;clear R C b7 a6;obtain⟨t3,t4,rfl⟩:=g5.slice;have c0:=U g5;have q3:Z _:=m6;obtain⟨m7,g6⟩:∃m7,m7=m5.length:=⟨_,rfl⟩;have q4:Z _:=g6;rw[<-g6] at q2;clear g5 m6 g6;go_wp2;go_ret;refine⟨_,m5,by rw[q4.o],?_,O,O,?_,?_⟩
    .refine c0.o.re (λS m => ?_)
     rcases a7.o.own S m with N|N
     .cases N
     .exact Xz a1.o.size N
    .obtain⟨q5,q6,q7⟩:=H4 s O
     have d3:=CE (H:=vj s) (B:=i) (d:=nl l) q5 q6 (by rw[q7,<-n7.o];exact p8.o);rw[<-n4.o] at d3;rw[<-q3.o,q0.o,p9.o,show(q++i).length%8=i.length%8 from by rw[Xv];omega];simp only[XY];exact d3
    .refine Fr.to_kept a1.o a7.o.fr (λc4 t5 m => ?_)
     rcases m with m|m
     .omega
     .cases m
