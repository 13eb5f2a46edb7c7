import Derived.Test.YtgooinallljbpaaGreatDoorSh00
import Derived.Test.YtgooinallljbpaaGreatDoorSh17
import Derived.Test.YtgooinallljbpaaGreatDoorSh20
import Derived.Test.YtgooinallljbpaaGreatDoorSh22
import Derived.Test.YtgooinallljbpaaGreatDoorSh28
import Derived.Test.YtgooinallljbpaaGreatDoorSh23
set_option linter.all false
set_option maxRecDepth 100000
set_option maxHeartbeats 0
namespace Go.Proofs.YtgooinallljbpaaGreatDoor
open Go.RowKit Px Tryz
theorem IC{k d}(h:gi k d=true):k<=6/\d<=16/\okD d:=by
 unfold gi at h;unfold okD
 split at h
 .have:=Yr h;omega
 split at h
 .have:=Yr h;omega
 split at h
 .have:=Yr h;omega
 .cases h
theorem Cj{d}(h:(aE d).1=0):(aE d).2.W<=16/\(aE d).2.H<=16/\(aE d).2.D<=16/\(aE d).2.K<=6/\(aE d).2.L<=1/\okD (aE d).2.D:=by
 unfold aE at h ⊢;simp only[] at h ⊢
 split at h
 .exact absurd h (by show ¬7=0;omega)
 rename_i a
 rw[N a]
 split at h
 .exact absurd h (by show ¬7=0;omega)
 rename_i b
 rw[N b]
 split at h
 .exact absurd h (by show ¬8=0;omega)
 rename_i c
 rw[N c];have e:gi (d 9) (d 8)=true:=by
  cases f:gi (d 9) (d 8) with
  | true=>rfl
  | false=>exact absurd (R (R (R (R f)))) a
 obtain⟨g,i,j⟩:=IC e;refine⟨?_,?_,i,g,?_,j⟩
 .show((d 0*256+d 1)*256+d 2)*256+d 3<=16
  omega
 .show((d 4*256+d 5)*256+d 6)*256+d 7<=16
  omega
 .show d 12<=1
  omega
structure RdB (s:Rd):Prop where
 hd:Gs s
 dd:s.hd.W≠0->okD s.hd.D
 colours:s.tl.colours<=256
 raw:∀i,s.raw i<256
 clear:∀j,s.tl.clear j<256
 str:s.sd=true->StB s.st/\RwJ s.rw
structure RdP (s:Rd):Prop where
 part:s.part<=5
 tk0:s.part=0->s.taken<8
 tkn:s.part=1\/s.part=2\/s.part=4->s.taken<4/\s.number<256^s.taken
 tk3:s.part=3->s.taken<s.length
 tk5:s.part=5->s.taken=0
 sum:s.sum<4294967296
 len:s.length<2147483648
 i3:s.part=3->s.ctype=aQ->s.length=13
 p3:s.part=3->s.ctype=bE->s.length<=768
 t3:s.part=3->s.ctype=bB->s.length<=256
 d3:s.part=3->s.ctype=aG->s.sd=true
structure RdJ (s:Rd):Prop where
 b:RdB s
 p:RdP s
theorem RdB.same{s t}(h:RdB s)(a:t.hd=s.hd)(b:t.tl=s.tl)(c:t.raw=s.raw)(d:t.sd=s.sd)(e:t.st=s.st)(f:t.rw=s.rw):RdB t:=by
 obtain⟨⟨g,i,j,k,l⟩,m,n,o,p,q⟩:=h;exact⟨⟨by rw[a];exact g,by rw[a];exact i,by rw[a];exact j,by rw[a];exact k,by rw[a];exact l⟩,by rw[a];exact m,by rw[b];exact n,by rw[c];exact o,by rw[b];exact p,by rw[d,e,f];exact q⟩
theorem Hu{n k}(h:n<256^k)(a:k<=3):n<16777216:=Xq h (XH (n:=256) O a)
theorem RdJ.takeOk{s x}(h:RdJ s)(k:x<256):y6 s x:=by
 have f:=h.p.part;have g:=h.p.len;refine⟨f,λa => ?_,λa => ?_,h.p.sum,λa => ?_,h.b.hd,λa => ?_,λa => ?_,h.b.raw,h.b.clear⟩
 .have:s.part=0\/(s.part=1\/s.part=2\/s.part=4)\/s.part=5:=O
  rcases this with b|b|b
  .have:=h.p.tk0 b;omega
  .have:=(h.p.tkn b).1;omega
  .have:=h.p.tk5 b;omega
 .obtain⟨e,d⟩:=h.p.tkn a
  exact Hu d O
 .obtain⟨e,d⟩:=h.p.tkn (R (L a))
  have l:=Hu d O;exact⟨h.b.colours,h.b.hd.K,h.b.hd.D,g,by show s.number*256+x<4294967296;omega⟩
 .have i:=h.p.tk3 a
  refine⟨λc => ?_,λc => ?_,λc => ?_,λc j => ?_⟩
  .have:=h.p.i3 a c;show s.taken<13;omega
  .have:=h.p.p3 a c;show s.taken<768;omega
  .have:=h.p.t3 a c;show s.taken<256;omega
  .obtain⟨e,d⟩:=h.b.str (h.p.d3 a c)
   exact(Dm (x:=x) e d).1 j
 .have i:=h.p.tk3 a
  have b:((s.summed x).keep x).1.taken=s.taken:=by
   unfold Rd.keep;split
   .rfl
   split
   .rfl
   split
   .rfl
   split
   .unfold Rd.takeStream
    split
    .rfl
    split
    .rfl
    .rfl
   .rfl
  rw[b];omega
theorem uQ{s:Rd}(h:s.checkType=0):(s.ctype=aQ->s.length=13)/\(s.ctype=bE->s.length<=768)/\(s.ctype=bB->s.tl.colours<=256->s.length<=256)/\(s.ctype≠aQ->s.hd.W≠0):=by
 unfold Rd.checkType at h
 split at h
 .exact absurd h O
 split at h
 .rename_i c
  unfold Rd.checkFirst at h
  split at h
  .exact absurd h O
  rename_i d
  split at h
  .exact absurd h O
  rename_i e
  have b:=Yc e;exact⟨λ_=>b,λa=>by rw[b];omega,λ_ _=>by rw[b];omega,λf=>absurd (Yc d) f⟩
 rename_i c
 split at h
 .exact absurd h O
 unfold Rd.checkKind at h
 split at h
 .exact absurd h O
 rename_i g
 refine⟨λa=>absurd a g,λa => ?_,λa i => ?_,λ_=>c⟩
 .rw[I a] at h
  unfold Rd.checkPalette at h
  split at h
  .exact absurd h O
  split at h
  .exact absurd h O
  split at h
  .exact absurd h O
  omega
 .rw[N (by rw[a];decide),I a] at h
  unfold Rd.checkClear at h;have j:=ev s.hd.K
  split at h
  .exact absurd h O
  split at h
  .split at h
   .exact absurd h O
   .omega
  split at h
  .unfold Rd.checkAlphas at h
   split at h
   .exact absurd h O
   split at h
   .exact absurd h O
   omega
  .exact absurd h O
theorem MW(s:Rd):s.note.ctype=s.ctype/\s.note.length=s.length/\s.note.sum=s.sum/\(s.ctype=aG->s.note.sd=true):=by
 have c:s.note1.ctype=s.ctype/\s.note1.length=s.length/\s.note1.sum=s.sum/\(s.ctype=aG->s.note1.sd=true):=by
  unfold Rd.note1;split
  .rename_i a;exact⟨rfl,rfl,rfl,λb=>by rw[a] at b;exact absurd b Xh⟩
  split
  .rename_i a;exact⟨rfl,rfl,rfl,λb=>by rw[a] at b;exact absurd b Xh⟩
  split
  .unfold Rd.begin
   split
   .rename_i a;exact⟨rfl,rfl,rfl,λ_=>a⟩
   .exact⟨rfl,rfl,rfl,λ_=>rfl⟩
  .rename_i a;exact⟨rfl,rfl,rfl,λb=>absurd b a⟩
 unfold Rd.note Rd.note2;split
 .exact c
 .exact c
theorem RdB.note{s}(b:RdB s)(h:s.checkType=0):RdB s.note:=by
 obtain⟨f,d,g,e⟩:=uQ h;have c:RdB s.note1:=by
  unfold Rd.note1;split
  .rename_i a
   have:=d a
   exact⟨⟨b.hd.W,b.hd.H,b.hd.D,b.hd.K,b.hd.L⟩,b.dd,by show s.length/3<=256;omega,b.raw,b.clear,b.str⟩
  split
  .exact⟨⟨b.hd.W,b.hd.H,b.hd.D,b.hd.K,b.hd.L⟩,b.dd,b.colours,b.raw,b.clear,b.str⟩
  split
  .rename_i a
   unfold Rd.begin;split
   .exact b
   .exact⟨⟨b.hd.W,b.hd.H,b.hd.D,b.hd.K,b.hd.L⟩,b.dd,b.colours,b.raw,b.clear,λ_=>⟨StB.start,RwJ.start b.hd.W b.hd.H b.hd.D b.hd.K b.hd.L (b.dd (e (by rw[a];decide))) b.colours⟩⟩
  .exact b
 unfold Rd.note Rd.note2;split
 .exact c.same rfl rfl rfl rfl rfl rfl
 .exact c
theorem M4(s:Rd)x:(s.keep x).1.part=s.part/\(s.keep x).1.taken=s.taken/\(s.keep x).1.length=s.length/\(s.keep x).1.ctype=s.ctype/\(s.keep x).1.sum=s.sum/\(s.keep x).1.hd=s.hd/\(s.keep x).1.sd=s.sd:=by
 unfold Rd.keep;split
 .exact⟨rfl,rfl,rfl,rfl,rfl,rfl,rfl⟩
 split
 .exact⟨rfl,rfl,rfl,rfl,rfl,rfl,rfl⟩
 split
 .exact⟨rfl,rfl,rfl,rfl,rfl,rfl,rfl⟩
 split
 .unfold Rd.takeStream
  split
  .exact⟨rfl,rfl,rfl,rfl,rfl,rfl,rfl⟩
  split
  .exact⟨rfl,rfl,rfl,rfl,rfl,rfl,rfl⟩
  .exact⟨rfl,rfl,rfl,rfl,rfl,rfl,rfl⟩
 .exact⟨rfl,rfl,rfl,rfl,rfl,rfl,rfl⟩
theorem GE{f k x}(c:∀a,f a<256)(d:x<256)a:upd f k x a<256:=by
 by_cases b:a=k
 .rw[b,upd_same];exact d
 .rw[upd_ne _ _ _ b];exact c a
theorem RdB.keep{s x}(b:RdB s)(e:x<256)(j:s.ctype=aG->s.sd=true)(a:(s.keep x).2=0):RdB (s.keep x).1:=by
 unfold Rd.keep at a ⊢;by_cases f:s.ctype=aQ
 .rw[I f]
  exact⟨⟨b.hd.W,b.hd.H,b.hd.D,b.hd.K,b.hd.L⟩,b.dd,b.colours,GE b.raw e,b.clear,b.str⟩
 rw[N f] at a ⊢;by_cases g:s.ctype=bE
 .rw[I g]
  exact⟨⟨b.hd.W,b.hd.H,b.hd.D,b.hd.K,b.hd.L⟩,b.dd,b.colours,b.raw,b.clear,b.str⟩
 rw[N g] at a ⊢;by_cases h:s.ctype=bB
 .rw[I h]
  exact⟨⟨b.hd.W,b.hd.H,b.hd.D,b.hd.K,b.hd.L⟩,b.dd,b.colours,b.raw,GE b.clear e,b.str⟩
 rw[N h] at a ⊢;by_cases d:s.ctype=aG
 .rw[I d] at a ⊢
  obtain⟨k,l⟩:=b.str (j d);unfold Rd.takeStream at a ⊢;by_cases c:(takeB s.st s.rw x).2.2≠0
  .rw[I c] at a;exact absurd a c
  rw[N c] at a ⊢;obtain⟨m,n⟩:=(Dm (x:=x) k l).2 (Yc c);by_cases i:(decide ((takeB s.st s.rw x).1.part=10) && !aW (takeB s.st s.rw x).2.1)=true
  .rw[I i] at a;exact absurd a (by show ¬18=0;omega)
  rw[N i];exact⟨⟨b.hd.W,b.hd.H,b.hd.D,b.hd.K,b.hd.L⟩,b.dd,b.colours,b.raw,b.clear,λ_=>⟨m,n⟩⟩
 .rw[N d];exact b
theorem JT(s:Rd):s.accept.1.part=s.part/\s.accept.1.length=s.length/\s.accept.1.ctype=s.ctype/\s.accept.1.sum=s.sum:=by
 unfold Rd.accept;split
 .unfold Rd.acceptHead
  split
  .exact⟨rfl,rfl,rfl,rfl⟩
  .exact⟨rfl,rfl,rfl,rfl⟩
 split
 .exact⟨rfl,rfl,rfl,rfl⟩
 .exact⟨rfl,rfl,rfl,rfl⟩
theorem RdB.accept{s}(b:RdB s):RdB s.accept.1:=by
 unfold Rd.accept;split
 .unfold Rd.acceptHead
  split
  .exact b
  .rename_i a
   obtain⟨c,d,e,f,g,h⟩:=Cj (Yc a);exact⟨⟨c,d,e,f,g⟩,λ_=>h,b.colours,b.raw,b.clear,b.str⟩
 split
 .exact b
 .exact b
theorem RdP.enter{s:Rd}{p}(c:p<=5)(b:p=3->0<s.length/\(s.ctype=aQ->s.length=13)/\(s.ctype=bE->s.length<=768)/\(s.ctype=bB->s.length<=256)/\(s.ctype=aG->s.sd=true))(d:s.sum<4294967296)(e:s.length<2147483648):RdP (s.enter p) :=
 ⟨c,λ_=>by show 0<8;omega,λ_=>⟨by show 0<4;omega,by show 0<256^0;decide⟩,λa=>(b a).1,λ_=>rfl,d,e,λa=>(b a).2.1,λa=>(b a).2.2.1,λa=>(b a).2.2.2.1,λa=>(b a).2.2.2.2⟩
theorem B1{n k x}(h:n<256^k)(a:x<256):n*256+x<256^(k+1):=by rw[Ya];omega
theorem RdJ.take{s x}(h:RdJ s)(o:x<256)(b:(s.take x).2=0):RdJ (s.take x).1:=by
 have r:=h.p.part;have i:=h.p.len;have l:=h.p.sum;have t:=wW _ _ l o;unfold Rd.take at b ⊢;by_cases m:s.part=0
 .rw[I m] at b ⊢
  have u:=h.p.tk0 m;unfold Rd.takeSign at b ⊢;by_cases e:8<=s.taken\/x≠dD s.taken
  .rw[I e] at b;exact absurd b (by show ¬1=0;omega)
  rw[N e];by_cases f:s.taken+1=8
  .rw[I f]
   exact⟨h.b.same rfl rfl rfl rfl rfl rfl,RdP.enter (s:={s with taken:=s.taken+1}) O (λa=>O) l i⟩
  .rw[N f]
   refine⟨h.b.same rfl rfl rfl rfl rfl rfl,⟨r,λ_=>by show s.taken+1<8;omega,λa => ?_,λa => ?_,λa => ?_,l,i,h.p.i3,h.p.p3,h.p.t3,h.p.d3⟩⟩
   .replace a:s.part=1\/s.part=2\/s.part=4:=a;omega
   .replace a:s.part=3:=a;omega
   .replace a:s.part=5:=a;omega
 rw[N m] at b ⊢;by_cases B:s.part=1
 .rw[I B] at b ⊢
  obtain⟨u,p⟩:=h.p.tkn (L B);unfold Rd.takeLength at b ⊢;by_cases e:s.taken+1≠4
  .rw[I e]
   refine⟨h.b.same rfl rfl rfl rfl rfl rfl,⟨r,λa=>absurd a m,λ_=>⟨by show s.taken+1<4;omega,B1 p o⟩,λa => ?_,λa => ?_,l,i,h.p.i3,h.p.p3,h.p.t3,h.p.d3⟩⟩
   .replace a:s.part=3:=a;omega
   .replace a:s.part=5:=a;omega
  rw[N e] at b ⊢;by_cases f:2147483648<=s.number*256+x
  .rw[I f] at b;exact absurd b (by show ¬2=0;omega)
  rw[N f];exact⟨h.b.same rfl rfl rfl rfl rfl rfl,RdP.enter O (λa=>O) (by show ax<4294967296;decide) (by show s.number*256+x<2147483648;omega)⟩
 rw[N B] at b ⊢;by_cases C:s.part=2
 .rw[I C] at b ⊢
  obtain⟨u,p⟩:=h.p.tkn (R (L C));unfold Rd.takeType at b ⊢;by_cases e:s.taken+1≠4
  .rw[I e]
   refine⟨h.b.same rfl rfl rfl rfl rfl rfl,⟨r,λa=>absurd a m,λ_=>⟨by show s.taken+1<4;omega,B1 p o⟩,λa => ?_,λa => ?_,t,i,λa => ?_,λa => ?_,λa => ?_,λa => ?_⟩⟩
   .replace a:s.part=3:=a;omega
   .replace a:s.part=5:=a;omega
   .replace a:s.part=3:=a;omega
   .replace a:s.part=3:=a;omega
   .replace a:s.part=3:=a;omega
   .replace a:s.part=3:=a;omega
  rw[N e] at b ⊢;by_cases f:(s.typed x).checkType≠0
  .rw[I f] at b;exact absurd b f
  rw[N f] at b ⊢;have n:=Yc f;have G:RdB (s.typed x):=h.b.same rfl rfl rfl rfl rfl rfl;obtain⟨S,T,U,Y⟩:=uQ n;obtain⟨v,w,V,W⟩:=MW (s.typed x);have y:=G.note n;have H:(s.typed x).note.sum<4294967296:=by rw[V];exact t
  have J:(s.typed x).note.length<2147483648:=by rw[w];exact i
  by_cases q:(s.typed x).note.length=0
  .rw[I q]
   exact⟨y.same rfl rfl rfl rfl rfl rfl,RdP.enter O (λa=>O) H J⟩
  .rw[N q]
   exact⟨y.same rfl rfl rfl rfl rfl rfl,RdP.enter O (λ_=>⟨O,λd=>by rw[w];exact S (by rw[<-v];exact d),λd=>by rw[w];exact T (by rw[<-v];exact d),λd=>by rw[w];exact U (by rw[<-v];exact d) G.colours,λd=>W (by rw[<-v];exact d)⟩) H J⟩
 rw[N C] at b ⊢;by_cases g:s.part=3
 .rw[I g] at b ⊢
  have u:=h.p.tk3 g;unfold Rd.takeData at b ⊢;have X:RdB (s.summed x):=h.b.same rfl rfl rfl rfl rfl rfl;by_cases e:((s.summed x).keep x).2≠0
  .rw[I e] at b;exact absurd b e
  rw[N e] at b ⊢;have K:=X.keep o (λd=>h.p.d3 g d) (Yc e);obtain⟨D,z,j,k,A,Z,E⟩:=M4 (s.summed x) x;generalize ((s.summed x).keep x).1=c at *;replace D:c.part=s.part:=D;replace z:c.taken=s.taken:=z;replace j:c.length=s.length:=j;replace k:c.ctype=s.ctype:=k;replace A:c.sum=cj s.sum x:=A;replace E:c.sd=s.sd:=E;show RdJ c.dataEnd
  unfold Rd.dataEnd;by_cases f:c.taken+1=c.length
  .rw[I f]
   exact⟨K.same rfl rfl rfl rfl rfl rfl,RdP.enter (s:={c with taken:=c.taken+1}) O (λa=>O) (by show c.sum<_;rw[A];exact t) (by show c.length<_;rw[j];exact i)⟩
  .rw[N f]
   refine⟨K.same rfl rfl rfl rfl rfl rfl,⟨by show c.part<=5;omega,λa => ?_,λa => ?_,λ_ => ?_,λa => ?_,by show c.sum<_;rw[A];exact t,by show c.length<_;rw[j];exact i,λ_ d => ?_,λ_ d => ?_,λ_ d => ?_,λ_ d => ?_⟩⟩
   .replace a:c.part=0:=a;omega
   .replace a:c.part=1\/c.part=2\/c.part=4:=a;omega
   .show c.taken+1<c.length;omega
   .replace a:c.part=5:=a;omega
   .show c.length=13;rw[j];exact h.p.i3 g (by rw[<-k];exact d)
   .show c.length<=768;rw[j];exact h.p.p3 g (by rw[<-k];exact d)
   .show c.length<=256;rw[j];exact h.p.t3 g (by rw[<-k];exact d)
   .show c.sd=true;rw[E];exact h.p.d3 g (by rw[<-k];exact d)
 rw[N g] at b ⊢;by_cases F:s.part=4
 .rw[I F] at b ⊢
  obtain⟨u,p⟩:=h.p.tkn (R (R F));unfold Rd.takeSum at b ⊢;by_cases e:s.taken+1≠4
  .rw[I e]
   refine⟨h.b.same rfl rfl rfl rfl rfl rfl,⟨r,λa=>absurd a m,λ_=>⟨by show s.taken+1<4;omega,B1 p o⟩,λa=>absurd a g,λa => ?_,l,i,λa=>absurd a g,λa=>absurd a g,λa=>absurd a g,λa=>absurd a g⟩⟩;replace a:s.part=5:=a;omega
  rw[N e] at b ⊢;by_cases f:s.number*256+x≠bz s.sum
  .rw[I f] at b;exact absurd b (by show ¬6=0;omega)
  rw[N f] at b ⊢;have y:RdB (s.num x):=h.b.same rfl rfl rfl rfl rfl rfl;by_cases n:(s.num x).accept.2≠0
  .rw[I n] at b;exact absurd b n
  rw[N n] at b ⊢;have M:=y.accept;obtain⟨D,z,j,k⟩:=JT (s.num x);have P:(s.num x).accept.1.sum<4294967296:=by rw[k];exact l
  have Q:(s.num x).accept.1.length<2147483648:=by rw[z];exact i
  by_cases q:(s.num x).accept.1.ctype=cE
  .rw[I q];exact⟨M.same rfl rfl rfl rfl rfl rfl,RdP.enter O (λa=>O) P Q⟩
  .rw[N q];exact⟨M.same rfl rfl rfl rfl rfl rfl,RdP.enter O (λa=>O) P Q⟩
 rw[N F] at b;exact absurd b (by show ¬22=0;omega)
theorem wM q a f(c:∀k,f k<65536)(d:∀b,q.smp b<65536):∀k b,(dY q a f k).smp b<65536
 | 0,b=>d b
 | k+1,b=>by
  show upd (dY q a f k).smp (4*a+k) (f k) b<65536
  by_cases h:b=4*a+k
  .rw[h,upd_same];exact c k
  .rw[upd_ne _ _ _ h];exact wM q a f c d k b
theorem Ac r(b:gE r)(c:∀a,r.smp a<65536):∀m a,(bj r m).smp a<65536
 | 0,a=>c a
 | m+1,a=>wM (bj r m) _ _ (λ_=>Dp b _) (Ac r b c m) _ a
theorem zX:∀(k:Nat) (r:Rw),(dO k r).smp=r.smp
 | 0,_=>rfl
 | k+1,r=>by
  unfold dO;split
  .split
   .rfl
   .exact zX k _
  .rfl
theorem z2(r:Rw):r.next.smp=r.smp:=zX 8 _
theorem Ep h k j:(Rw.start h k).smp j<65536:=by
 show(rw0 h k).next.smp j<65536
 rw[z2];show 0<65536
 omega
theorem GK{r}(c:jK r)(h:∀a,r.smp a<65536)x a:(r.take x).1.smp a<65536:=by
 unfold Rw.take;split
 .exact h a
 .split
  .unfold Rw.takeF
   split
   .exact h a
   .exact h a
  .split
   .exact h a
   .have f:ts (({r with taken:=r.taken+1}:Rw).lay (r.taken-1) x):=(c.in'.taken' (by have:=c.tk;omega)).lay _ _
    have d:∀a,(({r with taken:=r.taken+1}:Rw).lay (r.taken-1) x).smp a<65536:=h;generalize ({r with taken:=r.taken+1}:Rw).lay (r.taken-1) x=b at *;unfold Rw.endRow;split
    .exact d a
    .have e:∀a,b.laid.smp a<65536:=λa=>Ac b f.ok d b.columns a
     show(if b.lines<=b.line+1 then b.laid.next else b.laid).smp a<65536
     split
     .rw[z2];exact e a
     .exact e a
theorem lZ{s r x}(b:jK r)(h:∀a,r.smp a<65536)a:(aF s r x).2.1.smp a<65536:=by
 have:=GK b h x a
 unfold aF;split
 .split
  .exact this
  .exact this
 .exact this
theorem uN:∀(k D:Nat) (s:St) (r:Rw),gq k D s r->(∀a,r.smp a<65536)->∀a,(ck k D s r).2.1.smp a<65536
 | 0,_,_,_,_,b,a=>b a
 | k+1,D,s,r,c,b,a=>by
  unfold ck;split
  .rename_i d
   exact uN k D _ _ (c.2 d) (lZ c.1.good b) a
  .exact lZ c.1.good b a
theorem wY{s r D}(k:1<=D->D<=s.count->D<=s.window->gq s.length D s r)(h:∀a,r.smp a<65536)a:(cZ s r D).2.1.smp a<65536:=by
 unfold cZ;split
 .exact h a
 .rename_i b
  exact uN _ _ _ _ (k O O O) h a
theorem Fx{s r σ}(k:∀b,1<=b->b<=s.count->b<=s.window->gq s.length b s r)(h:∀a,r.smp a<65536)a:(cF s r σ).2.1.smp a<65536:=by
 unfold cF;split
 .exact h a
 .split
  .exact h a
  .split
   .exact wY (k _) h a
   .exact h a
theorem Ic{s r v}(k:gy s r v)(h:∀a,r.smp a<65536)a:(aJ s r v).2.1.smp a<65536:=by
 unfold aJ;split
 .exact h a
 split
 .exact h a
 split
 .exact h a
 split
 .rename_i b
  have:=lZ (s:=s) (x:=v) (k.good b) h a
  unfold bV;split
  .exact this
  .exact this
 split
 .exact h a
 split
 .exact h a
 split
 .exact h a
 split
 .exact h a
 split
 .rename_i c
  exact wY (k.v8 c).copy h a
 .exact h a
theorem GO{s r t}(k:JV s r t)(h:∀a,r.smp a<65536)a:(nB s r t).2.1.smp a<65536:=by
 unfold nB dz;split
 .exact h a
 split
 .exact h a
 split
 .exact h a
 split
 .exact h a
 .exact lZ k.good h a
theorem JK{s r t}(k:xp s r t)(h:∀a,r.smp a<65536)a:(bm s r t).2.1.smp a<65536:=by
 unfold bm;split
 .rename_i b
  exact GO (k.sym b) h a
 split
 .exact h a
 split
 .rename_i c
  exact Fx (k.ds c).copy h a
 split
 .exact h a
 .rename_i b e c d
  exact Ic (k.num (by have:=k.part;omega) d) h a
theorem uT x:∀(n i:Nat) (s:St) (r:Rw),jL n i s r x->(∀a,r.smp a<65536)->∀a,(bt n i s r x).2.1.smp a<65536
 | 0,_,_,_,_,b,a=>b a
 | n+1,i,s,r,k,b,a=>by
  unfold bt;split
  .exact b a
  .rename_i d
   rcases k with e|⟨f,g⟩
   .exact absurd e d
   .have c:=JK f b
    split
    .rename_i h
     exact uT x n (i+1) _ _ (g h) c a
    .exact c a
def SmI(s:Rd):Prop:=(∀j,s.rw.smp j<65536)/\(s.hd.W=0\/1<=s.hd.H)
theorem SmI.begin{s}(h:SmI s):SmI s.begin:=by
 unfold Rd.begin;split
 .exact h
 .exact⟨λa=>Ep _ _ a,h.2⟩
theorem SmI.note{s}(h:SmI s):SmI s.note:=by
 have a:SmI s.note1:=by
  unfold Rd.note1;split
  .exact h
  .split
   .exact h
   .split
    .exact h.begin
    .exact h
 show SmI s.note1.note2
 unfold Rd.note2;split
 .exact a
 .exact a
theorem E3 d(h:(aE d).1=0):(aE d).2.W=0\/1<=(aE d).2.H:=by
 rw[lY] at h ⊢;split
 .exact L rfl
 .rename_i a
  split
  .exact L rfl
  .split
   .exact L rfl
   .right
    show 1<=hN d
    have:hN d≠0:=λb=>a (R (L b))
    omega
theorem SmI.accept{s}(h:SmI s):SmI s.accept.1:=by
 unfold Rd.accept;split
 .unfold Rd.acceptHead
  split
  .exact h
  .rename_i a
   exact⟨h.1,E3 s.raw O⟩
 .split
  .exact h
  .exact h
theorem SmI.keep{s x}(h:SmI s)(k:y9 s x):SmI (s.keep x).1:=by
 unfold Rd.keep;split
 .exact h
 .split
  .exact h
  .split
   .exact h
   .split
    .rename_i c
     have d:∀a,(takeB s.st s.rw x).2.1.smp a<65536:=λa=>by
      unfold takeB;split
      .exact h.1 a
      .rename_i e
       exact uT x 8 0 _ s.rw (k.bits c e) h.1 a
     have b:SmI (s.streamed x):=⟨d,h.2⟩;unfold Rd.takeStream;split
     .exact b
     .split
      .exact b
      .exact b
    .exact h
theorem SmI.take{s x}(h:SmI s)(k:y6 s x):SmI (s.take x).1:=by
 unfold Rd.take;split
 .unfold Rd.takeSign
  split
  .exact h
  .split
   .exact h
   .exact h
 .split
  .unfold Rd.takeLength
   split
   .exact h
   .split
    .exact h
    .exact h
  .split
   .unfold Rd.takeType
    have a:SmI (s.typed x):=h;split
    .exact h
    .split
     .exact a
     .split
      .exact a.note
      .exact a.note
   .split
    .rename_i d
     have b:=SmI.keep (s:=s.summed x) (x:=x) h (k.keep d);unfold Rd.takeData;split
     .exact b
     .show SmI ((s.summed x).keep x).1.dataEnd
      unfold Rd.dataEnd;split
      .exact b
      .exact b
    .split
     .unfold Rd.takeSum
      have c:=SmI.accept (s:=s.num x) h;split
      .exact h
      .split
       .exact h
       .split
        .exact c
        .split
         .exact c
         .exact c
     .exact h
theorem OQ:SmI rd0:=⟨λ_=>by show 0<65536;omega,L rfl⟩
def TlI(s:Rd):Prop:=(∀j,s.tl.pal j<256)/\∀j,s.tl.clear j<256
theorem TlI.put{s t}(h:TlI s)(a:t.tl.pal=s.tl.pal)(b:t.tl.clear=s.tl.clear):TlI t:=by unfold TlI;rw[a,b];exact h
theorem TlI.note{s}(h:TlI s):TlI s.note:=by
 have a:TlI s.note1:=by
  unfold Rd.note1;split
  .exact h.put rfl rfl
  .split
   .exact h.put rfl rfl
   .split
    .unfold Rd.begin;split<;>exact h.put rfl rfl
    .exact h
 unfold Rd.note Rd.note2;split
 .exact a.put rfl rfl
 .exact a
theorem GF{f i x}(h:∀a,f a<256)(c:x<256)a:upd f i x a<256:=by
 by_cases b:a=i
 .rw[b,upd_same];exact c
 .rw[upd_ne _ _ _ b];exact h a
theorem TlI.keep{s x}(h:TlI s)(a:x<256):TlI (s.keep x).1:=by
 unfold Rd.keep;split
 .exact h
 .split
  .exact⟨GF h.1 a,h.2⟩
  .split
   .exact⟨h.1,GF h.2 a⟩
   .split
    .unfold Rd.takeStream
     split
     .exact h
     .split<;>exact h
    .exact h
theorem TlI.take{s x}(h:TlI s)(d:x<256):TlI (s.take x).1:=by
 unfold Rd.take;split
 .unfold Rd.takeSign
  split
  .exact h
  .split<;>exact h
 split
 .unfold Rd.takeLength
  split
  .exact h
  .split<;>exact h
 split
 .unfold Rd.takeType
  have a:TlI (s.typed x):=h;split
  .exact h
  .split
   .exact a
   .split
    .exact a.note.put rfl rfl
    .exact a.note.put rfl rfl
 split
 .have b:=TlI.keep (s:=s.summed x) (x:=x) h d
  unfold Rd.takeData;split
  .exact b
  .unfold Rd.dataEnd
   split<;>exact b.put rfl rfl
 split
 .have c:TlI (s.num x).accept.1:=by
   unfold Rd.accept;split
   .unfold Rd.acceptHead;split<;>exact h
   .split<;>exact h
  unfold Rd.takeSum;split
  .exact h
  .split
   .exact h
   .split
    .exact c
    .split<;>exact c.put rfl rfl
 .exact h
theorem IY:∀(l:List Nat) (s:Rd),(∀a∈l,a<256)->TlI s->TlI (af s l).1
 | [],s,_,b=>b
 | a::l,s,c,b=>by
  have d:=b.take (c a Xi);rw[af];by_cases e:(s.take a).2=0
  .rw[I e];exact IY l _ (λf g=>c f (by simp[g])) d
  .rw[N e];exact d
theorem IZ:∀(l:List Nat) (s:Rd),(∀a∈l,a<256)->RdJ s->SmI s->SmI (af s l).1
 | [],s,_,_,b=>b
 | a::l,s,d,j,b=>by
  have e:=d a Xi;have f:=b.take (j.takeOk e);rw[af];by_cases c:(s.take a).2=0
  .rw[I c];exact IZ l _ (λg h=>d g (by simp[h])) (j.take e c) f
  .rw[N c];exact f
theorem Oa:RdJ rd0:=by
 refine⟨⟨IV,λa=>absurd rfl a,Xh,λb=>Xp,λc=>Xp,λa=>by cases a⟩,⟨Xh,λ_=>Xh,λa => ?_,λa => ?_,λa => ?_,Xh,Xh,λa => ?_,λa => ?_,λa => ?_,λa => ?_⟩⟩
 all_goals first|exact absurd a Xh|skip
theorem Du l(b:∀d∈l,d<256):(∀a,(af rd0 l).1.tl.pal a<256)/\(∀a,(af rd0 l).1.tl.clear a<256)/\∀a,(af rd0 l).1.rw.smp a<65536:=by
 have c:=IY l rd0 b ⟨λ_=>Xp,λ_=>Xp⟩;exact⟨c.1,c.2,(IZ l rd0 b Oa OQ).1⟩
theorem F4 b n c d w(e:Blk w b n c)(f:DcV c 0 d)(q:5957<=n)(r:d.err=0)(s:d.file.part≠5):Calls prog 16 #[.pointer (some ⟨b,0,none⟩)] w λa j=>a=.returned (.tuple #[.int .i64 23,.int .i64 d.count])/\nU b n {d with err:=23,at1:=d.count} w j:=by
 have k:=e.at (i:=5955) O f.err;rw[r] at k;have t:Z (Calls prog 25 #[.pointer (some ⟨b,0,none⟩)] w λa j=>a=.returned (.bool false)/\j=w):=by
  have:=ru b 0 n c d.file w e f.file O
  rw[J s] at this;exact this
 have u:=U (I3 b n 23 c d w e f q);clear e f;go_enter func16,ntmps16;go_wp2_with fail;refine t.o.mono ?_;rintro a v ⟨rfl,B⟩;subst v;go_wp2_with fail;refine u.o.mono ?_;rintro a l ⟨rfl,x,g,h,m⟩;have o:=g.at (i:=5955) O h.err;have p:=g.at (i:=5956) O h.at1;replace o:l.cell? ⟨b,5955,none⟩=some (.int .i64 23):=o;replace p:l.cell? ⟨b,5956,none⟩=some (.int .i64 d.count):=p;have y:Z _:=g;have z:Z _:=h;have A:Z _:=m;clear g h m k;go_wp2_with fail;go_quiet (fail);go_wp2;go_ret2;exact⟨rfl,x,y.o.kept ((Kept.refl _).drewN _),z.o,A.o.kept ((Kept.refl _).drewN _)⟩
theorem F0 b n c d w(a:Blk w b n c)(e:DcV c 0 d)(l:5957<=n)(h:d.err≠0):Calls prog 16 #[.pointer (some ⟨b,0,none⟩)] w λj k=>j=.returned (.tuple #[.int .i64 d.err,.int .i64 d.at1])/\Kept w k:=by
 have f:=a.at (i:=5955) O e.err;have g:=a.at (i:=5956) O e.at1;replace f:w.cell? ⟨b,5955,none⟩=some (.int .i64 d.err):=f;replace g:w.cell? ⟨b,5956,none⟩=some (.int .i64 d.at1):=g;have m:((d.err:Int)==0)=false:=Xa;generalize d.err=o at *;generalize d.at1=p at *;clear a e h;go_enter func16,ntmps16;go_wp2_with fail;go_quiet (fail);go_wp2;go_ret2;exact⟨rfl,(Kept.refl _).drewN _⟩
structure DI (w W:World) (g:Nat) (d:Dc):Prop where
 kept:Kept w W
 pos:0<w.heap.size
 lo:w.heap.size<=g
 ex:∃c,Blk W g 5957 c/\DcV c 0 d
theorem DI.glt{w W g d}(h:DI w W g d):g<W.heap.size:=by obtain⟨b,a,_⟩:=h.ex;exact a.lt
theorem DI.on{w W W' g d}(h:DI w W g d)(k:Kept W W'):DI w W' g d:=by
 obtain⟨a,b,c⟩:=h.ex;exact⟨h.kept.trans k,h.pos,h.lo,a,b.kept k,c⟩
theorem DI.step{w W W' g d d'}(h:DI w W g d)(k:nU g 5957 d' W W'):DI w W' g d':=by
 obtain⟨a,b,c,e⟩:=k;have f:=h.lo;exact⟨Fr.to_kept h.kept e (λi j l=>O),h.pos,h.lo,a,b,c⟩
theorem Oh{w W}(h:Kept w W)(d:0<w.heap.size):Calls prog 8 #[] W λa b=>∃c,a=.returned (.pointer (some ⟨c,0,none⟩))/\DI w b c dc0:=by
 refine(Og W).mono ?_;rintro a b ⟨rfl,e,f,g,i⟩;exact⟨_,rfl,h.trans i,d,h.size,e,f,g⟩
theorem uH{d}(h:d.err≠0)l:vd d l:=by
 intro b c _ a;rw[lB h] at a;exact absurd a h
theorem OT:RdJ rd0:=by
 refine⟨⟨IV,λa=>absurd rfl a,Xh,λb=>Xp,λc=>Xp,λa=>by cases a⟩,⟨Xh,λ_=>Xh,λa => ?_,λa => ?_,λa => ?_,Xh,Xh,λa => ?_,λa => ?_,λa => ?_,λa => ?_⟩⟩
 all_goals first|exact absurd a Xh
theorem RdJ.go:∀(l:List Nat) (s:Rd),RdJ s->(∀x∈l,x<256)->(af s l).2.1=0->RdJ (af s l).1
 | [],s,j,_,_=>j
 | x::l,s,j,b,a=>by
  rw[af] at a ⊢;by_cases c:(s.take x).2=0
  .rw[I c] at a ⊢
   exact RdJ.go l _ (j.take (b x Xi) c) (λy d=>b y (by simp[d])) a
  .rw[N c] at a;exact absurd a c
def dcL(l:List Nat):Dc:=dc0.feed l
theorem kR l:dcL l=⟨(af rd0 l).1,(af rd0 l).2.2,(af rd0 l).2.1,if(af rd0 l).2.1=0 then 0 else(af rd0 l).2.2⟩:=by
 unfold dcL
 have:=D5 l rd0 0 0
 rw[XD] at this;exact this
theorem LM l m:(dcL l).feed m=dcL (l++m):=by unfold dcL Dc.feed;rw[Yk]
theorem Fk{d l}(j:RdJ d.file)(f:∀a∈l,a<256)(g:d.err=0)(p:d.count+l.length<=4294967296):vd d l:=by
 intro b a c h;have q:=(Yb.1 c).1;have m:∀e∈l.take b,e<256:=λe n=>f e (YE n)
 have o:d=⟨d.file,d.count,0,d.at1⟩:=by obtain⟨r,s,t,c⟩:=d;simp at g;subst g;rfl
 have i:=D5 (l.take b) d.file d.count d.at1;rw[<-o] at i;rw[i] at h ⊢;have k:=h;refine⟨(RdJ.go _ _ j m k).takeOk (f a (X8 c)),?_⟩;show d.count+(af d.file (l.take b)).2.2<=_
 rw[uf _ _ k,Yd];omega
theorem Nf l m(d:∀b∈l,b<256)(e:∀b∈m,b<256)(f:l.length+m.length<=4294967296):vd (dcL l) m:=by
 by_cases a:(dcL l).err=0
 .have c:(af rd0 l).2.1=0:=by rw[kR] at a;exact a
  refine Fk ?_ e a ?_
  .rw[kR];exact RdJ.go l rd0 OT d c
  .rw[kR]
   show(af rd0 l).2.2+_<=_
   rw[uf _ _ c];exact f
 .exact uH a m
theorem FZ b n c d w(a:Blk w b n c)(e:DcV c 0 d)(q:5957<=n)(k:d.err=0)(l:d.at1=0)(m:d.file.part=5):Calls prog 16 #[.pointer (some ⟨b,0,none⟩)] w λf g=>f=.returned (.tuple #[.int .i64 0,.int .i64 0])/\Kept w g:=by
 have h:=a.at (i:=5955) O e.err;have j:=a.at (i:=5956) O e.at1;rw[k] at h;rw[l] at j;replace h:w.cell? ⟨b,5955,none⟩=some (.int .i64 0):=h;replace j:w.cell? ⟨b,5956,none⟩=some (.int .i64 0):=j;have o:Z (Calls prog 25 #[.pointer (some ⟨b,0,none⟩)] w λf g=>f=.returned (.bool true)/\g=w):=by
  have:=ru b 0 n c d.file w a e.file O
  rw[K m] at this;exact this
 clear a e;go_enter func16,ntmps16;go_wp2_with fail;refine o.o.mono ?_;rintro f p ⟨rfl,r⟩;subst p;go_wp2_with fail;go_quiet (fail);go_wp2;go_ret2;exact⟨rfl,(Kept.refl _).drewN _⟩
def dcZ(l:List Nat):Dc:=if(dcL l).err=0/\(dcL l).file.part≠5 then {dcL l with err:=23,at1:=(dcL l).count} else dcL l
theorem Ng{l}(h:(dcL l).err=0):(dcL l).at1=0:=by
 rw[kR] at h ⊢;exact I h
