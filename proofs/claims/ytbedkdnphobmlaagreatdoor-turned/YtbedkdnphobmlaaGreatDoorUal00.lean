import Derived.Test.YtbedkdnphobmlaaGreatDoorProg
import Derived.Laws.IdiomStrings
import Derived.Test.YtbedkdnphobmlaaGreatDoorUaa00
import Derived.Test.YtbedkdnphobmlaaGreatDoorUaa01
import Derived.Test.YtbedkdnphobmlaaGreatDoorUaa02
import Derived.Test.YtbedkdnphobmlaaGreatDoorUaa04
import Derived.Test.YtbedkdnphobmlaaGreatDoorUaa05
import Derived.Test.YtbedkdnphobmlaaGreatDoorUaa09
import Derived.Test.YtbedkdnphobmlaaGreatDoorUaa12
import Derived.Test.YtbedkdnphobmlaaGreatDoorUaa15
import Derived.Test.YtbedkdnphobmlaaGreatDoorUaa16
import Derived.Test.YtbedkdnphobmlaaGreatDoorUaa17
import Derived.Test.YtbedkdnphobmlaaGreatDoorUaa18
import Derived.Test.YtbedkdnphobmlaaGreatDoorUaa19
import Derived.Test.YtbedkdnphobmlaaGreatDoorUaa20
import Derived.Test.YtbedkdnphobmlaaGreatDoorUaa23
import Derived.Test.YtbedkdnphobmlaaGreatDoorUaa27
import Derived.Test.YtbedkdnphobmlaaGreatDoorUac00
import Derived.Test.YtbedkdnphobmlaaGreatDoorUac01
import Derived.Test.YtbedkdnphobmlaaGreatDoorUac02
set_option linter.all false
set_option maxRecDepth 100000
set_option maxHeartbeats 0
namespace Go.Proofs.YtbedkdnphobmlaaGreatDoor
open Go.RowKit Px Tryz
theorem dW{w g o N c f}(h:∀j,j<N->w.cell? ⟨g,o+j,none⟩=some (.int .i64 (f j))):LAt w .i64 (.slice (some ⟨g,o,none⟩) ((List.range N).map f).length c) ((List.range N).map f):=by
 have b:((List.range N).map f).length=N:=by rw[List.length_map,List.length_range]
 refine⟨⟨_,_,rfl⟩,λk l d e a => ?_⟩
 injection d with i _ _
 rw[b] at a;refine⟨g,o,i.symm,?_⟩;rw[h e a,G,XQ,Yp a];rfl
def aI(s:Rd):Prop:=∀j,s.tl.pal j<256
theorem aI.note{s}(h:aI s):aI s.note:=by
 have a:aI s.note1:=by
  unfold Rd.note1;split
  .exact h
  .split
   .exact h
   .split
    .unfold Rd.begin
     split
     .exact h
     .exact h
    .exact h
 show aI s.note1.note2
 unfold Rd.note2;split
 .exact a
 .exact a
theorem aI.accept{s}(h:aI s):aI s.accept.1:=by
 unfold aI;rw[(fw s).1];exact h
theorem aI.keep{s x}(h:aI s)(c:x<256):aI (s.keep x).1:=by
 unfold Rd.keep;split
 .exact h
 .split
  .intro a
   show upd s.tl.pal s.taken x a<256
   by_cases b:a=s.taken
   .rw[b,upd_same];exact c
   .rw[upd_ne _ _ _ b];exact h a
  .split
   .exact h
   .split
    .unfold Rd.takeStream
     split
     .exact h
     .split
      .exact h
      .exact h
    .exact h
theorem aI.take{s x}(h:aI s)(d:x<256):aI (s.take x).1:=by
 unfold Rd.take;split
 .unfold Rd.takeSign
  split
  .exact h
  .split
   .exact h
   .exact h
 .split
  .unfold Rd.takeLength
   split
   .exact h
   .split
    .exact h
    .exact h
  .split
   .unfold Rd.takeType
    have a:aI (s.typed x):=h;split
    .exact h
    .split
     .exact a
     .split
      .exact a.note
      .exact a.note
   .split
    .have b:=aI.keep (s:=s.summed x) (x:=x) h d
     unfold Rd.takeData;split
     .exact b
     .show aI ((s.summed x).keep x).1.dataEnd
      unfold Rd.dataEnd;split
      .exact b
      .exact b
    .split
     .unfold Rd.takeSum
      have c:=aI.accept (s:=s.num x) h;split
      .exact h
      .split
       .exact h
       .split
        .exact c
        .split
         .exact c
         .exact c
     .exact h
theorem Rn.palI:∀{l:List Nat} {s b:Rd},Rn s l b->(∀x∈l,x<256)->aI s->aI b
 | [],s,b,a,_,k=>by cases a;exact k
 | x::l,s,b,a,c,k=>Rn.palI a.2.2 (λd e=>c d (by simp[e])) (k.take (c x Xi))
theorem jJ:aI rd0:=λ_=>Xp
theorem jb{w W g d}(h:DI w W g d)(a:cC d.file)(f:aI d.file)(i:aS w):Calls prog 24 #[.pointer (some ⟨g,0,none⟩)] W λb j=>SnX W d b j:=by
 obtain⟨k,l,c⟩:=h.ex;refine qf g 5957 k d W l c (E _) ?_ f (i.kept h.kept);by_cases e:d.file.hd.W=0
 .exact L e
 .refine R ⟨c.file.rw,c.file.tl,O,O,a.clear,a.sm.1,a.hd.K,O,a.hd.W,?_,a.hd.H,a.hd.L⟩
  rcases a.sm.2 with b|b
  .exact absurd b e
  .exact b
theorem kR x c ff(w:World)(a4:w.cell? ⟨x,14,none⟩=some (.string ff))(a5:c+4<=ff.size)(a6:ff.size<=1000000000)(b d e h:Nat)(z:(aj ff)[c]? = some b)(A:(aj ff)[c+1]? = some d)(B:(aj ff)[c+2]? = some e)(C:(aj ff)[c+3]? = some h):Calls prog 30 #[.pointer (some ⟨x,0,none⟩),.int .i64 c] w λL M=>L=.returned (.int .i64 ((16777216*b+65536*d+256*e+h:Nat):Int))/\M=w:=by
 have j:∀k (p:k<ff.size) s,(aj ff)[k]? = some s->ff[k].toNat=s:=λk p s N=>by
  rw[<-kh ff k p];exact(Yb.1 N).2
 have D:=j c O b z;have E:=j (c+1) O d A;have F:=j (c+2) O e B;have G:=j (c+3) O h C;have P:b<256:=by rw[<-D];exact UInt8.toNat_lt _
 have Q:d<256:=by rw[<-E];exact UInt8.toNat_lt _
 have R:e<256:=by rw[<-F];exact UInt8.toNat_lt _
 have S:h<256:=by rw[<-G];exact UInt8.toNat_lt _
 have H:Z (∃g:Nat->Nat,g 0=0/\g 4=16777216*b+65536*d+256*e+h/\(∀a,a<4->∀p:c+a<ff.size,g (a+1)=256*g a+ff[c+a].toNat)/\∀a,a<=4->g a<4294967296):=by
  refine⟨λa=>match a with|0=>0|1=>b|2=>256*b+d|3=>65536*b+256*d+e|_=>16777216*b+65536*d+256*e+h,rfl,rfl,λa l p => ?_,λa l => ?_⟩
  .match a,l with
   | 0,_=>show b=256*0+ff[c].toNat;omega
   | 1,_=>show 256*b+d=256*b+ff[c+1].toNat;omega
   | 2,_=>show 65536*b+256*d+e=256*(256*b+d)+ff[c+2].toNat;omega
   | 3,_=>show 16777216*b+65536*d+256*e+h=256*(65536*b+256*d+e)+ff[c+3].toNat;omega
  .match a,l with
   | 0,_=>show 0<4294967296;omega
   | 1,_=>show b<4294967296;omega
   | 2,_=>show 256*b+d<4294967296;omega
   | 3,_=>show 65536*b+256*d+e<4294967296;omega
   | 4,_=>show 16777216*b+65536*d+256*e+h<4294967296;omega
 obtain⟨g,t,I,u,q⟩:=H.o;rw[<-I];replace t:Z _:=t;replace u:Z _:=u;replace q:Z _:=q;clear H I D E F G z A B C j P Q R S;obtain⟨m,n⟩:∃m,m=c+4:=⟨_,rfl⟩;have a7:(c:Int)+4=(m:Int):=O;replace n:Z _:=n;go_enter func30,ntmps30;go_wp2_with fail;go_loopg [5,6] 4 (λT U V W=>∃a:Nat,T=4-a/\a<=4/\V=.int .i64 ((c+a:Nat):Int)/\U=.int .i64 (g a)/\W=w)
 case atStart=>exact⟨0,O,O,rfl,by rw[t.o];rfl,rfl⟩
 case round=>
  obtain⟨a,v,X,rfl,rfl,rfl⟩:=hrel;replace v:Z _:=v;obtain⟨f,i⟩:∃f,f=c+a:=⟨_,rfl⟩;rw[<-i];have a8:=q.o a X;by_cases Y:a<4
  .have a0:(f:Int)<(m:Int):=by have:=n.o;omega
   have a9:f<ff.size:=by have:=n.o;omega
   have b0:(f:Int)<(ff.size:Int):=O;have b1:(0:Int)<=(f:Int):=O;have J:Z (g (a+1)=256*g a+ff[f].toNat):=by
    have:=u.o a Y O
    subst i;exact this
   have a1:=q.o (a+1) O;obtain⟨o,K⟩:∃o,o=f+1:=⟨_,rfl⟩;have b2:(f:Int)+1=(o:Int):=O;have a2:Z (o=c+(a+1)):=by show o=_;omega
   have b3:ff[f].toNat<256:=UInt8.toNat_lt _;obtain⟨y,r⟩:∃y,y=g (a+1):=⟨_,rfl⟩;rw[<-r] at J a1;replace r:Z _:=r;generalize g a=a3 at *;have b4:256*(a3:Int)+(ff[f].toNat:Int)=(y:Int):=by have:=J.o;omega
   replace i:Z _:=i;replace K:Z _:=K;go_wp2_with fail;go_roundg (4-(a+1))
   case measure=>rw[v.o];omega
   case rel=>exact⟨a+1,rfl,O,by rw[<-a2.o],by rw[<-r.o],rfl⟩
  .have a0:¬(f:Int)<(m:Int):=by have:=n.o;omega
   have l:a=4:=O;subst l;replace i:Z _:=i;go_wp2_with fail;go_ret;exact⟨rfl,rfl⟩
theorem AU{k d}(h:ji k d=true):k<=6/\d<=16/\okD d:=by
 unfold ji at h;unfold okD
 split at h
 .have:=Yr h;omega
 split at h
 .have:=Yr h;omega
 split at h
 .have:=Yr h;omega
 .cases h
theorem nv{d}(h:(bL d).1=0):(bL d).2.W<=16/\(bL d).2.H<=16/\(bL d).2.D<=16/\(bL d).2.K<=6/\(bL d).2.L<=1/\okD (bL d).2.D:=by
 unfold bL at h ⊢;simp only[] at h ⊢
 split at h
 .exact absurd h (by show ¬7=0;omega)
 rename_i a
 rw[N a]
 split at h
 .exact absurd h (by show ¬7=0;omega)
 rename_i b
 rw[N b]
 split at h
 .exact absurd h (by show ¬8=0;omega)
 rename_i c
 rw[N c];have e:ji (d 9) (d 8)=true:=by
  cases f:ji (d 9) (d 8) with
  | true=>rfl
  | false=>exact absurd (R (R (R (R f)))) a
 obtain⟨g,i,j⟩:=AU e;refine⟨?_,?_,i,g,?_,j⟩
 .show((d 0*256+d 1)*256+d 2)*256+d 3<=16
  omega
 .show((d 4*256+d 5)*256+d 6)*256+d 7<=16
  omega
 .show d 12<=1
  omega
structure RdB (s:Rd):Prop where
 hd:lB s
 dd:s.hd.W≠0->okD s.hd.D
 colours:s.tl.colours<=256
 raw:∀i,s.raw i<256
 clear:∀j,s.tl.clear j<256
 str:s.sd=true->StB s.st/\RwJ s.rw
structure RdP (s:Rd):Prop where
 part:s.part<=5
 tk0:s.part=0->s.taken<8
 tkn:s.part=1\/s.part=2\/s.part=4->s.taken<4/\s.number<256^s.taken
 tk3:s.part=3->s.taken<s.length
 tk5:s.part=5->s.taken=0
 sum:s.sum<4294967296
 len:s.length<2147483648
 i3:s.part=3->s.ctype=bt->s.length=13
 p3:s.part=3->s.ctype=bC->s.length<=768
 t3:s.part=3->s.ctype=aT->s.length<=256
 d3:s.part=3->s.ctype=ar->s.sd=true
structure RdJ (s:Rd):Prop where
 b:RdB s
 p:RdP s
theorem RdB.same{s t}(h:RdB s)(a:t.hd=s.hd)(b:t.tl=s.tl)(c:t.raw=s.raw)(d:t.sd=s.sd)(e:t.st=s.st)(f:t.rw=s.rw):RdB t:=by
 obtain⟨⟨g,i,j,k,l⟩,m,n,o,p,q⟩:=h;exact⟨⟨by rw[a];exact g,by rw[a];exact i,by rw[a];exact j,by rw[a];exact k,by rw[a];exact l⟩,by rw[a];exact m,by rw[b];exact n,by rw[c];exact o,by rw[b];exact p,by rw[d,e,f];exact q⟩
theorem Aj{n k}(h:n<256^k)(a:k<=3):n<16777216:=Xq h (XH (n:=256) O a)
theorem RdJ.takeOk{s x}(h:RdJ s)(k:x<256):cB s x:=by
 have f:=h.p.part;have g:=h.p.len;refine⟨f,λa => ?_,λa => ?_,h.p.sum,λa => ?_,h.b.hd,λa => ?_,λa => ?_,h.b.raw,h.b.clear⟩
 .have:s.part=0\/(s.part=1\/s.part=2\/s.part=4)\/s.part=5:=O
  rcases this with b|b|b
  .have:=h.p.tk0 b;omega
  .have:=(h.p.tkn b).1;omega
  .have:=h.p.tk5 b;omega
 .obtain⟨e,d⟩:=h.p.tkn a
  exact Aj d O
 .obtain⟨e,d⟩:=h.p.tkn (R (L a))
  have l:=Aj d O;exact⟨h.b.colours,h.b.hd.K,h.b.hd.D,g,by show s.number*256+x<4294967296;omega⟩
 .have i:=h.p.tk3 a
  refine⟨λc => ?_,λc => ?_,λc => ?_,λc j => ?_⟩
  .have:=h.p.i3 a c;show s.taken<13;omega
  .have:=h.p.p3 a c;show s.taken<768;omega
  .have:=h.p.t3 a c;show s.taken<256;omega
  .obtain⟨e,d⟩:=h.b.str (h.p.d3 a c)
   exact(jx (x:=x) e d).1 j
 .have i:=h.p.tk3 a
  have b:((s.summed x).keep x).1.taken=s.taken:=by
   unfold Rd.keep;split
   .rfl
   split
   .rfl
   split
   .rfl
   split
   .unfold Rd.takeStream
    split
    .rfl
    split
    .rfl
    .rfl
   .rfl
  rw[b];omega
theorem nU{s:Rd}(h:s.checkType=0):(s.ctype=bt->s.length=13)/\(s.ctype=bC->s.length<=768)/\(s.ctype=aT->s.tl.colours<=256->s.length<=256)/\(s.ctype≠bt->s.hd.W≠0):=by
 unfold Rd.checkType at h
 split at h
 .exact absurd h O
 split at h
 .rename_i c
  unfold Rd.checkFirst at h
  split at h
  .exact absurd h O
  rename_i d
  split at h
  .exact absurd h O
  rename_i e
  have b:=Yc e;exact⟨λ_=>b,λa=>by rw[b];omega,λ_ _=>by rw[b];omega,λf=>absurd (Yc d) f⟩
 rename_i c
 split at h
 .exact absurd h O
 unfold Rd.checkKind at h
 split at h
 .exact absurd h O
 rename_i g
 refine⟨λa=>absurd a g,λa => ?_,λa i => ?_,λ_=>c⟩
 .rw[I a] at h
  unfold Rd.checkPalette at h
  split at h
  .exact absurd h O
  split at h
  .exact absurd h O
  split at h
  .exact absurd h O
  omega
 .rw[N (by rw[a];decide),I a] at h
  unfold Rd.checkClear at h;have j:=gN s.hd.K
  split at h
  .exact absurd h O
  split at h
  .split at h
   .exact absurd h O
   .omega
  split at h
  .unfold Rd.checkAlphas at h
   split at h
   .exact absurd h O
   split at h
   .exact absurd h O
   omega
  .exact absurd h O
theorem Av(s:Rd):s.note.ctype=s.ctype/\s.note.length=s.length/\s.note.sum=s.sum/\(s.ctype=ar->s.note.sd=true):=by
 have c:s.note1.ctype=s.ctype/\s.note1.length=s.length/\s.note1.sum=s.sum/\(s.ctype=ar->s.note1.sd=true):=by
  unfold Rd.note1;split
  .rename_i a;exact⟨rfl,rfl,rfl,λb=>by rw[a] at b;exact absurd b Xh⟩
  split
  .rename_i a;exact⟨rfl,rfl,rfl,λb=>by rw[a] at b;exact absurd b Xh⟩
  split
  .unfold Rd.begin
   split
   .rename_i a;exact⟨rfl,rfl,rfl,λ_=>a⟩
   .exact⟨rfl,rfl,rfl,λ_=>rfl⟩
  .rename_i a;exact⟨rfl,rfl,rfl,λb=>absurd b a⟩
 unfold Rd.note Rd.note2;split
 .exact c
 .exact c
theorem RdB.note{s}(b:RdB s)(h:s.checkType=0):RdB s.note:=by
 obtain⟨f,d,g,e⟩:=nU h;have c:RdB s.note1:=by
  unfold Rd.note1;split
  .rename_i a
   have:=d a
   exact⟨⟨b.hd.W,b.hd.H,b.hd.D,b.hd.K,b.hd.L⟩,b.dd,by show s.length/3<=256;omega,b.raw,b.clear,b.str⟩
  split
  .exact⟨⟨b.hd.W,b.hd.H,b.hd.D,b.hd.K,b.hd.L⟩,b.dd,b.colours,b.raw,b.clear,b.str⟩
  split
  .rename_i a
   unfold Rd.begin;split
   .exact b
   .exact⟨⟨b.hd.W,b.hd.H,b.hd.D,b.hd.K,b.hd.L⟩,b.dd,b.colours,b.raw,b.clear,λ_=>⟨StB.start,RwJ.start b.hd.W b.hd.H b.hd.D b.hd.K b.hd.L (b.dd (e (by rw[a];decide))) b.colours⟩⟩
  .exact b
 unfold Rd.note Rd.note2;split
 .exact c.same rfl rfl rfl rfl rfl rfl
 .exact c
theorem A3(s:Rd)x:(s.keep x).1.part=s.part/\(s.keep x).1.taken=s.taken/\(s.keep x).1.length=s.length/\(s.keep x).1.ctype=s.ctype/\(s.keep x).1.sum=s.sum/\(s.keep x).1.hd=s.hd/\(s.keep x).1.sd=s.sd:=by
 unfold Rd.keep;split
 .exact⟨rfl,rfl,rfl,rfl,rfl,rfl,rfl⟩
 split
 .exact⟨rfl,rfl,rfl,rfl,rfl,rfl,rfl⟩
 split
 .exact⟨rfl,rfl,rfl,rfl,rfl,rfl,rfl⟩
 split
 .unfold Rd.takeStream
  split
  .exact⟨rfl,rfl,rfl,rfl,rfl,rfl,rfl⟩
  split
  .exact⟨rfl,rfl,rfl,rfl,rfl,rfl,rfl⟩
  .exact⟨rfl,rfl,rfl,rfl,rfl,rfl,rfl⟩
 .exact⟨rfl,rfl,rfl,rfl,rfl,rfl,rfl⟩
theorem tX{f k x}(c:∀a,f a<256)(d:x<256)a:upd f k x a<256:=by
 by_cases b:a=k
 .rw[b,upd_same];exact d
 .rw[upd_ne _ _ _ b];exact c a
theorem RdB.keep{s x}(b:RdB s)(e:x<256)(j:s.ctype=ar->s.sd=true)(a:(s.keep x).2=0):RdB (s.keep x).1:=by
 unfold Rd.keep at a ⊢;by_cases f:s.ctype=bt
 .rw[I f]
  exact⟨⟨b.hd.W,b.hd.H,b.hd.D,b.hd.K,b.hd.L⟩,b.dd,b.colours,tX b.raw e,b.clear,b.str⟩
 rw[N f] at a ⊢;by_cases g:s.ctype=bC
 .rw[I g]
  exact⟨⟨b.hd.W,b.hd.H,b.hd.D,b.hd.K,b.hd.L⟩,b.dd,b.colours,b.raw,b.clear,b.str⟩
 rw[N g] at a ⊢;by_cases h:s.ctype=aT
 .rw[I h]
  exact⟨⟨b.hd.W,b.hd.H,b.hd.D,b.hd.K,b.hd.L⟩,b.dd,b.colours,b.raw,tX b.clear e,b.str⟩
 rw[N h] at a ⊢;by_cases d:s.ctype=ar
 .rw[I d] at a ⊢
  obtain⟨k,l⟩:=b.str (j d);unfold Rd.takeStream at a ⊢;by_cases c:(takeB s.st s.rw x).2.2≠0
  .rw[I c] at a;exact absurd a c
  rw[N c] at a ⊢;obtain⟨m,n⟩:=(jx (x:=x) k l).2 (Yc c);by_cases i:(decide ((takeB s.st s.rw x).1.part=10) && !aN (takeB s.st s.rw x).2.1)=true
  .rw[I i] at a;exact absurd a (by show ¬18=0;omega)
  rw[N i];exact⟨⟨b.hd.W,b.hd.H,b.hd.D,b.hd.K,b.hd.L⟩,b.dd,b.colours,b.raw,b.clear,λ_=>⟨m,n⟩⟩
 .rw[N d];exact b
theorem B9(s:Rd):s.accept.1.part=s.part/\s.accept.1.length=s.length/\s.accept.1.ctype=s.ctype/\s.accept.1.sum=s.sum:=by
 unfold Rd.accept;split
 .unfold Rd.acceptHead
  split
  .exact⟨rfl,rfl,rfl,rfl⟩
  .exact⟨rfl,rfl,rfl,rfl⟩
 split
 .exact⟨rfl,rfl,rfl,rfl⟩
 .exact⟨rfl,rfl,rfl,rfl⟩
theorem RdB.accept{s}(b:RdB s):RdB s.accept.1:=by
 unfold Rd.accept;split
 .unfold Rd.acceptHead
  split
  .exact b
  .rename_i a
   obtain⟨c,d,e,f,g,h⟩:=nv (Yc a);exact⟨⟨c,d,e,f,g⟩,λ_=>h,b.colours,b.raw,b.clear,b.str⟩
 split
 .exact b
 .exact b
theorem RdP.enter{s:Rd}{p}(c:p<=5)(b:p=3->0<s.length/\(s.ctype=bt->s.length=13)/\(s.ctype=bC->s.length<=768)/\(s.ctype=aT->s.length<=256)/\(s.ctype=ar->s.sd=true))(d:s.sum<4294967296)(e:s.length<2147483648):RdP (s.enter p) :=
 ⟨c,λ_=>by show 0<8;omega,λ_=>⟨by show 0<4;omega,by show 0<256^0;decide⟩,λa=>(b a).1,λ_=>rfl,d,e,λa=>(b a).2.1,λa=>(b a).2.2.1,λa=>(b a).2.2.2.1,λa=>(b a).2.2.2.2⟩
theorem uQ{n k x}(h:n<256^k)(a:x<256):n*256+x<256^(k+1):=by rw[Ya];omega
theorem RdJ.take{s x}(h:RdJ s)(o:x<256)(b:(s.take x).2=0):RdJ (s.take x).1:=by
 have r:=h.p.part;have i:=h.p.len;have l:=h.p.sum;have t:=bH _ _ l o;unfold Rd.take at b ⊢;by_cases m:s.part=0
 .rw[I m] at b ⊢
  have u:=h.p.tk0 m;unfold Rd.takeSign at b ⊢;by_cases e:8<=s.taken\/x≠lh s.taken
  .rw[I e] at b;exact absurd b (by show ¬1=0;omega)
  rw[N e];by_cases f:s.taken+1=8
  .rw[I f]
   exact⟨h.b.same rfl rfl rfl rfl rfl rfl,RdP.enter (s:={s with taken:=s.taken+1}) O (λa=>O) l i⟩
  .rw[N f]
   refine⟨h.b.same rfl rfl rfl rfl rfl rfl,⟨r,λ_=>by show s.taken+1<8;omega,λa => ?_,λa => ?_,λa => ?_,l,i,h.p.i3,h.p.p3,h.p.t3,h.p.d3⟩⟩
   .replace a:s.part=1\/s.part=2\/s.part=4:=a;omega
   .replace a:s.part=3:=a;omega
   .replace a:s.part=5:=a;omega
 rw[N m] at b ⊢;by_cases B:s.part=1
 .rw[I B] at b ⊢
  obtain⟨u,p⟩:=h.p.tkn (L B);unfold Rd.takeLength at b ⊢;by_cases e:s.taken+1≠4
  .rw[I e]
   refine⟨h.b.same rfl rfl rfl rfl rfl rfl,⟨r,λa=>absurd a m,λ_=>⟨by show s.taken+1<4;omega,uQ p o⟩,λa => ?_,λa => ?_,l,i,h.p.i3,h.p.p3,h.p.t3,h.p.d3⟩⟩
   .replace a:s.part=3:=a;omega
   .replace a:s.part=5:=a;omega
  rw[N e] at b ⊢;by_cases f:2147483648<=s.number*256+x
  .rw[I f] at b;exact absurd b (by show ¬2=0;omega)
  rw[N f];exact⟨h.b.same rfl rfl rfl rfl rfl rfl,RdP.enter O (λa=>O) (by show ag<4294967296;decide) (by show s.number*256+x<2147483648;omega)⟩
 rw[N B] at b ⊢;by_cases C:s.part=2
 .rw[I C] at b ⊢
  obtain⟨u,p⟩:=h.p.tkn (R (L C));unfold Rd.takeType at b ⊢;by_cases e:s.taken+1≠4
  .rw[I e]
   refine⟨h.b.same rfl rfl rfl rfl rfl rfl,⟨r,λa=>absurd a m,λ_=>⟨by show s.taken+1<4;omega,uQ p o⟩,λa => ?_,λa => ?_,t,i,λa => ?_,λa => ?_,λa => ?_,λa => ?_⟩⟩
   .replace a:s.part=3:=a;omega
   .replace a:s.part=5:=a;omega
   .replace a:s.part=3:=a;omega
   .replace a:s.part=3:=a;omega
   .replace a:s.part=3:=a;omega
   .replace a:s.part=3:=a;omega
  rw[N e] at b ⊢;by_cases f:(s.typed x).checkType≠0
  .rw[I f] at b;exact absurd b f
  rw[N f] at b ⊢;have n:=Yc f;have G:RdB (s.typed x):=h.b.same rfl rfl rfl rfl rfl rfl;obtain⟨S,T,U,Y⟩:=nU n;obtain⟨v,w,V,W⟩:=Av (s.typed x);have y:=G.note n;have H:(s.typed x).note.sum<4294967296:=by rw[V];exact t
  have J:(s.typed x).note.length<2147483648:=by rw[w];exact i
  by_cases q:(s.typed x).note.length=0
  .rw[I q]
   exact⟨y.same rfl rfl rfl rfl rfl rfl,RdP.enter O (λa=>O) H J⟩
  .rw[N q]
   exact⟨y.same rfl rfl rfl rfl rfl rfl,RdP.enter O (λ_=>⟨O,λd=>by rw[w];exact S (by rw[<-v];exact d),λd=>by rw[w];exact T (by rw[<-v];exact d),λd=>by rw[w];exact U (by rw[<-v];exact d) G.colours,λd=>W (by rw[<-v];exact d)⟩) H J⟩
 rw[N C] at b ⊢;by_cases g:s.part=3
 .rw[I g] at b ⊢
  have u:=h.p.tk3 g;unfold Rd.takeData at b ⊢;have X:RdB (s.summed x):=h.b.same rfl rfl rfl rfl rfl rfl;by_cases e:((s.summed x).keep x).2≠0
  .rw[I e] at b;exact absurd b e
  rw[N e] at b ⊢;have K:=X.keep o (λd=>h.p.d3 g d) (Yc e);obtain⟨D,z,j,k,A,Z,E⟩:=A3 (s.summed x) x;generalize ((s.summed x).keep x).1=c at *;replace D:c.part=s.part:=D;replace z:c.taken=s.taken:=z;replace j:c.length=s.length:=j;replace k:c.ctype=s.ctype:=k;replace A:c.sum=bh s.sum x:=A;replace E:c.sd=s.sd:=E;show RdJ c.dataEnd
  unfold Rd.dataEnd;by_cases f:c.taken+1=c.length
  .rw[I f]
   exact⟨K.same rfl rfl rfl rfl rfl rfl,RdP.enter (s:={c with taken:=c.taken+1}) O (λa=>O) (by show c.sum<_;rw[A];exact t) (by show c.length<_;rw[j];exact i)⟩
  .rw[N f]
   refine⟨K.same rfl rfl rfl rfl rfl rfl,⟨by show c.part<=5;omega,λa => ?_,λa => ?_,λ_ => ?_,λa => ?_,by show c.sum<_;rw[A];exact t,by show c.length<_;rw[j];exact i,λ_ d => ?_,λ_ d => ?_,λ_ d => ?_,λ_ d => ?_⟩⟩
   .replace a:c.part=0:=a;omega
   .replace a:c.part=1\/c.part=2\/c.part=4:=a;omega
   .show c.taken+1<c.length;omega
   .replace a:c.part=5:=a;omega
   .show c.length=13;rw[j];exact h.p.i3 g (by rw[<-k];exact d)
   .show c.length<=768;rw[j];exact h.p.p3 g (by rw[<-k];exact d)
   .show c.length<=256;rw[j];exact h.p.t3 g (by rw[<-k];exact d)
   .show c.sd=true;rw[E];exact h.p.d3 g (by rw[<-k];exact d)
 rw[N g] at b ⊢;by_cases F:s.part=4
 .rw[I F] at b ⊢
  obtain⟨u,p⟩:=h.p.tkn (R (R F));unfold Rd.takeSum at b ⊢;by_cases e:s.taken+1≠4
  .rw[I e]
   refine⟨h.b.same rfl rfl rfl rfl rfl rfl,⟨r,λa=>absurd a m,λ_=>⟨by show s.taken+1<4;omega,uQ p o⟩,λa=>absurd a g,λa => ?_,l,i,λa=>absurd a g,λa=>absurd a g,λa=>absurd a g,λa=>absurd a g⟩⟩;replace a:s.part=5:=a;omega
  rw[N e] at b ⊢;by_cases f:s.number*256+x≠aC s.sum
  .rw[I f] at b;exact absurd b (by show ¬6=0;omega)
  rw[N f] at b ⊢;have y:RdB (s.num x):=h.b.same rfl rfl rfl rfl rfl rfl;by_cases n:(s.num x).accept.2≠0
  .rw[I n] at b;exact absurd b n
  rw[N n] at b ⊢;have M:=y.accept;obtain⟨D,z,j,k⟩:=B9 (s.num x);have P:(s.num x).accept.1.sum<4294967296:=by rw[k];exact l
  have Q:(s.num x).accept.1.length<2147483648:=by rw[z];exact i
  by_cases q:(s.num x).accept.1.ctype=aJ
  .rw[I q];exact⟨M.same rfl rfl rfl rfl rfl rfl,RdP.enter O (λa=>O) P Q⟩
  .rw[N q];exact⟨M.same rfl rfl rfl rfl rfl rfl,RdP.enter O (λa=>O) P Q⟩
 rw[N F] at b;exact absurd b (by show ¬22=0;omega)
theorem ju(a b c:Nat)(h:a ^^^ c=b ^^^ c):a=b:=by
 have:(a ^^^ c) ^^^ c=(b ^^^ c) ^^^ c:=by rw[h]
 rwa [Nat.xor_assoc,Nat.xor_assoc,Nat.xor_self,Nat.xor_zero,Nat.xor_zero] at this
theorem vE{a b}(l:a<4294967296)(m:b<4294967296)(h:dz a=dz b):a=b:=by
 have g:∀c f:Nat,c<2147483648->f<2147483648->c ^^^ 3988292384≠f:=λc f i j k=>by
  have d:(c ^^^ 3988292384).testBit 31=true:=by
   rw[Nat.testBit_xor,Nat.testBit_lt_two_pow (show c<2^31 from i)];decide
  rw[k,Nat.testBit_lt_two_pow (show f<2^31 from j)] at d;cases d
 unfold dz at h;by_cases d:a%2=1
 .rw[I d] at h
  by_cases e:b%2=1
  .rw[I e] at h
   have:=ju _ _ _ h
   omega
  .rw[N e] at h
   exact absurd h (g _ _ O O)
 .rw[N d] at h
  by_cases e:b%2=1
  .rw[I e] at h
   exact absurd h.symm (g _ _ O O)
  .rw[N e] at h
   omega
theorem iy:∀(k:Nat) {a b:Nat},a<4294967296->b<4294967296->bF k a=bF k b->a=b
 | 0,_,_,_,_,c=>c
 | k+1,a,b,d,e,c=>iy k d e (vE (eC k a d) (eC k b e) c)
theorem tw{a b x}(d:a<4294967296)(e:b<4294967296)(c:x<256)(h:bh a x=bh b x):a=b:=
 ju _ _ _ (iy 8 (fx a x d c) (fx b x e c) h)
theorem tv{a x y}(b:a<4294967296)(c:x<256)(d:y<256)(h:bh a x=bh a y):x=y:=by
 have:=iy 8 (fx a x b c) (fx a y b d) h
 rw[Nat.xor_comm a x,Nat.xor_comm a y] at this;exact ju _ _ _ this
theorem ph s x l:aA s (x::l)=aA (bh s x) l:=by unfold aA;rw[List.foldl_cons]
theorem ze c:∀(a b:Nat),a<4294967296->b<4294967296->(∀e∈c,e<256)->aA a c=aA b c->a=b:=by
 induction c with
 | nil=>intro a b _ _ _ d;exact d
 | cons e c j=>
  intro a b g h i d;rw[ph,ph] at d;have f:=i e Xi;have k:=bH _ _ g f;have l:=bH _ _ h f;exact tw g h f (j _ _ k l (λm n=>i m (by simp[n])) d)
theorem zc{l1 l2 σ x y}(j:σ<4294967296)(k:∀a∈l1,a<256)(l:∀a∈l2,a<256)(f:x<256)(g:y<256)(e:aA σ (l1++x::l2)=aA σ (l1++y::l2)):x=y:=by
 have m:∀(c:List Nat) (d:Nat),d<4294967296->(∀a∈c,a<256)->aA d c<4294967296:=λc=>by
  induction c with
  | nil=>intro d b _;exact b
  | cons a c n=>intro d b h;exact n _ (bH _ _ b (h a Xi)) (λo p=>h o (by simp[p]))
 have i:∀a,aA σ (l1++a::l2)=aA (bh (aA σ l1) a) l2:=λa=>by unfold aA;rw[Yk];rfl
 rw[i,i] at e;have b:=m l1 σ j k;exact tv b f g (ze l2 _ _ (bH _ _ b f) (bH _ _ b g) l e)
theorem vD{a b}(h:aC a=aC b):a=b:=ju _ _ _ h
structure Bdy (s:Rd) (n k σ:Nat):Prop where
 len:s.length=n
 sum:s.sum=σ
 p2:k<4->s.part=2/\s.taken=k
 p3:4<=k->k<4+n->s.part=3/\s.taken=k-4
 p4:k=4+n->s.part=4/\s.taken=0/\s.number=0
theorem Bdy.step{s n k σ x}(h:Bdy s n k σ)(p:k<4+n)(a:(s.take x).2=0):Bdy (s.take x).1 n (k+1) (bh σ x):=by
 by_cases q:k<4
 .obtain⟨g,r⟩:=h.p2 q
  unfold Rd.take at a ⊢;rw[N,N,I g] at a ⊢;unfold Rd.takeType at a ⊢;by_cases c:s.taken+1≠4
  .rw[I c]
   refine⟨h.len,by show bh s.sum x=_;rw[h.sum],λ_=>⟨g,by show s.taken+1=_;omega⟩,λ_ _=>O,λ_=>O⟩
  rw[N c] at a ⊢;by_cases d:(s.typed x).checkType≠0
  .rw[I d] at a;exact absurd a d
  rw[N d] at a ⊢;obtain⟨v,t,u,w⟩:=Av (s.typed x);have i:(s.typed x).note.length=n:=by rw[t];exact h.len
  have j:(s.typed x).note.sum=bh σ x:=by rw[u];show bh s.sum x=_;rw[h.sum]
  by_cases l:(s.typed x).note.length=0
  .rw[I l]
   exact⟨i,j,λ_=>O,λ_ _=>O,λ_=>⟨rfl,rfl,rfl⟩⟩
  .rw[N l]
   exact⟨i,j,λ_=>O,λ_ _=>⟨rfl,by show 0=_;omega⟩,λ_=>O⟩
 .obtain⟨g,r⟩:=h.p3 O p
  unfold Rd.take at a ⊢;rw[N,N,N,I g] at a ⊢;unfold Rd.takeData at a ⊢;by_cases c:((s.summed x).keep x).2≠0
  .rw[I c] at a;exact absurd a c
  rw[N c];obtain⟨m,o,e,y,f,z,A⟩:=A3 (s.summed x) x;generalize ((s.summed x).keep x).1=b at *;replace m:b.part=s.part:=m;replace o:b.taken=s.taken:=o;replace e:b.length=s.length:=e;replace f:b.sum=bh s.sum x:=f;rw[h.sum] at f;rw[h.len] at e;show Bdy b.dataEnd n (k+1) (bh σ x)
  unfold Rd.dataEnd;by_cases d:b.taken+1=b.length
  .rw[I d]
   exact⟨e,f,λ_=>O,λ_ _=>O,λ_=>⟨rfl,rfl,rfl⟩⟩
  .rw[N d]
   exact⟨e,f,λ_=>O,λ_ _=>⟨by show b.part=3;omega,by show b.taken+1=_;omega⟩,λ_=>O⟩
theorem Bdy.run:∀{l:List Nat} {s b:Rd} {n k a:Nat},Rn s l b->Bdy s n k a->k+l.length<=4+n->Bdy b n (k+l.length) (aA a l)
 | [],s,b,n,k,a,c,d,_=>by cases c;exact d
 | x::l,s,b,n,k,a,c,d,e=>by
  rw[Yj] at e ⊢
  have:=Bdy.run c.2.2 (d.step O c.2.1) O
  rw[show k+1+l.length=k+(l.length+1) from O] at this;exact this
theorem jy{s:Rd}{x}(h:s.part=4)(a:s.taken+1≠4):(s.take x).1=s.num x:=by rw[fS h];unfold Rd.takeSum;rw[I a]
theorem wm{s b q0 q1 q2 q3}(h:s.part=4)(q:s.taken=0)(m:s.number=0)(g:Rn s [q0,q1,q2,q3] b):((q0*256+q1)*256+q2)*256+q3=aC s.sum/\((b.part=1/\b.taken=0/\b.number=0)\/b.part=5):=by
 obtain⟨_,_,f⟩:=g;rw[jy h O] at f;obtain⟨_,_,i⟩:=f;rw[jy (s:=s.num q0) h (by show s.taken+1+1≠4;omega)] at i;obtain⟨_,_,j⟩:=i;rw[jy (s:=(s.num q0).num q1) h (by show s.taken+1+1+1≠4;omega)] at j;obtain⟨_,c,n⟩:=j;have a:((((s.num q0).num q1).num q2).take q3).1=b:=n;rw[fS (s:=((s.num q0).num q1).num q2) h] at c a;unfold Rd.takeSum at c a;rw[N (by show ¬(s.taken+1+1+1+1≠4);omega)] at c a;have o:(((s.num q0).num q1).num q2).number=(q0*256+q1)*256+q2:=by
  show((s.number*256+q0)*256+q1)*256+q2=_
  rw[m,Nat.zero_mul,XD]
 have p:(((s.num q0).num q1).num q2).sum=s.sum:=rfl;rw[o,p] at c a;generalize ((s.num q0).num q1).num q2=k at *;by_cases d:((q0*256+q1)*256+q2)*256+q3≠aC s.sum
 .rw[I d] at c;exact absurd c (by show ¬6=0;omega)
 refine⟨Yc d,?_⟩;rw[N d] at c a;by_cases e:(k.num q3).accept.2≠0
 .rw[I e] at c;exact absurd c e
 rw[N e] at a;by_cases l:(k.num q3).accept.1.ctype=aJ
 .rw[I l] at a;right;rw[<-a];rfl
 .rw[N l] at a;left;rw[<-a];exact⟨rfl,rfl,rfl⟩
theorem jO{s:Rd}{x}(h:s.part=1)(a:s.taken+1≠4):(s.take x).1=s.num x:=by rw[take1 h];unfold Rd.takeLength;rw[I a]
theorem Dt{s b q0 q1 q2 q3}(h:s.part=1)(n:s.taken=0)(j:s.number=0)(g:Rn s [q0,q1,q2,q3] b):Bdy b (((q0*256+q1)*256+q2)*256+q3) 0 ag:=by
 obtain⟨_,_,d⟩:=g;rw[jO h O] at d;obtain⟨_,_,e⟩:=d;rw[jO (s:=s.num q0) h (by show s.taken+1+1≠4;omega)] at e;obtain⟨_,_,f⟩:=e;rw[jO (s:=(s.num q0).num q1) h (by show s.taken+1+1+1≠4;omega)] at f;obtain⟨_,a,k⟩:=f;have c:((((s.num q0).num q1).num q2).take q3).1=b:=k;rw[take1 (s:=((s.num q0).num q1).num q2) h] at a c;unfold Rd.takeLength at a c;rw[N (by show ¬(s.taken+1+1+1+1≠4);omega)] at a c;have l:(((s.num q0).num q1).num q2).number=(q0*256+q1)*256+q2:=by
  show((s.number*256+q0)*256+q1)*256+q2=_
  rw[j,Nat.zero_mul,XD]
 rw[l] at a c;by_cases i:2147483648<=((q0*256+q1)*256+q2)*256+q3
 .rw[I i] at a;exact absurd a (by show ¬2=0;omega)
 rw[N i] at c;rw[<-c];exact⟨rfl,rfl,λ_=>⟨rfl,rfl⟩,λm=>O,λm=>O⟩
theorem Rn.all:∀{l:List Nat} {s:Rd},RdJ s->(∀a∈l,a<256)->∀{d:Dc},d.file=s->d.err=0->(d.feed l).err=0->∃e,Rn s l e
 | [],s,_,_,d,_,_,_=>⟨s,rfl⟩
 | a::l,s,j,h,d,hd,f,i=>by
  have k:=h a Xi;by_cases b:(s.take a).2=0
  .have g:=uP f (by rw[hd];exact b)
   have c:((d.one a).feed l).err=0:=i;rw[g] at c;obtain⟨e,n⟩:=Rn.all (j.take k b) (λo p=>h o (by simp[p])) (d:={d with file:=(d.file.take a).1,count:=d.count+1}) (by show(d.file.take a).1=_;rw[hd]) f c;exact⟨e,(j.takeOk k),b,n⟩
  .have g:d.one a={d with file:=(d.file.take a).1,err:=(d.file.take a).2,at1:=d.count}:=by
    unfold Dc.one;rw[N (λq=>q f),I (by rw[hd];exact b)]
   have c:((d.one a).feed l).err=0:=i;have m:(d.one a).err≠0:=by rw[g];show(d.file.take a).2≠0;rw[hd];exact b
   rw[dw m] at c;exact absurd c m
theorem AT{l:List Nat}(h:4<=l.length):∃a b c d e,l=[a,b,c,d]++e:=by
 match l,h with
 | a::b::c::d::e,_=>exact⟨a,b,c,d,e,rfl⟩
theorem Rn.few{l s b m}(h:Rn s l b)(c:m<=l.length):∃a,Rn s (l.take m) a/\Rn a (l.drop m) b:=by
 have:=h
 rw[<-X7 m l] at this;exact this.cut
theorem xf:∀{l:List Nat} {s b:Rd},l.length<4->s.part=1->s.taken+l.length<4->Rn s l b->b.part=1
 | [],s,b,_,a,_,c=>by cases c;exact a
 | x::l,s,b,e,a,f,c=>by
  rw[Yj] at e f;obtain⟨_,_,d⟩:=c;rw[jO a O] at d;exact xf (s:=s.num x) O a (by show s.taken+1+l.length<4;omega) d
theorem wo:∀{l:List Nat} {s b:Rd},l.length<4->s.part=4->s.taken+l.length<4->Rn s l b->b.part=4
 | [],s,b,_,a,_,c=>by cases c;exact a
 | x::l,s,b,e,a,f,c=>by
  rw[Yj] at e f;obtain⟨_,_,d⟩:=c;rw[jy a O] at d;exact wo (s:=s.num x) O a (by show s.taken+1+l.length<4;omega) d
theorem Bdy.part{s n k σ}(h:Bdy s n k σ)(c:k<=4+n):s.part=2\/s.part=3\/s.part=4:=by
 by_cases a:k<4
 .exact L (h.p2 a).1
 by_cases b:k<4+n
 .exact R (L (h.p3 O b).1)
 .exact R (R (h.p4 O).1)
theorem BP{s b l}(g:Rn s l b)(W:b.part=5)(h:s.part=1)(E:s.taken=0)(F:s.number=0):∃d e f i m a,l=[d,e,f,i]++m/\a=((d*256+e)*256+f)*256+i/\8+a<=m.length/\∃j,Rn s [d,e,f,i] j/\Bdy j a 0 ag/\Rn j m b/\∃c,Rn j (m.take (8+a)) c/\Rn c (m.drop (8+a)) b/\((c.part=1/\c.taken=0/\c.number=0)\/(c.part=5/\m.length=8+a)):=by
 by_cases G:l.length<4
 .have:=xf G h O g;omega
 obtain⟨d,e,f,i,m,rfl⟩:=AT (by omega:4<=l.length);obtain⟨j,x,q⟩:=g.cut;have k:=Dt h E F x;obtain⟨a,y⟩:∃a,a=((d*256+e)*256+f)*256+i:=⟨_,rfl⟩;rw[<-y] at k;have z:8+a<=m.length:=Yc λH=>by
  by_cases X:m.length<=4+a
  .have:=(k.run q O).part O
   omega
  .obtain⟨I,r,n⟩:=q.few (m:=4+a) O
   have o:=k.run r Xo;rw[Yd,Nat.min_eq_left O,XD] at o;obtain⟨v,A,B⟩:=o.p4 rfl
   have:=wo (by rw[Yn];omega) v (by rw[Yn];omega) n
   omega
 obtain⟨c,r,n⟩:=q.few (m:=8+a) z;obtain⟨I,J,C⟩:=r.few (m:=4+a) Xo;have o:=k.run J (by rw[Yd,Yd];omega);rw[Yd,Yd,Nat.min_eq_left O,XD] at o;obtain⟨v,A,B⟩:=o.p4 rfl;obtain⟨K,M,P,Q,S,D⟩:=AT (l:=(m.take (8+a)).drop (4+a)) (by rw[Yn,Yd];omega);have T:S=[]:=by
  have:=congrArg List.length D
  rw[Yn,Yd,Xv] at this;have Y:[K,M,P,Q].length=4:=rfl;exact List.length_eq_zero_iff.1 O
 rw[D,T,XN] at C;obtain⟨_,p⟩:=wm v A B C;refine⟨d,e,f,i,m,a,rfl,y,z,j,x,k,q,c,r,n,?_⟩;rcases p with p|p
 .exact L p
 .refine R ⟨p,Yc λH => ?_⟩
  obtain⟨t,u,U⟩:∃t u,m.drop (8+a)=t::u:=by
   cases V:m.drop (8+a) with
   | nil=>
    have:=congrArg List.length V
    rw[Yn] at this;have Z:([]:List Nat).length=0:=rfl;omega
   | cons t u=>exact⟨t,u,rfl⟩
  rw[U] at n;obtain⟨_,w,_⟩:=n;unfold Rd.take at w;rw[N,N,N,N,N] at w;exact absurd w (by show ¬22=0;omega)
theorem tH{a b n m}(o:Bdy a n 0 ag)(g:Rn a m b)(v:m.length=8+n):∃c d e f,m.drop (4+n)=[c,d,e,f]/\((c*256+d)*256+e)*256+f=aC (aA ag (m.take (4+n))):=by
 obtain⟨w,p,j⟩:=g.few (m:=4+n) O;have i:=o.run p Xo;rw[Yd,Nat.min_eq_left O,XD] at i;obtain⟨q,r,s⟩:=i.p4 rfl;obtain⟨c,d,e,f,t,h⟩:=AT (l:=m.drop (4+n)) (by rw[Yn];omega);have u:t=[]:=by
  have:=congrArg List.length h
  rw[Yn,Xv] at this;have x:[c,d,e,f].length=4:=rfl;exact List.length_eq_zero_iff.1 O
 rw[u,XN] at h;rw[h] at j;obtain⟨k,_⟩:=wm q r s j;rw[i.sum] at k;exact⟨c,d,e,f,h,k⟩
theorem zq{a b b' n l1 l2 x y}(E:Bdy a n 0 ag)(g:Rn a (l1++x::l2) b)(L:Rn a (l1++y::l2) b')(o:(l1++x::l2).length=8+n)(h:∀c∈l1++x::l2,c<256)(F:y<256):x=y:=by
 have M:(l1++y::l2).length=8+n:=by rw[<-o,Xv,Xv,Yj,Yj]
 obtain⟨G,p,q,r,f,s⟩:=tH E g o;obtain⟨H,t,u,v,e,i⟩:=tH E L M;have I:∀c∈l1,c<256:=λc d=>h c (by simp[d])
 have J:∀c∈l2,c<256:=λc d=>h c (by simp[d])
 rw[Xv,Yj] at o;by_cases N:l1.length<4+n
 .obtain⟨j,K⟩:∃j,4+n-l1.length=j+1:=⟨4+n-l1.length-1,O⟩
  have k:∀c,(l1++c::l2).take (4+n)=l1++c::l2.take j:=λc=>by
   rw[List.take_append,K,List.take_succ_cons,X6 O]
  have l:∀c,(l1++c::l2).drop (4+n)=l2.drop j:=λc=>by
   rw[List.drop_append,K,List.drop_succ_cons,List.drop_of_length_le O,Ze]
  rw[l] at f e;rw[f] at e
  injection e with w e
  injection e with z e
  injection e with A e
  injection e with B e
  rw[<-w,<-z,<-A,<-B,s] at i;have m:=vD i;rw[k,k] at m;exact zc Xh I (λc d=>J c (YE d)) (h x Xi) F m
 .have k:∀c,(l1++c::l2).take (4+n)=l1.take (4+n):=λc=>by
   rw[List.take_append,show 4+n-l1.length=0 from O,List.take_zero,XN]
  have l:∀c,(l1++c::l2).drop (4+n)=l1.drop (4+n)++c::l2:=λc=>by
   rw[List.drop_append,show 4+n-l1.length=0 from O,List.drop_zero]
  rw[k] at s i;rw[<-s] at i;have C:∀c∈[G,p,q,r],c<256:=λc d=>by rw[<-f] at d;exact h c (Yu d)
  have D:∀c∈[H,t,u,v],c<256:=λc d=>by
   rw[<-e,l] at d;rcases XW.1 d with d|d
   .exact I c (Yu d)
   .rcases Y4.1 d with d|d
    .rw[d];exact F
    .exact J c d
  have P:=C p Xi;have Q:=C q Xi;have R:=C r Xi;have S:=D t Xi;have T:=D u Xi;have U:=D v Xi;have w:H=G:=O;have z:t=p:=O;have A:u=q:=O;have B:v=r:=O;rw[l] at f e;rw[w,z,A,B,<-f] at e
  have:=List.append_cancel_left e
  injection this with m _
  exact m.symm
theorem KO:RdJ rd0:=by
 refine⟨⟨dI,λa=>absurd rfl a,Xh,λb=>Xp,λc=>Xp,λa=>by cases a⟩,⟨Xh,λ_=>Xh,λa => ?_,λa => ?_,λa => ?_,Xh,Xh,λa => ?_,λa => ?_,λa => ?_,λa => ?_⟩⟩
 all_goals first|exact absurd a Xh
theorem Rn.rdJ:∀{l:List Nat} {s b:Rd},Rn s l b->(∀x∈l,x<256)->RdJ s->RdJ b
 | [],s,b,a,_,k=>by cases a;exact k
 | x::l,s,b,a,c,k=>Rn.rdJ a.2.2 (λd e=>c d (by simp[e])) (k.take (c x Xi) a.2.1)
structure RdE (s:Rd):Prop where
 hd:lB s
 clear:∀j,s.tl.clear j<256
theorem RdE.same{s t}(h:RdE s)(a:t.hd=s.hd)(b:t.tl.clear=s.tl.clear):RdE t:=by
 obtain⟨⟨c,d,e,f,g⟩,i⟩:=h;exact⟨⟨by rw[a];exact c,by rw[a];exact d,by rw[a];exact e,by rw[a];exact f,by rw[a];exact g⟩,by rw[b];exact i⟩
theorem RdE.note{s}(h:RdE s):RdE s.note:=by
 have a:RdE s.note1:=by
  unfold Rd.note1;split
  .exact h.same rfl rfl
  split
  .exact h.same rfl rfl
  split
  .unfold Rd.begin
   split
   .exact h
   .exact h.same rfl rfl
  .exact h
 unfold Rd.note Rd.note2;split
 .exact a.same rfl rfl
 .exact a
theorem RdE.keep{s x}(h:RdE s)(a:x<256):RdE (s.keep x).1:=by
 unfold Rd.keep;split
 .exact h.same rfl rfl
 split
 .exact h.same rfl rfl
 split
 .exact⟨⟨h.hd.W,h.hd.H,h.hd.D,h.hd.K,h.hd.L⟩,tX h.clear a⟩
 split
 .unfold Rd.takeStream
  split
  .exact h.same rfl rfl
  split
  .exact h.same rfl rfl
  .exact h.same rfl rfl
 .exact h
theorem RdE.accept{s}(h:RdE s):RdE s.accept.1:=by
 unfold Rd.accept;split
 .unfold Rd.acceptHead
  split
  .exact h
  .rename_i a
   obtain⟨b,c,d,e,f,g⟩:=nv (Yc a);exact⟨⟨b,c,d,e,f⟩,h.clear⟩
 split
 .exact h
 .exact h
theorem RdE.take{s x}(h:RdE s)(d:x<256):RdE (s.take x).1:=by
 unfold Rd.take;split
 .unfold Rd.takeSign
  split
  .exact h
  split
  .exact h.same rfl rfl
  .exact h.same rfl rfl
 split
 .unfold Rd.takeLength
  split
  .exact h.same rfl rfl
  split
  .exact h.same rfl rfl
  .exact h.same rfl rfl
 split
 .unfold Rd.takeType
  have a:RdE (s.typed x):=h.same rfl rfl;split
  .exact h.same rfl rfl
  split
  .exact a
  split
  .exact a.note.same rfl rfl
  .exact a.note.same rfl rfl
 split
 .have b:=RdE.keep (s:=s.summed x) (x:=x) (h.same rfl rfl) d
  unfold Rd.takeData;split
  .exact b
  .show RdE ((s.summed x).keep x).1.dataEnd
   unfold Rd.dataEnd;split
   .exact b.same rfl rfl
   .exact b.same rfl rfl
 split
 .unfold Rd.takeSum
  have c:=RdE.accept (s:=s.num x) (h.same rfl rfl);split
  .exact h.same rfl rfl
  split
  .exact h.same rfl rfl
  split
  .exact c
  split
  .exact c.same rfl rfl
  .exact c.same rfl rfl
 .exact h
theorem pf:∀{l:List Nat} {d:Dc},RdJ d.file->(∀a∈l,a<256)->d.err=0->(d.feed l).err≠0->∃c a h b,l=c++a::h/\Rn d.file c b/\(b.take a).2≠0/\d.feed l=⟨(b.take a).1,d.count+c.length,(b.take a).2,d.count+c.length⟩
 | [],d,_,_,f,i=>absurd f i
 | a::l,d,j,m,f,i=>by
  have n:=m a Xi;by_cases e:(d.file.take a).2=0
  .have g:=uP f e
   have o:((d.one a).feed l).err≠0:=i;rw[g] at o;obtain⟨c,k,h,b,p,q,r,s⟩:=pf (l:=l) (d:={d with file:=(d.file.take a).1,count:=d.count+1}) (j.take n e) (λk t=>m k (by simp[t])) f o;refine⟨a::c,k,h,b,by rw[p];rfl,⟨(j.takeOk n),e,q⟩,r,?_⟩;show(d.one a).feed l=_
   rw[g,s,Yj];show(⟨_,d.count+1+c.length,_,d.count+1+c.length⟩:Dc)=_
   rw[show d.count+1+c.length=d.count+(c.length+1) from O]
  .have g:d.one a={d with file:=(d.file.take a).1,err:=(d.file.take a).2,at1:=d.count}:=by
    unfold Dc.one;rw[N (λu=>u f),I e]
   have v:(d.one a).err≠0:=by rw[g];exact e
   refine⟨[],a,l,d.file,rfl,rfl,e,?_⟩;show(d.one a).feed l=_
   rw[dw v,g];rfl
theorem RdJ.feedOk{d l}(j:RdJ d.file)(c:∀a∈l,a<256)(e:d.err=0)(n:d.count+l.length<=4294967296):bm d l:=by
 intro f a g k;have o:=(Yb.1 g).1;have h:∀b∈l.take f,b<256:=λb m=>c b (YE m)
 obtain⟨p,i⟩:=Rn.all j h rfl e k;rw[i.feed e];refine⟨(i.rdJ h j).takeOk (c a (X8 g)),?_⟩;show d.count+(l.take f).length<=_
 rw[Yd];omega
theorem lG:∀{l:List Nat} {s b:Rd},Rn s l b->s.part=0->s.taken+l.length<8->b.part=0/\b.taken=s.taken+l.length
 | [],s,b,d,p,_=>by cases d;exact⟨p,rfl⟩
 | x::l,s,b,d,p,f=>by
  rw[Yj] at f ⊢;obtain⟨_,a,c⟩:=d;unfold Rd.take at a c;rw[I p] at a c;unfold Rd.takeSign at a c;by_cases e:8<=s.taken\/x≠lh s.taken
  .rw[I e] at a;exact absurd a (by show ¬1=0;omega)
  rw[N e,N] at c
  have:=lG (s:={s with taken:=s.taken+1}) c p (by show s.taken+1+l.length<8;omega)
  refine⟨this.1,this.2.trans ?_⟩;show s.taken+1+l.length=_
  omega
theorem sg{s:Rd}{x}(p:s.part=0)(h:(s.take x).2=0):x=lh s.taken:=by
 unfold Rd.take at h;rw[I p] at h;unfold Rd.takeSign at h;by_cases a:8<=s.taken\/x≠lh s.taken
 .rw[I a] at h;exact absurd h (by show ¬1=0;omega)
 .exact Yc λb=>a (R b)
structure Brd (F:List Nat) (c:Nat):Prop where
 le:c<=F.length
 ex:∃s,Rn rd0 (F.take c) s/\s.part=1/\s.taken=0/\s.number=0
theorem KR{F fin}(g:Rn rd0 F fin)(p:fin.part=5):Brd F 8:=by
 have f:8<=F.length:=Yc λq=>by
  have:=lG g rfl (by show 0+F.length<8;omega)
  omega
 obtain⟨h,i,r⟩:=g.few (m:=8) f;refine⟨f,h,i,?_⟩;obtain⟨d,l,j⟩:=i.few (m:=7) Xo;have e:=lG l rfl (by show 0+_<8;rw[Yd,Yd];omega);rw[Yd,Yd,Nat.min_eq_left O] at e;obtain⟨c,n⟩:∃c,(F.take 8).drop 7=[c]:=List.length_eq_one_iff.1 (by rw[Yn,Yd];omega);rw[n] at j;obtain⟨_,a,o⟩:=j;have b:(d.take c).1=h:=o;have s:=e.2.trans (by show 0+7=7;rfl);unfold Rd.take at a b;rw[I e.1] at a b;unfold Rd.takeSign at a b;by_cases k:8<=d.taken\/c≠lh d.taken
 .rw[I k] at a;exact absurd a (by show ¬1=0;omega)
 rw[N k,I] at b;rw[<-b];exact⟨rfl,rfl,rfl⟩
structure IA (F:List Nat) (c n:Nat):Prop where
 num:∃q0 q1 q2 q3,F[c]? = some q0/\F[c+1]? = some q1/\F[c+2]? = some q2/\F[c+3]? = some q3/\n=16777216*q0+65536*q1+256*q2+q3
 fit:c+12+n<=F.length
 body:∃P q0 q1 q2 q3 m s a,F=P++([q0,q1,q2,q3]++m)/\P.length=c/\Rn rd0 P s/\Rn s [q0,q1,q2,q3] a/\Bdy a n 0 ag/\8+n<=m.length
 next:c+12+n<F.length->Brd F (c+12+n)
theorem Brd.n{F fin c}(g:Rn rd0 F fin)(t:fin.part=5)(h:Brd F c):∃a,IA F c a:=by
 obtain⟨u,n,v,w,x⟩:=h.ex;obtain⟨G,y,r⟩:=g.few h.le;rw[(y.det n)] at r;obtain⟨b,d,e,f,i,a,s,H,z,A,o,B,I,C,D,J,j⟩:=BP r t v w x;have p:F=F.take c++([b,d,e,f]++i):=by rw[<-s,X7]
 have k:(F.take c).length=c:=by rw[Yd];have:=h.le;omega
 have m:∀q,F[c+q]? = ([b,d,e,f]++i)[q]? := λq=>by rw[p,XP (by rw[k];omega),k,YT]
 have K:F.length=c+4+i.length:=by
  have:=congrArg List.length p
  rw[Xv,Xv,k] at this;have o:[b,d,e,f].length=4:=rfl;omega
 refine⟨a,⟨b,d,e,f,by have:=m 0;simpa using this,by have:=m 1;simpa using this,by have:=m 2;simpa using this,by have:=m 3;simpa using this,O⟩,O,⟨F.take c,b,d,e,f,i,u,A,p,k,n,o,B,z⟩,λL => ?_⟩;rcases j with j|j
 .refine⟨O,C,?_,j⟩
  have E:F.take (c+12+a)=F.take c++([b,d,e,f]++i.take (8+a)):=by
   rw[show c+12+a=c+(4+(8+a)) from O,List.take_add,s,List.take_append,X6 (l:=[b,d,e,f]) (by show 4<=_;omega)];rw[show 4+(8+a)-[b,d,e,f].length=8+a from by show 4+(8+a)-4=_;omega]
  rw[E];exact n.append (o.append D)
 .omega
def ot(F:List Nat)(i:Nat):Prop:=i<8\/∃c n,IA F c n/\c+4<=i/\i<c+12+n
theorem Co{F fin a b'}(g:Rn rd0 F fin)(y:∀x∈F,x<256){i x s}(z:F[i]? = some x)(J:s<256)(K:ot F i)(f:Rn rd0 (F.take i) a)(t:Rn a (s::F.drop (i+1)) b'):s=x:=by
 have L:=(Yb.1 z).1;have M:=(Yb.1 z).2;have A:F.drop i=x::F.drop (i+1):=by rw[<-M];exact(List.getElem_cons_drop L).symm
 obtain⟨a0,N,h⟩:=g.few (m:=i) O;rw[N.det f,A] at h;rcases K with a1|⟨j,B,P,a2,a3⟩
 .have C:=lG f rfl (by show 0+_<8;rw[Yd];omega)
  rw[sg C.1 t.2.1,sg C.1 h.2.1]
 .obtain⟨u,k,n,o,p,e,a4,a5,v,D,Q,R,S,a6⟩:=P.body
  obtain⟨b,a7⟩:∃b,i=j+4+b:=⟨i-(j+4),O⟩;have a8:b<e.length:=O;have E:[k,n,o,p].length=4:=rfl;have T:F.take i=u++([k,n,o,p]++e.take b):=by
   rw[v,List.take_append,X6 (l:=u) O,List.take_append,X6 (l:=[k,n,o,p]) O,D,E,show i-j-4=b from O]
  have G:e.drop b=x::F.drop (i+1):=by
   rw[<-A,v,List.drop_append,List.drop_of_length_le (l:=u) O,Ze,List.drop_append,List.drop_of_length_le (l:=[k,n,o,p]) O,Ze,D,E,show i-j-4=b from O]
  rw[T] at f;obtain⟨a9,U,H⟩:=f.cut;rw[U.det Q] at H;obtain⟨b0,V,w⟩:=H.cut;rw[V.det R] at w;generalize F.drop (i+1)=q at *;have W:q.length=e.length-b-1:=by
   have:=congrArg List.length G
   rw[Yn,Yj] at this;omega
  obtain⟨r,b1⟩:∃r,8+B=b+(r+1):=⟨8+B-b-1,O⟩;have X:∀c,c::q=(c::q.take r)++q.drop r:=λc=>by rw[Ye,X7]
  rw[X] at t h;obtain⟨b2,Y,_⟩:=h.cut;obtain⟨b3,Z,_⟩:=t.cut;have I:∀c∈e,c∈F:=λc d=>by rw[v];simp[d]
  refine(zq S (w.append Y) (w.append Z) ?_ ?_ J).symm
  .rw[Xv,Yd,Yj,Yd,W]
   omega
  .intro c d
   rcases XW.1 d with d|d
   .exact y c (I c (YE d))
   .refine y c (I c (Yu (i:=b) ?_))
    rw[G];rcases Y4.1 d with d|d
    .rw[d];simp
    .exact List.mem_cons_of_mem _ (YE d)
structure EV (a:Rd) (i:Nat) (G:List Nat) (d:Dc):Prop where
 feed:(⟨a,i,0,0⟩:Dc).feed G=d
 ok:bm ⟨a,i,0,0⟩ G
 err:d.err≠0
 at1:i<=d.at1
 show':cC d.file
 pal:aI d.file
theorem G1{F fin}(g:Rn rd0 F fin)(E:fin.part=5)(l:∀x∈F,x<256)(G:F.length<=4294967296){i x e}(r:F[i]? = some x)(s:e<256)(z:e≠x)(A:ot F i):∃c,Rn rd0 (F.take i) c/\∃B,EV c i (e::F.drop (i+1)) B:=by
 have H:=(Yb.1 r).1;obtain⟨c,f,I⟩:=g.few (m:=i) O;have t:∀b∈F.take i,b<256:=λb a=>l b (YE a)
 have j:=f.rdJ t KO;have h:∀b∈e::F.drop (i+1),b<256:=λb a=>by
  rcases Y4.1 a with a|a
  .rw[a];exact s
  .exact l b (Yu a)
 have k:((⟨c,i,0,0⟩:Dc).feed (e::F.drop (i+1))).err≠0:=λk=>by
  obtain⟨J,C⟩:=Rn.all j h (d:=⟨c,i,0,0⟩) rfl rfl k;exact z (Co g l r s A f C)
 obtain⟨u,b,K,L,v,n,M,o⟩:=pf (d:=⟨c,i,0,0⟩) j h rfl k;have a:=h b (by rw[v];simp);have w:∀p∈u,p<256:=λp D=>h p (by rw[v];simp[D])
 have q:=n.rdJ w j;have y:=RdE.take ⟨q.b.hd,q.b.clear⟩ a;refine⟨c,f,_,rfl,(RdJ.feedOk (d:=⟨c,i,0,0⟩) j h rfl (by show i+_<=_;rw[Yj,Yn];omega)),k,?_,?_,?_⟩
 .rw[o];show i<=i+u.length;omega
 .rw[o];exact⟨y.hd,y.clear,(n.smI (f.smI yp)).take (q.takeOk a)⟩
 .rw[o];exact(n.palI w (f.palI t jJ)).take a
theorem zl b n c d w(a:Blk w b n c)(e:DcV c 0 d)(l:5957<=n)(h:d.err≠0):Calls prog 23 #[.pointer (some ⟨b,0,none⟩)] w λj k=>j=.returned (.tuple #[.int .i64 d.err,.int .i64 d.at1])/\Kept w k:=by
 have f:=a.at (i:=5955) O e.err;have g:=a.at (i:=5956) O e.at1;replace f:w.cell? ⟨b,5955,none⟩=some (.int .i64 d.err):=f;replace g:w.cell? ⟨b,5956,none⟩=some (.int .i64 d.at1):=g;have m:((d.err:Int)==0)=false:=Xa;generalize d.err=o at *;generalize d.at1=p at *;clear a e h;go_enter func23,ntmps23;go_wp2_with fail;go_quiet (fail);go_wp2;go_ret2;exact⟨rfl,(Kept.refl _).drewN _⟩
theorem vJ{w W g d}(h:DI w W g d)(e:d.err≠0):Calls prog 23 #[.pointer (some ⟨g,0,none⟩)] W λb a=>b=.returned (.tuple #[.int .i64 d.err,.int .i64 d.at1])/\DI w a g d/\Kept W a:=by
 obtain⟨f,i,j⟩:=h.ex;refine(zl g 5957 f d W i j (E _) e).mono ?_;rintro b a ⟨rfl,c⟩;exact⟨rfl,h.on c,c⟩
theorem vw{w W g d d'}t(h:DI w W g d)(f:bm d (aj t))(i:d.feed (aj t)=d')(j:t.size<=2147483648)(b:bw w):Calls prog 22 #[.pointer (some ⟨g,0,none⟩),.string t] W λc a=>c=.returned (.tuple #[.int .i64 d'.err,.int .i64 d'.at1])/\DI w a g d'/\Fr1 g W a:=by
 obtain⟨k,l,m⟩:=h.ex;rw[<-i];refine(nK g 5957 t k d W l m (E _) f j (b.kept h.kept) (b.new h.lo)).mono ?_;rintro c a ⟨rfl,e⟩;obtain⟨o,p,q,n⟩:=id e;exact⟨rfl,h.step e,n⟩
def pxL(d:Dc):List Int:=if d.file.hd.W=0 then[] else(List.range (4*(d.file.hd.W*d.file.hd.H))).map (λj=>pxP d.file.rw d.file.tl d.file.hd (j/4%d.file.hd.W) (j/4/d.file.hd.W) (j%4))
def SnT(W:World)(d:Dc)(e:Ending)(W':World):Prop:=∃(cs:List Value) (p:Option Addr) (n c:Nat),e=.returned (.agg cs.toArray)/\cs.length=11/\(∀v∈cs,v.oneCell'=true)/\cs[0]? = some (.int .i64 (d.err:Int))/\cs[1]? = some (.int .i64 (d.at1:Int))/\cs[2]? = some (.bool false)/\cs[9]? = some (.slice p n c)/\n=(pxL d).length/\LAt W' .i64 (.slice p (pxL d).length c) (pxL d)/\(∀g',ai (.slice p n c)=some g'->W.heap.size<=g')/\Kept W W'
theorem Ha{w W g d}(h:DI w W g d)(i:d.err≠0)(n:cC d.file)(o:aI d.file)(p:aS w):Calls prog 24 #[.pointer (some ⟨g,0,none⟩)] W λj k=>SnT W d j k:=by
 refine(jb h n o p).mono ?_;rintro j k ⟨l,⟨e,rfl⟩|⟨e,x,q,y,rfl,z,m,A⟩⟩
 .rw[J i,YM]
  have b:pxL d=[]:=I e;refine⟨_,none,0,0,rfl,rfl,?_,rfl,rfl,rfl,rfl,by rw[b];rfl,?_,λr f=>(by cases f),l⟩
  .intro s a
   unfold rX at a;simp only[Y4,List.not_mem_nil,or_false] at a;rcases a with rfl|rfl|rfl|rfl|rfl|rfl|rfl|rfl|rfl|rfl|rfl<;>rfl
  .rw[b]
   exact⟨⟨none,0,rfl⟩,λB C _ t u=>absurd u (by show ¬t<0;omega)⟩
 .rw[J i,YM]
  have b:pxL d=(List.range (4*(d.file.hd.W*d.file.hd.H))).map (λc=>pxP d.file.rw d.file.tl d.file.hd (c/4%d.file.hd.W) (c/4/d.file.hd.W) (c%4)):=N e;refine⟨_,some ⟨q,0,none⟩,4*(d.file.hd.W*d.file.hd.H),4*(d.file.hd.W*d.file.hd.H),rfl,rfl,?_,rfl,rfl,rfl,rfl,by rw[b,List.length_map,List.length_range],?_,λr f=>(by cases f;exact m.1),l⟩
  .intro s a
   unfold snW at a;simp only[Y4,List.not_mem_nil,or_false] at a;rcases a with rfl|rfl|rfl|rfl|rfl|rfl|rfl|rfl|rfl|rfl|rfl<;>rfl
  .rw[b]
   exact dW (λc v=>by rw[XD];exact m.2.2 c v)
theorem C8{d}(a:cC d.file):(pxL d).length<=100000:=by
 unfold pxL;split
 .show 0<=100000;omega
 .rw[List.length_map,List.length_range]
  have:d.file.hd.W*d.file.hd.H<=16*16:=XF a.hd.W a.hd.H
  omega
structure Iu (W:World) (B:Nat) (ff:ByteArray):Prop where
 lt:B<W.heap.size
 cell:∀j y:Nat,(aj ff)[j]? = some y->W.cell? ⟨B,j,none⟩=some (.int .u8 (y:Int))
 fz:∀j,j<ff.size->W.frozen? ⟨B,j,none⟩=false
theorem zp ff j y(h:(aj ff)[j]? = some y):∃e:j<ff.data.size,ff.data[j].toNat=y:=by
 unfold aj at h;rw[XQ] at h;obtain⟨f,b,c⟩:=Option.map_eq_some_iff.1 h;obtain⟨a,d⟩:=Yb.1 b;rw[Array.length_toList] at a;refine⟨a,?_⟩;rw[<-c,<-d,Array.getElem_toList]
theorem Ih w ff:∃a c,ff.size<=a/\(convert 9 56 (.string ff)).run prog w=.ok (.slice (some ⟨w.heap.size,0,none⟩) ff.size a) c/\Iu c w.heap.size ff/\Kept w c:=by
 have d:=run_bytes_of_string (P:=prog) w 9 56 5 ff underlying9 underlying56 underlying5;have e:=grownCap_ge w ff.size 0 5;generalize grownCap w ff.size 0 5=a at *;have j:ff.size<=(bytesRow ff a).size:=by
  unfold bytesRow;rw[Array.size_append,Array.size_map];show ff.data.size<=_
  omega
 refine⟨a,_,e,d,⟨?_,λb f g => ?_,λb k => ?_⟩,?_⟩
 .show w.heap.size<(w.heap.push _).size
  rw[Array.size_push];omega
 .obtain⟨h,i⟩:=zp ff b f g
  have:=World.cell?_alloc_mark w.drew (bytesRow ff a) 5 ((bytesRow ff a).size,(bytesRow ff a).size+1) b
  rw[bytesRow_at ff a b h,i] at this;exact this
 .have:=World.frozen?_alloc_mark w.drew (bytesRow ff a) 5 (bytesRow ff a).size ((bytesRow ff a).size+1) b
  rw[J,YM] at this;exact this
 .exact Xw ((Kept.refl w).drewN 1) (E _) _
