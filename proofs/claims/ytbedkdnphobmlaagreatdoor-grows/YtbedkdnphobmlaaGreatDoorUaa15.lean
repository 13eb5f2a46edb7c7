import Derived.Test.YtbedkdnphobmlaaGreatDoorProg
import Derived.Test.YtbedkdnphobmlaaGreatDoorUaa00
import Derived.Test.YtbedkdnphobmlaaGreatDoorUaa01
import Derived.Test.YtbedkdnphobmlaaGreatDoorUaa02
import Derived.Test.YtbedkdnphobmlaaGreatDoorUaa04
import Derived.Test.YtbedkdnphobmlaaGreatDoorUaa05
import Derived.Test.YtbedkdnphobmlaaGreatDoorUaa07
import Derived.Test.YtbedkdnphobmlaaGreatDoorUaa12
set_option linter.all false
set_option maxRecDepth 100000
set_option maxHeartbeats 0
namespace Go.Proofs.YtbedkdnphobmlaaGreatDoor
open Go.RowKit Px Tryz
def aR(b o n:Nat)(c:Nat->Value)(s':Rd)(w w':World):Prop:=∃d,Blk w' b n d/\RdV d o s'/\FrC b o (o+5954) c d/\Fr1 b w w'
theorem aR.refl{b o n c s w}(a:Blk w b n c)(d:RdV c o s):aR b o n c s w w:=⟨c,a,d,FrC.refl _ _ _ _,Fr.refl _ _⟩
theorem aR.of_kept{b o n c s w w'}(a:Blk w b n c)(d:RdV c o s)(k:Kept w w'):aR b o n c s w w':=⟨c,a.kept k,d,FrC.refl _ _ _ _,Fr.of_kept k⟩
theorem aR.next{b o n c d s w w1 w'}(a:FrC b o (o+5954) c d)(e:Fr1 b w w1)(k:aR b o n d s w1 w'):aR b o n c s w w':=by
 obtain⟨f,g,h,i,j⟩:=k;exact⟨f,g,h,a.trans i,e.trans j⟩
def Rd.enter(s:Rd)(p:Nat):Rd:={s with part:=p,taken:=0,number:=0}
theorem fE(b a n p:Nat)c s w(d:Blk w b n c)(e:RdV c a s)(l:a+5954<=n):Calls prog 79 #[.pointer (some ⟨b,a,none⟩),.int .i64 p] w λf g=>f=.returned (.tuple #[])/\aR b a n c (s.enter p) w g:=by
 have m:=d.at (i:=a) O e.part;have o:=d.at (i:=a+1) O e.taken;have q:=d.at (i:=a+2) O e.number;have r:=d.fz;have h:Z _:=d;have j:Z _:=e;clear d e;go_enter func79,ntmps79;go_wp2;go_end0
 exact⟨rfl,_,((h.o.set (k:=a) O _).set (k:=a+1) O _).set (k:=a+2) O _,((j.o.set_part p).set_taken 0).set_number 0,((FrC.upd _ O O).trans (FrC.upd _ O O)).trans (FrC.upd _ O O),Fr1.set (Fr1.set (Fr1.set (Fr.refl _ _) _ _) _ _) _ _⟩
def Rd.num(s:Rd)(x:Nat):Rd:={s with number:=s.number*256+x,taken:=s.taken+1}
theorem u32_or8(m x:Nat)(a:m<16777216)(b:x<256):bits .or .u32 ((m:Int)*256) (x:Int)=((m*256+x:Nat):Int):=by
 rw[show(m:Int)*256=((m*256:Nat):Int) from O,u32_or_nat _ _ O O,nat_join 8 (m*256) x O O]
theorem uI(b a n x:Nat)c s w(d:Blk w b n c)(f:RdV c a s)(v:a+5954<=n)(y:s.taken<1000)(l:s.number<16777216)(m:x<256):Calls prog 80 #[.pointer (some ⟨b,a,none⟩),.int .u8 x] w λo p=>o=.returned (.bool (decide (s.taken+1=4)))/\aR b a n c (s.num x) w p:=by
 have z:=d.at (i:=a+1) O f.taken;have A:=d.at (i:=a+2) O f.number;have B:=d.fz;have q:=u32_or8 s.number x l m;have r:Z _:=d;have t:Z _:=f;obtain⟨g,h⟩:∃g,g=s.number*256+x:=⟨_,rfl⟩;obtain⟨e,j⟩:∃e,e=s.taken+1:=⟨_,rfl⟩;have C:(s.taken:Int)+1=(e:Int):=O;rw[<-h] at q;have u:Z (s.num x={s with number:=g,taken:=e}):=by show s.num x=_;unfold Rd.num;rw[h,j]
 rw[<-j];clear d f h j;go_enter func80,ntmps80;go_wp2;go_ret;refine⟨bz (by rw[X4,XI,XL];omega),?_⟩;rw[u.o];exact⟨_,(r.o.set (k:=a+2) O _).set (k:=a+1) O _,(t.o.set_number g).set_taken e,(FrC.upd _ O O).trans (FrC.upd _ O O),Fr1.set (Fr1.set (Fr.refl _ _) _ _) _ _⟩
theorem mC:∀(i:Nat) (h:i<8) (h':i<(ByteArray.mk #[137,80,78,71,13,10,26,10]).size),((ByteArray.mk #[137,80,78,71,13,10,26,10])[i]'h').toNat=lh i
 | 0,_,_=>rfl
 | 1,_,_=>rfl
 | 2,_,_=>rfl
 | 3,_,_=>rfl
 | 4,_,_=>rfl
 | 5,_,_=>rfl
 | 6,_,_=>rfl
 | 7,_,_=>rfl
def Rd.takeSign(s:Rd)(x:Nat):Rd×Nat:=
 if 8<=s.taken\/x≠lh s.taken then(s,1)
 else if s.taken+1=8 then(({s with taken:=s.taken+1}:Rd).enter 1,0) else({s with taken:=s.taken+1},0)
theorem ue(b a n x:Nat)c s w(j:Blk w b n c)(m:RdV c a s)(t:a+5954<=n)(A:s.taken<1000)(B:x<256):Calls prog 51 #[.pointer (some ⟨b,a,none⟩),.int .u8 x] w λq u=>q=.returned (.int .i64 ((s.takeSign x).2:Int))/\aR b a n c (s.takeSign x).1 w u:=by
 have C:=j.at (i:=a+1) O m.taken;have D:=j.fz;have k:Z _:=j;have l:Z _:=m;have f:Z (s.takeSign x=if 8<=s.taken\/x≠lh s.taken then(s,1) else if s.taken+1=8 then(({s with taken:=s.taken+1}:Rd).enter 1,0) else({s with taken:=s.taken+1},0)):=rfl;clear j m;by_cases v:8<=s.taken
 .have y:(8:Int)<=(s.taken:Int):=O
  go_enter func51,ntmps51;go_wp2;go_ret;rw[f.o,I (L v)];exact⟨rfl,aR.refl k.o l.o⟩
 .have y:¬(8:Int)<=(s.taken:Int):=O
  have d:Z (s.taken<8):=by show s.taken<8;omega
  obtain⟨e,o⟩:∃e,e=s.taken+1:=⟨_,rfl⟩;have E:(s.taken:Int)+1=(e:Int):=O;rw[<-o] at f;replace o:Z _:=o;have r:Z (FrC b a (a+5954) c (upd c (a+1) (.int .u32 e))):=FrC.upd _ O O;go_enter func51,ntmps51;go_wp2_with fail
  .go_ret
   rename_i g
   have h:=mC s.taken d.o (by show _<8;exact d.o);rw[XJ,h] at g;rw[f.o,I (R O)];exact⟨rfl,aR.refl k.o l.o⟩
  .refine(fE b a n 1 _ {s with taken:=e} _ (k.o.set O _) (l.o.set_taken e) t).mono ?_
   rintro q G ⟨rfl,z⟩;go_wp2_with fail;go_ret
   rename_i g p
   have h:=mC s.taken d.o (by show _<8;exact d.o);rw[Xx,h] at g;rw[XI] at p;rw[f.o,N (by have:=d.o;omega),I];exact⟨rfl,aR.next r.o (Fr1.set (Fr.refl _ _) _ _) z⟩
  .go_ret
   rename_i g p
   have h:=mC s.taken d.o (by show _<8;exact d.o);rw[Xx,h] at g;rw[F] at p;rw[f.o,N (by have:=d.o;omega),N];exact⟨rfl,_,k.o.set O _,l.o.set_taken e,r.o,Fr1.set (Fr.refl _ _) _ _⟩
theorem rk:((ag:Nat):Int)=4294967295:=by unfold ag;rfl
def Rd.takeLength(s:Rd)(x:Nat):Rd×Nat:=
 if s.taken+1≠4 then(s.num x,0)
 else if 2147483648<=s.number*256+x then(s.num x,2)
 else(({s.num x with length:=s.number*256+x,sum:=ag}:Rd).enter 2,0)
theorem pZ(b a n x:Nat)c s w(r:Blk w b n c)(t:RdV c a s)(u:a+5954<=n)(H:s.taken<1000)(L:s.number<16777216)(M:x<256):Calls prog 52 #[.pointer (some ⟨b,a,none⟩),.int .u8 x] w λm P=>m=.returned (.int .i64 ((s.takeLength x).2:Int))/\aR b a n c (s.takeLength x).1 w P:=by
 have f:=U (uI b a n x c s w r t u H L M);have g:Z (s.takeLength x=if s.taken+1≠4 then(s.num x,0) else if 2147483648<=s.number*256+x then(s.num x,2) else(({s.num x with length:=s.number*256+x,sum:=ag}:Rd).enter 2,0)):=rfl;obtain⟨d,q⟩:∃d,d=s.number*256+x:=⟨_,rfl⟩;have v:Z ((s.num x).number=d):=q.symm;rw[<-q] at g;have y:d<4294967296:=O;obtain⟨e,z⟩:∃e,e=s.num x:=⟨_,rfl⟩;rw[<-z] at f g v;clear r t q z;by_cases h:s.taken+1=4
 .rw[K h] at f
  have o:Z (s.takeLength x=if 2147483648<=d then(e,2) else(({e with length:=d,sum:=ag}:Rd).enter 2,0)):=by show s.takeLength x=_;rw[g.o,N (λQ=>Q h)]
  clear g h;go_enter func52,ntmps52;go_wp2_with fail;refine f.o.mono ?_;rintro m R ⟨rfl,A,j,l,B,C⟩;have S:=j.at (i:=a+2) O l.number;have Y:=j.at (i:=a+3) O l.length;have a0:=j.at (i:=a+5) O l.sum;have a1:=j.fz;rw[v.o] at S;have D:Z _:=j;have E:Z _:=l;have F:Z _:=B;have G:Z _:=C;clear j l B C f;by_cases p:2147483648<=d
  .have T:(2147483648:Int)<=(d:Int):=O
   go_wp2_with fail;go_ret;rw[o.o,I p];exact⟨rfl,A,D.o,E.o,F.o,G.o⟩
  .have T:decide ((2147483648:Int)<=(d:Int))=false:=J
   replace p:Z _:=p;replace y:Z _:=y;go_wp2_with fail;have V:RdV (upd (upd A (a+3) (.int .u32 d)) (a+5) (.int .u32 4294967295)) a {e with length:=d,sum:=ag}:=by
    have:=(E.o.set_length d).set_sum ag
    rw[rk] at this;exact this
   refine(fE b a n 2 _ {e with length:=d,sum:=ag} _ ((D.o.set (k:=a+3) O (.int .u32 d)).set (k:=a+5) O (.int .u32 4294967295)) V u).mono ?_;rintro m a2 ⟨rfl,W⟩;go_wp2_with fail;go_ret;rw[o.o,N p.o];exact⟨rfl,aR.next ((F.o.trans (FrC.upd _ O O)).trans (FrC.upd _ O O)) (Fr1.set (Fr1.set G.o _ _) _ _) W⟩
 .rw[J h] at f
  have o:Z (s.takeLength x=(e,0)):=by show s.takeLength x=_;rw[g.o,I h]
  clear g h;go_enter func52,ntmps52;go_wp2_with fail;refine f.o.mono ?_;rintro m R ⟨rfl,X⟩;go_wp2_with fail;go_ret;rw[o.o];exact⟨rfl,X⟩
def Rd.checkFirst(s:Rd):Nat:=if s.ctype≠bt then 4 else if s.length≠13 then 5 else 0
def Rd.checkData(s:Rd):Nat:=if s.dov||(decide (s.hd.K=3) && !s.sp) then 4 else 0
def Rd.checkEnd(s:Rd):Nat:=if s.sd=false then 4 else if s.length≠0 then 5 else 0
def Rd.checkAlphas(s:Rd):Nat:=if s.sp=false then 4 else if s.length<1\/s.tl.colours<s.length then 5 else 0
theorem ru b o n c s w(h:Blk w b n c)(j:RdV c o s)(q:o+5954<=n):Calls prog 110 #[.pointer (some ⟨b,o,none⟩)] w λk l=>k=.returned (.int .i64 s.checkFirst)/\l=w:=by
 have m:=h.at (i:=o+4) O j.ctype;have p:=h.at (i:=o+3) O j.length;have d:Z (s.checkFirst=if s.ctype≠bt then 4 else if s.length≠13 then 5 else 0):=rfl;clear h j;by_cases a:s.ctype=bt
 .rw[a] at m
  by_cases e:s.length=13
  .rw[e] at p
   have f:Z (s.checkFirst=0):=by show s.checkFirst=0;rw[d.o,N (λg=>g a),N (λg=>g e)]
   clear a e d;go_enter func110,ntmps110;unfold bt at *;go_wp2;go_ret;exact⟨an (by rw[f.o];rfl),rfl⟩
  .have r:((s.length:Int)!=13)=true:=by rw[XJ];omega
   have f:Z (s.checkFirst=5):=by show s.checkFirst=5;rw[d.o,N (λg=>g a),I e]
   clear a e d;go_enter func110,ntmps110;unfold bt at *;go_wp2;go_ret;exact⟨an (by rw[f.o];rfl),rfl⟩
 .have t:((s.ctype:Int)!=1229472850)=true:=by
   rw[XJ];intro k;apply a;unfold bt;omega
  have f:Z (s.checkFirst=4):=by show s.checkFirst=4;rw[d.o,I a]
  clear a d;go_enter func110,ntmps110;go_wp2;go_ret;exact⟨an (by rw[f.o];rfl),rfl⟩
theorem tE b o n c s w(f:Blk w b n c)(g:RdV c o s)(q:o+5954<=n):Calls prog 114 #[.pointer (some ⟨b,o,none⟩)] w λk l=>k=.returned (.int .i64 s.checkData)/\l=w:=by
 have j:=f.at (i:=o+5953) O g.dov;have m:=f.at (i:=o+6+3) O g.hd.K;have p:=f.at (i:=o+5950) O g.sp;have d:Z (s.checkData=if s.dov||(decide (s.hd.K=3) && !s.sp) then 4 else 0):=rfl;clear f g;by_cases e:s.hd.K=3
 .rw[e] at m
  rw[K e] at d;clear e;cases a:s.dov<;>cases h:s.sp
  all_goals
   rw[a] at j;rw[h] at p;rw[a,h] at d;clear a h;go_enter func114,ntmps114;go_wp2;go_ret;exact⟨an (by rw[d.o];rfl),rfl⟩
 .have r:((s.hd.K:Int)==3)=false:=by rw[F];omega
  rw[J e] at d;clear e;cases a:s.dov
  all_goals
   rw[a] at j;rw[a] at d;clear a;go_enter func114,ntmps114;go_wp2;go_ret;exact⟨an (by rw[d.o];rfl),rfl⟩
theorem vK b o n c s w(f:Blk w b n c)(g:RdV c o s)(m:o+5954<=n):Calls prog 115 #[.pointer (some ⟨b,o,none⟩)] w λj k=>j=.returned (.int .i64 s.checkEnd)/\k=w:=by
 have h:=f.at (i:=o+5952) O g.sd;have p:=f.at (i:=o+3) O g.length;have d:Z (s.checkEnd=if s.sd=false then 4 else if s.length≠0 then 5 else 0):=rfl;clear f g;cases a:s.sd
 .rw[a] at h
  rw[a] at d;clear a;go_enter func115,ntmps115;go_wp2;go_ret;exact⟨an (by rw[d.o];rfl),rfl⟩
 .rw[a] at h
  rw[a] at d;clear a;by_cases e:s.length=0
  .have l:((s.length:Int)!=0)=false:=by rw[Xx];omega
   replace e:Z _:=e;go_enter func115,ntmps115;go_wp2;go_ret;exact⟨an (by rw[d.o,e.o];rfl),rfl⟩
  .have l:((s.length:Int)!=0)=true:=by rw[XJ];omega
   go_enter func115,ntmps115;go_wp2;go_ret;exact⟨an (by rw[d.o,N Xi,I e];rfl),rfl⟩
theorem pr b o n c t w(a:Blk w b n c)(d:TlV c o t)(g:o+1026<=n):Calls prog 148 #[.pointer (some ⟨b,o,none⟩)] w λe f=>e=.returned (.int .i64 t.colours)/\f=w:=by
 have h:=a.at (i:=o+1024) O d.colours;clear a d;go_enter func148,ntmps148;go_wp2;go_ret;exact⟨rfl,rfl⟩
theorem oE b o n c s w(g:Blk w b n c)(h:RdV c o s)(v:o+5954<=n)(x:s.tl.colours<=256):Calls prog 145 #[.pointer (some ⟨b,o,none⟩)] w λj k=>j=.returned (.int .i64 s.checkAlphas)/\∃a,k=w.drewN a:=by
 have p:=g.at (i:=o+5950) O h.sp;have y:=g.at (i:=o+3) O h.length;have f:Z (s.checkAlphas=if s.sp=false then 4 else if s.length<1\/s.tl.colours<s.length then 5 else 0):=rfl;have l:Z (∀a,Calls prog 148 #[.pointer (some ⟨b,o+24,none⟩)] (w.drewN a) λj k=>j=.returned (.int .i64 s.tl.colours)/\k=w.drewN a):=λa=>pr b (o+24) n c s.tl _ (g.kept ((Kept.refl _).drewN a)) h.tl O
 clear g h;generalize s.tl.colours=d at *;have z:IntKind.u32.wrap (d:Int)=(d:Int):=by rw[Yq];omega
 cases e:s.sp
 .rw[e] at p
  rw[e] at f;clear e;go_enter func145,ntmps145;go_wp2;go_ret;exact⟨an (by rw[f.o];rfl),0,rfl⟩
 .rw[e] at p
  rw[e] at f;clear e;have m:Z (s.checkAlphas=if s.length<1\/d<s.length then 5 else 0):=by show s.checkAlphas=_;rw[f.o,N Xi]
  clear f;by_cases q:s.length<1
  .have r:(s.length:Int)<1:=O
   go_enter func145,ntmps145;go_wp2_with fail;go_quiet ((go_at_call 148;exact Xu (l.o _)))
   go_wp2;go_ret;exact⟨an (by rw[m.o,I (L q)];rfl),_,rfl⟩
  .have r:¬(s.length:Int)<1:=O
   by_cases t:d<s.length
   .have u:(d:Int)<(s.length:Int):=O
    go_enter func145,ntmps145;go_wp2_with fail;go_quiet ((go_at_call 148;exact Xu (l.o _)))
    go_wp2;go_ret;exact⟨an (by rw[m.o,I (R t)];rfl),_,rfl⟩
   .have u:¬(d:Int)<(s.length:Int):=O
    go_enter func145,ntmps145;go_wp2_with fail;go_quiet ((go_at_call 148;exact Xu (l.o _)))
    go_wp2;go_ret;exact⟨an (by rw[m.o,N (λA=>O)];rfl),_,rfl⟩
def Rd.checkClear(s:Rd):Nat:=
 if s.sd||s.sc then 4 else if s.hd.K=0\/s.hd.K=2 then(if s.length≠2*chn s.hd.K then 5 else 0)
 else if s.hd.K=3 then s.checkAlphas else 4
theorem ry b o n c s w(j:Blk w b n c)(k:RdV c o s)(E:o+5954<=n)(G:s.tl.colours<=256)(M:s.hd.K<=6):Calls prog 113 #[.pointer (some ⟨b,o,none⟩)] w λq v=>q=.returned (.int .i64 s.checkClear)/\∃r,v=w.drewN r:=by
 have A:=j.at (i:=o+5952) O k.sd;have B:=j.at (i:=o+5951) O k.sc;have x:=j.at (i:=o+6+3) O k.hd.K;have P:=j.at (i:=o+3) O k.length;have l:Z (s.checkClear=if s.sd||s.sc then 4 else if s.hd.K=0\/s.hd.K=2 then(if s.length≠2*chn s.hd.K then 5 else 0) else if s.hd.K=3 then s.checkAlphas else 4):=rfl;have C:=U (oE b o n c s w j k E G);have f:Z (∀t:World,Calls prog 93 #[.int .i64 s.hd.K] t λq v=>q=.returned (.int .i64 (chn s.hd.K))/\v=t):=λt=>fj _ t O
 clear j k;cases m:s.sd<;>cases p:s.sc
 .rw[m] at A
  rw[p] at B;rw[m,p] at l;clear m p;have e:Z (s.checkClear=if s.hd.K=0\/s.hd.K=2 then(if s.length≠2*chn s.hd.K then 5 else 0) else if s.hd.K=3 then s.checkAlphas else 4):=l.o;clear l;have H:s.hd.K=0\/s.hd.K=2\/s.hd.K=3\/(s.hd.K≠0/\s.hd.K≠2/\s.hd.K≠3):=O;obtain⟨a,u⟩:∃a,a=chn s.hd.K:=⟨_,rfl⟩;have Q:a<=4:=by rw[u];exact gN _
  rw[<-u] at f e;replace u:Z _:=u;have R:IntKind.u32.wrap (a:Int)=(a:Int):=by rw[Yq];omega
  have S:IntKind.u32.wrap (2*(a:Int))=2*(a:Int):=by rw[Yq];omega
  rcases H with h|h|h|⟨J,K,D⟩
  .have g:Z (s.checkClear=if s.length≠2*a then 5 else 0):=by show s.checkClear=_;rw[e.o,I]
   clear e;rw[h] at x f;clear h;by_cases d:s.length=2*a
   .have y:((s.length:Int)!=2*(a:Int))=false:=by rw[Xx];omega
    replace d:Z _:=d;go_enter func113,ntmps113;go_wp2_with fail;go_quiet ((go_at_call 93;exact Xu (f.o _)))
    go_wp2;go_ret;exact⟨an (by rw[g.o,N (λz=>z d.o)];rfl),_,rfl⟩
   .have y:((s.length:Int)!=2*(a:Int))=true:=by rw[XJ];omega
    replace d:Z _:=d;go_enter func113,ntmps113;go_wp2_with fail;go_quiet ((go_at_call 93;exact Xu (f.o _)))
    go_wp2;go_ret;exact⟨an (by rw[g.o,I d.o];rfl),_,rfl⟩
  .have g:Z (s.checkClear=if s.length≠2*a then 5 else 0):=by show s.checkClear=_;rw[e.o,I]
   clear e;rw[h] at x f;clear h;by_cases d:s.length=2*a
   .have y:((s.length:Int)!=2*(a:Int))=false:=by rw[Xx];omega
    replace d:Z _:=d;go_enter func113,ntmps113;go_wp2_with fail;go_quiet ((go_at_call 93;exact Xu (f.o _)))
    go_wp2;go_ret;exact⟨an (by rw[g.o,N (λz=>z d.o)];rfl),_,rfl⟩
   .have y:((s.length:Int)!=2*(a:Int))=true:=by rw[XJ];omega
    replace d:Z _:=d;go_enter func113,ntmps113;go_wp2_with fail;go_quiet ((go_at_call 93;exact Xu (f.o _)))
    go_wp2;go_ret;exact⟨an (by rw[g.o,I d.o];rfl),_,rfl⟩
  .have g:Z (s.checkClear=s.checkAlphas):=by show s.checkClear=_;rw[e.o,N,I h]
   clear e;rw[h] at x;clear h f;go_enter func113,ntmps113;go_wp2_with fail;refine C.o.mono ?_;rintro q T ⟨rfl,r,L⟩;go_wp2;go_ret
   first|exact⟨an (by rw[g.o]),r,L⟩|exact⟨an (by rw[g.o]),r,rfl⟩
  .have V:((s.hd.K:Int)==0)=false:=by rw[F];omega
   have W:((s.hd.K:Int)==2)=false:=Xa;have X:((s.hd.K:Int)==3)=false:=Xa;have g:Z (s.checkClear=4):=by show s.checkClear=4;rw[e.o,N,N D]
   clear J K D f e;go_enter func113,ntmps113;go_wp2;go_ret;exact⟨an (by rw[g.o];rfl),0,rfl⟩
 all_goals
  rw[m] at A;rw[p] at B;rw[m,p] at l;have e:Z (s.checkClear=4):=l.o;clear m p l C f;go_enter func113,ntmps113;go_wp2;go_ret;exact⟨an (by rw[e.o];rfl),0,rfl⟩
def Rd.checkPalette(s:Rd):Nat:=
 if s.sd||s.sp||s.sc then 4 else if s.hd.K=0\/s.hd.K=4 then 4
 else if s.length<3\/768<s.length\/s.length%3≠0 then 5
 else if s.hd.K=3/\3*2^s.hd.D<s.length then 5 else 0
theorem nV(b o n:Nat)(c:Nat->Value)(s:Rd)(w:World)(hB:Blk w b n c)(hV:RdV c o s)(hn:o+5954<=n)(hD:s.hd.D<=16)(hL:s.length<2147483648):Calls prog 112 #[.pointer (some ⟨b,o,none⟩)] w λe w'=>e=.returned (.int .i64 (s.checkPalette:Int))/\Kept w w':=by
 have kd:=hB.at (i:=o+5952) om hV.sd;have kc:=hB.at (i:=o+5951) om hV.sc;have kp:=hB.at (i:=o+5950) om hV.sp;have h0:=hB.at (i:=o+6) om hV.hd.W;have h1:=hB.at (i:=o+6+1) om hV.hd.H;have h2:=hB.at (i:=o+6+2) om hV.hd.D;have kk:=hB.at (i:=o+6+3) om hV.hd.K;have h4:=hB.at (i:=o+6+4) om hV.hd.L;have k3:=hB.at (i:=o+3) om hV.length;have HE:ZH0 (s.checkPalette=if s.sd||s.sp||s.sc then 4 else if s.hd.K=0\/s.hd.K=4 then 4 else if s.length<3\/768<s.length\/s.length%3≠0 then 5 else if s.hd.K=3/\3*2^s.hd.D<s.length then 5 else 0):=rfl;have FL:ZH0 (∀W':World,Calls prog 129 #[.agg #[.int .i64 (s.hd.W:Int),.int .i64 (s.hd.H:Int),.int .i64 (s.hd.D:Int),.int .i64 (s.hd.K:Int),.int .i64 (s.hd.L:Int)]] W' λe w'=>e=.returned (.int .u32 ((2^s.hd.D:Nat):Int))/\Kept W' w'):=λW'=>(ld _ _ _ _ _ W' hD).mono (λe w' ⟨q1,q2⟩=>⟨q1,by rw[q2];exact Below.alloc (Below.refl _ _) (Nat.le_refl _) _⟩)
 have hbw:=hB.lt;clear hB hV;by_cases hf:s.sd=false/\s.sp=false/\s.sc=false
 .obtain⟨f1,f2,f3⟩:=hf
  rw[f1] at kd;rw[f2] at kp;rw[f3] at kc;rw[f1,f2,f3] at HE;clear f1 f2 f3;have HE1:ZH0 (s.checkPalette=if s.hd.K=0\/s.hd.K=4 then 4 else if s.length<3\/768<s.length\/s.length%3≠0 then 5 else if s.hd.K=3/\3*2^s.hd.D<s.length then 5 else 0):=HE.o;clear HE;by_cases hK:s.hd.K=0\/s.hd.K=4
  .have HE2:ZH0 (s.checkPalette=4):=by show s.checkPalette=4;rw[HE1.o,if_pos hK]
   clear HE1 FL;rcases hK with e|e
   all_goals
    rw[e] at kk;clear e;go_enter func112,ntmps112;go_wp2;go_ret;exact⟨an (by rw[HE2.o];rfl),Kept.refl _⟩
  .have g0:((s.hd.K:Int)==0)=false:=by rw[beq_eq_false_iff_ne];omega
   have g4:((s.hd.K:Int)==4)=false:=by rw[beq_eq_false_iff_ne];omega
   have HE2:ZH0 (s.checkPalette=if s.length<3\/768<s.length\/s.length%3≠0 then 5 else if s.hd.K=3/\3*2^s.hd.D<s.length then 5 else 0):=by show s.checkPalette=_;rw[HE1.o,if_neg hK]
   clear HE1;obtain⟨N,hN⟩:∃N,N=s.length:=⟨_,rfl⟩;rw[<-hN] at HE2 k3 hL;clear hN;by_cases hl:N<3\/768<N\/N%3≠0
   .have HE3:ZH0 (s.checkPalette=5):=by show s.checkPalette=5;rw[HE2.o,if_pos hl]
    clear HE2 FL hK;by_cases l1:N<3
    .have l1':decide ((N:Int)<3)=true:=decide_eq_true om
     clear l1 hl hL;go_enter func112,ntmps112;go_wp2;go_ret;exact⟨an (by rw[HE3.o];rfl),Kept.refl _⟩
    .have l1':decide ((N:Int)<3)=false:=decide_eq_false om
     by_cases l2:768<N
     .have l2':decide ((768:Int)<(N:Int))=true:=decide_eq_true om
      clear l1 l2 hl hL;go_enter func112,ntmps112;go_wp2;go_ret;exact⟨an (by rw[HE3.o];rfl),Kept.refl _⟩
     .have l2':decide ((768:Int)<(N:Int))=false:=decide_eq_false om
      have l3':((N:Int)%3 != 0)=true:=by rw[bne_iff_ne];omega
      clear l1 l2 hl hL;go_enter func112,ntmps112;go_wp2;go_ret;exact⟨an (by rw[HE3.o];rfl),Kept.refl _⟩
   .have HE3:ZH0 (s.checkPalette=if s.hd.K=3/\3*2^s.hd.D<N then 5 else 0):=by show s.checkPalette=_;rw[HE2.o,if_neg hl]
    have l1':decide ((N:Int)<3)=false:=decide_eq_false om;have l2':decide ((768:Int)<(N:Int))=false:=decide_eq_false om;have l3':((N:Int)%3 != 0)=false:=by rw[bne_eq_false_iff_eq];omega
    have HN:ZH0 (N<=768):=by show N<=768;omega
    clear hl hL HE2;by_cases h3:s.hd.K=3
    .rw[h3] at kk FL HE3
     have hp:=Ai s.hd.D hD;obtain⟨P,hP⟩:∃P,P=2^s.hd.D:=⟨_,rfl⟩;rw[<-hP] at FL HE3 hp;clear hP hK h3 g0 g4;have eP:IntKind.u32.wrap (3*(P:Int))=3*(P:Int):=by rw[IntKind.wrap_u32];omega
     generalize s.hd.W=HW at *;generalize s.hd.H=HH at *;generalize s.hd.D=HD at *;generalize s.hd.L=HL at *;clear hp;by_cases hq:3*P<N
     .have hq':decide (3*(P:Int)<(N:Int))=true:=decide_eq_true om
      have HE4:ZH0 (s.checkPalette=5):=by show s.checkPalette=5;rw[HE3.o,if_pos ⟨rfl,hq⟩]
      clear hq;go_enter func112,ntmps112;go_wp2_with fail;go_region_held3 (λW=>W.cell? ⟨b,o+6,none⟩=some (.int .i64 (HW:Int))/\W.cell? ⟨b,o+6+1,none⟩=some (.int .i64 (HH:Int))/\W.cell? ⟨b,o+6+2,none⟩=some (.int .i64 (HD:Int))/\W.cell? ⟨b,o+6+3,none⟩=some (.int .i64 3)/\W.cell? ⟨b,o+6+4,none⟩=some (.int .i64 (HL:Int))/\W.cell? ⟨b,o+3,none⟩=some (.int .u32 (N:Int))) (first|exact⟨h0,h1,h2,kk,h4,k3⟩|exact hS2.o|go_keep) ((go_at_call 129;refine(FL.o _).mono ?_;rintro e w2 ⟨rfl,hk2⟩;have hk2':Kept w w2:=((Kept.refl _).drewN 1).trans hk2;have hS2:ZH0 (w2.cell? ⟨b,o+6,none⟩=some (.int .i64 (HW:Int))/\w2.cell? ⟨b,o+6+1,none⟩=some (.int .i64 (HH:Int))/\w2.cell? ⟨b,o+6+2,none⟩=some (.int .i64 (HD:Int))/\w2.cell? ⟨b,o+6+3,none⟩=some (.int .i64 3)/\w2.cell? ⟨b,o+6+4,none⟩=some (.int .i64 (HL:Int))/\w2.cell? ⟨b,o+3,none⟩=some (.int .u32 (N:Int))):=⟨(hk2'.cell (p:=⟨b,o+6,none⟩) hbw).trans h0,(hk2'.cell (p:=⟨b,o+6+1,none⟩) hbw).trans h1,(hk2'.cell (p:=⟨b,o+6+2,none⟩) hbw).trans h2,(hk2'.cell (p:=⟨b,o+6+3,none⟩) hbw).trans kk,(hk2'.cell (p:=⟨b,o+6+4,none⟩) hbw).trans h4,(hk2'.cell (p:=⟨b,o+3,none⟩) hbw).trans k3⟩))
      go_wp2;go_ret;exact⟨an (by rw[HE4.o];rfl),hk2'⟩
     .have hq':decide (3*(P:Int)<(N:Int))=false:=decide_eq_false om
      have HE4:ZH0 (s.checkPalette=0):=by show s.checkPalette=0;rw[HE3.o,if_neg (λq=>hq q.2)]
      clear hq;go_enter func112,ntmps112;go_wp2_with fail;go_region_held3 (λW=>W.cell? ⟨b,o+6,none⟩=some (.int .i64 (HW:Int))/\W.cell? ⟨b,o+6+1,none⟩=some (.int .i64 (HH:Int))/\W.cell? ⟨b,o+6+2,none⟩=some (.int .i64 (HD:Int))/\W.cell? ⟨b,o+6+3,none⟩=some (.int .i64 3)/\W.cell? ⟨b,o+6+4,none⟩=some (.int .i64 (HL:Int))/\W.cell? ⟨b,o+3,none⟩=some (.int .u32 (N:Int))) (first|exact⟨h0,h1,h2,kk,h4,k3⟩|exact hS2.o|go_keep) ((go_at_call 129;refine(FL.o _).mono ?_;rintro e w2 ⟨rfl,hk2⟩;have hk2':Kept w w2:=((Kept.refl _).drewN 1).trans hk2;have hS2:ZH0 (w2.cell? ⟨b,o+6,none⟩=some (.int .i64 (HW:Int))/\w2.cell? ⟨b,o+6+1,none⟩=some (.int .i64 (HH:Int))/\w2.cell? ⟨b,o+6+2,none⟩=some (.int .i64 (HD:Int))/\w2.cell? ⟨b,o+6+3,none⟩=some (.int .i64 3)/\w2.cell? ⟨b,o+6+4,none⟩=some (.int .i64 (HL:Int))/\w2.cell? ⟨b,o+3,none⟩=some (.int .u32 (N:Int))):=⟨(hk2'.cell (p:=⟨b,o+6,none⟩) hbw).trans h0,(hk2'.cell (p:=⟨b,o+6+1,none⟩) hbw).trans h1,(hk2'.cell (p:=⟨b,o+6+2,none⟩) hbw).trans h2,(hk2'.cell (p:=⟨b,o+6+3,none⟩) hbw).trans kk,(hk2'.cell (p:=⟨b,o+6+4,none⟩) hbw).trans h4,(hk2'.cell (p:=⟨b,o+3,none⟩) hbw).trans k3⟩))
      go_wp2;go_ret;exact⟨an (by rw[HE4.o];rfl),hk2'⟩
    .have g3:((s.hd.K:Int)==3)=false:=by rw[beq_eq_false_iff_ne];omega
     have HE4:ZH0 (s.checkPalette=0):=by show s.checkPalette=0;rw[HE3.o,if_neg (λq=>h3 q.1)]
     clear HE3 FL hK h3;go_enter func112,ntmps112;go_wp2_with fail;go_quiet (fail);go_wp2;go_ret;exact⟨an (by rw[HE4.o];rfl),(Kept.refl _).drewN _⟩
 .have HE1:ZH0 (s.checkPalette=4):=by
   show s.checkPalette=4
   rw[HE.o,if_pos];cases g1:s.sd<;>cases g2:s.sp<;>cases g3:s.sc<;>simp_all
  clear HE FL;cases g1:s.sd<;>cases g2:s.sp<;>cases g3:s.sc
  .exact absurd ⟨g1,g2,g3⟩ hf
  all_goals
   rw[g1] at kd;rw[g2] at kp;rw[g3] at kc;clear g1 g2 g3 hf;go_enter func112,ntmps112;go_wp2;go_ret;exact⟨an (by rw[HE1.o];rfl),Kept.refl _⟩
def Rd.short(s:Rd):Bool:=decide (s.ctype≠ar)&&s.sd && !s.dov&&decide (s.st.part≠10)
def Rd.checkKind(s:Rd):Nat:=
 if s.ctype=bt then 4
 else if s.ctype=bC then s.checkPalette
 else if s.ctype=aT then s.checkClear
 else if s.ctype=ar then s.checkData
 else if s.ctype=aJ then s.checkEnd
 else if lz (s.ctype/16777216) then 3 else 0
def Rd.checkType(s:Rd):Nat:=
 if tyB s.ctype=false then 3
 else if s.hd.W=0 then s.checkFirst
 else if s.short then 21
 else s.checkKind
theorem cty(s:Rd)v(h:s.ctype≠v):((s.ctype:Int)==(v:Int))=false:=Xa
structure Cc (s:Rd):Prop where
 colours:s.tl.colours<=256
 K:s.hd.K<=6
 D:s.hd.D<=16
 len:s.length<2147483648
 ct:s.ctype<4294967296
theorem tD b o n c s w(r:Blk w b n c)(t:RdV c o s)(E:o+5954<=n)(S:Cc s):Calls prog 82 #[.pointer (some ⟨b,o,none⟩)] w λd v=>d=.returned (.int .i64 s.checkType)/\Kept w v:=by
 have k:=r.at (i:=o+4) O t.ctype;have a3:=r.at (i:=o+6) O t.hd.W;have T:=r.at (i:=o+5952) O t.sd;have Y:=r.at (i:=o+5953) O t.dov;have x:=U (vd _ w S.ct);have a4:=U (jE b (o+1050) n c s.st w r t.st O);have G:Z _:=r;have H:Z _:=t;have V:Z _:=S;have L:=S.ct;have a0:Z (s.checkType=if tyB s.ctype=false then 3 else if s.hd.W=0 then s.checkFirst else if s.short then 21 else s.checkKind):=rfl;clear r t S;cases y:tyB s.ctype with
 | false=>
  rw[y] at x;have M:Z (s.checkType=3):=by show s.checkType=3;rw[a0.o,I y]
  clear y L;go_enter func82,ntmps82;go_wp2_with fail;refine x.o.mono ?_;rintro d a ⟨rfl,j⟩;subst a;go_wp2;go_ret;exact⟨an (by rw[M.o];rfl),Kept.refl _⟩
 | true=>
  rw[y] at x;have M:Z (s.checkType=if s.hd.W=0 then s.checkFirst else if s.short then 21 else s.checkKind):=by show s.checkType=_;rw[a0.o,N (by rw[y];simp)]
  clear y a0;by_cases P:s.hd.W=0
  .have f:=U (ru b o n c s w G.o H.o E)
   have Q:Z (s.checkType=s.checkFirst):=by show s.checkType=_;rw[M.o,I P]
   rw[P] at a3;clear P L;go_enter func82,ntmps82;go_wp2_with fail;refine x.o.mono ?_;rintro d a ⟨rfl,j⟩;subst a;go_wp2_with fail;refine f.o.mono ?_;rintro d a ⟨rfl,j⟩;subst a;go_wp2;go_ret;exact⟨an (by rw[Q.o]),Kept.refl _⟩
  .have b8:((s.hd.W:Int)==0)=false:=by rw[F];omega
   have Q:Z (s.checkType=if s.short then 21 else s.checkKind):=by show s.checkType=_;rw[M.o,N P]
   clear P M;replace L:Z _:=L;go_enter func82,ntmps82;go_wp2_with fail;refine x.o.mono ?_;rintro d a ⟨rfl,j⟩;subst a;go_upto_region 5 with fail
   clear x;go_cut [41] from 17 (λa6 z=>a6=.bool s.short/\z=w)
   case first=>
    have a1:Z (s.short=(decide (s.ctype≠ar)&&s.sd && !s.dov&&decide (s.st.part≠10))):=rfl;by_cases u:s.ctype=ar
    .have a7:((s.ctype:Int)!=1229209940)=false:=by rw[Xx,u];rfl
     have A:Z (s.short=false):=by show s.short=false;rw[a1.o,J (λa8=>a8 u)];rfl
     replace u:Z _:=u;go_wp2_with fail;go_meet
     case rel=>exact⟨by rw[A.o],rfl⟩
    .have a7:((s.ctype:Int)!=1229209940)=true:=by rw[XJ];intro a2;apply u;unfold ar;omega
     have A:Z (s.short=(s.sd && !s.dov&&decide (s.st.part≠10))):=by show s.short=_;rw[a1.o,K u];rfl
     clear u a1;cases m:s.sd with
     | false=>
      rw[m] at T;have R:Z (s.short=false):=by show s.short=false;rw[A.o,m];rfl
      clear m;go_wp2_with fail;go_meet
      case rel=>exact⟨by rw[R.o],rfl⟩
     | true=>
      cases B:s.dov with
      | true=>
       rw[m] at T;rw[B] at Y;have R:Z (s.short=false):=by show s.short=false;rw[A.o,m,B];rfl
       clear m B;go_wp2_with fail;go_meet
       case rel=>exact⟨by rw[R.o],rfl⟩
      | false=>
       rw[m] at T;rw[B] at Y;have R:Z (s.short = !decide (s.st.part=10)):=by
        show s.short=_
        rw[A.o,m,B];by_cases a2:s.st.part=10<;>simp[a2]
       clear m B A;generalize decide (s.st.part=10)=b9 at *;go_wp2_with fail;refine a4.o.mono ?_;rintro d a ⟨rfl,j⟩;subst a;go_wp2_with fail
       all_goals
        go_meet
        case rel=>exact⟨by rw[R.o],rfl⟩
   case rest=>
    obtain⟨W,c0⟩:=hcut;subst wc;clear a4 T Y a3;cases C:s.short with
    | true=>
     rw[C] at W;subst W;have p:Z (s.checkType=21):=by show s.checkType=21;rw[Q.o,C];rfl
     clear C;go_wp2_with fail;go_ret;exact⟨an (by rw[p.o];rfl),Kept.refl _⟩
    | false=>
     rw[C] at W;subst W;have p:Z (s.checkType=s.checkKind):=by show s.checkType=_;rw[Q.o,C];rfl
     clear C Q;by_cases e:s.ctype=bt
     .have g:Z (s.checkType=4):=by show s.checkType=_;rw[p.o];unfold Rd.checkKind;rw[I e]
      rw[e] at k;clear e;unfold bt at k;go_wp2_with fail;go_ret;exact⟨an (by rw[g.o];rfl),Kept.refl _⟩
     .by_cases h:s.ctype=bC
      .have g:Z (s.checkType=s.checkPalette):=by show s.checkType=_;rw[p.o];unfold Rd.checkKind;rw[N e,I h]
       have f:=U (nV b o n c s w G.o H.o E V.o.D V.o.len);rw[h] at k;clear e h;unfold bC at k;go_wp2_with fail;refine f.o.mono ?_;rintro d a ⟨rfl,j⟩;go_wp2_with fail;go_ret;exact⟨an (by rw[g.o]),j⟩
      .by_cases l:s.ctype=aT
       .have g:Z (s.checkType=s.checkClear):=by show s.checkType=_;rw[p.o];unfold Rd.checkKind;rw[N e,N h,I l]
        have f:Z (Calls prog 113 #[.pointer (some ⟨b,o,none⟩)] w λd v=>d=.returned (.int .i64 s.checkClear)/\Kept w v):=(ry b o n c s w G.o H.o E V.o.colours V.o.K).mono (λd v ⟨a9,a2,b0⟩=>⟨a9,by rw[b0];exact(Kept.refl _).drewN _⟩);rw[l] at k;clear e h l;unfold aT at k;go_wp2_with fail;refine f.o.mono ?_;rintro d a ⟨rfl,j⟩;go_wp2_with fail;go_ret;exact⟨an (by rw[g.o]),j⟩
       .by_cases q:s.ctype=ar
        .have g:Z (s.checkType=s.checkData):=by show s.checkType=_;rw[p.o];unfold Rd.checkKind;rw[N e,N h,N l,I q]
         have f:=U (tE b o n c s w G.o H.o E);rw[q] at k;clear e h l q;unfold ar at k;go_wp2_with fail;refine f.o.mono ?_;rintro d a ⟨rfl,j⟩;subst a;go_wp2_with fail;go_ret;exact⟨an (by rw[g.o]),Kept.refl _⟩
        .by_cases D:s.ctype=aJ
         .have g:Z (s.checkType=s.checkEnd):=by show s.checkType=_;rw[p.o];unfold Rd.checkKind;rw[N e,N h,N l,N q,I D]
          have f:=U (vK b o n c s w G.o H.o E);rw[D] at k;clear e h l q D;unfold aJ at k;go_wp2_with fail;refine f.o.mono ?_;rintro d a ⟨rfl,j⟩;subst a;go_wp2_with fail;go_ret;exact⟨an (by rw[g.o]),Kept.refl _⟩
         .have g:Z (s.checkType=if lz (s.ctype/16777216) then 3 else 0):=by show s.checkType=_;rw[p.o];unfold Rd.checkKind;rw[N e,N h,N l,N q,N D]
          have b1:=cty s bt e;have b2:=cty s bC h;have b3:=cty s aT l;have b4:=cty s ar q;have b5:=cty s aJ D;have f:Z (∀z:World,Calls prog 116 #[.int .u8 ((s.ctype/16777216:Nat):Int)] z λd v=>d=.returned (.bool (lz (s.ctype/16777216)))/\v=z):=λz=>eN _ z
          have b6:(s.ctype:Int)/16777216=((s.ctype/16777216:Nat):Int):=O;obtain⟨X,a5⟩:∃X,X=s.ctype/16777216:=⟨_,rfl⟩;have c1:X<256:=by have:=L.o;omega
          rw[<-a5] at f b6 g;clear e h l q D a5;generalize s.ctype=c2 at *;unfold bt at b1;unfold bC at b2;unfold aT at b3;unfold ar at b4;unfold aJ at b5;generalize lz X=b7 at *;go_wp2_with fail;refine(f.o _).mono ?_;rintro d a ⟨rfl,j⟩;subst a;cases b7
          all_goals
           go_wp2_with fail;go_ret;exact⟨an (by rw[g.o];rfl),Kept.refl _⟩
theorem StV.shift{d:List Value}{s}(h:StV (λi=>d.getD i undef) 0 s)c o:StV (updL c o 3351 (λi=>d.getD i undef)) o s:=by
 have g:∀i,i<3351->updL c o 3351 (λi=>d.getD i undef) (o+i)=d.getD (0+i) undef:=λi b=>by rw[dA b,XD]
 have a:∀i e f,d.getD e undef=f->i=o+e->e<3351->updL c o 3351 (λi=>d.getD i undef) i=f:=λi e f j k l=>by rw[k,g e l,XD];exact j
 refine⟨a _ 0 _ h.part rfl O,a _ 1 _ h.number rfl O,a _ 2 _ h.got rfl O,a _ 3 _ h.wanted rfl O,⟨a _ 4 _ h.path.bits rfl O,a _ 5 _ h.path.offset rfl O,a _ 6 _ h.path.ahead rfl O⟩,a _ 7 _ h.skip rfl O,a _ 8 _ h.window rfl O,a _ 9 _ h.last rfl O,a _ 10 _ h.left rfl O,⟨λi b=>a _ _ _ (h.lit.count i b) O O,λi b=>a _ _ _ (h.lit.sym i b) O O,a _ _ _ h.lit.total O O,a _ _ _ h.lit.longest O O⟩,⟨λi b=>a _ _ _ (h.dist.count i b) O O,λi b=>a _ _ _ (h.dist.sym i b) O O,a _ _ _ h.dist.total O O,a _ _ _ h.dist.longest O O⟩,⟨a _ _ _ h.tb.literals O O,a _ _ _ h.tb.distances O O,a _ _ _ h.tb.shorts O O,⟨λi b=>a _ _ _ (h.tb.short.count i b) O O,λi b=>a _ _ _ (h.tb.short.sym i b) O O,a _ _ _ h.tb.short.total O O,a _ _ _ h.tb.short.longest O O⟩,λi b=>a _ _ _ (h.tb.sl i b) O O,λi b=>a _ _ _ (h.tb.ls i b) O O,a _ _ _ h.tb.told O O,a _ _ _ h.tb.rep O O⟩,a _ _ _ h.length O O,a _ _ _ h.base O O,λi b=>a _ _ _ (h.hist i b) O O,a _ _ _ h.count O O,a _ _ _ h.sum O O⟩
theorem RwV.shift{d:List Value}{r}(h:RwV (λi=>d.getD i undef) 0 r)c o:RwV (updL c o 1549 (λi=>d.getD i undef)) o r:=by
 have a:∀i e f,d.getD e undef=f->i=o+e->e<1549->updL c o 1549 (λi=>d.getD i undef) i=f:=λi e f g j k=>by rw[j,dA k];exact g
 exact⟨⟨a _ 0 _ h.hd.W rfl O,a _ 1 _ h.hd.H rfl O,a _ 2 _ h.hd.D rfl O,a _ 3 _ h.hd.K rfl O,a _ 4 _ h.hd.L rfl O⟩,a _ 5 _ h.colours rfl O,a _ 6 _ h.pass rfl O,a _ 7 _ h.line rfl O,a _ 8 _ h.columns rfl O,a _ 9 _ h.lines rfl O,a _ 10 _ h.size rfl O,a _ 11 _ h.taken rfl O,a _ 12 _ h.filter rfl O,λi b=>a _ _ _ (h.row i b) O O,λi b=>a _ _ _ (h.above i b) O O,λi b=>a _ _ _ (h.known i b) O O,λi b=>a _ _ _ (h.smp i b) O O⟩
theorem getD_some{a:List Value}{m}(h:a.length=m):∀j,j<m->a[j]? = some (a.getD j undef):=λj b=>by
 rw[G,Xt O];rfl
theorem qj(b a n v:Nat)c t w(d:Blk w b n c)(e:TlV c a t)(h:a+1026<=n):Calls prog 117 #[.pointer (some ⟨b,a,none⟩),.int .i64 v] w λf g=>f=.returned (.tuple #[])/\g=w.setCell ⟨b,a+1024,none⟩ (.int .i64 v):=by
 have j:=d.at (i:=a+1024) O e.colours;have k:=d.fz (a+1024);clear d e;go_enter func117,ntmps117;go_wp2;go_end0
 exact⟨rfl,rfl⟩
theorem sk(b a n v:Nat)c t w(d:Blk w b n c)(e:TlV c a t)(h:a+1026<=n):Calls prog 118 #[.pointer (some ⟨b,a,none⟩),.int .i64 v] w λf g=>f=.returned (.tuple #[])/\g=w.setCell ⟨b,a+1025,none⟩ (.int .i64 v):=by
 have j:=d.at (i:=a+1025) O e.clears;have k:=d.fz (a+1025);clear d e;go_enter func118,ntmps118;go_wp2;go_end0
 exact⟨rfl,rfl⟩
def Rd.begin(s:Rd):Rd:=if s.sd then s else {s with sd:=true,st:=St.start,rw:=Rw.start s.hd s.tl.colours}
theorem tL b o n c s w(D:Blk w b n c)(G:RdV c o s)(c5:o+5954<=n)(a6:s.hd.W<=16)(a7:s.hd.H<=16)(a8:s.hd.D<=16)(a9:s.hd.K<=6)(b0:s.hd.L<=1)(S:aS w)(b1:b≠0):Calls prog 119 #[.pointer (some ⟨b,o,none⟩)] w λe H=>e=.returned (.tuple #[])/\aR b o n c s.begin w H:=by
 have I:=D.at (i:=o+5952) O G.sd;have b2:=D.fz (o+5952);have J:Z _:=D;have K:Z _:=G;have b3:Z (∀a,Fr1 b w a->aS a):=λa b4=>S.fr b4 (λu=>b1 u.symm)
 clear D G S;cases q:s.sd with
 | true=>
  have M:Z (s.begin=s):=by show s.begin=s;unfold Rd.begin;rw[q];rfl
  rw[q] at I;clear q;go_enter func119,ntmps119;go_wp2;refine XA (YA rfl _ _ _) rfl ?_;rw[M.o];exact⟨rfl,aR.refl J.o K.o⟩
 | false=>
  have M:Z (s.begin={s with sd:=true,st:=St.start,rw:=Rw.start s.hd s.tl.colours}):=by show s.begin=_;unfold Rd.begin;rw[q];rfl
  rw[q] at I;clear q;have T:Z (Blk (w.setCell ⟨b,o+5952,none⟩ (.bool true)) b n (upd c (o+5952) (.bool true))):=J.o.set O _;have U:Z _:=K.o.set_sd true;have V:Z (FrC b o (o+5954) c (upd c (o+5952) (.bool true))):=FrC.upd _ O O;have W:Z (Fr1 b w (w.setCell ⟨b,o+5952,none⟩ (.bool true))):=Fr1.set (Fr.refl _ _) _ _;go_enter func119,ntmps119;go_wp2_with fail;generalize w.setCell ⟨b,o+5952,none⟩ (.bool true)=b5 at *;generalize upd c (o+5952) (.bool true)=E at *;clear I b2 J K;refine(z5 b5).mono ?_;rintro e v ⟨d,rfl,x,X,Y,N⟩;have P:Z _:=T.o.kept N;have b6:(storeCells ⟨b,o+1050,none⟩ d).run prog v=.ok () (v.setCells b (o+1050) d):=aM (by rw[x];exact P.o.there O) Y;have j:Z (Blk (v.setCells b (o+1050) d) b n (updL E (o+1050) 3351 (λg=>d.getD g undef))):=P.o.sets O _ x (getD_some x);have l:Z _:=U.o.set_st St.start (X.shift E (o+1050)) (λg Q=>dr (λu=>Q ⟨u.1,O⟩));have b7:Z (FrC b o (o+5954) c (updL E (o+1050) 3351 (λg=>d.getD g undef))):=V.o.trans (FrC.updL O O);have a0:Z (Fr1 b w (v.setCells b (o+1050) d)):=Fr1.sets _ _ (W.o.kept N);replace x:Z _:=x;clear X Y N T P U V W;go_upto_region 3 with fail
  generalize v.setCells b (o+1050) d=h at *;generalize updL E (o+1050) 3351 (λg=>d.getD g undef)=a1 at *;clear b6;have y:=j.o.at (i:=o+6) O l.o.hd.W;have z:=j.o.at (i:=o+6+1) O l.o.hd.H;have A:=j.o.at (i:=o+6+2) O l.o.hd.D;have B:=j.o.at (i:=o+6+3) O l.o.hd.K;have C:=j.o.at (i:=o+6+4) O l.o.hd.L;have b8:Z (∀a,Kept h a->Calls prog 147 #[.agg #[.int .i64 s.hd.W,.int .i64 s.hd.H,.int .i64 s.hd.D,.int .i64 s.hd.K,.int .i64 s.hd.L],.int .i64 s.tl.colours] a λe H=>∃d:List Value,e=.returned (.agg d.toArray)/\d.length=1549/\RwV (λg=>d.getD g undef) 0 (Rw.start s.hd s.tl.colours)/\(∀b9∈d,b9.oneCell'=true)/\Kept a H):=λa f=>Af s.hd s.tl.colours a a6 a7 a8 a9 b0 (b3.o _ (a0.o.kept f))
  replace y:h.cell? ⟨b,o+6,none⟩=some (.int .i64 s.hd.W):=y;replace z:h.cell? ⟨b,o+6+1,none⟩=some (.int .i64 s.hd.H):=z;replace A:h.cell? ⟨b,o+6+2,none⟩=some (.int .i64 s.hd.D):=A;replace B:h.cell? ⟨b,o+6+3,none⟩=some (.int .i64 s.hd.K):=B;replace C:h.cell? ⟨b,o+6+4,none⟩=some (.int .i64 s.hd.L):=C;have r:=j.o.lt;have c0:Z (∀(a:World) (d:List Value),Kept h a->((a.setCells b (o+4401) d).cell? ⟨b,o+6,none⟩=some (.int .i64 s.hd.W)/\(a.setCells b (o+4401) d).cell? ⟨b,o+6+1,none⟩=some (.int .i64 s.hd.H)/\(a.setCells b (o+4401) d).cell? ⟨b,o+6+2,none⟩=some (.int .i64 s.hd.D)/\(a.setCells b (o+4401) d).cell? ⟨b,o+6+3,none⟩=some (.int .i64 s.hd.K)/\(a.setCells b (o+4401) d).cell? ⟨b,o+6+4,none⟩=some (.int .i64 s.hd.L))):=λa d f=>by
   have e:∀t,t<o+4401->(a.setCells b (o+4401) d).cell? ⟨b,t,none⟩=h.cell? ⟨b,t,none⟩:=λt c1=>(YS b d (o+4401) a ⟨b,t,none⟩ (λ_ _=>L c1)).trans (f.cell (p:=⟨b,t,none⟩) r)
   exact⟨(e _ O).trans y,(e _ O).trans z,(e _ O).trans A,(e _ O).trans B,(e _ O).trans C⟩
  have a2:Z (∀(a:World),Kept h a->(a.cell? ⟨b,o+6,none⟩=some (.int .i64 s.hd.W)/\a.cell? ⟨b,o+6+1,none⟩=some (.int .i64 s.hd.H)/\a.cell? ⟨b,o+6+2,none⟩=some (.int .i64 s.hd.D)/\a.cell? ⟨b,o+6+3,none⟩=some (.int .i64 s.hd.K)/\a.cell? ⟨b,o+6+4,none⟩=some (.int .i64 s.hd.L))):=λa f=>
   ⟨(f.cell (p:=⟨b,o+6,none⟩) r).trans y,(f.cell (p:=⟨b,o+6+1,none⟩) r).trans z,(f.cell (p:=⟨b,o+6+2,none⟩) r).trans A,(f.cell (p:=⟨b,o+6+3,none⟩) r).trans B,(f.cell (p:=⟨b,o+6+4,none⟩) r).trans C⟩
  go_region_held3 (λa=>a.cell? ⟨b,o+6,none⟩=some (.int .i64 s.hd.W)/\a.cell? ⟨b,o+6+1,none⟩=some (.int .i64 s.hd.H)/\a.cell? ⟨b,o+6+2,none⟩=some (.int .i64 s.hd.D)/\a.cell? ⟨b,o+6+3,none⟩=some (.int .i64 s.hd.K)/\a.cell? ⟨b,o+6+4,none⟩=some (.int .i64 s.hd.L)) (first|exact⟨y,z,A,B,C⟩|exact c0.o _ _ F|exact a2.o _ F|exact a2.o _ ((Kept.refl _).drewN 1)|go_keep) ((first|(go_at_call 148;refine((λa f=>pr b (o+24) n a1 s.tl a (j.o.kept f) l.o.tl O) _ ((Kept.refl _).drewN 1)).mono ?_;rintro e c6 ⟨rfl,rfl⟩)|(go_at_call 147;refine(b8.o _ ((Kept.refl _).drewN 1)).mono ?_;rintro e a3 ⟨a4,rfl,R,c2,c3,c4⟩;have F:=((Kept.refl _).drewN 1).trans c4;have a5:Z _:=j.o.kept F;have c7:(storeCells ⟨b,o+4401,none⟩ a4).run prog a3=.ok () (a3.setCells b (o+4401) a4):=aM (by rw[R];exact a5.o.there O) c3)))
  go_wp2;go_end0
  rw[M.o];refine⟨rfl,_,a5.o.sets (k:=o+4401) (m:=1549) O _ R (getD_some R),l.o.set_rw (Rw.start s.hd s.tl.colours) (c2.shift a1 (o+4401)) (λg Q=>dr (λu=>Q ⟨u.1,O⟩)),b7.o.trans (FrC.updL O O),Fr1.sets _ _ (a0.o.kept F)⟩
