import Derived.Test.YtbedkdnphobmlaaGreatDoorProg
import Derived.Deep.CutBlock
import Derived.Deep.CutRange
import Derived.Deep.MidRow
import Derived.Test.YtbedkdnphobmlaaGreatDoorUaa00
import Derived.Test.YtbedkdnphobmlaaGreatDoorUaa01
import Derived.Test.YtbedkdnphobmlaaGreatDoorUaa03
set_option linter.all false
set_option maxRecDepth 100000
set_option maxHeartbeats 0
namespace Go.Proofs.YtbedkdnphobmlaaGreatDoor
open Go.RowKit Px Tryz
structure eU (r:Rw):Prop where
 W:r.hd.W<=16
 H:r.hd.H<=16
 D:r.hd.D<=16
 K:r.hd.K<=6
 L:r.hd.L<=1
 filter:r.filter<256
 row:∀i,r.row i<256
 above:∀i,r.above i<256
theorem Blk.at{w b n c}(h:Blk w b n c){i v}(a:i<n)(e:c i=v):w.cell? ⟨b,i,none⟩=some v:=by rw[h.cell i a,e]
def ck(h:Hd):Nat:=chn h.K*h.D
def eX(h:Hd):Nat:=max 1 (ck h/8)
theorem iA{r}(h:eU r):ck r.hd<=64:=XF (gN _) h.D
theorem lj b o n c r w(e:Blk w b n c)(f:RwV c o r)(v:o+1549<=n)(g:eU r):Calls prog 185 #[.pointer (some ⟨b,o,none⟩)] w λa h=>a=.returned (.int .i64 (ck r.hd))/\∃p,h=w.drewN p:=by
 have x:=e.at (i:=o+3) O f.hd.K;have y:=e.at (i:=o+2) O f.hd.D;have q:Z (∀d:World,Calls prog 93 #[.int .i64 r.hd.K] d λa h=>a=.returned (.int .i64 (chn r.hd.K))/\h=d):=λd=>fj _ d (by have:=g.K;omega)
 have s:=gN r.hd.K;have t:=g.D;unfold ck;generalize chn r.hd.K=l at *;generalize r.hd.D=m at *;generalize r.hd.K=z at *;have u:=XF s t;obtain⟨j,k⟩:∃j,j=l*m:=⟨_,rfl⟩;have a:(l:Int)*(m:Int)=(j:Int):=by rw[k];simp
 rw[<-k] at u ⊢;clear k;clear e f g;go_enter func185,ntmps185;go_wp2_with fail;go_quiet ((go_at_call 93;exact Xu (q.o _)))
 go_wp2;go_ret;exact⟨an O,_,rfl⟩
theorem G7 b o n c r w(e:Blk w b n c)(f:RwV c o r)(h:o+1549<=n)(a:eU r):Calls prog 231 #[.pointer (some ⟨b,o,none⟩)] w λg i=>g=.returned (.int .i64 (eX r.hd))/\∃d,i=w.drewN d:=by
 have j:=U (lj b o n c r w e f h a);have l:=iA a;unfold eX;generalize ck r.hd=m at *;clear e f a;go_enter func231,ntmps231;go_wp2_with fail;refine j.o.mono ?_;rintro g k ⟨rfl,d,p⟩;subst k;go_wp2
 all_goals
  go_ret;exact⟨an O,d,rfl⟩
def av(L:Nat):Nat:=if L=1 then 7 else 1
theorem lS(a:Nat)w:Calls prog 94 #[.int .i64 a] w λc d=>c=.returned (.int .i64 (av a))/\d=w:=by
 unfold av;by_cases b:a=1
 .subst b
  rw[I rfl];go_enter func94,ntmps94;go_wp2;go_ret;exact⟨rfl,rfl⟩
 .rw[N b]
  have e:((a:Int)==1)=false:=Xa;go_enter func94,ntmps94;go_wp2;go_ret;exact⟨rfl,rfl⟩
def aN(r:Rw):Bool:=decide ((av r.hd.L:Int)<=r.pass)
theorem we b o n c r w(d:Blk w b n c)(e:RwV c o r)(k:o+1549<=n):Calls prog 150 #[.pointer (some ⟨b,o,none⟩)] w λf g=>f=.returned (.bool (aN r))/\∃h,g=w.drewN h:=by
 have l:=d.at (i:=o+4) O e.hd.L;have m:=d.at (i:=o+6) O e.pass;have j:Z (∀a:World,Calls prog 94 #[.int .i64 r.hd.L] a λf g=>f=.returned (.int .i64 (av r.hd.L))/\g=a):=λa=>lS _ a
 unfold aN;generalize av r.hd.L=p at *;generalize r.hd.L=q at *;generalize r.pass=s at *;clear d e;go_enter func150,ntmps150;go_wp2_with fail;go_quiet ((go_at_call 94;exact Xu (j.o _)))
 go_wp2;go_ret;exact⟨bz Xi,_,rfl⟩
theorem qR(x y:Nat)w(j:x<=1000)(k:y<=1000):Calls prog 125 #[.int .i64 x,.int .i64 y] w λd g=>d=.returned (.tuple #[.int .i64 (if x<16/\y<16 then(y*16+x:Nat) else 0:Int),.bool (decide (x<16/\y<16))])/\g=w:=by
 by_cases b:x<16
 .by_cases c:y<16
  .rw[I ⟨b,c⟩,K (⟨b,c⟩:x<16/\y<16)]
   have e:¬(x:Int)<0:=O;have h:¬(y:Int)<0:=O;have f:¬(16:Int)<=(x:Int):=O;have i:¬(16:Int)<=(y:Int):=O;go_enter func125,ntmps125;go_wp2;go_ret2;refine⟨?_,rfl⟩;have d:(y:Int)*16+(x:Int)=((y*16+x:Nat):Int):=O;rw[d];rfl
  .rw[N (λa=>c a.2),J (λa:x<16/\y<16=>c a.2)]
   have e:¬(x:Int)<0:=O;have h:¬(y:Int)<0:=O;have f:¬(16:Int)<=(x:Int):=O;have i:(16:Int)<=(y:Int):=O;go_enter func125,ntmps125;go_wp2;go_ret2;exact⟨rfl,rfl⟩
 .rw[N (λa=>b a.1),J (λa:x<16/\y<16=>b a.1)]
  have e:¬(x:Int)<0:=O;have f:(16:Int)<=(x:Int):=O;go_enter func125,ntmps125;go_wp2;go_ret2;exact⟨rfl,rfl⟩
def gS(x a n:Nat):Nat:=x/2^(8-a-n)%2^n
theorem BZ x a n:gS x a n<2^n:=YD _ (Nat.two_pow_pos n)
theorem u16_and(a n:Nat)(h:a<65536)(b:n<=8):bits .and .u16 (a:Int) ((2^n-1:Nat):Int)=((a%2^n:Nat):Int):=by
 have e:=XH (n:=2) O b;show IntKind.u16.wrap ((BitVec.ofInt 16 (a:Int) &&& BitVec.ofInt 16 ((2^n-1:Nat):Int)).toNat:Int)=_
 have c:(BitVec.ofInt 16 (a:Int)).toNat=a:=by rw[XT,X0];exact X1 O
 have d:(BitVec.ofInt 16 ((2^n-1:Nat):Int)).toNat=2^n-1:=by rw[XT,X0];exact X1 O
 rw[Zn,c,d,Zm]
 have:a%2^n<65536:=Zh (Zg _ _) h
 rw[IntKind.wrap_u16];omega
theorem BY(x a n:Nat)w(h:x<256)(i:a+n<=8):Calls prog 235 #[.int .u8 x,.int .i64 a,.int .i64 n] w λc d=>c=.returned (.int .u16 (gS x a n))/\d=w:=by
 have j:¬(a:Int)<0:=O;have k:¬(n:Int)<0:=O;have l:¬(8:Int)<(a:Int)+(n:Int):=O;have b:n<=8:=O;have m:a<=8:=O;go_enter func235,ntmps235;go_wp2;go_ret;refine⟨an ?_,rfl⟩;have o:=XH (n:=2) O b;have p:1<=2^n:=Nat.one_le_two_pow;have e:(2:Int)^n=((2^n:Nat):Int):=Xi;have f:(x:Int)/2^(8-a-n)=((x/2^(8-a-n):Nat):Int):=Xi;have g:IntKind.u16.wrap (IntKind.u16.wrap (2^n)-1)=((2^n-1:Nat):Int):=by
  rw[e,IntKind.wrap_u16,IntKind.wrap_u16];omega
 show bits .and .u16 ((x:Int)/2^(8-a-n)) (IntKind.u16.wrap (IntKind.u16.wrap (2^n)-1))=_
 rw[f,g,u16_and _ _ (Zh (Yz _ _) O) b];rfl
def cE(r:Rw)(i:Nat):Nat:=if r.hd.D<16 then gS (r.row (i*r.hd.D/8)) (i*r.hd.D%8) r.hd.D else 256*r.row (i*r.hd.D/8)+r.row (i*r.hd.D/8+1)
def okD(D:Nat):Prop:=D=1\/D=2\/D=4\/D=8\/D=16
theorem u16_or8(a c:Nat)(h:a<256)(j:c<256):bits .or .u16 ((a:Int)*256) (c:Int)=((256*a+c:Nat):Int):=by
 show IntKind.u16.wrap ((BitVec.ofInt 16 ((a:Int)*256) ||| BitVec.ofInt 16 (c:Int)).toNat:Int)=_
 have d:(a:Int)*256=((a*256:Nat):Int):=O;have e:(BitVec.ofInt 16 ((a:Int)*256)).toNat=a*256:=by rw[d,XT,X0];exact X1 O
 have f:(BitVec.ofInt 16 (c:Int)).toNat=c:=by rw[XT,X0];exact X1 O
 have g:a*256 ||| c=256*a+c:=by
  have:=YW (b:=c) (i:=8) O a
  rw[Nat.shiftLeft_eq,show(2^8:Nat)=256 from rfl] at this;omega
 rw[BitVec.toNat_or,e,f,g,IntKind.wrap_u16];omega
theorem sn b o n i c r w(h:Blk w b n c)(j:RwV c o r)(a0:o+1549<=n)(k:eU r)(t:okD r.hd.D)(B:i*r.hd.D+r.hd.D<=1024)(a1:i<=1024):Calls prog 234 #[.pointer (some ⟨b,o,none⟩),.int .i64 i] w λu v=>u=.returned (.int .u16 (cE r i))/\∃G,v=w.drewN G:=by
 have H:=h.at (i:=o+2) O j.hd.D;have J:=k.D;unfold cE;obtain⟨e,x⟩:∃e,e=r.hd.D:=⟨_,rfl⟩;rw[<-x] at H J t B ⊢;obtain⟨d,l⟩:∃d,d=i*e:=⟨_,rfl⟩;have a2:(i:Int)*(e:Int)=(d:Int):=by rw[l];simp
 rw[<-l] at B ⊢;have y:r.row (d/8)<256:=k.row _;have z:r.row (d/8+1)<256:=k.row _;have a3:1<=e:=by unfold okD at t;omega
 have C:d/8<128:=O;have K:=h.at (i:=o+13+d/8) O (j.row (d/8) C);have L:(d:Int)/8=((d/8:Nat):Int):=O;have M:(d:Int)%8=((d%8:Nat):Int):=O;obtain⟨a,A⟩:∃a,a=d/8:=⟨_,rfl⟩;obtain⟨g,m⟩:∃g,g=d%8:=⟨_,rfl⟩;rw[<-A] at y z C K L ⊢;rw[<-m] at M ⊢;have a4:¬(a:Int)<0:=O;have a5:¬(128:Int)<=(a:Int):=O;have a6:(0:Int)<=(a:Int):=O;have a7:(a:Int)<128:=O;by_cases D:e<16
 .have P:g+e<=8:=by
   rw[m,l];rcases t with f|f|f|f|f
   .omega
   .rw[f];omega
   .rw[f];omega
   .rw[f];omega
   .omega
  have Q:Z (∀p:World,Calls prog 235 #[.int .u8 (r.row a),.int .i64 g,.int .i64 e] p λu v=>u=.returned (.int .u16 (gS (r.row a) g e:Int))/\v=p):=λp=>BY _ _ _ p y P
  rw[I D];generalize r.row a=E at *;have R:(e:Int)<16:=O;generalize gS E g e=a8 at *;clear h j k l A m x;go_enter func234,ntmps234;go_wp2_with fail;go_quiet ((go_at_call 235;exact Xu (Q.o _)))
  go_wp2;go_ret;exact⟨rfl,_,rfl⟩
 .have S:e=16:=O
  have R:¬(e:Int)<16:=O;have T:a+1<128:=O;have U:=h.at (i:=o+13+(a+1)) O (j.row (a+1) T);have V:(a:Int)+1=((a+1:Nat):Int):=O;have W:¬(128:Int)<=((a+1:Nat):Int):=O;have X:((a+1:Nat):Int)<128:=O;have Y:(0:Int)<=((a+1:Nat):Int):=O;obtain⟨q,F⟩:∃q,q=a+1:=⟨_,rfl⟩;rw[<-F] at U V W X Y z ⊢;rw[N D];have s:=u16_or8 (r.row a) (r.row q) y z;generalize r.row a=E at *;generalize r.row q=a9 at *;replace s:Z _:=s;clear h j k l A m x F S;go_enter func234,ntmps234;go_wp2_with fail;go_quiet (fail);go_wp2;go_ret;exact⟨an (by first|exact s.o|(rw[<-s.o])),_,rfl⟩
def gP(r:Rw)(i:Nat):Nat:=if eX r.hd<=i then r.row (i-eX r.hd) else 0
def gR(r:Rw)(i:Nat):Nat:=if eX r.hd<=i then r.above (i-eX r.hd) else 0
def lu(r:Rw)(i x:Nat):Nat:=(x+gss r.filter (gP r i) (r.above i) (gR r i))%256
def Rw.lay(r:Rw)(i x:Nat):Rw:={r with row:=upd r.row i (lu r i x)}
structure FrC (b lo hi:Nat) (c d:Nat->Value):Prop where
 o:∀i,¬(lo<=i/\i<hi)->d i=c i
theorem FrC.refl b lo hi c:FrC b lo hi c c:=⟨λ_ _=>rfl⟩
theorem FrC.trans{b lo a c d e}(h:FrC b lo a c d)(k:FrC b lo a d e):FrC b lo a c e:=⟨λf a=>(k.o f a).trans (h.o f a)⟩
theorem FrC.mono{b lo hi lo' hi' c d}(h:FrC b lo hi c d)(f:lo'<=lo)(g:hi<=hi'):FrC b lo' hi' c d:=⟨λa e=>h.o a (λi=>e ⟨O,O⟩)⟩
theorem FrC.upd{b lo hi k:Nat}{c:Nat->Value}(v:Value)(h1:lo<=k)(h2:k<hi):FrC b lo hi c (upd c k v):=⟨λi q=>upd_ne _ _ _ (λe=>q ⟨om,om⟩)⟩
def eG(b o n:Nat)(c:Nat->Value)(r':Rw)(w w':World):Prop:=∃d,Blk w' b n d/\RwV d o r'/\FrC b o (o+1549) c d/\Fr1 b w w'
theorem xk{b o n i x c r w w1 Z}(a:Blk w1 b n c)(d:RwV c o r)(h:o+1549<=n)(e:i<128)(f:Kept w w1)(g:Z=(lu r i x:Int)):eG b o n c (r.lay i x) w (w1.setCell ⟨b,o+13+i,none⟩ (.int .u8 Z)).drew:=by
 subst g;refine⟨_,(a.set (by omega:o+13+i<n) _).kept ((Kept.refl _).drewN 1),d.set_row i _ e,FrC.upd _ O O,?_⟩;exact Fr1.drewN (Fr1.set (Fr.of_kept f) _ _) 1
theorem pR(a:Nat):IntKind.u8.wrap (a:Int)=((a%256:Nat):Int):=by rw[IntKind.wrap_u8];omega
theorem I0(b a n i x:Nat)c r w(L:Blk w b n c)(M:RwV c a r)(P:a+1549<=n)(h:eU r)(E:i<128)(b4:x<256):Calls prog 228 #[.pointer (some ⟨b,a,none⟩),.int .i64 i,.int .u8 x] w λe m=>e=.returned (.tuple #[])/\eG b a n c (r.lay i x) w m:=by
 have Q:Z (Calls prog 231 #[.pointer (some ⟨b,a,none⟩)] w λe m=>e=.returned (.int .i64 (eX r.hd))/\Kept w m):=(G7 b a n c r w L M P h).mono (λe m ⟨a1,b5,a2⟩=>⟨a1,by rw[a2];exact(Kept.refl _).drewN _⟩);have T:Z _:=L;have j:Z _:=M;have a3:1<=eX r.hd/\eX r.hd<=8:=by
  have:=iA h
  unfold eX;omega
 have s:gP r i<256:=by unfold gP;split;exact h.row _;omega
 have t:gR r i<256:=by unfold gR;split;exact h.above _;omega
 have a4:=h.filter;have V:=h.above i;have o:Z (∀F:World,Calls prog 171 #[.int .u8 r.filter,.int .u8 (gP r i),.int .u8 (r.above i),.int .u8 (gR r i)] F λe m=>e=.returned (.int .u8 (gss r.filter (gP r i) (r.above i) (gR r i):Int))/\m=F):=λF=>EU _ _ _ _ F a4 s V t
 have u:Z (lu r i x=(x+gss r.filter (gP r i) (r.above i) (gR r i))%256):=rfl;have R:=Bb (f:=r.filter) s V t;obtain⟨d,k⟩:∃d,d=eX r.hd:=⟨_,rfl⟩;rw[<-k] at Q a3;have b6:¬(i:Int)<0:=O;have b7:¬(128:Int)<=(i:Int):=O;have b8:(0:Int)<=(i:Int):=O;have b9:(i:Int)<128:=O;clear L M h;go_enter func228,ntmps228;go_wp2_with fail;refine Q.o.mono ?_;rintro e a5 ⟨rfl,S⟩;have g:Z _:=T.o.kept S;have W:Z (Kept w a5):=S;clear S Q T;have G:=g.o.at (i:=a+12) O j.o.filter;have H:=g.o.at (i:=a+141+i) O (j.o.above i E);have c0:=g.o.at (i:=a+13+i) O (j.o.row i E);have c1:=g.o.fz (a+13+i);generalize J:lu r i x=c2 at *;replace J:Z _:=J;by_cases K:d<=i
 .have a6:=g.o.at (i:=a+13+(i-d)) O (j.o.row (i-d) O)
  have a7:=g.o.at (i:=a+141+(i-d)) O (j.o.above (i-d) O);have p:gP r i=r.row (i-d):=by unfold gP;rw[<-k,I K]
  have q:gR r i=r.above (i-d):=by unfold gR;rw[<-k,I K]
  have a8:(i:Int)-(d:Int)=((i-d:Nat):Int):=O;rw[p,q] at o u R;rw[p] at s;rw[q] at t;clear p q;obtain⟨l,X⟩:∃l,l=i-d:=⟨_,rfl⟩;rw[<-X] at a6 a7 a8 o u R s t;have a9:¬(128:Int)<=(l:Int):=O;have c3:(0:Int)<=(l:Int):=O;have c4:(l:Int)<128:=O;clear X k;generalize Y:r.row l=b0 at *;generalize a0:r.above l=b1 at *;generalize v:r.filter=y at *;generalize z:r.above i=A at *;generalize B:gss y b0 A b1=C at *;replace Y:Z _:=Y;replace a0:Z _:=a0;replace v:Z _:=v;replace z:Z _:=z;replace B:Z _:=B;go_wp2_with fail;go_region_held3 (λD=>D.cell? ⟨b,a+12,none⟩=some (.int .u8 y)/\D.cell? ⟨b,a+141+i,none⟩=some (.int .u8 A)) (first|exact⟨G,H⟩|exact⟨(aa _ _ _ _ _ O).trans G,(aa _ _ _ _ _ O).trans H⟩|go_keep) ((go_at_call 171;refine(o.o _).mono ?_;rintro e b2 ⟨rfl,rfl⟩))
  go_wp2_with fail;go_end0
  refine⟨rfl,xk g.o j.o P E W.o ?_⟩;rw[J.o,u.o,show(x:Int)+(C:Int)=((x+C:Nat):Int) from O,pR]
 .have p:gP r i=0:=by unfold gP;rw[<-k,N K]
  have q:gR r i=0:=by unfold gR;rw[<-k,N K]
  rw[p,q] at o u R;clear p q s t;have a9:¬(0:Int)<=(i:Int)-(d:Int):=O;clear k;generalize v:r.filter=y at *;generalize z:r.above i=A at *;generalize B:gss y 0 A 0=C at *;replace v:Z _:=v;replace z:Z _:=z;replace B:Z _:=B;have b3:=U o;clear o;go_wp2_with fail;go_region_held3 (λD=>D.cell? ⟨b,a+12,none⟩=some (.int .u8 y)/\D.cell? ⟨b,a+141+i,none⟩=some (.int .u8 A)) (first|exact⟨G,H⟩|exact⟨(aa _ _ _ _ _ O).trans G,(aa _ _ _ _ _ O).trans H⟩|go_keep) ((go_at_call 171;refine(b3.o _).mono ?_;rintro e b2 ⟨rfl,rfl⟩))
  go_wp2_with fail;go_end0
  refine⟨rfl,xk g.o j.o P E W.o ?_⟩;rw[J.o,u.o,show(x:Int)+(C:Int)=((x+C:Nat):Int) from O,pR]
end Go.Proofs.YtbedkdnphobmlaaGreatDoor
namespace Px
def grd:List Nat:=[0,0,8,8,8,8,4,0,8,8,4,8,0,4,4,8,4,4,2,0,4,4,2,4,0,2,2,4,2,2,1,0,2,2,1,2,0,1,1,2,1,1]
def dJ(j:Nat):Nat:=grd.getD j 0
structure Ps where
 cf:Nat
 cs:Nat
 cb:Nat
 rf:Nat
 rs:Nat
 rb:Nat
def ae(L k:Nat):Ps:=if L=1/\k<7 then⟨dJ (6*k),dJ (6*k+2),dJ (6*k+4),dJ (6*k+1),dJ (6*k+3),dJ (6*k+5)⟩ else⟨0,1,1,0,1,1⟩
theorem cr L k:(ae L k).cf<=4/\1<=(ae L k).cs/\(ae L k).cs<=8/\(ae L k).cb<=8/\(ae L k).rf<=4/\1<=(ae L k).rs/\(ae L k).rs<=8/\(ae L k).rb<=8:=by
 unfold ae;split
 .rename_i a
  obtain⟨_,a⟩:=a
  have:∀k,k<7->(dJ (6*k)<=4/\1<=dJ (6*k+2)/\dJ (6*k+2)<=8/\dJ (6*k+4)<=8/\dJ (6*k+1)<=4/\1<=dJ (6*k+3)/\dJ (6*k+3)<=8/\dJ (6*k+5)<=8):=Xh
  exact this k a
 .simp
end Px
namespace Go.Proofs.YtbedkdnphobmlaaGreatDoor
open Go.RowKit Px Tryz
def aS(w:World):Prop:=∀j,j<42->w.cell? ⟨0,j,none⟩=some (.int .i64 (dJ j))
theorem aS.kept{w w'}(h:aS w)(k:Kept w w'):aS w':=λa b=>(k.cell (p:=⟨0,a,none⟩) (B _ _ (h a b))).trans (h a b)
theorem aS.fr{S:Nat->Prop}{w w'}(h:aS w)(k:Fr S w w')(c:¬S 0):aS w':=λa b=>(k.cell (B _ _ (h a b)) c).trans (h a b)
def psV(p:Ps):Value := .agg #[.int .i64 (p.cf:Int),.int .i64 (p.cs:Int),.int .i64 (p.cb:Int),.int .i64 (p.rf:Int),.int .i64 (p.rs:Int),.int .i64 (p.rb:Int)]
theorem mP(c k:Nat)w(A:c<=1)(C:k<=1000)(g:aS w):Calls prog 95 #[.int .i64 c,.int .i64 k] w λm n=>m=.returned (psV (ae c k))/\Kept w n:=by
 have h:(prog.info? 146).map (·.size)=some 6:=Xk;by_cases i:c=1/\k<7
 .have d:∀(a:Nat),a<6->(∀b,(w.alloc b).cell? ⟨0,k*6+a,none⟩=some (.int .i64 (dJ (6*k+a):Int)))/\(∀b j,((w.alloc b).alloc j).cell? ⟨0,k*6+a,none⟩=some (.int .i64 (dJ (6*k+a):Int))):=λa D=>by
   have l:w.cell? ⟨0,k*6+a,none⟩=some (.int .i64 (dJ (6*k+a):Int)):=by
    have:=g (6*k+a) O
    rw[show k*6+a=6*k+a from O];exact this
   have e:∀b,(w.alloc b).cell? ⟨0,k*6+a,none⟩=some (.int .i64 (dJ (6*k+a):Int)):=λb=>by rw[YG _ _ _ (B _ _ l)];exact l
   exact⟨e,λb j=>by rw[YG _ _ _ (B _ _ (e b))];exact e b⟩
  obtain⟨o,p⟩:=d 0 O;obtain⟨F,G⟩:=d 1 O;obtain⟨H,J⟩:=d 2 O;obtain⟨K,L⟩:=d 3 O;obtain⟨M,P⟩:=d 4 O;obtain⟨Q,R⟩:=d 5 O;have f:Z (ae c k=⟨dJ (6*k),dJ (6*k+2),dJ (6*k+4),dJ (6*k+1),dJ (6*k+3),dJ (6*k+5)⟩):=by unfold ae;exact I i
  rw[f.o];clear f;simp only[X5] at o p;generalize dJ (6*k)=q at *;generalize dJ (6*k+1)=r at *;generalize dJ (6*k+2)=s at *;generalize dJ (6*k+3)=t at *;generalize dJ (6*k+4)=u at *;generalize dJ (6*k+5)=x at *;obtain⟨rfl,S⟩:=i;have y:¬(k:Int)<0:=O;have z:¬(7:Int)<=(k:Int):=O;have T:(0:Int)<=(k:Int):=O;have U:(k:Int)<7:=O;clear d g;go_enter func95,ntmps95;go_wp2;refine XA (v := .agg #[.int .i64 q,.int .i64 s,.int .i64 u,.int .i64 r,.int .i64 t,.int .i64 x]) (ah rfl _ _ w.heap.size 0 _ rfl ?_) rfl ?_
  .refine run_loadVar_row _ _ 146 146 _ (0,0) _ ?_ underlying146 rfl h
   rw[heap_alloc_old _ _ Xi];exact heap_alloc_new _ _
  .exact⟨rfl,Xw (Xw (Xs _ _) (E _) _) Xi _⟩
 .have f:Z (ae c k=⟨0,1,1,0,1,1⟩):=by unfold ae;exact N i
  rw[f.o];clear f g;by_cases e:c=1
  .subst e
   have z:(7:Int)<=(k:Int):=O;have y:¬(k:Int)<0:=O;go_enter func95,ntmps95;go_wp2;refine XA (v := .agg #[.int .i64 0,.int .i64 1,.int .i64 1,.int .i64 0,.int .i64 1,.int .i64 1]) (ah rfl _ _ w.heap.size 0 _ rfl ?_) rfl ?_
   .refine run_loadVar_row _ _ 146 146 _ (0,0) _ ?_ underlying146 rfl h
    exact heap_alloc_new _ _
   .exact⟨rfl,Xw (Xs _ _) (E _) _⟩
  .have V:((c:Int)!=1)=true:=by rw[XJ];omega
   go_enter func95,ntmps95;go_wp2;refine XA (v := .agg #[.int .i64 0,.int .i64 1,.int .i64 1,.int .i64 0,.int .i64 1,.int .i64 1]) (ah rfl _ _ w.heap.size 0 _ rfl ?_) rfl ?_
   .refine run_loadVar_row _ _ 146 146 _ (0,0) _ ?_ underlying146 rfl h
    exact heap_alloc_new _ _
   .exact⟨rfl,Xw (Xs _ _) (E _) _⟩
def dh(f s n:Nat):Nat:=if n<=f then 0 else(n-f-1)/s+1
theorem jw{f s n}(a:1<=s)(b:n<=16):dh f s n<=16:=by
 unfold dh;split
 .omega
 .have:(n-f-1)/s<=n-f-1:=Yz _ _
  omega
theorem zA(f s q n:Nat)w(e:f<=8)(g:1<=s)(h:s<=8)(i:n<=16):Calls prog 130 #[.agg #[.int .i64 f,.int .i64 s,.int .i64 q],.int .i64 n] w λa c=>a=.returned (.int .i64 (dh f s n))/\Kept w c:=by
 have j:(1:Int)<=(s:Int):=O;by_cases b:n<=f
 .have d:(n:Int)<=(f:Int):=O
  unfold dh;rw[I b];go_enter func130,ntmps130;go_wp2;go_ret;exact⟨rfl,Xw (Xs _ _) (E _) _⟩
 .have d:¬(n:Int)<=(f:Int):=O
  unfold dh;rw[N b];have k:¬(s=0):=O;have a:((n:Int)-(f:Int)-1).tdiv (s:Int)=(((n-f-1)/s:Nat):Int):=by
   rw[show(n:Int)-(f:Int)-1=((n-f-1:Nat):Int) from O,XZ O];exact(YB _ _).symm
  have l:((n:Int)-(f:Int)-1)/(s:Int)=(((n-f-1)/s:Nat):Int):=by
   rw[show(n:Int)-(f:Int)-1=((n-f-1:Nat):Int) from O];exact(YB _ _).symm
  have m:(n-f-1)/s<=16:=Xz (Yz _ _) O;generalize (n-f-1)/s=o at *;go_enter func130,ntmps130;go_wp2;go_ret;exact⟨an O,Xw (Xs _ _) (E _) _⟩
theorem wJ(f s q i:Nat)w(j:f<=8)(c:s<=8)(d:i<=1000):Calls prog 156 #[.agg #[.int .i64 f,.int .i64 s,.int .i64 q],.int .i64 i] w λe g=>e=.returned (.int .i64 ((f+i*s:Nat):Int))/\Kept w g:=by
 have h:=XF d c;obtain⟨a,b⟩:∃a,a=i*s:=⟨_,rfl⟩;have k:(i:Int)*(s:Int)=(a:Int):=by rw[b];simp
 rw[<-b] at h ⊢;clear b;go_enter func156,ntmps156;go_wp2;go_ret;exact⟨an O,Xw (Xs _ _) (E _) _⟩
def oB(r:Rw):Bool:=(List.range r.columns).all (λi=>decide (cE r i<r.colours))
theorem oZ{r}(h:∀a,a<r.columns->cE r a<r.colours):oB r=true:=by
 unfold oB;rw[Za];intro a b;exact K (h a (Yi.1 b))
theorem vm{r i}(a:i<r.columns)(h:¬cE r i<r.colours):oB r=false:=by
 unfold oB;rw[<-Bool.not_eq_true,Za];intro b;exact h (Yr (b i (Yi.2 a)))
theorem wy{r}(a:eU r)i:cE r i<65536:=by
 unfold cE;split
 .have:=BZ (r.row (i*r.hd.D/8)) (i*r.hd.D%8) r.hd.D
  have b:2^r.hd.D<=2^16:=XH O a.D;omega
 .have:=a.row (i*r.hd.D/8)
  have:=a.row (i*r.hd.D/8+1)
  omega
structure lA (r:Rw):Prop where
 ok:eU r
 dd:okD r.hd.D
 col:r.columns<=16
 lns:r.lines<=16
 line:r.line<=16
 fit:r.columns*ck r.hd<=1024
 size:r.size<=128
 taken:r.taken<=129
 pass0:0<=r.pass
 pass7:r.pass<=7
 colours:r.colours<=256
theorem H5 b o n c r w(k:Blk w b n c)(l:RwV c o r)(z:o+1549<=n)(g:lA r):Calls prog 232 #[.pointer (some ⟨b,o,none⟩)] w λi j=>i=.returned (.bool (oB r))/\Kept w j:=by
 have L:=g.col;have A:Z (∀(d:World) (a:Nat),Kept w d->a<r.columns->Calls prog 234 #[.pointer (some ⟨b,o,none⟩),.int .i64 a] d λi j=>i=.returned (.int .u16 (cE r a))/\∃e,j=d.drewN e):=λd a h M=>by
  have B:(a+1)*r.hd.D<=16*16:=XF O g.ok.D;rw[YO] at B;exact sn b o n a c r d (k.kept h) l z g.ok g.dd O O
 have C:Z (∀d,Kept w d->d.cell? ⟨b,o+8,none⟩=some (.int .i64 r.columns)/\d.cell? ⟨b,o+5,none⟩=some (.int .i64 r.colours)):=λd h=>⟨(k.kept h).at O l.columns,(k.kept h).at O l.colours⟩
 have D:Z _:=wy g.ok;clear k l g;go_enter func232,ntmps232;go_wp2_with fail;go_loopg [3] r.columns (λh E F=>∃a:Nat,E=.int .i64 a/\a<=r.columns/\h=r.columns-a/\(∀f,f<a->cE r f<r.colours)/\Kept w F)
 case atStart=>exact⟨0,rfl,O,O,λf q=>O,Kept.refl _⟩
 case round=>
  obtain⟨a,rfl,N,s,m,t⟩:=hrel;obtain⟨P,Q⟩:=C.o wr t;have p:Z (Kept w wr):=t;replace m:Z _:=m;replace s:Z _:=s;clear t;by_cases v:a<r.columns
  .have G:(a:Int)<(r.columns:Int):=O
   have x:Z (∀e,Calls prog 234 #[.pointer (some ⟨b,o,none⟩),.int .i64 a] (wr.drewN e) λi j=>i=.returned (.int .u16 (cE r a))/\∃H,j=(wr.drewN e).drewN H):=λe=>A.o _ a (p.o.drewN e) v
   have R:=D.o a;by_cases y:cE r a<r.colours
   .have I:¬(r.colours:Int)<=(cE r a:Int):=O
    have J:Z (∀f,f<a+1->cE r f<r.colours):=λf q=>by
     rcases Nat.lt_succ_iff_lt_or_eq.1 q with e|e
     .exact m.o f e
     .rw[e];exact y
    generalize cE r a=K at *;go_wp2_with fail;go_quiet ((go_at_call 234;exact Zb (x.o _)))
    go_wp2_with fail;go_roundg (r.columns-(a+1))
    case measure=>rw[s.o];omega
    case rel=>exact⟨a+1,Xj,O,rfl,J.o,p.o.drewN _⟩
   .have I:(r.colours:Int)<=(cE r a:Int):=O
    have u:Z _:=vm v y;generalize cE r a=K at *;go_wp2_with fail;go_quiet ((go_at_call 234;exact Zb (x.o _)))
    go_wp2_with fail;go_ret;exact⟨bz (by rw[u.o]),p.o.drewN _⟩
  .have G:¬(a:Int)<(r.columns:Int):=O
   have u:Z _:=oZ (λf q=>m.o f O);go_wp2_with fail;go_ret;exact⟨bz (by rw[u.o]),p.o⟩
def Rw.ps(r:Rw):Ps:=ae r.hd.L r.pass.toNat
def Rw.px(r:Rw)(i:Nat):Nat:=r.ps.cf+i*r.ps.cs
def Rw.py(r:Rw):Nat:=r.ps.rf+r.line*r.ps.rs
def Rw.pt(r:Rw)(i:Nat):Nat:=r.py*16+r.px i
def cO(q:Rw)(a:Nat)(f:Nat->Nat):Nat->Rw
 | 0=>q
 | k+1=>{cO q a f k with smp:=upd (cO q a f k).smp (4*a+k) (f k)}
def aP(r:Rw):Nat->Rw
 | 0=>r
 | m+1=>{cO (aP r m) (r.pt m) (λk=>cE r (m*chn r.hd.K+k)) (chn r.hd.K) with known:=upd (cO (aP r m) (r.pt m) (λk=>cE r (m*chn r.hd.K+k)) (chn r.hd.K)).known (r.pt m) true}
def hE(q r:Rw):Prop:=q.hd=r.hd/\q.colours=r.colours/\q.pass=r.pass/\q.line=r.line/\q.columns=r.columns/\q.lines=r.lines/\q.size=r.size/\q.taken=r.taken/\q.filter=r.filter/\q.row=r.row/\q.above=r.above
theorem hE.refl r:hE r r:=⟨rfl,rfl,rfl,rfl,rfl,rfl,rfl,rfl,rfl,rfl,rfl⟩
theorem nc{q r}(h:hE q r)a f k:hE (cO q a f k) r:=by
 induction k with
 | zero=>exact h
 | succ k b=>exact b
theorem fX q a f k:(cO q a f k).known=q.known:=by
 induction k with
 | zero=>rfl
 | succ k b=>exact b
theorem dV r m:hE (aP r m) r:=by
 induction m with
 | zero=>exact hE.refl r
 | succ m a=>exact nc a _ _ _
theorem hE.smp{q r}(h:hE q r)i:cE q i=cE r i:=by
 obtain⟨a,_,_,_,_,_,_,_,_,b,_⟩:=h;unfold cE;rw[a,b]
theorem hE.ok{q r}(h:hE q r)(k:eU r):eU q:=by
 obtain⟨a,_,_,_,_,_,_,_,b,c,d⟩:=h;exact⟨by rw[a];exact k.W,by rw[a];exact k.H,by rw[a];exact k.D,by rw[a];exact k.K,by rw[a];exact k.L,by rw[b];exact k.filter,by rw[c];exact k.row,by rw[d];exact k.above⟩
structure xZ (r:Rw):Prop where
 px:∀i,i<r.columns->r.px i<16
 py:r.py<16
def EB(w W:World)(p:Ps)(G:Nat):Prop:=w.heap.size<=G/\G<W.heap.size/\W.cell? ⟨G,0,none⟩=some (.int .i64 (p.cf:Int))/\W.cell? ⟨G,1,none⟩=some (.int .i64 (p.cs:Int))/\W.cell? ⟨G,2,none⟩=some (.int .i64 (p.cb:Int))/\W.cell? ⟨G,3,none⟩=some (.int .i64 (p.rf:Int))/\W.cell? ⟨G,4,none⟩=some (.int .i64 (p.rs:Int))/\W.cell? ⟨G,5,none⟩=some (.int .i64 (p.rb:Int))
theorem sB{w w1 ps}(h:Kept w w1):∃a:Nat,Value.pointer (some ⟨w1.heap.size,0,none⟩)=.pointer (some ⟨a,0,none⟩)/\Kept w (w1.alloc (Obj.cells #[.int .i64 ps.cf,.int .i64 ps.cs,.int .i64 ps.cb,.int .i64 ps.rf,.int .i64 ps.rs,.int .i64 ps.rb] 146))/\EB w (w1.alloc (Obj.cells #[.int .i64 ps.cf,.int .i64 ps.cs,.int .i64 ps.cb,.int .i64 ps.rf,.int .i64 ps.rs,.int .i64 ps.rb] 146)) ps a:=by
 refine⟨w1.heap.size,rfl,Xw h h.size _,h.size,Xi,?_,?_,?_,?_,?_,?_⟩
 all_goals exact(Xr _ _ _ _ rfl).trans rfl
theorem sA{w w1 ps}(h:Kept w w1)(e:w1.cell? ⟨w.heap.size,0,none⟩=some (.int .i64 0))(i:w1.cell? ⟨w.heap.size,1,none⟩=some (.int .i64 0))(j:w1.cell? ⟨w.heap.size,2,none⟩=some (.int .i64 0))(k:w1.cell? ⟨w.heap.size,3,none⟩=some (.int .i64 0))(l:w1.cell? ⟨w.heap.size,4,none⟩=some (.int .i64 0))(m:w1.cell? ⟨w.heap.size,5,none⟩=some (.int .i64 0)):∃f:Nat,Value.pointer (some ⟨w.heap.size,0,none⟩)=.pointer (some ⟨f,0,none⟩)/\Kept w ((((((w1.setCell ⟨w.heap.size,0,none⟩ (.int .i64 ps.cf)).setCell ⟨w.heap.size,1,none⟩ (.int .i64 ps.cs)).setCell ⟨w.heap.size,2,none⟩ (.int .i64 ps.cb)).setCell ⟨w.heap.size,3,none⟩ (.int .i64 ps.rf)).setCell ⟨w.heap.size,4,none⟩ (.int .i64 ps.rs)).setCell ⟨w.heap.size,5,none⟩ (.int .i64 ps.rb))/\EB w ((((((w1.setCell ⟨w.heap.size,0,none⟩ (.int .i64 ps.cf)).setCell ⟨w.heap.size,1,none⟩ (.int .i64 ps.cs)).setCell ⟨w.heap.size,2,none⟩ (.int .i64 ps.cb)).setCell ⟨w.heap.size,3,none⟩ (.int .i64 ps.rf)).setCell ⟨w.heap.size,4,none⟩ (.int .i64 ps.rs)).setCell ⟨w.heap.size,5,none⟩ (.int .i64 ps.rb)) ps f:=by
 have a:∀(c:World) (d b:Nat) (g:Value),d≠b->(c.setCell ⟨w.heap.size,d,none⟩ g).cell? ⟨w.heap.size,b,none⟩=c.cell? ⟨w.heap.size,b,none⟩:=λc d b g h=>aa _ _ _ _ _ h
 have n:=B _ _ e;refine⟨w.heap.size,rfl,Y2 (Y2 (Y2 (Y2 (Y2 (Y2 h (E _) _) (E _) _) (E _) _) (E _) _) (E _) _) (E _) _,E _,by simpa[World.setCell] using n,?_,?_,?_,?_,?_,?_⟩
 .rw[a _ 5 0 _ O,a _ 4 0 _ O,a _ 3 0 _ O,a _ 2 0 _ O,a _ 1 0 _ O];exact af e _
 .rw[a _ 5 1 _ O,a _ 4 1 _ O,a _ 3 1 _ O,a _ 2 1 _ O];exact af (by rw[a _ 0 1 _ O];exact i) _
 .rw[a _ 5 2 _ O,a _ 4 2 _ O,a _ 3 2 _ O];exact af (by rw[a _ 1 2 _ O,a _ 0 2 _ O];exact j) _
 .rw[a _ 5 3 _ O,a _ 4 3 _ O];exact af (by rw[a _ 2 3 _ O,a _ 1 3 _ O,a _ 0 3 _ O];exact k) _
 .rw[a _ 5 4 _ O];exact af (by rw[a _ 3 4 _ O,a _ 2 4 _ O,a _ 1 4 _ O,a _ 0 4 _ O];exact l) _
 .exact af (by rw[a _ 4 5 _ O,a _ 3 5 _ O,a _ 2 5 _ O,a _ 1 5 _ O,a _ 0 5 _ O];exact m) _
theorem EZ(T j:Nat)(h:T+j<=1000):IntKind.i64.wrap (IntKind.i64.wrap (T:Int)+(j:Int))=((T+j:Nat):Int):=by
 have b:∀a:Nat,a<=1000->IntKind.i64.wrap (a:Int)=(a:Int):=λa c=>Xd
 rw[b T O,show(T:Int)+(j:Int)=((T+j:Nat):Int) from O,b _ h]
theorem zeroAt{w a:World}(h:Kept (w.alloc (Obj.cells #[.int .i64 0,.int .i64 0,.int .i64 0,.int .i64 0,.int .i64 0,.int .i64 0] 146)).drew a):a.cell? ⟨w.heap.size,0,none⟩=some (.int .i64 0)/\a.cell? ⟨w.heap.size,1,none⟩=some (.int .i64 0)/\a.cell? ⟨w.heap.size,2,none⟩=some (.int .i64 0)/\a.cell? ⟨w.heap.size,3,none⟩=some (.int .i64 0)/\a.cell? ⟨w.heap.size,4,none⟩=some (.int .i64 0)/\a.cell? ⟨w.heap.size,5,none⟩=some (.int .i64 0)/\∀b,a.frozen? ⟨w.heap.size,b,none⟩=false:=by
 have d:w.heap.size<(w.alloc (Obj.cells #[.int .i64 0,.int .i64 0,.int .i64 0,.int .i64 0,.int .i64 0,.int .i64 0] 146)).drew.heap.size:=by show _<(w.alloc _).heap.size;simp
 have c:∀b,a.cell? ⟨w.heap.size,b,none⟩=(#[.int .i64 0,.int .i64 0,.int .i64 0,.int .i64 0,.int .i64 0,.int .i64 0]:Array Value)[b]? := λb=>(h.cell (p:=⟨w.heap.size,b,none⟩) d).trans (Xr _ _ _ _ rfl)
 exact⟨c 0,c 1,c 2,c 3,c 4,c 5,λb=>(h.frozen (p:=⟨w.heap.size,b,none⟩) d).trans (XB _ _ _ _ rfl)⟩
theorem sW b o n c r w(N:Blk w b n c)(a1:RwV c o r)(h2:o+1549<=n)(P:lA r)(d9:xZ r)(e0:aS w)(l9:b≠0):Calls prog 233 #[.pointer (some ⟨b,o,none⟩)] w λh t=>h=.returned (.tuple #[])/\eG b o n c (aP r r.columns) w t:=by
 have e1:=N.at (i:=o+4) O a1.hd.L;have a4:=N.at (i:=o+6) O a1.pass;have m0:=P.pass0;have m1:=P.pass7;have a5:r.pass=((r.pass.toNat:Nat):Int):=O;rw[a5] at a4;have a2:Z (∀f:World,Kept w f->Calls prog 95 #[.int .i64 r.hd.L,.int .i64 r.pass.toNat] f λh t=>h=.returned (psV r.ps)/\Kept f t):=λf j=>mP _ _ f P.ok.L O (e0.kept j)
 have h3:Z _:=cr r.hd.L r.pass.toNat;have e2:Z _:=N;have a6:Z _:=a1;have D:Z _:=P;have e3:Z _:=d9;have e4:=N.lt;replace a5:Z _:=a5;generalize a7:r.pass.toNat=e5 at *;replace a7:Z _:=a7;generalize a8:r.hd.L=e6 at *;replace a8:Z _:=a8;obtain⟨g,F⟩:∃h4,h4=r.ps:=⟨_,rfl⟩;rw[<-F] at a2;replace F:Z _:=F;clear N a1 P d9 e0;unfold psV at a2;go_enter func233,ntmps233;go_wp2_with fail;have a9:Z (Kept w (w.alloc (Obj.cells #[.int .i64 0,.int .i64 0,.int .i64 0,.int .i64 0,.int .i64 0,.int .i64 0] 146))):=Xw (Xs _ _) (E _) _;have e7:∀Q,(w.alloc Q).cell? ⟨b,o+4,none⟩=some (.int .i64 e6):=λQ=>(YG _ _ _ e4).trans e1
 have e8:∀Q,(w.alloc Q).cell? ⟨b,o+6,none⟩=some (.int .i64 e5):=λQ=>(YG _ _ _ e4).trans a4
 go_cut [2] from 9 (λR s=>∃l:Nat,R=.pointer (some ⟨l,0,none⟩)/\Kept w s/\EB w s g l)
 case first=>
  go_region_with (go_at_call 95;refine(a2.o _ (by first|exact(Kept.refl _).drewN 1|exact a9.o.drewN 1)).mono ?_;rintro h m2 ⟨rfl,b0⟩;first|(have h5:=zeroAt b0;obtain⟨h6,h7,h8,h9,i0,i1,m3⟩:=h5;have G:=Kept.trans (a9.o.drewN 1) b0)|(have G:=Kept.trans ((Kept.refl w).drewN 1) b0))
  all_goals
   clear e7 e8;go_wp2_with fail;go_meet
   case rel=>
    first
     | exact sA G h6 h7 h8 h9 i0 i1
     | exact sB G
 case rest=>
  obtain⟨l,rfl,b1,i2⟩:=hcut;clear e1 a4 e7 e8 a2 a9;have a3:Z _:=e2.o.kept b1;have e9:Z (Kept w wc):=b1;obtain⟨m4,B,f0,f1,f2,b2,b3,b4⟩:=i2;have b5:=a3.o.at (i:=o+7) O a6.o.line;have b6:l≠b:=O;obtain⟨i3,i4,i5,i6,i7,i8,i9,j0⟩:=h3.o;have m5:=D.o.line;have b7:g=ae e6 e5:=by rw[F.o];unfold Rw.ps;rw[a8.o,a7.o]
  rw[<-b7] at i3 i4 i5 i6 i7 i8 i9 j0;replace b7:Z _:=b7;have f3:Z (∀(f:World),Calls prog 156 #[.agg #[.int .i64 g.rf,.int .i64 g.rs,.int .i64 g.rb],.int .i64 r.line] f λh t=>h=.returned (.int .i64 r.py)/\Kept f t):=λf=>by
   have:=wJ g.rf g.rs g.rb r.line f O O O
   rw[show r.py=g.rf+r.line*g.rs from by rw[F.o];rfl];exact this
  have j1:Z (∀(f:World) (d:Nat),d<=1000->Calls prog 156 #[.agg #[.int .i64 g.cf,.int .i64 g.cs,.int .i64 g.cb],.int .i64 d] f λh t=>h=.returned (.int .i64 (r.px d))/\Kept f t):=λf d b8=>by
   have:=wJ g.cf g.cs g.cb d f O O b8
   rw[show r.px d=g.cf+d*g.cs from by rw[F.o];rfl];exact this
  clear b1;go_wp2_with fail;go_region_held3 (λs=>s.cell? ⟨l,3,none⟩=some (.int .i64 g.rf)/\s.cell? ⟨l,4,none⟩=some (.int .i64 g.rs)/\s.cell? ⟨l,5,none⟩=some (.int .i64 g.rb)/\s.cell? ⟨b,o+7,none⟩=some (.int .i64 r.line)) (first|exact⟨b2,b3,b4,b5⟩|exact f4.o|go_keep) ((go_at_call 156;refine(f3.o _).mono ?_;rintro h y ⟨rfl,G⟩;have z:=((Kept.refl _).drewN 1).trans G;have f4:Z (y.cell? ⟨l,3,none⟩=some (.int .i64 g.rf)/\y.cell? ⟨l,4,none⟩=some (.int .i64 g.rs)/\y.cell? ⟨l,5,none⟩=some (.int .i64 g.rb)/\y.cell? ⟨b,o+7,none⟩=some (.int .i64 r.line)):=⟨(z.cell (p:=⟨l,3,none⟩) B).trans b2,(z.cell (p:=⟨l,4,none⟩) B).trans b3,(z.cell (p:=⟨l,5,none⟩) B).trans b4,(z.cell (p:=⟨b,o+7,none⟩) a3.o.lt).trans b5⟩))
  have f5:Z _:=a3.o.kept z;have j2:Z (Kept w y):=e9.o.trans z;have b9:Z (y.cell? ⟨l,0,none⟩=some (.int .i64 g.cf)/\y.cell? ⟨l,1,none⟩=some (.int .i64 g.cs)/\y.cell? ⟨l,2,none⟩=some (.int .i64 g.cb)):=⟨(z.cell (p:=⟨l,0,none⟩) B).trans f0,(z.cell (p:=⟨l,1,none⟩) B).trans f1,(z.cell (p:=⟨l,2,none⟩) B).trans f2⟩;have c0:=Xq B z.size;clear f4 G z f0 f1 f2 b2 b3 b4 b5 a3 e9 e2;have f6:=e3.o.py;clear f3;have j3:=f5.o.at (i:=o+3) O a6.o.hd.K;have m6:=D.o.ok.K;go_wp2_with fail;refine(fj r.hd.K _ O).mono ?_;rintro h j4 ⟨rfl,m7⟩;subst j4;have f7:=gN r.hd.K;obtain⟨q,S⟩:∃q,q=chn r.hd.K:=⟨_,rfl⟩;rw[<-S] at f7 ⊢;replace S:Z _:=S;have j5:Z (∀(f:World) (H:Nat),H<16->Calls prog 125 #[.int .i64 H,.int .i64 r.py] f λh t=>h=.returned (.tuple #[.int .i64 ((r.py*16+H:Nat):Int),.bool true])/\t=f):=λf H f8=>by
   have:=qR H r.py f O O
   rw[I ⟨f8,f6⟩,K (⟨f8,f6⟩:H<16/\r.py<16)] at this;exact this
  have m8:=D.o.col;go_wp2_with fail;go_loopg [5] r.columns (λj R s=>∃d:Nat,∃J:Nat->Value,R=.int .i64 d/\d<=r.columns/\j=r.columns-d/\Blk s b n J/\RwV J o (aP r d)/\FrC b o (o+1549) c J/\Fr1 b y s)
  case atStart=>exact⟨0,c,rfl,O,O,f5.o,a6.o,FrC.refl _ _ _ _,Fr.refl _ _⟩
  case round=>
   obtain⟨d,J,rfl,m9,c1,L,M,T,A⟩:=hrel;clear j3;obtain⟨j6,j7,j8,j9,f9,k0⟩:=dV r d;have g0:=L.at (i:=o+8) O M.columns;rw[f9] at g0;have k1:=(A.cell (k:=0) c0 b6).trans b9.o.1;have k2:=(A.cell (k:=1) c0 b6).trans b9.o.2.1;have k3:=(A.cell (k:=2) c0 b6).trans b9.o.2.2;have c2:Z _:=L;have c3:Z _:=M;have c4:Z _:=T;have c5:Z _:=A;clear L M T A j6 j7 j8 j9 f9 k0;replace c1:Z _:=c1;by_cases g1:d<r.columns
   .have k4:(d:Int)<(r.columns:Int):=O
    have k5:=e3.o.px d g1;go_wp2_with fail;refine(j1.o _ d O).mono ?_;rintro h n0 ⟨rfl,c6⟩;have g2:Z _:=c2.o.kept c6;have g3:Z _:=c5.o.kept c6;clear c6 c2 c5 k1 k2 k3 g0;go_wp2_with fail;refine(j5.o _ (r.px d) k5).mono ?_;rintro h k6 ⟨rfl,n1⟩;subst k6;obtain⟨e,c7⟩:∃e,e=r.py*16+r.px d:=⟨_,rfl⟩;rw[<-c7];have k7:=U c7;have n2:e<256:=O;clear c7;have g4:(d+1)*q*r.hd.D<=1024:=by
     have V:=D.o.fit;unfold ck at V;rw[<-S.o,<-Y3] at V;exact Xz (XS _ (XS _ g1)) V
    obtain⟨m,W⟩:∃m,m=d*q:=⟨_,rfl⟩;have n3:(d:Int)*(q:Int)=(m:Int):=by rw[W];simp
    have n4:m<=64:=by rw[W];exact XF (show d<=16 from O) f7
    have k8:Z _:=W;have k9:Z (∀(f:World) (u:Nat->Value) (a:Nat),a<q->Blk f b n u->RwV u o (cO (aP r d) e (λj=>cE r (m+j)) a)->Calls prog 234 #[.pointer (some ⟨b,o,none⟩),.int .i64 ((m+a:Nat):Int)] f λh t=>h=.returned (.int .u16 (cE r (m+a):Int))/\∃v,t=f.drewN v):=λf u a g5 l0 l1=>by
     have c8:=nc (dV r d) e (λj=>cE r (m+j)) a;have g6:(cO (aP r d) e (λj=>cE r (m+j)) a).hd.D=r.hd.D:=by rw[c8.1]
     have g7:(m+a+1)*r.hd.D<=1024:=Xz (XS _ (by rw[W,YO,Zi];omega)) g4;rw[YO,Zi] at g7
     have:=sn b o n (m+a) u _ f l0 l1 h2 (c8.ok D.o.ok) (by rw[g6];exact D.o.dd) (by rw[g6];exact g7) O
     rw[c8.smp] at this;exact this
    clear g4 W;go_wp2_with fail;go_loopg [8] q (λj R s=>∃a:Nat,∃u:Nat->Value,R=.int .i64 a/\a<=q/\j=q-a/\Blk s b n u/\RwV u o (cO (aP r d) e (λj=>cE r (m+j)) a)/\FrC b o (o+1549) c u/\Fr1 b y s)
    case atStart=>exact⟨0,J,rfl,O,O,g2.o,c3.o,c4.o,g3.o⟩
    case round=>
     obtain⟨a,u,rfl,n5,c9,L,M,T,A⟩:=hrel;have C:Z _:=L;have X:Z _:=M;have g8:Z _:=T;have g9:Z _:=A;clear L M T A g2 c3 c4 g3;replace c9:Z _:=c9;by_cases l2:a<q
     .have l3:(a:Int)<(q:Int):=O
      have n6:(a:Int)<4:=O;have n7:(0:Int)<=(a:Int):=O;have l4:(0:Int)<=(e:Int):=O;have l5:(e:Int)<256:=O;have l6:Z (∀f,(∃v,f=wr.drewN v)->Calls prog 234 #[.pointer (some ⟨b,o,none⟩),.int .i64 ((m+a:Nat):Int)] f λh t=>h=.returned (.int .u16 (cE r (m+a):Int))/\∃d0,t=wr.drewN d0):=λf ⟨v,x⟩=>(k9.o f u a l2 (by rw[x];exact C.o.kept ((Kept.refl _).drewN v)) X.o).mono (λh t ⟨V,l7,l8⟩=>⟨V,v+l7,by rw[l8,x,World.drewN_drewN]⟩)
      have d1:=EZ m a O;replace d1:Z _:=d1;have Y:=C.o.at (i:=o+525+(4*e+a)) O (X.o.smp (4*e+a) O);have d2:=C.o.fz (o+525+(4*e+a));have h0:o+525+(4*e+a)=o+525+e*4+a:=O;rw[h0] at Y d2;obtain⟨d3,Y⟩:∃d3,wr.cell? ⟨b,o+525+e*4+a,none⟩=some d3:=⟨_,Y⟩;generalize d4:cE r (m+a)=a0 at *;replace d4:Z _:=d4;go_upto_block 3 with fail
      go_cut [] from 51 to 73 (λs=>∃v,s=(wr.drewN v).setCell ⟨b,o+525+e*4+a,none⟩ (.int .u16 a0))
      case first=>
       go_wp2_with fail;go_region_with (go_at_call 234;rw[d1.o];refine(l6.o _ ⟨1,rfl⟩).mono ?_;rintro h h1 ⟨rfl,d0,x⟩;have n8:h1.cell? ⟨b,o+525+e*4+a,none⟩=some d3:=(by rw[x];exact Y);have n9:h1.frozen? ⟨b,o+525+e*4+a,none⟩=false:=(by rw[x];exact d2);replace x:Z _:=x)
       all_goals
        go_wp2_with fail;go_meet
        case rel=>exact⟨d0,by rw[<-x.o]⟩
      case rest=>
       obtain⟨v,x⟩:=hcut;have d5:Blk wc b n (upd u (o+525+(4*e+a)) (.int .u16 a0)):=by
        rw[x,<-h0];exact(C.o.kept ((Kept.refl _).drewN v)).set O _
       have d6:RwV (upd u (o+525+(4*e+a)) (.int .u16 a0)) o (cO (aP r d) e (λj=>cE r (m+j)) (a+1)):=by
        have:=X.o.set_smp (4*e+a) a0 O
        rw[<-d4.o] at this ⊢;exact this
       have d7:FrC b o (o+1549) c (upd u (o+525+(4*e+a)) (.int .u16 a0)):=g8.o.trans (FrC.upd _ O O);have d8:Fr1 b y wc:=by
        rw[x];exact Fr1.set (Fr1.drewN g9.o v) _ _
       replace d5:Z _:=d5;replace d6:Z _:=d6;replace d7:Z _:=d7;replace d8:Z _:=d8;clear x Y d2;go_wp2_with fail;go_roundg (q-(a+1))
       case measure=>rw[c9.o];omega
       case rel=>exact⟨a+1,_,Xj,O,rfl,d5.o,d6.o,d7.o,d8.o⟩
     .have l3:¬(a:Int)<(q:Int):=O
      have g5:Z (a=q):=by show a=q;omega
      have o0:=C.o.at (i:=o+269+e) O (X.o.known e O);have o1:=C.o.fz (o+269+e);have l4:(0:Int)<=(e:Int):=O;have l5:(e:Int)<256:=O;go_wp2_with fail;go_roundg (r.columns-(d+1))
      case measure=>rw[c1.o];omega
      case rel=>
       refine⟨d+1,upd u (o+269+e) (.bool true),Xj,O,rfl,C.o.set O _,?_,g8.o.trans (FrC.upd _ O O),Fr1.set g9.o _ _⟩
       have:=X.o.set_known e true O
       rw[g5.o] at this;have h:aP r (d+1)={cO (aP r d) e (λj=>cE r (m+j)) q with known:=upd (cO (aP r d) e (λj=>cE r (m+j)) q).known e true}:=by
        rw[k7.o,k8.o,S.o];rfl
       rw[h];exact this
   .have k4:¬(d:Int)<(r.columns:Int):=O
    have b8:d=r.columns:=O;go_wp2_with fail;go_end0
    exact⟨rfl,J,c2.o,by rw[<-b8];exact c3.o,c4.o,Fr.trans' (Fr.of_kept j2.o) c5.o (λj _ v=>v)⟩
def Rw.takeF(r:Rw)(x:Nat):Rw×Nat:=if 4<x then(r,15) else({r with filter:=x},0)
theorem eG.refl{b o n c r w}(a:Blk w b n c)(d:RwV c o r):eG b o n c r w w:=⟨c,a,d,FrC.refl _ _ _ _,Fr.refl _ _⟩
theorem qa(b d n x:Nat)c r w(e:Blk w b n c)(f:RwV c d r)(m:d+1549<=n)(o:x<256):Calls prog 227 #[.pointer (some ⟨b,d,none⟩),.int .u8 x] w λa k=>a=.returned (.int .i64 ((r.takeF x).2:Int))/\eG b d n c (r.takeF x).1 w k:=by
 have p:=e.at (i:=d+12) O f.filter;have q:=e.fz (d+12);have g:Z _:=e;have h:Z _:=f;clear e f;by_cases j:4<x
 .have l:(4:Int)<(x:Int):=O
  have a:r.takeF x=(r,15):=by unfold Rw.takeF;rw[I j]
  rw[a];clear a;go_enter func227,ntmps227;go_wp2;go_ret;exact⟨rfl,eG.refl g.o h.o⟩
 .have l:¬(4:Int)<(x:Int):=O
  have a:r.takeF x=({r with filter:=x},0):=by unfold Rw.takeF;rw[N j]
  rw[a];clear a;go_enter func227,ntmps227;go_wp2;go_ret;exact⟨rfl,_,g.o.set O _,h.o.set_filter x,FrC.upd _ O O,Fr1.set (Fr.refl _ _) _ _⟩
def updL(c:Nat->Value)(k m:Nat)(f:Nat->Value):Nat->Value:=λi=>if k<=i/\i<k+m then f (i-k) else c i
theorem dA{c k m f j}(h:j<m):updL c k m f (k+j)=f j:=by
 unfold updL;rw[I ⟨O,O⟩,show k+j-k=j from O]
theorem dr{c k m f i}(h:¬(k<=i/\i<k+m)):updL c k m f i=c i:=N h
theorem aM{P W b o cs}(h:W.there b o cs.length)(d:∀e∈cs,e.oneCell'=true):(storeCells ⟨b,o,none⟩ cs).run P W=.ok () (W.setCells b o cs):=by
 have:=run_storeCells_cells (P:=P) b o cs 0 W (λa c=>by rw[X5];exact(h a c).1) (λa c=>by rw[X5];exact(h a c).2) d
 rw[X5] at this;exact this
theorem Blk.there{w b n c}(h:Blk w b n c){k m}(d:k+m<=n):w.there b k m:=λa e=>⟨by rw[h.cell (k+a) O];rfl,h.fz _⟩
theorem Blk.range{w b n c}(h:Blk w b n c){k m}(e:k+m<=n):w.rangeAt b k ((List.range m).map (λj=>c (k+j))):=λj f a=>by
 rw[XQ] at a;by_cases d:j<m
 .rw[Yp d] at a
  injection a with a
  rw[h.cell (k+j) O,<-a]
 .rw[XX (by rw[List.length_range];omega)] at a
  exact absurd a Xi
theorem size_setCells(w:World)b:∀(a:List Value) (k:Nat) (w:World),(w.setCells b k a).heap.size=w.heap.size
 | [],_,_=>rfl
 | v::r,k,w=>(size_setCells w b r (k+1) _).trans (by simp[World.setCell])
theorem Blk.sets{w b n c}(h:Blk w b n c){k m}(i:k+m<=n){cs}f(l:cs.length=m)(d:∀j,j<m->cs[j]? = some (f j)):Blk (w.setCells b k cs) b n (updL c k m f):=by
 refine⟨λa e => ?_,λa=>by rw[World.frozen?_setCells];exact h.fz a,by rw[size_setCells w];exact h.lt⟩;by_cases g:k<=a/\a<k+m
 .obtain⟨j,rfl⟩:∃j,a=k+j:=⟨a-k,O⟩
  rw[dA O];exact XO w b k cs (h.there O) j _ (d j O)
 .rw[dr g,<-h.cell a e]
  exact YS b cs k w ⟨b,a,none⟩ (λ_ _=>by show a<k\/k+cs.length<=a;omega)
theorem Fr1.sets{b x}:∀(c:List Value) (k:Nat) {y:World},Fr1 b x y->Fr1 b x (y.setCells b k c)
 | [],_,_,a=>a
 | v::d,k,_,a=>Fr1.sets d (k+1) (Fr1.set a k v)
theorem FrC.updL{b lo hi k m:Nat}{c:Nat->Value}{f:Nat->Value}(h1:lo<=k)(h2:k+m<=hi):FrC b lo hi c (updL c k m f):=⟨λi q=>dr (λe=>q ⟨om,om⟩)⟩
theorem RwV.lay_above{c o r}(h:RwV c o r)f:RwV (updL c (o+141) 128 (λj => .int .u8 (f j))) o {r with above:=f} :=
 h.all_above f (λb a=>dA a) (λb a=>dr (λd=>a ⟨d.1,O⟩))
