import Derived.Test.YtbedkdnphobmlaaGreatDoorProg
import Derived.Test.YtbedkdnphobmlaaGreatDoorUaa00
import Derived.Test.YtbedkdnphobmlaaGreatDoorUaa01
import Derived.Test.YtbedkdnphobmlaaGreatDoorUaa03
import Derived.Test.YtbedkdnphobmlaaGreatDoorUaa04
import Derived.Test.YtbedkdnphobmlaaGreatDoorUaa05
import Derived.Test.YtbedkdnphobmlaaGreatDoorUaa06
set_option linter.all false
set_option maxRecDepth 100000
set_option maxHeartbeats 0
namespace Go.Proofs.YtbedkdnphobmlaaGreatDoor
open Go.RowKit Px Tryz
def ak(b o n:Nat)(c:Nat->Value)(s':St)(w w':World):Prop:=∃d,Blk w' b n d/\StV d o s'/\FrC b o (o+3351) c d/\Fr1 b w w'
def St.enter(s:St)(p k:Nat):St:={s with part:=p,wanted:=k,got:=0,number:=0,path:=⟨0,0,0⟩}
theorem bn(b a n p k:Nat)c s w(d:Blk w b n c)(e:StV c a s)(q:a+3351<=n):Calls prog 165 #[.pointer (some ⟨b,a,none⟩),.int .i64 p,.int .u64 k] w λg h=>g=.returned (.tuple #[])/\ak b a n c (s.enter p k) w h:=by
 have r:=d.at (i:=a) O e.part;have t:=d.at (i:=a+1) O e.number;have u:=d.at (i:=a+2) O e.got;have v:=d.at (i:=a+3) O e.wanted;have x:=d.at (i:=a+4) O e.path.bits;have y:=d.at (i:=a+4+1) O e.path.offset;have z:=d.at (i:=a+4+2) O e.path.ahead;have A:=d.fz;have j:Z _:=d;have l:Z _:=e;clear d e;go_enter func165,ntmps165;go_wp2;go_end0
 have f:=(((l.o.set_part p).set_wanted k).set_got 0).set_number 0;refine⟨rfl,_,(((((((j.o.set (k:=a) O (.int .i64 p)).set (k:=a+3) O (.int .u64 k)).set (k:=a+2) O (.int .u64 0)).set (k:=a+1) O (.int .u32 0)).set (k:=a+4) O (.int .i64 0)).set (k:=a+4+1) O (.int .i64 0)).set (k:=a+4+2) O (.int .i64 0)),f.set_path ⟨0,0,0⟩ (((f.path.set_bits 0).set_offset 0).set_ahead 0) (λm o => ?_),?_,?_⟩
 .rw[upd_ne _ _ _ O,upd_ne _ _ _ O,upd_ne _ _ _ O]
  rfl
 .exact⟨λm o=>by rw[upd_ne _ _ _ O,upd_ne _ _ _ O,upd_ne _ _ _ O,upd_ne _ _ _ O,upd_ne _ _ _ O,upd_ne _ _ _ O,upd_ne _ _ _ O]⟩
 .exact Fr1.set (Fr1.set (Fr1.set (Fr1.set (Fr1.set (Fr1.set (Fr1.set (Fr.refl _ _) _ _) _ _) _ _) _ _) _ _) _ _) _ _
theorem jE b o n c s w(a:Blk w b n c)(d:StV c o s)(g:o+3351<=n):Calls prog 111 #[.pointer (some ⟨b,o,none⟩)] w λe f=>e=.returned (.bool (decide (s.part=10)))/\f=w:=by
 have h:=a.at (i:=o) O d.part;clear a d;go_enter func111,ntmps111;go_wp2;go_ret;exact⟨bz (by rw[X4,XI,XL];omega),rfl⟩
def kY(n:Nat):Bool:=decide (n%256%16=8/\n%256/16<=7/\(256*(n%256)+n/256)%31=0/\n/256/32%2=0)
def St.takeHead(s:St)(n:Nat):St×Nat:=if kY n then(({s with window:=256*2^(n%256/16)}:St).enter 1 3,0) else(s,10)
theorem eZ(n k:Nat)(h:n<4294967296)(a:k<=31):bits .and .u32 (n:Int) ((2^k-1:Nat):Int)=((n%2^k:Nat):Int):=by
 have d:=XH (n:=2) O a;show IntKind.u32.wrap ((BitVec.ofInt 32 (n:Int) &&& BitVec.ofInt 32 ((2^k-1:Nat):Int)).toNat:Int)=_
 have b:(BitVec.ofInt 32 (n:Int)).toNat=n:=by rw[XT,X0];exact X1 O
 have c:(BitVec.ofInt 32 ((2^k-1:Nat):Int)).toNat=2^k-1:=by rw[XT,X0];exact X1 O
 have:n%2^k<=n:=Zg _ _
 rw[Zn,b,c,Zm,Yq];omega
theorem rS(n:Nat)(h:n<4294967296):bits .and .u32 (n:Int) 255=((n%256:Nat):Int):=eZ n 8 h O
theorem iG(n:Nat)(h:n<4294967296):bits .and .u32 (n:Int) 1=((n%2:Nat):Int):=eZ n 1 h O
theorem iW(n:Nat)(h:n<4294967296):bits .and .u32 (n:Int) 65535=((n%65536:Nat):Int):=eZ n 16 h O
theorem uT n(h:n<256):n &&& 32=n/32%2*32:=by
 have a:(n &&& 32)%32=0:=by
  have:(n &&& 32)%2^5=(n%2^5) &&& (32%2^5):=Nat.and_mod_two_pow
  rw[show(2^5:Nat)=32 from rfl] at this;rw[this];simp
 have b:(n &&& 32)/32=n/32%2:=by
  have:(n &&& 32)/2^5=(n/2^5) &&& (32/2^5):=Nat.and_div_two_pow
  rw[show(2^5:Nat)=32 from rfl] at this;rw[this];exact nat_mask1 _
 omega
theorem ua(n:Nat)(h:n<256):bits .and .u32 (n:Int) 32=((n/32%2*32:Nat):Int):=by
 show IntKind.u32.wrap ((BitVec.ofInt 32 (n:Int) &&& BitVec.ofInt 32 32).toNat:Int)=_
 have a:(BitVec.ofInt 32 (n:Int)).toNat=n:=by rw[XT,X0];exact X1 O
 have b:(BitVec.ofInt 32 32).toNat=32:=rfl;rw[Zn,a,b,uT n h,Yq];omega
theorem uu(b h n v:Nat)c s w(u:Blk w b n c)(A:StV c h s)(L:h+3351<=n)(V:v<65536):Calls prog 207 #[.pointer (some ⟨b,h,none⟩),.int .u32 v] w λE M=>E=.returned (.int .i64 ((s.takeHead v).2:Int))/\ak b h n c (s.takeHead v).1 w M:=by
 have N:=rS v O;have W:=u.at (i:=h+8) O A.window;have X:=u.fz (h+8);have o:Z _:=u;have p:Z _:=A;clear u A;obtain⟨a,q⟩:∃a,a=v%256:=⟨_,rfl⟩;obtain⟨d,B⟩:∃d,d=v/256:=⟨_,rfl⟩;have Y:a<256:=O;have P:d<256:=O;have a0:(v:Int)/256=(d:Int):=O;have Q:=ua d P;rw[<-q] at N;have x:Z (kY v=decide (a%16=8/\a/16<=7/\(256*a+d)%31=0/\d/32%2=0)):=by
  show kY v=decide (a%16=8/\a/16<=7/\(256*a+d)%31=0/\d/32%2=0)
  unfold kY;rw[q,B]
 obtain⟨e,C⟩:∃e,e=d/32%2*32:=⟨_,rfl⟩;rw[<-C] at Q;have m:e=0\/e=32:=O;have y:Z (e=0↔d/32%2=0):=by show e=0↔d/32%2=0;omega
 have z:Z (s.takeHead v=if kY v then(({s with window:=256*2^(a/16)}:St).enter 1 3,0) else(s,10)):=by
  show s.takeHead v=_
  unfold St.takeHead;rw[q]
 replace q:Z _:=q;replace B:Z _:=B;replace C:Z _:=C;by_cases j:a%16=8/\a/16<=7/\(256*a+d)%31=0/\e=0
 .obtain⟨r,k,t,D⟩:=j
  have F:((a:Int)%16 != 8)=false:=Xc;have G:¬(7:Int)<(a:Int)/16:=O;have H:((256*(a:Int)+(d:Int))%31 != 0)=false:=Xc;subst D;have l:s.takeHead v=(({s with window:=256*2^(a/16)}:St).enter 1 3,0):=by rw[z.o,x.o,K ⟨r,k,t,y.o.1 rfl⟩];rfl
  rw[l];clear l y z x m;have R:2^(a/16)<=2^7:=XH O k;obtain⟨f,I⟩:∃f,f=a/16:=⟨_,rfl⟩;have a1:(a:Int)/16=(f:Int):=O;rw[<-I] at R k ⊢;clear I;go_enter func207,ntmps207;go_wp2_with fail;have S:wrap64 (256*2^f)=((256*2^f:Nat):Int):=by
   have l:(256*2^f:Int)=((256*2^f:Nat):Int):=Xi;rw[l];unfold wrap64;omega
  rw[S];refine(bn b h n 1 3 _ {s with window:=256*2^f} _ (o.o.set O _) (p.o.set_window _) L).mono ?_;rintro E a2 ⟨rfl,T,r,k,t,D⟩;go_wp2_with fail;go_ret;exact⟨rfl,T,r,k,(FrC.upd _ O O).trans t,(Fr1.set (Fr.refl _ _) _ _).trans D⟩
 .have l:s.takeHead v=(s,10):=by
   rw[z.o,x.o,J (λg=>j ⟨g.1,g.2.1,g.2.2.1,y.o.2 g.2.2.2⟩)];rfl
  rw[l];clear l y z x;by_cases r:a%16=8
  .have F:((a:Int)%16 != 8)=false:=by rw[Xx];omega
   by_cases k:a/16<=7
   .have G:¬(7:Int)<(a:Int)/16:=O
    by_cases t:(256*a+d)%31=0
    .have H:((256*(a:Int)+(d:Int))%31 != 0)=false:=by rw[Xx];omega
     have U:e=32:=by
      rcases m with g|g
      .exact absurd ⟨r,k,t,g⟩ j
      .exact g
     subst U;clear j m;go_enter func207,ntmps207;go_wp2;go_ret;exact⟨rfl,c,o.o,p.o,FrC.refl _ _ _ _,Fr.refl _ _⟩
    .have H:((256*(a:Int)+(d:Int))%31 != 0)=true:=by rw[XJ];omega
     clear j m;go_enter func207,ntmps207;go_wp2
     all_goals
      go_ret;exact⟨rfl,c,o.o,p.o,FrC.refl _ _ _ _,Fr.refl _ _⟩
   .have G:(7:Int)<(a:Int)/16:=O
    clear j m;go_enter func207,ntmps207;go_wp2
    all_goals
     go_ret;exact⟨rfl,c,o.o,p.o,FrC.refl _ _ _ _,Fr.refl _ _⟩
  .have F:((a:Int)%16 != 8)=true:=by rw[XJ];omega
   clear j m;go_enter func207,ntmps207;go_wp2
   all_goals
    go_ret;exact⟨rfl,c,o.o,p.o,FrC.refl _ _ _ _,Fr.refl _ _⟩
end Go.Proofs.YtbedkdnphobmlaaGreatDoor
namespace Px
def adl(s x:Nat):Nat:=(s/65536+(s%65536+x)%65521)%65521*65536+(s%65536+x)%65521
theorem vO s x:adl s x<4294967296:=by unfold adl;omega
end Px
namespace Go.Proofs.YtbedkdnphobmlaaGreatDoor
open Go.RowKit Px Tryz
theorem u32_or16(a c:Nat)(h:a<65536)(j:c<65536):bits .or .u32 ((a:Int)*65536) (c:Int)=((a*65536+c:Nat):Int):=by
 show IntKind.u32.wrap ((BitVec.ofInt 32 ((a:Int)*65536) ||| BitVec.ofInt 32 (c:Int)).toNat:Int)=_
 have d:(a:Int)*65536=((a*65536:Nat):Int):=O;have e:(BitVec.ofInt 32 ((a:Int)*65536)).toNat=a*65536:=by rw[d,XT,X0];exact X1 O
 have f:(BitVec.ofInt 32 (c:Int)).toNat=c:=by rw[XT,X0];exact X1 O
 have g:a*65536 ||| c=a*65536+c:=by
  have:=YW (b:=c) (i:=16) O a
  rw[Nat.shiftLeft_eq,show(2^16:Nat)=65536 from rfl] at this;omega
 rw[BitVec.toNat_or,e,f,g,Yq];omega
theorem xW(s x:Nat)w(i:s<4294967296)(n:x<256):Calls prog 142 #[.int .u32 s,.int .u8 x] w λj k=>j=.returned (.int .u32 (adl s x))/\k=w:=by
 have l:=iW s i;obtain⟨d,e⟩:∃d,d=s%65536:=⟨_,rfl⟩;obtain⟨c,f⟩:∃c,c=s/65536:=⟨_,rfl⟩;obtain⟨a,g⟩:∃a,a=(d+x)%65521:=⟨_,rfl⟩;obtain⟨b,h⟩:∃b,b=(c+a)%65521:=⟨_,rfl⟩;rw[<-e] at l;have o:d<65536:=O;have p:c<65536:=O;have q:(s:Int)/65536=(c:Int):=O;have r:((d:Int)+(x:Int))%65521=(a:Int):=O;have t:((c:Int)+(a:Int))%65521=(b:Int):=O;have u:a<65521:=O;have v:b<65521:=O;have m:Z (adl s x=b*65536+a):=by
  show adl s x=b*65536+a
  unfold adl;rw[<-e,<-f,<-g,<-h]
 clear e f g h;go_enter func142,ntmps142;go_wp2;go_ret;refine⟨an ?_,rfl⟩;rw[m.o,<-(u32_or16 b a O O)]
def St.endBlock(s:St):St:=if s.last then({s with skip:=true}:St).enter 9 32 else s.enter 1 3
theorem jo b o n c s w(d:Blk w b n c)(e:StV c o s)(p:o+3351<=n):Calls prog 203 #[.pointer (some ⟨b,o,none⟩)] w λf u=>f=.returned (.int .i64 0)/\ak b o n c s.endBlock w u:=by
 have q:=d.at (i:=o+9) O e.last;have x:=d.at (i:=o+7) O e.skip;have y:=d.fz;have r:Z _:=d;have t:Z _:=e;clear d e;cases a:s.last with
 | true=>
  rw[a] at q;have g:Z (s.endBlock=({s with skip:=true}:St).enter 9 32):=by show s.endBlock=_;unfold St.endBlock;rw[a];rfl
  clear a;go_enter func203,ntmps203;go_wp2_with fail;refine(bn b o n 9 32 _ {s with skip:=true} _ (r.o.set O _) (t.o.set_skip true) p).mono ?_;rintro f v ⟨rfl,h,j,k,l,m⟩;go_wp2_with fail;go_ret;rw[g.o];exact⟨rfl,h,j,k,(FrC.upd _ O O).trans l,(Fr1.set (Fr.refl _ _) _ _).trans m⟩
 | false=>
  rw[a] at q;have g:Z (s.endBlock=s.enter 1 3):=by show s.endBlock=_;unfold St.endBlock;rw[a];rfl
  clear a;go_enter func203,ntmps203;go_wp2_with fail;refine(bn b o n 1 3 _ s _ r.o t.o p).mono ?_;rintro f v ⟨rfl,h,j,k,l,m⟩;go_wp2_with fail;go_ret;rw[g.o];exact⟨rfl,h,j,k,l,m⟩
def St.takeSize(s:St)(v:Nat):St×Nat:=if v%65536+v/65536=65535 then(if v%65536=0 then({s with left:=v%65536}:St).endBlock else({s with left:=v%65536}:St).enter 3 8,0) else(s,11)
theorem ud(b e n v:Nat)c s w(k:Blk w b n c)(l:StV c e s)(u:e+3351<=n)(z:v<4294967296):Calls prog 209 #[.pointer (some ⟨b,e,none⟩),.int .u32 v] w λm A=>m=.returned (.int .i64 ((s.takeSize v).2:Int))/\ak b e n c (s.takeSize v).1 w A:=by
 have G:=k.at (i:=e+10) O l.left;have H:=k.fz (e+10);have o:Z _:=k;have p:Z _:=l;have B:=iW v z;have h:Z (s.takeSize v=if v%65536+v/65536=65535 then(if v%65536=0 then({s with left:=v%65536}:St).endBlock else({s with left:=v%65536}:St).enter 3 8,0) else(s,11)):=rfl;obtain⟨a,x⟩:∃a,a=v%65536:=⟨_,rfl⟩;obtain⟨g,y⟩:∃g,g=v/65536:=⟨_,rfl⟩;rw[<-x] at B h;rw[<-y] at h;have J:a<65536:=O;have K:g<65536:=O;have L:(v:Int)/65536=(g:Int):=O;clear k l x y;by_cases d:a+g=65535
 .have C:(((a:Int)+(g:Int))!=65535)=false:=by rw[Xx];omega
  by_cases f:a=0
  .have j:Z (s.takeSize v=(({s with left:=a}:St).endBlock,0)):=by show s.takeSize v=_;rw[h.o,I d,I f]
   have D:((a:Int)==0)=true:=Xg;replace f:Z _:=f;clear d;go_enter func209,ntmps209;go_wp2_with fail;refine(jo b e n _ {s with left:=a} _ (o.o.set O _) (p.o.set_left a) u).mono ?_;rintro m E ⟨rfl,q,d,f,r,t⟩;go_wp2_with fail;go_ret;rw[j.o];exact⟨rfl,q,d,f,(FrC.upd _ O O).trans r,(Fr1.set (Fr.refl _ _) _ _).trans t⟩
  .have j:Z (s.takeSize v=(({s with left:=a}:St).enter 3 8,0)):=by show s.takeSize v=_;rw[h.o,I d,N f]
   have D:((a:Int)==0)=false:=Xa;clear d;go_enter func209,ntmps209;go_wp2_with fail;refine(bn b e n 3 8 _ {s with left:=a} _ (o.o.set O _) (p.o.set_left a) u).mono ?_;rintro m E ⟨rfl,q,d,f,r,t⟩;go_wp2_with fail;go_ret;rw[j.o];exact⟨rfl,q,d,f,(FrC.upd _ O O).trans r,(Fr1.set (Fr.refl _ _) _ _).trans t⟩
 .have C:(((a:Int)+(g:Int))!=65535)=true:=by rw[XJ];omega
  have j:Z (s.takeSize v=(s,11)):=by show s.takeSize v=_;rw[h.o,N d]
  go_enter func209,ntmps209;go_wp2;go_ret;rw[j.o];exact⟨rfl,c,o.o,p.o,FrC.refl _ _ _ _,Fr.refl _ _⟩
def St.block0(s:St)(v:Nat):St:=({s with last:=decide (v%2=1),skip:=true}:St).enter 2 32
theorem qe(b a n v:Nat)c s w(d:Blk w b n c)(e:StV c a s)(h:a+3351<=n)(z:v<2):Calls prog 208 #[.pointer (some ⟨b,a,none⟩),.int .u32 v] w λf j=>f=.returned (.int .i64 0)/\ak b a n c (s.block0 v) w j:=by
 have A:=d.at (i:=a+9) O e.last;have B:=d.at (i:=a+7) O e.skip;have C:=d.fz;have l:Z _:=d;have m:Z _:=e;have o:=iG v O;rw[show v%2=v from O] at o;have D:(v:Int)/2=0:=O;have p:Z (((v:Int)==1)=decide (v%2=1)):=by show((v:Int)==1)=decide (v%2=1);rw[X4,XI,XL];omega
 have q:Z (s.block0 v=({s with last:=decide (v%2=1),skip:=true}:St).enter 2 32):=rfl;generalize decide (v%2=1)=g at *;clear d e;go_enter func208,ntmps208;go_wp2_with fail;rw[p.o];refine(bn b a n 2 32 _ {s with last:=g,skip:=true} _ ((l.o.set (k:=a+9) O _).set (k:=a+7) O _) ((m.o.set_last g).set_skip true) h).mono ?_;rintro f E ⟨rfl,r,t,u,x,y⟩;go_wp2_with fail;go_ret;rw[q.o];exact⟨rfl,r,t,u,((FrC.upd _ O O).trans (FrC.upd _ O O)).trans x,(Fr1.set (Fr1.set (Fr.refl _ _) _ _) _ _).trans y⟩
def aw(b o n:Nat)(c:Nat->Value)(s':St)(r':Rw)(w w':World):Prop:=∃d,Blk w' b n d/\StV d o s'/\RwV d (o+3351) r'/\FrC b o (o+4900) c d/\Fr1 b w w'
theorem aw.of_st{b o n c s' r w w'}(d:RwV c (o+3351) r)(h:ak b o n c s' w w'):aw b o n c s' r w w':=by
 obtain⟨e,f,g,a,i⟩:=h;exact⟨e,f,g,d.congr (λj _ _=>a.o j O),a.mono O O,i⟩
theorem aw.of_rw{b o n c s r' w w'}(d:StV c o s)(h:eG b (o+3351) n c r' w w'):aw b o n c s r' w w':=by
 obtain⟨e,f,g,a,i⟩:=h;exact⟨e,f,d.congr (λj _ _=>a.o j O),g,a.mono O O,i⟩
theorem aw.refl{b o n c s r w}(a:Blk w b n c)(d:StV c o s)(e:RwV c (o+3351) r):aw b o n c s r w w:=⟨c,a,d,e,FrC.refl _ _ _ _,Fr.refl _ _⟩
theorem aw.next{b o n c d s r w w1 w'}(a:FrC b o (o+4900) c d)(e:Fr1 b w w1)(k:aw b o n d s r w1 w'):aw b o n c s r w w':=by
 obtain⟨f,g,h,i,j,l⟩:=k;exact⟨f,g,h,i,a.trans j,e.trans l⟩
structure eH (r:Rw):Prop where
 in':lA r
 tk:r.taken<=128
 geo:aN r=false->xZ r
def St.give(s:St)(x:Nat):St:={s with hist:=upd s.hist s.count x,count:=s.count+1,sum:=adl s.sum x}
def aB(s:St)(r:Rw)(x:Nat):St×Rw×Nat:=
 if(r.take x).2=0 then(if 2078<=s.count then(s,(r.take x).1,17) else(s.give x,(r.take x).1,0)) else(s,(r.take x).1,(r.take x).2)
theorem vo(b a n x:Nat)c s r w(A:Blk w b n c)(B:StV c a s)(h:RwV c (a+3351) r)(a1:a+4900<=n)(p:eH r)(C:aS w)(R:b≠0)(D:x<256)(S:s.sum<4294967296):Calls prog 205 #[.pointer (some ⟨b,a,none⟩),.int .u8 x,.pointer (some ⟨b,a+3351,none⟩)] w λq T=>q=.returned (.int .i64 ((aB s r x).2.2:Int))/\aw b a n c (aB s r x).1 (aB s r x).2.1 w T:=by
 have t:=U (CZ b (a+3351) n x c r w A h O p.in' p.tk p.geo C R D);have V:Z _:=B;have j:Z (aB s r x=if(r.take x).2=0 then(if 2078<=s.count then(s,(r.take x).1,17) else(s.give x,(r.take x).1,0)) else(s,(r.take x).1,(r.take x).2)):=rfl;clear A B h C p;obtain⟨f,d⟩:∃f,f=(r.take x).2:=⟨_,rfl⟩;obtain⟨l,h⟩:∃l,l=(r.take x).1:=⟨_,rfl⟩;rw[<-d,<-h] at t j;clear d h;go_enter func205,ntmps205;go_wp2_with fail;refine t.o.mono ?_;rintro q a2 ⟨rfl,E⟩;obtain⟨F,G,H,J,K,L⟩:=aw.of_rw V.o E;have e:Z _:=G;have g:Z _:=H;have u:Z _:=J;have v:Z _:=K;have y:Z _:=L;clear G H J K L E t;by_cases d:f=0
 .have W:((f:Int)!=0)=false:=by rw[Xx];omega
  have M:=e.o.at (i:=a+3349) O g.o.count;have a3:=e.o.at (i:=a+3350) O g.o.sum;have a4:=e.o.fz;by_cases P:2078<=s.count
  .have X:(2078:Int)<=(s.count:Int):=O
   have m:Z (aB s r x=(s,l,17)):=by show aB s r x=_;rw[j.o,I d,I P]
   replace d:Z _:=d;go_wp2_with fail;go_ret;rw[m.o];exact⟨rfl,F,e.o,g.o,u.o,v.o,y.o⟩
  .have X:¬(2078:Int)<=(s.count:Int):=O
   have m:Z (aB s r x=(s.give x,l,0)):=by show aB s r x=_;rw[j.o,I d,N P]
   replace d:Z _:=d;have a5:(0:Int)<=(s.count:Int):=O;have a6:(s.count:Int)<2078:=O;have a7:=e.o.at (i:=a+1271+s.count) O (g.o.hist s.count O);obtain⟨o,Q⟩:∃o,o=s.count+1:=⟨_,rfl⟩;have a8:(s.count:Int)+1=(o:Int):=O;have Y:Z _:=Q;clear Q j;go_wp2_with fail;go_region_held3 (λz=>z.cell? ⟨b,a+3349,none⟩=some (.int .i64 s.count)) (first|exact M|exact(aa _ _ _ _ _ O).trans M|go_keep) (fail)
   go_wp2_with fail;refine((λz=>xW s.sum x z S D) _).mono ?_;rintro q a0 ⟨rfl,a9⟩;subst a0;go_wp2_with fail;go_ret;rw[m.o];refine⟨rfl,_,(((e.o.set (k:=a+1271+s.count) O _).set (k:=a+3349) O _).set (k:=a+3350) O _).kept ((Kept.refl _).drewN 1),?_,?_,?_,Fr1.drewN (Fr1.set (Fr1.set (Fr1.set y.o _ _) _ _) _ _) 1⟩
   .have:=((g.o.set_hist s.count x O).set_count o).set_sum (adl s.sum x)
    rw[show s.give x={({({s with hist:=upd s.hist s.count x}:St) with count:=o}:St) with sum:=adl s.sum x} from by rw[Y.o];rfl];exact this
   .exact u.o.congr (λb0 b1 b2=>by rw[upd_ne _ _ _ O,upd_ne _ _ _ O,upd_ne _ _ _ O])
   .exact((v.o.trans (FrC.upd _ O O)).trans (FrC.upd _ O O)).trans (FrC.upd _ O O)
 .have W:((f:Int)!=0)=true:=by rw[XJ];omega
  have m:Z (aB s r x=(s,l,f)):=by show aB s r x=_;rw[j.o,N d]
  go_wp2_with fail;go_ret;rw[m.o];exact⟨rfl,F,e.o,g.o,u.o,v.o,y.o⟩
def St.oneLess(s:St):St:=if s.left-1=0 then({s with left:=s.left-1}:St).endBlock else({s with left:=s.left-1}:St).enter 3 8
def cm(s:St)(r:Rw)(x:Nat):St×Rw×Nat:=if(aB s r x).2.2=0 then((aB s r x).1.oneLess,(aB s r x).2.1,0) else aB s r x
theorem vp s r x:(aB s r x).1.left=s.left:=by
 unfold aB;split
 .split
  .rfl
  .rfl
 .rfl
theorem pX(b e n x:Nat)c s r w(D:Blk w b n c)(g:StV c e s)(j:RwV c (e+3351) r)(W:e+4900<=n)(E:eH r)(G:aS w)(X:b≠0)(Y:x<256)(a0:s.sum<4294967296)(a5:1<=s.left)(a6:s.left<=65535):Calls prog 210 #[.pointer (some ⟨b,e,none⟩),.int .u8 x,.pointer (some ⟨b,e+3351,none⟩)] w λo a1=>o=.returned (.int .i64 ((cm s r x).2.2:Int))/\aw b e n c (cm s r x).1 (cm s r x).2.1 w a1:=by
 have v:=U (vo b e n x c s r w D g j W E G X Y a0);have l:Z (cm s r x=if(aB s r x).2.2=0 then((aB s r x).1.oneLess,(aB s r x).2.1,0) else aB s r x):=rfl;have y:=vp s r x;clear D g j E G;obtain⟨h,f⟩:∃h,h=(aB s r x).2.2:=⟨_,rfl⟩;obtain⟨k,j⟩:∃k,k=(aB s r x).2.1:=⟨_,rfl⟩;obtain⟨a,g⟩:∃a,a=(aB s r x).1:=⟨_,rfl⟩;have H:aB s r x=(a,k,h):=by rw[f,j,g]
 rw[<-f,<-j,<-g] at v l;rw[<-g] at y;rw[H] at l;clear f j g H;go_enter func210,ntmps210;go_wp2_with fail;refine v.o.mono ?_;rintro o a7 ⟨rfl,z,J,K,L,M,P⟩;have m:Z _:=J;have p:Z _:=K;have Q:Z _:=L;have R:Z _:=M;have A:Z _:=P;clear J K L M P v;by_cases f:h=0
 .have a2:((h:Int)!=0)=false:=by rw[Xx];omega
  have q:Z (cm s r x=(a.oneLess,k,0)):=by show cm s r x=_;rw[l.o,I f]
  replace f:Z _:=f;have a8:=m.o.at (i:=e+10) O p.o.left;have a9:=m.o.fz (e+10);obtain⟨d,S⟩:∃d,d=a.left-1:=⟨_,rfl⟩;have b0:(a.left:Int)-1=(d:Int):=O;have b1:d<=65535:=O;have b2:a.left<=65535:=O;replace y:Z _:=y;have t:Z (a.oneLess=if d=0 then({a with left:=d}:St).endBlock else({a with left:=d}:St).enter 3 8):=by show a.oneLess=_;unfold St.oneLess;rw[S]
  clear S l;have T:Z (FrC b e (e+4900) c (upd z (e+10) (.int .i64 d))):=R.o.trans (FrC.upd _ O O);have V:Z (RwV (upd z (e+10) (.int .i64 d)) (e+3351) k):=Q.o.congr (λb3 b4 b5=>upd_ne _ _ _ O);by_cases u:d=0
  .have a3:((d:Int)==0)=true:=by rw[XI];omega
   have B:Z (a.oneLess=({a with left:=d}:St).endBlock):=by show a.oneLess=_;rw[t.o,I u]
   replace u:Z _:=u;clear t;go_wp2_with fail;refine(jo b e n _ {a with left:=d} _ (m.o.set O _) (p.o.set_left d) O).mono ?_;rintro o a4 ⟨rfl,C⟩;go_wp2_with fail;go_ret;rw[q.o];exact⟨rfl,aw.next T.o (Fr1.set A.o _ _) (by rw[B.o];exact aw.of_st V.o C)⟩
  .have a3:((d:Int)==0)=false:=by rw[F];omega
   have B:Z (a.oneLess=({a with left:=d}:St).enter 3 8):=by show a.oneLess=_;rw[t.o,N u]
   clear t;go_wp2_with fail;refine(bn b e n 3 8 _ {a with left:=d} _ (m.o.set O _) (p.o.set_left d) O).mono ?_;rintro o a4 ⟨rfl,C⟩;go_wp2_with fail;go_ret;rw[q.o];exact⟨rfl,aw.next T.o (Fr1.set A.o _ _) (by rw[B.o];exact aw.of_st V.o C)⟩
 .have a2:((h:Int)!=0)=true:=by rw[XJ];omega
  have q:Z (cm s r x=(a,k,h)):=by show cm s r x=_;rw[l.o,N f]
  go_wp2_with fail;go_ret;rw[q.o];exact⟨rfl,z,m.o,p.o,Q.o,R.o,A.o⟩
end Go.Proofs.YtbedkdnphobmlaaGreatDoor
namespace Go.Proofs.YtbedkdnphobmlaaGreatDoor
open Go.RowKit Tryz
structure rG (L P V:Nat) (fl kl cl:List Int):Prop where
 l:L<=1
 p1:1<=P
 p2:P<=4000
 v:V<=7
 f0:0<fl.length
 f1:fl.length<=64
 fb:∀y∈fl,0<=y/\y<=4
 k0:0<kl.length
 k1:kl.length<=64
 kb:∀y∈kl,0<=y/\y<=2
 c0:0<cl.length
 c1:cl.length<=64
 cb:∀y∈cl,0<=y/\y<=65536
 cf:1<=cl.getD 0 0
theorem EC.cap{w:World}{N:Nat}{v:Value}{n:Nat}(h:EC w N v n)(h0:0<n):∃g c,v=.slice (some ⟨g,0,none⟩) n c/\n<=c/\N<=g:=by
 obtain⟨l,_,_,h1,h2⟩:=h;rcases h2 with⟨_,e⟩|⟨g,cap,cur,hv,hg,hh,hnc,r⟩
 .omega
 .exact⟨g,cap,hv,hnc,hg⟩
theorem ax.k6{K D:Nat}(h:ax K D):K<=6/\D<=16:=by have:=h.k;have:=h.d;omega
