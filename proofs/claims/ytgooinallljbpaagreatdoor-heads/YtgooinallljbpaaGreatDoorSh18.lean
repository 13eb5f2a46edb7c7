import Derived.Test.YtgooinallljbpaaGreatDoorSh00
import Derived.Test.YtgooinallljbpaaGreatDoorSh16
import Derived.Laws.BitsAllLaws
set_option linter.all false
set_option maxRecDepth 100000
set_option maxHeartbeats 0
namespace Px
def cB(s:Nat):Nat:=if s%2=1 then(s/2) ^^^ 3988292384 else s/2
def cO:Nat->Nat->Nat
 | 0,s=>s
 | k+1,s=>cB (cO k s)
def cj(s b:Nat):Nat:=cO 8 (s ^^^ b)
def bg(s:Nat)(l:List Nat):Nat:=l.foldl cj s
def ax:Nat:=4294967295
def bz(s:Nat):Nat:=s ^^^ 4294967295
def kU(b:Nat):Bool:=decide (65<=b/\b<=90)
def Iy(b:Nat):Bool:=decide (97<=b/\b<=122)
def nH(b:Nat):Bool:=kU b||Iy b
def tyB(n:Nat):Bool:=nH (n/16777216%256)&&nH (n/65536%256)&&kU (n/256%256)&&nH (n%256)
def gi(k d:Nat):Bool:=
 if k=0 then decide (d=1\/d=2\/d=4\/d=8\/d=16)
 else if k=3 then decide (d=1\/d=2\/d=4\/d=8)
 else if k=2\/k=4\/k=6 then decide (d=8\/d=16)
 else false
def aQ:Nat:=1229472850
def bE:Nat:=1347179589
def bB:Nat:=1951551059
def aG:Nat:=1229209940
def cE:Nat:=1229278788
def dD(i:Nat):Nat:=[137,80,78,71,13,10,26,10].getD i 0
end Px
namespace Go.Proofs.YtgooinallljbpaaGreatDoor
open Go.RowKit Tryz
theorem eO(b:Nat)w:Calls prog 89 #[.int .u8 b] w λa c=>a=.returned (.bool (Px.kU b))/\c=w:=by
 go_enter func89,ntmps89;go_wp2
 all_goals go_ret
 all_goals exact⟨bh (by unfold Px.kU;first|(symm;rw[Yh];omega)|(rw[X4,XL,XL];omega)),rfl⟩
theorem yt(b:Nat)w:Calls prog 119 #[.int .u8 b] w λc d=>c=.returned (.bool (Px.nH b))/\d=w:=by
 cases f:Px.kU b
 .have a:Px.nH b=Px.Iy b:=by simp[Px.nH,f]
  have e:Z _:=a;clear a;go_enter func119,ntmps119;go_wp2_with (go_at_call 89;refine(eO _ _).mono ?_;rintro c d ⟨rfl,rfl⟩)
  all_goals go_ret
  all_goals exact⟨bh (by rw[e.o];unfold Px.Iy;first|(symm;rw[Yh];omega)|(rw[X4,XL,XL];omega)),rfl⟩
 .have a:Px.nH b=true:=by simp[Px.nH,f]
  have e:Z _:=a;clear a;go_enter func119,ntmps119;go_wp2_with (go_at_call 89;refine(eO _ _).mono ?_;rintro c d ⟨rfl,rfl⟩)
  all_goals go_ret
  all_goals exact⟨bh e.o.symm,rfl⟩
theorem Ai b w(h:0<=b):Calls prog 89 #[.int .u8 b] w λa c=>a=.returned (.bool (Px.kU b.toNat))/\c=w:=by
 obtain⟨d,rfl⟩:=Int.eq_ofNat_of_zero_le h;exact eO d w
theorem Cg b w(h:0<=b):Calls prog 119 #[.int .u8 b] w λa c=>a=.returned (.bool (Px.nH b.toNat))/\c=w:=by
 obtain⟨d,rfl⟩:=Int.eq_ofNat_of_zero_le h;exact yt d w
theorem MA n(a:n<4294967296):Px.tyB n=(Px.nH ((n:Int)/16777216).toNat&&Px.nH ((n:Int)/65536%256).toNat&&Px.kU ((n:Int)/256%256).toNat&&Px.nH (n%256)):=by
 unfold Px.tyB;rw[show((n:Int)/16777216).toNat=n/16777216%256 from O,show((n:Int)/65536%256).toNat=n/65536%256 from O,show((n:Int)/256%256).toNat=n/256%256 from O]
theorem Cf(n:Nat)w(c:n<4294967296):Calls prog 82 #[.int .u32 n] w λa b=>a=.returned (.bool (Px.tyB n))/\b=w:=by
 rw[MA n c];cases d:Px.nH ((n:Int)/16777216).toNat<;>cases e:Px.nH ((n:Int)/65536%256).toNat<;>cases f:Px.kU ((n:Int)/256%256).toNat
 all_goals
  go_enter func82,ntmps82;go_wp2_with (first|(go_at_call 119;refine(Cg _ _ O).mono ?_;rintro a b ⟨rfl,rfl⟩)|(go_at_call 89;refine(Ai _ _ O).mono ?_;rintro a b ⟨rfl,rfl⟩))
  go_ret;exact⟨bh (by simp only[YH,YM,Y9]),rfl⟩
theorem nP a s(h:s<4294967296):Px.cO a s<4294967296:=by
 induction a with
 | zero=>exact h
 | succ a b=>
  show Px.cB _<_
  unfold Px.cB;split
  .exact YY (n:=32) O O
  .omega
theorem and1(n:Nat)(h:n<4294967296):bits BinOp.and IntKind.u32 (n:Int) 1=((n%2:Nat):Int):=by
 have:=u32_and_nat n 1 h O;rw[show((1:Int))=((1:Nat):Int) from rfl,this,nat_mask1]
theorem OJ(n:Nat)(h:n<4294967296):bits BinOp.xor IntKind.u32 ((n:Int)/2) 3988292384=(((n/2) ^^^ 3988292384:Nat):Int):=by
 have:=u32_xor_nat (n/2) 3988292384 O O
 rw[show((n:Int)/2)=((n/2:Nat):Int) from O,show((3988292384:Int))=((3988292384:Nat):Int) from rfl,this]
theorem Jk k s(h:s<4294967296)c(b:c=Px.cO k s)(t:(bits BinOp.and IntKind.u32 (c:Int) 1==1)=true):bits BinOp.xor IntKind.u32 ((c:Int)/2) 3988292384=(Px.cO (k+1) s:Nat):=by
 have a:=nP k s h;subst b;rw[and1 _ a] at t;rw[OJ _ a]
 have:Px.cO k s%2=1:=by simp at t;omega
 show _=((Px.cB (Px.cO k s):Nat):Int)
 unfold Px.cB;rw[I this]
theorem FE k s(h:s<4294967296)c(a:c=Px.cO k s)(t:(bits BinOp.and IntKind.u32 (c:Int) 1==1)=false):(c:Int)/2=(Px.cO (k+1) s:Nat):=by
 subst a;rw[and1 _ (nP k s h)] at t
 have:¬Px.cO k s%2=1:=by simp at t;omega
 show _=((Px.cB (Px.cO k s):Nat):Int)
 unfold Px.cB;rw[N this];omega
theorem zi s b(a:s<4294967296)(c:b<256):s ^^^ b<4294967296:=YY (n:=32) O O
theorem wW s b(a:s<4294967296)(c:b<256):Px.cj s b<4294967296:=nP _ _ (zi s b a c)
theorem uM(s b:Nat)w(d:s<4294967296)(f:b<256):Calls prog 50 #[.int .u32 s,.int .u8 b] w λg h=>g=.returned (.int .u32 (Px.cj s b:Nat))/\h=w:=by
 have e:=zi s b d f;go_enter func50,ntmps50;go_wp2;go_loop [0,5] (λi c=>∃a:Nat,a<=8/\c=.int .i64 a/\i=.int .u32 (Px.cO a (s ^^^ b):Nat)) (λ_ c=>8-(intOf c).toNat)
 case atStart=>exact⟨0,O,rfl,aY (by rw[u32_xor_nat s b d O];rfl)⟩
 case round=>
  obtain⟨a,j,rfl,rfl⟩:=hrel;go_wp2
  .exact⟨⟨a+1,O,Xj,aY (Jk a _ e _ rfl ‹_›)⟩,Xb⟩
  .exact⟨⟨a+1,O,Xj,aY (FE a _ e _ rfl ‹_›)⟩,Xb⟩
  .go_ret
   exact⟨aj (by rw[show a=8 from O];rfl),rfl⟩
theorem Cx(s:Nat)w(a:s<4294967296):Calls prog 54 #[.int .u32 s] w λb c=>b=.returned (.int .u32 (Px.bz s:Nat))/\c=w:=by
 go_enter func54,ntmps54;go_wp2;go_ret;exact⟨aj (by
  have:=u32_xor_nat 4294967295 s O a
  rw[show IntKind.u32.max=((4294967295:Nat):Int) from rfl,this,Nat.xor_comm];rfl),rfl⟩
theorem ors(a b c d:Nat)(e:a<256)(f:b<256)(g:c<256)(h:d<256):bits BinOp.or IntKind.u32 (bits BinOp.or IntKind.u32 (bits BinOp.or IntKind.u32 ((a:Int)*16777216) ((b:Int)*65536)) ((c:Int)*256)) d=((((a*256+b)*256+c)*256+d:Nat):Int):=by
 rw[show(a:Int)*16777216=((a*16777216:Nat):Int) from O,show(b:Int)*65536=((b*65536:Nat):Int) from O,show(c:Int)*256=((c*256:Nat):Int) from O];rw[u32_or_nat _ _ O O,nat_join 24 (a*16777216) (b*65536) O O];rw[u32_or_nat _ _ O O,nat_join 16 (a*16777216+b*65536) (c*256) O O];rw[u32_or_nat _ _ O O,nat_join 8 (a*16777216+b*65536+c*256) d O O];omega
theorem rM(a b c d:Nat)w(e:a<256)(f:b<256)(g:c<256)(h:d<256):Calls prog 141 #[.int .u8 a,.int .u8 b,.int .u8 c,.int .u8 d] w λi j=>i=.returned (.int .u32 ((((a*256+b)*256+c)*256+d:Nat):Int))/\j=w:=by
 go_enter func141,ntmps141;go_wp2;go_ret;exact⟨aj (ors a b c d e f g h),rfl⟩
def lj(n:Nat):Bool:=decide (n≠0/\n<2147483648)
theorem dT(n:Nat)w:Calls prog 142 #[.int .u32 n] w λa b=>a=.returned (.bool (lj n))/\b=w:=by
 go_enter func142,ntmps142;go_wp2
 all_goals go_ret
 .exact⟨bh (by unfold lj;simp_all),rfl⟩
 .exact⟨bh (by unfold lj;rw[X4];simp;omega),rfl⟩
theorem Ht D(h:D<=16):2^D<=65536:=by
 have:=XH (n:=2) O h;simpa using this
theorem pow_mod D(h:D<=16):(2:Int)^D%4294967296=((2^D:Nat):Int):=by
 have:=Ht D h
 rw[show(2:Int)^D=((2^D:Nat):Int) from Xi];generalize 2^D=a at *;omega
theorem rN(W H D a b:Nat)w(h:D<=16):Calls prog 120 #[.agg #[.int .i64 W,.int .i64 H,.int .i64 D,.int .i64 a,.int .i64 b]] w λc d=>c=.returned (.int .u32 ((2^D:Nat):Int))/\d=w.alloc (.cells #[.int .i64 W,.int .i64 H,.int .i64 D,.int .i64 a,.int .i64 b] 44):=by
 go_enter func120,ntmps120;go_wp2;go_ret;exact⟨aj (pow_mod D h),rfl⟩
theorem kinds k:k=0\/k=2\/k=3\/k=4\/k=6\/(k≠0/\k≠2/\k≠3/\k≠4/\k≠6):=O
theorem gF(k d:Nat)w:Calls prog 143 #[.int .i64 k,.int .i64 d] w λa b=>a=.returned (.bool (Px.gi k d))/\b=w:=by
 rcases kinds k with rfl|rfl|rfl|rfl|rfl|⟨c,e,f,g,h⟩
 case' inr.inr.inr.inr.inr=>
  have i:Z (Px.gi k d=false):=by unfold Px.gi Z;simp[*]
  have j:((k:Int)==0)=false:=F.2 O;have l:((k:Int)==2)=false:=F.2 O;have m:((k:Int)==3)=false:=F.2 O;have n:((k:Int)==4)=false:=F.2 O;have o:((k:Int)==6)=false:=F.2 O;clear c e f g h
 all_goals
  go_enter func143,ntmps143;go_wp2
  all_goals go_ret
  all_goals first|exact⟨bh (by rw[i.o]),rfl⟩|exact⟨bh (by unfold Px.gi;rw[X4];simp;try omega),rfl⟩
end Go.Proofs.YtgooinallljbpaaGreatDoor
namespace Go.Proofs.YtgooinallljbpaaGreatDoor
open Go.RowKit Px Tryz
def aM(b o n:Nat)(c:Nat->Value)(s':Rd)(w w':World):Prop:=∃d,Blk w' b n d/\RdV d o s'/\FrC b o (o+5954) c d/\Fr1 b w w'
theorem aM.refl{b o n c s w}(a:Blk w b n c)(d:RdV c o s):aM b o n c s w w:=⟨c,a,d,FrC.refl _ _ _ _,Fr.refl _ _⟩
theorem aM.of_kept{b o n c s w w'}(a:Blk w b n c)(d:RdV c o s)(k:Kept w w'):aM b o n c s w w':=⟨c,a.kept k,d,FrC.refl _ _ _ _,Fr.of_kept k⟩
theorem aM.next{b o n c d s w w1 w'}(a:FrC b o (o+5954) c d)(e:Fr1 b w w1)(k:aM b o n d s w1 w'):aM b o n c s w w':=by
 obtain⟨f,g,h,i,j⟩:=k;exact⟨f,g,h,a.trans i,e.trans j⟩
def Rd.enter(s:Rd)(p:Nat):Rd:={s with part:=p,taken:=0,number:=0}
theorem iz(b a n p:Nat)c s w(d:Blk w b n c)(e:RdV c a s)(l:a+5954<=n):Calls prog 48 #[.pointer (some ⟨b,a,none⟩),.int .i64 p] w λf g=>f=.returned (.tuple #[])/\aM b a n c (s.enter p) w g:=by
 have m:=d.at (i:=a) O e.part;have o:=d.at (i:=a+1) O e.taken;have q:=d.at (i:=a+2) O e.number;have r:=d.fz;have h:Z _:=d;have j:Z _:=e;clear d e;go_enter func48,ntmps48;go_wp2;go_end0
 exact⟨rfl,_,((h.o.set (k:=a) O _).set (k:=a+1) O _).set (k:=a+2) O _,((j.o.set_part p).set_taken 0).set_number 0,((FrC.upd _ O O).trans (FrC.upd _ O O)).trans (FrC.upd _ O O),Fr1.set (Fr1.set (Fr1.set (Fr.refl _ _) _ _) _ _) _ _⟩
def Rd.num(s:Rd)(x:Nat):Rd:={s with number:=s.number*256+x,taken:=s.taken+1}
theorem u32_or8(m x:Nat)(a:m<16777216)(b:x<256):bits .or .u32 ((m:Int)*256) (x:Int)=((m*256+x:Nat):Int):=by
 rw[show(m:Int)*256=((m*256:Nat):Int) from O,u32_or_nat _ _ O O,nat_join 8 (m*256) x O O]
theorem BT(b a n x:Nat)c s w(d:Blk w b n c)(f:RdV c a s)(v:a+5954<=n)(y:s.taken<1000)(l:s.number<16777216)(m:x<256):Calls prog 49 #[.pointer (some ⟨b,a,none⟩),.int .u8 x] w λo p=>o=.returned (.bool (decide (s.taken+1=4)))/\aM b a n c (s.num x) w p:=by
 have z:=d.at (i:=a+1) O f.taken;have A:=d.at (i:=a+2) O f.number;have B:=d.fz;have q:=u32_or8 s.number x l m;have r:Z _:=d;have t:Z _:=f;obtain⟨g,h⟩:∃g,g=s.number*256+x:=⟨_,rfl⟩;obtain⟨e,j⟩:∃e,e=s.taken+1:=⟨_,rfl⟩;have C:(s.taken:Int)+1=(e:Int):=O;rw[<-h] at q;have u:Z (s.num x={s with number:=g,taken:=e}):=by show s.num x=_;unfold Rd.num;rw[h,j]
 rw[<-j];clear d f h j;go_enter func49,ntmps49;go_wp2;go_ret;refine⟨bh (by rw[X4,XI,XL];omega),?_⟩;rw[u.o];exact⟨_,(r.o.set (k:=a+2) O _).set (k:=a+1) O _,(t.o.set_number g).set_taken e,(FrC.upd _ O O).trans (FrC.upd _ O O),Fr1.set (Fr1.set (Fr.refl _ _) _ _) _ _⟩
theorem pM:∀(i:Nat) (h:i<8) (h':i<(ByteArray.mk #[137,80,78,71,13,10,26,10]).size),((ByteArray.mk #[137,80,78,71,13,10,26,10])[i]'h').toNat=dD i
 | 0,_,_=>rfl
 | 1,_,_=>rfl
 | 2,_,_=>rfl
 | 3,_,_=>rfl
 | 4,_,_=>rfl
 | 5,_,_=>rfl
 | 6,_,_=>rfl
 | 7,_,_=>rfl
def Rd.takeSign(s:Rd)(x:Nat):Rd×Nat:=
 if 8<=s.taken\/x≠dD s.taken then(s,1)
 else if s.taken+1=8 then(({s with taken:=s.taken+1}:Rd).enter 1,0) else({s with taken:=s.taken+1},0)
theorem Bo(b a n x:Nat)c s w(j:Blk w b n c)(m:RdV c a s)(t:a+5954<=n)(A:s.taken<1000)(B:x<256):Calls prog 35 #[.pointer (some ⟨b,a,none⟩),.int .u8 x] w λq u=>q=.returned (.int .i64 ((s.takeSign x).2:Int))/\aM b a n c (s.takeSign x).1 w u:=by
 have C:=j.at (i:=a+1) O m.taken;have D:=j.fz;have k:Z _:=j;have l:Z _:=m;have f:Z (s.takeSign x=if 8<=s.taken\/x≠dD s.taken then(s,1) else if s.taken+1=8 then(({s with taken:=s.taken+1}:Rd).enter 1,0) else({s with taken:=s.taken+1},0)):=rfl;clear j m;by_cases v:8<=s.taken
 .have y:(8:Int)<=(s.taken:Int):=O
  go_enter func35,ntmps35;go_wp2;go_ret;rw[f.o,I (L v)];exact⟨rfl,aM.refl k.o l.o⟩
 .have y:¬(8:Int)<=(s.taken:Int):=O
  have d:Z (s.taken<8):=by show s.taken<8;omega
  obtain⟨e,o⟩:∃e,e=s.taken+1:=⟨_,rfl⟩;have E:(s.taken:Int)+1=(e:Int):=O;rw[<-o] at f;replace o:Z _:=o;have r:Z (FrC b a (a+5954) c (upd c (a+1) (.int .u32 e))):=FrC.upd _ O O;go_enter func35,ntmps35;go_wp2_with fail
  .go_ret
   rename_i g
   have h:=pM s.taken d.o (by show _<8;exact d.o);rw[XJ,h] at g;rw[f.o,I (R O)];exact⟨rfl,aM.refl k.o l.o⟩
  .refine(iz b a n 1 _ {s with taken:=e} _ (k.o.set O _) (l.o.set_taken e) t).mono ?_
   rintro q G ⟨rfl,z⟩;go_wp2_with fail;go_ret
   rename_i g p
   have h:=pM s.taken d.o (by show _<8;exact d.o);rw[Xx,h] at g;rw[XI] at p;rw[f.o,N (by have:=d.o;omega),I];exact⟨rfl,aM.next r.o (Fr1.set (Fr.refl _ _) _ _) z⟩
  .go_ret
   rename_i g p
   have h:=pM s.taken d.o (by show _<8;exact d.o);rw[Xx,h] at g;rw[F] at p;rw[f.o,N (by have:=d.o;omega),N];exact⟨rfl,_,k.o.set O _,l.o.set_taken e,r.o,Fr1.set (Fr.refl _ _) _ _⟩
theorem yM:((ax:Nat):Int)=4294967295:=by unfold ax;rfl
def Rd.takeLength(s:Rd)(x:Nat):Rd×Nat:=
 if s.taken+1≠4 then(s.num x,0)
 else if 2147483648<=s.number*256+x then(s.num x,2)
 else(({s.num x with length:=s.number*256+x,sum:=ax}:Rd).enter 2,0)
theorem xU(b a n x:Nat)c s w(r:Blk w b n c)(t:RdV c a s)(u:a+5954<=n)(H:s.taken<1000)(L:s.number<16777216)(M:x<256):Calls prog 36 #[.pointer (some ⟨b,a,none⟩),.int .u8 x] w λm P=>m=.returned (.int .i64 ((s.takeLength x).2:Int))/\aM b a n c (s.takeLength x).1 w P:=by
 have f:=U (BT b a n x c s w r t u H L M);have g:Z (s.takeLength x=if s.taken+1≠4 then(s.num x,0) else if 2147483648<=s.number*256+x then(s.num x,2) else(({s.num x with length:=s.number*256+x,sum:=ax}:Rd).enter 2,0)):=rfl;obtain⟨d,q⟩:∃d,d=s.number*256+x:=⟨_,rfl⟩;have v:Z ((s.num x).number=d):=q.symm;rw[<-q] at g;have y:d<4294967296:=O;obtain⟨e,z⟩:∃e,e=s.num x:=⟨_,rfl⟩;rw[<-z] at f g v;clear r t q z;by_cases h:s.taken+1=4
 .rw[K h] at f
  have o:Z (s.takeLength x=if 2147483648<=d then(e,2) else(({e with length:=d,sum:=ax}:Rd).enter 2,0)):=by show s.takeLength x=_;rw[g.o,N (λQ=>Q h)]
  clear g h;go_enter func36,ntmps36;go_wp2_with fail;refine f.o.mono ?_;rintro m R ⟨rfl,A,j,l,B,C⟩;have S:=j.at (i:=a+2) O l.number;have Y:=j.at (i:=a+3) O l.length;have a0:=j.at (i:=a+5) O l.sum;have a1:=j.fz;rw[v.o] at S;have D:Z _:=j;have E:Z _:=l;have F:Z _:=B;have G:Z _:=C;clear j l B C f;by_cases p:2147483648<=d
  .have T:(2147483648:Int)<=(d:Int):=O
   go_wp2_with fail;go_ret;rw[o.o,I p];exact⟨rfl,A,D.o,E.o,F.o,G.o⟩
  .have T:decide ((2147483648:Int)<=(d:Int))=false:=J
   replace p:Z _:=p;replace y:Z _:=y;go_wp2_with fail;have V:RdV (upd (upd A (a+3) (.int .u32 d)) (a+5) (.int .u32 4294967295)) a {e with length:=d,sum:=ax}:=by
    have:=(E.o.set_length d).set_sum ax
    rw[yM] at this;exact this
   refine(iz b a n 2 _ {e with length:=d,sum:=ax} _ ((D.o.set (k:=a+3) O (.int .u32 d)).set (k:=a+5) O (.int .u32 4294967295)) V u).mono ?_;rintro m a2 ⟨rfl,W⟩;go_wp2_with fail;go_ret;rw[o.o,N p.o];exact⟨rfl,aM.next ((F.o.trans (FrC.upd _ O O)).trans (FrC.upd _ O O)) (Fr1.set (Fr1.set G.o _ _) _ _) W⟩
 .rw[J h] at f
  have o:Z (s.takeLength x=(e,0)):=by show s.takeLength x=_;rw[g.o,I h]
  clear g h;go_enter func36,ntmps36;go_wp2_with fail;refine f.o.mono ?_;rintro m R ⟨rfl,X⟩;go_wp2_with fail;go_ret;rw[o.o];exact⟨rfl,X⟩
def Rd.checkFirst(s:Rd):Nat:=if s.ctype≠aQ then 4 else if s.length≠13 then 5 else 0
def Rd.checkData(s:Rd):Nat:=if s.dov||(decide (s.hd.K=3) && !s.sp) then 4 else 0
def Rd.checkEnd(s:Rd):Nat:=if s.sd=false then 4 else if s.length≠0 then 5 else 0
def Rd.checkAlphas(s:Rd):Nat:=if s.sp=false then 4 else if s.length<1\/s.tl.colours<s.length then 5 else 0
theorem yR b o n c s w(h:Blk w b n c)(j:RdV c o s)(q:o+5954<=n):Calls prog 83 #[.pointer (some ⟨b,o,none⟩)] w λk l=>k=.returned (.int .i64 s.checkFirst)/\l=w:=by
 have m:=h.at (i:=o+4) O j.ctype;have p:=h.at (i:=o+3) O j.length;have d:Z (s.checkFirst=if s.ctype≠aQ then 4 else if s.length≠13 then 5 else 0):=rfl;clear h j;by_cases a:s.ctype=aQ
 .rw[a] at m
  by_cases e:s.length=13
  .rw[e] at p
   have f:Z (s.checkFirst=0):=by show s.checkFirst=0;rw[d.o,N (λg=>g a),N (λg=>g e)]
   clear a e d;go_enter func83,ntmps83;unfold aQ at *;go_wp2;go_ret;exact⟨aj (by rw[f.o];rfl),rfl⟩
  .have r:((s.length:Int)!=13)=true:=by rw[XJ];omega
   have f:Z (s.checkFirst=5):=by show s.checkFirst=5;rw[d.o,N (λg=>g a),I e]
   clear a e d;go_enter func83,ntmps83;unfold aQ at *;go_wp2;go_ret;exact⟨aj (by rw[f.o];rfl),rfl⟩
 .have t:((s.ctype:Int)!=1229472850)=true:=by
   rw[XJ];intro k;apply a;unfold aQ;omega
  have f:Z (s.checkFirst=4):=by show s.checkFirst=4;rw[d.o,I a]
  clear a d;go_enter func83,ntmps83;go_wp2;go_ret;exact⟨aj (by rw[f.o];rfl),rfl⟩
theorem AI b o n c s w(f:Blk w b n c)(g:RdV c o s)(q:o+5954<=n):Calls prog 87 #[.pointer (some ⟨b,o,none⟩)] w λk l=>k=.returned (.int .i64 s.checkData)/\l=w:=by
 have j:=f.at (i:=o+5953) O g.dov;have m:=f.at (i:=o+6+3) O g.hd.K;have p:=f.at (i:=o+5950) O g.sp;have d:Z (s.checkData=if s.dov||(decide (s.hd.K=3) && !s.sp) then 4 else 0):=rfl;clear f g;by_cases e:s.hd.K=3
 .rw[e] at m
  rw[K e] at d;clear e;cases a:s.dov<;>cases h:s.sp
  all_goals
   rw[a] at j;rw[h] at p;rw[a,h] at d;clear a h;go_enter func87,ntmps87;go_wp2;go_ret;exact⟨aj (by rw[d.o];rfl),rfl⟩
 .have r:((s.hd.K:Int)==3)=false:=by rw[F];omega
  rw[J e] at d;clear e;cases a:s.dov
  all_goals
   rw[a] at j;rw[a] at d;clear a;go_enter func87,ntmps87;go_wp2;go_ret;exact⟨aj (by rw[d.o];rfl),rfl⟩
theorem CF b o n c s w(f:Blk w b n c)(g:RdV c o s)(m:o+5954<=n):Calls prog 88 #[.pointer (some ⟨b,o,none⟩)] w λj k=>j=.returned (.int .i64 s.checkEnd)/\k=w:=by
 have h:=f.at (i:=o+5952) O g.sd;have p:=f.at (i:=o+3) O g.length;have d:Z (s.checkEnd=if s.sd=false then 4 else if s.length≠0 then 5 else 0):=rfl;clear f g;cases a:s.sd
 .rw[a] at h
  rw[a] at d;clear a;go_enter func88,ntmps88;go_wp2;go_ret;exact⟨aj (by rw[d.o];rfl),rfl⟩
 .rw[a] at h
  rw[a] at d;clear a;by_cases e:s.length=0
  .have l:((s.length:Int)!=0)=false:=by rw[Xx];omega
   replace e:Z _:=e;go_enter func88,ntmps88;go_wp2;go_ret;exact⟨aj (by rw[d.o,e.o];rfl),rfl⟩
  .have l:((s.length:Int)!=0)=true:=by rw[XJ];omega
   go_enter func88,ntmps88;go_wp2;go_ret;exact⟨aj (by rw[d.o,N Xi,I e];rfl),rfl⟩
theorem xb b o n c t w(a:Blk w b n c)(d:TlV c o t)(g:o+1026<=n):Calls prog 125 #[.pointer (some ⟨b,o,none⟩)] w λe f=>e=.returned (.int .i64 t.colours)/\f=w:=by
 have h:=a.at (i:=o+1024) O d.colours;clear a d;go_enter func125,ntmps125;go_wp2;go_ret;exact⟨rfl,rfl⟩
theorem wt b o n c s w(g:Blk w b n c)(h:RdV c o s)(v:o+5954<=n)(x:s.tl.colours<=256):Calls prog 122 #[.pointer (some ⟨b,o,none⟩)] w λj k=>j=.returned (.int .i64 s.checkAlphas)/\∃a,k=w.drewN a:=by
 have p:=g.at (i:=o+5950) O h.sp;have y:=g.at (i:=o+3) O h.length;have f:Z (s.checkAlphas=if s.sp=false then 4 else if s.length<1\/s.tl.colours<s.length then 5 else 0):=rfl;have l:Z (∀a,Calls prog 125 #[.pointer (some ⟨b,o+24,none⟩)] (w.drewN a) λj k=>j=.returned (.int .i64 s.tl.colours)/\k=w.drewN a):=λa=>xb b (o+24) n c s.tl _ (g.kept ((Kept.refl _).drewN a)) h.tl O
 clear g h;generalize s.tl.colours=d at *;have z:IntKind.u32.wrap (d:Int)=(d:Int):=by rw[Yq];omega
 cases e:s.sp
 .rw[e] at p
  rw[e] at f;clear e;go_enter func122,ntmps122;go_wp2;go_ret;exact⟨aj (by rw[f.o];rfl),0,rfl⟩
 .rw[e] at p
  rw[e] at f;clear e;have m:Z (s.checkAlphas=if s.length<1\/d<s.length then 5 else 0):=by show s.checkAlphas=_;rw[f.o,N Xi]
  clear f;by_cases q:s.length<1
  .have r:(s.length:Int)<1:=O
   go_enter func122,ntmps122;go_wp2_with fail;go_quiet ((go_at_call 125;exact Xu (l.o _)))
   go_wp2;go_ret;exact⟨aj (by rw[m.o,I (L q)];rfl),_,rfl⟩
  .have r:¬(s.length:Int)<1:=O
   by_cases t:d<s.length
   .have u:(d:Int)<(s.length:Int):=O
    go_enter func122,ntmps122;go_wp2_with fail;go_quiet ((go_at_call 125;exact Xu (l.o _)))
    go_wp2;go_ret;exact⟨aj (by rw[m.o,I (R t)];rfl),_,rfl⟩
   .have u:¬(d:Int)<(s.length:Int):=O
    go_enter func122,ntmps122;go_wp2_with fail;go_quiet ((go_at_call 125;exact Xu (l.o _)))
    go_wp2;go_ret;exact⟨aj (by rw[m.o,N (λA=>O)];rfl),_,rfl⟩
def Rd.checkClear(s:Rd):Nat:=
 if s.sd||s.sc then 4 else if s.hd.K=0\/s.hd.K=2 then(if s.length≠2*chn s.hd.K then 5 else 0)
 else if s.hd.K=3 then s.checkAlphas else 4
theorem yS b o n c s w(j:Blk w b n c)(k:RdV c o s)(E:o+5954<=n)(G:s.tl.colours<=256)(M:s.hd.K<=6):Calls prog 86 #[.pointer (some ⟨b,o,none⟩)] w λq v=>q=.returned (.int .i64 s.checkClear)/\∃r,v=w.drewN r:=by
 have A:=j.at (i:=o+5952) O k.sd;have B:=j.at (i:=o+5951) O k.sc;have x:=j.at (i:=o+6+3) O k.hd.K;have P:=j.at (i:=o+3) O k.length;have l:Z (s.checkClear=if s.sd||s.sc then 4 else if s.hd.K=0\/s.hd.K=2 then(if s.length≠2*chn s.hd.K then 5 else 0) else if s.hd.K=3 then s.checkAlphas else 4):=rfl;have C:=U (wt b o n c s w j k E G);have f:Z (∀t:World,Calls prog 121 #[.int .i64 s.hd.K] t λq v=>q=.returned (.int .i64 (chn s.hd.K))/\v=t):=λt=>kB _ t O
 clear j k;cases m:s.sd<;>cases p:s.sc
 .rw[m] at A
  rw[p] at B;rw[m,p] at l;clear m p;have e:Z (s.checkClear=if s.hd.K=0\/s.hd.K=2 then(if s.length≠2*chn s.hd.K then 5 else 0) else if s.hd.K=3 then s.checkAlphas else 4):=l.o;clear l;have H:s.hd.K=0\/s.hd.K=2\/s.hd.K=3\/(s.hd.K≠0/\s.hd.K≠2/\s.hd.K≠3):=O;obtain⟨a,u⟩:∃a,a=chn s.hd.K:=⟨_,rfl⟩;have Q:a<=4:=by rw[u];exact ev _
  rw[<-u] at f e;replace u:Z _:=u;have R:IntKind.u32.wrap (a:Int)=(a:Int):=by rw[Yq];omega
  have S:IntKind.u32.wrap (2*(a:Int))=2*(a:Int):=by rw[Yq];omega
  rcases H with h|h|h|⟨J,K,D⟩
  .have g:Z (s.checkClear=if s.length≠2*a then 5 else 0):=by show s.checkClear=_;rw[e.o,I]
   clear e;rw[h] at x f;clear h;by_cases d:s.length=2*a
   .have y:((s.length:Int)!=2*(a:Int))=false:=by rw[Xx];omega
    replace d:Z _:=d;go_enter func86,ntmps86;go_wp2_with fail;go_quiet ((go_at_call 121;exact Xu (f.o _)))
    go_wp2;go_ret;exact⟨aj (by rw[g.o,N (λz=>z d.o)];rfl),_,rfl⟩
   .have y:((s.length:Int)!=2*(a:Int))=true:=by rw[XJ];omega
    replace d:Z _:=d;go_enter func86,ntmps86;go_wp2_with fail;go_quiet ((go_at_call 121;exact Xu (f.o _)))
    go_wp2;go_ret;exact⟨aj (by rw[g.o,I d.o];rfl),_,rfl⟩
  .have g:Z (s.checkClear=if s.length≠2*a then 5 else 0):=by show s.checkClear=_;rw[e.o,I]
   clear e;rw[h] at x f;clear h;by_cases d:s.length=2*a
   .have y:((s.length:Int)!=2*(a:Int))=false:=by rw[Xx];omega
    replace d:Z _:=d;go_enter func86,ntmps86;go_wp2_with fail;go_quiet ((go_at_call 121;exact Xu (f.o _)))
    go_wp2;go_ret;exact⟨aj (by rw[g.o,N (λz=>z d.o)];rfl),_,rfl⟩
   .have y:((s.length:Int)!=2*(a:Int))=true:=by rw[XJ];omega
    replace d:Z _:=d;go_enter func86,ntmps86;go_wp2_with fail;go_quiet ((go_at_call 121;exact Xu (f.o _)))
    go_wp2;go_ret;exact⟨aj (by rw[g.o,I d.o];rfl),_,rfl⟩
  .have g:Z (s.checkClear=s.checkAlphas):=by show s.checkClear=_;rw[e.o,N,I h]
   clear e;rw[h] at x;clear h f;go_enter func86,ntmps86;go_wp2_with fail;refine C.o.mono ?_;rintro q T ⟨rfl,r,L⟩;go_wp2;go_ret
   first|exact⟨aj (by rw[g.o]),r,L⟩|exact⟨aj (by rw[g.o]),r,rfl⟩
  .have V:((s.hd.K:Int)==0)=false:=by rw[F];omega
   have W:((s.hd.K:Int)==2)=false:=Xa;have X:((s.hd.K:Int)==3)=false:=Xa;have g:Z (s.checkClear=4):=by show s.checkClear=4;rw[e.o,N,N D]
   clear J K D f e;go_enter func86,ntmps86;go_wp2;go_ret;exact⟨aj (by rw[g.o];rfl),0,rfl⟩
 all_goals
  rw[m] at A;rw[p] at B;rw[m,p] at l;have e:Z (s.checkClear=4):=l.o;clear m p l C f;go_enter func86,ntmps86;go_wp2;go_ret;exact⟨aj (by rw[e.o];rfl),0,rfl⟩
def Rd.checkPalette(s:Rd):Nat:=
 if s.sd||s.sp||s.sc then 4 else if s.hd.K=0\/s.hd.K=4 then 4
 else if s.length<3\/768<s.length\/s.length%3≠0 then 5
 else if s.hd.K=3/\3*2^s.hd.D<s.length then 5 else 0
theorem uR(b o n:Nat)(c:Nat->Value)(s:Rd)(w:World)(hB:Blk w b n c)(hV:RdV c o s)(hn:o+5954<=n)(hD:s.hd.D<=16)(hL:s.length<2147483648):Calls prog 85 #[.pointer (some ⟨b,o,none⟩)] w λe w'=>e=.returned (.int .i64 (s.checkPalette:Int))/\Kept w w':=by
 have kd:=hB.at (i:=o+5952) om hV.sd;have kc:=hB.at (i:=o+5951) om hV.sc;have kp:=hB.at (i:=o+5950) om hV.sp;have h0:=hB.at (i:=o+6) om hV.hd.W;have h1:=hB.at (i:=o+6+1) om hV.hd.H;have h2:=hB.at (i:=o+6+2) om hV.hd.D;have kk:=hB.at (i:=o+6+3) om hV.hd.K;have h4:=hB.at (i:=o+6+4) om hV.hd.L;have k3:=hB.at (i:=o+3) om hV.length;have HE:ZH0 (s.checkPalette=if s.sd||s.sp||s.sc then 4 else if s.hd.K=0\/s.hd.K=4 then 4 else if s.length<3\/768<s.length\/s.length%3≠0 then 5 else if s.hd.K=3/\3*2^s.hd.D<s.length then 5 else 0):=rfl;have FL:ZH0 (∀W':World,Calls prog 120 #[.agg #[.int .i64 (s.hd.W:Int),.int .i64 (s.hd.H:Int),.int .i64 (s.hd.D:Int),.int .i64 (s.hd.K:Int),.int .i64 (s.hd.L:Int)]] W' λe w'=>e=.returned (.int .u32 ((2^s.hd.D:Nat):Int))/\Kept W' w'):=λW'=>(rN _ _ _ _ _ W' hD).mono (λe w' ⟨q1,q2⟩=>⟨q1,by rw[q2];exact Below.alloc (Below.refl _ _) (Nat.le_refl _) _⟩)
 have hbw:=hB.lt;clear hB hV;by_cases hf:s.sd=false/\s.sp=false/\s.sc=false
 .obtain⟨f1,f2,f3⟩:=hf
  rw[f1] at kd;rw[f2] at kp;rw[f3] at kc;rw[f1,f2,f3] at HE;clear f1 f2 f3;have HE1:ZH0 (s.checkPalette=if s.hd.K=0\/s.hd.K=4 then 4 else if s.length<3\/768<s.length\/s.length%3≠0 then 5 else if s.hd.K=3/\3*2^s.hd.D<s.length then 5 else 0):=HE.o;clear HE;by_cases hK:s.hd.K=0\/s.hd.K=4
  .have HE2:ZH0 (s.checkPalette=4):=by show s.checkPalette=4;rw[HE1.o,if_pos hK]
   clear HE1 FL;rcases hK with e|e
   all_goals
    rw[e] at kk;clear e;go_enter func85,ntmps85;go_wp2;go_ret;exact⟨aj (by rw[HE2.o];rfl),Kept.refl _⟩
  .have g0:((s.hd.K:Int)==0)=false:=by rw[beq_eq_false_iff_ne];omega
   have g4:((s.hd.K:Int)==4)=false:=by rw[beq_eq_false_iff_ne];omega
   have HE2:ZH0 (s.checkPalette=if s.length<3\/768<s.length\/s.length%3≠0 then 5 else if s.hd.K=3/\3*2^s.hd.D<s.length then 5 else 0):=by show s.checkPalette=_;rw[HE1.o,if_neg hK]
   clear HE1;obtain⟨N,hN⟩:∃N,N=s.length:=⟨_,rfl⟩;rw[<-hN] at HE2 k3 hL;clear hN;by_cases hl:N<3\/768<N\/N%3≠0
   .have HE3:ZH0 (s.checkPalette=5):=by show s.checkPalette=5;rw[HE2.o,if_pos hl]
    clear HE2 FL hK;by_cases l1:N<3
    .have l1':decide ((N:Int)<3)=true:=decide_eq_true om
     clear l1 hl hL;go_enter func85,ntmps85;go_wp2;go_ret;exact⟨aj (by rw[HE3.o];rfl),Kept.refl _⟩
    .have l1':decide ((N:Int)<3)=false:=decide_eq_false om
     by_cases l2:768<N
     .have l2':decide ((768:Int)<(N:Int))=true:=decide_eq_true om
      clear l1 l2 hl hL;go_enter func85,ntmps85;go_wp2;go_ret;exact⟨aj (by rw[HE3.o];rfl),Kept.refl _⟩
     .have l2':decide ((768:Int)<(N:Int))=false:=decide_eq_false om
      have l3':((N:Int)%3 != 0)=true:=by rw[bne_iff_ne];omega
      clear l1 l2 hl hL;go_enter func85,ntmps85;go_wp2;go_ret;exact⟨aj (by rw[HE3.o];rfl),Kept.refl _⟩
   .have HE3:ZH0 (s.checkPalette=if s.hd.K=3/\3*2^s.hd.D<N then 5 else 0):=by show s.checkPalette=_;rw[HE2.o,if_neg hl]
    have l1':decide ((N:Int)<3)=false:=decide_eq_false om;have l2':decide ((768:Int)<(N:Int))=false:=decide_eq_false om;have l3':((N:Int)%3 != 0)=false:=by rw[bne_eq_false_iff_eq];omega
    have HN:ZH0 (N<=768):=by show N<=768;omega
    clear hl hL HE2;by_cases h3:s.hd.K=3
    .rw[h3] at kk FL HE3
     have hp:=Ht s.hd.D hD;obtain⟨P,hP⟩:∃P,P=2^s.hd.D:=⟨_,rfl⟩;rw[<-hP] at FL HE3 hp;clear hP hK h3 g0 g4;have eP:IntKind.u32.wrap (3*(P:Int))=3*(P:Int):=by rw[IntKind.wrap_u32];omega
     generalize s.hd.W=HW at *;generalize s.hd.H=HH at *;generalize s.hd.D=HD at *;generalize s.hd.L=HL at *;clear hp;by_cases hq:3*P<N
     .have hq':decide (3*(P:Int)<(N:Int))=true:=decide_eq_true om
      have HE4:ZH0 (s.checkPalette=5):=by show s.checkPalette=5;rw[HE3.o,if_pos ⟨rfl,hq⟩]
      clear hq;go_enter func85,ntmps85;go_wp2_with fail;go_region_held3 (λW=>W.cell? ⟨b,o+6,none⟩=some (.int .i64 (HW:Int))/\W.cell? ⟨b,o+6+1,none⟩=some (.int .i64 (HH:Int))/\W.cell? ⟨b,o+6+2,none⟩=some (.int .i64 (HD:Int))/\W.cell? ⟨b,o+6+3,none⟩=some (.int .i64 3)/\W.cell? ⟨b,o+6+4,none⟩=some (.int .i64 (HL:Int))/\W.cell? ⟨b,o+3,none⟩=some (.int .u32 (N:Int))) (first|exact⟨h0,h1,h2,kk,h4,k3⟩|exact hS2.o|go_keep) ((go_at_call 120;refine(FL.o _).mono ?_;rintro e w2 ⟨rfl,hk2⟩;have hk2':Kept w w2:=((Kept.refl _).drewN 1).trans hk2;have hS2:ZH0 (w2.cell? ⟨b,o+6,none⟩=some (.int .i64 (HW:Int))/\w2.cell? ⟨b,o+6+1,none⟩=some (.int .i64 (HH:Int))/\w2.cell? ⟨b,o+6+2,none⟩=some (.int .i64 (HD:Int))/\w2.cell? ⟨b,o+6+3,none⟩=some (.int .i64 3)/\w2.cell? ⟨b,o+6+4,none⟩=some (.int .i64 (HL:Int))/\w2.cell? ⟨b,o+3,none⟩=some (.int .u32 (N:Int))):=⟨(hk2'.cell (p:=⟨b,o+6,none⟩) hbw).trans h0,(hk2'.cell (p:=⟨b,o+6+1,none⟩) hbw).trans h1,(hk2'.cell (p:=⟨b,o+6+2,none⟩) hbw).trans h2,(hk2'.cell (p:=⟨b,o+6+3,none⟩) hbw).trans kk,(hk2'.cell (p:=⟨b,o+6+4,none⟩) hbw).trans h4,(hk2'.cell (p:=⟨b,o+3,none⟩) hbw).trans k3⟩))
      go_wp2;go_ret;exact⟨aj (by rw[HE4.o];rfl),hk2'⟩
     .have hq':decide (3*(P:Int)<(N:Int))=false:=decide_eq_false om
      have HE4:ZH0 (s.checkPalette=0):=by show s.checkPalette=0;rw[HE3.o,if_neg (λq=>hq q.2)]
      clear hq;go_enter func85,ntmps85;go_wp2_with fail;go_region_held3 (λW=>W.cell? ⟨b,o+6,none⟩=some (.int .i64 (HW:Int))/\W.cell? ⟨b,o+6+1,none⟩=some (.int .i64 (HH:Int))/\W.cell? ⟨b,o+6+2,none⟩=some (.int .i64 (HD:Int))/\W.cell? ⟨b,o+6+3,none⟩=some (.int .i64 3)/\W.cell? ⟨b,o+6+4,none⟩=some (.int .i64 (HL:Int))/\W.cell? ⟨b,o+3,none⟩=some (.int .u32 (N:Int))) (first|exact⟨h0,h1,h2,kk,h4,k3⟩|exact hS2.o|go_keep) ((go_at_call 120;refine(FL.o _).mono ?_;rintro e w2 ⟨rfl,hk2⟩;have hk2':Kept w w2:=((Kept.refl _).drewN 1).trans hk2;have hS2:ZH0 (w2.cell? ⟨b,o+6,none⟩=some (.int .i64 (HW:Int))/\w2.cell? ⟨b,o+6+1,none⟩=some (.int .i64 (HH:Int))/\w2.cell? ⟨b,o+6+2,none⟩=some (.int .i64 (HD:Int))/\w2.cell? ⟨b,o+6+3,none⟩=some (.int .i64 3)/\w2.cell? ⟨b,o+6+4,none⟩=some (.int .i64 (HL:Int))/\w2.cell? ⟨b,o+3,none⟩=some (.int .u32 (N:Int))):=⟨(hk2'.cell (p:=⟨b,o+6,none⟩) hbw).trans h0,(hk2'.cell (p:=⟨b,o+6+1,none⟩) hbw).trans h1,(hk2'.cell (p:=⟨b,o+6+2,none⟩) hbw).trans h2,(hk2'.cell (p:=⟨b,o+6+3,none⟩) hbw).trans kk,(hk2'.cell (p:=⟨b,o+6+4,none⟩) hbw).trans h4,(hk2'.cell (p:=⟨b,o+3,none⟩) hbw).trans k3⟩))
      go_wp2;go_ret;exact⟨aj (by rw[HE4.o];rfl),hk2'⟩
    .have g3:((s.hd.K:Int)==3)=false:=by rw[beq_eq_false_iff_ne];omega
     have HE4:ZH0 (s.checkPalette=0):=by show s.checkPalette=0;rw[HE3.o,if_neg (λq=>h3 q.1)]
     clear HE3 FL hK h3;go_enter func85,ntmps85;go_wp2_with fail;go_quiet (fail);go_wp2;go_ret;exact⟨aj (by rw[HE4.o];rfl),(Kept.refl _).drewN _⟩
 .have HE1:ZH0 (s.checkPalette=4):=by
   show s.checkPalette=4
   rw[HE.o,if_pos];cases g1:s.sd<;>cases g2:s.sp<;>cases g3:s.sc<;>simp_all
  clear HE FL;cases g1:s.sd<;>cases g2:s.sp<;>cases g3:s.sc
  .exact absurd ⟨g1,g2,g3⟩ hf
  all_goals
   rw[g1] at kd;rw[g2] at kp;rw[g3] at kc;clear g1 g2 g3 hf;go_enter func85,ntmps85;go_wp2;go_ret;exact⟨aj (by rw[HE1.o];rfl),Kept.refl _⟩
def Rd.short(s:Rd):Bool:=decide (s.ctype≠aG)&&s.sd && !s.dov&&decide (s.st.part≠10)
def Rd.checkKind(s:Rd):Nat:=
 if s.ctype=aQ then 4
 else if s.ctype=bE then s.checkPalette
 else if s.ctype=bB then s.checkClear
 else if s.ctype=aG then s.checkData
 else if s.ctype=cE then s.checkEnd
 else if kU (s.ctype/16777216) then 3 else 0
def Rd.checkType(s:Rd):Nat:=
 if tyB s.ctype=false then 3
 else if s.hd.W=0 then s.checkFirst
 else if s.short then 21
 else s.checkKind
theorem cty(s:Rd)v(h:s.ctype≠v):((s.ctype:Int)==(v:Int))=false:=Xa
structure JW (s:Rd):Prop where
 colours:s.tl.colours<=256
 K:s.hd.K<=6
 D:s.hd.D<=16
 len:s.length<2147483648
 ct:s.ctype<4294967296
theorem AH b o n c s w(r:Blk w b n c)(t:RdV c o s)(E:o+5954<=n)(S:JW s):Calls prog 51 #[.pointer (some ⟨b,o,none⟩)] w λd v=>d=.returned (.int .i64 s.checkType)/\Kept w v:=by
 have k:=r.at (i:=o+4) O t.ctype;have a3:=r.at (i:=o+6) O t.hd.W;have T:=r.at (i:=o+5952) O t.sd;have Y:=r.at (i:=o+5953) O t.dov;have x:=U (Cf _ w S.ct);have a4:=U (pO b (o+1050) n c s.st w r t.st O);have G:Z _:=r;have H:Z _:=t;have V:Z _:=S;have L:=S.ct;have a0:Z (s.checkType=if tyB s.ctype=false then 3 else if s.hd.W=0 then s.checkFirst else if s.short then 21 else s.checkKind):=rfl;clear r t S;cases y:tyB s.ctype with
 | false=>
  rw[y] at x;have M:Z (s.checkType=3):=by show s.checkType=3;rw[a0.o,I y]
  clear y L;go_enter func51,ntmps51;go_wp2_with fail;refine x.o.mono ?_;rintro d a ⟨rfl,j⟩;subst a;go_wp2;go_ret;exact⟨aj (by rw[M.o];rfl),Kept.refl _⟩
 | true=>
  rw[y] at x;have M:Z (s.checkType=if s.hd.W=0 then s.checkFirst else if s.short then 21 else s.checkKind):=by show s.checkType=_;rw[a0.o,N (by rw[y];simp)]
  clear y a0;by_cases P:s.hd.W=0
  .have f:=U (yR b o n c s w G.o H.o E)
   have Q:Z (s.checkType=s.checkFirst):=by show s.checkType=_;rw[M.o,I P]
   rw[P] at a3;clear P L;go_enter func51,ntmps51;go_wp2_with fail;refine x.o.mono ?_;rintro d a ⟨rfl,j⟩;subst a;go_wp2_with fail;refine f.o.mono ?_;rintro d a ⟨rfl,j⟩;subst a;go_wp2;go_ret;exact⟨aj (by rw[Q.o]),Kept.refl _⟩
  .have b8:((s.hd.W:Int)==0)=false:=by rw[F];omega
   have Q:Z (s.checkType=if s.short then 21 else s.checkKind):=by show s.checkType=_;rw[M.o,N P]
   clear P M;replace L:Z _:=L;go_enter func51,ntmps51;go_wp2_with fail;refine x.o.mono ?_;rintro d a ⟨rfl,j⟩;subst a;go_upto_region 5 with fail
   clear x;go_cut [41] from 17 (λa6 z=>a6=.bool s.short/\z=w)
   case first=>
    have a1:Z (s.short=(decide (s.ctype≠aG)&&s.sd && !s.dov&&decide (s.st.part≠10))):=rfl;by_cases u:s.ctype=aG
    .have a7:((s.ctype:Int)!=1229209940)=false:=by rw[Xx,u];rfl
     have A:Z (s.short=false):=by show s.short=false;rw[a1.o,J (λa8=>a8 u)];rfl
     replace u:Z _:=u;go_wp2_with fail;go_meet
     case rel=>exact⟨by rw[A.o],rfl⟩
    .have a7:((s.ctype:Int)!=1229209940)=true:=by rw[XJ];intro a2;apply u;unfold aG;omega
     have A:Z (s.short=(s.sd && !s.dov&&decide (s.st.part≠10))):=by show s.short=_;rw[a1.o,K u];rfl
     clear u a1;cases m:s.sd with
     | false=>
      rw[m] at T;have R:Z (s.short=false):=by show s.short=false;rw[A.o,m];rfl
      clear m;go_wp2_with fail;go_meet
      case rel=>exact⟨by rw[R.o],rfl⟩
     | true=>
      cases B:s.dov with
      | true=>
       rw[m] at T;rw[B] at Y;have R:Z (s.short=false):=by show s.short=false;rw[A.o,m,B];rfl
       clear m B;go_wp2_with fail;go_meet
       case rel=>exact⟨by rw[R.o],rfl⟩
      | false=>
       rw[m] at T;rw[B] at Y;have R:Z (s.short = !decide (s.st.part=10)):=by
        show s.short=_
        rw[A.o,m,B];by_cases a2:s.st.part=10<;>simp[a2]
       clear m B A;generalize decide (s.st.part=10)=b9 at *;go_wp2_with fail;refine a4.o.mono ?_;rintro d a ⟨rfl,j⟩;subst a;go_wp2_with fail
       all_goals
        go_meet
        case rel=>exact⟨by rw[R.o],rfl⟩
   case rest=>
    obtain⟨W,c0⟩:=hcut;subst wc;clear a4 T Y a3;cases C:s.short with
    | true=>
     rw[C] at W;subst W;have p:Z (s.checkType=21):=by show s.checkType=21;rw[Q.o,C];rfl
     clear C;go_wp2_with fail;go_ret;exact⟨aj (by rw[p.o];rfl),Kept.refl _⟩
    | false=>
     rw[C] at W;subst W;have p:Z (s.checkType=s.checkKind):=by show s.checkType=_;rw[Q.o,C];rfl
     clear C Q;by_cases e:s.ctype=aQ
     .have g:Z (s.checkType=4):=by show s.checkType=_;rw[p.o];unfold Rd.checkKind;rw[I e]
      rw[e] at k;clear e;unfold aQ at k;go_wp2_with fail;go_ret;exact⟨aj (by rw[g.o];rfl),Kept.refl _⟩
     .by_cases h:s.ctype=bE
      .have g:Z (s.checkType=s.checkPalette):=by show s.checkType=_;rw[p.o];unfold Rd.checkKind;rw[N e,I h]
       have f:=U (uR b o n c s w G.o H.o E V.o.D V.o.len);rw[h] at k;clear e h;unfold bE at k;go_wp2_with fail;refine f.o.mono ?_;rintro d a ⟨rfl,j⟩;go_wp2_with fail;go_ret;exact⟨aj (by rw[g.o]),j⟩
      .by_cases l:s.ctype=bB
       .have g:Z (s.checkType=s.checkClear):=by show s.checkType=_;rw[p.o];unfold Rd.checkKind;rw[N e,N h,I l]
        have f:Z (Calls prog 86 #[.pointer (some ⟨b,o,none⟩)] w λd v=>d=.returned (.int .i64 s.checkClear)/\Kept w v):=(yS b o n c s w G.o H.o E V.o.colours V.o.K).mono (λd v ⟨a9,a2,b0⟩=>⟨a9,by rw[b0];exact(Kept.refl _).drewN _⟩);rw[l] at k;clear e h l;unfold bB at k;go_wp2_with fail;refine f.o.mono ?_;rintro d a ⟨rfl,j⟩;go_wp2_with fail;go_ret;exact⟨aj (by rw[g.o]),j⟩
       .by_cases q:s.ctype=aG
        .have g:Z (s.checkType=s.checkData):=by show s.checkType=_;rw[p.o];unfold Rd.checkKind;rw[N e,N h,N l,I q]
         have f:=U (AI b o n c s w G.o H.o E);rw[q] at k;clear e h l q;unfold aG at k;go_wp2_with fail;refine f.o.mono ?_;rintro d a ⟨rfl,j⟩;subst a;go_wp2_with fail;go_ret;exact⟨aj (by rw[g.o]),Kept.refl _⟩
        .by_cases D:s.ctype=cE
         .have g:Z (s.checkType=s.checkEnd):=by show s.checkType=_;rw[p.o];unfold Rd.checkKind;rw[N e,N h,N l,N q,I D]
          have f:=U (CF b o n c s w G.o H.o E);rw[D] at k;clear e h l q D;unfold cE at k;go_wp2_with fail;refine f.o.mono ?_;rintro d a ⟨rfl,j⟩;subst a;go_wp2_with fail;go_ret;exact⟨aj (by rw[g.o]),Kept.refl _⟩
         .have g:Z (s.checkType=if kU (s.ctype/16777216) then 3 else 0):=by show s.checkType=_;rw[p.o];unfold Rd.checkKind;rw[N e,N h,N l,N q,N D]
          have b1:=cty s aQ e;have b2:=cty s bE h;have b3:=cty s bB l;have b4:=cty s aG q;have b5:=cty s cE D;have f:Z (∀z:World,Calls prog 89 #[.int .u8 ((s.ctype/16777216:Nat):Int)] z λd v=>d=.returned (.bool (kU (s.ctype/16777216)))/\v=z):=λz=>eO _ z
          have b6:(s.ctype:Int)/16777216=((s.ctype/16777216:Nat):Int):=O;obtain⟨X,a5⟩:∃X,X=s.ctype/16777216:=⟨_,rfl⟩;have c1:X<256:=by have:=L.o;omega
          rw[<-a5] at f b6 g;clear e h l q D a5;generalize s.ctype=c2 at *;unfold aQ at b1;unfold bE at b2;unfold bB at b3;unfold aG at b4;unfold cE at b5;generalize kU X=b7 at *;go_wp2_with fail;refine(f.o _).mono ?_;rintro d a ⟨rfl,j⟩;subst a;cases b7
          all_goals
           go_wp2_with fail;go_ret;exact⟨aj (by rw[g.o];rfl),Kept.refl _⟩
theorem StV.shift{d:List Value}{s}(h:StV (λi=>d.getD i undef) 0 s)c o:StV (updL c o 3351 (λi=>d.getD i undef)) o s:=by
 have g:∀i,i<3351->updL c o 3351 (λi=>d.getD i undef) (o+i)=d.getD (0+i) undef:=λi b=>by rw[dq b,XD]
 have a:∀i e f,d.getD e undef=f->i=o+e->e<3351->updL c o 3351 (λi=>d.getD i undef) i=f:=λi e f j k l=>by rw[k,g e l,XD];exact j
 refine⟨a _ 0 _ h.part rfl O,a _ 1 _ h.number rfl O,a _ 2 _ h.got rfl O,a _ 3 _ h.wanted rfl O,⟨a _ 4 _ h.path.bits rfl O,a _ 5 _ h.path.offset rfl O,a _ 6 _ h.path.ahead rfl O⟩,a _ 7 _ h.skip rfl O,a _ 8 _ h.window rfl O,a _ 9 _ h.last rfl O,a _ 10 _ h.left rfl O,⟨λi b=>a _ _ _ (h.lit.count i b) O O,λi b=>a _ _ _ (h.lit.sym i b) O O,a _ _ _ h.lit.total O O,a _ _ _ h.lit.longest O O⟩,⟨λi b=>a _ _ _ (h.dist.count i b) O O,λi b=>a _ _ _ (h.dist.sym i b) O O,a _ _ _ h.dist.total O O,a _ _ _ h.dist.longest O O⟩,⟨a _ _ _ h.tb.literals O O,a _ _ _ h.tb.distances O O,a _ _ _ h.tb.shorts O O,⟨λi b=>a _ _ _ (h.tb.short.count i b) O O,λi b=>a _ _ _ (h.tb.short.sym i b) O O,a _ _ _ h.tb.short.total O O,a _ _ _ h.tb.short.longest O O⟩,λi b=>a _ _ _ (h.tb.sl i b) O O,λi b=>a _ _ _ (h.tb.ls i b) O O,a _ _ _ h.tb.told O O,a _ _ _ h.tb.rep O O⟩,a _ _ _ h.length O O,a _ _ _ h.base O O,λi b=>a _ _ _ (h.hist i b) O O,a _ _ _ h.count O O,a _ _ _ h.sum O O⟩
theorem RwV.shift{d:List Value}{r}(h:RwV (λi=>d.getD i undef) 0 r)c o:RwV (updL c o 1549 (λi=>d.getD i undef)) o r:=by
 have a:∀i e f,d.getD e undef=f->i=o+e->e<1549->updL c o 1549 (λi=>d.getD i undef) i=f:=λi e f g j k=>by rw[j,dq k];exact g
 exact⟨⟨a _ 0 _ h.hd.W rfl O,a _ 1 _ h.hd.H rfl O,a _ 2 _ h.hd.D rfl O,a _ 3 _ h.hd.K rfl O,a _ 4 _ h.hd.L rfl O⟩,a _ 5 _ h.colours rfl O,a _ 6 _ h.pass rfl O,a _ 7 _ h.line rfl O,a _ 8 _ h.columns rfl O,a _ 9 _ h.lines rfl O,a _ 10 _ h.size rfl O,a _ 11 _ h.taken rfl O,a _ 12 _ h.filter rfl O,λi b=>a _ _ _ (h.row i b) O O,λi b=>a _ _ _ (h.above i b) O O,λi b=>a _ _ _ (h.known i b) O O,λi b=>a _ _ _ (h.smp i b) O O⟩
theorem getD_some{a:List Value}{m}(h:a.length=m):∀j,j<m->a[j]? = some (a.getD j undef):=λj b=>by
 rw[G,Xt O];rfl
theorem x9(b a n v:Nat)c t w(d:Blk w b n c)(e:TlV c a t)(h:a+1026<=n):Calls prog 90 #[.pointer (some ⟨b,a,none⟩),.int .i64 v] w λf g=>f=.returned (.tuple #[])/\g=w.setCell ⟨b,a+1024,none⟩ (.int .i64 v):=by
 have j:=d.at (i:=a+1024) O e.colours;have k:=d.fz (a+1024);clear d e;go_enter func90,ntmps90;go_wp2;go_end0
 exact⟨rfl,rfl⟩
theorem zG(b a n v:Nat)c t w(d:Blk w b n c)(e:TlV c a t)(h:a+1026<=n):Calls prog 91 #[.pointer (some ⟨b,a,none⟩),.int .i64 v] w λf g=>f=.returned (.tuple #[])/\g=w.setCell ⟨b,a+1025,none⟩ (.int .i64 v):=by
 have j:=d.at (i:=a+1025) O e.clears;have k:=d.fz (a+1025);clear d e;go_enter func91,ntmps91;go_wp2;go_end0
 exact⟨rfl,rfl⟩
def Rd.begin(s:Rd):Rd:=if s.sd then s else {s with sd:=true,st:=St.start,rw:=Rw.start s.hd s.tl.colours}
theorem AO b o n c s w(D:Blk w b n c)(G:RdV c o s)(c5:o+5954<=n)(a6:s.hd.W<=16)(a7:s.hd.H<=16)(a8:s.hd.D<=16)(a9:s.hd.K<=6)(b0:s.hd.L<=1)(S:bJ w)(b1:b≠0):Calls prog 92 #[.pointer (some ⟨b,o,none⟩)] w λe H=>e=.returned (.tuple #[])/\aM b o n c s.begin w H:=by
 have I:=D.at (i:=o+5952) O G.sd;have b2:=D.fz (o+5952);have J:Z _:=D;have K:Z _:=G;have b3:Z (∀a,Fr1 b w a->bJ a):=λa b4=>S.fr b4 (λu=>b1 u.symm)
 clear D G S;cases q:s.sd with
 | true=>
  have M:Z (s.begin=s):=by show s.begin=s;unfold Rd.begin;rw[q];rfl
  rw[q] at I;clear q;go_enter func92,ntmps92;go_wp2;refine XA (YA rfl _ _ _) rfl ?_;rw[M.o];exact⟨rfl,aM.refl J.o K.o⟩
 | false=>
  have M:Z (s.begin={s with sd:=true,st:=St.start,rw:=Rw.start s.hd s.tl.colours}):=by show s.begin=_;unfold Rd.begin;rw[q];rfl
  rw[q] at I;clear q;have T:Z (Blk (w.setCell ⟨b,o+5952,none⟩ (.bool true)) b n (upd c (o+5952) (.bool true))):=J.o.set O _;have U:Z _:=K.o.set_sd true;have V:Z (FrC b o (o+5954) c (upd c (o+5952) (.bool true))):=FrC.upd _ O O;have W:Z (Fr1 b w (w.setCell ⟨b,o+5952,none⟩ (.bool true))):=Fr1.set (Fr.refl _ _) _ _;go_enter func92,ntmps92;go_wp2_with fail;generalize w.setCell ⟨b,o+5952,none⟩ (.bool true)=b5 at *;generalize upd c (o+5952) (.bool true)=E at *;clear I b2 J K;refine(He b5).mono ?_;rintro e v ⟨d,rfl,x,X,Y,N⟩;have P:Z _:=T.o.kept N;have b6:(storeCells ⟨b,o+1050,none⟩ d).run prog v=.ok () (v.setCells b (o+1050) d):=aT (by rw[x];exact P.o.there O) Y;have j:Z (Blk (v.setCells b (o+1050) d) b n (updL E (o+1050) 3351 (λg=>d.getD g undef))):=P.o.sets O _ x (getD_some x);have l:Z _:=U.o.set_st St.start (X.shift E (o+1050)) (λg Q=>db (λu=>Q ⟨u.1,O⟩));have b7:Z (FrC b o (o+5954) c (updL E (o+1050) 3351 (λg=>d.getD g undef))):=V.o.trans (FrC.updL O O);have a0:Z (Fr1 b w (v.setCells b (o+1050) d)):=Fr1.sets _ _ (W.o.kept N);replace x:Z _:=x;clear X Y N T P U V W;go_upto_region 3 with fail
  generalize v.setCells b (o+1050) d=h at *;generalize updL E (o+1050) 3351 (λg=>d.getD g undef)=a1 at *;clear b6;have y:=j.o.at (i:=o+6) O l.o.hd.W;have z:=j.o.at (i:=o+6+1) O l.o.hd.H;have A:=j.o.at (i:=o+6+2) O l.o.hd.D;have B:=j.o.at (i:=o+6+3) O l.o.hd.K;have C:=j.o.at (i:=o+6+4) O l.o.hd.L;have b8:Z (∀a,Kept h a->Calls prog 124 #[.agg #[.int .i64 s.hd.W,.int .i64 s.hd.H,.int .i64 s.hd.D,.int .i64 s.hd.K,.int .i64 s.hd.L],.int .i64 s.tl.colours] a λe H=>∃d:List Value,e=.returned (.agg d.toArray)/\d.length=1549/\RwV (λg=>d.getD g undef) 0 (Rw.start s.hd s.tl.colours)/\(∀b9∈d,b9.oneCell'=true)/\Kept a H):=λa f=>Hq s.hd s.tl.colours a a6 a7 a8 a9 b0 (b3.o _ (a0.o.kept f))
  replace y:h.cell? ⟨b,o+6,none⟩=some (.int .i64 s.hd.W):=y;replace z:h.cell? ⟨b,o+6+1,none⟩=some (.int .i64 s.hd.H):=z;replace A:h.cell? ⟨b,o+6+2,none⟩=some (.int .i64 s.hd.D):=A;replace B:h.cell? ⟨b,o+6+3,none⟩=some (.int .i64 s.hd.K):=B;replace C:h.cell? ⟨b,o+6+4,none⟩=some (.int .i64 s.hd.L):=C;have r:=j.o.lt;have c0:Z (∀(a:World) (d:List Value),Kept h a->((a.setCells b (o+4401) d).cell? ⟨b,o+6,none⟩=some (.int .i64 s.hd.W)/\(a.setCells b (o+4401) d).cell? ⟨b,o+6+1,none⟩=some (.int .i64 s.hd.H)/\(a.setCells b (o+4401) d).cell? ⟨b,o+6+2,none⟩=some (.int .i64 s.hd.D)/\(a.setCells b (o+4401) d).cell? ⟨b,o+6+3,none⟩=some (.int .i64 s.hd.K)/\(a.setCells b (o+4401) d).cell? ⟨b,o+6+4,none⟩=some (.int .i64 s.hd.L))):=λa d f=>by
   have e:∀t,t<o+4401->(a.setCells b (o+4401) d).cell? ⟨b,t,none⟩=h.cell? ⟨b,t,none⟩:=λt c1=>(YS b d (o+4401) a ⟨b,t,none⟩ (λ_ _=>L c1)).trans (f.cell (p:=⟨b,t,none⟩) r)
   exact⟨(e _ O).trans y,(e _ O).trans z,(e _ O).trans A,(e _ O).trans B,(e _ O).trans C⟩
  have a2:Z (∀(a:World),Kept h a->(a.cell? ⟨b,o+6,none⟩=some (.int .i64 s.hd.W)/\a.cell? ⟨b,o+6+1,none⟩=some (.int .i64 s.hd.H)/\a.cell? ⟨b,o+6+2,none⟩=some (.int .i64 s.hd.D)/\a.cell? ⟨b,o+6+3,none⟩=some (.int .i64 s.hd.K)/\a.cell? ⟨b,o+6+4,none⟩=some (.int .i64 s.hd.L))):=λa f=>
   ⟨(f.cell (p:=⟨b,o+6,none⟩) r).trans y,(f.cell (p:=⟨b,o+6+1,none⟩) r).trans z,(f.cell (p:=⟨b,o+6+2,none⟩) r).trans A,(f.cell (p:=⟨b,o+6+3,none⟩) r).trans B,(f.cell (p:=⟨b,o+6+4,none⟩) r).trans C⟩
  go_region_held3 (λa=>a.cell? ⟨b,o+6,none⟩=some (.int .i64 s.hd.W)/\a.cell? ⟨b,o+6+1,none⟩=some (.int .i64 s.hd.H)/\a.cell? ⟨b,o+6+2,none⟩=some (.int .i64 s.hd.D)/\a.cell? ⟨b,o+6+3,none⟩=some (.int .i64 s.hd.K)/\a.cell? ⟨b,o+6+4,none⟩=some (.int .i64 s.hd.L)) (first|exact⟨y,z,A,B,C⟩|exact c0.o _ _ F|exact a2.o _ F|exact a2.o _ ((Kept.refl _).drewN 1)|go_keep) ((first|(go_at_call 125;refine((λa f=>xb b (o+24) n a1 s.tl a (j.o.kept f) l.o.tl O) _ ((Kept.refl _).drewN 1)).mono ?_;rintro e c6 ⟨rfl,rfl⟩)|(go_at_call 124;refine(b8.o _ ((Kept.refl _).drewN 1)).mono ?_;rintro e a3 ⟨a4,rfl,R,c2,c3,c4⟩;have F:=((Kept.refl _).drewN 1).trans c4;have a5:Z _:=j.o.kept F;have c7:(storeCells ⟨b,o+4401,none⟩ a4).run prog a3=.ok () (a3.setCells b (o+4401) a4):=aT (by rw[R];exact a5.o.there O) c3)))
  go_wp2;go_end0
  rw[M.o];refine⟨rfl,_,a5.o.sets (k:=o+4401) (m:=1549) O _ R (getD_some R),l.o.set_rw (Rw.start s.hd s.tl.colours) (c2.shift a1 (o+4401)) (λg Q=>db (λu=>Q ⟨u.1,O⟩)),b7.o.trans (FrC.updL O O),Fr1.sets _ _ (a0.o.kept F)⟩
