import Derived.Test.YtbedkdnphobmlaaGreatDoorProg
import Derived.Laws.BitsAllLaws
import Derived.Test.YtbedkdnphobmlaaGreatDoorUaa00
import Derived.Test.YtbedkdnphobmlaaGreatDoorUaa01
set_option linter.all false
set_option maxRecDepth 100000
set_option maxHeartbeats 0
namespace Px
def dz(s:Nat):Nat:=if s%2=1 then(s/2) ^^^ 3988292384 else s/2
def bF:Nat->Nat->Nat
 | 0,s=>s
 | k+1,s=>dz (bF k s)
def bh(s b:Nat):Nat:=bF 8 (s ^^^ b)
def aA(s:Nat)(l:List Nat):Nat:=l.foldl bh s
def ag:Nat:=4294967295
def aC(s:Nat):Nat:=s ^^^ 4294967295
def lz(b:Nat):Bool:=decide (65<=b/\b<=90)
def Hw(b:Nat):Bool:=decide (97<=b/\b<=122)
def jN(b:Nat):Bool:=lz b||Hw b
def tyB(n:Nat):Bool:=jN (n/16777216%256)&&jN (n/65536%256)&&lz (n/256%256)&&jN (n%256)
def ji(k d:Nat):Bool:=
 if k=0 then decide (d=1\/d=2\/d=4\/d=8\/d=16)
 else if k=3 then decide (d=1\/d=2\/d=4\/d=8)
 else if k=2\/k=4\/k=6 then decide (d=8\/d=16)
 else false
def bt:Nat:=1229472850
def bC:Nat:=1347179589
def aT:Nat:=1951551059
def ar:Nat:=1229209940
def aJ:Nat:=1229278788
def lh(i:Nat):Nat:=[137,80,78,71,13,10,26,10].getD i 0
end Px
namespace Go.Proofs.YtbedkdnphobmlaaGreatDoor
open Go.RowKit Tryz
theorem eN(b:Nat)w:Calls prog 116 #[.int .u8 b] w λa c=>a=.returned (.bool (Px.lz b))/\c=w:=by
 go_enter func116,ntmps116;go_wp2
 all_goals go_ret
 all_goals exact⟨bz (by unfold Px.lz;first|(symm;rw[Yh];omega)|(rw[X4,XL,XL];omega)),rfl⟩
theorem qO(b:Nat)w:Calls prog 144 #[.int .u8 b] w λc d=>c=.returned (.bool (Px.jN b))/\d=w:=by
 cases f:Px.lz b
 .have a:Px.jN b=Px.Hw b:=by simp[Px.jN,f]
  have e:Z _:=a;clear a;go_enter func144,ntmps144;go_wp2_with (go_at_call 116;refine(eN _ _).mono ?_;rintro c d ⟨rfl,rfl⟩)
  all_goals go_ret
  all_goals exact⟨bz (by rw[e.o];unfold Px.Hw;first|(symm;rw[Yh];omega)|(rw[X4,XL,XL];omega)),rfl⟩
 .have a:Px.jN b=true:=by simp[Px.jN,f]
  have e:Z _:=a;clear a;go_enter func144,ntmps144;go_wp2_with (go_at_call 116;refine(eN _ _).mono ?_;rintro c d ⟨rfl,rfl⟩)
  all_goals go_ret
  all_goals exact⟨bz e.o.symm,rfl⟩
theorem tf b w(h:0<=b):Calls prog 116 #[.int .u8 b] w λa c=>a=.returned (.bool (Px.lz b.toNat))/\c=w:=by
 obtain⟨d,rfl⟩:=Int.eq_ofNat_of_zero_le h;exact eN d w
theorem vf b w(h:0<=b):Calls prog 144 #[.int .u8 b] w λa c=>a=.returned (.bool (Px.jN b.toNat))/\c=w:=by
 obtain⟨d,rfl⟩:=Int.eq_ofNat_of_zero_le h;exact qO d w
theorem G0 n(a:n<4294967296):Px.tyB n=(Px.jN ((n:Int)/16777216).toNat&&Px.jN ((n:Int)/65536%256).toNat&&Px.lz ((n:Int)/256%256).toNat&&Px.jN (n%256)):=by
 unfold Px.tyB;rw[show((n:Int)/16777216).toNat=n/16777216%256 from O,show((n:Int)/65536%256).toNat=n/65536%256 from O,show((n:Int)/256%256).toNat=n/256%256 from O]
theorem vd(n:Nat)w(c:n<4294967296):Calls prog 109 #[.int .u32 n] w λa b=>a=.returned (.bool (Px.tyB n))/\b=w:=by
 rw[G0 n c];cases d:Px.jN ((n:Int)/16777216).toNat<;>cases e:Px.jN ((n:Int)/65536%256).toNat<;>cases f:Px.lz ((n:Int)/256%256).toNat
 all_goals
  go_enter func109,ntmps109;go_wp2_with (first|(go_at_call 144;refine(vf _ _ O).mono ?_;rintro a b ⟨rfl,rfl⟩)|(go_at_call 116;refine(tf _ _ O).mono ?_;rintro a b ⟨rfl,rfl⟩))
  go_ret;exact⟨bz (by simp only[YH,YM,Y9]),rfl⟩
theorem eC a s(h:s<4294967296):Px.bF a s<4294967296:=by
 induction a with
 | zero=>exact h
 | succ a b=>
  show Px.dz _<_
  unfold Px.dz;split
  .exact YY (n:=32) O O
  .omega
theorem and1(n:Nat)(h:n<4294967296):bits BinOp.and IntKind.u32 (n:Int) 1=((n%2:Nat):Int):=by
 have:=u32_and_nat n 1 h O;rw[show((1:Int))=((1:Nat):Int) from rfl,this,nat_mask1]
theorem Jn(n:Nat)(h:n<4294967296):bits BinOp.xor IntKind.u32 ((n:Int)/2) 3988292384=(((n/2) ^^^ 3988292384:Nat):Int):=by
 have:=u32_xor_nat (n/2) 3988292384 O O
 rw[show((n:Int)/2)=((n/2:Nat):Int) from O,show((3988292384:Int))=((3988292384:Nat):Int) from rfl,this]
theorem BH k s(h:s<4294967296)c(b:c=Px.bF k s)(t:(bits BinOp.and IntKind.u32 (c:Int) 1==1)=true):bits BinOp.xor IntKind.u32 ((c:Int)/2) 3988292384=(Px.bF (k+1) s:Nat):=by
 have a:=eC k s h;subst b;rw[and1 _ a] at t;rw[Jn _ a]
 have:Px.bF k s%2=1:=by simp at t;omega
 show _=((Px.dz (Px.bF k s):Nat):Int)
 unfold Px.dz;rw[I this]
theorem zb k s(h:s<4294967296)c(a:c=Px.bF k s)(t:(bits BinOp.and IntKind.u32 (c:Int) 1==1)=false):(c:Int)/2=(Px.bF (k+1) s:Nat):=by
 subst a;rw[and1 _ (eC k s h)] at t
 have:¬Px.bF k s%2=1:=by simp at t;omega
 show _=((Px.dz (Px.bF k s):Nat):Int)
 unfold Px.dz;rw[N this];omega
theorem fx s b(a:s<4294967296)(c:b<256):s ^^^ b<4294967296:=YY (n:=32) O O
theorem bH s b(a:s<4294967296)(c:b<256):Px.bh s b<4294967296:=eC _ _ (fx s b a c)
theorem jq(s b:Nat)w(d:s<4294967296)(f:b<256):Calls prog 81 #[.int .u32 s,.int .u8 b] w λg h=>g=.returned (.int .u32 (Px.bh s b:Nat))/\h=w:=by
 have e:=fx s b d f;go_enter func81,ntmps81;go_wp2;go_loop [0,5] (λi c=>∃a:Nat,a<=8/\c=.int .i64 a/\i=.int .u32 (Px.bF a (s ^^^ b):Nat)) (λ_ c=>8-(intOf c).toNat)
 case atStart=>exact⟨0,O,rfl,bU (by rw[u32_xor_nat s b d O];rfl)⟩
 case round=>
  obtain⟨a,j,rfl,rfl⟩:=hrel;go_wp2
  .exact⟨⟨a+1,O,Xj,bU (BH a _ e _ rfl ‹_›)⟩,Xb⟩
  .exact⟨⟨a+1,O,Xj,bU (zb a _ e _ rfl ‹_›)⟩,Xb⟩
  .go_ret
   exact⟨an (by rw[show a=8 from O];rfl),rfl⟩
theorem nN(s:Nat)w(a:s<4294967296):Calls prog 85 #[.int .u32 s] w λb c=>b=.returned (.int .u32 (Px.aC s:Nat))/\c=w:=by
 go_enter func85,ntmps85;go_wp2;go_ret;exact⟨an (by
  have:=u32_xor_nat 4294967295 s O a
  rw[show IntKind.u32.max=((4294967295:Nat):Int) from rfl,this,Nat.xor_comm];rfl),rfl⟩
theorem ors(a b c d:Nat)(e:a<256)(f:b<256)(g:c<256)(h:d<256):bits BinOp.or IntKind.u32 (bits BinOp.or IntKind.u32 (bits BinOp.or IntKind.u32 ((a:Int)*16777216) ((b:Int)*65536)) ((c:Int)*256)) d=((((a*256+b)*256+c)*256+d:Nat):Int):=by
 rw[show(a:Int)*16777216=((a*16777216:Nat):Int) from O,show(b:Int)*65536=((b*65536:Nat):Int) from O,show(c:Int)*256=((c*256:Nat):Int) from O];rw[u32_or_nat _ _ O O,nat_join 24 (a*16777216) (b*65536) O O];rw[u32_or_nat _ _ O O,nat_join 16 (a*16777216+b*65536) (c*256) O O];rw[u32_or_nat _ _ O O,nat_join 8 (a*16777216+b*65536+c*256) d O O];omega
theorem kZ(a b c d:Nat)w(e:a<256)(f:b<256)(g:c<256)(h:d<256):Calls prog 168 #[.int .u8 a,.int .u8 b,.int .u8 c,.int .u8 d] w λi j=>i=.returned (.int .u32 ((((a*256+b)*256+c)*256+d:Nat):Int))/\j=w:=by
 go_enter func168,ntmps168;go_wp2;go_ret;exact⟨an (ors a b c d e f g h),rfl⟩
def ha(n:Nat):Bool:=decide (n≠0/\n<2147483648)
theorem eb(n:Nat)w:Calls prog 169 #[.int .u32 n] w λa b=>a=.returned (.bool (ha n))/\b=w:=by
 go_enter func169,ntmps169;go_wp2
 all_goals go_ret
 .exact⟨bz (by unfold ha;simp_all),rfl⟩
 .exact⟨bz (by unfold ha;rw[X4];simp;omega),rfl⟩
theorem Ai D(h:D<=16):2^D<=65536:=by
 have:=XH (n:=2) O h;simpa using this
theorem pow_mod D(h:D<=16):(2:Int)^D%4294967296=((2^D:Nat):Int):=by
 have:=Ai D h
 rw[show(2:Int)^D=((2^D:Nat):Int) from Xi];generalize 2^D=a at *;omega
theorem ld(W H D a b:Nat)w(h:D<=16):Calls prog 129 #[.agg #[.int .i64 W,.int .i64 H,.int .i64 D,.int .i64 a,.int .i64 b]] w λc d=>c=.returned (.int .u32 ((2^D:Nat):Int))/\d=w.alloc (.cells #[.int .i64 W,.int .i64 H,.int .i64 D,.int .i64 a,.int .i64 b] 71):=by
 go_enter func129,ntmps129;go_wp2;go_ret;exact⟨an (pow_mod D h),rfl⟩
theorem kinds k:k=0\/k=2\/k=3\/k=4\/k=6\/(k≠0/\k≠2/\k≠3/\k≠4/\k≠6):=O
theorem fi(k d:Nat)w:Calls prog 60 #[.int .i64 k,.int .i64 d] w λa b=>a=.returned (.bool (Px.ji k d))/\b=w:=by
 rcases kinds k with rfl|rfl|rfl|rfl|rfl|⟨c,e,f,g,h⟩
 case' inr.inr.inr.inr.inr=>
  have i:Z (Px.ji k d=false):=by unfold Px.ji Z;simp[*]
  have j:((k:Int)==0)=false:=F.2 O;have l:((k:Int)==2)=false:=F.2 O;have m:((k:Int)==3)=false:=F.2 O;have n:((k:Int)==4)=false:=F.2 O;have o:((k:Int)==6)=false:=F.2 O;clear c e f g h
 all_goals
  go_enter func60,ntmps60;go_wp2
  all_goals go_ret
  all_goals first|exact⟨bz (by rw[i.o]),rfl⟩|exact⟨bz (by unfold Px.ji;rw[X4];simp;try omega),rfl⟩
