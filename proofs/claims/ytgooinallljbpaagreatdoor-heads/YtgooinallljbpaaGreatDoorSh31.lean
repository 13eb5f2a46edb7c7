import Derived.Test.YtgooinallljbpaaGreatDoorSh00
import Derived.Test.YtgooinallljbpaaGreatDoorSh06
import Derived.Test.YtgooinallljbpaaGreatDoorSh20
set_option linter.all false
set_option maxRecDepth 100000
set_option maxHeartbeats 0
namespace Px
def gj:Nat->Nat->Nat->Nat
 | 0,c,_=>c
 | k+1,c,b=>cB (gj k c b ^^^ (b/2^k%2))
def cV(l:List Nat):Nat:=l.foldl (λv x=>256*v+x) 0
end Px
namespace Go.Proofs.YtgooinallljbpaaGreatDoor
open Go.RowKit Px Tryz
theorem M1 k:k=0\/k=2\/k=3\/k=4\/k=6\/(k≠0/\k≠2/\k≠3/\k≠4/\k≠6):=O
theorem eG l x:Px.cV (l++[x])=256*Px.cV l+x:=by unfold Px.cV;rw[Yk];rfl
theorem KU a(g:∀b∈a,b<256):Px.cV a<256^a.length:=by
 have h:∀(a:List Nat) (c d:Nat),(∀b∈a,b<256)->c<d->a.foldl (λc b=>256*c+b) c<256^a.length*d:=by
  intro a
  induction a with
  | nil=>intro c d _ e;simpa using e
  | cons b l i=>
   intro c d f e
   have:=i (256*c+b) (256*d) (λj k=>f j (by simp[k])) (by have:=f b Xi;omega)
   rw[List.foldl_cons,Yj,Ya];rw[Y3];exact this
 have:=h a 0 1 g O
 simpa[Px.cV] using this
def seg(t:ByteArray)(i n:Nat):List Nat:=((ag t).drop i).take n
theorem seg_lt t i n:∀a∈seg t i n,a<256:=λa b=>da t a (Yu (YE b))
theorem seg_length t i n(h:i+n<=t.size):(seg t i n).length=n:=by
 unfold seg;rw[Yd,Yn,az];omega
theorem fV t i k(h:i+k<t.size):seg t i (k+1)=seg t i k++[t[i+k].toNat]:=by
 unfold seg;rw[XM (by rw[Yn,az];omega)]
 congr 2
 rw[List.getElem_drop];exact lG t (i+k) h
theorem lu t(i n:Nat)(w:World)(h:i+n<=t.size)(g:n<=4)(j:t.size<=1048576):Calls prog 98 #[.string t,.int .i64 i,.int .i64 n] w λc d=>c=.returned (.int .i64 ((Px.cV (seg t i n):Nat):Int))/\d=w:=by
 go_enter func98,ntmps98;go_wp2;go_loop [7,8] (λe b=>∃a:Nat,a<=n/\b=.int .i64 ((i+a:Nat):Int)/\e=.int .i64 ((Px.cV (seg t i a):Nat):Int)) (λ_ b=>i+n-(intOf b).toNat)
 case atStart=>exact⟨0,O,rfl,rfl⟩
 case round=>
  obtain⟨a,k,rfl,rfl⟩:=hrel;by_cases l:a<n
  .have m:=(t[i+a]' O).toNat_lt
   have o:Px.cV (seg t i a)<16777216:=by
    have:=KU (seg t i a) (seg_lt t i a)
    rw[seg_length t i a O] at this;have p:256^a<=256^3:=XH O O;omega
   have f:Z (Px.cV (seg t i (a+1))=256*Px.cV (seg t i a)+(t[i+a]' O).toNat):=by
    show _=_;rw[fV t i a O,eG]
   generalize Px.cV (seg t i a)=q at *;go_wp2;exact⟨⟨a+1,O,Xj,aY (by rw[f.o];go_num)⟩,Xb⟩
  .go_wp2
   go_ret;exact⟨aj (by rw[show a=n from O]),rfl⟩
theorem G9 w:Calls prog 56 #[] w λa b=>a=.returned (.string ⟨#[137,80,78,71,13,10,26,10]⟩)/\b=w:=by
 go_enter func56,ntmps56;go_wp2;go_ret;exact⟨rfl,rfl⟩
theorem Cc(k d:Nat)w:Calls prog 131 #[.int .i64 k,.int .i64 d] w λa b=>a=.returned (.bool (gi k d))/\b=w:=by
 rcases M1 k with rfl|rfl|rfl|rfl|rfl|⟨c,e,f,g,h⟩
 case' inr.inr.inr.inr.inr=>
  have i:Z (gi k d=false):=by show _=_;unfold gi;simp[*]
  have j:((k:Int)==0)=false:=F.2 O;have l:((k:Int)==2)=false:=F.2 O;have m:((k:Int)==3)=false:=F.2 O;have n:((k:Int)==4)=false:=F.2 O;have o:((k:Int)==6)=false:=F.2 O;clear c e f g h
 all_goals
  go_enter func131,ntmps131;go_wp2
  all_goals go_ret
  all_goals first|exact⟨bh (by rw[i.o]),rfl⟩|exact⟨bh (by unfold gi;rw[X4];simp;try omega),rfl⟩
theorem FH a c b(d:c<4294967296):Px.gj a c b<4294967296:=by
 induction a with
 | zero=>exact d
 | succ a e=>
  show Px.cB _<_
  have f:Px.gj a c b ^^^ (b/2^a%2)<4294967296:=YY (n:=32) e O;unfold Px.cB;split
  .exact YY (n:=32) O O
  .omega
theorem Nw m:m=(m%2) ^^^ (2*(m/2)):=by
 apply Nat.eq_of_testBit_eq;intro a;rw[Nat.testBit_xor];cases a with
 | zero=>simp[Nat.testBit_zero]
 | succ a=>
  have b:(m%2).testBit (a+1)=false:=by
   rw[Nat.testBit_succ]
   have:m%2/2=0:=O
   rw[this];simp
  rw[b,Nat.testBit_succ,Nat.testBit_succ]
  have:2*(m/2)/2=m/2:=O
  rw[this];simp
/-! the two ways of the sum are one -/
theorem Cy x y:Px.cB (x ^^^ (2*y))=Px.cB x ^^^ y:=by
 have c:(x ^^^ (2*y))%2=x%2:=by
  rw[<-Nat.and_one_is_mod,<-Nat.and_one_is_mod,Nat.and_xor_distrib_right]
  have:2*y &&& 1=0:=by rw[Nat.and_one_is_mod];omega
  rw[this,Nat.xor_zero]
 have d:(x ^^^ (2*y))/2=(x/2) ^^^ y:=by
  have:=Nat.xor_div_two (a:=x) (b:=2*y)
  rw[this];congr 1;omega
 unfold Px.cB;rw[c,d];split
 .rw[Nat.xor_assoc,Nat.xor_comm y,<-Nat.xor_assoc]
 .rfl
theorem LO a c b:Px.cO a (c ^^^ b)=Px.gj a c b ^^^ (b/2^a):=by
 induction a with
 | zero=>simp[Px.cO,Px.gj]
 | succ a d=>
  show Px.cB (Px.cO a (c ^^^ b))=Px.cB (Px.gj a c b ^^^ (b/2^a%2)) ^^^ (b/2^(a+1))
  rw[d,<-Cy]
  congr 1
  rw[Nat.xor_assoc]
  congr 1
  rw[Ya,<-Nat.div_div_eq_div_mul];generalize b/2^a=e;exact(Nw e)
theorem rO s k(h:k<s.size):(ag s).take (k+1)=(ag s).take k++[s[k].toNat]:=by
 rw[XM (by rw[az];exact h),lG s k h]
theorem Cz c b(a:b<256):Px.cj c b=Px.gj 8 c b:=by
 unfold Px.cj;rw[LO,show b/2^8=0 from O,Nat.xor_zero]
theorem Av s l(b:s<4294967296)(c:∀a∈l,a<256):Px.bg s l<4294967296:=by
 induction l generalizing s with
 | nil=>exact b
 | cons a g d=>exact d (Px.cj s a) (wW s a b (c a Xi)) (λe f=>c e (by simp[f]))
theorem Cw s l x:Px.bg s (l++[x])=Px.cj (Px.bg s l) x:=by unfold Px.bg;rw[Yk];rfl
theorem JI(a x k:Nat)(c:a<4294967296)(h:x<256):bits BinOp.and IntKind.i64 (bits BinOp.xor IntKind.i64 (a:Int) (bits BinOp.and IntKind.i64 ((x:Int)/2^k) 1)) 1=(((a ^^^ (x/2^k%2))%2:Nat):Int):=by
 have d:(x:Int)/2^k=((x/2^k:Nat):Int):=Xi;have e:x/2^k<4294967296:=Zh (Yz _ _) O;have f:bits BinOp.and IntKind.i64 ((x/2^k:Nat):Int) 1=((x/2^k%2:Nat):Int):=by
  have:=lz (x/2^k) 1 e O
  rw[nat_mask1] at this;exact this
 have g:a ^^^ (x/2^k%2)<4294967296:=YY (n:=32) O O;have b:=lz (a ^^^ (x/2^k%2)) 1 g O;rw[nat_mask1] at b;rw[d,f,ly a _ c O];exact b
theorem D0 R b(a:b<2):(R ^^^ b)/2=R/2:=by
 rw[Nat.xor_div_two,show b/2=0 from O,Nat.xor_zero]
theorem L1(a x k:Nat)(b:a<4294967296)(c:x<256)(h:(bits BinOp.and IntKind.i64 (bits BinOp.xor IntKind.i64 (a:Int) (bits BinOp.and IntKind.i64 ((x:Int)/2^k) 1)) 1==1)=true):bits BinOp.xor IntKind.i64 ((a:Int)/2) 3988292384=((Px.cB (a ^^^ (x/2^k%2)):Nat):Int):=by
 rw[JI a x k b c,XI] at h;have d:(a ^^^ (x/2^k%2))%2=1:=O;unfold Px.cB;rw[I d,D0 _ _ O]
 have:=ly (a/2) 3988292384 O O
 rw[show((a/2:Nat):Int)=(a:Int)/2 from O] at this;exact this
theorem Nm(a x k:Nat)(b:a<4294967296)(c:x<256)(h:(bits BinOp.and IntKind.i64 (bits BinOp.xor IntKind.i64 (a:Int) (bits BinOp.and IntKind.i64 ((x:Int)/2^k) 1)) 1==1)=false):(a:Int)/2=((Px.cB (a ^^^ (x/2^k%2)):Nat):Int):=by
 rw[JI a x k b c,F] at h;have d:¬(a ^^^ (x/2^k%2))%2=1:=O;unfold Px.cB;rw[N d,D0 _ _ O];omega
theorem Jl t w(u:t.size<=1048576):Calls prog 100 #[.string t] w λl m=>l=.returned (.int .i64 ((Px.bz (Px.bg Px.ax (ag t)):Nat):Int))/\m=w:=by
 go_enter func100,ntmps100;go_wp2;go_loop [3,4] (λf c=>∃a:Nat,a<=t.size/\c=.int .i64 a/\f=.int .i64 ((Px.bg Px.ax ((ag t).take a):Nat):Int)) (λ_ c=>t.size-(intOf c).toNat)
 case atStart=>exact⟨0,O,rfl,rfl⟩
 case round=>
  obtain⟨a,v,rfl,rfl⟩:=hrel;by_cases n:a<t.size
  .have g:Px.bg Px.ax ((ag t).take a)<4294967296:=Av _ _ Xh (λo e=>da t o (YE e))
   have e:=t[a].toNat_lt;have p:Z (Px.bg Px.ax ((ag t).take (a+1))=Px.gj 8 (Px.bg Px.ax ((ag t).take a)) t[a].toNat):=by
    show _=_;rw[rO t a n,Cw,Cz _ _ e]
   generalize Px.bg Px.ax ((ag t).take a)=d at *;go_wp2;go_loop [3,5] (λf c=>∃b:Nat,b<=8/\c=.int .i64 b/\f=.int .i64 ((Px.gj b d t[a].toNat:Nat):Int)) (λ_ c=>8-(intOf c).toNat)
   case atStart=>exact⟨0,O,rfl,rfl⟩
   case round=>
    obtain⟨b,x,rfl,rfl⟩:=hrel;have h:=FH b d t[a].toNat g;have i:Z (Px.gj (b+1) d t[a].toNat=Px.cB (Px.gj b d t[a].toNat ^^^ (t[a].toNat/2^b%2))):=rfl;by_cases y:b<8
    .generalize Px.gj b d t[a].toNat=j at *
     go_wp2
     .exact⟨⟨b+1,O,Xj,aY (by rw[i.o];exact L1 j _ b h e ‹_›)⟩,Xb⟩
     .exact⟨⟨b+1,O,Xj,aY (by rw[i.o];exact Nm j _ b h e ‹_›)⟩,Xb⟩
    .have q:b=8:=O
     subst q;go_wp2;exact⟨⟨a+1,O,Xj,aY (by rw[p.o])⟩,Xb⟩
  .have r:(ag t).take a=ag t:=X6 (by rw[az];omega)
   rw[r];have g:Px.bg Px.ax (ag t)<4294967296:=Av _ _ Xh (da t);generalize k:Px.bg Px.ax (ag t)=d at *;have s:Z _:=k;clear k;go_wp2;go_ret;exact⟨aj (by rw[s.o];exact ly d 4294967295 g O),rfl⟩
def gb(t:ByteArray)(i:Nat):Nat:=(ag t).getD i 0
theorem iF t i(h:i<t.size):t[i].toNat=gb t i:=by
 unfold gb;rw[G,Xt (by rw[az];exact h),lG t i h];rfl
def okT(t:ByteArray)(i:Nat):Bool:=kU (gb t i)||(Iy (gb t i)&&i != 2)
def qo(t:ByteArray):Bool:=okT t 0&&okT t 1&&okT t 2&&okT t 3
theorem KR t k x(h:x=gb t k):okT t k=decide ((65<=x/\x<=90)\/(97<=x/\x<=122/\k≠2)):=by
 subst h;unfold okT kU Iy;rw[X4];simp[and_assoc]
theorem Me t k(a:k<4)(h:okT t k=false):qo t=false:=by
 unfold qo
 match k,a with
 | 0,_=>simp[h]
 | 1,_=>simp[h]
 | 2,_=>simp[h]
 | 3,_=>simp[h]
theorem JP t(h:∀a,a<4->okT t a=true):qo t=true:=by
 unfold qo;simp[h 0 O,h 1 O,h 2 O,h 3 O]
theorem du t w(h:t.size=4):Calls prog 130 #[.string t] w λc i=>c=.returned (.bool (qo t))/\i=w:=by
 go_enter func130,ntmps130;go_wp2;go_loop [3] (λd=>∃a:Nat,a<=4/\d=.int .i64 a/\Z (∀b,b<a->okT t b=true)) (λd=>4-(intOf d).toNat)
 case atStart=>exact⟨0,O,rfl,λb e=>O⟩
 case round=>
  obtain⟨a,l,rfl,f⟩:=hrel;by_cases j:a<4
  .have k:a<t.size:=O
   have g:Z _:=KR t a t[a].toNat (iF t a k);go_wp2
   all_goals first
    | (go_ret;refine⟨bh (Me t a j ?_).symm,rfl⟩;rw[g.o,Yh];(try simp only[Zl,Yh,Bool.not_eq_false',XL,XI,F] at *);omega)
    | (refine⟨⟨a+1,O,Xj,λb e => ?_⟩,Xb⟩;by_cases c:b=a;(subst c;rw[g.o,XL];(try simp only[Zl,Yh,Bool.not_eq_false',XL,XI,F] at *);omega);exact f.o b O)
  .go_wp2
   go_ret;exact⟨bh (JP t (λb e=>f.o b O)).symm,rfl⟩
def ty(t:ByteArray):Nat:=Px.cV (ag t)
theorem Mt t(h:t.size=4):ag t=[gb t 0,gb t 1,gb t 2,gb t 3]:=by
 have d:(ag t).length=4:=by rw[az];exact h
 unfold gb
 match e:ag t,d with
 | [a,b,c,f],_=>rfl
theorem ek t i:gb t i<256:=by
 unfold gb;by_cases a:i<(ag t).length
 .rw[G,Xt a];exact da t _ (YU a)
 .rw[G,XX O];decide
theorem GI t(h:t.size=4):ty t=256*(256*(256*gb t 0+gb t 1)+gb t 2)+gb t 3:=by
 unfold ty;rw[Mt t h];simp[Px.cV]
theorem xM t(h:t.size=4):tyB (ty t)=qo t:=by
 have a:=ek t 0;have b:=ek t 1;have c:=ek t 2;have d:=ek t 3;unfold tyB qo okT nH;rw[GI t h,show(256*(256*(256*gb t 0+gb t 1)+gb t 2)+gb t 3)/16777216%256=gb t 0 from O,show(256*(256*(256*gb t 0+gb t 1)+gb t 2)+gb t 3)/65536%256=gb t 1 from O,show(256*(256*(256*gb t 0+gb t 1)+gb t 2)+gb t 3)/256%256=gb t 2 from O,show(256*(256*(256*gb t 0+gb t 1)+gb t 2)+gb t 3)%256=gb t 3 from O];simp
theorem toList_map t:t.toList.map UInt8.toNat=ag t:=by
 unfold ag;rw[ByteArray.toList_eq]
theorem zp t(h:t.size=4)a b c d n(g:n=256*(256*(256*a.toNat+b.toNat)+c.toNat)+d.toNat):(t.toList==[a,b,c,d])=decide (ty t=n):=by
 rw[X4,XI,XL,GI t h,g];have o:=ek t 1;have p:=ek t 2;have q:=ek t 3;have r:=b.toNat_lt;have s:=c.toNat_lt;have u:=d.toNat_lt;have e:=toList_map t;rw[Mt t h] at e
 constructor
 .intro f
  rw[f] at e;simp at e;omega
 .intro f
  have i:gb t 0=a.toNat:=O;have j:gb t 1=b.toNat:=O;have k:gb t 2=c.toNat:=O;have l:gb t 3=d.toNat:=O;rw[i,j,k,l] at e
  have:t.toList.map UInt8.toNat=[a,b,c,d].map UInt8.toNat:=e
  exact(List.map_inj_right (λv w m=>UInt8.toNat_inj.1 m)).1 this
theorem xN t(h:t.size=4):(t.toList==[73,72,68,82])=decide (ty t=Px.aQ):=zp t h 73 72 68 82 _ rfl
theorem Dk t(h:t.size=4):(t.toList==[80,76,84,69])=decide (ty t=Px.bE):=zp t h 80 76 84 69 _ rfl
theorem Dj t(h:t.size=4):(t.toList==[116,82,78,83])=decide (ty t=Px.bB):=zp t h 116 82 78 83 _ rfl
theorem xO t(h:t.size=4):(t.toList==[73,68,65,84])=decide (ty t=Px.aG):=zp t h 73 68 65 84 _ rfl
theorem Dl t(h:t.size=4):(t.toList==[73,69,78,68])=decide (ty t=Px.cE):=zp t h 73 69 78 68 _ rfl
