import Derived.Test.YtbedkdnphobmlaaGreatDoorProg
import Derived.Deep.RegionHeld3
import Derived.Test.YtbedkdnphobmlaaGreatDoorUaa00
import Derived.Test.YtbedkdnphobmlaaGreatDoorUaa01
import Derived.Test.YtbedkdnphobmlaaGreatDoorUaa03
set_option linter.all false
set_option maxRecDepth 100000
set_option maxHeartbeats 0
namespace Go.Proofs.YtbedkdnphobmlaaGreatDoor
open Go.RowKit Tryz
def chan(K:Nat):Nat:=if K=2 then 3 else if K=4 then 2 else if K=6 then 4 else 1
def ax(K D:Nat):Prop:=(K=0/\(D=1\/D=2\/D=4\/D=8\/D=16))\/(K=3/\(D=1\/D=2\/D=4\/D=8))\/((K=2\/K=4\/K=6)/\(D=8\/D=16))
theorem ax.k{K D}(h:ax K D):K=0\/K=2\/K=3\/K=4\/K=6:=by unfold ax at h;omega
theorem ax.d{K D}(h:ax K D):D=1\/D=2\/D=4\/D=8\/D=16:=by unfold ax at h;omega
theorem bI{K}:1<=chan K/\chan K<=4:=by unfold chan;split<;>(try split)<;>(try split)<;>omega
theorem fT(K:Nat)w(h:K=0\/K=2\/K=3\/K=4\/K=6):Calls prog 93 #[.int .i64 K] w λa b=>a=.returned (.int .i64 (chan K))/\b=w:=by
 rcases h with rfl|rfl|rfl|rfl|rfl
 all_goals
  go_enter func93,ntmps93;go_wp2;go_ret;exact⟨rfl,rfl⟩
def within(f s n:Nat):Nat:=if n<=f then 0 else(n-f-1)/s+1
theorem ma(f s n:Nat)b w(h:f<=8)(i:1<=s)(j:s<=8)(k:n<=16):Calls prog 130 #[.agg #[.int .i64 f,.int .i64 s,.int .i64 b],.int .i64 n] w λc d=>c=.returned (.int .i64 (within f s n))/\Kept w d:=by
 have l:(1:Int)<=(s:Int):=O;by_cases a:n<=f
 .have e:(n:Int)<=(f:Int):=O
  unfold within;rw[I a];go_enter func130,ntmps130;go_wp2;go_ret;exact⟨rfl,Xw (Xs _ _) (E _) _⟩
 .have e:¬(n:Int)<=(f:Int):=O
  unfold within;rw[N a];go_enter func130,ntmps130;go_wp2;go_ret;refine⟨an ?_,Xw (Xs _ _) (E _) _⟩;have g:((n:Int)-(f:Int)-1)=((n-f-1:Nat):Int):=O;have m:(n-f-1)/s<=16:=Xz (Yz _ _) O;rw[g,<-YB];generalize (n-f-1)/s=o at *;unfold wrap64;omega
theorem wrapN(b:Nat)(h:b<4294967296):IntKind.i64.wrap (b:Int)=(b:Int):=Xd
theorem lZ z(a : -4294967296<=z)(b:z<=4294967296):IntKind.i64.wrap z=z:=Xd
structure Ji (w:World) (x N n cnt:Nat) (W H D K L:Nat):Prop where
 lt:x<N
 size:N<=w.heap.size
 fz:∀k,w.frozen? ⟨x,k,none⟩=false
 c0:w.cell? ⟨x,0,none⟩=some (.int .i64 (W:Int))
 c1:w.cell? ⟨x,1,none⟩=some (.int .i64 (H:Int))
 c2:w.cell? ⟨x,2,none⟩=some (.int .i64 (D:Int))
 c3:w.cell? ⟨x,3,none⟩=some (.int .i64 (K:Int))
 c4:w.cell? ⟨x,4,none⟩=some (.int .i64 (L:Int))
 o:∃ov,w.cell? ⟨x,5,none⟩=some ov/\EC w N ov n
 cn:w.cell? ⟨x,6,none⟩=some (.int .i64 (cnt:Int))
 row:Rng .u8 256 w x 7 128
 abv:Rng .u8 256 w x 135 128
theorem oQ x N n cnt a H D K L w(h:Ji w x N n cnt a H D K L)(d:ax K D):Calls prog 131 #[.pointer (some ⟨x,0,none⟩)] w λb e=>b=.returned (.int .i64 ((chan K*D:Nat):Int))/\Kept w e:=by
 have g:Z (∀a,Calls prog 93 #[.int .i64 K] a λb e=>b=.returned (.int .i64 (chan K))/\e=a):=λa=>fT K a d.k
 have i:=h.c2;have j:=h.c3;have k:=d.d;clear h d;obtain⟨m,l⟩:=(@bI K);generalize chan K=c at *;have o:c*D<=64:=Xz (XF l (show D<=16 from O)) Xh;have p:(c:Int)*(D:Int)=((c*D:Nat):Int):=Xi;generalize c*D=f at *;clear k;go_enter func131,ntmps131;go_wp2_with fail;go_region_held3 (λa=>a.cell? ⟨x,2,none⟩=some (.int .i64 D)/\a.cell? ⟨x,3,none⟩=some (.int .i64 K)) (first|exact⟨i,j⟩|go_keep) ((go_at_call 93;refine(g.o _).mono ?_;rintro b q ⟨rfl,rfl⟩))
 go_wp2;go_ret;refine⟨?_,(Kept.refl _).drewN 1⟩;show Ending.returned (.int .i64 (IntKind.i64.wrap (f:Int)))=_
 rw[wrapN f O]
theorem yz(f s i:Nat)(b:Int)(w:World)(hf:f<=8)(hs2:s<=8)(hi:i<=16):Calls prog 156 #[.agg #[.int .i64 (f:Int),.int .i64 (s:Int),.int .i64 b],.int .i64 (i:Int)] w λr w'=>r=.returned (.int .i64 ((f+i*s:Nat):Int))/\Kept w w':=by
 have hm:i*s<=128:=Nat.le_trans (Nat.mul_le_mul hi hs2) (by decide);have e:(i:Int)*(s:Int)=((i*s:Nat):Int):=by simp
 generalize i*s=M at *;go_enter func156,ntmps156;go_wp2;go_ret;refine⟨an (by omega),Below.alloc (Below.refl _ _) (Nat.le_refl _) _⟩
theorem CO:(prog.info? 90).map (·.size)=some 128:=by kernel_rfl
theorem pH:zeroCells90=Array.replicate 128 (.int .u8 0):=by kernel_rfl
theorem kM:(zeroCells90).toList.length=128:=by rw[pH,Array.toList_replicate,List.length_replicate]
theorem rK:∀j,j<128->∃z:Int,0<=z/\z<256/\(zeroCells90).toList[j]? = some (.int .u8 z):=λj hj=>⟨0,by omega,by omega,by rw[pH,Array.toList_replicate,List.getElem?_replicate,if_pos hj]⟩
end Go.Proofs.YtbedkdnphobmlaaGreatDoor
namespace Go.Proofs.YtbedkdnphobmlaaGreatDoor
open Go.RowKit Px Tryz
theorem u8_or_nat(a b:Nat)(e:a<256)(f:b<256):bits .or .u8 (a:Int) (b:Int)=((a ||| b:Nat):Int):=by
 have g:a ||| b<2^8:=Nat.or_lt_two_pow O O
 show IntKind.u8.wrap ((BitVec.ofInt 8 (a:Int) ||| BitVec.ofInt 8 (b:Int)).toNat:Int)=_
 have c:(BitVec.ofInt 8 (a:Int)).toNat=a:=by rw[XT,X0];exact X1 O
 have d:(BitVec.ofInt 8 (b:Int)).toNat=b:=by rw[XT,X0];exact X1 O
 rw[BitVec.toNat_or,c,d,IntKind.wrap_u8];omega
structure LwB (w:World) (x N cnt W H D K L:Nat) (o:List Int) (row abv:Nat->Nat):Prop where
 lt:x<N
 size:N<=w.heap.size
 fz:∀k,w.frozen? ⟨x,k,none⟩=false
 c0:w.cell? ⟨x,0,none⟩=some (.int .i64 (W:Int))
 c1:w.cell? ⟨x,1,none⟩=some (.int .i64 (H:Int))
 c2:w.cell? ⟨x,2,none⟩=some (.int .i64 (D:Int))
 c3:w.cell? ⟨x,3,none⟩=some (.int .i64 (K:Int))
 c4:w.cell? ⟨x,4,none⟩=some (.int .i64 (L:Int))
 o:∃ov,w.cell? ⟨x,5,none⟩=some ov/\bg w N ov o
 cn:w.cell? ⟨x,6,none⟩=some (.int .i64 (cnt:Int))
 rowc:∀j,j<128->w.cell? ⟨x,7+j,none⟩=some (.int .u8 (row j))
 abvc:∀j,j<128->w.cell? ⟨x,135+j,none⟩=some (.int .u8 (abv j))
 rb:∀j,row j<256
 ab:∀j,abv j<256
theorem LwB.at'{w x N cnt W H D K L o row abv}(h:LwB w x N cnt W H D K L o row abv):Ji w x N o.length cnt W H D K L:=by
 obtain⟨c,d,e,f,g,i,j,k,⟨l,m,n⟩,p,q,r,s,t⟩:=h;exact⟨c,d,e,f,g,i,j,k,⟨l,m,n.own8⟩,p,λa b=>⟨row a,O,by have:=s a;omega,q a b⟩,λa b=>⟨abv a,O,by have:=t a;omega,r a b⟩⟩
theorem LwB.kept{w w' x N cnt W H D K L o row abv}(h:LwB w x N cnt W H D K L o row abv)(k:Kept w w'):LwB w' x N cnt W H D K L o row abv:=by
 obtain⟨e,f,g,i,j,l,m,n,⟨q,r,s⟩,t,u,v,y,z⟩:=h;have d:x<w.heap.size:=O;have b:∀a,w'.cell? ⟨x,a,none⟩=w.cell? ⟨x,a,none⟩:=λa=>k.cell (p:=⟨x,a,none⟩) d
 exact⟨e,Xz f k.size,λa=>(k.frozen (p:=⟨x,a,none⟩) d).trans (g a),(b 0).trans i,(b 1).trans j,(b 2).trans l,(b 3).trans m,(b 4).trans n,⟨q,(b 5).trans r,s.kept k⟩,(b 6).trans t,λa c=>(b _).trans (u a c),λa c=>(b _).trans (v a c),y,z⟩
theorem LwB.setRow{w x N cnt W H D K L o row abv}(h:LwB w x N cnt W H D K L o row abv)i(C:i<128)(c:Nat)(j:c<256):LwB (w.setCell ⟨x,7+i,none⟩ (.int .u8 c)) x N cnt W H D K L o (upd row i c) abv:=by
 obtain⟨f,k,l,m,n,p,q,r,⟨s,t,u⟩,v,g,y,z,A⟩:=h;have b:∀a,a≠7+i->(w.setCell ⟨x,7+i,none⟩ (.int .u8 c)).cell? ⟨x,a,none⟩=w.cell? ⟨x,a,none⟩:=λa d=>aa _ _ _ _ _ O
 refine⟨f,by rw[show(w.setCell ⟨x,7+i,none⟩ (.int .u8 c)).heap.size=w.heap.size by simp[World.setCell]];exact k,λB=>by rw[Xy];exact l B,(b 0 O).trans m,(b 1 O).trans n,(b 2 O).trans p,(b 3 O).trans q,(b 4 O).trans r,⟨s,(b 5 O).trans t,u.set f _ _⟩,(b 6 O).trans v,?_,λa d=>(b _ O).trans (y a d),?_,A⟩
 .intro a d
  by_cases e:a=i
  .subst e;rw[upd_same];exact af (g a d) _
  .rw[upd_ne _ _ _ e];exact(b _ O).trans (g a d)
 .intro a
  by_cases e:a=i
  .subst e;rw[upd_same];exact j
  .rw[upd_ne _ _ _ e];exact z a
structure LxB (x N cnt W H D K L:Nat) (o:List Int) (row abv:Nat->Nat) (w w':World):Prop where
 lw:LwB w' x N cnt W H D K L o row abv
 fr:Fr1 x w w'
 c5:w'.cell? ⟨x,5,none⟩=w.cell? ⟨x,5,none⟩
theorem LxB.trans{x N cnt cnt' W H D K L o o' row abv row' abv' a b c}(h:LxB x N cnt W H D K L o row abv a b)(k:LxB x N cnt' W H D K L o' row' abv' b c):LxB x N cnt' W H D K L o' row' abv' a c:=⟨k.lw,h.fr.trans k.fr,k.c5.trans h.c5⟩
theorem LxB.refl{x N cnt W H D K L o row abv a}(h:LwB a x N cnt W H D K L o row abv):LxB x N cnt W H D K L o row abv a a:=⟨h,Fr.refl _ _,rfl⟩
theorem LxB.kept{x N cnt W H D K L o row abv a b c}(h:LxB x N cnt W H D K L o row abv a b)(k:Kept b c):LxB x N cnt W H D K L o row abv a c:=⟨h.lw.kept k,h.fr.kept k,(k.cell (p:=⟨x,5,none⟩) (Xq h.lw.lt h.lw.size)).trans h.c5⟩
theorem LxB.drewN{x N cnt W H D K L o row abv a b}(h:LxB x N cnt W H D K L o row abv a b)k:LxB x N cnt W H D K L o row abv a (b.drewN k):=h.kept ((Kept.refl _).drewN k)
theorem yu(v n:Nat)w(d:n<=8)(e:v<65536):Calls prog 170 #[.int .i64 v,.int .i64 n] w λa b=>a=.returned (.int .u8 ((v*2^n%256:Nat):Int))/\b=w:=by
 have c:Z (((v:Int)%256*2^n)%256=((v*2^n%256:Nat):Int)):=by
  show((v:Int)%256*2^n)%256=_
  rw[Int.mul_emod,Int.emod_emod,<-Int.mul_emod];simp
 go_enter func170,ntmps170;go_wp2;go_ret;refine⟨?_,rfl⟩;rw[<-c.o];rfl
def de(D:Nat)(row:Nat->Nat)(i v:Nat):Nat->Nat:=
 if D<16 then upd row (i*D/8) (row (i*D/8) ||| v*2^(8-i*D%8-D)%256) else upd (upd row (i*D/8) (v/256)) (i*D/8+1) (v%256)
theorem va(x N t c H D K L i v:Nat)o row abv w(h:LwB w x N t c H D K L o row abv)(F:ax K D)(W:i*D/8<128)(G:v<65536)(J:D<16)(M:i*D%8+D<=8):Calls prog 157 #[.pointer (some ⟨x,0,none⟩),.int .i64 i,.int .i64 v] w λd e=>d=.returned (.tuple #[])/\LxB x N t c H D K L o (de D row i v) abv w e:=by
 have u:Z (∀(c:World) (f:Nat),f<=8->Calls prog 170 #[.int .i64 v,.int .i64 f] c λd e=>d=.returned (.int .u8 ((v*2^f%256:Nat):Int))/\e=c):=λc f P=>yu v f c P G
 have g:Z (de D row i v=upd row (i*D/8) (row (i*D/8) ||| v*2^(8-i*D%8-D)%256)):=by show de D row i v=_;unfold de;rw[I J]
 generalize de D row i v=X at *;have Y:=h.c2;have Q:Z _:=h;have y:i*D<=65536:=O;have a0:(i:Int)*(D:Int)=((i*D:Nat):Int):=Xi;generalize i*D=j at *;obtain⟨a,m⟩:∃a,a=j/8:=⟨_,rfl⟩;have a1:(j:Int)/8=(a:Int):=O;have a2:(0:Int)<=(a:Int):=O;have R:(0:Int)<=(j:Int):=O;have z:a<128:=O;rw[<-m] at g;replace m:Z _:=m;clear F;have a3:(a:Int)<128:=O;have S:=h.rowc a z;have p:=h.rb a;have a4:=h.fz (7+a);have a5:(D:Int)<16:=O;obtain⟨b,A⟩:∃b,b=j%8:=⟨_,rfl⟩;rw[<-A] at g M;have a6:(j:Int).tmod 8=(b:Int):=by rw[XU R];omega
 have T:IntKind.i64.wrap (8-(b:Int))=8-(b:Int):=lZ _ O O;have U:IntKind.i64.wrap (8-(b:Int)-(D:Int))=((8-b-D:Nat):Int):=by rw[lZ _ O O];omega
 have q:v*2^(8-b-D)%256<256:=YD _ O;have k:=λV=>u.o V (8-b-D) O
 obtain⟨l,B⟩:∃l,l=v*2^(8-b-D)%256:=⟨_,rfl⟩;rw[<-B] at k q g;obtain⟨r,C⟩:∃r,r=8-b-D:=⟨_,rfl⟩;rw[<-C] at U k;replace k:Z (∀c:World,Calls prog 170 #[.int .i64 v,.int .i64 r] c λd e=>d=.returned (.int .u8 l)/\e=c):=k;obtain⟨s,E⟩:∃s,s=row a:=⟨_,rfl⟩;rw[<-E] at S p g;clear h A u B C E;replace y:Z _:=y;go_enter func157,ntmps157;go_wp2;go_region_with ((go_at_call 170;refine(k.o _).mono ?_;rintro d T ⟨rfl,rfl⟩))
 all_goals
  go_wp2;refine XA (YA rfl _ _ _) rfl ?_;refine⟨rfl,⟨?_,(Fr1.set (Fr1.refl x _) _ _).drewN 1,aa _ _ _ _ _ O⟩⟩;rw[g.o,u8_or_nat s l p q];exact(Q.o.setRow a z _ (Nat.or_lt_two_pow (n:=8) p q)).kept ((Kept.refl _).drewN 1)
theorem sV(x N c d H D K L i v:Nat)o row abv w(h:LwB w x N c d H D K L o row abv)(e:ax K D)(A:i*D/8<128)(B:v<65536)(f:¬D<16):Calls prog 157 #[.pointer (some ⟨x,0,none⟩),.int .i64 i,.int .i64 v] w λp q=>p=.returned (.tuple #[])/\LxB x N c d H D K L o (de D row i v) abv w q:=by
 have g:Z (de D row i v=upd (upd row (i*D/8) (v/256)) (i*D/8+1) (v%256)):=by show de D row i v=_;unfold de;rw[if_neg f]
 generalize de D row i v=C at *;have j:=h.c2;have r:Z _:=h;have s:=e.d;have t:(i:Int)*(D:Int)=((i*D:Nat):Int):=Xi;generalize i*D=b at *;obtain⟨a,k⟩:∃a,a=b/8:=⟨_,rfl⟩;have E:(b:Int)/8=(a:Int):=O;have F:(0:Int)<=(a:Int):=O;have l:a<128:=O;rw[<-k] at g;clear k e;have u:D=16:=O;subst u;have G:(i:Int)*16=(b:Int):=O;have I:w.cell? ⟨x,2,none⟩=some (.int .i64 16):=j;clear t j s f;have J:(a:Int)<128:=O;have y:=h.rowc a l;have M:=h.fz (7+a);have m:a+1<128:=O;have P:(a:Int)+1<128:=O;have z:=h.rowc (a+1) m;have Q:=h.fz (7+(a+1));generalize row a=R at y;generalize row (a+1)=S at z;clear h;go_enter func157,ntmps157;go_wp2;go_end0
 refine⟨rfl,⟨?_,Fr1.set (Fr1.set (Fr1.refl x _) _ _) _ _,(aa _ _ _ _ _ O).trans (aa _ _ _ _ _ O)⟩⟩;rw[g.o];have n:=(r.o.setRow a l (v/256) O).setRow (a+1) m (v%256) O;rw[show((v/256:Nat):Int)=(v:Int)/256 from O,show((v%256:Nat):Int)=(v:Int)%256 from O] at n;exact n
theorem Hz(x N a b H D K L i v:Nat)o row abv w(h:LwB w x N a b H D K L o row abv)(c:ax K D)(d:i*D/8<128)(e:v<65536):Calls prog 157 #[.pointer (some ⟨x,0,none⟩),.int .i64 i,.int .i64 v] w λg j=>g=.returned (.tuple #[])/\LxB x N a b H D K L o (de D row i v) abv w j:=by
 by_cases f:D<16
 .refine va x N a b H D K L i v o row abv w h c d e f ?_
  have:=c.d
  rcases this with rfl|rfl|rfl|rfl|rfl<;>omega
 .exact sV x N a b H D K L i v o row abv w h c d e f
def ly(K D:Nat):Nat:=if 1<chan K*D/8 then chan K*D/8 else 1
def jk(K D f:Nat)(row abv:Nat->Nat)(i:Nat):Nat:=gss f (if ly K D<=i then row (i-ly K D) else 0) (abv i) (if ly K D<=i then abv (i-ly K D) else 0)
theorem DS(x N Y a0 H D K L f i:Nat)o row abv w(h:LwB w x N Y a0 H D K L o row abv)(T:ax K D)(b0:f<=4)(a3:i<128):Calls prog 158 #[.pointer (some ⟨x,0,none⟩),.int .u8 f,.int .i64 i] w λl A=>l=.returned (.int .u8 (jk K D f row abv i))/\Kept w A:=by
 have a4:Z (∀m,Kept w m->Calls prog 131 #[.pointer (some ⟨x,0,none⟩)] m λl A=>l=.returned (.int .i64 ((chan K*D:Nat):Int))/\Kept m A):=λm a5=>oQ x N o.length Y a0 H D K L m (h.kept a5).at' T
 have P:Z (∀(m:World) (d c e:Nat),d<256->c<256->e<256->Calls prog 171 #[.int .u8 f,.int .u8 d,.int .u8 c,.int .u8 e] m λl A=>l=.returned (.int .u8 (gss f d c e))/\A=m):=λm d c e n g q=>EU f d c e m O n g q
 have C:Z (jk K D f row abv i=gss f (if ly K D<=i then row (i-ly K D) else 0) (abv i) (if ly K D<=i then abv (i-ly K D) else 0)):=rfl;generalize jk K D f row abv i=t at *;have E:Z (ly K D=if 1<chan K*D/8 then chan K*D/8 else 1):=rfl;generalize ly K D=Q at *;have b1:chan K*D<=64:=Xz (XF (@bI K).2 (show D<=16 by have:=T.d;omega)) Xh;have u:Z _:=h;have g:=h.abvc i a3;have F:=h.ab i;generalize abv i=c at g F C;generalize chan K*D=a1 at *;have b2:(0:Int)<=(i:Int):=O;have b3:(i:Int)<128:=O;have v:=B _ _ g;clear h T;obtain⟨a,a2⟩:∃a,a=a1/8:=⟨_,rfl⟩;have b4:(a1:Int)/8=(a:Int):=O;have b5:(a:Int)<=8:=O;rw[<-a2] at E;clear a2;go_enter func158,ntmps158;go_wp2_with fail;refine(a4.o _ (Kept.refl _)).mono ?_;rintro l R ⟨rfl,b⟩;by_cases S:1<a
 .have a6:(1:Int)<(a:Int):=O
  by_cases r:a<=i
  .have j:Q=a:=by have:=E.o;simp only[I S] at this;exact this
   have n:=u.o.rowc (i-a) O;have q:=u.o.abvc (i-a) O;have G:=u.o.rb (i-a);have J:=u.o.ab (i-a);have s:Z (t=gss f (row (i-a)) c (abv (i-a))):=by show t=_;rw[C.o,j,I r,I r]
   obtain⟨d,y⟩:∃d,d=row (i-a):=⟨_,rfl⟩;obtain⟨e,z⟩:∃e,e=abv (i-a):=⟨_,rfl⟩;rw[<-y,<-z] at s;rw[<-y] at n G;rw[<-z] at q J;clear y z j;have U:=(b.cell (p:=⟨x,7+(i-a),none⟩) v).trans n;have V:=(b.cell (p:=⟨x,135+(i-a),none⟩) v).trans q;have W:=(b.cell (p:=⟨x,135+i,none⟩) v).trans g;replace b:Z (Kept w R):=b;clear n q g;obtain⟨k,M⟩:∃k,k=i-a:=⟨_,rfl⟩;rw[<-M] at U V;have a7:(i:Int)-(a:Int)=(k:Int):=O;have a8:(0:Int)<=(k:Int):=O;have a9:(k:Int)<128:=O;clear M;go_wp2_with fail;refine(P.o _ d c e G F J).mono ?_;rintro l X ⟨rfl,rfl⟩;rw[<-s.o];go_wp2;go_ret;exact⟨rfl,b.o⟩
  .have j:Q=a:=by have:=E.o;simp only[I S] at this;exact this
   have s:Z (t=gss f 0 c 0):=by show t=_;rw[C.o,j,if_neg r,if_neg r]
   clear j;have W:=(b.cell (p:=⟨x,135+i,none⟩) v).trans g;replace b:Z (Kept w R):=b;clear g;go_wp2_with fail;refine(P.o _ 0 c 0 O F O).mono ?_;rintro l X ⟨rfl,rfl⟩;rw[<-s.o];go_wp2;go_ret;exact⟨rfl,b.o⟩
 .have a6:(a:Int)<=1:=O
  by_cases r:1<=i
  .have j:Q=1:=by have:=E.o;simp only[if_neg S] at this;exact this
   have n:=u.o.rowc (i-1) O;have q:=u.o.abvc (i-1) O;have G:=u.o.rb (i-1);have J:=u.o.ab (i-1);have s:Z (t=gss f (row (i-1)) c (abv (i-1))):=by show t=_;rw[C.o,j,I r,I r]
   obtain⟨d,y⟩:∃d,d=row (i-1):=⟨_,rfl⟩;obtain⟨e,z⟩:∃e,e=abv (i-1):=⟨_,rfl⟩;rw[<-y,<-z] at s;rw[<-y] at n G;rw[<-z] at q J;clear y z j;have U:=(b.cell (p:=⟨x,7+(i-1),none⟩) v).trans n;have V:=(b.cell (p:=⟨x,135+(i-1),none⟩) v).trans q;have W:=(b.cell (p:=⟨x,135+i,none⟩) v).trans g;replace b:Z (Kept w R):=b;clear n q g;obtain⟨k,M⟩:∃k,k=i-1:=⟨_,rfl⟩;rw[<-M] at U V;have a7:(i:Int)-1=(k:Int):=O;have a8:(0:Int)<=(k:Int):=O;have a9:(k:Int)<128:=O;clear M;go_wp2_with fail;refine(P.o _ d c e G F J).mono ?_;rintro l X ⟨rfl,rfl⟩;rw[<-s.o];go_wp2;go_ret;exact⟨rfl,b.o⟩
  .have j:Q=1:=by have:=E.o;simp only[if_neg S] at this;exact this
   have s:Z (t=gss f 0 c 0):=by show t=_;rw[C.o,j,if_neg r,if_neg r]
   clear j;have W:=(b.cell (p:=⟨x,135+i,none⟩) v).trans g;replace b:Z (Kept w R):=b;clear g;go_wp2_with fail;refine(P.o _ 0 c 0 O F O).mono ?_;rintro l X ⟨rfl,rfl⟩;rw[<-s.o];go_wp2;go_ret;exact⟨rfl,b.o⟩
theorem jD{w x N v l}(h:bg w N v l)(b:x<N):∀(a:List Value) (o:Nat),bg (w.setCells x o a) N v l:=by
 intro a
 induction a generalizing w with
 | nil=>intro o;exact h
 | cons d e c=>intro o;exact c (h.set b _ _) (o+1)
theorem LwB.lay{w x N cnt W H D K L o row abv}(h:LwB w x N cnt W H D K L o row abv)cs f(c:cs.length=128)(g:∀j,j<128->cs[j]? = some (.int .u8 (f j)))(i:∀j,f j<256):LwB (w.setCells x 7 cs) x N cnt W H D K L o f abv:=by
 obtain⟨d,k,e,l,m,n,p,q,⟨r,s,t⟩,u,v,y,C,z⟩:=h;have a:∀j,(j<7\/7+128<=j)->(w.setCells x 7 cs).cell? ⟨x,j,none⟩=w.cell? ⟨x,j,none⟩:=λj b=>YS x cs 7 w ⟨x,j,none⟩ (λ_ _=>by rw[c];exact b)
 have A:w.there x 7 cs.length:=by
  intro j b;rw[c] at b;exact⟨by rw[v j b];rfl,e _⟩
 exact⟨d,by rw[setCells_size];exact k,λB=>by rw[World.frozen?_setCells];exact e B,(a 0 O).trans l,(a 1 O).trans m,(a 2 O).trans n,(a 3 O).trans p,(a 4 O).trans q,⟨r,(a 5 O).trans s,jD t d _ _⟩,(a 6 O).trans u,λj b=>XO _ _ _ _ A j _ (g j b),λj b=>(a _ O).trans (y j b),i,z⟩
theorem LwB.layA{w x N cnt W H D K L o row abv}(h:LwB w x N cnt W H D K L o row abv)cs f(c:cs.length=128)(g:∀j,j<128->cs[j]? = some (.int .u8 (f j)))(i:∀j,f j<256):LwB (w.setCells x 135 cs) x N cnt W H D K L o row f:=by
 obtain⟨d,k,e,l,m,n,p,q,⟨r,s,t⟩,u,v,y,z,C⟩:=h;have a:∀j,(j<135\/135+128<=j)->(w.setCells x 135 cs).cell? ⟨x,j,none⟩=w.cell? ⟨x,j,none⟩:=λj b=>YS x cs 135 w ⟨x,j,none⟩ (λ_ _=>by rw[c];exact b)
 have A:w.there x 135 cs.length:=by
  intro j b;rw[c] at b;exact⟨by rw[y j b];rfl,e _⟩
 exact⟨d,by rw[setCells_size];exact k,λB=>by rw[World.frozen?_setCells];exact e B,(a 0 O).trans l,(a 1 O).trans m,(a 2 O).trans n,(a 3 O).trans p,(a 4 O).trans q,⟨r,(a 5 O).trans s,jD t d _ _⟩,(a 6 O).trans u,λj b=>(a _ O).trans (v j b),λj b=>XO _ _ _ _ A j _ (g j b),z,i⟩
theorem oG:∀j,j<128->(zeroCells90).toList[j]? = some (.int .u8 ((0:Nat):Int)):=λj a=>by rw[pH,Array.toList_replicate,Zj,I a];rfl
def bE(D:Nat)(pl:List Int)(A B:Nat)(row:Nat->Nat):Nat->(Nat->Nat)
 | 0=>row
 | k+1=>de D (bE D pl A B row k) (B+k) (pl.getD (A+k) 0).toNat
def gQ(D C:Nat)(pl:List Int)(pos:Nat->Nat):Nat->(Nat->Nat)
 | 0=>λ_=>0
 | c+1=>bE D pl (pos c) (c*C) (gQ D C pl pos c) C
theorem AW x N cnt W H D K L f1 s1 f2 e i r b1 b2 pv pl o row abv w(h:LwB w x N cnt W H D K L o row abv)(A:ax K D)(a8:W<=16)(f9:f1<=8)(c5:s1<=8)(g0:f2<=8)(c6:e<=8)(c7:i<=16)(j6:r<=16)(a9:LAt w .i64 pv pl)(c8:∀g,ai pv=some g->¬(g=x\/N<=g))(j7:pl.length<=65536)(c9:∀d0∈pl,0<=d0/\d0<65536)(F:∀c a,c<r->a<chan K->((f2+i*e)*W+(f1+c*s1))*chan K+a<pl.length):Calls prog 132 #[.pointer (some ⟨x,0,none⟩),.agg #[.int .i64 f1,.int .i64 s1,.int .i64 b1,.int .i64 f2,.int .i64 e,.int .i64 b2],.int .i64 i,.int .i64 r,pv] w λm u=>m=.returned (.tuple #[])/\LxB x N cnt W H D K L o (gQ D (chan K) pl (λc=>((f2+i*e)*W+(f1+c*s1))*chan K) r) abv w u:=by
 obtain⟨g1,g2,rfl⟩:=a9.form;have b0:Z (∀(b:World),Calls prog 93 #[.int .i64 K] b λm u=>m=.returned (.int .i64 (chan K))/\u=b):=λb=>fT K b A.k
 have d1:Z (∀(b:World) (P Q n:Nat) (b3:Int),P<=8->Q<=8->n<=16->Calls prog 156 #[.agg #[.int .i64 P,.int .i64 Q,.int .i64 b3],.int .i64 n] b λm u=>m=.returned (.int .i64 ((P+n*Q:Nat):Int))/\Kept b u):=λb P Q n b3 b4 g3 b5=>yz P Q n b3 b b4 g3 b5
 have g4:Z (∀(b:World) (f:Nat->Nat) (n q:Nat),LwB b x N cnt W H D K L o f abv->n*D/8<128->q<65536->Calls prog 157 #[.pointer (some ⟨x,0,none⟩),.int .i64 n,.int .i64 q] b λm u=>m=.returned (.tuple #[])/\LxB x N cnt W H D K L o (de D f n q) abv b u):=λb f n q a8 b4 b5=>Hz x N cnt W H D K L n q o f abv b a8 A b4 b5
 have g5:Z (1<=D):=by have:=A.d;show 1<=D;omega
 have b6:chan K*D<=64:=Xz (XF (@bI K).2 (show D<=16 by have:=A.d;omega)) Xh;have v:Kept w (w.alloc (Obj.cells #[.int .i64 f1,.int .i64 s1,.int .i64 b1,.int .i64 f2,.int .i64 e,.int .i64 b2] 146)):=Xw (Xs _ _) (E _) _;have d2:Z ((w.alloc (Obj.cells #[.int .i64 f1,.int .i64 s1,.int .i64 b1,.int .i64 f2,.int .i64 e,.int .i64 b2] 146)).there x 7 (zeroCells90).toList.length):=by
  intro n d3;rw[kM] at d3;have g6:=(h.kept v).rowc n d3;exact⟨by rw[g6];rfl,(h.kept v).fz _⟩
 have g7:(storeCells ⟨x,7,none⟩ (zeroCells90).toList).run prog (w.alloc (Obj.cells #[.int .i64 f1,.int .i64 s1,.int .i64 b1,.int .i64 f2,.int .i64 e,.int .i64 b2] 146))=.ok () ((w.alloc (Obj.cells #[.int .i64 f1,.int .i64 s1,.int .i64 b1,.int .i64 f2,.int .i64 e,.int .i64 b2] 146)).setCells x 7 (zeroCells90).toList):=bl d2.o (ia kM rK);have R:Z (LxB x N cnt W H D K L o (λ_=>0) abv w ((w.alloc (Obj.cells #[.int .i64 f1,.int .i64 s1,.int .i64 b1,.int .i64 f2,.int .i64 e,.int .i64 b2] 146)).setCells x 7 (zeroCells90).toList)):=⟨(h.kept v).lay _ (λ_=>0) kM oG (λ_=>O),Fr.setCells (S:=λa=>a=x) (Fr.of_kept v) (Or.inl rfl) _ _ (Fr.of_kept v),(YS x _ 7 _ ⟨x,5,none⟩ (λ_ _=>Or.inl (by show 5<7;omega))).trans (v.cell (p:=⟨x,5,none⟩) (Xq h.lt h.size))⟩;have j8:=Xq h.lt h.size;have C:∀a b7,#[Value.int .i64 f1,.int .i64 s1,.int .i64 b1,.int .i64 f2,.int .i64 e,.int .i64 b2][a]? = some b7->((w.alloc (Obj.cells #[.int .i64 f1,.int .i64 s1,.int .i64 b1,.int .i64 f2,.int .i64 e,.int .i64 b2] 146)).setCells x 7 (zeroCells90).toList).cell? ⟨w.heap.size,a,none⟩=some b7:=by
  intro a b7 g8;rw[YS x _ 7 _ ⟨w.heap.size,a,none⟩ (λb8 _=>by simp at b8;omega),Xr _ _ _ _ rfl];exact g8
 have T:=C 0 _ rfl;have a0:=C 1 _ rfl;have a1:=C 2 _ rfl;have b9:=C 3 _ rfl;have c0:=C 4 _ rfl;have c1:=C 5 _ rfl;have a2:=R.o.lw.c0;have g9:=R.o.lw.c3;have d4:Z _:=a9;have d5:Z _:=c8;have h0:Z _:=c9;clear h a9 c8 c9 C d2;replace v:Z _:=v;have d6:=@bI K;obtain⟨d,c2⟩:∃d,d=chan K:=⟨_,rfl⟩;rw[<-c2] at b0 d6 b6 F ⊢;obtain⟨j9,d7⟩:=d6;obtain⟨s,a3⟩:∃s:Nat->Nat,s=λc=>((f2+i*e)*W+(f1+c*s1))*d:=⟨_,rfl⟩
 have d8:Z (∀c,((f2+i*e)*W+(f1+c*s1))*d=s c):=λc=>by rw[a3]
 have h1:Z (∀c a,c<r->a<d->s c+a<pl.length):=λc a d9 e0=>by rw[a3];exact F c a d9 e0
 rw[<-a3];clear a3 F;have h2:Z (gQ D d pl s 0=λ_=>0):=rfl;have h3:Z (∀c,gQ D d pl s (c+1)=bE D pl (s c) (c*d) (gQ D d pl s c) d):=λ_=>rfl
 have h4:Z (∀j k f a,bE D pl j k f (a+1)=de D (bE D pl j k f a) (k+a) (pl.getD (j+a) 0).toNat):=λ_ _ _ _=>rfl
 have h5:Z (∀j k f,bE D pl j k f 0=f):=λ_ _ _=>rfl
 generalize gQ D d pl s=U at *;have h6:Z _:=b6;clear b6;replace c2:Z _:=c2;go_enter func132,ntmps132;go_wp2_with fail;generalize ((w.alloc (Obj.cells #[.int .i64 f1,.int .i64 s1,.int .i64 b1,.int .i64 f2,.int .i64 e,.int .i64 b2] 146)).setCells x 7 (zeroCells90).toList)=t at *;refine(b0.o _).mono ?_;rintro m t ⟨rfl,rfl⟩;have h7:f2+i*e<=136:=by
  have:=XF c7 c6
  omega
 have y:=λ(b:World)=>d1.o b f2 e i b2 g0 c6 c7
 have e1:Z _:=d8.o;generalize f2+i*e=f at *;replace y:Z _:=y;have h8:f*W<=2176:=Xz (XF h7 a8) Xh;have a4:(f:Int)*(W:Int)=((f*W:Nat):Int):=Xi;obtain⟨z,e2⟩:∃z,z=f*W:=⟨_,rfl⟩;rw[<-e2] at a4 h8 e1;clear d8;have k0:IntKind.i64.wrap ((f:Int)*(W:Int))=(z:Int):=by rw[a4,wrapN z O]
 replace a4:Z _:=a4;clear e2;have G:w.heap.size<t.heap.size:=B _ _ T;have h9:x<t.heap.size:=B _ _ a2;go_wp2_with fail;go_region_held3 (λb=>b.cell? ⟨w.heap.size,3,none⟩=some (.int .i64 f2)/\b.cell? ⟨w.heap.size,4,none⟩=some (.int .i64 e)/\b.cell? ⟨w.heap.size,5,none⟩=some (.int .i64 b2)/\b.cell? ⟨x,0,none⟩=some (.int .i64 W)) (first|exact⟨b9,c0,c1,a2⟩|exact e3|go_keep) ((go_at_call 156;refine X9 (y.o _) ?_;rintro m V ⟨rfl,I⟩;have e3:V.cell? ⟨w.heap.size,3,none⟩=some (.int .i64 f2)/\V.cell? ⟨w.heap.size,4,none⟩=some (.int .i64 e)/\V.cell? ⟨w.heap.size,5,none⟩=some (.int .i64 b2)/\V.cell? ⟨x,0,none⟩=some (.int .i64 W):=⟨(I.cell (p:=⟨w.heap.size,3,none⟩) G).trans b9,(I.cell (p:=⟨w.heap.size,4,none⟩) G).trans c0,(I.cell (p:=⟨w.heap.size,5,none⟩) G).trans c1,(I.cell (p:=⟨x,0,none⟩) h9).trans a2⟩))
 have e4:Z (LxB x N cnt W H D K L o (U 0) abv t V):=by rw[h2.o];exact((LxB.refl R.o.lw).drewN 1).kept I
 have i0:Z (∀b X,LxB x N cnt W H D K L o X abv t b->b.cell? ⟨w.heap.size,0,none⟩=some (.int .i64 f1)/\b.cell? ⟨w.heap.size,1,none⟩=some (.int .i64 s1)/\b.cell? ⟨w.heap.size,2,none⟩=some (.int .i64 b1)):=λb X l=>⟨(l.fr.cell G O).trans T,(l.fr.cell G O).trans a0,(l.fr.cell G O).trans a1⟩
 have i1:Z (∀b X,LxB x N cnt W H D K L o X abv t b->LAt b .i64 (.slice g1 pl.length g2) pl):=λb X l=>d4.o.fr (R.o.trans l).fr (λg i2 b8=>d5.o g i2 (Or.inl b8))
 clear I e3 T a0 a1 b9 c0 c1 a2 g9 d4 d5 v g7 y b0;go_wp2;go_loopw [12] (λq b=>∃c:Nat,c<=r/\q=.int .i64 c/\LxB x N cnt W H D K L o (U c) abv t b) (λq _=>r-(intOf q).toNat)
 case atStart=>exact⟨0,O,rfl,e4.o⟩
 case round=>
  obtain⟨c,k1,rfl,l⟩:=hrel;clear e4;by_cases i3:c<r
  .have i4:(c:Int)<(r:Int):=O
   obtain⟨T,a0,a1⟩:=i0.o wr _ l;have k2:f1+c*s1<=136:=by
    have:=XF (show c<=16 from O) c5
    omega
   have y:=λ(b:World)=>d1.o b f1 s1 c b1 f9 c5 O
   have e5:=e1.o c;have c3:∀a,a<d->s c+a<pl.length:=λa A=>h1.o c a i3 A
   have i5:Z (∀a,a<d->(c*d+a)*D/8<128):=λa A=>by
    have d9:c*d+a<16*d:=by
     have:(c+1)*d<=16*d:=XS _ O
     rw[YO] at this;omega
    have e0:(c*d+a)*D<=(16*d-1)*D:=XS _ O;have k3:(16*d-1)*D=16*(d*D)-D:=by rw[Nat.sub_mul,Y3,Zi]
    have k4:=h6.o;have i6:=g5.o;have k5:0<d*D:=Nat.mul_pos O i6;omega
   have e6:Z _:=h3.o c;obtain⟨e7,a5⟩:∃i7,i7=U (c+1):=⟨_,rfl⟩;rw[<-a5] at e6;replace a5:Z (e7=U (c+1)):=a5;generalize U c=Y at *;generalize f1+c*s1=a6 at *;replace y:Z _:=y;replace l:Z (LxB x N cnt W H D K L o Y abv t wr):=l;have i8:(z+a6)*d<=9248:=Xz (XF (show z+a6<=2312 from O) d7) Xh;have i9:((z:Int)+(a6:Int))*(d:Int)=(((z+a6)*d:Nat):Int):=Xi;rw[e5] at i8 i9;clear e5;generalize s c=j at *;replace c3:Z _:=c3;have k6:c*d<=64:=Xz (XF (show c<=16 from O) d7) Xh;have k7:(c:Int)*(d:Int)=((c*d:Nat):Int):=Xi;generalize c*d=k at *;go_wp2_with fail;refine X9 (y.o _) ?_;rintro m j0 ⟨rfl,e8⟩;have e9:Z (LxB x N cnt W H D K L o (bE D pl j k Y 0) abv t j0):=by rw[h5.o];exact l.o.kept e8
   clear e8 T a0 a1 l y;go_wp2;go_loopw [14] (λq b=>∃a:Nat,a<=d/\q=.int .i64 a/\LxB x N cnt W H D K L o (bE D pl j k Y a) abv t b) (λq _=>d-(intOf q).toNat)
   case atStart=>exact⟨0,O,rfl,e9.o⟩
   case round=>
    obtain⟨a,k8,rfl,J⟩:=hrel;clear e9;by_cases f0:a<d
    .have j1:(a:Int)<(d:Int):=O
     have k9:(0:Int)<=(j:Int)+(a:Int):=O;have F:=c3.o a f0;have l0:(j:Int)+(a:Int)<(pl.length:Int):=O;obtain⟨g,l1,rfl,j2⟩:=(i1.o wr _ J).cellAt (j+a) F;have f3:=h0.o _ (az F);have a7:Z _:=h4.o j k Y a;obtain⟨M,f4⟩:∃M:Nat,pl.getD (j+a) 0=(M:Int):=⟨(pl.getD (j+a) 0).toNat,O⟩;rw[f4] at j2 f3 a7;rw[YQ] at a7;have j3:M<65536:=O;clear f3 f4;have f5:Z (Calls prog 157 #[.pointer (some ⟨x,0,none⟩),.int .i64 ((k:Int)+(a:Int)),.int .i64 M] wr λm u=>m=.returned (.tuple #[])/\LxB x N cnt W H D K L o (de D (bE D pl j k Y a) (k+a) M) abv wr u):=by
      have f6:=g4.o wr _ (k+a) M J.lw (i5.o a f0) j3;rw[show((k+a:Nat):Int)=(k:Int)+(a:Int) from O] at f6;exact f6
     rw[<-a7.o] at f5;have c4:Z _:=J;clear J a7;go_wp2_with fail;refine f5.o.mono ?_;rintro m l2 ⟨rfl,f7⟩;have j4:Z _:=c4.o.trans f7;clear f7;go_wp2;exact⟨⟨a+1,O,Xj,j4.o⟩,Xb⟩
    .have j1:¬(a:Int)<(d:Int):=O
     have f8:a=d:=O;have c4:Z (LxB x N cnt W H D K L o e7 abv t wr):=by rw[e6.o,<-f8];exact J
     clear J f8;go_wp2;exact⟨⟨c+1,O,Xj,by rw[<-a5.o];exact c4.o⟩,Xb⟩
  .have i4:¬(c:Int)<(r:Int):=O
   have j5:c=r:=O;subst j5;replace l:Z _:=l;go_wp2;go_end0
   exact⟨rfl,R.o.trans l.o⟩
end Go.Proofs.YtbedkdnphobmlaaGreatDoor
namespace Go.Proofs.YtbedkdnphobmlaaGreatDoor
open Go.RowKit Tryz
structure LS (w:World) (x:Nat) (S:Nat->Prop):Prop where
 sx:S x
 new:∀g,w.heap.size<=g->S g
 own:∀ov g,w.cell? ⟨x,5,none⟩=some ov->ov.ownBlock=some g->S g
theorem LS.kept{w w':World}{x:Nat}{S:Nat->Prop}(h:LS w x S)(k:Kept w w')(hx:x<w.heap.size):LS w' x S:=⟨h.sx,λg hg=>h.new g (Nat.le_trans k.size hg),λov g h1 h2=>h.own ov g ((k.cell (p:=⟨x,5,none⟩) hx).symm.trans h1) h2⟩
end Go.Proofs.YtbedkdnphobmlaaGreatDoor
namespace Go.Proofs.YtbedkdnphobmlaaGreatDoor
open Go.RowKit Px Tryz
theorem LS.lxb{w w' x N cnt W H D K L o row abv}{S:Nat->Prop}(h:LS w x S)(k:LxB x N cnt W H D K L o row abv w w'):LS w' x S:=⟨h.sx,λa b=>h.new a (Xz k.fr.size b),λc a d e=>h.own c a (k.c5.symm.trans d) e⟩
structure eI (x N cnt W H D K L:Nat) (o:List Int) (row abv:Nat->Nat) (S:Nat->Prop) (w w':World):Prop where
 lw:LwB w' x N cnt W H D K L o row abv
 fr:Fr S w w'
 ls:LS w' x S
theorem eI.trans{x N cnt cnt' W H D K L o o' row abv row' abv'}{S:Nat->Prop}{a b c}(h:eI x N cnt W H D K L o row abv S a b)(k:eI x N cnt' W H D K L o' row' abv' S b c):eI x N cnt' W H D K L o' row' abv' S a c:=⟨k.lw,h.fr.trans k.fr,k.ls⟩
theorem eI.kept{x N cnt W H D K L o row abv}{S:Nat->Prop}{a b c}(h:eI x N cnt W H D K L o row abv S a b)(k:Kept b c):eI x N cnt W H D K L o row abv S a c:=⟨h.lw.kept k,h.fr.kept k,h.ls.kept k (Xq h.lw.lt h.lw.size)⟩
theorem eI.drewN{x N cnt W H D K L o row abv}{S:Nat->Prop}{a b}(h:eI x N cnt W H D K L o row abv S a b)k:eI x N cnt W H D K L o row abv S a (b.drewN k):=h.kept ((Kept.refl _).drewN k)
theorem eI.lxb{x N cnt c' W H D K L o o' row abv row' abv'}{S:Nat->Prop}{a b c}(h:eI x N cnt W H D K L o row abv S a b)(k:LxB x N c' W H D K L o' row' abv' b c):eI x N c' W H D K L o' row' abv' S a c:=⟨k.lw,h.fr.trans (k.fr.mono (λe _ d=>by rw[d];exact h.ls.sx)),h.ls.lxb k⟩
theorem LwB.grow{w w2 x N cnt W H D K L o o' row abv}{S:Nat->Prop}(h:LwB w x N cnt W H D K L o row abv)(c:LS w x S)ov v'(i:w.cell? ⟨x,5,none⟩=some ov)(r:bg w N ov o)(d:Fr (λk=>ov.ownBlock=some k) w w2)(s:bg w2 N v' o')(t:∀k,v'.ownBlock=some k->ov.ownBlock=some k\/w.heap.size<=k):eI x N cnt W H D K L o' row abv S w (w2.setCell ⟨x,5,none⟩ v'):=by
 obtain⟨n,u,v,y,z,A,B,C,_,E,F,G,I,J⟩:=h;have j:x<w.heap.size:=O;have l:¬ov.ownBlock=some x:=λa=>by have:=r.ge x a;omega
 have a:∀b,b≠5->(w2.setCell ⟨x,5,none⟩ v').cell? ⟨x,b,none⟩=w.cell? ⟨x,b,none⟩:=λb e=>(aa _ _ _ _ _ (λa=>e a.symm)).trans (d.cell j l)
 have p:=(d.cell (k:=5) j l).trans i;have q:(w2.setCell ⟨x,5,none⟩ v').heap.size=w2.heap.size:=by simp[World.setCell]
 refine⟨⟨n,by rw[q];exact Xz u d.size,λk=>by rw[Xy];exact(d.frozen j l).trans (v k),(a 0 O).trans y,(a 1 O).trans z,(a 2 O).trans A,(a 3 O).trans B,(a 4 O).trans C,⟨v',af p _,s.set n _ _⟩,(a 6 O).trans E,λb e=>(a _ O).trans (F b e),λb e=>(a _ O).trans (G b e),I,J⟩,?_,?_⟩
 .exact Fr.setCell (S:=S) (d.mono (λM _ a=>c.own ov M i a)) (Or.inl c.sx) _ _
 .refine⟨c.sx,λf P=>c.new f (by rw[q] at P;have:=d.size;omega),λR f g Q => ?_⟩
  rw[af p] at g
  injection g with g
  subst g;rcases t f Q with m|m
  .exact c.own ov f i m
  .exact c.new f m
def uN(K D f:Nat)(row abv:Nat->Nat)(i:Nat):Int:=(((row i+256-jk K D f row abv i)%256:Nat):Int)
def ez(K D f size:Nat)(row abv:Nat->Nat):List Int:=(f:Int)::(List.range size).map (uN K D f row abv)
theorem yw K D f i row abv:ez K D f (i+1) row abv=ez K D f i row abv++[uN K D f row abv i]:=by
 unfold ez;rw[List.range_succ,Zf];rfl
theorem su K D f i row abv:(ez K D f i row abv).length=1+i:=by unfold ez;simp;omega
theorem xr{K D f i row abv}(c:∀a,row a<256)(b:∀a,abv a<256):jk K D f row abv i<256:=by
 unfold jk;apply Bb
 .split;exact c _;omega
 .exact b _
 .split;exact b _;omega
theorem tW(x N j l H D K L f i:Nat)o row abv w(h:LwB w x N j l H D K L o row abv)(n:ax K D)(d4:f<=4)(f1:i<=128)(d5:o.length<=1048576)(S:Nat->Prop)(a7:LS w x S):Calls prog 133 #[.pointer (some ⟨x,0,none⟩),.int .u8 f,.int .i64 i] w λu G=>u=.returned (.tuple #[])/\eI x N j l H D K L (o++ez K D f i row abv) row abv S w G:=by
 obtain⟨c,I⟩:∃c,o.length=c:=⟨_,rfl⟩;rw[I] at d5;have v:Z _:=I;clear I;have d6:Z ((o++[(f:Int)]).length=c+1):=by show(o++[(f:Int)]).length=c+1;rw[Xv,v.o];rfl
 have a8:Z (∀a,(o++ez K D f a row abv).length=c+1+a):=λa=>by rw[Xv,v.o,su];omega
 have d7:Z (o++[(f:Int)]=o++ez K D f 0 row abv):=rfl;obtain⟨f2,J,M⟩:=h.o;obtain⟨a9,b0,rfl⟩:=M.slice' v.o;have q:=h.fz 5;have f3:=h.lt;have f4:=h.size;have b1:x<w.heap.size:=O;have b2:Z _:=h;have y:=U M;have P:¬(Value.slice a9 c b0).ownBlock=some x:=λQ=>by have:=y.o.ge x Q;omega
 have d8:Z _:=a7;clear h M a7;have b3:Z ((w.alloc (Obj.cells #[Value.int .u8 f] 5)).cell? ⟨w.heap.size,0,none⟩=some (.int .u8 f)):=by show _=_;rw[Xr _ _ _ _ rfl];rfl
 go_enter func133,ntmps133;go_wp2_with (at_builtin;refine ki _ rfl _ _ rfl N (.slice a9 c b0) o rfl (y.o.alloc _) w.heap.size 0 1 1 [(f:Int)] rfl rfl O (by intro d9 r;simp at r;subst r;omega) (by intro T V;match T,V with|0,_=>exact b3.o) (by rw[v.o];omega) Xf ?_)
 intro f5 e0 z b4 b5;obtain⟨e1,e2,rfl⟩:=z.slice' d6.o;rw[d7.o] at z;have g:=((Fr.refl _ w).alloc _).trans b4;have b6:=(g.cell (k:=5) b1 P).trans J;have b7:=(g.frozen (k:=5) b1 P).trans q;have b8:Z _:=b2.o.grow d8.o _ _ J y.o g z (λW n=>by rcases b5 W n with e|e;exact Or.inl e;exact R (by first|omega|(simp at e;omega)));clear b4 z g b5;go_wp2;generalize e0.setCell ⟨x,5,none⟩ (.slice e1 (c+1) e2)=f6 at *;go_loopw [6] (λX d=>∃a:Nat,a<=i/\X=.int .i64 a/\eI x N j l H D K L (o++ez K D f a row abv) row abv S w d) (λX _=>i-(intOf X).toNat)
 case atStart=>exact⟨0,O,rfl,b8.o⟩
 case round=>
  obtain⟨a,b9,rfl,b⟩:=hrel;clear b8 J q P y b2 b3 b6 b7;by_cases f7:a<i
  .have f8:(0:Int)<=(a:Int):=O
   have e3:(a:Int)<(i:Int):=O;have f9:(a:Int)<128:=O;have A:=b.lw.rowc a O;have e4:=b.lw.rb a;have g0:jk K D f row abv a<256:=xr b.lw.rb b.lw.ab;have c0:Z (∀d,Kept wr d->Calls prog 158 #[.pointer (some ⟨x,0,none⟩),.int .u8 f,.int .i64 a] d λu G=>u=.returned (.int .u8 (jk K D f row abv a))/\Kept d G):=λd e5=>(λd e6 a b b9=>DS x N j l H D K L f a e6 row abv d b n d4 b9) d _ a (b.lw.kept e5) O
   have Y:Z (uN K D f row abv a=(((row a+256-jk K D f row abv a)%256:Nat):Int)):=rfl;have a0:Z (o++ez K D f (a+1) row abv=o++ez K D f a row abv++[uN K D f row abv a]):=by show o++ez K D f (a+1) row abv=_;rw[yw,XY]
   have a1:Z _:=a8.o a;have c1:Z ((o++ez K D f (a+1) row abv).length=c+1+a+1):=by show(o++ez K D f (a+1) row abv).length=_;rw[a8.o (a+1)];omega
   generalize uN K D f row abv a=c2 at *;generalize jk K D f row abv a=e at *;obtain⟨s,c3⟩:∃s,s=row a:=⟨_,rfl⟩;rw[<-c3] at A e4 Y;clear c3;obtain⟨c4,C⟩:∃c4,c4=o++ez K D f (a+1) row abv:=⟨_,rfl⟩;rw[<-C] at a0 c1;replace C:Z _:=C;obtain⟨E,c5⟩:∃E,E=o++ez K D f a row abv:=⟨_,rfl⟩;rw[<-c5] at a0 a1 b;clear c5;have e7:=B _ _ A;replace b:Z (eI x N j l H D K L E row abv S w wr):=b;go_wp2_with fail;go_region_held3 (λd=>d.cell? ⟨x,7+a,none⟩=some (.int .u8 s)) (first|exact A|exact c6|go_keep) ((go_at_call 158;refine(c0.o _ (by exact(Kept.refl _).drewN 1)).mono ?_;rintro u t ⟨rfl,a2⟩;have c6:=(a2.cell (p:=⟨x,7+a,none⟩) e7).trans A))
   have m:Z _:=(b.o.drewN 1).kept a2;obtain⟨g1,c7,a3⟩:=m.o.lw.o;obtain⟨c8,c9,rfl⟩:=a3.slice' a1.o;have g2:=m.o.lw.size;have a4:=U a3;have d0:¬(Value.slice c8 (c+1+a) c9).ownBlock=some x:=λQ=>by have:=a4.o.ge x Q;omega
   have d1:x<t.heap.size:=O;clear a3 a2 c6 b c0;have a5:IntKind.u8.wrap ((s:Int)-(e:Int))=c2:=by rw[IntKind.wrap_u8,Y.o];omega
   have e8:=bounds_u8 (wf_wrap .u8 ((s:Int)-(e:Int)));rw[a5] at e8;rw[a5];clear a5 Y;generalize c2=a6 at *;have e9:Z ((t.alloc (Obj.cells #[Value.int .u8 a6] 5)).cell? ⟨t.heap.size,0,none⟩=some (.int .u8 a6)):=by show _=_;rw[Xr _ _ _ _ rfl];rfl
   go_wp2_with (at_builtin;refine ki _ rfl _ _ rfl N (.slice c8 (c+1+a) c9) E rfl (a4.o.alloc _) t.heap.size 0 1 1 [a6] rfl rfl O (by intro d9 r;simp at r;subst r;omega) (by intro T V;match T,V with|0,_=>exact e9.o) (by rw[a1.o];omega) Xf ?_)
   intro g3 g4 F q d2;rw[<-a0.o] at F;obtain⟨g5,g6,rfl⟩:=F.slice' c1.o;have g:=((Fr.refl _ t).alloc _).trans q;have b6:=(g.cell (k:=5) d1 d0).trans c7;have b7:=(g.frozen (k:=5) d1 d0).trans (m.o.lw.fz 5);have d3:Z _:=m.o.trans (m.o.lw.grow m.o.ls _ _ c7 a4.o g F (λW n=>by rcases d2 W n with e|e;exact Or.inl e;exact R (by first|omega|(simp at e;omega))));rw[C.o] at d3;clear q F g d2;go_wp2;exact⟨⟨a+1,O,Xj,d3.o⟩,Xb⟩
  .have f0:a=i:=O
   subst f0;have e3:¬(a:Int)<(a:Int):=O;replace b:Z (eI x N j l H D K L (o++ez K D f a row abv) row abv S w wr):=b;go_wp2;go_end0
   exact⟨rfl,b.o⟩
end Go.Proofs.YtbedkdnphobmlaaGreatDoor
namespace Go.Proofs.YtbedkdnphobmlaaGreatDoor
open Go.RowKit Tryz
theorem ks{f s n:Nat}(hn:n<=16):within f s n<=16:=by
 unfold within;split
 .omega
 .have:(n-f-1)/s<=n-f-1:=Nat.div_le_self _ _
  omega
