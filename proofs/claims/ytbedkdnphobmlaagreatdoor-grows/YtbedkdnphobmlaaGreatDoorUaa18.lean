import Derived.Test.YtbedkdnphobmlaaGreatDoorProg
import Derived.Test.YtbedkdnphobmlaaGreatDoorUaa00
import Derived.Test.YtbedkdnphobmlaaGreatDoorUaa01
import Derived.Test.YtbedkdnphobmlaaGreatDoorUaa03
import Derived.Test.YtbedkdnphobmlaaGreatDoorUaa04
import Derived.Test.YtbedkdnphobmlaaGreatDoorUaa05
import Derived.Test.YtbedkdnphobmlaaGreatDoorUaa09
import Derived.Test.YtbedkdnphobmlaaGreatDoorUaa12
import Derived.Test.YtbedkdnphobmlaaGreatDoorUaa15
import Derived.Test.YtbedkdnphobmlaaGreatDoorUaa17
set_option linter.all false
set_option maxRecDepth 100000
set_option maxHeartbeats 0
namespace Go.Proofs.YtbedkdnphobmlaaGreatDoor
open Go.RowKit Px Tryz
def aj(s:ByteArray):List Nat:=s.data.toList.map UInt8.toNat
theorem aF s:(aj s).length=s.size:=by unfold aj;simp
theorem kh s k(h:k<s.size):(aj s)[k]'(by rw[aF];exact h)=s[k].toNat:=by
 unfold aj;simp;rfl
theorem dG s:∀b∈aj s,b<256:=by
 intro b a;unfold aj at a;rw[YP] at a;obtain⟨c,_,rfl⟩:=a;exact c.toNat_lt
theorem take_snoc' s k(h:k<s.size):(aj s).take (k+1)=(aj s).take k++[s[k].toNat]:=by
 rw[XM (by rw[aF];exact h),kh s k h]
def Dc.one(d:Dc)(x:Nat):Dc:=if d.err≠0 then d else if(d.file.take x).2≠0 then {d with file:=(d.file.take x).1,err:=(d.file.take x).2,at1:=d.count} else {d with file:=(d.file.take x).1,count:=d.count+1}
def Dc.feed(d:Dc)(l:List Nat):Dc:=l.foldl Dc.one d
theorem pg(d:Dc)l x:d.feed (l++[x])=(d.feed l).one x:=by unfold Dc.feed;rw[Yk];rfl
theorem dx(d:Dc)l m:d.feed (l++m)=(d.feed l).feed m:=by unfold Dc.feed;rw[Yk]
theorem dw{d:Dc}(h:d.err≠0):∀a,d.feed a=d
 | []=>rfl
 | x::a=>by
  show Dc.feed (d.one x) a=d
  rw[show d.one x=d from by unfold Dc.one;rw[I h]];exact dw h a
def gO(b n:Nat)(d':Dc)(w w':World):Prop:=∃e,Blk w' b n e/\DcV e 0 d'/\Fr1 b w w'
theorem aR.dc{b n c D S w w1 w'}(h:DcV c 0 D)(a:Fr1 b w w1)(k:aR b 0 n c S w1 w'):gO b n {D with file:=S} w w':=by
 obtain⟨d,e,f,g,i⟩:=k;exact⟨d,e,h.set_file S f (λj l=>g.o j O),a.trans i⟩
def bm(d:Dc)(l:List Nat):Prop:=∀k x,l[k]? = some x->(d.feed (l.take k)).err=0->cB (d.feed (l.take k)).file x/\(d.feed (l.take k)).count<=4294967296
theorem Bn(b n e:Nat)c D w(a:Blk w b n c)(d:DcV c 0 D)(l:5957<=n):Calls prog 40 #[.pointer (some ⟨b,0,none⟩),.int .i64 e] w λf g=>f=.returned (.tuple #[])/\gO b n {D with err:=e,at1:=D.count} w g:=by
 have m:=a.at (i:=5954) O d.count;have o:=a.at (i:=5955) O d.err;have p:=a.at (i:=5956) O d.at1;have q:=a.fz;have h:Z _:=a;have j:Z _:=d;clear a d;go_enter func40,ntmps40;go_wp2;go_end0
 exact⟨rfl,_,(h.o.set (k:=5955) O _).set (k:=5956) O _,(j.o.set_err e).set_at1 D.count,Fr1.set (Fr1.set (Fr.refl _ _) _ _) _ _⟩
theorem nK b n t c d w(J:Blk w b n c)(K:DcV c 0 d)(b7:5957<=n)(L:bm d (aj t))(d4:t.size<=2147483648)(M:bw w)(P:NT b):Calls prog 22 #[.pointer (some ⟨b,0,none⟩),.string t] w λo y=>o=.returned (.tuple #[.int .i64 ((d.feed (aj t)).err:Int),.int .i64 ((d.feed (aj t)).at1:Int)])/\gO b n (d.feed (aj t)) w y:=by
 have b8:Z (∀f,Fr1 b w f->bw f):=λf b9=>M.fr b9 P
 have c0:=U L;have Q:Z (gO b n (d.feed ((aj t).take 0)) w w):=⟨c,J,K,Fr.refl _ _⟩;clear J K L M;go_enter func22,ntmps22;go_wp2_with fail;go_loopg [6,7] t.size (λc1 c2 d5 f=>∃a:Nat,c1=t.size-a/\a<=t.size/\c2=.int .i64 a/\gO b n (d.feed ((aj t).take a)) w f)
 case atStart=>exact⟨0,O,O,rfl,Q.o⟩
 case round=>
  obtain⟨a,z,d6,rfl,o,R,S,T⟩:=hrel;replace z:Z _:=z;clear Q;have h:Z _:=R;have g:Z _:=S;have p:Z _:=T;clear R S T;by_cases V:a<t.size
  .have A:Z (d.feed ((aj t).take (a+1))=(d.feed ((aj t).take a)).one t[a].toNat):=by
    show d.feed ((aj t).take (a+1))=_
    rw[take_snoc' t a V,pg]
   have c3:(a:Int)<(t.size:Int):=O;have q:=c0.o a t[a].toNat (by rw[<-kh t a V];exact Xt _);have W:Z (d.feed (aj t)=(d.feed ((aj t).take a)).feed ((aj t).drop a)):=by show d.feed (aj t)=_;rw[<-dx,X7]
   have c4:Z (d.feed (aj t)=(d.feed ((aj t).take (a+1))).feed ((aj t).drop (a+1))):=by show d.feed (aj t)=_;rw[<-dx,X7]
   obtain⟨e,X⟩:∃e,e=d.feed ((aj t).take a):=⟨_,rfl⟩;rw[<-X] at g A q W;clear X;have Y:=h.o.at (i:=5955) O g.o.err;replace q:Z _:=q;by_cases l:e.err=0
   .have c5:((e.err:Int)==0)=true:=by rw[XI];omega
    obtain⟨a0,d7⟩:=q.o l;have B:Z (∀f,Kept wr f->Calls prog 39 #[.pointer (some ⟨b,0,none⟩),.int .u8 (t[a].toNat:Int)] f λC y=>C=.returned (.int .i64 ((e.file.take t[a].toNat).2:Int))/\aR b 0 n o (e.file.take t[a].toNat).1 f y):=λf a1=>Ac b 0 n _ o e.file f (h.o.kept a1) g.o.file O (t[a].toNat_lt) a0 (b8.o _ (p.o.kept a1)) P
    have D:Z (e.one t[a].toNat=if(e.file.take t[a].toNat).2≠0 then {e with file:=(e.file.take t[a].toNat).1,err:=(e.file.take t[a].toNat).2,at1:=e.count} else {e with file:=(e.file.take t[a].toNat).1,count:=e.count+1}):=by show e.one t[a].toNat=_;unfold Dc.one;rw[N (λE=>E l)]
    replace l:Z _:=l;clear a0 q;obtain⟨j,a2⟩:∃j,j=(e.file.take t[a].toNat).2:=⟨_,rfl⟩;obtain⟨r,a3⟩:∃r,r=(e.file.take t[a].toNat).1:=⟨_,rfl⟩;rw[<-a2,<-a3] at B D;clear a2 a3;go_wp2_with fail;go_region_held3 (λf=>True) (trivial) ((go_at_call 39;refine(B.o _ ((Kept.refl _).drewN 1)).mono ?_;rintro C a4 ⟨rfl,a5⟩))
    obtain⟨c6,u,G,a6⟩:=aR.dc g.o (Fr1.drewN (Fr.refl _ _) 1) a5;have a7:Z _:=u;have a8:Z _:=G;have a9:Z _:=p.o.trans a6;have b0:=u.at (i:=5954) O G.count;have d8:=u.fz 5954;replace b0:a4.cell? ⟨b,5954,none⟩=some (.int .i64 e.count):=b0;clear u G a6 a5 B h g p Y;by_cases m:j=0
    .have c7:((j:Int)!=0)=false:=by rw[Xx];omega
     obtain⟨s,b1⟩:∃s,s=e.count+1:=⟨_,rfl⟩;have d9:(e.count:Int)+1=(s:Int):=O;have c8:Z (e.one t[a].toNat={e with file:=r,count:=s}):=by show e.one t[a].toNat=_;rw[D.o,N (λE=>E m),b1]
     replace m:Z _:=m;clear b1;go_wp2_with fail;go_roundg (t.size-(a+1))
     case measure=>rw[z.o];omega
     case rel=>
      refine⟨a+1,rfl,O,Xj,?_⟩;rw[A.o,c8.o];exact⟨_,a7.o.set (k:=5954) O _,a8.o.set_count s,Fr1.set a9.o _ _⟩
    .have c7:((j:Int)!=0)=true:=by rw[XJ];omega
     have H:Z (d.feed (aj t)={e with file:=r,err:=j,at1:=e.count}):=by
      show d.feed (aj t)=_
      rw[c4.o,A.o,D.o,I m,dw m]
     replace m:Z _:=m;go_wp2_with fail;refine(Bn b n j c6 {e with file:=r} a4 a7.o a8.o b7).mono ?_;rintro C b2 ⟨rfl,c9,v,x,b3⟩;have b4:=v.at (i:=5955) O x.err;have b5:=v.at (i:=5956) O x.at1;replace b4:b2.cell? ⟨b,5955,none⟩=some (.int .i64 j):=b4;replace b5:b2.cell? ⟨b,5956,none⟩=some (.int .i64 e.count):=b5;have d0:Z _:=v;have d1:Z _:=x;have d2:Z _:=a9.o.trans b3;clear v x b3;go_wp2_with fail;go_quiet (fail);go_wp2_with fail;go_ret2;rw[H.o];exact⟨rfl,c9,d0.o.kept ((Kept.refl _).drewN _),d1.o,d2.o.kept ((Kept.refl _).drewN _)⟩
   .have c5:((e.err:Int)==0)=false:=by rw[F];omega
    have H:Z (d.feed (aj t)=e):=by show d.feed (aj t)=e;rw[W.o,dw l]
    have d3:=h.o.at (i:=5956) O g.o.at1;replace l:Z _:=l;go_wp2_with fail;go_quiet (fail);go_wp2_with fail;go_ret2;rw[H.o];exact⟨rfl,o,h.o.kept ((Kept.refl _).drewN _),g.o,p.o.kept ((Kept.refl _).drewN _)⟩
  .have c3:¬(a:Int)<(t.size:Int):=O
   have b6:(aj t).take a=aj t:=X6 (by rw[aF];omega);rw[b6] at g;have Y:=h.o.at (i:=5955) O g.o.err;have d3:=h.o.at (i:=5956) O g.o.at1;clear b6;go_wp2_with fail;go_quiet (fail);go_wp2_with fail;go_ret2;exact⟨rfl,o,h.o.kept ((Kept.refl _).drewN _),g.o,p.o.kept ((Kept.refl _).drewN _)⟩
def hd0:Hd:=⟨0,0,0,0,0⟩
def rwN:Rw:=⟨hd0,0,0,0,0,0,0,0,0,λ_=>0,λ_=>0,λ_=>false,λ_=>0⟩
def tl0:Tl:=⟨λ_=>0,λ_=>0,0,0⟩
def rd0:Rd:=⟨0,0,0,0,0,0,hd0,λ_=>0,tl0,st0 0,rwN,false,false,false,false⟩
def dc0:Dc:=⟨rd0,0,0,0⟩
def dcA:List Value:=[.int .i64 0,.int .u32 0,.int .u32 0,.int .u32 0,.int .u32 0,.int .u32 0,.int .i64 0,.int .i64 0,.int .i64 0,.int .i64 0,.int .i64 0]
def dcB:List Value:=List.replicate 1037 (.int .u8 0)
def dcC:List Value:=[.int .i64 0,.int .i64 0]
def dcD:List Value:=stH++(stT++[.int .i64 0,.int .u32 0])
def dcE:List Value:=List.replicate 12 (.int .i64 0)++fC
def dcF:List Value:=[.bool false,.bool false,.bool false,.bool false,.int .i64 0,.int .i64 0,.int .i64 0]
theorem rL:zeroCells100.toList=dcA++(dcB++(dcC++(dcD++(dcE++dcF)))):=Xk
theorem lQ:dcD.length=3351:=by
 unfold dcD;rw[Xv,Xv,iI,show stH.length=10 from rfl];simp only[Yj,List.length_nil]
theorem rh:dcE.length=1549:=by unfold dcE;rw[Xv,mJ,XE]
theorem jW:dcB.length=1037:=XE ..
theorem z2:zeroCells100.size=5957:=by
 rw[<-Array.length_toList,rL,Xv,Xv,Xv,Xv,Xv,jW,lQ,rh,show dcA.length=11 from rfl,show dcC.length=2 from rfl,show dcF.length=7 from rfl]
theorem IP:RwV (λj=>dcE.getD j undef) 0 rwN:=by
 have f:(List.replicate 12 (Value.int .i64 0)).length=12:=XE ..;have b:∀a,a<12->dcE.getD a undef=.int .i64 0:=λa c=>df _ _ _ _ c
 have d:∀a j e,a=12+j->fC.getD j undef=e->dcE.getD a undef=e:=λa j e c g=>by rw[c];exact(ay _ _ 12 j f).trans g
 exact⟨⟨b 0 O,b 1 O,b 2 O,b 3 O,b 4 O⟩,b 5 O,b 6 O,b 7 O,b 8 O,b 9 O,b 10 O,b 11 O,d 12 0 _ rfl (fm 0 O),λa c=>d _ (1+a) _ O (fm _ O),λa c=>d _ (129+a) _ O (fm _ O),λa c=>d _ (257+a) _ O (oN _ c),λa c=>d _ (257+(256+a)) _ O (mI _ c)⟩
theorem I9:DcV (λi=>zeroCells100.getD i undef) 0 dc0:=by
 obtain⟨b,e⟩:∃b,b=zeroCells100.toList:=⟨_,rfl⟩;have o:∀i,zeroCells100.getD i undef=b.getD i undef:=λi=>by
  rw[e,Ys,G,Array.getElem?_toList]
 rw[rL] at e;rw[(funext o)];have h:dcA.length=11:=rfl;have f:dcC.length=2:=rfl;have c:∀i d,i<11->dcA.getD i undef=d->b.getD i undef=d:=λi d l j=>by rw[e];exact(dX _ _ i (by rw[h];exact l)).trans j
 have m:∀i,11<=i->i<1048->b.getD i undef=.int .u8 0:=λi p f=>by
  rw[e,show i=11+(i-11) from O];exact(ay _ _ 11 _ h).trans (df _ _ _ _ O)
 have q:∀a d,a<2->dcC.getD a undef=d->b.getD (1048+a) undef=d:=λa d k j=>by
  rw[e,show 1048+a=11+(1037+a) from O];exact(ay _ _ 11 _ h).trans ((ay _ _ 1037 _ jW).trans ((dX _ _ a (by rw[f];exact k)).trans j))
 have r:∀a,a<3351->b.getD (1050+a) undef=dcD.getD a undef:=λa k=>by
  rw[e,show 1050+a=11+(1037+(2+a)) from O];exact(ay _ _ 11 _ h).trans ((ay _ _ 1037 _ jW).trans ((ay _ _ 2 _ f).trans (dX _ _ a (by rw[lQ];exact k))))
 have s:∀a,a<1549->b.getD (4401+a) undef=dcE.getD a undef:=λa k=>by
  rw[e,show 4401+a=11+(1037+(2+(3351+a))) from O];exact(ay _ _ 11 _ h).trans ((ay _ _ 1037 _ jW).trans ((ay _ _ 2 _ f).trans ((ay _ _ 3351 _ lQ).trans (dX _ _ a (by rw[rh];exact k)))))
 have g:∀a d,dcF.getD a undef=d->b.getD (5950+a) undef=d:=λa d j=>by
  rw[e,show 5950+a=11+(1037+(2+(3351+(1549+a)))) from O];exact(ay _ _ 11 _ h).trans ((ay _ _ 1037 _ jW).trans ((ay _ _ 2 _ f).trans ((ay _ _ 3351 _ lQ).trans ((ay _ _ 1549 _ rh).trans j))))
 clear e o;have t:StV (λi=>b.getD i undef) 1050 (st0 0):=by
  have n:=(zU 0).shift (λi=>b.getD i undef) 1050;exact n.congr (λi p f=>by
   obtain⟨a,rfl⟩:∃a,i=1050+a:=⟨i-1050,O⟩;show b.getD (1050+a) undef=_
   rw[dA O,r a O]
   rfl)
 have u:RwV (λi=>b.getD i undef) 4401 rwN:=by
  have n:=IP.shift (λi=>b.getD i undef) 4401;exact n.congr (λi p f=>by
   obtain⟨a,rfl⟩:∃a,i=4401+a:=⟨i-4401,O⟩;show b.getD (4401+a) undef=_
   rw[dA O,s a O])
 refine⟨⟨c 0 _ O rfl,c 1 _ O rfl,c 2 _ O rfl,c 3 _ O rfl,c 4 _ O rfl,c 5 _ O rfl,⟨c 6 _ O rfl,c 7 _ O rfl,c 8 _ O rfl,c 9 _ O rfl,c 10 _ O rfl⟩,λi l=>m _ O O,⟨λi l=>m _ O O,λi l=>m _ O O,q 0 _ O rfl,q 1 _ O rfl⟩,?_,?_,g 0 _ rfl,g 1 _ rfl,g 2 _ rfl,g 3 _ rfl⟩,g 4 _ rfl,g 5 _ rfl,g 6 _ rfl⟩
 .exact t
 .exact u
theorem Ay w:Calls prog 21 #[] w λd b=>d=.returned (.pointer (some ⟨w.heap.size,0,none⟩))/\∃c,Blk b w.heap.size 5957 c/\DcV c 0 dc0/\Kept w b:=by
 have a:=Blk.new w zeroCells100 100 5957 z2;replace a:Z _:=a;go_enter func21,ntmps21;go_wp2;go_ret;exact⟨rfl,_,a.o,I9,Xw (Xs _ _) (E _) _⟩
theorem hO(b d n x y:Nat)c r w(h:Blk w b n c)(j:RwV c d r)(t:d+1549<=n)(k:x<16)(l:y<16):Calls prog 88 #[.pointer (some ⟨b,d,none⟩),.int .i64 x,.int .i64 y] w λe g=>e=.returned (.bool (r.known (y*16+x)))/\∃p,g=w.drewN p:=by
 have m:Z (∀f,Calls prog 125 #[.int .i64 x,.int .i64 y] f λe g=>e=.returned (.tuple #[.int .i64 ((y*16+x:Nat):Int),.bool true])/\g=f):=λf=>by
  have:=qR x y f O O
  rw[I ⟨k,l⟩,K (⟨k,l⟩:x<16/\y<16)] at this;exact this
 obtain⟨a,o⟩:∃a,a=y*16+x:=⟨_,rfl⟩;rw[<-o] at m ⊢;have q:a<256:=O;have u:=h.at (i:=d+269+a) O (j.known a q);have v:(0:Int)<=(a:Int):=O;have z:(a:Int)<256:=O;generalize r.known a=A at *;clear h j o;go_enter func88,ntmps88;go_wp2_with fail;refine(m.o _).mono ?_;rintro e s ⟨rfl,B⟩;subst s;go_wp2_with fail;go_ret;exact⟨rfl,0,rfl⟩
theorem jG h w(g:1<=h.W)(c:h.W<=16)(i:1<=h.H)(d:h.H<=16):Calls prog 87 #[hdV h] w λe f=>e=.returned (.int .i64 ((h.W*h.H:Nat):Int))/\Kept w f:=by
 unfold hdV;have j:¬(h.W:Int)<1:=O;have k:¬(h.H:Int)<1:=O;obtain⟨a,b⟩:∃a,a=h.W*h.H:=⟨_,rfl⟩;have l:(h.W:Int)*(h.H:Int)=(a:Int):=by rw[b];simp
 have m:a<=256:=by rw[b];exact XF c d
 rw[<-b];clear b;go_enter func87,ntmps87;go_wp2;go_ret;exact⟨rfl,Xw (Xs _ _) (E _) _⟩
theorem A6:∃a,prog.info? 3=some a/\a.zero=some (.int .i64 0)/\a.size=1/\a.bytes=8:=by
 have b:(prog.info? 3).map (λa=>(a.zero,a.size,a.bytes))=some (some (.int .i64 0),1,8):=Xk;cases c:prog.info? 3 with
 | none=>rw[c] at b;simp at b
 | some a=>
  rw[c] at b;simp at b;exact⟨a,rfl,b.1,b.2.1,b.2.2⟩
theorem gq n j(h:j<n):(madeCells #[Value.int .i64 0] n)[j]? = some (.int .i64 0):=by
 unfold madeCells;rw[Array.getElem?_map,Array.getElem?_range,I h];show some (#[Value.int .i64 0][j%1]!)=_
 rw[Nat.mod_one];rfl
theorem gn w(n:Nat)(f:n<=1000000):(Instr.makeSlice 31 (.int .i64 n) (.int .i64 n)).run prog w=.ok (.slice (some ⟨w.heap.size,0,none⟩) n n) (w.alloc (.cells (madeCells #[Value.int .i64 0] n) 3)):=by
 obtain⟨a,b,c,d,e⟩:=A6
 have:=run_make (P:=prog) w 31 3 a (.int .i64 0) underlying31 b c .i64 .i64 n n O O (by rw[e];omega) O
 rw[d,Nat.mul_one,YQ] at this;exact this
theorem sC b o n c r h w(G:Blk w b n c)(S:RwV c o r)(a6:o+1549<=n)(a7:1<=h.W)(H:h.W<=16)(a8:1<=h.H)(J:h.H<=16):Calls prog 56 #[hdV h,.pointer (some ⟨b,o,none⟩)] w λi v=>∃l,i=.returned (.slice (some ⟨l,0,none⟩) (h.W*h.H) (h.W*h.H))/\w.heap.size<=l/\(∀j,j<h.W*h.H->v.cell? ⟨l,j,none⟩=some (.int .i64 (if r.known (j/h.W*16+j%h.W) then 1 else 0)))/\Kept w v:=by
 have T:Z (∀t,Calls prog 87 #[hdV h] t λi v=>i=.returned (.int .i64 ((h.W*h.H:Nat):Int))/\Kept t v):=λt=>jG h t a7 H a8 J
 obtain⟨d,C⟩:∃d,d=h.W*h.H:=⟨_,rfl⟩;rw[<-C] at T ⊢;have c4:d<=256:=by rw[C];exact XF H J
 have a9:Z _:=C;clear C;unfold hdV at *;go_enter func56,ntmps56;go_wp2_with fail;refine(T.o _).mono ?_;rintro i g ⟨rfl,K⟩;have b0:=gn g d O;have x:Z (Kept w g):=Kept.trans (Xw (Xs _ _) (E _) _) K;have U:g.cell? ⟨w.heap.size,0,none⟩=some (.int .i64 h.W):=(K.cell (p:=⟨w.heap.size,0,none⟩) Xi).trans ((Xr _ _ _ _ rfl).trans rfl);have L:=B _ _ U;have M:Z (Kept g (g.alloc (.cells (madeCells #[Value.int .i64 0] d) 3))):=Xw (Xs _ _) (E _) _;have V:Z (∀j,j<d->(g.alloc (.cells (madeCells #[Value.int .i64 0] d) 3)).cell? ⟨g.heap.size,j,none⟩=some (.int .i64 0)):=λj m=>(Xr _ _ _ _ rfl).trans (gq d j m)
 have W:Z (∀j,(g.alloc (.cells (madeCells #[Value.int .i64 0] d) 3)).frozen? ⟨g.heap.size,j,none⟩=false):=λj=>XB _ _ _ _ rfl
 have b1:Z _:=(G.kept x.o).kept M.o;have b2:Z _:=S;have b3:=(M.o.cell (p:=⟨w.heap.size,0,none⟩) L).trans U;have X:g.heap.size<(g.alloc (.cells (madeCells #[Value.int .i64 0] d) 3)).heap.size:=Xi;have c5:=G.lt;clear G S K;go_wp2_with fail;generalize g.alloc (.cells (madeCells #[Value.int .i64 0] d) 3)=b4 at *;clear b0;obtain⟨l,u⟩:∃l,l=g.heap.size:=⟨_,rfl⟩;rw[<-u] at V W L X ⊢;replace u:Z _:=u;go_loopg [6] d (λP b5 t=>∃a:Nat,P=d-a/\a<=d/\b5=.int .i64 a/\Fr1 l b4 t/\(∀j,t.frozen? ⟨l,j,none⟩=false)/\(∀j,j<d->t.cell? ⟨l,j,none⟩=some (.int .i64 (if j<a/\r.known (j/h.W*16+j%h.W)=true then 1 else 0))))
 case atStart=>exact⟨0,O,O,rfl,Fr.refl _ _,W.o,λj m=>by rw[N];exact V.o j m⟩
 case round=>
  obtain⟨a,D,c6,rfl,Y,a0,a1⟩:=hrel;replace D:Z _:=D;have y:Z _:=Y;have Q:Z _:=a0;have F:Z _:=a1;clear Y a0 a1;have c7:=(y.o.cell (k:=0) (YZ L X) O).trans b3;by_cases a2:a<d
  .have b6:(a:Int)<(d:Int):=O
   obtain⟨q,z⟩:∃q,q=a%h.W:=⟨_,rfl⟩;obtain⟨s,A⟩:∃s,s=a/h.W:=⟨_,rfl⟩;have b7:(a:Int)%(h.W:Int)=(q:Int):=by rw[z];exact(Yo _ _).symm
   have b8:(a:Int)/(h.W:Int)=(s:Int):=by rw[A];exact(YB _ _).symm
   have b9:q<16:=by rw[z];exact Xq (YD _ O) H
   have c0:s<16:=by
    rw[A];refine Xq (YN (by rw[<-a9.o];exact a2)) J
   have c1:b≠l:=by have:=u.o;have:=x.o.size;omega
   have a3:Z (∀e,Calls prog 88 #[.pointer (some ⟨b,o,none⟩),.int .i64 q,.int .i64 s] (wr.drewN e) λi v=>i=.returned (.bool (r.known (s*16+q)))/\∃P,v=(wr.drewN e).drewN P):=λe=>hO b o n q s c r (wr.drewN e) (((b1.o.fr y.o c1)).kept ((Kept.refl _).drewN e)) b2.o a6 b9 c0
   have a4:Z (r.known (a/h.W*16+a%h.W)=r.known (s*16+q)):=by show r.known (a/h.W*16+a%h.W)=_;rw[z,A]
   generalize c2:r.known (s*16+q)=c3 at *;clear c2;replace z:Z _:=z;replace A:Z _:=A;have a5:=F.o a a2;rw[N] at a5;have c8:=Q.o a;have c9:(0:Int)<=(a:Int):=O;have d0:(a:Int).tmod (h.W:Int)=(q:Int):=by rw[XU O];exact b7
   have d1:(a:Int).tdiv (h.W:Int)=(s:Int):=by rw[XZ O];exact b8
   cases c3 with
   | false=>
    go_wp2_with fail;go_quiet ((go_at_call 88;exact Zb (a3.o _)))
    go_wp2_with fail;go_roundg (d-(a+1))
    case measure=>rw[D.o];omega
    case rel=>
     refine⟨a+1,rfl,O,Xj,y.o.kept ((Kept.refl _).drewN _),λj=>Q.o j,λj m => ?_⟩;refine(F.o j m).trans ?_;by_cases i:j=a
     .subst i
      rw[N,N (λe=>by rw[a4.o] at e;exact absurd e.2 Xi)]
     .by_cases f:j<a/\r.known (j/h.W*16+j%h.W)=true
      .rw[I f,I ⟨O,f.2⟩]
      .rw[N f,N (λe=>f ⟨O,e.2⟩)]
   | true=>
    go_wp2_with fail;go_quiet ((go_at_call 88;exact Zb (a3.o _)))
    go_wp2_with fail;go_roundg (d-(a+1))
    case measure=>rw[D.o];omega
    case rel=>
     refine⟨a+1,rfl,O,Xj,Fr1.set (y.o.kept ((Kept.refl _).drewN _)) _ _,λj=>by rw[Xy];exact Q.o j,λj m => ?_⟩;by_cases i:j=a
     .subst i
      rw[I ⟨O,a4.o⟩];exact af a5 _
     .rw[aa _ _ _ _ _ (λe=>i e.symm)]
      refine(F.o j m).trans ?_;by_cases f:j<a/\r.known (j/h.W*16+j%h.W)=true
      .rw[I f,I ⟨O,f.2⟩]
      .rw[N f,N (λe=>f ⟨O,e.2⟩)]
  .have b6:¬(a:Int)<(d:Int):=O
   have R:a=d:=O;replace R:Z _:=R;go_wp2_with fail;go_ret;refine⟨l,rfl,by have:=u.o;have:=x.o.size;omega,λj m => ?_,?_⟩
   .refine(F.o j m).trans ?_
    by_cases f:r.known (j/h.W*16+j%h.W)=true
    .rw[I ⟨by rw[R.o];exact m,f⟩,I f]
    .rw[N (λe=>f e.2),N f]
   .exact Fr.to_kept (x.o.trans (by rw[u.o] at *;exact M.o)) y.o (λd2 d3 e=>by have:=u.o;have:=x.o.size;omega)
def four(a b c d:Int):Value := .agg #[.int .i64 a,.int .i64 b,.int .i64 c,.int .i64 d]
theorem I2:(prog.info? 138).map (·.size)=some 4:=Xk
def aD(W:World)(g:Nat)(f:Nat->Int):Prop:=W.cell? ⟨g,0,none⟩=some (.int .i64 (f 0))/\W.cell? ⟨g,1,none⟩=some (.int .i64 (f 1))/\W.cell? ⟨g,2,none⟩=some (.int .i64 (f 2))/\W.cell? ⟨g,3,none⟩=some (.int .i64 (f 3))
theorem aD.fr{W W' g f}{S:Nat->Prop}(h:aD W g f)(k:Fr S W W')(a:¬S g):aD W' g f:=by
 have b:=B _ _ h.1;exact⟨(k.cell b a).trans h.1,(k.cell b a).trans h.2.1,(k.cell b a).trans h.2.2.1,(k.cell b a).trans h.2.2.2⟩
theorem aD.kept{W W' g f}(h:aD W g f)(k:Kept W W'):aD W' g f:=h.fr (S:=λ_=>False) (Fr.of_kept k) (λa=>a)
theorem aD.get{W g f}(h:aD W g f)k(a:k<4):W.cell? ⟨g,k,none⟩=some (.int .i64 (f k)):=by
 match k,a with
 | 0,_=>exact h.1
 | 1,_=>exact h.2.1
 | 2,_=>exact h.2.2.1
 | 3,_=>exact h.2.2.2
theorem aD.of{W g f}(h:∀k,k<4->W.cell? ⟨g,k,none⟩=some (.int .i64 (f k))):aD W g f:=⟨h 0 O,h 1 O,h 2 O,h 3 O⟩
theorem aD.set{W g f f'}(h:aD W g f)k v(d:f' k=v)(e:∀a,a≠k->a<4->f' a=f a):aD (W.setCell ⟨g,k,none⟩ (.int .i64 v)) g f':=aD.of (λa b=>by
 by_cases c:a=k
 .subst c;rw[d];exact af (h.get a b) _
 .rw[aa _ _ _ _ _ (λi=>c i.symm),e a c b];exact h.get a b)
def aG(a b c d:Int):Nat->Int:=λj=>if j=0 then a else if j=1 then b else if j=2 then c else d
theorem aD.put{W g f}(h:aD W g f)a b c d:aD ((((W.setCell ⟨g,0,none⟩ (.int .i64 a)).setCell ⟨g,1,none⟩ (.int .i64 b)).setCell ⟨g,2,none⟩ (.int .i64 c)).setCell ⟨g,3,none⟩ (.int .i64 d)) g (aG a b c d):=by
 have k:=h.set (f':=λe=>if e=0 then a else f e) 0 a rfl (λe i _=>N i);have l:=k.set (f':=λe=>if e=1 then b else if e=0 then a else f e) 1 b rfl (λe i _=>N i);have j:=(l.set (f':=λe=>if e=2 then c else if e=1 then b else if e=0 then a else f e) 2 c rfl (λe i _=>N i)).set (f':=λe=>if e=3 then d else if e=2 then c else if e=1 then b else if e=0 then a else f e) 3 d rfl (λe i _=>N i);exact⟨j.1,j.2.1,j.2.2.1,j.2.2.2⟩
theorem dt{W g f}(h:aD W g f):(loadVar 138 ⟨g,0,none⟩).run prog W=.ok (four (f 0) (f 1) (f 2) (f 3)) W:=by
 have:=Yw (P:=prog) W g 0 138 [.int .i64 (f 0),.int .i64 (f 1),.int .i64 (f 2),.int .i64 (f 3)] _ (λb c a=>by
  match b with
  | 0=>injection a with a;rw[<-a];exact h.1
  | 1=>injection a with a;rw[<-a];exact h.2.1
  | 2=>injection a with a;rw[<-a];exact h.2.2.1
  | 3=>injection a with a;rw[<-a];exact h.2.2.2
  | b+4=>simp at a) underlying138 rfl I2
 exact this
theorem mK(b g n x y:Nat)c r w(m:Blk w b n c)(A:RwV c g r)(b2:g+1549<=n)(C:x<16)(D:y<16)(F:∀a,r.smp a<65536):Calls prog 127 #[.pointer (some ⟨b,g,none⟩),.int .i64 x,.int .i64 y] w λj o=>j=.returned (four (r.smp (4*(y*16+x)):Int) (r.smp (4*(y*16+x)+1):Int) (r.smp (4*(y*16+x)+2):Int) (r.smp (4*(y*16+x)+3):Int))/\Kept w o:=by
 have G:Z (∀f,Calls prog 125 #[.int .i64 x,.int .i64 y] f λj o=>j=.returned (.tuple #[.int .i64 ((y*16+x:Nat):Int),.bool true])/\o=f):=λf=>by
  have:=qR x y f O O
  rw[I ⟨C,D⟩,K (⟨C,D⟩:x<16/\y<16)] at this;exact this
 obtain⟨e,H⟩:∃e,e=y*16+x:=⟨_,rfl⟩;rw[<-H] at G ⊢;have b3:e<256:=O;have b4:(0:Int)<=(e:Int):=O;have b5:(e:Int)<256:=O;have a1:Z _:=m;have a2:Z _:=A;have a3:Z _:=F;have b6:=m.lt;clear m A H F;have J:Z (Kept w ((w.alloc (Obj.cells #[.int .i64 0,.int .i64 0,.int .i64 0,.int .i64 0] 138)).alloc (Obj.cells #[.int .i64 0,.int .i64 0,.int .i64 0,.int .i64 0] 138))):=Xw (Xw (Xs _ _) (E _) _) Xi _;have a4:Z (aD ((w.alloc (Obj.cells #[.int .i64 0,.int .i64 0,.int .i64 0,.int .i64 0] 138)).alloc (Obj.cells #[.int .i64 0,.int .i64 0,.int .i64 0,.int .i64 0] 138)) (w.heap.size+1) (λ_=>0)):=by
  refine⟨?_,?_,?_,?_⟩<;>exact(Xr _ _ _ _ Xi).trans rfl
 have q:Z (aD ((w.alloc (Obj.cells #[.int .i64 0,.int .i64 0,.int .i64 0,.int .i64 0] 138)).alloc (Obj.cells #[.int .i64 0,.int .i64 0,.int .i64 0,.int .i64 0] 138)) w.heap.size (λ_=>0)):=by
  refine⟨?_,?_,?_,?_⟩<;>exact(YG _ _ _ Xi).trans ((Xr _ _ _ _ rfl).trans rfl)
 have L:Z (∀a,((w.alloc (Obj.cells #[.int .i64 0,.int .i64 0,.int .i64 0,.int .i64 0] 138)).alloc (Obj.cells #[.int .i64 0,.int .i64 0,.int .i64 0,.int .i64 0] 138)).frozen? ⟨w.heap.size+1,a,none⟩=false/\((w.alloc (Obj.cells #[.int .i64 0,.int .i64 0,.int .i64 0,.int .i64 0] 138)).alloc (Obj.cells #[.int .i64 0,.int .i64 0,.int .i64 0,.int .i64 0] 138)).frozen? ⟨w.heap.size,a,none⟩=false):=λa=>⟨XB _ _ _ _ Xi,(Below.frozen (Xw (Xs _ _) (E _) _) (p:=⟨w.heap.size,a,none⟩) Xi).trans (XB _ _ _ _ rfl)⟩
 go_enter func127,ntmps127;go_wp2_with fail;refine(G.o _).mono ?_;rintro j s ⟨rfl,b7⟩;subst s;go_wp2_with fail;generalize (w.alloc (Obj.cells #[.int .i64 0,.int .i64 0,.int .i64 0,.int .i64 0] 138)).alloc (Obj.cells #[.int .i64 0,.int .i64 0,.int .i64 0,.int .i64 0] 138)=s at *;go_loopg [10] 4 (λa5 a6 f=>∃d:Nat,a5=4-d/\d<=4/\a6=.int .i64 d/\Fr1 (w.heap.size+1) s f/\(∀a,f.frozen? ⟨w.heap.size+1,a,none⟩=false)/\aD f (w.heap.size+1) (λa=>if a<d then(r.smp (4*e+a):Int) else 0))
 case atStart=>exact⟨0,O,O,rfl,Fr.refl _ _,λa=>(L.o a).1,a4.o⟩
 case round=>
  obtain⟨d,t,b8,rfl,M,P,Q⟩:=hrel;replace t:Z _:=t;have h:Z _:=M;have R:Z _:=P;have u:=U Q;clear M P Q;have b9:(0:Int)<=(d:Int):=O;by_cases a7:d<4
  .have a8:(d:Int)<4:=O
   have T:=u.o.get d a7;obtain⟨V,T⟩:∃V,wr.cell? ⟨w.heap.size+1,d,none⟩=some V:=⟨_,T⟩;have c0:=R.o d;have a9:=((a1.o.kept J.o).fr h.o O).at (i:=g+525+(4*e+d)) O (a2.o.smp (4*e+d) O);rw[show g+525+(4*e+d)=g+525+e*4+d from O] at a9;have c1:=a3.o (4*e+d);generalize v:r.smp (4*e+d)=c2 at *;replace v:Z _:=v;go_wp2_with fail;go_roundg (4-(d+1))
   case measure=>rw[t.o];omega
   case rel=>
    refine⟨d+1,rfl,O,Xj,Fr1.set h.o _ _,λa=>by rw[Xy];exact R.o a,u.o.set d _ ?_ ?_⟩
    .show(if d<d+1 then(r.smp (4*e+d):Int) else 0)=_
     rw[I,v.o]
    .intro a c3 _
     show(if a<d+1 then(r.smp (4*e+a):Int) else 0)=if a<d then(r.smp (4*e+a):Int) else 0
     by_cases z:a<d
     .rw[I z,I]
     .rw[N z,N]
  .have a8:¬(d:Int)<4:=O
   have b0:d=4:=O;subst b0;obtain⟨W,X,Y,a0⟩:=u.o;replace W:wr.cell? ⟨w.heap.size+1,0,none⟩=some (.int .i64 (r.smp (4*e):Int)):=W;replace X:wr.cell? ⟨w.heap.size+1,1,none⟩=some (.int .i64 (r.smp (4*e+1):Int)):=X;replace Y:wr.cell? ⟨w.heap.size+1,2,none⟩=some (.int .i64 (r.smp (4*e+2):Int)):=Y;replace a0:wr.cell? ⟨w.heap.size+1,3,none⟩=some (.int .i64 (r.smp (4*e+3):Int)):=a0;have l:=q.o.fr h.o O;obtain⟨c4,c5,c6,c7⟩:=l;have c8:∀a,wr.frozen? ⟨w.heap.size,a,none⟩=false:=λa=>(h.o.frozen (c:=w.heap.size) (k:=a) (B _ _ q.o.1) O).trans (L.o a).2
   have l:=q.o.fr h.o (show ¬(w.heap.size=w.heap.size+1) from O);have b1:Z _:=l.put (r.smp (4*e):Int) (r.smp (4*e+1):Int) (r.smp (4*e+2):Int) (r.smp (4*e+3):Int);clear l;go_wp2_with fail;refine XA (ah rfl _ _ _ _ _ rfl (dt b1.o)) rfl ⟨rfl,?_⟩;exact(((((Fr.to_kept (S:=λa=>a=w.heap.size+1) J.o h.o (λc9 d0 z=>O)).setCell (E _) _).setCell (E _) _).setCell (E _) _).setCell (E _) _)
