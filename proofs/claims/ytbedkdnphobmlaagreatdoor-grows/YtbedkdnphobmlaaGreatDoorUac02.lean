import Derived.Test.YtbedkdnphobmlaaGreatDoorProg
import Derived.Test.YtbedkdnphobmlaaGreatDoorUaa00
import Derived.Test.YtbedkdnphobmlaaGreatDoorUaa01
import Derived.Test.YtbedkdnphobmlaaGreatDoorUaa03
import Derived.Test.YtbedkdnphobmlaaGreatDoorUaa04
import Derived.Test.YtbedkdnphobmlaaGreatDoorUaa05
import Derived.Test.YtbedkdnphobmlaaGreatDoorUaa18
import Derived.Test.YtbedkdnphobmlaaGreatDoorUac00
import Derived.Test.YtbedkdnphobmlaaGreatDoorUac01
set_option linter.all false
set_option maxRecDepth 100000
set_option maxHeartbeats 0
namespace Go.Proofs.YtbedkdnphobmlaaGreatDoor
open Go.RowKit Px Tryz
def aX(f s q p:Nat):Nat×Bool:=if p<f then(0,false) else(p-(p-f)%s,decide ((p-f)%s<q))
theorem lJ{f s q p}(h:p<16):(aX f s q p).1<16:=by unfold aX;split<;>(show _<_)<;>omega
def fB(r:Rw)(t:Tl)(h:Hd)(x y:Nat):Nat->Nat->Int
 | 0=>λ_=>0
 | k+1=>
  let p:=ae h.L k
  let a:=aX p.cf p.cs p.cb x
  let b:=aX p.rf p.rs p.rb y
  if a.2&&b.2&&r.known (b.1*16+a.1) then pxP r t h a.1 b.1 else fB r t h x y k
def shP(r:Rw)(t:Tl)(h:Hd)(x y:Nat):Nat->Int:=fB r t h x y (av h.L)
theorem jC{r t h x y k a b A B}(c:aX (ae h.L k).cf (ae h.L k).cs (ae h.L k).cb x=(a,A))(d:aX (ae h.L k).rf (ae h.L k).rs (ae h.L k).rb y=(b,B))(q:(A&&B&&r.known (b*16+a))=false):fB r t h x y (k+1)=fB r t h x y k:=by
 show(if _ then _ else _)=_
 rw[c,d];show(if(A&&B&&r.known (b*16+a))=true then _ else _)=_
 rw[q,N Xh]
theorem eO{r t h x y k a b}(c:aX (ae h.L k).cf (ae h.L k).cs (ae h.L k).cb x=(a,true))(d:aX (ae h.L k).rf (ae h.L k).rs (ae h.L k).rb y=(b,true))(q:r.known (b*16+a)=true):fB r t h x y (k+1)=pxP r t h a b:=by
 show(if _ then _ else _)=_
 rw[c,d];show(if(true&&true&&r.known (b*16+a))=true then _ else _)=_
 rw[q,I Xh]
theorem sD(f s q p:Nat)w(u:f<=8)(v:1<=s)(x:s<=8)(y:p<16):Calls prog 128 #[.agg #[.int .i64 f,.int .i64 s,.int .i64 q],.int .i64 p] w λl m=>l=.returned (.tuple #[.int .i64 ((aX f s q p).1:Int),.bool (aX f s q p).2])/\Kept w m:=by
 have z:¬(s:Int)<1:=O;have A:¬(s=0):=O;have h:Z (∀i,Kept w (w.alloc i)):=λi=>Xw (Xs _ _) (E _) _
 have n:Z (p<f->aX f s q p=(0,false)):=λc=>I c
 have g:Z (¬p<f->aX f s q p=(p-(p-f)%s,decide ((p-f)%s<q))):=λc=>N c
 generalize aX f s q p=o at *;by_cases c:p<f
 .have r:(p:Int)<(f:Int):=O
  go_enter func128,ntmps128;go_wp2;go_ret2;exact⟨by rw[n.o c];rfl,h.o _⟩
 .have r:¬(p:Int)<(f:Int):=O
  obtain⟨b,j⟩:∃b,b=p-f:=⟨_,rfl⟩;have B:(p:Int)-(f:Int)=(b:Int):=O;obtain⟨a,e⟩:∃a,a=b%s:=⟨_,rfl⟩;have t:(b:Int)%(s:Int)=(a:Int):=by rw[e];exact(Yo _ _).symm
  have C:(b:Int).tmod (s:Int)=(a:Int):=by rw[XU O];exact t
  have D:a<=b:=by rw[e];exact Zg _ _
  obtain⟨d,k⟩:∃d,d=p-a:=⟨_,rfl⟩;have F:(p:Int)-(a:Int)=(d:Int):=O;have G:d<16:=O;replace g:Z (o=(d,decide (a<q))):=(g.o c).trans (by rw[<-j,<-e,<-k]);clear e j k;go_enter func128,ntmps128;go_wp2_with fail;go_quiet (fail);go_wp2_with fail;go_ret2;exact⟨by rw[g.o];first|rfl|(congr 4;rw[X4,decide_eq_true_iff,decide_eq_true_iff];omega),(h.o _).drewN _⟩
theorem CP(b o1 o2 n x y:Nat)(c:Nat->Value)(r:Rw)(t:Tl)(h:Hd)(w:World)(hB:Blk w b n c)(hp:et c o1 o2 n r t h)(hpal:∀j,t.pal j<256)(hx:x<16)(hy:y<16)(hG:aS w):Calls prog 91 #[hdV h,.pointer (some ⟨b,o1,none⟩),.pointer (some ⟨b,o2,none⟩),.int .i64 x,.int .i64 y] w λe w'=>ya w (shP r t h x y) e w':=by
 have HPl:Z (∀j,t.pal j<256):=hpal;have ES:Z (shP r t h x y=fB r t h x y (av h.L)):=rfl;have E0:Z (fB r t h x y 0=λ_=>0):=rfl;have EN:Z (∀k a b A B,aX (ae h.L k).cf (ae h.L k).cs (ae h.L k).cb x=(a,A)->aX (ae h.L k).rf (ae h.L k).rs (ae h.L k).rb y=(b,B)->(A&&B&&r.known (b*16+a))=false->fB r t h x y (k+1)=fB r t h x y k):=λk a b A B e1 e2 q=>jC e1 e2 q
 have EY:Z (∀k a b,aX (ae h.L k).cf (ae h.L k).cs (ae h.L k).cb x=(a,true)->aX (ae h.L k).rf (ae h.L k).rs (ae h.L k).rb y=(b,true)->r.known (b*16+a)=true->fB r t h x y (k+1)=pxP r t h a b):=λk a b e1 e2 q=>eO e1 e2 q
 generalize shP r t h x y=SH at *;generalize fB r t h x y=SG at *;clear hpal;obtain⟨wa,hwa⟩:∃wa,wa=w.alloc (Obj.cells #[.int .i64 h.W,.int .i64 h.H,.int .i64 h.D,.int .i64 h.K,.int .i64 h.L] 71):=⟨_,rfl⟩;obtain⟨wb,hwb⟩:∃wb,wb=wa.alloc (Obj.cells #[.int .i64 0,.int .i64 0,.int .i64 0,.int .i64 0] 138):=⟨_,rfl⟩;have hsa:wa.heap.size=w.heap.size+1:=by rw[hwa];simp
 have Ka:Kept w wa:=by rw[hwa];exact Xw (Xs _ _) (E _) _
 have Kb:Kept wa wb:=by rw[hwb];exact Xw (Xs _ _) (E _) _
 have K0:Z (Kept w wb):=Ka.trans Kb;have hcell:∀j v,(#[Value.int .i64 h.W,.int .i64 h.H,.int .i64 h.D,.int .i64 h.K,.int .i64 h.L]:Array Value)[j]? = some v->wb.cell? ⟨w.heap.size,j,none⟩=some v:=λj v hv=>by
  rw[Kb.cell (p:=⟨w.heap.size,j,none⟩) (by show w.heap.size<wa.heap.size;omega),hwa];exact(Xr _ _ _ _ rfl).trans hv
 have R4:Z (aD wb (w.heap.size+1) (λ_=>0)):=by
  rw[hwb,<-hsa];refine⟨?_,?_,?_,?_⟩<;>exact(Xr _ _ _ _ rfl).trans rfl
 have Z4:Z (∀j,wb.frozen? ⟨w.heap.size+1,j,none⟩=false):=λj=>by rw[hwb,<-hsa];exact XB _ _ _ _ rfl
 have HB:Z (Blk wb b n c):=hB.kept K0.o;have HG:Z (aS wb):=hG.kept K0.o;have HP:Z (et c o1 o2 n r t h):=hp;have p0:=hcell 0 _ rfl;have p1:=hcell 1 _ rfl;have p2:=hcell 2 _ rfl;have p3:=hcell 3 _ rfl;have p4:=hcell 4 _ rfl;have hs0:w.heap.size<wb.heap.size:=World.block_lt_of_cell? wb ⟨w.heap.size,0,none⟩ p0;have hs1:w.heap.size+1<wb.heap.size:=World.block_lt_of_cell? wb ⟨w.heap.size+1,0,none⟩ R4.o.1;have HH:Z (∀W,Kept wb W->(W.cell? ⟨w.heap.size,0,none⟩=some (.int .i64 h.W)/\W.cell? ⟨w.heap.size,1,none⟩=some (.int .i64 h.H)/\W.cell? ⟨w.heap.size,2,none⟩=some (.int .i64 h.D)/\W.cell? ⟨w.heap.size,3,none⟩=some (.int .i64 h.K)/\W.cell? ⟨w.heap.size,4,none⟩=some (.int .i64 h.L))):=λW k=>⟨(k.cell (p:=⟨w.heap.size,0,none⟩) hs0).trans p0,(k.cell (p:=⟨w.heap.size,1,none⟩) hs0).trans p1,(k.cell (p:=⟨w.heap.size,2,none⟩) hs0).trans p2,(k.cell (p:=⟨w.heap.size,3,none⟩) hs0).trans p3,(k.cell (p:=⟨w.heap.size,4,none⟩) hs0).trans p4⟩
 have HL:Z (h.L<=1):=hp.L;have FC:Z (∀W':World,Calls prog 94 #[.int .i64 h.L] W' λe w'=>e=.returned (.int .i64 (av h.L))/\w'=W'):=λW'=>lS _ W'
 obtain⟨CN,hCN⟩:∃CN,CN=av h.L:=⟨_,rfl⟩;rw[<-hCN] at FC ES;have hCN7:CN<=7:=by rw[hCN];unfold av;split<;>omega
 clear hCN hB hp hcell Ka Kb hG p0 p1 p2 p3;unfold hdV;go_enter func91,ntmps91;go_upto_region 1 with fail
 rw[<-hwa,<-hwb];replace hwa:Z _:=hwa;replace hwb:Z _:=hwb;go_wp2_with fail;refine(FC.o _).mono ?_;rintro e w2 ⟨rfl,hw2⟩;subst w2;go_wp2_with fail;go_loopg [11,12,13,14,15,16] CN (λm v Ll Lk Lj Li Lh W=>m<=CN/\v=.int .i64 ((m:Int)-1)/\SH=SG m/\Kept wb W)
 case atStart=>exact⟨E _,rfl,ES.o,Kept.refl _⟩
 case round=>
  obtain⟨hgC,rfl,hSG,hkw⟩:=hrel;replace hSG:Z _:=hSG;have HKW:Z (Kept wb wr):=hkw;obtain⟨d0,d1,d2,d3,d4⟩:=HH.o wr hkw;clear hkw;by_cases hz:gk=0
  .have hz':¬(0:Int)<=(gk:Int)-1:=O
   have R2:Z (aD wr (w.heap.size+1) (λ_=>0)):=R4.o.kept HKW.o;obtain⟨r0,r1,r2,r3⟩:=R2.o;have zr:∀j,wr.frozen? ⟨w.heap.size+1,j,none⟩=false:=λj=>(HKW.o.frozen (p:=⟨w.heap.size+1,j,none⟩) hs1).trans (Z4.o j)
   replace hz:Z _:=hz;go_wp2_with fail;exact XA (ah rfl _ _ _ _ _ rfl (dt (R2.o.put 0 0 0 0))) rfl ⟨by rw[hSG.o,hz.o,E0.o];rfl,((((K0.o.trans HKW.o).setCell (XG _ _) _).setCell (XG _ _) _).setCell (XG _ _) _).setCell (XG _ _) _⟩
  .obtain⟨K,hK⟩:∃K,gk=K+1:=⟨gk-1,O⟩
   have eK:(gk:Int)-1=(K:Int):=O;have k0:(0:Int)<=(K:Int):=O;rw[eK];have FO:Z (Calls prog 95 #[.int .i64 h.L,.int .i64 K] wr λe w'=>e=.returned (psV (ae h.L K))/\Kept wr w'):=mP h.L K wr HL.o O (HG.o.kept HKW.o);have HOk:Z _:=cr h.L K;obtain⟨ps,hps⟩:∃p,p=ae h.L K:=⟨_,rfl⟩;rw[<-hps] at FO HOk;replace hps:Z _:=hps;clear hz;replace hK:Z _:=hK;unfold psV at FO;obtain⟨q1,q2,q3,q4,q5,q6,q7,q8⟩:=HOk.o;go_wp2_with fail;refine FO.o.mono ?_;rintro e w3 ⟨rfl,hk3⟩;have K3:Z (Kept wb w3):=HKW.o.trans hk3;have K4:Z (Kept wb (w3.alloc (Obj.cells #[.int .i64 ps.cf,.int .i64 ps.cs,.int .i64 ps.cb,.int .i64 ps.rf,.int .i64 ps.rs,.int .i64 ps.rb] 146))):=K3.o.trans (Xw (Xs _ _) (E _) _);have C4:Z (∀W,Kept (w3.alloc (Obj.cells #[.int .i64 ps.cf,.int .i64 ps.cs,.int .i64 ps.cb,.int .i64 ps.rf,.int .i64 ps.rs,.int .i64 ps.rb] 146)) W->(W.cell? ⟨w3.heap.size,0,none⟩=some (.int .i64 ps.cf)/\W.cell? ⟨w3.heap.size,1,none⟩=some (.int .i64 ps.cs)/\W.cell? ⟨w3.heap.size,2,none⟩=some (.int .i64 ps.cb)/\W.cell? ⟨w3.heap.size,3,none⟩=some (.int .i64 ps.rf)/\W.cell? ⟨w3.heap.size,4,none⟩=some (.int .i64 ps.rs)/\W.cell? ⟨w3.heap.size,5,none⟩=some (.int .i64 ps.rb))):=λW k=>by
    refine⟨?_,?_,?_,?_,?_,?_⟩
    .exact(k.cell (p:=⟨w3.heap.size,0,none⟩) Xi).trans ((Xr _ _ _ _ rfl).trans rfl)
    .exact(k.cell (p:=⟨w3.heap.size,1,none⟩) Xi).trans ((Xr _ _ _ _ rfl).trans rfl)
    .exact(k.cell (p:=⟨w3.heap.size,2,none⟩) Xi).trans ((Xr _ _ _ _ rfl).trans rfl)
    .exact(k.cell (p:=⟨w3.heap.size,3,none⟩) Xi).trans ((Xr _ _ _ _ rfl).trans rfl)
    .exact(k.cell (p:=⟨w3.heap.size,4,none⟩) Xi).trans ((Xr _ _ _ _ rfl).trans rfl)
    .exact(k.cell (p:=⟨w3.heap.size,5,none⟩) Xi).trans ((Xr _ _ _ _ rfl).trans rfl)
   clear hk3 FO d0 d1 d2 d3 d4;go_upto_region 5 with fail
   generalize w3.alloc (Obj.cells #[.int .i64 ps.cf,.int .i64 ps.cs,.int .i64 ps.cb,.int .i64 ps.rf,.int .i64 ps.rs,.int .i64 ps.rb] 146)=w4 at *;generalize w3.heap.size=G at *;obtain⟨m0,m1,m2,m3,m4,m5⟩:=C4.o w4 (Kept.refl _);have FOx:Z (∀W,Calls prog 128 #[.agg #[.int .i64 ps.cf,.int .i64 ps.cs,.int .i64 ps.cb],.int .i64 x] W λe w'=>e=.returned (.tuple #[.int .i64 ((aX ps.cf ps.cs ps.cb x).1:Int),.bool (aX ps.cf ps.cs ps.cb x).2])/\Kept W w'):=λW=>sD _ _ _ _ W O q2 q3 hx
   have FOy:Z (∀W,Calls prog 128 #[.agg #[.int .i64 ps.rf,.int .i64 ps.rs,.int .i64 ps.rb],.int .i64 y] W λe w'=>e=.returned (.tuple #[.int .i64 ((aX ps.rf ps.rs ps.rb y).1:Int),.bool (aX ps.rf ps.rs ps.rb y).2])/\Kept W w'):=λW=>sD _ _ _ _ W O q6 q7 hy
   have hmx:=lJ (f:=ps.cf) (s:=ps.cs) (q:=ps.cb) hx;have hmy:=lJ (f:=ps.rf) (s:=ps.rs) (q:=ps.rb) hy;replace EN:Z (∀a b A B,aX ps.cf ps.cs ps.cb x=(a,A)->aX ps.rf ps.rs ps.rb y=(b,B)->(A&&B&&r.known (b*16+a))=false->SG gk=SG K):=λa b A B e1 e2 q=>by rw[hK.o];rw[hps.o] at e1 e2;exact EN.o K a b A B e1 e2 q
   replace EY:Z (∀a b,aX ps.cf ps.cs ps.cb x=(a,true)->aX ps.rf ps.rs ps.rb y=(b,true)->r.known (b*16+a)=true->SG gk=pxP r t h a b):=λa b e1 e2 q=>by rw[hK.o];rw[hps.o] at e1 e2;exact EY.o K a b e1 e2 q
   obtain⟨⟨mx,Bx⟩,hox⟩:∃o,aX ps.cf ps.cs ps.cb x=o:=⟨_,rfl⟩;obtain⟨⟨my,By⟩,hoy⟩:∃o,aX ps.rf ps.rs ps.rb y=o:=⟨_,rfl⟩;rw[hox] at FOx hmx;rw[hoy] at FOy hmy;replace hmx:mx<16:=hmx;replace hmy:my<16:=hmy;replace hox:Z _:=hox;replace hoy:Z _:=hoy;go_wp2_with fail;refine(FOx.o _).mono ?_;rintro e w5 ⟨rfl,hk5⟩;have K5:Z (Kept wb w5):=K4.o.trans hk5;obtain⟨m0',m1',m2',m3',m4',m5'⟩:=C4.o w5 hk5;clear m0 m1 m2 m3 m4 m5 hk5;go_wp2_with fail;refine(FOy.o _).mono ?_;rintro e w6 ⟨rfl,hk6⟩;have K6:Z (Kept wb w6):=K5.o.trans hk6;clear m0' m1' m2' m3' m4' m5' hk6 FOx FOy;have FK:Z (Calls prog 88 #[.pointer (some ⟨b,o1,none⟩),.int .i64 mx,.int .i64 my] w6 λe w'=>e=.returned (.bool (r.known (my*16+mx)))/\Kept w6 w'):=(hO b o1 n mx my c r w6 (HB.o.kept K6.o) HP.o.V HP.o.n1 hmx hmy).mono (λe w' ⟨q1,q,q2⟩=>⟨q1,by rw[q2];exact(Kept.refl _).drewN _⟩);cases Bx with
   | false=>
    go_wp2_with fail;go_roundg K
    case measure=>rw[hK.o];omega
    case rel=>exact⟨by have:=hK.o;omega,Xj,hSG.o.trans (EN.o _ _ _ _ hox.o hoy.o Xi),K6.o⟩
   | true=>
    cases By with
    | false=>
     go_wp2_with fail;go_roundg K
     case measure=>rw[hK.o];omega
     case rel=>exact⟨by have:=hK.o;omega,Xj,hSG.o.trans (EN.o _ _ _ _ hox.o hoy.o Xi),K6.o⟩
    | true=>
     go_wp2_with fail;refine FK.o.mono ?_;rintro e w7 ⟨rfl,hk7⟩;have K7:Z (Kept wb w7):=K6.o.trans hk7;clear hk7 FK;cases hkn:r.known (my*16+mx) with
     | false=>
      replace hkn:Z _:=hkn;go_wp2_with fail;go_roundg K
      case measure=>rw[hK.o];omega
      case rel=>exact⟨by have:=hK.o;omega,Xj,hSG.o.trans (EN.o _ _ _ _ hox.o hoy.o (by rw[hkn.o];rfl)),K7.o⟩
     | true=>
      obtain⟨d0,d1,d2,d3,d4⟩:=HH.o w7 K7.o;have FP:Z (Calls prog 90 #[.agg #[.int .i64 h.W,.int .i64 h.H,.int .i64 h.D,.int .i64 h.K,.int .i64 h.L],.pointer (some ⟨b,o1,none⟩),.pointer (some ⟨b,o2,none⟩),.int .i64 mx,.int .i64 my] w7 λe w'=>e=.returned (.agg #[.int .i64 (SH 0),.int .i64 (SH 1),.int .i64 (SH 2),.int .i64 (SH 3)])/\Kept w7 w'):=by
       rw[hSG.o,EY.o _ _ hox.o hoy.o hkn];exact wK b o1 o2 n mx my c r t h w7 (HB.o.kept K7.o) HP.o HPl.o hmx hmy
      clear hkn;go_wp2_with fail;refine FP.o.mono ?_;rintro e w8 ⟨rfl,hk8⟩;have K8:Z (Kept wb w8):=K7.o.trans hk8;have R8:Z (aD w8 (w.heap.size+1) (λ_=>0)):=R4.o.kept K8.o;obtain⟨r0,r1,r2,r3⟩:=R8.o;have zr:∀j,w8.frozen? ⟨w.heap.size+1,j,none⟩=false:=λj=>(K8.o.frozen (p:=⟨w.heap.size+1,j,none⟩) hs1).trans (Z4.o j)
      go_wp2_with fail;exact XA (ah rfl _ _ _ _ _ rfl (dt (R8.o.put _ _ _ _))) rfl ⟨rfl,((((K0.o.trans K8.o).setCell (XG _ _) _).setCell (XG _ _) _).setCell (XG _ _) _).setCell (XG _ _) _⟩
theorem Hb b o1 o2 n c r t h w(a1:Blk w b n c)(k:et c o1 o2 n r t h)(b6:∀d,t.pal d<256)(e5:aS w):Calls prog 58 #[hdV h,.pointer (some ⟨b,o1,none⟩),.pointer (some ⟨b,o2,none⟩)] w λf D=>zx w (λi=>shP r t h (i%h.W) (i/h.W)) h f D:=by
 have e6:Z _:=b6;clear b6;have a2:Z (∀a,Calls prog 87 #[hdV h] a λf D=>f=.returned (.int .i64 ((h.W*h.H:Nat):Int))/\Kept a D):=λa=>jG h a k.W1 k.W2 k.H1 k.H2
 obtain⟨j,M⟩:∃j,j=h.W*h.H:=⟨_,rfl⟩;rw[<-M] at a2;have h7:j<=256:=by rw[M];exact XF k.W2 k.H2
 have a3:Z _:=M;obtain⟨g,b7⟩:∃g,g=4*j:=⟨_,rfl⟩;have h8:4*(j:Int)=(g:Int):=O;have P:Z _:=b7;have h9:g<=1024:=O;have e7:Z _:=k;have e8:Z _:=a1;have i0:=a1.lt;have b8:=U e5;have i1:=k.W1;have e9:=k.W2;have f0:=k.H2;clear M b7 a1 k;have a4:Z (Kept w (w.alloc (Obj.cells #[.int .i64 h.W,.int .i64 h.H,.int .i64 h.D,.int .i64 h.K,.int .i64 h.L] 71))):=Xw (Xs _ _) (E _) _;have b9:Z (∀a,a=w.alloc (Obj.cells #[.int .i64 h.W,.int .i64 h.H,.int .i64 h.D,.int .i64 h.K,.int .i64 h.L] 71)->(a.cell? ⟨w.heap.size,0,none⟩=some (.int .i64 h.W)/\a.cell? ⟨w.heap.size,1,none⟩=some (.int .i64 h.H)/\a.cell? ⟨w.heap.size,2,none⟩=some (.int .i64 h.D)/\a.cell? ⟨w.heap.size,3,none⟩=some (.int .i64 h.K)/\a.cell? ⟨w.heap.size,4,none⟩=some (.int .i64 h.L))):=λa f=>by
  rw[f];refine⟨?_,?_,?_,?_,?_⟩<;>exact(Xr _ _ _ _ rfl).trans rfl
 unfold hdV at *;go_enter func58,ntmps58;go_wp2_with fail;generalize f1:w.alloc (Obj.cells #[.int .i64 h.W,.int .i64 h.H,.int .i64 h.D,.int .i64 h.K,.int .i64 h.L] 71)=F at *;obtain⟨a5,c0,c1,c2,c3⟩:=b9.o F rfl;have u:=B F ⟨w.heap.size,0,none⟩ a5;have f2:Z (∀a,Kept F a->(a.cell? ⟨w.heap.size,0,none⟩=some (.int .i64 h.W)/\a.cell? ⟨w.heap.size,1,none⟩=some (.int .i64 h.H)/\a.cell? ⟨w.heap.size,2,none⟩=some (.int .i64 h.D)/\a.cell? ⟨w.heap.size,3,none⟩=some (.int .i64 h.K)/\a.cell? ⟨w.heap.size,4,none⟩=some (.int .i64 h.L))):=λa e=>⟨(e.cell (p:=⟨w.heap.size,0,none⟩) u).trans a5,(e.cell (p:=⟨w.heap.size,1,none⟩) u).trans c0,(e.cell (p:=⟨w.heap.size,2,none⟩) u).trans c1,(e.cell (p:=⟨w.heap.size,3,none⟩) u).trans c2,(e.cell (p:=⟨w.heap.size,4,none⟩) u).trans c3⟩
 clear b9 a5 c0 c1 c2 c3 f1;refine(a2.o _).mono ?_;rintro f m ⟨rfl,a6⟩;have f3:=gn m g O;have c4:Z (Kept F m):=a6;have c5:=Xq u a6.size;have c6:Z (Kept m (m.alloc (.cells (madeCells #[Value.int .i64 0] g) 3))):=Xw (Xs _ _) (E _) _;have c7:Z (di (m.alloc (.cells (madeCells #[Value.int .i64 0] g) 3)) m.heap.size g (λ_=>0)):=⟨λd Q=>(Xr _ _ _ _ rfl).trans (gq g d Q),λd=>XB _ _ _ _ rfl⟩;have a7:m.heap.size<(m.alloc (.cells (madeCells #[Value.int .i64 0] g) 3)).heap.size:=Xi;clear a6;go_wp2_with fail;generalize m.alloc (.cells (madeCells #[Value.int .i64 0] g) 3)=R at *;clear f3;obtain⟨l,T⟩:∃l,l=m.heap.size:=⟨_,rfl⟩;rw[<-T] at c7 c5 a7 ⊢;replace T:Z _:=T;have V:Z (Kept F R):=c4.o.trans (by rw[T.o] at *;exact c6.o);have c8:=c5;clear c4 c6;go_loopg [8] j (λa8 f4 a=>∃e:Nat,a8=j-e/\e<=j/\f4=.int .i64 e/\Fr1 l R a/\di a l g (λd=>if d/4<e then shP r t h (d/4%h.W) (d/4/h.W) (d%4) else 0))
 case atStart=>exact⟨0,O,O,rfl,Fr.refl _ _,c7.o.congr (λd _=>N)⟩
 case round=>
  obtain⟨e,a9,i2,rfl,v,c9⟩:=hrel;replace a9:Z _:=a9;have d0:Z _:=v;have d1:=U c9;have x:∀d,wr.cell? ⟨w.heap.size,d,none⟩=R.cell? ⟨w.heap.size,d,none⟩:=λd=>v.cell (YZ c8 a7) O
  obtain⟨d2,d3,d4,d5,d6⟩:=f2.o R V.o;have d7:=(x 0).trans d2;have d8:=(x 1).trans d3;have d9:=(x 2).trans d4;have e0:=(x 3).trans d5;have e1:=(x 4).trans d6;have W:=Xq a7 v.size;have y:=YZ c8 W;have f5:Z _:=(e8.o.kept (a4.o.trans V.o)).fr v O;have f6:Z (aS wr):=(b8.o.kept (a4.o.trans V.o)).fr v (by have:=B _ _ (b8.o 0 O);show ¬(_=l);omega);clear v c9 d2 d3 d4 d5 d6 x;have i3:¬(h.W=0):=O;go_wp2_with fail;refine(a2.o _).mono ?_;rintro f X ⟨rfl,q⟩;have z:Z (Kept wr X):=q;have f7:=(q.cell (p:=⟨w.heap.size,0,none⟩) y).trans d7;have f8:=(q.cell (p:=⟨w.heap.size,1,none⟩) y).trans d8;have f9:=(q.cell (p:=⟨w.heap.size,2,none⟩) y).trans d9;have g0:=(q.cell (p:=⟨w.heap.size,3,none⟩) y).trans e0;have g1:=(q.cell (p:=⟨w.heap.size,4,none⟩) y).trans e1;have A:=Xq y q.size;have e2:=Xq W q.size;clear q d7 d8 d9 e0 e1;by_cases g2:e<j
  .have g3:(e:Int)<(j:Int):=O
   obtain⟨s,G⟩:∃s,s=e%h.W:=⟨_,rfl⟩;obtain⟨o,H⟩:∃o,o=e/h.W:=⟨_,rfl⟩;have g4:(e:Int)%(h.W:Int)=(s:Int):=by rw[G];exact(Yo _ _).symm
   have g5:(e:Int)/(h.W:Int)=(o:Int):=by rw[H];exact(YB _ _).symm
   have g6:s<16:=by rw[G];exact Xq (YD _ O) e9
   have g7:o<16:=by
    rw[H];exact Xq (YN (by rw[<-a3.o];exact g2)) f0
   have i4:(e:Int).tmod (h.W:Int)=(s:Int):=by rw[XU O];exact g4
   have i5:(e:Int).tdiv (h.W:Int)=(o:Int):=by rw[XZ O];exact g5
   have i6:IntKind.i64.wrap (o:Int)=(o:Int):=Xd;replace G:Z _:=G;replace H:Z _:=H;obtain⟨C,Y⟩:∃C,C=shP r t h s o:=⟨_,rfl⟩;have g8:Z (∀a,Kept X a->Calls prog 91 #[.agg #[.int .i64 h.W,.int .i64 h.H,.int .i64 h.D,.int .i64 h.K,.int .i64 h.L],.pointer (some ⟨b,o1,none⟩),.pointer (some ⟨b,o2,none⟩),.int .i64 s,.int .i64 o] a λf D=>f=.returned (.agg #[.int .i64 (C 0),.int .i64 (C 1),.int .i64 (C 2),.int .i64 (C 3)])/\Kept a D):=λa J=>by rw[Y];exact CP b o1 o2 n s o c r t h a (f5.o.kept (z.o.trans J)) e7.o e6.o g6 g7 (f6.o.kept (z.o.trans J))
   replace Y:Z _:=Y;have b0:Z (∀a,Kept X a->(a.cell? ⟨w.heap.size,0,none⟩=some (.int .i64 h.W)/\a.cell? ⟨w.heap.size,1,none⟩=some (.int .i64 h.H)/\a.cell? ⟨w.heap.size,2,none⟩=some (.int .i64 h.D)/\a.cell? ⟨w.heap.size,3,none⟩=some (.int .i64 h.K)/\a.cell? ⟨w.heap.size,4,none⟩=some (.int .i64 h.L))):=λa e=>⟨(e.cell (p:=⟨w.heap.size,0,none⟩) A).trans f7,(e.cell (p:=⟨w.heap.size,1,none⟩) A).trans f8,(e.cell (p:=⟨w.heap.size,2,none⟩) A).trans f9,(e.cell (p:=⟨w.heap.size,3,none⟩) A).trans g0,(e.cell (p:=⟨w.heap.size,4,none⟩) A).trans g1⟩
   have g9:Z (∀K a,Kept X K->Fr1 l K a->(a.cell? ⟨w.heap.size,0,none⟩=some (.int .i64 h.W)/\a.cell? ⟨w.heap.size,1,none⟩=some (.int .i64 h.H)/\a.cell? ⟨w.heap.size,2,none⟩=some (.int .i64 h.D)/\a.cell? ⟨w.heap.size,3,none⟩=some (.int .i64 h.K)/\a.cell? ⟨w.heap.size,4,none⟩=some (.int .i64 h.L))):=λK a e h0=>by
    obtain⟨b1,b2,b3,b4,h1⟩:=b0.o K e;have f:∀d,a.cell? ⟨w.heap.size,d,none⟩=K.cell? ⟨w.heap.size,d,none⟩:=λd=>h0.cell (Xq A e.size) O
    exact⟨(f 0).trans b1,(f 1).trans b2,(f 2).trans b3,(f 3).trans b4,(f 4).trans h1⟩
   go_wp2_with fail;go_region_held3 (λa=>a.cell? ⟨w.heap.size,0,none⟩=some (.int .i64 h.W)/\a.cell? ⟨w.heap.size,1,none⟩=some (.int .i64 h.H)/\a.cell? ⟨w.heap.size,2,none⟩=some (.int .i64 h.D)/\a.cell? ⟨w.heap.size,3,none⟩=some (.int .i64 h.K)/\a.cell? ⟨w.heap.size,4,none⟩=some (.int .i64 h.L)) (first|exact b0.o _ ((Kept.refl _).drewN 1)|exact g9.o _ _ L b5|exact b0.o _ L|go_keep) ((first|(go_at_call 91;refine(g8.o _ ((Kept.refl _).drewN 1)).mono ?_;rintro f i7 ⟨rfl,h2⟩;have L:=((Kept.refl _).drewN 1).trans h2)|(go_at_call 89;refine((λa b1 b2 b3 b4 J=>Ak l g e b1 b2 b3 b4 _ a (d1.o.kept (z.o.trans J) W) (Xq e2 J.size) (by have:=P.o;omega) O) _ _ _ _ _ L).mono ?_;rintro f h3 ⟨rfl,e3,b5⟩)))
   have h4:Z (di h3 l g (λd=>if d/4<e+1 then shP r t h (d/4%h.W) (d/4/h.W) (d%4) else 0)):=e3.congr (λd _=>by
    by_cases a0:d/4=e
    .rw[I a0,I,a0,<-G.o,<-H.o,<-Y.o]
     have h5:d%4<4:=YD _ O;generalize d%4=a8 at *
     match a8,h5 with
     | 0,_=>rfl
     | 1,_=>rfl
     | 2,_=>rfl
     | 3,_=>rfl
    .rw[N a0]
     by_cases e4:d/4<e
     .rw[I e4,I]
     .rw[N e4,N])
   have h6:Z _:=(d0.o.kept (z.o.trans L)).trans b5;clear e3 b5 L;go_wp2_with fail;go_roundg (j-(e+1))
   case measure=>rw[a9.o];omega
   case rel=>exact⟨e+1,rfl,O,Xj,h6.o,h4.o⟩
  .have g3:¬(e:Int)<(j:Int):=O
   go_wp2_with fail;go_ret;refine⟨l,by rw[<-a3.o,<-P.o];rfl,O,Xq e2 (E _),λd Q => ?_,?_⟩
   .rw[<-a3.o,<-P.o] at Q
    rw[z.o.cell (p:=⟨l,d,none⟩) W,d1.o.1 d Q]
    have:=P.o
    show some (Value.int .i64 (if d/4<e then shP r t h (d/4%h.W) (d/4/h.W) (d%4) else 0))=_
    rw[I]
   .exact Fr.to_kept (S:=λd=>d=l) (a4.o.trans V.o) (d0.o.kept z.o) (λi i8 a0=>O)
theorem C5 b o n c s w(e:Blk w b n c)(m:RdV c o s)(y:o+5954<=n)(p:et c (o+4401) (o+24) n s.rw s.tl s.hd)(q:∀t,s.tl.pal t<256):Calls prog 44 #[.pointer (some ⟨b,o,none⟩)] w λd f=>zx w (λi=>pxP s.rw s.tl s.hd (i%s.hd.W) (i/s.hd.W)) s.hd d f:=by
 have g:Z (∀a,Kept w a->hdS a b (o+6) s.hd):=λa h=>gI (e.kept h) m.hd O
 have u:Z (∀a,Kept w a->Calls prog 57 #[.agg #[.int .i64 s.hd.W,.int .i64 s.hd.H,.int .i64 s.hd.D,.int .i64 s.hd.K,.int .i64 s.hd.L],.pointer (some ⟨b,o+4401,none⟩),.pointer (some ⟨b,o+24,none⟩)] a λd f=>zx a (λi=>pxP s.rw s.tl s.hd (i%s.hd.W) (i/s.hd.W)) s.hd d f):=λa h=>IT b (o+4401) (o+24) n c s.rw s.tl s.hd a (e.kept h) p q
 clear e m p q;unfold hdS at g;go_enter func44,ntmps44;go_wp2_with fail;go_region_held3 (λa=>a.cell? ⟨b,o+6,none⟩=some (.int .i64 s.hd.W)/\a.cell? ⟨b,o+6+1,none⟩=some (.int .i64 s.hd.H)/\a.cell? ⟨b,o+6+2,none⟩=some (.int .i64 s.hd.D)/\a.cell? ⟨b,o+6+3,none⟩=some (.int .i64 s.hd.K)/\a.cell? ⟨b,o+6+4,none⟩=some (.int .i64 s.hd.L)) (first|exact g.o _ ((Kept.refl _).drewN 1)|exact g.o _ r|go_keep) ((go_at_call 57;refine(u.o _ ((Kept.refl _).drewN 1)).mono ?_;rintro d z ⟨v,rfl,j,k,l,x⟩;have r:=((Kept.refl _).drewN 1).trans x))
 replace l:Z _:=l;replace j:Z _:=j;replace k:Z _:=k;go_wp2_with fail;go_ret;exact⟨v,rfl,j.o,k.o,l.o,r⟩
theorem Ad b o n c s w(f:Blk w b n c)(m:RdV c o s)(z:o+5954<=n)(p:et c (o+4401) (o+24) n s.rw s.tl s.hd)(q:∀u,s.tl.pal u<256)(r:aS w):Calls prog 45 #[.pointer (some ⟨b,o,none⟩)] w λd g=>zx w (λi=>shP s.rw s.tl s.hd (i%s.hd.W) (i/s.hd.W)) s.hd d g:=by
 have h:Z (∀a,Kept w a->hdS a b (o+6) s.hd):=λa e=>gI (f.kept e) m.hd O
 have v:Z (∀a,Kept w a->Calls prog 58 #[.agg #[.int .i64 s.hd.W,.int .i64 s.hd.H,.int .i64 s.hd.D,.int .i64 s.hd.K,.int .i64 s.hd.L],.pointer (some ⟨b,o+4401,none⟩),.pointer (some ⟨b,o+24,none⟩)] a λd g=>zx a (λi=>shP s.rw s.tl s.hd (i%s.hd.W) (i/s.hd.W)) s.hd d g):=λa e=>Hb b (o+4401) (o+24) n c s.rw s.tl s.hd a (f.kept e) p q (r.kept e)
 clear f m p r q;unfold hdS at h;go_enter func45,ntmps45;go_wp2_with fail;go_region_held3 (λa=>a.cell? ⟨b,o+6,none⟩=some (.int .i64 s.hd.W)/\a.cell? ⟨b,o+6+1,none⟩=some (.int .i64 s.hd.H)/\a.cell? ⟨b,o+6+2,none⟩=some (.int .i64 s.hd.D)/\a.cell? ⟨b,o+6+3,none⟩=some (.int .i64 s.hd.K)/\a.cell? ⟨b,o+6+4,none⟩=some (.int .i64 s.hd.L)) (first|exact h.o _ ((Kept.refl _).drewN 1)|exact h.o _ t|go_keep) ((go_at_call 58;refine(v.o _ ((Kept.refl _).drewN 1)).mono ?_;rintro d A ⟨x,rfl,j,k,l,y⟩;have t:=((Kept.refl _).drewN 1).trans y))
 replace l:Z _:=l;replace j:Z _:=j;replace k:Z _:=k;go_wp2_with fail;go_ret;exact⟨x,rfl,j.o,k.o,l.o,t⟩
def SnL(L:List Value)(w1:World)(g:Nat)(W:World):Prop:=L.length=11/\(∀v∈L,v.oneCell'=true)/\Kept w1 W/\Blk W g 11 (λi=>L.getD i undef)
theorem SnL.on{L w1 W W' g}(h:SnL L w1 g W)(k:Kept W W'):SnL L w1 g W':=⟨h.1,h.2.1,h.2.2.1.trans k,h.2.2.2.kept k⟩
theorem SnL.set{L w1 W g k}(h:SnL L w1 g W)(c:w1.heap.size<=g)(d:k<11)v(e:v.oneCell'=true):SnL (L.set k v) w1 g (W.setCell ⟨g,k,none⟩ v):=by
 obtain⟨f,i,j,l⟩:=h;refine⟨by rw[List.length_set];exact f,λm n => ?_,j.setCell c v,?_⟩
 .rcases List.mem_or_eq_of_mem_set n with a|a
  .exact i m a
  .rw[a];exact e
 .have o:(λb=>(L.set k v).getD b undef)=upd (λb=>L.getD b undef) k v:=by
   funext b
   by_cases a:b=k
   .subst a
    rw[upd_same,G,List.getElem?_set_self O];rfl
   .rw[upd_ne _ _ _ a,G,List.getElem?_set_ne (λp=>a p.symm),<-G]
  rw[o];exact l.set d v
theorem SnL.put2{L w1 W g DN}(h:SnL L w1 g W)(a:w1.heap.size<=g)v(b:v=.bool DN):SnL (L.set 2 (.bool DN)) w1 g (W.setCell ⟨g,2,none⟩ v):=by
 subst b;exact h.set a O _ rfl
theorem SnL.cell{L w1 W g}(h:SnL L w1 g W)j(a:j<11):∃b,W.cell? ⟨g,j,none⟩=some b:=⟨_,h.2.2.2.cell j a⟩
def bO(W:World)(lo g N:Nat)(f:Nat->Int):Prop:=lo<=g/\g<W.heap.size/\∀j,j<N->W.cell? ⟨g,j,none⟩=some (.int .i64 (f j))
theorem bO.kept{W W' lo g N f}(h:bO W lo g N f)(k:Kept W W'):bO W' lo g N f:=⟨h.1,Xq h.2.1 k.size,λa b=>(k.cell (p:=⟨g,a,none⟩) h.2.1).trans (h.2.2 a b)⟩
theorem bO.fr{W W' lo g N f}{S:Nat->Prop}(h:bO W lo g N f)(k:Fr S W W')(a:¬S g):bO W' lo g N f:=⟨h.1,Xq h.2.1 k.size,λb c=>(k.cell h.2.1 a).trans (h.2.2 b c)⟩
theorem bO.low{W lo lo' g N f}(h:bO W lo g N f)(k:lo'<=lo):bO W lo' g N f:=⟨Xz k h.1,h.2⟩
def knP(r:Rw)(h:Hd)(j:Nat):Int:=if r.known (j/h.W*16+j%h.W) then 1 else 0
def rX(d:Dc)(DN:Bool):List Value:=[.int .i64 (d.err:Int),.int .i64 (d.at1:Int),.bool DN,.int .i64 0,.int .i64 0,.int .i64 0,.int .i64 0,.int .i64 0,.slice none 0 0,.slice none 0 0,.slice none 0 0]
def snW(d:Dc)(DN:Bool)(gk gp gs:Nat):List Value:=[.int .i64 (d.err:Int),.int .i64 (d.at1:Int),.bool DN,.int .i64 (d.file.hd.W:Int),.int .i64 (d.file.hd.H:Int),.int .i64 (d.file.hd.K:Int),.int .i64 (d.file.hd.D:Int),.int .i64 (d.file.hd.L:Int),.slice (some ⟨gk,0,none⟩) (d.file.hd.W*d.file.hd.H) (d.file.hd.W*d.file.hd.H),.slice (some ⟨gp,0,none⟩) (4*(d.file.hd.W*d.file.hd.H)) (4*(d.file.hd.W*d.file.hd.H)),.slice (some ⟨gs,0,none⟩) (4*(d.file.hd.W*d.file.hd.H)) (4*(d.file.hd.W*d.file.hd.H))]
def SnX(w:World)(d:Dc)(e:Ending)(w':World):Prop:=Kept w w'/\((d.file.hd.W=0/\e=.returned (.agg (rX d (decide (d.err=0)&&decide (d.file.part=5))).toArray))\/(d.file.hd.W≠0/\∃gk gp gs,e=.returned (.agg (snW d (decide (d.err=0)&&decide (d.file.part=5)) gk gp gs).toArray)/\bO w' w.heap.size gk (d.file.hd.W*d.file.hd.H) (knP d.file.rw d.file.hd)/\bO w' w.heap.size gp (4*(d.file.hd.W*d.file.hd.H)) (λj=>pxP d.file.rw d.file.tl d.file.hd (j/4%d.file.hd.W) (j/4/d.file.hd.W) (j%4))/\bO w' w.heap.size gs (4*(d.file.hd.W*d.file.hd.H)) (λj=>shP d.file.rw d.file.tl d.file.hd (j/4%d.file.hd.W) (j/4/d.file.hd.W) (j%4))))
theorem qf b n c d w(b3:Blk w b n c)(d2:DcV c 0 d)(l6:5957<=n)(h0:d.file.hd.W=0\/et c 4401 24 n d.file.rw d.file.tl d.file.hd)(h1:∀a,d.file.tl.pal a<256)(h2:aS w):Calls prog 24 #[.pointer (some ⟨b,0,none⟩)] w λo i6=>SnX w d o i6:=by
 have f3:=b3.lt;have b4:=b3.at (i:=5955) O d2.err;have h3:=b3.at (i:=5956) O d2.at1;have i7:Z _:=b3;have a3:Z _:=d2;have i8:Z _:=h0;obtain⟨a4,a5⟩:∃a4,a4=(decide (d.err=0)&&decide (d.file.part=5)):=⟨_,rfl⟩;unfold SnX;rw[<-a5];have h4:Z _:=h1;clear h1;replace a5:Z _:=a5;have i9:=U h2;have q:Z (Kept w (w.alloc (Obj.cells snZ 50))):=Xw (Xs _ _) (E _) _;have f4:Z (Blk (w.alloc (Obj.cells snZ 50)) w.heap.size 11 (λr=>snZ.getD r undef)):=Blk.new w snZ _ 11 rfl;clear b3 d2 h0 h2;unfold snZ at q f4;go_enter func24,ntmps24;go_upto_region 3 with fail
 generalize w.alloc (Obj.cells #[.int .i64 0,.int .i64 0,.bool false,.int .i64 0,.int .i64 0,.int .i64 0,.int .i64 0,.int .i64 0,.slice none 0 0,.slice none 0 0,.slice none 0 0] 50)=j at *;have b5:=(q.o.cell (p:=⟨b,5955,none⟩) f3).trans b4;have b6:=(q.o.cell (p:=⟨b,5956,none⟩) f3).trans h3;have h5:=Xq f3 q.o.size;replace b5:j.cell? ⟨b,5955,none⟩=some (.int .i64 d.err):=b5;replace b6:j.cell? ⟨b,5956,none⟩=some (.int .i64 d.at1):=b6;clear b4 h3;have h6:Z (∀l,Kept j l->(l.cell? ⟨b,5955,none⟩=some (.int .i64 d.err)/\l.cell? ⟨b,5956,none⟩=some (.int .i64 d.at1))):=λl a6=>⟨(a6.cell (p:=⟨b,5955,none⟩) h5).trans b5,(a6.cell (p:=⟨b,5956,none⟩) h5).trans b6⟩
 go_region_held3 (λl=>l.cell? ⟨b,5955,none⟩=some (.int .i64 d.err)/\l.cell? ⟨b,5956,none⟩=some (.int .i64 d.at1)) (first|exact⟨b5,b6⟩|exact h6.o _ (Xw ((Kept.refl _).drewN 1) Xi _)|go_keep) (fail)
 have a7:Z (SnL (rX d false) j j.heap.size (j.alloc (Obj.cells #[.int .i64 d.err,.int .i64 d.at1,.bool false,.int .i64 0,.int .i64 0,.int .i64 0,.int .i64 0,.int .i64 0,.slice none 0 0,.slice none 0 0,.slice none 0 0] 50)).drew):=by
  refine⟨rfl,λh b7 => ?_,(Kept.drewN (Xw (Xs _ _) (E _) _) 1),?_⟩
  .unfold rX at b7
   simp only[Y4,List.not_mem_nil,or_false] at b7;rcases b7 with rfl|rfl|rfl|rfl|rfl|rfl|rfl|rfl|rfl|rfl|rfl<;>rfl
  .have o:(λr=>(rX d false).getD r undef)=(λr=>(#[.int .i64 d.err,.int .i64 d.at1,.bool false,.int .i64 0,.int .i64 0,.int .i64 0,.int .i64 0,.int .i64 0,.slice none 0 0,.slice none 0 0,.slice none 0 0]:Array Value).getD r undef):=by
    funext r
    rw[Ys,List.getElem?_toArray,G];rfl
   rw[o];exact((Blk.new j _ _ 11 rfl).kept ((Kept.refl _).drewN 1))
 clear h6 b5 b6;generalize (j.alloc (Obj.cells #[.int .i64 d.err,.int .i64 d.at1,.bool false,.int .i64 0,.int .i64 0,.int .i64 0,.int .i64 0,.int .i64 0,.slice none 0 0,.slice none 0 0,.slice none 0 0] 50)).drew=b8 at *;obtain⟨e,d3⟩:∃b9,b9=j.heap.size:=⟨_,rfl⟩;rw[<-d3] at a7 ⊢;have s:j.heap.size<=e:=by rw[d3];exact E _
 replace d3:Z _:=d3;obtain⟨N,c0⟩:∃N,N=rX d a4:=⟨_,rfl⟩;have h7:Z (∀l h,SnL (rX d false) j e l->h=.bool a4->SnL N j e (l.setCell ⟨e,2,none⟩ h)):=λl h j0 o=>by rw[c0];exact j0.put2 s h o
 replace c0:Z _:=c0;have a8:Z (∀l,Kept j l->Blk l b n c):=λl a6=>(i7.o.kept q.o).kept a6
 have j1:Z (∀l,Kept j l->aS l):=λl a6=>(i9.o.kept q.o).kept a6
 go_upto_region 4 with fail
 go_cut [] from 17 (λl=>SnL N j e l)
 case first=>
  have f5:=a7.o.2.2.1;have f6:=a7.o.2.2.2;have b4:=(a8.o b8 f5).at (i:=5955) O a3.o.err;replace b4:b8.cell? ⟨b,5955,none⟩=some (.int .i64 d.err):=b4;obtain⟨P,l7⟩:∃P,b8.cell? ⟨e,2,none⟩=some P:=⟨_,f6.cell 2 O⟩;have l8:=f6.fz 2;have j2:=U (gi b 0 n c d.file b8 (a8.o b8 f5) a3.o.file O);clear f6 f5;have j3:Z (d.err=0->a4=decide (d.file.part=5)):=λu=>by rw[a5.o,K u];rfl
  have j4:Z (d.err≠0->a4=false):=λu=>by rw[a5.o,J u];rfl
  clear a5;generalize decide (d.file.part=5)=l9 at *;by_cases d4:d.err=0
  .have j5:((d.err:Int)==0)=true:=by rw[XI];omega
   have c1:Z _:=j3.o d4;replace d4:Z _:=d4;go_wp2_with fail;refine j2.o.mono ?_;rintro o j6 ⟨rfl,m0⟩;subst j6;go_wp2_with fail
   all_goals
    go_meet
    case rel=>exact h7.o _ _ a7.o (by first|(rw[c1.o];done)|(rw[c1.o];rfl)|(have:=c1.o;simp_all))
  .have j5:((d.err:Int)==0)=false:=by rw[F];omega
   have c1:Z _:=j4.o d4;go_wp2_with fail;go_meet
   case rel=>exact h7.o _ _ a7.o (by rw[c1.o])
 case rest=>
  have c2:=U hcut;clear hcut a7;go_wp2_with fail;refine(mM b 0 n c d.file wc (a8.o wc c2.o.2.2.1) a3.o.file O).mono ?_;rintro o Q ⟨rfl,d5⟩;have c3:Z (SnL N j e (Q.alloc (Obj.cells #[.int .i64 d.file.hd.W,.int .i64 d.file.hd.H,.int .i64 d.file.hd.D,.int .i64 d.file.hd.K,.int .i64 d.file.hd.L] 71))):=(c2.o.on d5).on (Xw (Xs _ _) (E _) _);have C:Z (∀a h,(#[Value.int .i64 d.file.hd.W,.int .i64 d.file.hd.H,.int .i64 d.file.hd.D,.int .i64 d.file.hd.K,.int .i64 d.file.hd.L]:Array Value)[a]? = some h->(Q.alloc (Obj.cells #[.int .i64 d.file.hd.W,.int .i64 d.file.hd.H,.int .i64 d.file.hd.D,.int .i64 d.file.hd.K,.int .i64 d.file.hd.L] 71)).cell? ⟨Q.heap.size,a,none⟩=some h):=λa h b7=>(Xr _ _ _ _ rfl).trans b7
  have h8:e<Q.heap.size:=by
   exact Xq c2.o.2.2.2.lt d5.size
  by_cases d6:d.file.hd.W=0
  .have h9:((d.file.hd.W:Int)==0)=true:=by rw[XI];omega
   replace d6:Z _:=d6;clear d5 c2;go_upto_region 6 with fail
   generalize Q.alloc (Obj.cells #[.int .i64 d.file.hd.W,.int .i64 d.file.hd.H,.int .i64 d.file.hd.D,.int .i64 d.file.hd.K,.int .i64 d.file.hd.L] 71)=t at *;obtain⟨j7,c4⟩:∃b9,b9=Q.heap.size:=⟨_,rfl⟩;rw[<-c4] at C h8 ⊢;clear c4;have i0:=C.o 0 _ rfl;obtain⟨x,D,W,X⟩:=c3.o;obtain⟨f,H⟩:∃f,f=N:=⟨_,rfl⟩;rw[<-H] at x D X;have f7:Z (t.rangeAt e 0 f):=by
    show t.rangeAt e 0 f
    have:=X.range (k:=0) (m:=11) O
    have o:(List.range 11).map (λa=>(λr=>f.getD r undef) (0+a))=f:=by
     apply List.ext_getElem?;intro a;by_cases u:a<11
     .rw[cg _ 11 a u,XD]
      show some (f.getD a undef)=_
      rw[G,Xt O];rfl
     .rw[XX (by rw[List.length_map,List.length_range];omega),XX O]
    rw[o] at this;exact this
   have Y:Z ((prog.info? 50).map (·.size)=some f.length):=by show _=_;rw[x];exact nr
   have c5:=f4.o.kept W;have c6:Z (t.there w.heap.size 0 f.length):=by show t.there _ 0 f.length;rw[x];exact c5.there O
   have j8:(storeCells ⟨w.heap.size,0,none⟩ f).run prog t=.ok () (t.setCells w.heap.size 0 f):=aM c6.o D;have f8:Z _:=
    Yw _ _ _ _ f _ (XO _ _ _ _ c6.o) underlying50 rfl Y.o
   have a9:Z (Fr1 w.heap.size t (t.setCells w.heap.size 0 f)):=Fr1.sets _ _ (Fr.refl _ _);have f9:Z (Kept w (t.setCells w.heap.size 0 f)):=Fr.to_kept (S:=λa=>a=w.heap.size) (q.o.trans W) a9.o (λr Y o=>O);replace H:Z _:=H;replace x:Z _:=x;replace D:Z _:=D;clear X c5;clear W;go_upto_region 7 with fail
   go_step;refine wpList_load_mid rfl 50 _ rfl e 0 rfl f _ f7.o underlying50 rfl Y.o ?_;go_wp2;exact XA (v := .agg f.toArray) (ah rfl _ _ _ _ _ rfl f8.o) rfl ⟨f9.o,L ⟨d6.o,by rw[H.o,c0.o]⟩⟩
  have T:Z (et c 4401 24 n d.file.rw d.file.tl d.file.hd):=by rcases i8.o with u|u;exact absurd u d6;exact u
  have h9:((d.file.hd.W:Int)==0)=false:=by have:=T.o.W1;rw[F];omega
  clear d5 c2;go_upto_region 6 with fail
  generalize Q.alloc (Obj.cells #[.int .i64 d.file.hd.W,.int .i64 d.file.hd.H,.int .i64 d.file.hd.D,.int .i64 d.file.hd.K,.int .i64 d.file.hd.L] 71)=t at *;obtain⟨j7,c4⟩:∃b9,b9=Q.heap.size:=⟨_,rfl⟩;rw[<-c4] at C h8 ⊢;clear c4;have i0:=C.o 0 _ rfl;have j9:=C.o 1 _ rfl;have k0:=C.o 2 _ rfl;have k1:=C.o 3 _ rfl;have k2:=C.o 4 _ rfl;have b0:Z _:=c3.o.cell;have k3:=c3.o.2.2.2.fz;obtain⟨m1,k4⟩:=b0.o 3 O;obtain⟨m2,k5⟩:=b0.o 4 O;obtain⟨m3,k6⟩:=b0.o 5 O;obtain⟨m4,k7⟩:=b0.o 6 O;obtain⟨m5,k8⟩:=b0.o 7 O;have c7:Z (SnL (((((N.set 3 (.int .i64 d.file.hd.W)).set 4 (.int .i64 d.file.hd.H)).set 5 (.int .i64 d.file.hd.K)).set 6 (.int .i64 d.file.hd.D)).set 7 (.int .i64 d.file.hd.L)) j e (((((t.setCell ⟨e,3,none⟩ (.int .i64 d.file.hd.W)).setCell ⟨e,4,none⟩ (.int .i64 d.file.hd.H)).setCell ⟨e,5,none⟩ (.int .i64 d.file.hd.K)).setCell ⟨e,6,none⟩ (.int .i64 d.file.hd.D)).setCell ⟨e,7,none⟩ (.int .i64 d.file.hd.L))):=((((c3.o.set s O _ rfl).set s O _ rfl).set s O _ rfl).set s O _ rfl).set s O _ rfl;obtain⟨d7,d8⟩:∃d7,d7=((((N.set 3 (.int .i64 d.file.hd.W)).set 4 (.int .i64 d.file.hd.H)).set 5 (.int .i64 d.file.hd.K)).set 6 (.int .i64 d.file.hd.D)).set 7 (.int .i64 d.file.hd.L):=⟨_,rfl⟩;rw[<-d8] at c7;replace d8:Z _:=d8;go_wp2_with fail;generalize ((((t.setCell ⟨e,3,none⟩ (.int .i64 d.file.hd.W)).setCell ⟨e,4,none⟩ (.int .i64 d.file.hd.H)).setCell ⟨e,5,none⟩ (.int .i64 d.file.hd.K)).setCell ⟨e,6,none⟩ (.int .i64 d.file.hd.D)).setCell ⟨e,7,none⟩ (.int .i64 d.file.hd.L)=g0 at *;clear i0 j9 k0 k1 k2 k4 k5 k6 k7 k8 b0 k3 c3 C h9;have g1:Z (Kept j g0):=c7.o.2.2.1;refine(kI b 0 n c d.file g0 (a8.o g0 g1.o) a3.o.file O T.o.W1 T.o.W2 T.o.H1 T.o.H2).mono ?_;rintro o c8 ⟨⟨z,rfl,g2,i1,i2⟩,i3⟩;have d9:=U (c7.o.on i3);have m6:=Xq c7.o.2.2.2.lt g2;have V:=Xz q.o.size g1.o.size;have i4:Z (bO c8 w.heap.size z (d.file.hd.W*d.file.hd.H) (knP d.file.rw d.file.hd)):=⟨Xz V g2,i1,i2⟩;have g3:Z (∀h,bO (c8.setCell ⟨e,8,none⟩ h) w.heap.size z (d.file.hd.W*d.file.hd.H) (knP d.file.rw d.file.hd)):=λh=>i4.o.fr (S:=λa=>a=e) (Fr1.set (Fr.refl _ _) _ _) O
  obtain⟨m7,k9⟩:∃P,c8.cell? ⟨e,8,none⟩=some P:=d9.o.cell 8 O;have l0:=d9.o.2.2.2.fz;have b1:Z (SnL (d7.set 8 (.slice (some ⟨z,0,none⟩) (d.file.hd.W*d.file.hd.H) (d.file.hd.W*d.file.hd.H))) j e (c8.setCell ⟨e,8,none⟩ (.slice (some ⟨z,0,none⟩) (d.file.hd.W*d.file.hd.H) (d.file.hd.W*d.file.hd.H)))):=d9.o.set s O _ rfl;obtain⟨y,I⟩:∃y,y=d.file.hd.W*d.file.hd.H:=⟨_,rfl⟩;rw[<-I] at b1 g3 ⊢;have i5:Z _:=g3.o (.slice (some ⟨z,0,none⟩) y y);clear i4 g3 V;obtain⟨e0,e1⟩:∃e0,e0=d7.set 8 (.slice (some ⟨z,0,none⟩) y y):=⟨_,rfl⟩;rw[<-e1] at b1;replace e1:Z _:=e1;replace I:Z _:=I;clear g2 i1 i2 i3 c7 g1;go_wp2_with fail;generalize c8.setCell ⟨e,8,none⟩ (.slice (some ⟨z,0,none⟩) y y)=g4 at *;clear k9 l0 d9;have g5:Z (Kept j g4):=b1.o.2.2.1;refine(C5 b 0 n c d.file g4 (a8.o g4 g5.o) a3.o.file O T.o h4.o).mono ?_;rintro o b2 ⟨A,rfl,a0,c9,d0,g6⟩;have e2:=U (b1.o.on g6);have m8:=Xq b1.o.2.2.2.lt a0;have V:=Xz q.o.size g5.o.size;have e3:Z (bO b2 w.heap.size A (4*(d.file.hd.W*d.file.hd.H)) (λa=>pxP d.file.rw d.file.tl d.file.hd (a/4%d.file.hd.W) (a/4/d.file.hd.W) (a%4))):=⟨Xz V a0,c9,d0⟩;rw[<-I.o] at e3 ⊢;obtain⟨g,a1⟩:∃g,g=4*y:=⟨_,rfl⟩;rw[<-a1] at e3 ⊢;replace a1:Z _:=a1;have e4:Z (∀h,bO (b2.setCell ⟨e,9,none⟩ h) w.heap.size z y (knP d.file.rw d.file.hd)):=λh=>bO.fr (bO.kept i5.o g6) (S:=λa=>a=e) (Fr1.set (Fr.refl _ _) _ _) O
  have e5:Z (∀h,bO (b2.setCell ⟨e,9,none⟩ h) w.heap.size A g (λa=>pxP d.file.rw d.file.tl d.file.hd (a/4%d.file.hd.W) (a/4/d.file.hd.W) (a%4))):=λh=>e3.o.fr (S:=λa=>a=e) (Fr1.set (Fr.refl _ _) _ _) O
  replace e4:Z _:=e4.o (.slice (some ⟨A,0,none⟩) g g);replace e5:Z _:=e5.o (.slice (some ⟨A,0,none⟩) g g);clear a0 c9 d0 e3 i5 V;obtain⟨m9,l1⟩:∃P,b2.cell? ⟨e,9,none⟩=some P:=e2.o.cell 9 O;have l2:=e2.o.2.2.2.fz;have d1:Z (SnL (e0.set 9 (.slice (some ⟨A,0,none⟩) g g)) j e (b2.setCell ⟨e,9,none⟩ (.slice (some ⟨A,0,none⟩) g g))):=e2.o.set s O _ rfl;obtain⟨e6,e7⟩:∃e6,e6=e0.set 9 (.slice (some ⟨A,0,none⟩) g g):=⟨_,rfl⟩;rw[<-e7] at d1;replace e7:Z _:=e7;clear g6 b1 g5;go_wp2_with fail;generalize b2.setCell ⟨e,9,none⟩ (.slice (some ⟨A,0,none⟩) g g)=e8 at *;clear l1 l2 e2;have e9:Z (Kept j e8):=d1.o.2.2.1;refine(Ad b 0 n c d.file e8 (a8.o e8 e9.o) a3.o.file O T.o h4.o (j1.o e8 e9.o)).mono ?_;rintro o a2 ⟨B,rfl,a0,c9,d0,f0⟩;have f1:=U (d1.o.on f0);have n0:=Xq d1.o.2.2.2.lt a0;have V:=Xz q.o.size e9.o.size;have g7:Z (bO a2 w.heap.size B (4*(d.file.hd.W*d.file.hd.H)) (λa=>shP d.file.rw d.file.tl d.file.hd (a/4%d.file.hd.W) (a/4/d.file.hd.W) (a%4))):=⟨Xz V a0,c9,d0⟩;rw[<-I.o,<-a1.o] at g7 ⊢;have f2:Z (∀h,bO (a2.setCell ⟨e,10,none⟩ h) w.heap.size z y (knP d.file.rw d.file.hd)):=λh=>bO.fr (bO.kept e4.o f0) (S:=λa=>a=e) (Fr1.set (Fr.refl _ _) _ _) O
  have g8:Z (∀h,bO (a2.setCell ⟨e,10,none⟩ h) w.heap.size A g (λa=>pxP d.file.rw d.file.tl d.file.hd (a/4%d.file.hd.W) (a/4/d.file.hd.W) (a%4))):=λh=>bO.fr (bO.kept e5.o f0) (S:=λa=>a=e) (Fr1.set (Fr.refl _ _) _ _) O
  have g9:Z (∀h,bO (a2.setCell ⟨e,10,none⟩ h) w.heap.size B g (λa=>shP d.file.rw d.file.tl d.file.hd (a/4%d.file.hd.W) (a/4/d.file.hd.W) (a%4))):=λh=>g7.o.fr (S:=λa=>a=e) (Fr1.set (Fr.refl _ _) _ _) O
  replace f2:Z _:=f2.o (.slice (some ⟨B,0,none⟩) g g);replace g8:Z _:=g8.o (.slice (some ⟨B,0,none⟩) g g);replace g9:Z _:=g9.o (.slice (some ⟨B,0,none⟩) g g);clear a0 c9 d0 g7 e4 e5 V;obtain⟨n1,l3⟩:∃P,a2.cell? ⟨e,10,none⟩=some P:=f1.o.cell 10 O;have l4:=f1.o.2.2.2.fz;have l5:Z (SnL (e6.set 10 (.slice (some ⟨B,0,none⟩) g g)) j e (a2.setCell ⟨e,10,none⟩ (.slice (some ⟨B,0,none⟩) g g))):=f1.o.set s O _ rfl;clear f0 d1 e9;go_upto_region 16 with fail
  generalize a2.setCell ⟨e,10,none⟩ (.slice (some ⟨B,0,none⟩) g g)=M at *;clear l3 l4 f1;obtain⟨x,D,W,X⟩:=l5.o;obtain⟨f,H⟩:∃f,f=e6.set 10 (.slice (some ⟨B,0,none⟩) g g):=⟨_,rfl⟩;rw[<-H] at x D X;have f7:Z (M.rangeAt e 0 f):=by
   show M.rangeAt e 0 f
   have:=X.range (k:=0) (m:=11) O
   have o:(List.range 11).map (λa=>(λr=>f.getD r undef) (0+a))=f:=by
    apply List.ext_getElem?;intro a;by_cases u:a<11
    .rw[cg _ 11 a u,XD]
     show some (f.getD a undef)=_
     rw[G,Xt O];rfl
    .rw[XX (by rw[List.length_map,List.length_range];omega),XX O]
   rw[o] at this;exact this
  have Y:Z ((prog.info? 50).map (·.size)=some f.length):=by show _=_;rw[x];exact nr
  have c5:=f4.o.kept W;have c6:Z (M.there w.heap.size 0 f.length):=by show M.there _ 0 f.length;rw[x];exact c5.there O
  have j8:(storeCells ⟨w.heap.size,0,none⟩ f).run prog M=.ok () (M.setCells w.heap.size 0 f):=aM c6.o D;have f8:Z _:=
   Yw _ _ _ _ f _ (XO _ _ _ _ c6.o) underlying50 rfl Y.o
  have a9:Z (Fr1 w.heap.size M (M.setCells w.heap.size 0 f)):=Fr1.sets _ _ (Fr.refl _ _);have f9:Z (Kept w (M.setCells w.heap.size 0 f)):=Fr.to_kept (S:=λa=>a=w.heap.size) (q.o.trans W) a9.o (λr Y o=>O);replace H:Z _:=H;replace x:Z _:=x;replace D:Z _:=D;clear X c5;clear W;go_step;refine wpList_load_mid rfl 50 _ rfl e 0 rfl f _ f7.o underlying50 rfl Y.o ?_;go_wp2;refine XA (v := .agg f.toArray) (ah rfl _ _ _ _ _ rfl f8.o) rfl ⟨f9.o,R ⟨by have:=T.o.W1;omega,z,A,B,?_,?_,?_,?_⟩⟩
  .rw[H.o,e7.o,e1.o,d8.o,c0.o,a1.o,I.o];rfl
  .rw[<-I.o];exact bO.fr f2.o (S:=λa=>a=w.heap.size) a9.o (by have:=f2.o.1;have:=s;have:=q.o.size;omega)
  .rw[<-I.o,<-a1.o];exact bO.fr g8.o (S:=λa=>a=w.heap.size) a9.o (by have:=s;have:=q.o.size;omega)
  .rw[<-I.o,<-a1.o];exact bO.fr g9.o (S:=λa=>a=w.heap.size) a9.o (by have:=s;have:=q.o.size;omega)
