import Derived.Test.YtbedkdnphobmlaaGreatDoorProg
import Derived.Deep.RegionHeld3
import Derived.BigQuiet
import Derived.Test.YtbedkdnphobmlaaGreatDoorUaa00
import Derived.Test.YtbedkdnphobmlaaGreatDoorUaa01
import Derived.Test.YtbedkdnphobmlaaGreatDoorUaa33
set_option linter.all false
set_option maxRecDepth 100000
set_option maxHeartbeats 0
namespace Go.Proofs.YtbedkdnphobmlaaGreatDoor
open Go.RowKit Px Tryz
def wdN(D v:Nat):Nat:=v*65535/(2^D-1)
theorem fZ(v D:Nat)w(c:D=1\/D=2\/D=4\/D=8\/D=16)(r:v<65536):Calls prog 47 #[.int .i64 v,.int .i64 D] w λm n=>m=.returned (.int .i64 (wdN D v))/\n=w:=by
 have h:wrap64 (2^D)=((2^D:Nat):Int):=by rcases c with rfl|rfl|rfl|rfl|rfl<;>kernel_rfl
 obtain⟨a,e⟩:∃a,a=2^D-1:=⟨_,rfl⟩;have i:2^D=a+1:=by have:=Nat.two_pow_pos D;omega
 have s:1<=a:=by rcases c with rfl|rfl|rfl|rfl|rfl<;>(rw[e];decide)
 have t:a<=65535:=by rcases c with rfl|rfl|rfl|rfl|rfl<;>(rw[e];decide)
 rw[i] at h;have j:Z (wdN D v=v*65535/a):=by show wdN D v=_;unfold wdN;rw[<-e]
 obtain⟨b,k⟩:∃b,b=v*65535:=⟨_,rfl⟩;have u:(v:Int)*65535=(b:Int):=O;have o:b<=4294967295:=O;obtain⟨d,f⟩:∃d,d=b/a:=⟨_,rfl⟩;have p:(b:Int)/(a:Int)=(d:Int):=by rw[f];exact(YB _ _).symm
 have x:(b:Int).tdiv (a:Int)=(d:Int):=by rw[XZ O];exact p
 have y:d<=4294967295:=by rw[f];exact Xz (Yz _ _) o
 rw[<-k,<-f] at j;have z:¬((a:Int)=0):=O;have A:¬(a=0):=O;have q:((a+1:Nat):Int)-1=(a:Int):=O;obtain⟨g,l⟩:∃g,g=a+1:=⟨_,rfl⟩;rw[<-l] at h;have q:(g:Int)-1=(a:Int):=O;have B:D<=16:=O;clear k f e i l;generalize wdN D v=C at *;replace c:Z _:=c;go_enter func47,ntmps47;go_wp2;go_ret;exact⟨an (by rw[j.o]),rfl⟩
def dg(w:World)(a0 a1 a2 a3:Int)(e:Ending)(w':World):Prop:=∃g,e=.returned (.slice (some ⟨g,0,none⟩) 4 4)/\w.heap.size<=g/\w'.cell? ⟨g,0,none⟩=some (.int .i64 a0)/\w'.cell? ⟨g,1,none⟩=some (.int .i64 a1)/\w'.cell? ⟨g,2,none⟩=some (.int .i64 a2)/\w'.cell? ⟨g,3,none⟩=some (.int .i64 a3)/\Kept w w'
theorem ee{w W}(k:Kept w W)a0 a1 a2 a3 t W'(a:Kept (W.alloc (Obj.cells #[.int .i64 a0,.int .i64 a1,.int .i64 a2,.int .i64 a3] t)) W'):dg w a0 a1 a2 a3 (.returned (.slice (some ⟨W.heap.size,0,none⟩) 4 4)) W':=by
 have b:W.heap.size<(W.alloc (Obj.cells #[.int .i64 a0,.int .i64 a1,.int .i64 a2,.int .i64 a3] t)).heap.size:=Xi;refine⟨W.heap.size,rfl,k.size,?_,?_,?_,?_,Kept.trans (Xw k k.size _) a⟩ <;>
 exact(a.cell (p:=⟨W.heap.size,_,none⟩) b).trans ((Xr _ _ _ _ rfl).trans rfl)
theorem dg.of{w w' e b0 b1 b2 b3 a0 a1 a2 a3}(h:dg w b0 b1 b2 b3 e w')(a:b0=a0)(b:b1=a1)(c:b2=a2)(d:b3=a3):dg w a0 a1 a2 a3 e w':=by rw[<-a,<-b,<-c,<-d];exact h
theorem xD(x k D b f N V G r W s H c d j l m A:Nat)qp w(b6:w.cell? ⟨x,2,none⟩=some (.int .i64 3))(X:w.cell? ⟨x,4,none⟩=some (.slice (some ⟨c,d,none⟩) V r))(Y:w.cell? ⟨x,5,none⟩=some (.slice qp f W))(b7:w.cell? ⟨x,6,none⟩=some (.slice (some ⟨s,H,none⟩) N G))(b8:k+1<=G)(b9:k<100000)(c0:3*b+3<=r)(c1:b<256)(a0:w.cell? ⟨s,H+k,none⟩=some (.int .i64 b))(t:w.cell? ⟨c,d+3*b,none⟩=some (.int .i64 j))(u:w.cell? ⟨c,d+3*b+1,none⟩=some (.int .i64 l))(v:w.cell? ⟨c,d+3*b+2,none⟩=some (.int .i64 m))(c2:j<256)(c3:l<256)(c4:m<256)(c5:A<256)(a1:b<f->∃g h,qp=some ⟨g,h,none⟩/\w.cell? ⟨g,h+b,none⟩=some (.int .i64 A)):Calls prog 29 #[.pointer (some ⟨x,0,none⟩),.int .i64 k] w λy J=>dg w ((j*257:Nat):Int) ((l*257:Nat):Int) ((m*257:Nat):Int) ((if b<f then A*257 else 65535:Nat):Int) y J:=by
 have a5:Z (∀a,Calls prog 35 #[.int .i64 3] a λa6 J=>a6=.returned (.int .i64 1)/\J=a):=λa=>dE 3 a O
 obtain⟨n,a7⟩:∃n,n=k+1:=⟨_,rfl⟩;obtain⟨e,a2⟩:∃K,K=3*b:=⟨_,rfl⟩;obtain⟨z,a8⟩:∃K,K=3*b+3:=⟨_,rfl⟩;have c6:(k:Int)+1=(n:Int):=O;have c7:3*(b:Int)=(e:Int):=O;have c8:(e:Int)+3=(z:Int):=O;have c9:k<=n:=O;have d0:n<=G:=O;have d1:e<=z:=O;have d2:z<=r:=O;have d3:z-e=3:=O;have d4:n-k=1:=O;rw[<-a2] at t u v;have C:Z (∀a,Kept w a->a.cell? ⟨c,d+e,none⟩=some (.int .i64 j)/\a.cell? ⟨c,d+e+1,none⟩=some (.int .i64 l)/\a.cell? ⟨c,d+e+2,none⟩=some (.int .i64 m)):=λa k=>⟨(k.cell (p:=⟨c,d+e,none⟩) (B _ _ t)).trans t,(k.cell (p:=⟨c,d+e+1,none⟩) (B _ _ u)).trans u,(k.cell (p:=⟨c,d+e+2,none⟩) (B _ _ v)).trans v⟩
 have a3:Z (∀a,Kept w a->a.cell? ⟨x,5,none⟩=some (.slice qp f W)/\a.cell? ⟨s,H+k,none⟩=some (.int .i64 b)/\a.cell? ⟨x,4,none⟩=some (.slice (some ⟨c,d,none⟩) V r)):=λa k=>⟨(k.cell (p:=⟨x,5,none⟩) (B _ _ Y)).trans Y,(k.cell (p:=⟨s,_,none⟩) (B _ _ a0)).trans a0,(k.cell (p:=⟨x,4,none⟩) (B _ _ X)).trans X⟩
 have a9:Z (∀a,Kept w a->b<f->∃g h,qp=some ⟨g,h,none⟩/\a.cell? ⟨g,h+b,none⟩=some (.int .i64 A)):=λa k b0=>by
  obtain⟨g,h,y,a4⟩:=a1 b0;exact⟨g,h,y,(k.cell (p:=⟨g,h+b,none⟩) (B _ _ a4)).trans a4⟩
 obtain⟨E,L⟩:∃E,E=(if b<f then A*257 else 65535:Nat):=⟨_,rfl⟩;have o:Z _:=L;rw[<-L];clear a1 t u v a7 a2 a8 L;go_enter func29,ntmps29;go_wp2_with fail;refine(a5.o _).mono ?_;rintro y b1 ⟨rfl,d5⟩;subst b1;go_wp2_with fail;go_quiet (fail);have M:Z (Kept w (w.drewN nq)):=(Kept.refl _).drewN _;generalize w.drewN nq=q at *;obtain⟨b2,b3,b4⟩:=a3.o q M.o;by_cases P:b<f
 .have b5:(b:Int)<(f:Int):=O
  have d6:(0:Int)<=(b:Int):=O;replace o:Z (E=A*257):=o.o.trans (I P);go_wp2_with fail;go_quiet (fail);have i:Z (Kept w (q.drewN nq)):=M.o.drewN _;generalize q.drewN nq=F at *;obtain⟨b2,b3,b4⟩:=a3.o F i.o;obtain⟨d7,d8,rfl,d9⟩:=a9.o F i.o P;go_wp2_with fail;go_quiet (fail);have Q:Z (Kept w (F.drewN nq)):=i.o.drewN _;generalize F.drewN nq=R at *;obtain⟨S,T,U⟩:=C.o R Q.o;go_wp2_with fail;go_region_held3 (λa=>a.cell? ⟨c,d+e,none⟩=some (.int .i64 j)/\a.cell? ⟨c,d+e+1,none⟩=some (.int .i64 l)/\a.cell? ⟨c,d+e+2,none⟩=some (.int .i64 m)) (first|exact⟨S,T,U⟩|exact C.o _ (Kept.trans Q.o (Xw ((Kept.refl _).drewN 1) Xi _))|go_keep) (fail)
  go_wp2_with fail;go_ret
  have:=o.o
  refine dg.of (ee Q.o _ _ _ _ _ _ ((Kept.refl _).drewN 1)) ?_ ?_ ?_ ?_<;>first|omega|(rw[XC];omega)
 .have b5:¬(b:Int)<(f:Int):=O
  replace o:Z (E=65535):=o.o.trans (if_neg P);go_wp2_with fail;go_quiet (fail);have i:Z (Kept w (q.drewN nq)):=M.o.drewN _;generalize q.drewN nq=R at *;obtain⟨S,T,U⟩:=C.o R i.o;go_wp2_with fail;go_region_held3 (λa=>a.cell? ⟨c,d+e,none⟩=some (.int .i64 j)/\a.cell? ⟨c,d+e+1,none⟩=some (.int .i64 l)/\a.cell? ⟨c,d+e+2,none⟩=some (.int .i64 m)) (first|exact⟨S,T,U⟩|exact C.o _ (Kept.trans i.o (Xw ((Kept.refl _).drewN 1) Xi _))|go_keep) (fail)
  go_wp2_with fail;go_ret
  have:=o.o
  refine dg.of (ee i.o _ _ _ _ _ _ ((Kept.refl _).drewN 1)) ?_ ?_ ?_ ?_<;>first|omega|(rw[XC];omega)
theorem xF(x k D N xc gx ox Q qc:Nat)(V0:Nat)(qp:Option Addr)(SM:Bool)(w:World)(c2:w.cell? ⟨x,2,none⟩=some (.int .i64 0))(c3:w.cell? ⟨x,3,none⟩=some (.int .i64 D))(c5:w.cell? ⟨x,5,none⟩=some (.slice qp Q qc))(c6:w.cell? ⟨x,6,none⟩=some (.slice (some ⟨gx,ox,none⟩) N xc))(hk:k*1+1<=xc)(hk2:k<100000)(hD:D=1\/D=2\/D=4\/D=8\/D=16)(v0:w.cell? ⟨gx,ox+(k*1+0),none⟩=some (.int .i64 V0))(z0:V0<65536)(FZ:∀W,Kept w W->Calls prog 27 #[.slice (some ⟨gx,ox+k*1,none⟩) 1 (xc-k*1),.slice qp Q qc] W λe w'=>e=.returned (.bool SM)/\Kept W w'):Calls prog 29 #[.pointer (some ⟨x,0,none⟩),.int .i64 k] w λe w'=>dg w ((wdN D V0:Nat):Int) ((wdN D V0:Nat):Int) ((wdN D V0:Nat):Int) (if SM then 0 else 65535) e w':=by
 have FC:Z (∀W,Calls prog 35 #[.int .i64 0] W λr w'=>r=.returned (.int .i64 1)/\w'=W):=λW=>dE 0 W O
 obtain⟨T0,hT0⟩:∃T,T=k*1:=⟨_,rfl⟩;obtain⟨T1,hT1⟩:∃T,T=k*1+1:=⟨_,rfl⟩;have e1:(k:Int)*1=(T0:Int):=O;have e2:(T0:Int)+1=(T1:Int):=O;have b1:T0<=T1:=O;have b2:T1<=xc:=O;have b3:T1-T0=1:=O;have b4:T0<1000000:=O;rw[<-hT0,X5] at v0;rw[<-hT0] at FZ;replace FZ:Z _:=FZ;have FW0:Z (∀W,Calls prog 47 #[.int .i64 V0,.int .i64 D] W λe w'=>e=.returned (.int .i64 (wdN D V0))/\w'=W):=λW=>fZ V0 D W hD z0
 generalize wdN D V0=R0 at *;have HL:Z (∀W,Kept w W->W.cell? ⟨x,3,none⟩=some (.int .i64 D)/\W.cell? ⟨gx,ox+T0,none⟩=some (.int .i64 V0)/\W.cell? ⟨x,2,none⟩=some (.int .i64 0)/\W.cell? ⟨x,5,none⟩=some (.slice qp Q qc)):=λW k=>⟨(k.cell (p:=⟨x,3,none⟩) (B _ _ c3)).trans c3,(k.cell (p:=⟨gx,_,none⟩) (B _ _ v0)).trans v0,(k.cell (p:=⟨x,2,none⟩) (B _ _ c2)).trans c2,(k.cell (p:=⟨x,5,none⟩) (B _ _ c5)).trans c5⟩
 clear hT0 hT1 hD z0;go_enter func29,ntmps29;go_wp2_with fail;refine(FC.o _).mono ?_;rintro e w1 ⟨rfl,hw1⟩;subst w1;go_wp2_with fail;refine(FZ.o _ (Kept.refl _)).mono ?_;rintro e w3 ⟨rfl,hk3⟩;have K3:Z (Kept w w3):=hk3;clear hk3;obtain⟨d3,y0,d2,d5⟩:=HL.o w3 K3.o;cases SM with
 | true=>
  go_wp2_with fail;go_quiet ((go_at_call 47;exact Xu (FW0.o _)))
  have K5:Z (Kept w (w3.drewN nq)):=K3.o.drewN _;generalize w3.drewN nq=w5 at *;obtain⟨d3,y0,d2,d5⟩:=HL.o w5 K5.o;go_wp2_with fail;go_ret;refine dg.of (ee K5.o _ _ _ _ _ _ (Kept.refl _)) rfl rfl rfl ?_;rfl
 | false=>
  go_wp2_with fail;go_quiet ((go_at_call 47;exact Xu (FW0.o _)))
  have K5:Z (Kept w (w3.drewN nq)):=K3.o.drewN _;generalize w3.drewN nq=w5 at *;obtain⟨d3,y0,d2,d5⟩:=HL.o w5 K5.o;go_wp2_with fail;go_ret;refine dg.of (ee K5.o _ _ _ _ _ _ (Kept.refl _)) rfl rfl rfl ?_;rfl
theorem xC(x k D N j d h:Nat)(b c:Nat)w(s:w.cell? ⟨x,2,none⟩=some (.int .i64 4))(t:w.cell? ⟨x,3,none⟩=some (.int .i64 D))(Q:w.cell? ⟨x,6,none⟩=some (.slice (some ⟨d,h,none⟩) N j))(R:k*2+2<=j)(S:k<100000)(l:D=1\/D=2\/D=4\/D=8\/D=16)(m:w.cell? ⟨d,h+(k*2+0),none⟩=some (.int .i64 b))(u:b<65536)(n:w.cell? ⟨d,h+(k*2+1),none⟩=some (.int .i64 c))(v:c<65536):Calls prog 29 #[.pointer (some ⟨x,0,none⟩),.int .i64 k] w λg e=>dg w ((wdN D b:Nat):Int) ((wdN D b:Nat):Int) ((wdN D b:Nat):Int) ((wdN D c:Nat):Int) g e:=by
 have C:Z (∀a,Calls prog 35 #[.int .i64 4] a λE e=>E=.returned (.int .i64 2)/\e=a):=λa=>dE 4 a O
 obtain⟨f,o⟩:∃q,q=k*2:=⟨_,rfl⟩;obtain⟨i,F⟩:∃q,q=k*2+2:=⟨_,rfl⟩;have T:(k:Int)*2=(f:Int):=O;have U:(f:Int)+2=(i:Int):=O;have V:f<=i:=O;have W:i<=j:=O;have X:i-f=2:=O;have Y:f<1000000:=O;rw[<-o,X5] at m;rw[<-o,<-Yg] at n;have G:Z (∀a,Calls prog 47 #[.int .i64 b,.int .i64 D] a λg e=>g=.returned (.int .i64 (wdN D b))/\e=a):=λa=>fZ b D a l u
 have H:Z (∀a,Calls prog 47 #[.int .i64 c,.int .i64 D] a λg e=>g=.returned (.int .i64 (wdN D c))/\e=a):=λa=>fZ c D a l v
 generalize wdN D b=a0 at *;generalize wdN D c=a1 at *;have y:Z (∀a,Kept w a->a.cell? ⟨x,3,none⟩=some (.int .i64 D)/\a.cell? ⟨d,h+f,none⟩=some (.int .i64 b)/\a.cell? ⟨d,h+f+1,none⟩=some (.int .i64 c)/\a.cell? ⟨x,2,none⟩=some (.int .i64 4)):=λa k=>⟨(k.cell (p:=⟨x,3,none⟩) (B _ _ t)).trans t,(k.cell (p:=⟨d,_,none⟩) (B _ _ m)).trans m,(k.cell (p:=⟨d,_,none⟩) (B _ _ n)).trans n,(k.cell (p:=⟨x,2,none⟩) (B _ _ s)).trans s⟩
 clear o F l u v;go_enter func29,ntmps29;go_wp2_with fail;refine(C.o _).mono ?_;rintro g I ⟨rfl,a2⟩;subst I;go_wp2_with fail;go_quiet ((go_at_call 47;exact Xu (H.o _)))
 have z:Z (Kept w (w.drewN nq)):=(Kept.refl _).drewN _;generalize w.drewN nq=r at *;obtain⟨J,K,L,M⟩:=y.o r z.o;go_wp2_with fail;go_quiet ((go_at_call 47;exact Xu (G.o _)))
 have A:Z (Kept w (r.drewN nq)):=z.o.drewN _;generalize r.drewN nq=P at *;obtain⟨J,K,L,M⟩:=y.o P A.o;go_wp2_with fail;go_ret;refine dg.of (ee A.o _ _ _ _ _ _ (Kept.refl _)) rfl rfl rfl ?_;rfl
theorem xE(x k D N C b e H I:Nat)(f g h:Nat)qp SM w(R:w.cell? ⟨x,2,none⟩=some (.int .i64 2))(S:w.cell? ⟨x,3,none⟩=some (.int .i64 D))(T:w.cell? ⟨x,5,none⟩=some (.slice qp H I))(a6:w.cell? ⟨x,6,none⟩=some (.slice (some ⟨b,e,none⟩) N C))(a7:k*3+3<=C)(a8:k<100000)(E:D=1\/D=2\/D=4\/D=8\/D=16)(J:w.cell? ⟨b,e+(k*3+0),none⟩=some (.int .i64 f))(U:f<65536)(K:w.cell? ⟨b,e+(k*3+1),none⟩=some (.int .i64 g))(V:g<65536)(L:w.cell? ⟨b,e+(k*3+2),none⟩=some (.int .i64 h))(W:h<65536)(F:∀a,Kept w a->Calls prog 27 #[.slice (some ⟨b,e+k*3,none⟩) 3 (C-k*3),.slice qp H I] a λc d=>c=.returned (.bool SM)/\Kept a d):Calls prog 29 #[.pointer (some ⟨x,0,none⟩),.int .i64 k] w λc d=>dg w ((wdN D f:Nat):Int) ((wdN D g:Nat):Int) ((wdN D h:Nat):Int) (if SM then 0 else 65535) c d:=by
 have a2:Z (∀a,Calls prog 35 #[.int .i64 2] a λa3 d=>a3=.returned (.int .i64 3)/\d=a):=λa=>dE 2 a O
 obtain⟨i,v⟩:∃M,M=k*3:=⟨_,rfl⟩;obtain⟨G,a4⟩:∃M,M=k*3+3:=⟨_,rfl⟩;have a9:(k:Int)*3=(i:Int):=O;have b0:(i:Int)+3=(G:Int):=O;have b1:i<=G:=O;have b2:G<=C:=O;have b3:G-i=3:=O;have b4:i<1000000:=O;rw[<-v,X5] at J;rw[<-v,<-Yg] at K;rw[<-v,<-Yg] at L;rw[<-v] at F;replace F:Z _:=F;have X:Z (∀a,Calls prog 47 #[.int .i64 f,.int .i64 D] a λc d=>c=.returned (.int .i64 (wdN D f))/\d=a):=λa=>fZ f D a E U
 have Y:Z (∀a,Calls prog 47 #[.int .i64 g,.int .i64 D] a λc d=>c=.returned (.int .i64 (wdN D g))/\d=a):=λa=>fZ g D a E V
 have a0:Z (∀a,Calls prog 47 #[.int .i64 h,.int .i64 D] a λc d=>c=.returned (.int .i64 (wdN D h))/\d=a):=λa=>fZ h D a E W
 generalize wdN D f=b5 at *;generalize wdN D g=b6 at *;generalize wdN D h=b7 at *;have j:Z (∀a,Kept w a->a.cell? ⟨x,3,none⟩=some (.int .i64 D)/\a.cell? ⟨b,e+i,none⟩=some (.int .i64 f)/\a.cell? ⟨b,e+i+1,none⟩=some (.int .i64 g)/\a.cell? ⟨b,e+i+2,none⟩=some (.int .i64 h)/\a.cell? ⟨x,2,none⟩=some (.int .i64 2)/\a.cell? ⟨x,5,none⟩=some (.slice qp H I)):=λa k=>⟨(k.cell (p:=⟨x,3,none⟩) (B _ _ S)).trans S,(k.cell (p:=⟨b,_,none⟩) (B _ _ J)).trans J,(k.cell (p:=⟨b,_,none⟩) (B _ _ K)).trans K,(k.cell (p:=⟨b,_,none⟩) (B _ _ L)).trans L,(k.cell (p:=⟨x,2,none⟩) (B _ _ R)).trans R,(k.cell (p:=⟨x,5,none⟩) (B _ _ T)).trans T⟩
 clear v a4 E U V W;go_enter func29,ntmps29;go_wp2_with fail;refine(a2.o _).mono ?_;rintro c a5 ⟨rfl,b8⟩;subst a5;go_wp2_with fail;refine(F.o _ (Kept.refl _)).mono ?_;rintro c n ⟨rfl,a1⟩;have P:Z (Kept w n):=a1;clear a1;obtain⟨o,q,r,s,t,u⟩:=j.o n P.o;cases SM with
 | true=>
  go_wp2_with fail;go_quiet ((go_at_call 47;exact Xu (X.o _)))
  have y:Z (Kept w (n.drewN nq)):=P.o.drewN _;generalize n.drewN nq=l at *;obtain⟨o,q,r,s,t,u⟩:=j.o l y.o;go_wp2_with fail;go_quiet ((go_at_call 47;exact Xu (Y.o _)))
  have z:Z (Kept w (l.drewN nq)):=y.o.drewN _;generalize l.drewN nq=m at *;obtain⟨o,q,r,s,t,u⟩:=j.o m z.o;go_wp2_with fail;go_quiet ((go_at_call 47;exact Xu (a0.o _)))
  have A:Z (Kept w (m.drewN nq)):=z.o.drewN _;generalize m.drewN nq=Q at *;obtain⟨o,q,r,s,t,u⟩:=j.o Q A.o;go_wp2_with fail;go_ret;refine dg.of (ee A.o _ _ _ _ _ _ (Kept.refl _)) rfl rfl rfl ?_;rfl
 | false=>
  go_wp2_with fail;go_quiet ((go_at_call 47;exact Xu (X.o _)))
  have y:Z (Kept w (n.drewN nq)):=P.o.drewN _;generalize n.drewN nq=l at *;obtain⟨o,q,r,s,t,u⟩:=j.o l y.o;go_wp2_with fail;go_quiet ((go_at_call 47;exact Xu (Y.o _)))
  have z:Z (Kept w (l.drewN nq)):=y.o.drewN _;generalize l.drewN nq=m at *;obtain⟨o,q,r,s,t,u⟩:=j.o m z.o;go_wp2_with fail;go_quiet ((go_at_call 47;exact Xu (a0.o _)))
  have A:Z (Kept w (m.drewN nq)):=z.o.drewN _;generalize m.drewN nq=Q at *;obtain⟨o,q,r,s,t,u⟩:=j.o Q A.o;go_wp2_with fail;go_ret;refine dg.of (ee A.o _ _ _ _ _ _ (Kept.refl _)) rfl rfl rfl ?_;rfl
theorem xB(x k D N q b e:Nat)(g h i j:Nat)w(J:w.cell? ⟨x,2,none⟩=some (.int .i64 6))(K:w.cell? ⟨x,3,none⟩=some (.int .i64 D))(a5:w.cell? ⟨x,6,none⟩=some (.slice (some ⟨b,e,none⟩) N q))(a6:k*4+4<=q)(a7:k<100000)(l:D=1\/D=2\/D=4\/D=8\/D=16)(r:w.cell? ⟨b,e+(k*4+0),none⟩=some (.int .i64 g))(L:g<65536)(s:w.cell? ⟨b,e+(k*4+1),none⟩=some (.int .i64 h))(M:h<65536)(t:w.cell? ⟨b,e+(k*4+2),none⟩=some (.int .i64 i))(P:i<65536)(u:w.cell? ⟨b,e+(k*4+3),none⟩=some (.int .i64 j))(Q:j<65536):Calls prog 29 #[.pointer (some ⟨x,0,none⟩),.int .i64 k] w λd c=>dg w ((wdN D g:Nat):Int) ((wdN D h:Nat):Int) ((wdN D i:Nat):Int) ((wdN D j:Nat):Int) d c:=by
 have V:Z (∀a,Calls prog 35 #[.int .i64 6] a λW c=>W=.returned (.int .i64 4)/\c=a):=λa=>dE 6 a O
 obtain⟨f,m⟩:∃v,v=k*4:=⟨_,rfl⟩;obtain⟨n,X⟩:∃v,v=k*4+4:=⟨_,rfl⟩;have a8:(k:Int)*4=(f:Int):=O;have a9:(f:Int)+4=(n:Int):=O;have b0:f<=n:=O;have b1:n<=q:=O;have b2:n-f=4:=O;have b3:f<1000000:=O;rw[<-m,X5] at r;rw[<-m,<-Yg] at s;rw[<-m,<-Yg] at t;rw[<-m,<-Yg] at u;have Y:Z (∀a,Calls prog 47 #[.int .i64 g,.int .i64 D] a λd c=>d=.returned (.int .i64 (wdN D g))/\c=a):=λa=>fZ g D a l L
 have a0:Z (∀a,Calls prog 47 #[.int .i64 h,.int .i64 D] a λd c=>d=.returned (.int .i64 (wdN D h))/\c=a):=λa=>fZ h D a l M
 have a1:Z (∀a,Calls prog 47 #[.int .i64 i,.int .i64 D] a λd c=>d=.returned (.int .i64 (wdN D i))/\c=a):=λa=>fZ i D a l P
 have a2:Z (∀a,Calls prog 47 #[.int .i64 j,.int .i64 D] a λd c=>d=.returned (.int .i64 (wdN D j))/\c=a):=λa=>fZ j D a l Q
 generalize wdN D g=b4 at *;generalize wdN D h=b5 at *;generalize wdN D i=b6 at *;generalize wdN D j=b7 at *;have o:Z (∀a,Kept w a->a.cell? ⟨x,3,none⟩=some (.int .i64 D)/\a.cell? ⟨b,e+f,none⟩=some (.int .i64 g)/\a.cell? ⟨b,e+f+1,none⟩=some (.int .i64 h)/\a.cell? ⟨b,e+f+2,none⟩=some (.int .i64 i)/\a.cell? ⟨b,e+f+3,none⟩=some (.int .i64 j)/\a.cell? ⟨x,2,none⟩=some (.int .i64 6)):=λa k=>⟨(k.cell (p:=⟨x,3,none⟩) (B _ _ K)).trans K,(k.cell (p:=⟨b,_,none⟩) (B _ _ r)).trans r,(k.cell (p:=⟨b,_,none⟩) (B _ _ s)).trans s,(k.cell (p:=⟨b,_,none⟩) (B _ _ t)).trans t,(k.cell (p:=⟨b,_,none⟩) (B _ _ u)).trans u,(k.cell (p:=⟨x,2,none⟩) (B _ _ J)).trans J⟩
 clear m X l L M P Q;go_enter func29,ntmps29;go_wp2_with fail;refine(V.o _).mono ?_;rintro d a3 ⟨rfl,b8⟩;subst a3;go_wp2_with fail;go_quiet ((go_at_call 47;exact Xu (a2.o _)))
 have R:Z (Kept w (w.drewN nq)):=(Kept.refl _).drewN _;generalize w.drewN nq=y at *;obtain⟨z,A,C,E,F,G⟩:=o.o y R.o;go_wp2_with fail;go_quiet ((go_at_call 47;exact Xu (Y.o _)))
 have S:Z (Kept w (y.drewN nq)):=R.o.drewN _;generalize y.drewN nq=H at *;obtain⟨z,A,C,E,F,G⟩:=o.o H S.o;go_wp2_with fail;go_quiet ((go_at_call 47;exact Xu (a0.o _)))
 have T:Z (Kept w (H.drewN nq)):=S.o.drewN _;generalize H.drewN nq=I at *;obtain⟨z,A,C,E,F,G⟩:=o.o I T.o;go_wp2_with fail;go_quiet ((go_at_call 47;exact Xu (a1.o _)))
 have U:Z (Kept w (I.drewN nq)):=T.o.drewN _;generalize I.drewN nq=a4 at *;obtain⟨z,A,C,E,F,G⟩:=o.o a4 U.o;go_wp2_with fail;go_ret;refine dg.of (ee U.o _ _ _ _ _ _ (Kept.refl _)) rfl rfl rfl ?_;rfl
