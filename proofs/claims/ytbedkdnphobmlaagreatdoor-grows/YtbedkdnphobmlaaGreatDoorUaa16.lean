import Derived.Test.YtbedkdnphobmlaaGreatDoorProg
import Derived.Handy
import Derived.Test.YtbedkdnphobmlaaGreatDoorUaa00
import Derived.Test.YtbedkdnphobmlaaGreatDoorUaa01
import Derived.Test.YtbedkdnphobmlaaGreatDoorUaa02
import Derived.Test.YtbedkdnphobmlaaGreatDoorUaa04
import Derived.Test.YtbedkdnphobmlaaGreatDoorUaa05
import Derived.Test.YtbedkdnphobmlaaGreatDoorUaa07
import Derived.Test.YtbedkdnphobmlaaGreatDoorUaa09
import Derived.Test.YtbedkdnphobmlaaGreatDoorUaa12
import Derived.Test.YtbedkdnphobmlaaGreatDoorUaa15
set_option linter.all false
set_option maxRecDepth 100000
set_option maxHeartbeats 0
namespace Go.Proofs.YtbedkdnphobmlaaGreatDoor
open Go.RowKit Px Tryz
def Rd.note1(s:Rd):Rd:=
 if s.ctype=bC then {s with sp:=true,tl:={s.tl with colours:=s.length/3}}
 else if s.ctype=aT then {s with sc:=true,tl:={s.tl with clears:=s.length}}
 else if s.ctype=ar then s.begin else s
def Rd.note2(s:Rd):Rd:=if s.sd&&decide (s.ctype≠ar) then {s with dov:=true} else s
def Rd.note(s:Rd):Rd:=s.note1.note2
theorem EL(s:Rd):s.note1.ctype=s.ctype:=by
 unfold Rd.note1;split
 .rfl
 .split
  .rfl
  .split
   .unfold Rd.begin;split<;>rfl
   .rfl
structure lB (s:Rd):Prop where
 W:s.hd.W<=16
 H:s.hd.H<=16
 D:s.hd.D<=16
 K:s.hd.K<=6
 L:s.hd.L<=1
theorem uS b o n c s w(q:Blk w b n c)(x:RdV c o s)(a7:o+5954<=n)(E:lB s)(R:s.length<2147483648)(a2:aS w)(a8:b≠0):Calls prog 83 #[.pointer (some ⟨b,o,none⟩)] w λr F=>r=.returned (.tuple #[])/\aR b o n c s.note w F:=by
 have j:=q.at (i:=o+4) O x.ctype;have g:=q.at (i:=o+3) O x.length;have S:=q.at (i:=o+5950) O x.sp;have T:=q.at (i:=o+5951) O x.sc;have Q:=q.fz;have A:Z _:=q;have B:Z _:=x;have V:Z (s.note=s.note1.note2):=rfl;have G:=U (tL b o n c s w q x a7 E.W E.H E.D E.K E.L a2 a8);clear q x a2;go_enter func83,ntmps83;go_upto_block 0 with fail
 go_cut [] from 5 (λa=>aR b o n c s.note1 w a)
 case first=>
  by_cases m:s.ctype=bC
  .have h:Z (s.note1={s with sp:=true,tl:={s.tl with colours:=s.length/3}}):=by show s.note1=_;unfold Rd.note1;rw[I m]
   rw[m] at j ⊢;clear m G;unfold bC at j ⊢;have l:Z (Blk (w.setCell ⟨b,o+5950,none⟩ (.bool true)) b n (upd c (o+5950) (.bool true))):=A.o.set O _;have e:Z _:=B.o.set_sp true;have y:Z (FrC b o (o+5954) c (upd c (o+5950) (.bool true))):=FrC.upd _ O O;have z:Z (Fr1 b w (w.setCell ⟨b,o+5950,none⟩ (.bool true))):=Fr1.set (Fr.refl _ _) _ _;go_upto_region 3 with fail
   generalize w.setCell ⟨b,o+5950,none⟩ (.bool true)=t at *;generalize upd c (o+5950) (.bool true)=W at *;clear g j S T Q A B;have g:=l.o.at (i:=o+3) O e.o.length;replace g:t.cell? ⟨b,o+3,none⟩=some (.int .u32 s.length):=g;obtain⟨p,X⟩:∃p,p=s.length/3:=⟨_,rfl⟩;have Y:Z (∀a,Kept t a->Calls prog 117 #[.pointer (some ⟨b,o+24,none⟩),.int .i64 p] a λr F=>r=.returned (.tuple #[])/\F=a.setCell ⟨b,o+24+1024,none⟩ (.int .i64 p)):=λa C=>qj b (o+24) n p W s.tl a (l.o.kept C) e.o.tl O
   have H:IntKind.i64.wrap (IntKind.u32.wrap ((s.length:Int)/3))=(p:Int):=by
    rw[show(s.length:Int)/3=(p:Int) from O,Yq,XC];omega
   replace H:Z _:=H;replace X:Z _:=X;have a0:Z (∀L:Value,(t.drew.setCell ⟨b,o+24+1024,none⟩ L).cell? ⟨b,o+3,none⟩=some (.int .u32 s.length)):=λL=>(aa _ _ _ _ _ O).trans g
   go_region_held3 (λa=>a.cell? ⟨b,o+3,none⟩=some (.int .u32 s.length)) (first|exact g|exact a0.o _|go_keep) ((go_at_call 117;rw[H.o];refine(Y.o _ ((Kept.refl _).drewN 1)).mono ?_;rintro r a9 ⟨rfl,rfl⟩))
   go_wp2_with fail;go_meet
   case rel=>
    refine⟨_,(l.o.kept ((Kept.refl _).drewN 1)).set (k:=o+24+1024) O _,?_,y.o.trans (FrC.upd _ O O),Fr1.set (Fr1.drewN z.o 1) _ _⟩;rw[h.o,<-X.o];exact e.o.set_tl {s.tl with colours:=p} (e.o.tl.set_colours p) (λb0 b1=>upd_ne _ _ _ O)
  .by_cases u:s.ctype=aT
   .have h:Z (s.note1={s with sc:=true,tl:={s.tl with clears:=s.length}}):=by show s.note1=_;unfold Rd.note1;rw[N m,I u]
    rw[u] at j ⊢;clear m u G;unfold aT at j ⊢;have l:Z (Blk (w.setCell ⟨b,o+5951,none⟩ (.bool true)) b n (upd c (o+5951) (.bool true))):=A.o.set O _;have e:Z _:=B.o.set_sc true;have y:Z (FrC b o (o+5954) c (upd c (o+5951) (.bool true))):=FrC.upd _ O O;have z:Z (Fr1 b w (w.setCell ⟨b,o+5951,none⟩ (.bool true))):=Fr1.set (Fr.refl _ _) _ _;go_upto_region 6 with fail
    generalize w.setCell ⟨b,o+5951,none⟩ (.bool true)=t at *;generalize upd c (o+5951) (.bool true)=W at *;clear g j S T Q A B;have g:=l.o.at (i:=o+3) O e.o.length;replace g:t.cell? ⟨b,o+3,none⟩=some (.int .u32 s.length):=g;have Y:Z (∀a,Kept t a->Calls prog 118 #[.pointer (some ⟨b,o+24,none⟩),.int .i64 s.length] a λr F=>r=.returned (.tuple #[])/\F=a.setCell ⟨b,o+24+1025,none⟩ (.int .i64 s.length)):=λa C=>sk b (o+24) n s.length W s.tl a (l.o.kept C) e.o.tl O
    have H:Z (IntKind.i64.wrap (s.length:Int)=(s.length:Int)):=by show IntKind.i64.wrap (s.length:Int)=(s.length:Int);rw[XC];omega
    have a0:Z (∀L:Value,(t.drew.setCell ⟨b,o+24+1025,none⟩ L).cell? ⟨b,o+3,none⟩=some (.int .u32 s.length)):=λL=>(aa _ _ _ _ _ O).trans g
    replace R:Z _:=R;go_region_held3 (λa=>a.cell? ⟨b,o+3,none⟩=some (.int .u32 s.length)) (first|exact g|exact a0.o _|go_keep) ((go_at_call 118;rw[H.o];refine(Y.o _ ((Kept.refl _).drewN 1)).mono ?_;rintro r a9 ⟨rfl,rfl⟩))
    go_wp2_with fail;go_meet
    case rel=>
     refine⟨_,(l.o.kept ((Kept.refl _).drewN 1)).set (k:=o+24+1025) O _,?_,y.o.trans (FrC.upd _ O O),Fr1.set (Fr1.drewN z.o 1) _ _⟩;rw[h.o];exact e.o.set_tl {s.tl with clears:=s.length} (e.o.tl.set_clears s.length) (λb0 b1=>upd_ne _ _ _ O)
   .by_cases f:s.ctype=ar
    .have h:Z (s.note1=s.begin):=by show s.note1=_;unfold Rd.note1;rw[N m,N u,I f]
     rw[f] at j ⊢;clear m u f;unfold ar at j ⊢;go_wp2_with fail;refine G.o.mono ?_;rintro r t ⟨rfl,b2⟩;go_wp2_with fail;go_meet
     case rel=>rw[h.o];exact b2
    .have h:Z (s.note1=s):=by show s.note1=_;unfold Rd.note1;rw[N m,N u,N f]
     have b3:=cty s bC m;have b4:=cty s aT u;have b5:=cty s ar f;clear m u f G;unfold bC at b3;unfold aT at b4;unfold ar at b5;go_wp2_with fail;go_meet
     case rel=>rw[h.o];exact aR.refl A.o B.o
 case rest=>
  obtain⟨a3,D,M,a4,a5⟩:=hcut;have l:Z _:=D;have e:Z _:=M;have y:Z _:=a4;have z:Z _:=a5;clear g j S T Q A B G;have a1:=D.at (i:=o+5952) O M.sd;have b6:=D.at (i:=o+5953) O M.dov;have Q:=D.fz (o+5953);have j:=D.at (i:=o+4) O M.ctype;clear D M a4 a5 R;obtain⟨d,a6⟩:∃d,d=s.note1:=⟨_,rfl⟩;rw[<-a6] at e a1 b6 j V;clear a6;have h:Z (s.note=if d.sd&&decide (d.ctype≠ar) then {d with dov:=true} else d):=V.o;clear V;cases v:d.sd with
  | false=>
   have P:Z (s.note=d):=by show s.note=d;rw[h.o,v];rfl
   rw[v] at a1;clear v;go_wp2;go_end0
   rw[P.o];exact⟨rfl,a3,l.o,e.o,y.o,z.o⟩
  | true=>
   rw[v] at a1;by_cases f:d.ctype=ar
   .have P:Z (s.note=d):=by show s.note=d;rw[h.o,N (by rw[v,J (λC=>C f)];simp)]
    clear v h;have b7:((d.ctype:Int)!=1229209940)=false:=by rw[Xx,f];rfl
    replace f:Z _:=f;go_wp2;go_end0
    rw[P.o];exact⟨rfl,a3,l.o,e.o,y.o,z.o⟩
   .have P:Z (s.note={d with dov:=true}):=by show s.note=_;rw[h.o,I (by rw[v,K f];rfl)]
    clear v h;have b7:((d.ctype:Int)!=1229209940)=true:=by rw[XJ];intro C;apply f;unfold ar;omega
    clear f;go_wp2;go_end0
    rw[P.o];exact⟨rfl,_,l.o.set O _,e.o.set_dov true,y.o.trans (FrC.upd _ O O),Fr1.set z.o _ _⟩
def Rd.seen(s:Rd)(x:Nat):Rd:=({s with sum:=bh s.sum x}:Rd).num x
def Rd.typed(s:Rd)(x:Nat):Rd:={s.seen x with ctype:=s.number*256+x}
def Rd.takeType(s:Rd)(x:Nat):Rd×Nat:=
 if s.taken+1≠4 then(s.seen x,0)
 else if(s.typed x).checkType≠0 then(s.typed x,(s.typed x).checkType)
 else if(s.typed x).note.length=0 then((s.typed x).note.enter 4,0) else((s.typed x).note.enter 3,0)
theorem ub b o n x c s w(v:Blk w b n c)(B:RdV c o s)(m:o+5954<=n)(d7:s.taken<1000)(d8:s.number<16777216)(a5:x<256)(d9:s.sum<4294967296)(a6:Cc (s.typed x))(j:lB s)(a7:aS w)(a8:b≠0):Calls prog 53 #[.pointer (some ⟨b,o,none⟩),.int .u8 x] w λf C=>f=.returned (.int .i64 ((s.takeType x).2:Int))/\aR b o n c (s.takeType x).1 w C:=by
 have e0:=v.at (i:=o+5) O B.sum;have D:=v.fz;have e1:Z (∀g,Fr1 b w g->aS g):=λg e2=>a7.fr e2 (λa=>a8 a.symm)
 have E:Z (∀g,Calls prog 81 #[.int .u32 s.sum,.int .u8 x] g λf C=>f=.returned (.int .u32 (bh s.sum x:Nat))/\C=g):=λg=>jq _ _ g d9 a5
 obtain⟨d,G⟩:∃d,d=bh s.sum x:=⟨_,rfl⟩;have a9:Z (Blk (w.setCell ⟨b,o+5,none⟩ (.int .u32 d)) b n (upd c (o+5) (.int .u32 d))):=v.set O _;have b0:Z _:=B.set_sum d;have b1:Z (FrC b o (o+5954) c (upd c (o+5) (.int .u32 d))):=FrC.upd _ O O;have b2:Z (Fr1 b w (w.setCell ⟨b,o+5,none⟩ (.int .u32 d))):=Fr1.set (Fr.refl _ _) _ _;have e3:Z (s.seen x=({s with sum:=d}:Rd).num x):=by show s.seen x=_;rw[G];rfl
 rw[<-G] at E;have y:Z (s.takeType x=if s.taken+1≠4 then(s.seen x,0) else if(s.typed x).checkType≠0 then(s.typed x,(s.typed x).checkType) else if(s.typed x).note.length=0 then((s.typed x).note.enter 4,0) else((s.typed x).note.enter 3,0)):=rfl;have H:Z (s.typed x={s.seen x with ctype:=s.number*256+x}):=rfl;have e4:Z ((s.seen x).number=s.number*256+x):=rfl;have L:Z _:=a6;have b3:Z (lB (s.typed x)):=⟨j.W,j.H,j.D,j.K,j.L⟩;clear v B a7 G a6 j;go_enter func53,ntmps53;go_wp2_with fail;refine(E.o _).mono ?_;rintro f M ⟨rfl,f5⟩;subst M;go_wp2_with fail;generalize w.setCell ⟨b,o+5,none⟩ (.int .u32 d)=M at *;generalize upd c (o+5) (.int .u32 d)=e5 at *;clear e0 D E;refine(uI b o n x e5 {s with sum:=d} M a9.o b0.o m d7 d8 a5).mono ?_;rintro f P ⟨rfl,p,q,r,b4,b5⟩;rw[<-e3.o] at r;have Q:Z _:=q;have R:Z _:=r;have S:Z _:=b1.o.trans b4;have T:Z _:=b2.o.trans b5;have U:=q.at (i:=o+2) O r.number;rw[e4.o] at U;have e6:=q.at (i:=o+4) O r.ctype;have D:=q.fz;clear q r b4 b5 a9 b0 b1 b2;by_cases k:s.taken+1=4
 .have h:Z (s.takeType x=if(s.typed x).checkType≠0 then(s.typed x,(s.typed x).checkType) else if(s.typed x).note.length=0 then((s.typed x).note.enter 4,0) else((s.typed x).note.enter 3,0)):=by show s.takeType x=_;rw[y.o,N (λV=>V k)]
  rw[K (show({s with sum:=d}:Rd).taken+1=4 from k)];obtain⟨e,b6⟩:∃e,e=s.number*256+x:=⟨_,rfl⟩;rw[<-b6] at U H;have b7:e<4294967296:=O;have W:Z (Blk (P.setCell ⟨b,o+4,none⟩ (.int .u32 e)) b n (upd p (o+4) (.int .u32 e))):=Q.o.set O _;have t:Z (RdV (upd p (o+4) (.int .u32 e)) o (s.typed x)):=by rw[H.o];exact R.o.set_ctype e
  have X:Z (FrC b o (o+5954) c (upd p (o+4) (.int .u32 e))):=S.o.trans (FrC.upd _ O O);have b8:Z (Fr1 b w (P.setCell ⟨b,o+4,none⟩ (.int .u32 e))):=Fr1.set T.o _ _;clear k y b6;replace b7:Z _:=b7;obtain⟨a,b9⟩:∃a,a=s.typed x:=⟨_,rfl⟩;rw[<-b9] at t h L b3;clear b9 H;go_wp2_with fail;generalize P.setCell ⟨b,o+4,none⟩ (.int .u32 e)=e7 at *;generalize upd p (o+4) (.int .u32 e)=Y at *;clear U e6 D Q R S T;refine(tD b o n Y a e7 W.o t.o m L.o).mono ?_;rintro f e8 ⟨rfl,a0⟩;have a1:Z _:=W.o.kept a0;have z:Z _:=b8.o.kept a0;clear a0 W b8;by_cases u:a.checkType=0
  .have e9:((a.checkType:Int)!=0)=false:=by rw[Xx];omega
   have A:Z (s.takeType x=if a.note.length=0 then(a.note.enter 4,0) else(a.note.enter 3,0)):=by show s.takeType x=_;rw[h.o,N (λV=>V u)]
   replace u:Z _:=u;clear h;generalize a.checkType=f6 at *;go_wp2_with fail;refine(uS b o n Y a e8 a1.o t.o m b3.o L.o.len (e1.o _ z.o) a8).mono ?_;rintro f f0 ⟨rfl,f1,c0,c1,c2,c3⟩;have c4:Z _:=X.o.trans c2;have c5:Z _:=z.o.trans c3;have c6:Z _:=c0;have c7:Z _:=c1;clear c0 c1 c2 c3 a1 t X z;go_wp2_with fail;refine(fE b o n 3 f1 a.note f0 c6.o c7.o m).mono ?_;rintro f c8 ⟨rfl,c9,a2,a3,d0,d1⟩;have d2:=a2.at (i:=o+3) O a3.length;replace d2:c8.cell? ⟨b,o+3,none⟩=some (.int .u32 a.note.length):=d2;have d3:Z _:=c4.o.trans d0;have d4:Z _:=c5.o.trans d1;have d5:Z _:=a2;have d6:Z _:=a3;clear a2 a3 d0 d1 c6 c7 c4 c5;by_cases l:a.note.length=0
   .have f2:((a.note.length:Int)==0)=true:=by rw[XI];omega
    have a4:Z (s.takeType x=((a.note.enter 3).enter 4,0)):=by show s.takeType x=_;rw[A.o,I l];rfl
    replace l:Z _:=l;generalize a.note.length=f3 at *;go_wp2_with fail;refine(fE b o n 4 c9 (a.note.enter 3) c8 d5.o d6.o m).mono ?_;rintro f f7 ⟨rfl,f4⟩;go_wp2_with fail;go_ret;rw[a4.o];exact⟨rfl,aR.next d3.o d4.o f4⟩
   .have f2:((a.note.length:Int)==0)=false:=by rw[F];omega
    have a4:Z (s.takeType x=(a.note.enter 3,0)):=by show s.takeType x=_;rw[A.o,N l]
    replace l:Z _:=l;generalize a.note.length=f3 at *;go_wp2_with fail;go_ret;rw[a4.o];exact⟨rfl,c9,d5.o,d6.o,d3.o,d4.o⟩
  .have e9:((a.checkType:Int)!=0)=true:=by rw[XJ];omega
   have A:Z (s.takeType x=(a,a.checkType)):=by show s.takeType x=_;rw[h.o,I u]
   clear h u;go_wp2_with fail;go_ret;rw[A.o];exact⟨rfl,Y,a1.o,t.o,X.o,z.o⟩
 .have h:Z (s.takeType x=(s.seen x,0)):=by show s.takeType x=_;rw[y.o,I k]
  rw[J (show ¬({s with sum:=d}:Rd).taken+1=4 from k)];clear k y;go_wp2_with fail;go_ret;rw[h.o];exact⟨rfl,p,Q.o,R.o,S.o,T.o⟩
theorem AX(b a n i x:Nat)c t w(d:Blk w b n c)(e:TlV c a t)(j:a+1026<=n)(f:i<768)(k:x<256):Calls prog 120 #[.pointer (some ⟨b,a,none⟩),.int .i64 i,.int .u8 x] w λg h=>g=.returned (.tuple #[])/\h=w.setCell ⟨b,a+i,none⟩ (.int .u8 x):=by
 have l:=d.at (i:=a+i) O (e.pal i f);have m:=d.fz (a+i);have o:(0:Int)<=(i:Int):=O;have p:(i:Int)<768:=O;clear d e;go_enter func120,ntmps120;go_wp2;go_end0
 exact⟨rfl,rfl⟩
theorem vb(b a n i x:Nat)c t w(d:Blk w b n c)(e:TlV c a t)(j:a+1026<=n)(f:i<256)(k:x<256):Calls prog 121 #[.pointer (some ⟨b,a,none⟩),.int .i64 i,.int .u8 x] w λg h=>g=.returned (.tuple #[])/\h=w.setCell ⟨b,a+768+i,none⟩ (.int .u8 x):=by
 have l:=d.at (i:=a+768+i) O (e.clear i f);have m:=d.fz (a+768+i);have o:(0:Int)<=(i:Int):=O;have p:(i:Int)<256:=O;clear d e;go_enter func121,ntmps121;go_wp2;go_end0
 exact⟨rfl,rfl⟩
theorem RdV.sr{c d b o s st' rw'}(h:RdV c o s)(i:StV d (o+1050) st')(f:RwV d (o+1050+3351) rw')(j:FrC b (o+1050) (o+1050+4900) c d):RdV d o {s with st:=st',rw:=rw'}:=by
 rw[show o+1050+3351=o+4401 from O] at f;have e:RdV (λa=>if o+1050<=a/\a<o+4401 then d a else c a) o {s with st:=st'}:=h.set_st st' (i.congr (λa e k=>I ⟨e,O⟩)) (λa g=>N g);exact e.set_rw rw' f (λa g=>by
  show d a=if o+1050<=a/\a<o+4401 then d a else c a
  split
  .rfl
  .exact j.o a O)
def Rd.streamed(s:Rd)(x:Nat):Rd:={s with st:=(takeB s.st s.rw x).1,rw:=(takeB s.st s.rw x).2.1}
def Rd.takeStream(s:Rd)(x:Nat):Rd×Nat:=
 if(takeB s.st s.rw x).2.2≠0 then(s.streamed x,(takeB s.st s.rw x).2.2)
 else if decide ((takeB s.st s.rw x).1.part=10) && !aN (takeB s.st s.rw x).2.1 then(s.streamed x,18)
 else(s.streamed x,0)
theorem pW(b a n x:Nat)(c:Nat->Value)(s:Rd)(w:World)(H:Blk w b n c)(m:RdV c a s)(a2:a+5954<=n)(R:x<256)(J:s.st.part≠10->eL 8 0 {s.st with skip:=false} s.rw x)(K:bw w)(S:NT b):Calls prog 122 #[.pointer (some ⟨b,a,none⟩),.int .u8 x] w λe f=>e=.returned (.int .i64 ((s.takeStream x).2:Int))/\aR b a n c (s.takeStream x).1 w f:=by
 have L:Z _:=m;have M:RwV c (a+1050+3351) s.rw:=by rw[show a+1050+3351=a+4401 from O];exact m.rw
 have A:Z (∀d,Kept w d->Calls prog 149 #[.pointer (some ⟨b,a+1050,none⟩),.int .u8 x,.pointer (some ⟨b,a+4401,none⟩)] d λe f=>e=.returned (.int .i64 ((takeB s.st s.rw x).2.2:Int))/\aw b (a+1050) n c (takeB s.st s.rw x).1 (takeB s.st s.rw x).2.1 d f):=λd o=>by
  have:=CI b (a+1050) n x c s.st s.rw d (H.kept o) m.st M O J (K.kept o) S R
  rw[show a+1050+3351=a+4401 from O] at this;exact this
 have p:Z (s.takeStream x=if(takeB s.st s.rw x).2.2≠0 then(s.streamed x,(takeB s.st s.rw x).2.2) else if decide ((takeB s.st s.rw x).1.part=10) && !aN (takeB s.st s.rw x).2.1 then(s.streamed x,18) else(s.streamed x,0)):=rfl;have B:Z (s.streamed x={s with st:=(takeB s.st s.rw x).1,rw:=(takeB s.st s.rw x).2.1}):=rfl;clear H m M J K;obtain⟨i,C⟩:∃i,i=(takeB s.st s.rw x).1:=⟨_,rfl⟩;obtain⟨j,D⟩:∃j,j=(takeB s.st s.rw x).2.1:=⟨_,rfl⟩;obtain⟨k,h⟩:∃k,k=(takeB s.st s.rw x).2.2:=⟨_,rfl⟩;rw[<-C,<-D,<-h] at p A;rw[<-C,<-D] at B;clear C D h;go_enter func122,ntmps122;go_wp2_with fail;go_region_held3 (λd=>True) (trivial) ((go_at_call 149;refine(A.o _ ((Kept.refl _).drewN 1)).mono ?_;rintro e q ⟨rfl,T⟩))
 obtain⟨g,r,E,F,G,P⟩:=T;have t:Z (RdV g a (s.streamed x)):=by rw[B.o];exact L.o.sr E F G
 have u:Z _:=r;have v:Z (FrC b a (a+5954) c g):=G.mono O O;have y:Z _:=(Fr1.drewN (Fr.refl _ _) 1).trans P;have U:Z (∀d,d=q->Calls prog 111 #[.pointer (some ⟨b,a+1050,none⟩)] d λe f=>e=.returned (.bool (decide (i.part=10)))/\f=d):=λd e=>by rw[e];exact jE b (a+1050) n g i q r E O
 have V:Z (∀d,d=q->Calls prog 150 #[.pointer (some ⟨b,a+4401,none⟩)] d λe f=>e=.returned (.bool (aN j))/\Kept d f):=λd e=>by
  rw[e]
  have:=we b (a+1050+3351) n g j q r F O
  rw[show a+1050+3351=a+4401 from O] at this;exact this.mono (λe f ⟨W,a3,X⟩=>⟨W,by rw[X];exact(Kept.refl _).drewN _⟩)
 clear r E F G P A L B;by_cases h:k=0
 .have Y:((k:Int)!=0)=false:=by rw[Xx];omega
  have l:Z (s.takeStream x=if decide (i.part=10) && !aN j then(s.streamed x,18) else(s.streamed x,0)):=by show s.takeStream x=_;rw[p.o,N (λo=>o h)]
  replace h:Z _:=h;clear p;generalize decide (i.part=10)=a0 at *;generalize aN j=a1 at *;go_wp2_with fail;refine(U.o _ rfl).mono ?_;rintro e Q ⟨rfl,a4⟩;subst Q;cases a0 with
  | false=>
   go_wp2_with fail;go_ret;rw[l.o];exact⟨rfl,g,u.o,t.o,v.o,y.o⟩
  | true=>
   go_wp2_with fail;refine(V.o _ rfl).mono ?_;rintro e Q ⟨rfl,z⟩;cases a1 with
   | false=>
    go_wp2_with fail;go_ret;rw[l.o];exact⟨rfl,g,u.o.kept z,t.o,v.o,y.o.kept z⟩
   | true=>
    go_wp2_with fail;go_ret;rw[l.o];exact⟨rfl,g,u.o.kept z,t.o,v.o,y.o.kept z⟩
 .have Y:((k:Int)!=0)=true:=by rw[XJ];omega
  have l:Z (s.takeStream x=(s.streamed x,k)):=by show s.takeStream x=_;rw[p.o,I h]
  go_wp2_with fail;go_ret;rw[l.o];exact⟨rfl,g,u.o,t.o,v.o,y.o⟩
def Rd.keep(s:Rd)(x:Nat):Rd×Nat:=
 if s.ctype=bt then({s with raw:=upd s.raw s.taken x},0)
 else if s.ctype=bC then({s with tl:={s.tl with pal:=upd s.tl.pal s.taken x}},0)
 else if s.ctype=aT then({s with tl:={s.tl with clear:=upd s.tl.clear s.taken x}},0)
 else if s.ctype=ar then s.takeStream x
 else(s,0)
structure rH (s:Rd) (x:Nat):Prop where
 raw:s.ctype=bt->s.taken<13
 pal:s.ctype=bC->s.taken<768
 clear:s.ctype=aT->s.taken<256
 bits:s.ctype=ar->s.st.part≠10->eL 8 0 {s.st with skip:=false} s.rw x
theorem HT b o n x c s w(d:Blk w b n c)(f:RdV c o s)(G:o+5954<=n)(B:x<256)(j:rH s x)(t:bw w)(H:NT b):Calls prog 84 #[.pointer (some ⟨b,o,none⟩),.int .u8 x] w λm y=>m=.returned (.int .i64 ((s.keep x).2:Int))/\aR b o n c (s.keep x).1 w y:=by
 have p:=d.at (i:=o+4) O f.ctype;have u:=d.at (i:=o+1) O f.taken;have A:Z _:=d;have v:Z _:=f;have h:Z (s.keep x=if s.ctype=bt then({s with raw:=upd s.raw s.taken x},0) else if s.ctype=bC then({s with tl:={s.tl with pal:=upd s.tl.pal s.taken x}},0) else if s.ctype=aT then({s with tl:={s.tl with clear:=upd s.tl.clear s.taken x}},0) else if s.ctype=ar then s.takeStream x else(s,0)):=rfl;by_cases e:s.ctype=bt
 .have q:=j.raw e
  have k:Z (s.keep x=({s with raw:=upd s.raw s.taken x},0)):=by show s.keep x=_;rw[h.o,I e]
  have V:=d.at (i:=o+11+s.taken) O (f.raw s.taken q);have W:=d.fz (o+11+s.taken);have X:(0:Int)<=(s.taken:Int):=O;have Y:(s.taken:Int)<13:=O;rw[e] at p;clear d f j t e h;unfold bt at p;go_enter func84,ntmps84;go_wp2_with fail;go_region_held3 (λa=>a.cell? ⟨b,o+1,none⟩=some (.int .u32 s.taken)) (first|exact u|exact(aa _ _ _ _ _ O).trans u|go_keep) (fail)
  go_wp2_with fail;go_ret;rw[k.o];exact⟨rfl,_,(A.o.set O _).kept ((Kept.refl _).drewN 1),v.o.set_raw s.taken x q,FrC.upd _ O O,Fr1.drewN (Fr1.set (Fr.refl _ _) _ _) 1⟩
 .by_cases g:s.ctype=bC
  .have q:=j.pal g
   have k:Z (s.keep x=({s with tl:={s.tl with pal:=upd s.tl.pal s.taken x}},0)):=by show s.keep x=_;rw[h.o,N e,I g]
   have C:Z (∀a,Kept w a->Calls prog 120 #[.pointer (some ⟨b,o+24,none⟩),.int .i64 s.taken,.int .u8 x] a λm y=>m=.returned (.tuple #[])/\y=a.setCell ⟨b,o+24+s.taken,none⟩ (.int .u8 x)):=λa D=>AX b (o+24) n s.taken x c s.tl a (d.kept D) f.tl O q B
   have E:Z (IntKind.i64.wrap (s.taken:Int)=(s.taken:Int)):=by show IntKind.i64.wrap (s.taken:Int)=(s.taken:Int);rw[XC];omega
   have F:Z (∀z:Value,(w.drew.setCell ⟨b,o+24+s.taken,none⟩ z).cell? ⟨b,o+1,none⟩=some (.int .u32 s.taken)):=λz=>(aa _ _ _ _ _ O).trans u
   rw[g] at p;clear d f j t e g h;unfold bC at p;go_enter func84,ntmps84;go_wp2_with fail;go_region_held3 (λa=>a.cell? ⟨b,o+1,none⟩=some (.int .u32 s.taken)) (first|exact u|exact F.o _|go_keep) ((go_at_call 120;rw[E.o];refine(C.o _ ((Kept.refl _).drewN 1)).mono ?_;rintro m J ⟨rfl,rfl⟩))
   go_wp2_with fail;go_ret;rw[k.o];exact⟨rfl,_,(A.o.kept ((Kept.refl _).drewN 1)).set O _,v.o.set_tl {s.tl with pal:=upd s.tl.pal s.taken x} (v.o.tl.set_pal s.taken x q) (λK L=>upd_ne _ _ _ O),FrC.upd _ O O,Fr1.set (Fr1.drewN (Fr.refl _ _) 1) _ _⟩
  .by_cases l:s.ctype=aT
   .have q:=j.clear l
    have k:Z (s.keep x=({s with tl:={s.tl with clear:=upd s.tl.clear s.taken x}},0)):=by show s.keep x=_;rw[h.o,N e,N g,I l]
    have C:Z (∀a,Kept w a->Calls prog 121 #[.pointer (some ⟨b,o+24,none⟩),.int .i64 s.taken,.int .u8 x] a λm y=>m=.returned (.tuple #[])/\y=a.setCell ⟨b,o+24+768+s.taken,none⟩ (.int .u8 x)):=λa D=>vb b (o+24) n s.taken x c s.tl a (d.kept D) f.tl O q B
    have E:Z (IntKind.i64.wrap (s.taken:Int)=(s.taken:Int)):=by show IntKind.i64.wrap (s.taken:Int)=(s.taken:Int);rw[XC];omega
    have F:Z (∀z:Value,(w.drew.setCell ⟨b,o+24+768+s.taken,none⟩ z).cell? ⟨b,o+1,none⟩=some (.int .u32 s.taken)):=λz=>(aa _ _ _ _ _ O).trans u
    rw[l] at p;clear d f j t e g l h;unfold aT at p;go_enter func84,ntmps84;go_wp2_with fail;go_region_held3 (λa=>a.cell? ⟨b,o+1,none⟩=some (.int .u32 s.taken)) (first|exact u|exact F.o _|go_keep) ((go_at_call 121;rw[E.o];refine(C.o _ ((Kept.refl _).drewN 1)).mono ?_;rintro m J ⟨rfl,rfl⟩))
    go_wp2_with fail;go_ret;rw[k.o];exact⟨rfl,_,(A.o.kept ((Kept.refl _).drewN 1)).set O _,v.o.set_tl {s.tl with clear:=upd s.tl.clear s.taken x} (v.o.tl.set_clear s.taken x q) (λK L=>upd_ne _ _ _ O),FrC.upd _ O O,Fr1.set (Fr1.drewN (Fr.refl _ _) 1) _ _⟩
   .by_cases r:s.ctype=ar
    .have k:Z (s.keep x=s.takeStream x):=by show s.keep x=_;rw[h.o,N e,N g,N l,I r]
     have M:=U (pW b o n x c s w d f G B (j.bits r) t H);rw[r] at p;clear d f j t e g l r h;unfold ar at p;go_enter func84,ntmps84;go_wp2_with fail;refine M.o.mono ?_;rintro m a0 ⟨rfl,P⟩;go_wp2_with fail;go_ret;rw[k.o];exact⟨rfl,P⟩
    .have k:Z (s.keep x=(s,0)):=by show s.keep x=_;rw[h.o,N e,N g,N l,N r]
     have Q:=cty s bt e;have R:=cty s bC g;have S:=cty s aT l;have T:=cty s ar r;clear d f j t e g l r h;unfold bt at Q;unfold bC at R;unfold aT at S;unfold ar at T;go_enter func84,ntmps84;go_wp2_with fail;go_ret;rw[k.o];exact⟨rfl,aR.refl A.o v.o⟩
def bL(d:Nat->Nat):Nat×Hd:=
 let w:=((d 0*256+d 1)*256+d 2)*256+d 3
 let h:=((d 4*256+d 5)*256+d 6)*256+d 7
 if w=0\/h=0\/2147483648<=w\/2147483648<=h\/ji (d 9) (d 8)=false then(7,⟨0,0,0,0,0⟩)
 else if d 10≠0\/d 11≠0\/1<d 12 then(7,⟨0,0,0,0,0⟩)
 else if 16<w\/16<h then(8,⟨0,0,0,0,0⟩)
 else(0,⟨w,h,d 8,d 9,d 12⟩)
def wN(d:Nat->Nat):Nat:=((d 0*256+d 1)*256+d 2)*256+d 3
def hN(d:Nat->Nat):Nat:=((d 4*256+d 5)*256+d 6)*256+d 7
theorem iM d:bL d =
 if wN d=0\/hN d=0\/2147483648<=wN d\/2147483648<=hN d\/ji (d 9) (d 8)=false then(7,⟨0,0,0,0,0⟩)
 else if d 10≠0\/d 11≠0\/1<d 12 then(7,⟨0,0,0,0,0⟩)
 else if 16<wN d\/16<hN d then(8,⟨0,0,0,0,0⟩)
 else(0,⟨wN d,hN d,d 8,d 9,d 12⟩):=rfl
theorem jj(d:Nat->Nat)(h:ha (wN d)=false\/ha (hN d)=false\/ji (d 9) (d 8)=false):bL d=(7,⟨0,0,0,0,0⟩):=by
 rw[iM,if_pos];unfold ha at h;simp only[decide_eq_false_iff_not] at h;rcases h with h|h|h
 .omega
 .omega
 .exact Or.inr (Or.inr (Or.inr (Or.inr h)))
theorem tj(d:Nat->Nat)(h1:ha (wN d)=true)(h2:ha (hN d)=true)(h3:ji (d 9) (d 8)=true):bL d =
 if d 10≠0\/d 11≠0\/1<d 12 then(7,⟨0,0,0,0,0⟩)
 else if 16<wN d\/16<hN d then(8,⟨0,0,0,0,0⟩)
 else(0,⟨wN d,hN d,d 8,d 9,d 12⟩):=by
 rw[iM,if_neg];unfold ha at h1 h2;simp only[decide_eq_true_eq] at h1 h2;rw[h3];simp;omega
theorem qV d w(c:∀q,d q<256):Calls prog 151 #[.agg #[.int .u8 (d 0),.int .u8 (d 1),.int .u8 (d 2),.int .u8 (d 3),.int .u8 (d 4),.int .u8 (d 5),.int .u8 (d 6),.int .u8 (d 7),.int .u8 (d 8),.int .u8 (d 9),.int .u8 (d 10),.int .u8 (d 11),.int .u8 (d 12)]] w
   λa b=>a=.returned (.tuple #[hdV (bL d).2,.int .i64 ((bL d).1:Int)])/\Kept w b:=by
 have u:wN d<4294967296:=by have:=c 0;have:=c 1;have:=c 2;have:=c 3;unfold wN;omega
 have x:hN d<4294967296:=by have:=c 4;have:=c 5;have:=c 6;have:=c 7;unfold hN;omega
 have g:Z (∀f,Calls prog 168 #[.int .u8 (d 0),.int .u8 (d 1),.int .u8 (d 2),.int .u8 (d 3)] f λa b=>a=.returned (.int .u32 (wN d))/\b=f):=λf=>kZ _ _ _ _ f (c 0) (c 1) (c 2) (c 3)
 have h:Z (∀f,Calls prog 168 #[.int .u8 (d 4),.int .u8 (d 5),.int .u8 (d 6),.int .u8 (d 7)] f λa b=>a=.returned (.int .u32 (hN d))/\b=f):=λf=>kZ _ _ _ _ f (c 4) (c 5) (c 6) (c 7)
 have y:=c 8;have z:=c 9;have A:=c 12;cases n:ha (wN d)
 .rw[jj d (L n)]
  generalize wN d=i at *;generalize hN d=j at *;clear c;go_enter func151,ntmps151;go_wp2_with fail;refine(g.o _).mono ?_;rintro a b ⟨rfl,rfl⟩;go_wp2_with fail;refine(h.o _).mono ?_;rintro a b ⟨rfl,rfl⟩;go_wp2_with (first|(go_at_call 169;refine(eb _ _).mono ?_;rintro a b ⟨rfl,rfl⟩)|(go_at_call 60;refine(fi _ _ _).mono ?_;rintro a b ⟨rfl,rfl⟩))
  all_goals(refine XA (v := .tuple #[hdV ⟨0,0,0,0,0⟩,.int .i64 7]) (by simp[results,results151,go_sem,hdV]) rfl ⟨rfl,?_⟩;go_grown)
 .cases o:ha (hN d)
  .rw[jj d (R (L o))]
   generalize wN d=i at *;generalize hN d=j at *;clear c;go_enter func151,ntmps151;go_wp2_with fail;refine(g.o _).mono ?_;rintro a b ⟨rfl,rfl⟩;go_wp2_with fail;refine(h.o _).mono ?_;rintro a b ⟨rfl,rfl⟩;go_wp2_with (first|(go_at_call 169;refine(eb _ _).mono ?_;rintro a b ⟨rfl,rfl⟩)|(go_at_call 60;refine(fi _ _ _).mono ?_;rintro a b ⟨rfl,rfl⟩))
   all_goals(refine XA (v := .tuple #[hdV ⟨0,0,0,0,0⟩,.int .i64 7]) (by simp[results,results151,go_sem,hdV]) rfl ⟨rfl,?_⟩;go_grown)
  .cases p:ji (d 9) (d 8)
   .rw[jj d (R (R p))]
    generalize wN d=i at *;generalize hN d=j at *;clear c;go_enter func151,ntmps151;go_wp2_with fail;refine(g.o _).mono ?_;rintro a b ⟨rfl,rfl⟩;go_wp2_with fail;refine(h.o _).mono ?_;rintro a b ⟨rfl,rfl⟩;go_wp2_with (first|(go_at_call 169;refine(eb _ _).mono ?_;rintro a b ⟨rfl,rfl⟩)|(go_at_call 60;refine(fi _ _ _).mono ?_;rintro a b ⟨rfl,rfl⟩))
    all_goals(refine XA (v := .tuple #[hdV ⟨0,0,0,0,0⟩,.int .i64 7]) (by simp[results,results151,go_sem,hdV]) rfl ⟨rfl,?_⟩;go_grown)
   .have e:=tj d n o p
    by_cases k:d 10≠0\/d 11≠0\/1<d 12
    .rw[I k] at e
     rw[e];have m:Z _:=k;clear k e;generalize wN d=i at *;generalize hN d=j at *;clear c;go_enter func151,ntmps151;go_wp2_with fail;refine(g.o _).mono ?_;rintro a b ⟨rfl,rfl⟩;go_wp2_with fail;refine(h.o _).mono ?_;rintro a b ⟨rfl,rfl⟩;go_wp2_with (first|(go_at_call 169;refine(eb _ _).mono ?_;rintro a b ⟨rfl,rfl⟩)|(go_at_call 60;refine(fi _ _ _).mono ?_;rintro a b ⟨rfl,rfl⟩))
     all_goals first|(exfalso;have:=m.o;omega)|(refine XA (v := .tuple #[hdV ⟨0,0,0,0,0⟩,.int .i64 7]) (by simp[results,results151,go_sem,hdV]) rfl ⟨rfl,?_⟩;go_grown)
    .rw[N k] at e
     by_cases l:16<wN d\/16<hN d
     .rw[I l] at e
      rw[e];have r:d 10=0:=O;have s:d 11=0:=O;have t:(d 12:Int)<=1:=O;have m:Z _:=l;clear k l e;generalize wN d=i at *;generalize hN d=j at *;clear c;go_enter func151,ntmps151;go_wp2_with fail;refine(g.o _).mono ?_;rintro a b ⟨rfl,rfl⟩;go_wp2_with fail;refine(h.o _).mono ?_;rintro a b ⟨rfl,rfl⟩;go_wp2_with (first|(go_at_call 169;refine(eb _ _).mono ?_;rintro a b ⟨rfl,rfl⟩)|(go_at_call 60;refine(fi _ _ _).mono ?_;rintro a b ⟨rfl,rfl⟩))
      all_goals first|(exfalso;have:=m.o;omega)|(refine XA (v := .tuple #[hdV ⟨0,0,0,0,0⟩,.int .i64 8]) (by simp[results,results151,go_sem,hdV]) rfl ⟨rfl,?_⟩;go_grown)
     .rw[N l] at e
      rw[e];have r:d 10=0:=O;have s:d 11=0:=O;have t:(d 12:Int)<=1:=O;have B:(wN d:Int)<=16:=O;have C:(hN d:Int)<=16:=O;clear k l e;generalize wN d=i at *;generalize hN d=j at *;clear c;go_enter func151,ntmps151;go_wp2_with fail;refine(g.o _).mono ?_;rintro a b ⟨rfl,rfl⟩;go_wp2_with fail;refine(h.o _).mono ?_;rintro a b ⟨rfl,rfl⟩;go_wp2_with (first|(go_at_call 169;refine(eb _ _).mono ?_;rintro a b ⟨rfl,rfl⟩)|(go_at_call 60;refine(fi _ _ _).mono ?_;rintro a b ⟨rfl,rfl⟩))
      all_goals(refine XA (v := .tuple #[hdV ⟨i,j,d 8,d 9,d 12⟩,.int .i64 0]) (by simp[results,results151,go_sem,hdV]) rfl ⟨rfl,?_⟩;go_grown)
def Tl.smp(t:Tl)(i:Nat):Nat:=t.clear (2*i)*256+t.clear (2*i+1)
theorem DK(a c:Nat)(b:a<256)(d:c<256):bits BinOp.or IntKind.i64 ((a:Int)*256) (c:Int)=((a*256+c:Nat):Int):=by
 show IntKind.i64.wrap ((BitVec.ofInt 64 ((a:Int)*256) ||| BitVec.ofInt 64 (c:Int)).toNat:Int)=_
 rw[show(a:Int)*256=((a*256:Nat):Int) from O,BitVec.toNat_or,gm _ O,gm _ O,nat_join 8 (a*256) c O O,XC];omega
theorem gd(b e n i:Nat)c t w(f:Blk w b n c)(g:TlV c e t)(y:e+1026<=n)(z:i<4)(h:∀r,t.clear r<256):Calls prog 152 #[.pointer (some ⟨b,e,none⟩),.int .i64 i] w λs u=>s=.returned (.int .i64 (t.smp i))/\∃v,u=w.drewN v:=by
 have x:=f.at (i:=e+768+2*i) O (g.clear (2*i) O);have m:=f.at (i:=e+768+(2*i+1)) O (g.clear (2*i+1) O);have o:=h (2*i);have j:=h (2*i+1);have k:Z _:=DK _ _ o j;have l:Z (t.smp i=t.clear (2*i)*256+t.clear (2*i+1)):=rfl;obtain⟨a,p⟩:∃a,a=2*i:=⟨_,rfl⟩;have A:2*(i:Int)=(a:Int):=O;rw[<-p] at x m o j k l;obtain⟨d,q⟩:∃d,d=a+1:=⟨_,rfl⟩;have B:(a:Int)+1=(d:Int):=O;rw[<-q] at m j k l;have C:(0:Int)<=(a:Int):=O;have D:(a:Int)<256:=O;have E:(0:Int)<=(d:Int):=O;have F:(d:Int)<256:=O;have G:¬(i:Int)<0:=O;have H:¬(128:Int)<=(i:Int):=O;clear f g h p q;generalize t.clear a=I at *;generalize t.clear d=J at *;go_enter func152,ntmps152;go_wp2;go_quiet (fail);go_wp2;go_ret;exact⟨an (by rw[l.o];exact k.o),_,rfl⟩
def Rd.clearBad(s:Rd)(i:Nat):Bool:=decide (2^s.hd.D<=s.tl.smp i)
def Rd.acceptClear(s:Rd):Nat:=if s.hd.K=3 then 0 else if(List.range (chn s.hd.K)).any s.clearBad then 9 else 0
theorem Eu(s:Rd)k(h:k<chn s.hd.K)(a:s.clearBad k=true):(List.range (chn s.hd.K)).any s.clearBad=true:=by
 rw[List.any_eq_true];exact⟨k,Yi.2 h,a⟩
theorem tN(s:Rd)k(h:chn s.hd.K<=k)(b:∀a,a<k->s.clearBad a=false):(List.range (chn s.hd.K)).any s.clearBad=false:=by
 rw[List.any_eq_false];intro a c;have:=Yi.1 c;rw[b a O];decide
theorem oF b o n c s w(v:Blk w b n c)(x:RdV c o s)(b5:o+5954<=n)(a3:s.hd.D<=16)(a4:s.hd.K<=6)(H:∀l,s.tl.clear l<256):Calls prog 124 #[.pointer (some ⟨b,o,none⟩)] w λf j=>f=.returned (.int .i64 s.acceptClear)/\Kept w j:=by
 have W:=v.at (i:=o+6+3) O x.hd.K;by_cases r:s.hd.K=3
 .have y:Z (s.acceptClear=0):=by show s.acceptClear=0;unfold Rd.acceptClear;rw[I r]
  rw[r] at W;clear v x H r a4;go_enter func124,ntmps124;go_wp2;go_ret;exact⟨an (by rw[y.o];rfl),Kept.refl _⟩
 .have y:Z (s.acceptClear=if(List.range (chn s.hd.K)).any s.clearBad then 9 else 0):=by show s.acceptClear=_;unfold Rd.acceptClear;rw[N r]
  have b6:((s.hd.K:Int)==3)=false:=Xa;have a5:Z _:=v;have p:Z _:=x;have L:Z _:=H;have X:Z (∀z:World,Calls prog 93 #[.int .i64 s.hd.K] z λf j=>f=.returned (.int .i64 (chn s.hd.K))/\j=z):=λz=>fj _ z O
  have a6:=gN s.hd.K;obtain⟨k,t⟩:∃k,k=chn s.hd.K:=⟨_,rfl⟩;rw[<-t] at X a6;replace t:Z _:=t;clear v x H r;go_enter func124,ntmps124;go_wp2_with fail;refine(X.o _).mono ?_;rintro f a7 ⟨rfl,b7⟩;subst a7;go_wp2_with fail;go_loopg [4] k (λa8 a9 a=>∃d:Nat,a8=k-d/\d<=k/\a9=.int .i64 d/\Kept w a/\(∀l,l<d->s.clearBad l=false))
  case atStart=>exact⟨0,O,O,rfl,Kept.refl _,λl b0=>O⟩
  case round=>
   obtain⟨d,M,b8,rfl,Y,A⟩:=hrel;have B:Z (Kept w wr):=Y;replace M:Z _:=M;replace A:Z _:=A;clear Y;by_cases b1:d<k
   .have b2:(d:Int)<(k:Int):=O
    obtain⟨m,P⟩:∃m,m=2^s.hd.D:=⟨_,rfl⟩;obtain⟨h,C⟩:∃h,h=s.tl.smp d:=⟨_,rfl⟩;have b9:h<65536:=by rw[C];unfold Tl.smp;have:=L.o (2*d);have:=L.o (2*d+1);omega
    have D:Z (s.clearBad d=decide (m<=h)):=by show s.clearBad d=_;unfold Rd.clearBad;rw[P,C]
    have a0:Z _:=a5.o.kept B.o;have a1:Z (∀a,Kept wr a->Calls prog 129 #[.agg #[.int .i64 s.hd.W,.int .i64 s.hd.H,.int .i64 s.hd.D,.int .i64 s.hd.K,.int .i64 s.hd.L]] a λf j=>f=.returned (.int .u32 m)/\Kept a j):=λa _=>(ld _ _ _ _ _ a a3).mono (λf j ⟨Q,R⟩=>⟨by rw[Q,P],by rw[R];exact Xw (Xs _ _) (E _) _⟩)
    have a2:Z (∀a,Kept wr a->Calls prog 152 #[.pointer (some ⟨b,o+24,none⟩),.int .i64 d] a λf j=>f=.returned (.int .i64 h)/\Kept a j):=λa S=>(gd b (o+24) n d c s.tl a (a0.o.kept S) p.o.tl O O L.o).mono (λf j ⟨Q,c0,R⟩=>⟨by rw[Q,C],by rw[R];exact(Kept.refl _).drewN _⟩)
    have c1:IntKind.u32.wrap (h:Int)=(h:Int):=by rw[Yq];omega
    have G:Z (∀a,Kept wr a->(a.cell? ⟨b,o+6,none⟩=some (.int .i64 s.hd.W)/\a.cell? ⟨b,o+6+1,none⟩=some (.int .i64 s.hd.H)/\a.cell? ⟨b,o+6+2,none⟩=some (.int .i64 s.hd.D)/\a.cell? ⟨b,o+6+3,none⟩=some (.int .i64 s.hd.K)/\a.cell? ⟨b,o+6+4,none⟩=some (.int .i64 s.hd.L))):=λa S=>
     have u:=a0.o.kept S
     ⟨u.at O p.o.hd.W,u.at O p.o.hd.H,u.at O p.o.hd.D,u.at O p.o.hd.K,u.at O p.o.hd.L⟩
    clear P C W;by_cases q:m<=h
    .have b3:decide ((m:Int)<=(h:Int))=true:=K
     have T:Z (s.clearBad d=true):=by show s.clearBad d=true;rw[D.o];exact K q
     have b4:=K q;clear q D;go_wp2_with fail;go_region_held3 (λa=>Kept wr a/\a.cell? ⟨b,o+6,none⟩=some (.int .i64 s.hd.W)/\a.cell? ⟨b,o+6+1,none⟩=some (.int .i64 s.hd.H)/\a.cell? ⟨b,o+6+2,none⟩=some (.int .i64 s.hd.D)/\a.cell? ⟨b,o+6+3,none⟩=some (.int .i64 s.hd.K)/\a.cell? ⟨b,o+6+4,none⟩=some (.int .i64 s.hd.L)) (first|exact⟨e,G.o _ e⟩|exact⟨(Kept.refl _).drewN 1,G.o _ ((Kept.refl _).drewN 1)⟩|go_keep) ((first|(go_at_call 129;refine(a1.o _ (by first|exact e|exact(Kept.refl _).drewN 1)).mono ?_;rintro f U ⟨rfl,g⟩;have e:=(by first|exact e.trans g|exact((Kept.refl _).drewN 1).trans g))|(go_at_call 152;refine(a2.o _ (by first|exact e|exact(Kept.refl _).drewN 1)).mono ?_;rintro f U ⟨rfl,g⟩;have e:=(by first|exact e.trans g|exact((Kept.refl _).drewN 1).trans g))))
     have V:Z (s.acceptClear=9):=by show s.acceptClear=9;rw[y.o,I (Eu s d (by rw[<-t.o];exact b1) T.o)]
     go_wp2;go_ret;exact⟨an (by rw[V.o];rfl),B.o.trans e⟩
    .have b3:decide ((m:Int)<=(h:Int))=false:=J
     have T:Z (s.clearBad d=false):=by show s.clearBad d=false;rw[D.o];exact J q
     have b4:=J q;clear q D;go_wp2_with fail;go_region_held3 (λa=>Kept wr a/\a.cell? ⟨b,o+6,none⟩=some (.int .i64 s.hd.W)/\a.cell? ⟨b,o+6+1,none⟩=some (.int .i64 s.hd.H)/\a.cell? ⟨b,o+6+2,none⟩=some (.int .i64 s.hd.D)/\a.cell? ⟨b,o+6+3,none⟩=some (.int .i64 s.hd.K)/\a.cell? ⟨b,o+6+4,none⟩=some (.int .i64 s.hd.L)) (first|exact⟨e,G.o _ e⟩|exact⟨(Kept.refl _).drewN 1,G.o _ ((Kept.refl _).drewN 1)⟩|go_keep) ((first|(go_at_call 129;refine(a1.o _ (by first|exact e|exact(Kept.refl _).drewN 1)).mono ?_;rintro f U ⟨rfl,g⟩;have e:=(by first|exact e.trans g|exact((Kept.refl _).drewN 1).trans g))|(go_at_call 152;refine(a2.o _ (by first|exact e|exact(Kept.refl _).drewN 1)).mono ?_;rintro f U ⟨rfl,g⟩;have e:=(by first|exact e.trans g|exact((Kept.refl _).drewN 1).trans g))))
     go_wp2_with fail;go_roundg (k-(d+1))
     case measure=>rw[M.o];omega
     case rel=>
      exact⟨d+1,rfl,O,Xj,B.o.trans e,λl b0=>by
       by_cases f:l=d
       .rw[f];exact T.o
       .exact A.o l O⟩
   .have b2:¬(d:Int)<(k:Int):=O
    have V:Z (s.acceptClear=0):=by show s.acceptClear=0;rw[y.o,N (by rw[tN s d (by rw[<-t.o];omega) A.o];decide)]
    go_wp2;go_ret;exact⟨an (by rw[V.o];rfl),B.o⟩
def Rd.acceptHead(s:Rd):Rd×Nat:=if(bL s.raw).1≠0 then(s,(bL s.raw).1) else({s with hd:=(bL s.raw).2},0)
theorem HdV.set5{c o h}(k:HdV c o h)g:HdV (upd (upd (upd (upd (upd c o (.int .i64 g.W)) (o+1) (.int .i64 g.H)) (o+2) (.int .i64 g.D)) (o+3) (.int .i64 g.K)) (o+4) (.int .i64 g.L)) o g:=
 ((((k.set_W g.W).set_H g.H).set_D g.D).set_K g.K).set_L g.L
theorem rD b o n c s w(a:Blk w b n c)(d:RdV c o s)(X:o+5954<=n)(v:∀p,s.raw p<256):Calls prog 123 #[.pointer (some ⟨b,o,none⟩)] w λq R=>q=.returned (.int .i64 (s.acceptHead.2:Int))/\aR b o n c s.acceptHead.1 w R:=by
 have x:=a.at (i:=o+11) O (d.raw 0 O);have y:=a.at (i:=o+11+1) O (d.raw 1 O);have z:=a.at (i:=o+11+2) O (d.raw 2 O);have A:=a.at (i:=o+11+3) O (d.raw 3 O);have B:=a.at (i:=o+11+4) O (d.raw 4 O);have C:=a.at (i:=o+11+5) O (d.raw 5 O);have D:=a.at (i:=o+11+6) O (d.raw 6 O);have F:=a.at (i:=o+11+7) O (d.raw 7 O);have G:=a.at (i:=o+11+8) O (d.raw 8 O);have H:=a.at (i:=o+11+9) O (d.raw 9 O);have J:=a.at (i:=o+11+10) O (d.raw 10 O);have K:=a.at (i:=o+11+11) O (d.raw 11 O);have L:=a.at (i:=o+11+12) O (d.raw 12 O);have r:Z _:=a;have f:Z _:=d;have t:Z (s.acceptHead=if(bL s.raw).1≠0 then(s,(bL s.raw).1) else({s with hd:=(bL s.raw).2},0)):=rfl;have l:=U (qV s.raw w v);clear a d v;obtain⟨h,M⟩:∃h,h=(bL s.raw).1:=⟨_,rfl⟩;obtain⟨e,P⟩:∃e,e=(bL s.raw).2:=⟨_,rfl⟩;rw[<-M,<-P] at l t;clear M P;unfold hdV at l;by_cases m:h=0
 .have S:((h:Int)!=0)=false:=by rw[Xx];omega
  have u:Z (s.acceptHead=({s with hd:=e},0)):=by show s.acceptHead=_;rw[t.o,N (λT=>T m)]
  replace m:Z _:=m;go_enter func123,ntmps123;go_wp2_with fail;refine l.o.mono ?_;rintro q Q ⟨rfl,j⟩;have g:Z _:=r.o.kept j;have V:Z (Fr1 b w Q):=Fr.of_kept j;have Y:=g.o.at (i:=o+6) O f.o.hd.W;have a0:=g.o.at (i:=o+6+1) O f.o.hd.H;have a1:=g.o.at (i:=o+6+2) O f.o.hd.D;have a2:=g.o.at (i:=o+6+3) O f.o.hd.K;have a3:=g.o.at (i:=o+6+4) O f.o.hd.L;have a4:=g.o.fz;have a5:=g.o.lt;clear x y z A B C D F G H J K L j l r;go_wp2;go_ret;rw[u.o];refine⟨rfl,_,(((((g.o.set (k:=o+6) O (.int .i64 e.W)).set (k:=o+6+1) O (.int .i64 e.H)).set (k:=o+6+2) O (.int .i64 e.D)).set (k:=o+6+3) O (.int .i64 e.K)).set (k:=o+6+4) O (.int .i64 e.L)).kept (Xw (Xs _ _) (E _) _),f.o.set_hd e (f.o.hd.set5 e) (λp W => ?_),⟨λp W => ?_⟩,Fr.alloc (Fr1.set (Fr1.set (Fr1.set (Fr1.set (Fr1.set V.o _ _) _ _) _ _) _ _) _ _) _⟩
  .rw[upd_ne _ _ _ O,upd_ne _ _ _ O,upd_ne _ _ _ O,upd_ne _ _ _ O,upd_ne _ _ _ O]
  .rw[upd_ne _ _ _ O,upd_ne _ _ _ O,upd_ne _ _ _ O,upd_ne _ _ _ O,upd_ne _ _ _ O]
 .have S:((h:Int)!=0)=true:=by rw[XJ];omega
  have u:Z (s.acceptHead=(s,h)):=by show s.acceptHead=_;rw[t.o,I m]
  go_enter func123,ntmps123;go_wp2_with fail;refine l.o.mono ?_;rintro q Q ⟨rfl,j⟩;clear x y z A B C D F G H J K L;go_wp2;go_ret;rw[u.o];exact⟨rfl,aR.of_kept r.o f.o (Xw j j.size _)⟩
def Rd.accept(s:Rd):Rd×Nat:=if s.ctype=bt then s.acceptHead else if s.ctype=aT then(s,s.acceptClear) else(s,0)
theorem B8 b o n c s w(d:Blk w b n c)(e:RdV c o s)(r:o+5954<=n)(j:∀v,s.raw v<256)(x:s.hd.D<=16)(y:s.hd.K<=6)(k:∀z,s.tl.clear z<256):Calls prog 86 #[.pointer (some ⟨b,o,none⟩)] w λm A=>m=.returned (.int .i64 (s.accept.2:Int))/\aR b o n c s.accept.1 w A:=by
 have l:=d.at (i:=o+4) O e.ctype;have t:Z _:=d;have u:Z _:=e;have f:Z (s.accept=if s.ctype=bt then s.acceptHead else if s.ctype=aT then(s,s.acceptClear) else(s,0)):=rfl;by_cases a:s.ctype=bt
 .have h:Z (s.accept=s.acceptHead):=by show s.accept=_;rw[f.o,I a]
  have p:=U (rD b o n c s w d e r j);rw[a] at l;clear d e j k a f;unfold bt at l;go_enter func86,ntmps86;go_wp2_with fail;refine p.o.mono ?_;rintro m B ⟨rfl,q⟩;go_wp2_with fail;go_ret;rw[h.o];exact⟨rfl,q⟩
 .by_cases g:s.ctype=aT
  .have h:Z (s.accept=(s,s.acceptClear)):=by show s.accept=_;rw[f.o,N a,I g]
   have p:=U (oF b o n c s w d e r x y k);rw[g] at l;clear d e j k a g f;unfold aT at l;go_enter func86,ntmps86;go_wp2_with fail;refine p.o.mono ?_;rintro m B ⟨rfl,q⟩;go_wp2_with fail;go_ret;rw[h.o];exact⟨rfl,aR.of_kept t.o u.o q⟩
  .have h:Z (s.accept=(s,0)):=by show s.accept=_;rw[f.o,N a,N g]
   have C:=cty s bt a;have D:=cty s aT g;clear d e j k a g f;unfold bt at C;unfold aT at D;go_enter func86,ntmps86;go_wp2_with fail;go_ret;rw[h.o];exact⟨rfl,aR.refl t.o u.o⟩
