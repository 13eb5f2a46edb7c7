import Derived.Test.YtbedkdnphobmlaaGreatDoorProg
import Derived.Test.YtbedkdnphobmlaaGreatDoorUaa00
import Derived.Test.YtbedkdnphobmlaaGreatDoorUaa01
import Derived.Test.YtbedkdnphobmlaaGreatDoorUaa03
import Derived.Test.YtbedkdnphobmlaaGreatDoorUaa04
set_option linter.all false
set_option maxRecDepth 100000
set_option maxHeartbeats 0
namespace Go.Proofs.YtbedkdnphobmlaaGreatDoor
open Go.RowKit Px Tryz
def bB(r:Rw):Rw:={r with columns:=dh r.ps.cf r.ps.cs r.hd.W,lines:=dh r.ps.rf r.ps.rs r.hd.H}
def cj:Nat->Rw->Rw
 | 0,r=>r
 | k+1,r=>if r.pass<(av r.hd.L:Int) then(if 0<(bB r).columns/\0<(bB r).lines then bB r else cj k {bB r with pass:=r.pass+1}) else r
def ll(q:Rw):Rw:={q with line:=0,size:=(q.columns*ck q.hd+7)/8,above:=λ_=>0}
def Rw.next(r:Rw):Rw:=ll (cj 8 {r with pass:=r.pass+1})
theorem sI:∀(k:Nat) (r:Rw),r.hd.W<=16->r.columns<=16->(cj k r).columns<=16
 | 0,_,_,a=>a
 | k+1,r,b,a=>by
  have c:(bB r).columns<=16:=jw (cr _ _).2.1 b;unfold cj;split
  .split
   .exact c
   .exact sI k _ b c
  .exact a
theorem qy:∀(k:Nat) (r:Rw),eU r->eU (cj k r)
 | 0,_,a=>a
 | k+1,r,a=>by
  unfold cj;split
  .split
   .exact(⟨a.W,a.H,a.D,a.K,a.L,a.filter,a.row,a.above⟩)
   .exact qy k _ ⟨a.W,a.H,a.D,a.K,a.L,a.filter,a.row,a.above⟩
  .exact a
theorem z3:(prog.info? 90).map (·.size)=some 128:=Xk
theorem rO:zeroCells90=Array.replicate 128 (.int .u8 0):=Xk
theorem qI:(zeroCells90).toList.length=128:=by rw[rO,Array.toList_replicate,XE]
theorem B4 j(a:j<128):(zeroCells90).toList[j]? = some (.int .u8 ((0:Nat):Int)):=by rw[rO,Array.toList_replicate,Zj,I a];rfl
theorem Dh:∀a∈(zeroCells90).toList,a.oneCell'=true:=ia (m:=256) qI (λb c=>⟨0,O,O,B4 b c⟩)
theorem aE(w:World){b g}k j v(h:g≠b):(w.setCell ⟨b,k,none⟩ v).cell? ⟨g,j,none⟩=w.cell? ⟨g,j,none⟩ :=
 Yl _ _ _ _ (by intro a;apply h;injection a with c _;exact c.symm)
theorem Ck(T:Nat)(h:T<=1024):IntKind.i64.wrap ((IntKind.i64.wrap (IntKind.i64.wrap (T:Int)+7)).tdiv 8)=(((T+7)/8:Nat):Int):=by
 have b:∀a:Nat,a<=2000->IntKind.i64.wrap (a:Int)=(a:Int):=λa c=>Xd
 rw[b T O,show(T:Int)+7=((T+7:Nat):Int) from O,b _ O,XZ O,show((T+7:Nat):Int)/8=(((T+7)/8:Nat):Int) from O,b _ O]
structure NpR (b o n:Nat) (c:Nat->Value) (r:Rw) (w:World) (k:Nat) (d:Nat->Value) (q:Rw) (W:World):Prop where
 B:Blk W b n d
 V:RwV d o q
 C:FrC b o (o+1549) c d
 F:Fr1 b w W
 eq:cj k q=cj 8 {r with pass:=r.pass+1}
 hd:q.hd=r.hd
 p0:0<=q.pass
 p7:q.pass<=8
 pk:8<=(k:Int)+q.pass
theorem mW b o n c r w(M:Blk w b n c)(a2:RwV c o r)(i0:o+1549<=n)(b3:eU r)(i1:r.columns<=16)(l9 : -1<=r.pass)(m0:r.pass<=7)(f4:aS w)(i2:b≠0):Calls prog 166 #[.pointer (some ⟨b,o,none⟩)] w λt C=>t=.returned (.tuple #[])/\eG b o n c r.next w C:=by
 have D:=M.at (i:=o+6) O a2.pass;have m1:=M.fz;have c8:Z (NpR b o n c r w 8 (upd c (o+6) (.int .i64 (r.pass+1))) {r with pass:=r.pass+1} (w.setCell ⟨b,o+6,none⟩ (.int .i64 (r.pass+1)))) :=
  ⟨M.set O _,a2.set_pass _,FrC.upd _ O O,Fr1.set (Fr.refl _ _) _ _,rfl,rfl,by show 0<=r.pass+1;omega,by show r.pass+1<=8;omega,by show(8:Int)<=((8:Nat):Int)+(r.pass+1);omega⟩
 have f5:Z (∀e,Fr1 b w e->aS e):=λe i3=>f4.fr i3 (λa=>i2 a.symm)
 have z:Z _:=b3;clear M a2 f4 b3;go_enter func166,ntmps166;go_upto_block 0 with fail
 generalize c9:w.setCell ⟨b,o+6,none⟩ (.int .i64 (r.pass+1))=m2 at *;replace c9:Z _:=c9;go_cut [2] from 10 (λj e=>eG b o n c (cj 8 {r with pass:=r.pass+1}) w e)
 case first=>
  go_wp2_with fail;go_loopg [2] ((8-(r.pass+1)).toNat) (λb4 j e=>∃G l,∃a:Rw,b4=(8-a.pass).toNat/\NpR b o n c r w G l a e)
  case atStart=>exact⟨8,_,_,rfl,c8.o⟩
  case round=>
   obtain⟨G,l,a,c3,X⟩:=hrel;clear c8;have u:Z _:=X;replace c3:Z _:=c3;have D:=X.B.at (i:=o+6) O X.V.pass;have b5:=X.B.at (i:=o+4) O X.V.hd.L;have m3:=X.p0;have m4:=X.p7;have d0:Z (∀g:World,Calls prog 94 #[.int .i64 a.hd.L] g λt C=>t=.returned (.int .i64 (av a.hd.L))/\C=g):=λg=>lS _ g
   clear X;by_cases d1:a.pass<(av a.hd.L:Int)
   .have m5:av a.hd.L<=7:=by unfold av;split<;>omega
    have d2:Z (∃x,G=x+1/\cj G a=(if 0<(bB a).columns/\0<(bB a).lines then bB a else cj x {bB a with pass:=a.pass+1})):=by
     have:=u.o.pk
     obtain⟨x,rfl⟩:∃x,G=x+1:=⟨G-1,O⟩;refine⟨x,rfl,?_⟩;show cj (x+1) a=_
     rw[cj];rw[I d1]
    generalize b6:av a.hd.L=i4 at *;replace b6:Z _:=b6;generalize K:a.pass=y at *;replace K:Z _:=K;generalize Y:a.hd.L=a7 at *;replace Y:Z _:=Y;go_wp2_with fail;go_quiet ((go_at_call 94;exact Xu (d0.o _)))
    go_wp2_with fail;have q:Z (NpR b o n c r w G l a (wr.drewN nq)):=⟨u.o.B.kept ((Kept.refl _).drewN _),u.o.V,u.o.C,u.o.F.kept ((Kept.refl _).drewN _),u.o.eq,u.o.hd,u.o.p0,u.o.p7,u.o.pk⟩;generalize wr.drewN nq=a0 at *;clear u D b5 d0;have D:=q.o.B.at (i:=o+6) O q.o.V.pass;have b5:=q.o.B.at (i:=o+4) O q.o.V.hd.L;rw[K.o] at D;rw[Y.o] at b5;obtain⟨P,c4⟩:∃P:Nat,y=(P:Int):=⟨y.toNat,O⟩;rw[c4] at D;have m6:P<7:=O;have i5:Z (a.pass.toNat=P):=by show a.pass.toNat=P;rw[K.o,c4];rfl
    replace c4:Z _:=c4;have i6:a7<=1:=by rw[<-Y.o,q.o.hd];exact z.o.L
    have c5:Z (∀g:World,Kept a0 g->Calls prog 95 #[.int .i64 a7,.int .i64 P] g λt C=>t=.returned (psV a.ps)/\Kept g C):=λg b4=>by
     have:=mP a7 P g i6 O (f5.o g (q.o.F.kept b4))
     rw[show a.ps=ae a7 P from by unfold Rw.ps;rw[Y.o,i5.o]];exact this
    obtain⟨d,a8⟩:∃i7,i7=a.ps:=⟨_,rfl⟩;rw[<-a8] at c5;have i8:Z (d.cf<=4/\1<=d.cs/\d.cs<=8/\d.cb<=8/\d.rf<=4/\1<=d.rs/\d.rs<=8/\d.rb<=8):=by rw[a8];exact cr _ _
    replace a8:Z _:=a8;unfold psV at c5;have f6:=q.o.B.lt;have d3:Z (Kept a0 (a0.alloc (Obj.cells #[.int .i64 0,.int .i64 0,.int .i64 0,.int .i64 0,.int .i64 0,.int .i64 0] 146))):=Xw (Xs _ _) (E _) _;have f7:∀b7,(a0.alloc b7).cell? ⟨b,o+4,none⟩=some (.int .i64 a7):=λb7=>(YG _ _ _ f6).trans b5
    have f8:∀b7,(a0.alloc b7).cell? ⟨b,o+6,none⟩=some (.int .i64 P):=λb7=>(YG _ _ _ f6).trans D
    go_cut [2] from 10 to 71 (λj e=>∃f:Nat,j=.pointer (some ⟨f,0,none⟩)/\Kept a0 e/\EB a0 e d f)
    case first=>
     go_region_with (go_at_call 95;refine(c5.o _ (by first|exact(Kept.refl _).drewN 1|exact d3.o.drewN 1)).mono ?_;rintro t i9 ⟨rfl,d4⟩;first|(have j0:=zeroAt d4;obtain⟨j1,j2,j3,j4,j5,j6,m7⟩:=j0;have A:=Kept.trans (d3.o.drewN 1) d4)|(have A:=Kept.trans ((Kept.refl a0).drewN 1) d4))
     all_goals
      clear f7 f8;go_wp2_with fail;go_meet
      case rel=>
       first
        | exact sA A j1 j2 j3 j4 j5 j6
        | exact sB A
    case rest=>
     obtain⟨f,rfl,d5,j7⟩:=hcut;clear b5 D f7 f8 c5 d3;have h:Z (NpR b o n c r w G l a wc):=⟨q.o.B.kept d5,q.o.V,q.o.C,q.o.F.kept d5,q.o.eq,q.o.hd,q.o.p0,q.o.p7,q.o.pk⟩;obtain⟨m8,a3,d6,d7,d8,f9,g0,g1⟩:=j7;have Q:f≠b:=O;clear q d5;have d9:=h.o.B.at (i:=o) O h.o.V.hd.W;obtain⟨m9,j8,n0,n1,n2,j9,n3,n4⟩:=i8.o;have k0:a.hd.W<=16:=by rw[h.o.hd];exact z.o.W
     have k1:a.hd.H<=16:=by rw[h.o.hd];exact z.o.H
     have g2:Z (∀(g:World),Calls prog 130 #[.agg #[.int .i64 d.cf,.int .i64 d.cs,.int .i64 d.cb],.int .i64 a.hd.W] g λt C=>t=.returned (.int .i64 ((bB a).columns:Int))/\Kept g C):=λg=>by
      have:=zA d.cf d.cs d.cb a.hd.W g O j8 O k0
      rw[show(bB a).columns=dh d.cf d.cs a.hd.W from by rw[a8.o];rfl];exact this
     have g3:Z (∀(g:World),Calls prog 130 #[.agg #[.int .i64 d.rf,.int .i64 d.rs,.int .i64 d.rb],.int .i64 a.hd.H] g λt C=>t=.returned (.int .i64 ((bB a).lines:Int))/\Kept g C):=λg=>by
      have:=zA d.rf d.rs d.rb a.hd.H g O j9 O k1
      rw[show(bB a).lines=dh d.rf d.rs a.hd.H from by rw[a8.o];rfl];exact this
     obtain⟨s,a4⟩:∃s,s=(bB a).columns:=⟨_,rfl⟩;obtain⟨B,a5⟩:∃B,B=(bB a).lines:=⟨_,rfl⟩;rw[<-a4] at g2;rw[<-a5] at g3;replace a4:Z _:=a4;replace a5:Z _:=a5;have H:=h.o.B.at (i:=o+8) O h.o.V.columns;have a9:=h.o.B.at (i:=o+9) O h.o.V.lines;generalize g4:a.hd.W=e0 at *;replace g4:Z _:=g4;have e1:=h.o.B.lt;go_wp2_with fail;go_region_held3 (λe=>e.cell? ⟨f,0,none⟩=some (.int .i64 d.cf)/\e.cell? ⟨f,1,none⟩=some (.int .i64 d.cs)/\e.cell? ⟨f,2,none⟩=some (.int .i64 d.cb)/\e.cell? ⟨b,o,none⟩=some (.int .i64 e0)) (first|exact⟨d6,d7,d8,d9⟩|exact L.o|exact b8.o _|go_keep) ((go_at_call 130;refine(g2.o _).mono ?_;rintro t v ⟨rfl,A⟩;have R:=((Kept.refl _).drewN 1).trans A;have L:Z (v.cell? ⟨f,0,none⟩=some (.int .i64 d.cf)/\v.cell? ⟨f,1,none⟩=some (.int .i64 d.cs)/\v.cell? ⟨f,2,none⟩=some (.int .i64 d.cb)/\v.cell? ⟨b,o,none⟩=some (.int .i64 e0)):=⟨(R.cell (p:=⟨f,0,none⟩) a3).trans d6,(R.cell (p:=⟨f,1,none⟩) a3).trans d7,(R.cell (p:=⟨f,2,none⟩) a3).trans d8,(R.cell (p:=⟨b,o,none⟩) e1).trans d9⟩;have k2:=(R.cell (p:=⟨b,o+8,none⟩) e1).trans H;have k3:=(R.frozen (p:=⟨b,o+8,none⟩) e1).trans (h.o.B.fz (o+8));have b8:Z (∀j:Value,(v.setCell ⟨b,o+8,none⟩ j).cell? ⟨f,0,none⟩=some (.int .i64 d.cf)/\(v.setCell ⟨b,o+8,none⟩ j).cell? ⟨f,1,none⟩=some (.int .i64 d.cs)/\(v.setCell ⟨b,o+8,none⟩ j).cell? ⟨f,2,none⟩=some (.int .i64 d.cb)/\(v.setCell ⟨b,o+8,none⟩ j).cell? ⟨b,o,none⟩=some (.int .i64 e0)):=λj=>⟨(aE _ _ _ _ Q).trans L.o.1,(aE _ _ _ _ Q).trans L.o.2.1,(aE _ _ _ _ Q).trans L.o.2.2.1,(aa _ _ _ _ _ O).trans L.o.2.2.2⟩))
     have S:Z (Blk (v.setCell ⟨b,o+8,none⟩ (.int .i64 s)) b n (upd l (o+8) (.int .i64 s))):=(h.o.B.kept R).set O _;have a1:Z (Fr1 b wc (v.setCell ⟨b,o+8,none⟩ (.int .i64 s))):=Fr1.set (Fr.of_kept R) _ _;have e2:=Xq a3 a1.o.size;generalize (v.setCell ⟨b,o+8,none⟩ (.int .i64 s))=c6 at *;clear A R L b8 k2 k3 d9 H a9 d6 d7 d8;have e3:=(a1.o.cell (k:=3) a3 Q).trans f9;have e4:=(a1.o.cell (k:=4) a3 Q).trans g0;have e5:=(a1.o.cell (k:=5) a3 Q).trans g1;have b0:Z _:=h.o.V.set_columns s;have b9:=S.o.at (i:=o+1) O b0.o.hd.H;have a9:=S.o.at (i:=o+9) O b0.o.lines;have e6:=S.o.lt;clear f9 g0 g1;replace b9:c6.cell? ⟨b,o+1,none⟩=some (.int .i64 a.hd.H):=b9;generalize g5:a.hd.H=e7 at *;replace g5:Z _:=g5;go_wp2_with fail;go_region_held3 (λe=>e.cell? ⟨f,3,none⟩=some (.int .i64 d.rf)/\e.cell? ⟨f,4,none⟩=some (.int .i64 d.rs)/\e.cell? ⟨f,5,none⟩=some (.int .i64 d.rb)/\e.cell? ⟨b,o+1,none⟩=some (.int .i64 e7)) (first|exact⟨e3,e4,e5,b9⟩|exact b1.o|exact g6.o _|go_keep) ((go_at_call 130;refine(g3.o _).mono ?_;rintro t J ⟨rfl,g7⟩;have T:=((Kept.refl _).drewN 1).trans g7;have b1:Z (J.cell? ⟨f,3,none⟩=some (.int .i64 d.rf)/\J.cell? ⟨f,4,none⟩=some (.int .i64 d.rs)/\J.cell? ⟨f,5,none⟩=some (.int .i64 d.rb)/\J.cell? ⟨b,o+1,none⟩=some (.int .i64 e7)):=⟨(T.cell (p:=⟨f,3,none⟩) e2).trans e3,(T.cell (p:=⟨f,4,none⟩) e2).trans e4,(T.cell (p:=⟨f,5,none⟩) e2).trans e5,(T.cell (p:=⟨b,o+1,none⟩) e6).trans b9⟩;have k4:=(T.cell (p:=⟨b,o+9,none⟩) e6).trans a9;have k5:=(T.frozen (p:=⟨b,o+9,none⟩) e6).trans (S.o.fz (o+9));have g6:Z (∀j:Value,(J.setCell ⟨b,o+9,none⟩ j).cell? ⟨f,3,none⟩=some (.int .i64 d.rf)/\(J.setCell ⟨b,o+9,none⟩ j).cell? ⟨f,4,none⟩=some (.int .i64 d.rs)/\(J.setCell ⟨b,o+9,none⟩ j).cell? ⟨f,5,none⟩=some (.int .i64 d.rb)/\(J.setCell ⟨b,o+9,none⟩ j).cell? ⟨b,o+1,none⟩=some (.int .i64 e7)):=λj=>⟨(aE _ _ _ _ Q).trans b1.o.1,(aE _ _ _ _ Q).trans b1.o.2.1,(aE _ _ _ _ Q).trans b1.o.2.2.1,(aa _ _ _ _ _ O).trans b1.o.2.2.2⟩))
     have a6:Z (Blk (J.setCell ⟨b,o+9,none⟩ (.int .i64 B)) b n (upd (upd l (o+8) (.int .i64 s)) (o+9) (.int .i64 B))):=(S.o.kept T).set O _;have k6:Z (Fr1 b wc (J.setCell ⟨b,o+9,none⟩ (.int .i64 B))):=Fr1.set (a1.o.kept T) _ _;generalize (J.setCell ⟨b,o+9,none⟩ (.int .i64 B))=k7 at *;clear g7 T b1 g6 k4 k5 b9 a9 e3 e4 e5 S a1;have b2:Z (RwV (upd (upd l (o+8) (.int .i64 s)) (o+9) (.int .i64 B)) o (bB a)):=by
      have:=b0.o.set_lines B
      rw[show bB a={({a with columns:=s}:Rw) with lines:=B} from by rw[a4.o,a5.o];rfl];exact this
     have e8:Z (FrC b o (o+1549) c (upd (upd l (o+8) (.int .i64 s)) (o+9) (.int .i64 B))):=(h.o.C.trans (FrC.upd _ O O)).trans (FrC.upd _ O O);have e9:Z _:=h.o.F.trans k6.o;clear b0;have H:=a6.o.at (i:=o+8) O b2.o.columns;have a9:=a6.o.at (i:=o+9) O b2.o.lines;have D:=a6.o.at (i:=o+6) O b2.o.pass;rw[<-a4.o] at H;rw[<-a5.o] at a9;replace D:k7.cell? ⟨b,o+6,none⟩=some (.int .i64 a.pass):=D;rw[K.o] at D;have n5:=a6.o.fz (o+6);by_cases g8:0<s
     .by_cases g9:0<B
      .have h0:(0:Int)<(s:Int):=O
       go_wp2_with fail;go_meet
       case rel=>
        refine⟨_,a6.o,?_,e8.o,e9.o⟩;obtain⟨x,_,c0⟩:=d2.o;rw[<-h.o.eq,c0,I ⟨by rw[<-a4.o];exact g8,by rw[<-a5.o];exact g9⟩];exact b2.o
      .have h0:(0:Int)<(s:Int):=O
       go_wp2_with fail;go_roundg ((8-(y+1)).toNat)
       case measure=>rw[c3.o];omega
       case rel=>
        obtain⟨x,k8,c0⟩:=d2.o;refine⟨x,upd (upd (upd l (o+8) (.int .i64 s)) (o+9) (.int .i64 B)) (o+6) (.int .i64 (y+1)),{bB a with pass:=y+1},rfl,a6.o.set O _,b2.o.set_pass _,e8.o.trans (FrC.upd _ O O),Fr1.set e9.o _ _,?_,h.o.hd,by show 0<=y+1;omega,by show y+1<=8;omega,?_⟩
        .rw[<-h.o.eq,c0,N (λf0=>g9 (by rw[a5.o];exact f0.2))]
        .have:=h.o.pk
         rw[K.o] at this;show(8:Int)<=(x:Int)+(y+1)
         omega
     .have h0:¬(0:Int)<(s:Int):=O
      go_wp2_with fail;go_roundg ((8-(y+1)).toNat)
      case measure=>rw[c3.o];omega
      case rel=>
       obtain⟨x,k8,c0⟩:=d2.o;refine⟨x,upd (upd (upd l (o+8) (.int .i64 s)) (o+9) (.int .i64 B)) (o+6) (.int .i64 (y+1)),{bB a with pass:=y+1},rfl,a6.o.set O _,b2.o.set_pass _,e8.o.trans (FrC.upd _ O O),Fr1.set e9.o _ _,?_,h.o.hd,by show 0<=y+1;omega,by show y+1<=8;omega,?_⟩
       .rw[<-h.o.eq,c0,N (λf0=>g8 (by rw[a4.o];exact f0.1))]
       .have:=h.o.pk
        rw[K.o] at this;show(8:Int)<=(x:Int)+(y+1)
        omega
   .have n6:=d1
    have k9:Z (cj G a=a):=by
     show cj G a=a
     cases G with
     | zero=>rfl
     | succ x=>rw[cj,N d1]
    generalize b6:av a.hd.L=i4 at *;replace b6:Z _:=b6;generalize K:a.pass=y at *;replace K:Z _:=K;generalize Y:a.hd.L=a7 at *;replace Y:Z _:=Y;go_wp2_with fail;go_quiet ((go_at_call 94;exact Xu (d0.o _)))
    go_wp2_with fail;go_meet
    case rel=>
     refine⟨l,u.o.B.kept ((Kept.refl _).drewN _),?_,u.o.C,u.o.F.kept ((Kept.refl _).drewN _)⟩;rw[<-u.o.eq,k9.o];exact u.o.V
 case rest=>
  obtain⟨l,M,a2,h1,h2⟩:=hcut;have l0:Z (r.next=ll (cj 8 {r with pass:=r.pass+1})):=rfl;have V:eU (cj 8 {r with pass:=r.pass+1}):=qy 8 _ ⟨z.o.W,z.o.H,z.o.D,z.o.K,z.o.L,z.o.filter,z.o.row,z.o.above⟩;have h3:(cj 8 {r with pass:=r.pass+1}).columns<=16:=sI 8 _ z.o.W i1;clear c8 f5 z c9 D;generalize cj 8 {r with pass:=r.pass+1}=a at *;have W:Z (Blk (wc.setCell ⟨b,o+7,none⟩ (.int .i64 0)) b n (upd l (o+7) (.int .i64 0))):=M.set O _;have c1:=U (a2.set_line 0);have h4:Z (Fr1 b w (wc.setCell ⟨b,o+7,none⟩ (.int .i64 0))):=Fr1.set h2 _ _;have h5:Z (FrC b o (o+1549) c (upd l (o+7) (.int .i64 0))):=h1.trans (FrC.upd _ O O);have l1:=M.at (i:=o+7) O a2.line;have l2:=M.fz (o+7);have H:=W.o.at (i:=o+8) O c1.o.columns;replace H:(wc.setCell ⟨b,o+7,none⟩ (.int .i64 0)).cell? ⟨b,o+8,none⟩=some (.int .i64 a.columns):=H;clear M a2 h2 h1;have f1:Z (∀e,Kept (wc.setCell ⟨b,o+7,none⟩ (.int .i64 0)) e->Calls prog 185 #[.pointer (some ⟨b,o,none⟩)] e λt C=>t=.returned (.int .i64 (ck a.hd))/\Kept e C):=λe b4=>(lj b o n _ {a with line:=0} e (W.o.kept b4) c1.o i0 ⟨V.W,V.H,V.D,V.K,V.L,V.filter,V.row,V.above⟩).mono (λt C ⟨l3,n7,l4⟩=>⟨l3,by rw[l4];exact(Kept.refl _).drewN _⟩)
  have h6:=iA V;obtain⟨F,c2⟩:∃F,F=a.columns*ck a.hd:=⟨_,rfl⟩;have h7:(a.columns:Int)*(ck a.hd:Int)=(F:Int):=by rw[c2];simp
  have l5:F<=1024:=by rw[c2];exact XF h3 h6
  replace c2:Z _:=c2;go_upto_region 8 with fail
  generalize h8:wc.setCell ⟨b,o+7,none⟩ (.int .i64 0)=i9 at *;replace h8:Z _:=h8;clear l1 l2;obtain⟨h9,f2⟩:∃h9,h9=ck a.hd:=⟨_,rfl⟩;rw[<-f2] at f1 h7 h6;replace f2:Z _:=f2;obtain⟨c7,f3⟩:∃c7,c7=a.columns:=⟨_,rfl⟩;rw[<-f3] at H h7 h3;replace f3:Z _:=f3;go_region_held3 (λe=>e.cell? ⟨b,o+8,none⟩=some (.int .i64 c7)) (first|exact H|exact L.o|exact b8.o _|go_keep) ((go_at_call 185;refine(f1.o _ ((Kept.refl _).drewN 1)).mono ?_;rintro t v ⟨rfl,b3⟩;have A:=((Kept.refl _).drewN 1).trans b3;have L:Z _:=(A.cell (p:=⟨b,o+8,none⟩) W.o.lt).trans H;have l6:=(A.cell (p:=⟨b,o+10,none⟩) W.o.lt).trans (W.o.at (i:=o+10) O c1.o.size);have l7:=(A.frozen (p:=⟨b,o+10,none⟩) W.o.lt).trans (W.o.fz (o+10));have b8:Z (∀j:Value,(v.setCell ⟨b,o+10,none⟩ j).cell? ⟨b,o+8,none⟩=some (.int .i64 c7)):=λj=>(aa _ _ _ _ _ O).trans L.o))
  rw[(Ck F l5)];have S:Z (Blk (v.setCell ⟨b,o+10,none⟩ (.int .i64 (((F+7)/8:Nat):Int))) b n (upd (upd l (o+7) (.int .i64 0)) (o+10) (.int .i64 (((F+7)/8:Nat):Int)))):=(W.o.kept A).set O _;have a1:Z (Fr1 b w (v.setCell ⟨b,o+10,none⟩ (.int .i64 (((F+7)/8:Nat):Int)))):=Fr1.set (h4.o.kept A) _ _;have b0:Z (RwV (upd (upd l (o+7) (.int .i64 0)) (o+10) (.int .i64 (((F+7)/8:Nat):Int))) o {a with line:=0,size:=(F+7)/8}):=c1.o.set_size _;have l8:Z (FrC b o (o+1549) c (upd (upd l (o+7) (.int .i64 0)) (o+10) (.int .i64 (((F+7)/8:Nat):Int)))):=h5.o.trans (FrC.upd _ O O);clear b3 A L b8 l6 l7 H W h4 c1 h5 f1;generalize v.setCell ⟨b,o+10,none⟩ (.int .i64 (((F+7)/8:Nat):Int))=c6 at *;have n8:(storeCells ⟨b,o+141,none⟩ (zeroCells90).toList).run prog c6=.ok () (c6.setCells b (o+141) (zeroCells90).toList):=aM (by rw[qI];exact S.o.there O) Dh;go_wp2;go_end0
  refine⟨rfl,_,S.o.sets (k:=o+141) (m:=128) O (λ_ => .int .u8 ((0:Nat):Int)) qI B4,?_,l8.o.trans (FrC.updL O O),Fr1.sets _ _ a1.o⟩
  have:=b0.o.lay_above (λ_=>0)
  rw[l0.o];unfold ll;rw[<-c2.o];exact this
def Rw.laid(r:Rw):Rw:={aP r r.columns with above:=(aP r r.columns).row,taken:=0,line:=r.line+1}
def Rw.bad(r:Rw):Bool:=decide (r.hd.K=3) && !oB r
def Rw.endRow(r:Rw):Rw×Nat:=if r.bad then(r,16) else(if r.lines<=r.line+1 then r.laid.next else r.laid,0)
theorem xn{r}(h:eU r):eU r.laid:=by
 have a:=(dV r r.columns).ok h;exact⟨a.W,a.H,a.D,a.K,a.L,a.filter,a.row,a.row⟩
theorem RwV.lay_above'{c o r}(h:RwV c o r):RwV (updL c (o+141) 128 (λj=>c (o+13+j))) o {r with above:=r.row} :=
 h.all_above r.row (λb a=>(dA a).trans (h.row b a)) (λb a=>dr (λd=>a ⟨d.1,O⟩))
theorem Bo b o n c r w(u:Blk w b n c)(v:RwV c o r)(G:o+1549<=n)(x:lA r)(X:xZ r)(Y:aS w)(H:b≠0):Calls prog 229 #[.pointer (some ⟨b,o,none⟩)] w λy b8=>y=.returned (.int .i64 (r.endRow.2:Int))/\eG b o n c r.endRow.1 w b8:=by
 have b9:=u.at (i:=o+3) O v.hd.K;have a0:Z _:=u;have a1:Z _:=v;have k:Z _:=x;have c0:Z _:=X;have a2:Z (∀p,Fr1 b w p->aS p):=λp c1=>Y.fr c1 (λc2=>H c2.symm)
 have a3:=U (H5 b o n c r w u v G x);have d9:=x.ok.K;clear u v x X Y;go_enter func229,ntmps229;go_upto_region 1 with fail
 go_cut [13] from 3 (λz p=>z=.bool r.bad/\Kept w p)
 case first=>
  by_cases L:r.hd.K=3
  .have c3:((r.hd.K:Int)==3)=true:=by rw[XI];omega
   have g:Z (r.bad = !oB r):=by show r.bad = !oB r;unfold Rw.bad;rw[K L];rfl
   generalize oB r=e0 at *;generalize r.hd.K=c4 at *;subst L;go_wp2_with fail;refine a3.o.mono ?_;rintro y e1 ⟨rfl,c5⟩;go_wp2_with fail
   all_goals
    go_meet
    case rel=>exact⟨by rw[g.o],c5⟩
  .have c3:((r.hd.K:Int)==3)=false:=by rw[F];omega
   have g:Z (r.bad=false):=by show r.bad=false;unfold Rw.bad;rw[J L];rfl
   generalize r.hd.K=c4 at *;go_wp2_with fail;go_meet
   case rel=>exact⟨by rw[g.o],Kept.refl _⟩
 case rest=>
  obtain⟨j,M⟩:=hcut;clear b9 a3;have P:Z _:=a0.o.kept M;have A:Z (Fr1 b w wc):=Fr.of_kept M;clear a0 M;by_cases B:r.bad=true
  .have g:Z (r.endRow=(r,16)):=by show r.endRow=(r,16);unfold Rw.endRow;rw[B];rfl
   rw[B] at j;subst j;go_wp2_with fail;go_ret;rw[g.o];exact⟨rfl,c,P.o,a1.o,FrC.refl _ _ _ _,A.o⟩
  .have a4:r.bad=false:=by simpa using B
   clear B;rw[a4] at j;subst j;have g:Z (r.endRow=(if r.lines<=r.line+1 then r.laid.next else r.laid,0)):=by show r.endRow=_;unfold Rw.endRow;rw[a4];rfl
   go_wp2_with fail;refine(sW b o n c r _ P.o a1.o G k.o c0.o (a2.o _ A.o) H).mono ?_;rintro y h ⟨rfl,f,a5,a6,a7,a8⟩;have Q:Z _:=a5;have a9:Z _:=a6;have c6:Z _:=a7;have c7:Z _:=A.o.trans a8;clear a5 a6 a7 a8 P A;have q:Z (hE (aP r r.columns) r):=dV r _;have C:Z _:=a9.o.lay_above';obtain⟨e,l⟩:∃e,e=(List.range 128).map (λa=>f (o+13+a)):=⟨_,rfl⟩;have s:e.length=128:=by rw[l];simp
   have R:∀a,a<128->e[a]? = some (f (o+13+a)):=λa S=>by rw[l,XQ,Yp S];rfl
   have b0:∀z∈e,z.oneCell'=true:=by
    intro z j;rw[l,YP] at j;obtain⟨a,S,rfl⟩:=j;rw[a9.o.row a (Yi.1 S)];rfl
   have b1:Z (h.rangeAt b (o+13) e):=by show h.rangeAt b (o+13) e;rw[l];exact Q.o.range O
   have c8:(storeCells ⟨b,o+141,none⟩ e).run prog h=.ok () (h.setCells b (o+141) e):=aM (by rw[s];exact Q.o.there O) b0;have c9:Z ((prog.info? 90).map (·.size)=some e.length):=by show _=_;rw[s];exact z3
   have t:Z (Blk (h.setCells b (o+141) e) b n (updL f (o+141) 128 (λa=>f (o+13+a)))):=Q.o.sets O _ s R;have b2:Z (Fr1 b w (h.setCells b (o+141) e)):=Fr1.sets _ _ c7.o;have b3:Z (FrC b o (o+1549) c (updL f (o+141) 128 (λa=>f (o+13+a)))):=c6.o.trans (FrC.updL O O);replace l:Z _:=l;replace s:Z _:=s;replace R:Z _:=R;clear b0;go_wp2;refine wp_load_mid 90 _ rfl b (o+13) rfl e _ b1.o underlying90 rfl c9.o ?_;have d0:=t.o.at (i:=o+11) O C.o.taken;have m:=t.o.at (i:=o+7) O C.o.line;have d1:=t.o.fz;replace m:(h.setCells b (o+141) e).cell? ⟨b,o+7,none⟩=some (.int .i64 ((aP r r.columns).line:Int)):=m;rw[show(aP r r.columns).line=r.line from q.o.2.2.2.1] at m;have e2:=k.o.line;obtain⟨d,b4⟩:∃d,d=r.line+1:=⟨_,rfl⟩;have e3:(r.line:Int)+1=(d:Int):=O;have T:Z _:=b4;clear b4;clear b1;go_upto_region 5 with fail
   generalize h.setCells b (o+141) e=V at *;clear c8;have D:Z (Blk ((V.setCell ⟨b,o+11,none⟩ (.int .i64 0)).setCell ⟨b,o+7,none⟩ (.int .i64 d)) b n (upd (upd (updL f (o+141) 128 (λa=>f (o+13+a))) (o+11) (.int .i64 0)) (o+7) (.int .i64 d))):=(t.o.set O _).set O _;have E:Z (RwV (upd (upd (updL f (o+141) 128 (λa=>f (o+13+a))) (o+11) (.int .i64 0)) (o+7) (.int .i64 d)) o r.laid):=by
    have:=(C.o.set_taken 0).set_line d
    show RwV _ o r.laid
    rw[show r.laid={({({aP r r.columns with above:=(aP r r.columns).row}:Rw) with taken:=0}:Rw) with line:=d} from by rw[T.o];rfl];exact this
   have b5:Z (FrC b o (o+1549) c (upd (upd (updL f (o+141) 128 (λa=>f (o+13+a))) (o+11) (.int .i64 0)) (o+7) (.int .i64 d))):=(b3.o.trans (FrC.upd _ O O)).trans (FrC.upd _ O O);have W:Z (Fr1 b w ((V.setCell ⟨b,o+11,none⟩ (.int .i64 0)).setCell ⟨b,o+7,none⟩ (.int .i64 d))):=Fr1.set (Fr1.set b2.o _ _) _ _;go_upto_region 7 with fail
   generalize (V.setCell ⟨b,o+11,none⟩ (.int .i64 0)).setCell ⟨b,o+7,none⟩ (.int .i64 d)=e4 at *;clear t C b3 b2 d0 m d1;generalize upd (upd (updL f (o+141) 128 (λa=>f (o+13+a))) (o+11) (.int .i64 0)) (o+7) (.int .i64 d)=b6 at *;have m:=D.o.at (i:=o+7) O E.o.line;have d2:=D.o.at (i:=o+9) O E.o.lines;rw[show r.laid.line=d from T.o.symm] at m;rw[show r.laid.lines=r.lines from q.o.2.2.2.2.2.1] at d2;rw[<-T.o] at g;by_cases b7:r.lines<=d
   .have d3:(r.lines:Int)<=(d:Int):=O
    go_quiet (fail);go_wp2_with fail;refine(mW b o n b6 r.laid _ (D.o.kept ((Kept.refl _).drewN _)) E.o G (xn k.o.ok) (by rw[show r.laid.columns=r.columns from q.o.2.2.2.2.1];exact k.o.col) (by rw[show r.laid.pass=r.pass from q.o.2.2.1];have:=k.o.pass0;omega) (by rw[show r.laid.pass=r.pass from q.o.2.2.1];exact k.o.pass7) (a2.o _ (W.o.kept ((Kept.refl _).drewN _))) H).mono ?_;rintro y e5 ⟨rfl,d4,d5,d6,d7,d8⟩;go_wp2_with fail;go_ret;rw[g.o,I b7];exact⟨rfl,d4,d5,d6,b5.o.trans d7,(W.o.kept ((Kept.refl _).drewN _)).trans d8⟩
   .have d3:¬(r.lines:Int)<=(d:Int):=O
    go_quiet (fail);go_wp2_with fail;go_ret;rw[g.o,N b7];exact⟨rfl,b6,D.o.kept ((Kept.refl _).drewN _),E.o,b5.o,W.o.kept ((Kept.refl _).drewN _)⟩
def Rw.take(r:Rw)(x:Nat):Rw×Nat:=
 if aN r then(r,17)
 else if r.taken=0 then({r with taken:=1}:Rw).takeF x
 else if r.taken+1<=r.size then(({r with taken:=r.taken+1}:Rw).lay (r.taken-1) x,0)
 else(({r with taken:=r.taken+1}:Rw).lay (r.taken-1) x).endRow
theorem lA.taken'{r}(h:lA r){m}(a:m<=129):lA {r with taken:=m}:=⟨⟨h.ok.W,h.ok.H,h.ok.D,h.ok.K,h.ok.L,h.ok.filter,h.ok.row,h.ok.above⟩,h.dd,h.col,h.lns,h.line,h.fit,h.size,a,h.pass0,h.pass7,h.colours⟩
theorem lA.lay{r}(h:lA r)i x:lA (r.lay i x):=⟨⟨h.ok.W,h.ok.H,h.ok.D,h.ok.K,h.ok.L,h.ok.filter,λa=>by
 show upd r.row i (lu r i x) a<256
 by_cases b:a=i
 .subst b;rw[upd_same];exact YD _ O
 .rw[upd_ne _ _ _ b];exact h.ok.row a,h.ok.above⟩,h.dd,h.col,h.lns,h.line,h.fit,h.size,h.taken,h.pass0,h.pass7,h.colours⟩
theorem CZ(b d n x:Nat)c r w(H:Blk w b n c)(J:RwV c d r)(o:d+1549<=n)(T:lA r)(c3:r.taken<=128)(U:aN r=false->xZ r)(V:aS w)(W:b≠0)(X:x<256):Calls prog 220 #[.pointer (some ⟨b,d,none⟩),.int .u8 x] w λe p=>e=.returned (.int .i64 ((r.take x).2:Int))/\eG b d n c (r.take x).1 w p:=by
 have Y:Z _:=H;have q:Z _:=J;have a0:Z _:=T;have a1:Z _:=U;have b2:Z (∀K,Fr1 b w K->aS K):=λK b3=>V.fr b3 (λa2=>W a2.symm)
 have a3:Z (Calls prog 150 #[.pointer (some ⟨b,d,none⟩)] w λe p=>e=.returned (.bool (aN r))/\Kept w p):=(we b d n c r w H J o).mono (λe p ⟨h,a2,s⟩=>⟨h,by rw[s];exact(Kept.refl _).drewN _⟩);clear H J T V U;go_enter func220,ntmps220;go_wp2_with fail;refine a3.o.mono ?_;rintro e t ⟨rfl,L⟩;have j:Z _:=Y.o.kept L;have M:Z (Fr1 b w t):=Fr.of_kept L;clear Y L a3;cases u:aN r with
 | true=>
  have k:Z (r.take x=(r,17)):=by show r.take x=(r,17);unfold Rw.take;rw[u];rfl
  go_wp2_with fail;go_ret;rw[k.o];exact⟨rfl,c,j.o,q.o,FrC.refl _ _ _ _,M.o⟩
 | false=>
  have k:Z (r.take x=if r.taken=0 then({r with taken:=1}:Rw).takeF x
    else if r.taken+1<=r.size then(({r with taken:=r.taken+1}:Rw).lay (r.taken-1) x,0)
    else(({r with taken:=r.taken+1}:Rw).lay (r.taken-1) x).endRow):=by show r.take x=_;unfold Rw.take;rw[u];rfl
  have a4:Z _:=a1.o u;clear a1 u;have g:=j.o.at (i:=d+11) O q.o.taken;have b4:=j.o.fz (d+11);obtain⟨a,a5⟩:∃a,a=r.taken+1:=⟨_,rfl⟩;have c4:(r.taken:Int)+1=(a:Int):=O;have l:Z _:=a5;have a6:a<=129:=O;clear a5;have v:Z (Blk (t.setCell ⟨b,d+11,none⟩ (.int .i64 a)) b n (upd c (d+11) (.int .i64 a))):=j.o.set O _;have y:Z _:=q.o.set_taken a;have P:Z (Fr1 b w (t.setCell ⟨b,d+11,none⟩ (.int .i64 a))):=Fr1.set M.o _ _;have Q:Z (FrC b d (d+1549) c (upd c (d+11) (.int .i64 a))):=FrC.upd _ O O;go_upto_region 4 with fail
  generalize t.setCell ⟨b,d+11,none⟩ (.int .i64 a)=R at *;generalize upd c (d+11) (.int .i64 a)=a7 at *;clear g b4 j M q;have g:=v.o.at (i:=d+11) O y.o.taken;replace g:R.cell? ⟨b,d+11,none⟩=some (.int .i64 a):=g;by_cases h:a=1
  .have b5:((a:Int)==1)=true:=by rw[XI];omega
   have z:Z (r.take x=({r with taken:=a}:Rw).takeF x):=by show r.take x=_;rw[k.o,I (by have:=l.o;omega),h]
   replace h:Z _:=h;go_wp2_with fail;refine(qa b d n x a7 {r with taken:=a} R v.o y.o o X).mono ?_;rintro e S ⟨rfl,A,B,C,D,m⟩;go_wp2_with fail;go_ret;rw[z.o];exact⟨rfl,A,B,C,Q.o.trans D,P.o.trans m⟩
  .have b5:((a:Int)==1)=false:=by rw[F];omega
   obtain⟨f,a8⟩:∃f,f=r.taken-1:=⟨_,rfl⟩;have c5:(a:Int)-2=(f:Int):=by have:=l.o;omega
   have b6:f<128:=by have:=l.o;omega
   have z:Z (r.take x=if a<=r.size then(({r with taken:=a}:Rw).lay f x,0) else(({r with taken:=a}:Rw).lay f x).endRow):=by show r.take x=_;rw[k.o,N (by have:=l.o;omega),a8,l.o]
   clear k a8;go_wp2_with fail;refine(I0 b d n f x a7 {r with taken:=a} R v.o y.o o (a0.o.taken' a6).ok b6 X).mono ?_;rintro e S ⟨rfl,A,E,G,a9,b0⟩;have B:Z _:=E;have C:Z _:=G;have D:Z _:=Q.o.trans a9;have m:Z _:=P.o.trans b0;have g:=E.at (i:=d+11) O G.taken;have b1:=E.at (i:=d+10) O G.size;replace g:S.cell? ⟨b,d+11,none⟩=some (.int .i64 a):=g;replace b1:S.cell? ⟨b,d+10,none⟩=some (.int .i64 r.size):=b1;clear E G a9 b0 v y Q P;by_cases s:a<=r.size
   .have b7:(a:Int)<=(r.size:Int):=O
    go_wp2_with fail;go_quiet (fail);go_wp2_with fail;go_ret;rw[z.o,I s];exact⟨rfl,A,B.o.kept ((Kept.refl _).drewN _),C.o,D.o,m.o.kept ((Kept.refl _).drewN _)⟩
   .have b7:¬(a:Int)<=(r.size:Int):=O
    go_wp2_with fail;go_quiet (fail);go_wp2_with fail;refine(Bo b d n A _ _ (B.o.kept ((Kept.refl _).drewN _)) C.o o ((a0.o.taken' a6).lay f x) (⟨a4.o.px,a4.o.py⟩) (b2.o _ (m.o.kept ((Kept.refl _).drewN _))) W).mono ?_;rintro e c6 ⟨rfl,b8,b9,c0,c1,c2⟩;go_wp2_with fail;go_ret;rw[z.o,N s];exact⟨rfl,b8,b9,c0,D.o.trans c1,(m.o.kept ((Kept.refl _).drewN _)).trans c2⟩
def rw0(h:Hd)(k:Nat):Rw:=⟨h,k,-1,0,0,0,0,0,0,λ_=>0,λ_=>0,λ_=>false,λ_=>0⟩
def Rw.start(h:Hd)(k:Nat):Rw:=(rw0 h k).next
theorem rN:zeroCells96.toList=List.replicate 12 (.int .i64 0)++(List.replicate 257 (.int .u8 0)++(List.replicate 256 (.bool false)++List.replicate 1024 (.int .u16 0))):=Xk
theorem sf:zeroCells96.size=1549:=by
 rw[<-Array.length_toList,rN,Xv,Xv,Xv,XE,XE,XE,XE]
theorem A9:(prog.info? 96).map (·.size)=some 1549:=Xk
theorem ay(l r:List Value)n j(a:l.length=n):(l++r).getD (n+j) undef=r.getD j undef:=by
 rw[G,G,XP O,show n+j-l.length=j from O]
theorem df n j v r(a:j<n):(List.replicate n v++r).getD j undef=v:=by
 rw[G,XV (by rw[XE];exact a),Zj,I a];rfl
theorem Blk.new(w:World)A t n(a:A.size=n):Blk (w.alloc (Obj.cells A t)) w.heap.size n (λi=>A.getD i undef):=by
 refine⟨λi b => ?_,λi=>XB _ _ _ _ rfl,Xi⟩;rw[Xr _ _ _ _ rfl];show A[i]? = some (A.getD i undef)
 rw[Ys,Array.getElem?_eq_getElem O];rfl
def fC:List Value:=List.replicate 257 (.int .u8 0)++(List.replicate 256 (.bool false)++List.replicate 1024 (.int .u16 0))
theorem mJ:fC.length=1537:=by unfold fC;rw[Xv,Xv,XE,XE,XE]
theorem fm j(a:j<257):fC.getD j undef=.int .u8 0:=df _ _ _ _ a
theorem oN j(a:j<256):fC.getD (257+j) undef=.bool false:=(ay _ _ 257 j (XE ..)).trans (df _ _ _ _ a)
theorem mI j(a:j<1024):fC.getD (257+(256+j)) undef=.int .u16 0:=(ay _ _ 257 _ (XE ..)).trans ((ay _ _ 256 j (XE ..)).trans (by
 have:=df 1024 j (.int .u16 0) [] a
 rw[XN] at this;exact this))
theorem Hi:zeroCells96.toList=List.replicate 12 (.int .i64 0)++fC:=rN
theorem IN a0 a1 a2 a3 a4 a5 a6 z(T:List Value):((((((((List.replicate 12 z++T).set 0 a0).set 1 a1).set 2 a2).set 3 a3).set 4 a4).set 5 a5).set 6 a6)=[a0,a1,a2,a3,a4,a5,a6,z,z,z,z,z]++T:=rfl
theorem dX(l r:List Value)i(h:i<l.length):(l++r).getD i undef=l.getD i undef:=by
 rw[G,G,XV h]
theorem Hy h(k:Nat):∃i:List Value,(((((((zeroCells96.toList.set 0 (.int .i64 h.W)).set 1 (.int .i64 h.H)).set 2 (.int .i64 h.D)).set 3 (.int .i64 h.K)).set 4 (.int .i64 h.L)).set 5 (.int .i64 k)).set 6 (.int .i64 (-1)))=i/\i.length=1549/\RwV (λj=>i.getD j undef) 0 (rw0 h k):=by
 rw[Hi,IN];refine⟨_,rfl,by rw[Xv,mJ];rfl,?_⟩;obtain⟨f,b⟩:∃f,f=[Value.int .i64 h.W,.int .i64 h.H,.int .i64 h.D,.int .i64 h.K,.int .i64 h.L,.int .i64 k,.int .i64 (-1),.int .i64 0,.int .i64 0,.int .i64 0,.int .i64 0,.int .i64 0]:=⟨_,rfl⟩;rw[<-b];have m:f.length=12:=by rw[b];rfl
 have c:∀a e,a<12->f.getD a undef=e->(f++fC).getD a undef=e:=λa e d l=>(dX _ _ a O).trans l
 have g:∀a j e,a=12+j->fC.getD j undef=e->(f++fC).getD a undef=e:=λa j e d l=>by rw[d];exact(ay _ _ 12 j m).trans l
 exact⟨⟨c 0 _ O (by rw[b];rfl),c 1 _ O (by rw[b];rfl),c 2 _ O (by rw[b];rfl),c 3 _ O (by rw[b];rfl),c 4 _ O (by rw[b];rfl)⟩,c 5 _ O (by rw[b];rfl),c 6 _ O (by rw[b];rfl),c 7 _ O (by rw[b];rfl),c 8 _ O (by rw[b];rfl),c 9 _ O (by rw[b];rfl),c 10 _ O (by rw[b];rfl),c 11 _ O (by rw[b];rfl),g 12 0 _ rfl (fm 0 O),λa d=>g _ (1+a) _ O (fm _ O),λa d=>g _ (129+a) _ O (fm _ O),λa d=>g _ (257+a) _ O (oN _ d),λa d=>g _ (257+(256+a)) _ O (mI _ d)⟩
theorem RwV.one{c o r}(h:RwV c o r)i(a:i<1549):(c (o+i)).oneCell'=true:=by
 by_cases b:i<13
 .have:i=0\/i=1\/i=2\/i=3\/i=4\/i=5\/i=6\/i=7\/i=8\/i=9\/i=10\/i=11\/i=12:=O
  rcases this with rfl|rfl|rfl|rfl|rfl|rfl|rfl|rfl|rfl|rfl|rfl|rfl|rfl
  .rw[show c (o+0)=_ from h.hd.W];rfl
  .rw[h.hd.H];rfl
  .rw[h.hd.D];rfl
  .rw[h.hd.K];rfl
  .rw[h.hd.L];rfl
  .rw[h.colours];rfl
  .rw[h.pass];rfl
  .rw[h.line];rfl
  .rw[h.columns];rfl
  .rw[h.lines];rfl
  .rw[h.size];rfl
  .rw[h.taken];rfl
  .rw[h.filter];rfl
 .by_cases d:i<141
  .have:=h.row (i-13) O
   rw[show o+13+(i-13)=o+i from O] at this;rw[this];rfl
  .by_cases e:i<269
   .have:=h.above (i-141) O
    rw[show o+141+(i-141)=o+i from O] at this;rw[this];rfl
   .by_cases f:i<525
    .have:=h.known (i-269) O
     rw[show o+269+(i-269)=o+i from O] at this;rw[this];rfl
    .have:=h.smp (i-525) O
     rw[show o+525+(i-525)=o+i from O] at this;rw[this];rfl
def hdV(h:Hd):Value := .agg #[.int .i64 (h.W:Int),.int .i64 (h.H:Int),.int .i64 (h.D:Int),.int .i64 (h.K:Int),.int .i64 (h.L:Int)]
theorem bA(c:Nat->Value)m:((List.range m).map c).length=m:=by rw[List.length_map,List.length_range]
theorem mO c m j(a:j<m):((List.range m).map c).getD j undef=c j:=by
 rw[G,XQ,Yp a];rfl
theorem cg(c:Nat->Value)m j(a:j<m):((List.range m).map c)[j]? = some (c j):=by
 rw[XQ,Yp a];rfl
theorem Af h(k:Nat)w(a6:h.W<=16)(a7:h.H<=16)(a8:h.D<=16)(a9:h.K<=6)(b0:h.L<=1)(K:aS w):Calls prog 147 #[hdV h,.int .i64 k] w λe L=>∃b:List Value,e=.returned (.agg b.toArray)/\b.length=1549/\RwV (λi=>b.getD i undef) 0 (Rw.start h k)/\(∀l∈b,l.oneCell'=true)/\Kept w L:=by
 unfold hdV;obtain⟨g,b1,x,M⟩:=Hy h k;have W:∀l∈g,l.oneCell'=true:=by
  intro l D;obtain⟨a,F,e⟩:=List.getElem_of_mem D
  have:=M.one a O
  rw[XD,G,Xt F] at this;rw[<-e];exact this
 have b7:=B _ _ (K 0 O);obtain⟨n,y⟩:∃n,n=w.alloc (Obj.cells #[.int .i64 h.W,.int .i64 h.H,.int .i64 h.D,.int .i64 h.K,.int .i64 h.L] 71):=⟨_,rfl⟩;have N:n.heap.size=w.heap.size+1:=by rw[y];simp
 have X:Kept w n:=by rw[y];exact Xw (Xs _ _) (E _) _
 obtain⟨o,r⟩:∃o,o=n.alloc (Obj.cells zeroCells96 96):=⟨_,rfl⟩;have Y:o.heap.size=w.heap.size+1+1:=by rw[r];simp[N]
 have a0:Kept n o:=by rw[r];exact Xw (Xs _ _) (E _) _
 have P:=Blk.new n zeroCells96 96 1549 sf;rw[<-r,N] at P;obtain⟨j,z⟩:∃j,j=o.alloc (Obj.cells zeroCells96 96):=⟨_,rfl⟩;have Q:Kept o j:=by rw[z];exact Xw (Xs _ _) (E _) _
 have H:=Blk.new o zeroCells96 96 1549 sf;rw[<-z,Y] at H;have a1:(storeCells ⟨w.heap.size+1+1,0,none⟩ g).run prog j=.ok () (j.setCells (w.heap.size+1+1) 0 g):=aM (by rw[x];exact H.there O) W;have a2:=H.sets (k:=0) (m:=1549) O (λa=>g.getD a undef) x (λa F=>by
  show g[a]? = some (g.getD a undef)
  rw[G,Xt O];rfl)
 have a3:=M.congr (d:=updL (λi=>zeroCells96.getD i undef) 0 1549 (λa=>g.getD a undef)) (λi _ p=>by
  have:=dA (c:=λi=>zeroCells96.getD i undef) (k:=0) (f:=λa=>g.getD a undef) (show i<1549 from O)
  rw[XD] at this;exact this)
 have R:Fr1 (w.heap.size+1+1) j (j.setCells (w.heap.size+1+1) 0 g):=Fr1.sets _ _ (Fr.refl _ _);have s:=Fr.to_kept (S:=λa=>a=w.heap.size+1+1) ((X.trans a0).trans Q) R (λi p e=>O);have A:=(P.kept Q).fr R O;have T:Z (∀I,I=j.setCells (w.heap.size+1+1) 0 g->Calls prog 166 #[.pointer (some ⟨w.heap.size+1+1,0,none⟩)] I λe L=>e=.returned (.tuple #[])/\eG (w.heap.size+1+1) 0 1549 (updL (λi=>zeroCells96.getD i undef) 0 1549 (λa=>g.getD a undef)) (Rw.start h k) I L):=λI e=>by
  rw[e];exact mW _ 0 1549 _ (rw0 h k) _ a2 a3 O ⟨a6,a7,a8,a9,b0,by show(0:Nat)<256;omega,λi=>by show(0:Nat)<256;omega,λi=>by show(0:Nat)<256;omega⟩ (by show(0:Nat)<=16;omega) (by show(-1:Int) <= -1;omega) (by show(-1:Int)<=7;omega) (K.kept s) O
 rw[z,r,y] at a1;replace A:Z _:=A;replace s:Z _:=s;rw[z,r,y] at T A s;clear M W y r z X a0 Q P H a2 a3 R K N Y;replace x:Z _:=x;go_enter func147,ntmps147;go_wp2_with fail;refine(T.o _ rfl).mono ?_;rintro e q ⟨rfl,t,a4,U,b2,V⟩;have b3:Z (Kept w q):=Fr.to_kept (S:=λa=>a=w.heap.size+1+1) s.o V (λi p e=>O);obtain⟨b,u⟩:∃b,b=(List.range 1549).map t:=⟨_,rfl⟩;have C:b.length=1549:=by rw[u];exact bA t 1549
 have b4:Z _:=U.congr (λi _ p=>by show b.getD i undef=t i;rw[u];exact mO t 1549 i O);have J:∀l∈b,l.oneCell'=true:=by
  intro l D;rw[u,YP] at D;obtain⟨a,F,rfl⟩:=D
  have:=U.one a (Yi.1 F)
  rw[XD] at this;exact this
 have b5:Z (q.rangeAt (w.heap.size+1+1) 0 b):=by
  show q.rangeAt (w.heap.size+1+1) 0 b
  have:=a4.range (k:=0) (m:=1549) O
  rw[u];rw[show(λa=>t (0+a))=t from funext (λa=>by rw[XD])] at this;exact this
 have p:Z ((prog.info? 96).map (·.size)=some b.length):=by show _=_;rw[C];exact A9
 have a5:Z (q.there (w.heap.size+1) 0 b.length):=by show q.there _ 0 b.length;rw[C];exact(A.o.fr V O).there O
 have b8:(storeCells ⟨w.heap.size+1,0,none⟩ b).run prog q=.ok () (q.setCells (w.heap.size+1) 0 b):=aM a5.o J;have b6:Z _:=
  Yw _ _ _ _ b _ (XO _ _ _ _ a5.o) underlying96 rfl p.o
 replace u:Z _:=u;replace C:Z _:=C;replace J:Z _:=J;clear a1 T a4 U b2 V A s b1 x;go_wp2_with fail;refine wp_load_mid 96 _ rfl (w.heap.size+1+1) 0 rfl b _ b5.o underlying96 rfl p.o ?_;go_wp2;refine XA (v := .agg b.toArray) ?_ rfl ⟨b,rfl,C.o,b4.o,J.o,(Fr.to_kept (S:=λa=>a=w.heap.size+1) b3.o (Fr1.sets _ _ (Fr.refl _ _)) (λi p e=>O))⟩;exact ah rfl _ _ _ _ _ rfl b6.o
