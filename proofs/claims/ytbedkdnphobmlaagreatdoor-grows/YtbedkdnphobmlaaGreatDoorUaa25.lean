import Derived.Test.YtbedkdnphobmlaaGreatDoorProg
import Derived.Lib.SmallJoins
import Derived.Test.YtbedkdnphobmlaaGreatDoorUaa00
import Derived.Test.YtbedkdnphobmlaaGreatDoorUaa01
import Derived.Test.YtbedkdnphobmlaaGreatDoorUaa03
import Derived.Test.YtbedkdnphobmlaaGreatDoorUaa11
import Derived.Test.YtbedkdnphobmlaaGreatDoorUaa21
set_option linter.all false
set_option maxRecDepth 100000
set_option maxHeartbeats 0
namespace Go.Proofs.YtbedkdnphobmlaaGreatDoor
open Go.RowKit Tryz
theorem H0:(prog.info? 224).map (λi=>(i.zero,i.size,i.bytes))=some (some (.agg #[.int .i64 0,.int .i64 0]),2,16):=by kernel_rfl
theorem vh:(prog.info? 246).map (λi=>(i.zero,i.size,i.bytes))=some (some (.agg #[.bool false,.int .i64 0]),2,16):=by kernel_rfl
theorem HZ:(prog.info? 228).map (λi=>(i.zero,i.size,i.bytes))=some (some (.slice none 0 0),1,24):=by kernel_rfl
theorem Hv(n j:Nat)(h:j<n):(madeCells #[Value.int .u8 0] n).toList[j]? = some (.int .u8 0):=by
 simp[madeCells,h,Nat.mod_one]
theorem pG:zeroCells210=Array.replicate 316 (.int .i64 0):=by kernel_rfl
theorem CL:(prog.info? 210).map (·.size)=some 316:=by kernel_rfl
theorem vt(k a b:Int)(R:Int)(w:World)(h:(k=16/\a=3/\b=2)\/(k=17/\a=3/\b=3)\/(k=18/\a=11/\b=7)):Calls prog 218 #[.int .i64 k,.int .i64 R] w λr w'=>r=.returned (.bool (decide (a<=R)))/\w'=w:=by
 have F:ZH0 (Calls prog 195 #[.int .i64 k] w λr w'=>r=.returned (.tuple #[.int .i64 a,.int .i64 b])/\w'=w):=by
  rcases h with⟨rfl,rfl,rfl⟩|⟨rfl,rfl,rfl⟩|⟨rfl,rfl,rfl⟩
  all_goals
   go_enter func195,ntmps195;go_wp2;go_ret2;exact⟨rfl,rfl⟩
 clear h;go_enter func218,ntmps218;go_wp2_with fail;refine F.o.mono ?_;rintro r w' ⟨rfl,rfl⟩;go_wp2;go_ret;exact⟨rfl,rfl⟩
theorem qQ:(prog.info? 248).map (λi=>(i.zero,i.size,i.bytes))=some (some (.agg #[.int .i64 0,.int .i64 0]),2,16):=by kernel_rfl
def Lg(l:List Int)(a d:Nat)(r:Ending):Prop:=∃n:Nat,n<=258/\a+n<=l.length/\(∀k,k<n->l.getD (a+k-d) 0=l.getD (a+k) 0)/\r=.returned (.int .i64 (n:Int))
theorem Ex dv l at' d w(k:LAt w .u8 dv l)(K:l.length<=1048576)(L:1<=d)(M:d<=at')(N:at'<=l.length):Calls prog 172 #[dv,.int .i64 at',.int .i64 d] w λv x=>Lg l at' d v/\Kept w x:=by
 obtain⟨P,Q,rfl⟩:=k.form;have y:Z _:=k;have R:¬(d:Int)<1:=O;have S:¬(at':Int)<(d:Int):=O;clear k;go_enter func172,ntmps172;go_wp2;go_loopw [7] (λm z=>∃a:Nat,a<=258/\m=.int .i64 a/\at'+a<=l.length/\(∀b,b<a->l.getD (at'+b-d) 0=l.getD (at'+b) 0)/\Kept w z) (λm _=>258-(intOf m).toNat)
 case atStart=>exact⟨0,O,rfl,O,λb c=>O,Kept.refl _⟩
 case round=>
  obtain⟨a,n,rfl,o,q,c⟩:=hrel;have g:Z _:=q;clear q;have h:Z (Kept w wr):=c;have r:Z _:=y.o.kept c;clear c;by_cases T:a<258
  .have A:(a:Int)<258:=O
   by_cases B:at'+a<l.length
   .have s:(at':Int)+(a:Int)<(l.length:Int):=O
    obtain⟨U,V,rfl,C⟩:=r.o.cellAt (at'+a-d) O;obtain⟨W,X,e,D⟩:=r.o.cellAt (at'+a) B
    injection e with e
    injection e with E G
    subst E;subst G;have p:Z (l.getD (at'+a-d) 0=l.getD (at'+a) 0->∀b,b<a+1->l.getD (at'+b-d) 0=l.getD (at'+b) 0):=λf b c=>by
     by_cases e:b=a
     .rw[e];exact f
     .exact g.o b O
    obtain⟨i,t⟩:∃i,i=l.getD (at'+a-d) 0:=⟨_,rfl⟩;obtain⟨j,u⟩:∃j,j=l.getD (at'+a) 0:=⟨_,rfl⟩;rw[<-t] at C p;rw[<-u] at D p;clear t u;have Y:(0:Int)<=(at':Int)+(a:Int)-(d:Int):=O;have a0:(at':Int)+(a:Int)-(d:Int)<(l.length:Int):=O;have H:(0:Int)<=(at':Int)+(a:Int):=O;have a1:((at':Int)+(a:Int)-(d:Int)).toNat=at'+a-d:=O;have a2:((at':Int)+(a:Int)).toNat=at'+a:=O;by_cases f:i=j
    .have I:Z _:=p.o f
     subst f;go_wp2_with fail;go_quiet (fail);go_wp2;exact⟨⟨a+1,O,Xj,O,I.o,h.o.drewN _⟩,Xb⟩
    .have a3:(i==j)=false:=by rw[F];exact f
     go_wp2_with fail;go_quiet (fail);go_wp2;go_ret;exact⟨⟨a,n,o,g.o,rfl⟩,h.o.drewN _⟩
   .have s:¬(at':Int)+(a:Int)<(l.length:Int):=O
    have H:(0:Int)<=(at':Int)+(a:Int):=O;have a4:=J s;go_wp2_with fail;go_quiet (fail);go_wp2;go_ret;exact⟨⟨a,n,o,g.o,rfl⟩,h.o.drewN _⟩
  .have A:decide ((a:Int)<258)=false:=J
   go_wp2_with fail;go_quiet (fail);go_wp2;go_ret;exact⟨⟨a,n,o,g.o,rfl⟩,h.o.drewN _⟩
structure NxC (W:World) (b:Nat) (wd pc:Int) (P:Nat->Nat->Nat->Prop):Prop where
 s0:W.cell? ⟨b,0,none⟩=some (.int .i64 wd)
 s1:W.cell? ⟨b,1,none⟩=some (.int .i64 pc)
 r0:∃u,W.cell? ⟨b+1,0,none⟩=some u
 r1:∃u,W.cell? ⟨b+1,1,none⟩=some u
 r2:∃u,W.cell? ⟨b+1,2,none⟩=some u
 f1:∀j,W.frozen? ⟨b+1,j,none⟩=false
 f2:∀j,W.frozen? ⟨b+2,j,none⟩=false
 best:∃B L D:Nat,P B L D/\W.cell? ⟨b+2,0,none⟩=some (.int .u8 (B:Int))/\W.cell? ⟨b+2,1,none⟩=some (.int .i64 (L:Int))/\W.cell? ⟨b+2,2,none⟩=some (.int .i64 (D:Int))
theorem NxC.kept{w W b wd pc}{P:Nat->Nat->Nat->Prop}(h:NxC w b wd pc P)(k:Kept w W):NxC W b wd pc P:=by
 obtain⟨i,j,l,m,e,n,o⟩:=h.best;obtain⟨q,f⟩:=h.r0;obtain⟨r,s⟩:=h.r1;obtain⟨t,u⟩:=h.r2;have g:=B _ _ h.s0;have c:=B _ _ f;have d:=B _ _ e;exact⟨(k.cell (p:=⟨b,0,none⟩) g).trans h.s0,(k.cell (p:=⟨b,1,none⟩) g).trans h.s1,⟨q,(k.cell (p:=⟨b+1,0,none⟩) c).trans f⟩,⟨r,(k.cell (p:=⟨b+1,1,none⟩) c).trans s⟩,⟨t,(k.cell (p:=⟨b+1,2,none⟩) c).trans u⟩,λa=>(k.frozen (p:=⟨b+1,a,none⟩) c).trans (h.f1 a),λa=>(k.frozen (p:=⟨b+2,a,none⟩) d).trans (h.f2 a),⟨i,j,l,m,(k.cell (p:=⟨b+2,0,none⟩) d).trans e,(k.cell (p:=⟨b+2,1,none⟩) d).trans n,(k.cell (p:=⟨b+2,2,none⟩) d).trans o⟩⟩
theorem Di(w:World)wd pc d(P:Nat->Nat->Nat->Prop)(q:P d 0 0):NxC (((w.alloc (Obj.cells #[.int .i64 wd,.int .i64 pc] 161)).alloc (Obj.cells #[.int .u8 0,.int .i64 0,.int .i64 0] 205)).alloc (Obj.cells #[.int .u8 d,.int .i64 0,.int .i64 0] 205)) w.heap.size wd pc P:=by
 obtain⟨e,h⟩:∃e,e=(w.alloc (Obj.cells #[.int .i64 wd,.int .i64 pc] 161)):=⟨_,rfl⟩;obtain⟨c,f⟩:∃c,c=e.alloc (Obj.cells #[.int .u8 0,.int .i64 0,.int .i64 0] 205):=⟨_,rfl⟩;obtain⟨b,g⟩:∃b,b=c.alloc (Obj.cells #[.int .u8 d,.int .i64 0,.int .i64 0] 205):=⟨_,rfl⟩;have i:e.heap.size=w.heap.size+1:=by rw[h];simp
 have m:c.heap.size=w.heap.size+2:=by rw[f];simp[i]
 have r:Kept e c:=by rw[f];exact(Xs _ _).alloc (E _) _
 have j:Kept c b:=by rw[g];exact(Xs _ _).alloc (E _) _
 have n:∀a,b.cell? ⟨w.heap.size,a,none⟩=(#[.int .i64 wd,.int .i64 pc]:Array Value)[a]? := λa=>by
  rw[(r.trans j).cell (p:=⟨w.heap.size,a,none⟩) (by show w.heap.size<_;omega),h];exact Xr _ _ _ _ rfl
 have k:∀a,b.cell? ⟨w.heap.size+1,a,none⟩=(#[.int .u8 0,.int .i64 0,.int .i64 0]:Array Value)[a]? := λa=>by
  rw[j.cell (p:=⟨w.heap.size+1,a,none⟩) (by show w.heap.size+1<_;omega),f,<-i];exact Xr _ _ _ _ rfl
 have l:∀a,b.cell? ⟨w.heap.size+2,a,none⟩=(#[.int .u8 d,.int .i64 0,.int .i64 0]:Array Value)[a]? := λa=>by
  rw[g,<-m];exact Xr _ _ _ _ rfl
 have s:∀a,b.frozen? ⟨w.heap.size+1,a,none⟩=false:=λa=>by
  rw[j.frozen (p:=⟨w.heap.size+1,a,none⟩) (by show w.heap.size+1<_;omega),f,<-i];exact XB _ _ _ _ rfl
 have t:∀a,b.frozen? ⟨w.heap.size+2,a,none⟩=false:=λa=>by
  rw[g,<-m];exact XB _ _ _ _ rfl
 have o:NxC b w.heap.size wd pc P:=⟨n 0,n 1,⟨_,k 0⟩,⟨_,k 1⟩,⟨_,k 2⟩,s,t,⟨d,0,0,q,l 0,l 1,l 2⟩⟩;rw[g,f,h] at o;exact o
theorem NxC.put{W b wd pc}{P:Nat->Nat->Nat->Prop}(h:NxC W b wd pc P)n d(l:P 0 n d):NxC (((W.setCell ⟨b+2,0,none⟩ (.int .u8 0)).setCell ⟨b+2,1,none⟩ (.int .i64 n)).setCell ⟨b+2,2,none⟩ (.int .i64 d)) b wd pc P:=by
 obtain⟨v,w,x,y,m,o,p⟩:=h.best;have a:Fr (λf=>f=b+2) W (((W.setCell ⟨b+2,0,none⟩ (.int .u8 0)).setCell ⟨b+2,1,none⟩ (.int .i64 n)).setCell ⟨b+2,2,none⟩ (.int .i64 d)):=((Fr.setCell (S:=λf=>f=b+2) (Fr.refl _ _) (L rfl) _ _).setCell (L rfl) _ _).setCell (L rfl) _ _;obtain⟨q,i⟩:=h.r0;obtain⟨r,s⟩:=h.r1;obtain⟨t,u⟩:=h.r2;have j:=B _ _ h.s0;have c:=B _ _ i;have k:¬b=b+2:=O;have e:¬b+1=b+2:=O;refine⟨(a.cell j k).trans h.s0,(a.cell j k).trans h.s1,⟨q,(a.cell c e).trans i⟩,⟨r,(a.cell c e).trans s⟩,⟨t,(a.cell c e).trans u⟩,λg=>(a.frozen c e).trans (h.f1 g),λg => ?_,⟨0,n,d,l,?_,?_,?_⟩⟩
 .rw[Xy,Xy,Xy];exact h.f2 g
 .rw[aa _ _ _ _ _ O,aa _ _ _ _ _ O];exact af m _
 .rw[aa _ _ _ _ _ O];exact af ((aa _ _ _ _ _ O).trans o) _
 .exact af ((aa _ _ _ _ _ O).trans ((aa _ _ _ _ _ O).trans p)) _
def TkS(l:List Int)(a:Nat)(wd:Int)(B L D:Nat):Prop:=(L=0/\D=0/\B<256/\l.getD a 0=(B:Int))\/(B=0/\3<=L/\L<=258/\a+L<=l.length/\1<=D/\D<=a/\(D:Int)<=wd/\∀k,k<L->l.getD (a+k-D) 0=l.getD (a+k) 0)
def Jc(P:Nat->Nat->Nat->Prop)(r:Ending):Prop:=∃B L D:Nat,P B L D/\r=.returned (.agg #[.int .u8 (B:Int),.int .i64 (L:Int),.int .i64 (D:Int)])
theorem Hs dv l at' wd pc w(q:LAt w .u8 dv l)(M:isBytes l)(Y:l.length<=1048576)(N:at'<l.length):Calls prog 160 #[dv,.int .i64 at',.agg #[.int .i64 wd,.int .i64 pc]] w λP a0=>Jc (TkS l at' wd) P/\Kept w a0:=by
 obtain⟨c6,Q,rfl⟩:=q.form;have a1:Z _:=q;obtain⟨y,z,rfl,r⟩:=q.cellAt at' N;have a2:=M _ (az N);obtain⟨j,A⟩:∃j:Nat,l.getD at' 0=(j:Int):=⟨(l.getD at' 0).toNat,O⟩;have a3:Z (TkS l at' wd j 0 0):=L ⟨rfl,rfl,O,A⟩;rw[A] at r;clear A a2;have c7:(0:Int)<=(at':Int):=O;have c8:(at':Int)<(l.length:Int):=O;have S:Z (Kept w (((w.alloc (Obj.cells #[.int .i64 wd,.int .i64 pc] 161)).alloc (Obj.cells #[.int .u8 0,.int .i64 0,.int .i64 0] 205)).alloc (Obj.cells #[.int .u8 0,.int .i64 0,.int .i64 0] 205))):=(((Xs _ _).alloc (E _) _).alloc Xi _).alloc Xf _;have a4:=(S.o.cell (p:=⟨y,z+at',none⟩) (B _ _ r)).trans r;have a5:Z _:=Di w wd pc j _ a3.o;have a6:Z (Kept w (((w.alloc (Obj.cells #[.int .i64 wd,.int .i64 pc] 161)).alloc (Obj.cells #[.int .u8 0,.int .i64 0,.int .i64 0] 205)).alloc (Obj.cells #[.int .u8 j,.int .i64 0,.int .i64 0] 205))):=(((Xs _ _).alloc (E _) _).alloc Xi _).alloc Xf _;clear q M r S;go_enter func160,ntmps160;go_wp2_with fail;generalize (((w.alloc (Obj.cells #[.int .i64 wd,.int .i64 pc] 161)).alloc (Obj.cells #[.int .u8 0,.int .i64 0,.int .i64 0] 205)).alloc (Obj.cells #[.int .u8 j,.int .i64 0,.int .i64 0] 205))=c9 at *;clear a4;have a7:w.heap.size+1+1=w.heap.size+2:=rfl;rw[a7];generalize k:w.heap.size=a at *;go_loopw [8,9,10] (λa8 C _ m=>∃b d:Nat,1<=b/\b<=at'+1/\d<=b/\a8=.int .i64 d/\C=.int .i64 b/\NxC m a wd pc (TkS l at' wd)/\Kept w m) (λ_ C _ _=>at'+2-(intOf C).toNat)
 case atStart=>exact⟨1,0,O,O,O,rfl,rfl,a5.o,a6.o⟩
 case round=>
  obtain⟨b,d,T,d0,d1,rfl,rfl,s,U⟩:=hrel;have a9:=s.s0;have b0:=s.s1;have e:Z _:=s;have t:Z (Kept w wr):=U;have b1:Z (∀m,Kept w m->LAt m .u8 (.slice (some ⟨y,z,none⟩) l.length Q) l):=λm b2=>a1.o.kept b2
  have d2:d<=1048577:=O;clear s U;by_cases n:(b:Int)<=wd/\b<=at'/\(d:Int)<pc
  .obtain⟨D,u,b3⟩:=n
   have V:(b:Int)<=(at':Int):=O;go_wp2_with fail;refine(Ex (.slice (some ⟨y,z,none⟩) l.length Q) l at' b wr (b1.o wr t.o) Y T u O).mono ?_;rintro P W ⟨⟨f,b4,b5,X,rfl⟩,F⟩;have b6:Z _:=X;clear X;have g:Z _:=e.o.kept F;have G:Z (Kept w W):=t.o.trans F;clear F a9 b0 e t;by_cases d3:f<3
   .have b7:(f:Int)<3:=O
    go_wp2;exact⟨⟨b+1,d,O,O,O,rfl,Xj,g.o,G.o⟩,Xb⟩
   .have b7:¬(f:Int)<3:=O
    obtain⟨h,c,i,x,b8,b9,c0⟩:=g.o.best;clear x;have c1:=g.o.f2 0;have c2:=g.o.f2 1;have c3:=g.o.f2 2;by_cases d4:c<f
    .have c4:(c:Int)<(f:Int):=O
     have o:Z (Kept w (((W.setCell ⟨a+2,0,none⟩ (.int .u8 0)).setCell ⟨a+2,1,none⟩ (.int .i64 f)).setCell ⟨a+2,2,none⟩ (.int .i64 b))):=((G.o.setCell (by rw[k];show a<=a+2;omega) _).setCell (by rw[k];show a<=a+2;omega) _).setCell (by rw[k];show a<=a+2;omega) _;go_wp2;exact⟨⟨b+1,d+1,O,O,O,Xj,Xj,g.o.put f b (R ⟨rfl,O,b4,b5,T,u,D,b6.o⟩),o.o⟩,Xb⟩
    .have c4:¬(c:Int)<(f:Int):=O
     go_wp2;exact⟨⟨b+1,d+1,O,O,O,Xj,Xj,g.o,G.o⟩,Xb⟩
  .obtain⟨h,c,i,x,b8,b9,c0⟩:=e.o.best
   obtain⟨d5,H⟩:=e.o.r0;obtain⟨d6,I⟩:=e.o.r1;obtain⟨d7,J⟩:=e.o.r2;have c1:=e.o.f1 0;have c2:=e.o.f1 1;have c3:=e.o.f1 2;have o:Z (Kept w (((wr.setCell ⟨a+1,0,none⟩ (.int .u8 h)).setCell ⟨a+1,1,none⟩ (.int .i64 c)).setCell ⟨a+1,2,none⟩ (.int .i64 i))):=((t.o.setCell (by rw[k];show a<=a+1;omega) _).setCell (by rw[k];show a<=a+1;omega) _).setCell (by rw[k];show a<=a+1;omega) _;have K:Z (Jc (TkS l at' wd) (.returned (.agg #[.int .u8 h,.int .i64 c,.int .i64 i]))):=⟨h,c,i,x,rfl⟩;clear x;by_cases D:(b:Int)<=wd
   .by_cases u:b<=at'
    .have V:(b:Int)<=(at':Int):=O
     have b3:¬(d:Int)<pc:=λc5=>n ⟨D,u,c5⟩
     clear n;go_wp2;refine XA (v := .agg #[.int .u8 h,.int .i64 c,.int .i64 i]) (by simp[results,results160,go_sem,H,I,J]) rfl ⟨K.o,o.o⟩
    .have V:¬(b:Int)<=(at':Int):=O
     clear n;go_wp2;refine XA (v := .agg #[.int .u8 h,.int .i64 c,.int .i64 i]) (by simp[results,results160,go_sem,H,I,J]) rfl ⟨K.o,o.o⟩
   .clear n
    go_wp2;refine XA (v := .agg #[.int .u8 h,.int .i64 c,.int .i64 i]) (by simp[results,results160,go_sem,H,I,J]) rfl ⟨K.o,o.o⟩
def tkV:List (Nat×Nat×Nat)->List Value
 | []=>[]
 | x::r => .int .u8 (x.1:Int) :: .int .i64 (x.2.1:Int) :: .int .i64 (x.2.2:Int)::tkV r
theorem wk:∀a b,tkV (a++b)=tkV a++tkV b
 | [],b=>rfl
 | x::a,b=>by show _::_::_::tkV (a++b)=_;rw[wk a b];rfl
theorem wj:∀(r:List (Nat×Nat×Nat)) (i:Nat) (x:Nat×Nat×Nat),r[i]? = some x->(tkV r)[i*3]? = some (.int .u8 (x.1:Int))/\(tkV r)[i*3+1]? = some (.int .i64 (x.2.1:Int))/\(tkV r)[i*3+2]? = some (.int .i64 (x.2.2:Int))
 | [],i,x,a=>by simp at a
 | y::r,0,x,a=>by simp at a;subst a;exact⟨rfl,rfl,rfl⟩
 | y::r,i+1,x,a=>by
  have:=wj r i x (by simpa using a)
  rw[show(i+1)*3=i*3+1+1+1 from O,show i*3+1+1+1+2=i*3+2+1+1+1 from O];exact⟨by simpa[tkV] using this.1,by simpa[tkV] using this.2.1,by simpa[tkV] using this.2.2⟩
structure TkX (W:World) (v:Value) (ts:List (Nat×Nat×Nat)):Prop where
 form:∃p c,v=.slice p ts.length c
 cells:∀i x,ts[i]? = some x->∃(g c:Nat),v=.slice (some ⟨g,0,none⟩) ts.length c/\W.cell? ⟨g,i*3,none⟩=some (.int .u8 (x.1:Int))/\W.cell? ⟨g,i*3+1,none⟩=some (.int .i64 (x.2.1:Int))/\W.cell? ⟨g,i*3+2,none⟩=some (.int .i64 (x.2.2:Int))
theorem TkX.frS{S:Nat->Prop}{w W v r}(h:TkX w v r)(k:Fr S w W)(f:∀a,v.ownBlock=some a->¬S a):TkX W v r:=by
 refine⟨h.form,λg i j => ?_⟩;obtain⟨a,l,d,e,m,n⟩:=h.cells g i j;have b:=f a (by rw[d];rfl);have c:=B _ _ e;exact⟨a,l,d,(k.cell c b).trans e,(k.cell c b).trans m,(k.cell c b).trans n⟩
theorem TkX.kept{w W v r}(h:TkX w v r)(k:Kept w W):TkX W v r:=h.frS (S:=λ_=>False) (Fr.of_kept k) (λ_ _ a=>a)
theorem Cs{W N v r}(o:W.ownsRow N 205 3 v r.length (tkV r)):TkX W v r:=by
 obtain⟨h,i,j⟩:=aW o;refine⟨⟨h,i,j⟩,λk l f => ?_⟩;have q:=(Yb.1 f).1;rcases o.2 with⟨_,s⟩|⟨b,m,t,g,u⟩
 .omega
 .have n:∀a,(Addr.add ⟨b,0,none⟩ a)=⟨b,a,none⟩:=λa=>by unfold Addr.add;split<;>simp_all
  have d:∀a c,(tkV r)[a]? = some c->W.cell? ⟨b,a,none⟩=some c:=λa c p=>by
   have:=o.cells (by rw[g];rfl) a c p
   rw[n] at this;exact this
  have e:=wj r k l f;exact⟨b,m,g,d _ _ e.1,d _ _ e.2.1,d _ _ e.2.2⟩
def TkR(l:List Int)(wd:Int):Nat->List (Nat×Nat×Nat)->Nat->Prop
 | a,[],b=>a=b
 | a,t::ts,b=>TkS l a wd t.1 t.2.1 t.2.2/\TkR l wd (a+max t.2.1 1) ts b
theorem TkR.snoc{l wd}:∀{ts:List (Nat×Nat×Nat)} {a b B L D:Nat},TkR l wd a ts b->TkS l b wd B L D->TkR l wd a (ts++[(B,L,D)]) (b+max L 1)
 | [],a,b,B,L,D,c,k=>by
  have d:a=b:=c;subst d;exact⟨k,rfl⟩
 | t::ts,a,b,B,L,D,c,k=>⟨c.1,TkR.snoc c.2 k⟩
def KZ(w:World)(l:List Int)(f:Nat)(wd:Int)(r:Ending)(w':World):Prop:=∃lv ts,r=.returned lv/\ts.length<=l.length-f/\TkX w' lv ts/\TkR l wd f ts l.length/\∀g,lv.ownBlock=some g->w.heap.size<=g/\g<w'.heap.size
theorem Cq dv l f wd pc w(z:LAt w .u8 dv l)(R:isBytes l)(d5:l.length<=65536)(b4:f<=l.length):Calls prog 139 #[dv,.int .i64 f,.agg #[.int .i64 wd,.int .i64 pc]] w λS n=>KZ w l f wd S n/\Kept w n:=by
 obtain⟨T,V,rfl⟩:=z.form;have b5:Z (∀j,Kept w j->LAt j .u8 (.slice T l.length V) l):=λj s=>z.kept s
 have b6:=U R;obtain⟨d,m⟩:∃d,d=w.alloc (Obj.cells #[.int .i64 wd,.int .i64 pc] 161):=⟨_,rfl⟩;have A:Z (Kept w d):=by rw[m];exact(Xs _ _).alloc (E _) _
 have W:Z (∀j,Kept d j->j.cell? ⟨w.heap.size,0,none⟩=some (.int .i64 wd)/\j.cell? ⟨w.heap.size,1,none⟩=some (.int .i64 pc)):=λj s=>by
  have X:w.heap.size<d.heap.size:=by rw[m];simp
  exact⟨by rw[s.cell (p:=⟨w.heap.size,0,none⟩) X,m];exact Xr _ _ _ _ rfl,by rw[s.cell (p:=⟨w.heap.size,1,none⟩) X,m];exact Xr _ _ _ _ rfl⟩
 clear z R;go_enter func139,ntmps139;go_wp2_with fail;rw[<-m];clear m;go_loopw [7,8,9] (λb7 B _ j=>∃(g:Nat) (h:List (Nat×Nat×Nat)),B=.int .i64 g/\h.length+f<=g/\g<=l.length/\j.ownsRow d.heap.size 205 3 b7 h.length (tkV h)/\TkR l wd f h g/\Kept d j) (λ_ B _ _=>l.length-(intOf B).toNat)
 case atStart=>exact⟨f,[],rfl,Xi,b4,XR _ _ _ _,rfl,Kept.refl _⟩
 case round=>
  obtain⟨g,h,rfl,b8,d6,o,Y,t⟩:=hrel;obtain⟨C,D,rfl⟩:=aW o;obtain⟨k,F⟩:∃k,k=h.length:=⟨_,rfl⟩;rw[<-F] at o b8 ⊢;have u:Z _:=F;obtain⟨G,H⟩:∃G,G=tkV h:=⟨_,rfl⟩;rw[<-H] at o;have a0:Z _:=H;have q:=U o;have a1:Z _:=Y;clear F H;have v:Z (Kept d wr):=t;have b9:=(W.o wr t).1;have c0:=(W.o wr t).2;clear o Y t;by_cases c1:g<l.length
  .have c2:(g:Int)<(l.length:Int):=O
   go_wp2_with fail;refine(Hs (.slice T l.length V) l g wd pc wr (b5.o wr (A.o.trans v.o)) b6.o O c1).mono ?_;rintro S e ⟨⟨b,a,c,x,rfl⟩,I⟩;have c3:=U x;have c4:g+max a 1<=l.length:=by
    rcases x with⟨J,_⟩|⟨_,J,_,c5,_⟩
    .omega
    .omega
   have d7:a<=258:=by
    rcases x with⟨J,_⟩|⟨_,J,d8,c5,_⟩
    .omega
    .omega
   clear x;have a2:Z (Kept d e):=v.o.trans I;have K:=U (bZ q.o I);have d9:=a2.o.size;have a3:Z (∀i,(Value.slice C k D).ownBlock=some i->d.heap.size<=i/\i<e.heap.size):=λi r=>K.o.lt i r
   clear I b9 c0 q v;have L:Kept e ((e.alloc (Obj.cells #[.int .u8 b,.int .i64 a,.int .i64 c] 205)).alloc (Obj.cells #[.int .u8 b,.int .i64 a,.int .i64 c] 205)):=((Xs _ _).alloc (E _) _).alloc Xi _;have a4:=U (bZ K.o L);have c6:Z (Kept d ((e.alloc (Obj.cells #[.int .u8 b,.int .i64 a,.int .i64 c] 205)).alloc (Obj.cells #[.int .u8 b,.int .i64 a,.int .i64 c] 205))):=a2.o.trans L;have a5:Z (∀(i:Nat) (y:Value),[Value.int .u8 b,.int .i64 a,.int .i64 c][i]? = some y->((e.alloc (Obj.cells #[.int .u8 b,.int .i64 a,.int .i64 c] 205)).alloc (Obj.cells #[.int .u8 b,.int .i64 a,.int .i64 c] 205)).cell? (Addr.add ⟨e.heap.size+1,0,none⟩ i)=some y):=by
    intro i y r;have M:(Addr.add ⟨e.heap.size+1,0,none⟩ i)=⟨(e.alloc (Obj.cells #[.int .u8 b,.int .i64 a,.int .i64 c] 205)).heap.size,i,none⟩:=by unfold Addr.add;split<;>simp_all
    rw[M];refine(Xr _ _ _ _ rfl).trans ?_
    simpa using r
   have a6:Z (d.heap.size<=((e.alloc (Obj.cells #[.int .u8 b,.int .i64 a,.int .i64 c] 205)).alloc (Obj.cells #[.int .u8 b,.int .i64 a,.int .i64 c] 205)).heap.size):=by show d.heap.size<=_;simp;omega
   have a7:((e.alloc (Obj.cells #[.int .u8 b,.int .i64 a,.int .i64 c] 205)).alloc (Obj.cells #[.int .u8 b,.int .i64 a,.int .i64 c] 205)).cell? ⟨e.heap.size,1,none⟩=some (.int .i64 a):=by
    have c7:Kept (e.alloc (Obj.cells #[.int .u8 b,.int .i64 a,.int .i64 c] 205)) ((e.alloc (Obj.cells #[.int .u8 b,.int .i64 a,.int .i64 c] 205)).alloc (Obj.cells #[.int .u8 b,.int .i64 a,.int .i64 c] 205)):=(Xs _ _).alloc (E _) _;rw[c7.cell (p:=⟨e.heap.size,1,none⟩) Xi];exact(Xr _ _ _ _ rfl).trans rfl
   clear L K;go_wp2_with (at_builtin;refine bG _ 188 188 205 3 24 (.agg #[.int .u8 0,.int .i64 0,.int .i64 0]) underlying188 HY rfl O rfl _ _ rfl d.heap.size (.slice C k D) k G rfl a4.o ⟨e.heap.size+1,0,none⟩ 1 1 [.int .u8 b,.int .i64 a,.int .i64 c] rfl rfl O a5.o (by intro y a8;simp at a8;rcases a8 with rfl|rfl|rfl<;>rfl) Xn O a6.o ?_ rfl)
   intro e0 n N P c8;obtain⟨c9,d0,rfl⟩:=aW N;have Q:Z _:=a1.o.snoc c3.o;have a9:Z (n.ownsRow d.heap.size 205 3 (.slice c9 (k+1) d0) (h++[(b,a,c)]).length (tkV (h++[(b,a,c)]))):=by
    show World.ownsRow _ _ _ _ _ _ _
    rw[wk,Xv,<-u.o,<-a0.o];exact N
   have b0:Z ((h++[(b,a,c)]).length=k+1):=by show _=_;rw[Xv,<-u.o];rfl
   have b1:Z (Kept d n):=c6.o.grown P a6.o (λi r=>(a3.o i r).1);have e1:=P.cell a7 (λM=>by have:=(a3.o _ M.symm).2;exact Nat.lt_irrefl _ this);clear N P c8 a7 a4 a5;by_cases d1:a=0
   .subst d1
    go_wp2;exact⟨⟨g+1,_,Xj,by rw[b0.o];omega,O,a9.o,Q.o,b1.o⟩,Xb⟩
   .have e2:(1:Int)<=(a:Int):=O
    go_wp2;have d2:max a 1=a:=O;rw[d2] at Q c4;exact⟨⟨g+a,_,bU O,by rw[b0.o];omega,O,a9.o,Q.o,b1.o⟩,Xb⟩
  .have c2:¬(g:Int)<(l.length:Int):=O
   go_wp2;go_ret;have d3:g=l.length:=O;have d4:wr.ownsRow d.heap.size 205 3 (.slice C k D) h.length (tkV h):=by rw[<-u.o,<-a0.o];exact q.o
   exact⟨⟨_,h,rfl,by rw[<-u.o];omega,Cs d4,by rw[<-d3];exact a1.o,λb2 b3=>⟨Xz A.o.size (q.o.lt b2 b3).1,(q.o.lt b2 b3).2⟩⟩,A.o.trans v.o⟩
def LSy(L j:Nat):Prop:=j<29/\lnT.getD j 0<=L/\(j=28\/L<lnT.getD (j+1) 0)
def DSy(D j:Nat):Prop:=j<30/\dsT.getD j 0<=D/\(j=29\/D<dsT.getD (j+1) 0)
theorem AP:∀i,i<28->lnT.getD (i+1) 0<=lnT.getD i 0+2^(lbT.getD i 0):=Xh
theorem Br:∀i,i<29->dsT.getD (i+1) 0<=dsT.getD i 0+2^(i/2-1):=Xh
theorem AO:∀i,i<29->∀a,a<29->i<a->lnT.getD (i+1) 0<=lnT.getD a 0:=Xh
theorem Bq:∀i,i<30->∀a,a<30->i<a->dsT.getD (i+1) 0<=dsT.getD a 0:=Xh
theorem LSy.one{L i j}(h:LSy L i)(k:LSy L j):i=j:=by
 apply Nat.le_antisymm
 .apply Nat.le_of_not_lt
  intro a
  have:=AO j k.1 i h.1 a
  rcases k.2.2 with b|b
  .have:=h.1;omega
  .have:=h.2.1;omega
 .apply Nat.le_of_not_lt
  intro a
  have:=AO i h.1 j k.1 a
  rcases h.2.2 with b|b
  .have:=k.1;omega
  .have:=k.2.1;omega
theorem DSy.one{L i j}(h:DSy L i)(k:DSy L j):i=j:=by
 apply Nat.le_antisymm
 .apply Nat.le_of_not_lt
  intro a
  have:=Bq j k.1 i h.1 a
  rcases k.2.2 with b|b
  .have:=h.1;omega
  .have:=h.2.1;omega
 .apply Nat.le_of_not_lt
  intro a
  have:=Bq i h.1 j k.1 a
  rcases h.2.2 with b|b
  .have:=k.1;omega
  .have:=k.2.1;omega
theorem LSy.rest{L j}(h:LSy L j)(c:L<=258):L-lnT.getD j 0<2^(lbT.getD j 0):=by
 rcases h.2.2 with a|a
 .subst a
  have:lnT.getD 28 0=258:=Xh
  have d:=h.2.1;have e:(1:Nat)<=2^lbT.getD 28 0:=Nat.one_le_two_pow;omega
 .by_cases b:j=28
  .subst b
   have:lnT.getD (28+1) 0=0:=Xh
   omega
  .have:=AP j (by have:=h.1;omega)
   have:=h.2.1
   omega
theorem DSy.rest{D j}(h:DSy D j)(c:D<=32768):D-dsT.getD j 0<2^(j/2-1):=by
 rcases h.2.2 with a|a
 .subst a
  have d:dsT.getD 29 0=24577:=Xh;omega
 .by_cases b:j=29
  .subst b
   have:dsT.getD (29+1) 0=0:=Xh
   omega
  .have:=Br j (by have:=h.1;omega)
   have:=h.2.1
   omega
def SyP(R:Nat->Prop)(o:Nat)(r:Ending):Prop:=∃j,R j/\r=.returned (.int .i64 ((o+j:Nat):Int))
theorem sQ(L:Nat)w(i:ep w)(n:3<=L)(y:L<=258):Calls prog 173 #[.int .i64 L] w λo p=>SyP (LSy L) 257 o/\Kept w p:=by
 have q:Z (∀b,Kept w b->∀e,e<29->b.cell? ⟨1,e,none⟩=some (.int .i64 (lnT.getD e 0:Nat))):=λb r=>(i.kept r).len
 have s:¬(L:Int)<3:=O;have t:¬(258:Int)<(L:Int):=O;have j:lnT.getD 0 0<=L:=by show 3<=L;exact n
 clear i;go_enter func173,ntmps173;go_wp2;clear s t;go_loopw [3] (λf b=>∃a:Nat,a<=28/\lnT.getD a 0<=L/\f=.int .i64 a/\Kept w b) (λf _=>28-(intOf f).toNat)
 case atStart=>exact⟨0,O,j,rfl,Kept.refl _⟩
 case round=>
  obtain⟨a,z,k,rfl,c⟩:=hrel;have l:Z _:=k;clear j k;by_cases u:a+1<29
  .have v:=q.o wr c (a+1) u
   have x:(a:Int)+1<29:=O;obtain⟨g,h⟩:∃g,g=lnT.getD (a+1) 0:=⟨_,rfl⟩;rw[<-h] at v;have m:Z _:=h;have d:Z (Kept w wr):=c;clear c h;by_cases A:(g:Int)<=(L:Int)
   .go_wp2
    exact⟨⟨a+1,O,by rw[<-m.o];omega,Xj,d.o⟩,Xb⟩
   .go_wp2
    go_ret;exact⟨⟨a,⟨O,l.o,R (by rw[<-m.o];omega)⟩,an O⟩,d.o⟩
  .have x:¬(a:Int)+1<29:=O
   have d:Z (Kept w wr):=c;clear c;go_wp2;go_ret;exact⟨⟨a,⟨O,l.o,Or.inl O⟩,an O⟩,d.o⟩
theorem tt(D:Nat)w(i:ep w)(n:1<=D)(y:D<=32768):Calls prog 174 #[.int .i64 D] w λo p=>SyP (DSy D) 0 o/\Kept w p:=by
 have q:Z (∀b,Kept w b->∀e,e<30->b.cell? ⟨2,e,none⟩=some (.int .i64 (dsT.getD e 0:Nat))):=λb r=>(i.kept r).dis
 have s:¬(D:Int)<1:=O;have j:dsT.getD 0 0<=D:=by show 1<=D;exact n
 have t:¬(32768:Int)<(D:Int):=O;clear i;go_enter func174,ntmps174;go_wp2;clear s t;go_loopw [3] (λf b=>∃a:Nat,a<=29/\dsT.getD a 0<=D/\f=.int .i64 a/\Kept w b) (λf _=>29-(intOf f).toNat)
 case atStart=>exact⟨0,O,j,rfl,Kept.refl _⟩
 case round=>
  obtain⟨a,z,k,rfl,c⟩:=hrel;have l:Z _:=k;clear j k;by_cases u:a+1<30
  .have v:=q.o wr c (a+1) u
   have x:(a:Int)+1<30:=O;obtain⟨g,h⟩:∃g,g=dsT.getD (a+1) 0:=⟨_,rfl⟩;rw[<-h] at v;have m:Z _:=h;have d:Z (Kept w wr):=c;clear c h;by_cases A:(g:Int)<=(D:Int)
   .go_wp2
    exact⟨⟨a+1,O,by rw[<-m.o];omega,Xj,d.o⟩,Xb⟩
   .go_wp2
    go_ret;exact⟨⟨a,⟨O,l.o,R (by rw[<-m.o];omega)⟩,an O⟩,d.o⟩
  .have x:¬(a:Int)+1<30:=O
   have d:Z (Kept w wr):=c;clear c;go_wp2;go_ret;exact⟨⟨a,⟨O,l.o,L O⟩,an O⟩,d.o⟩
theorem Il j w(a:ep w)(d:j<29):Calls prog 199 #[.int .i64 ((257+j:Nat):Int)] w λb c=>b=.returned (.tuple #[.int .i64 (lnT.getD j 0:Nat),.int .i64 (lbT.getD j 0:Nat)])/\Kept w c:=by
 have e:=a.len j O;have f:=a.lbt j O;have g:((257+j:Nat):Int)-257=(j:Int):=O;have h:¬(j:Int)<0:=O;have i:¬(29:Int)<=(j:Int):=O;have k:(0:Int)<=(j:Int):=O;have l:(j:Int)<29:=O;generalize lnT.getD j 0=m at *;generalize lbT.getD j 0=n at *;generalize ((257+j:Nat):Int)=o at *;clear a;go_enter func199,ntmps199;go_wp2_with fail;go_quiet (fail);go_wp2;go_ret2;exact⟨rfl,(Kept.refl _).drewN _⟩
theorem Io(j:Nat)w(a:ep w)(d:j<30):Calls prog 200 #[.int .i64 j] w λb c=>b=.returned (.tuple #[.int .i64 (dsT.getD j 0:Nat),.int .i64 ((j/2-1:Nat):Int)])/\Kept w c:=by
 have e:=a.dis j O;have f:¬(j:Int)<0:=O;have g:¬(30:Int)<=(j:Int):=O;have h:(0:Int)<=(j:Int):=O;have i:(j:Int)<30:=O;generalize dsT.getD j 0=k at *;clear a;go_enter func200,ntmps200;go_wp2
 all_goals go_ret2
 .exact⟨by rw[show((j/2-1:Nat):Int)=(j:Int)/2-1 from O];rfl,Kept.refl _⟩
 .exact⟨by rw[show((j/2-1:Nat):Int)=0 from O];rfl,Kept.refl _⟩
def IC(W:World)(b:Nat)(c:Nat->Int):Prop:=∀j,j<316->W.cell? ⟨b,j,none⟩=some (.int .i64 (c j))
def up1(c:Nat->Int)(i:Nat):Nat->Int:=λj=>if j=i then c i+1 else c j
theorem IC.kept{w W b c}(h:IC w b c)(f:Kept w W):IC W b c:=λa d=>(f.cell (p:=⟨b,a,none⟩) (B _ _ (h a d))).trans (h a d)
theorem IC.up{W b c}(h:IC W b c){i}(e:i<316){z}(f:z=c i+1):IC (W.setCell ⟨b,i,none⟩ (.int .i64 z)) b (up1 c i):=λd g=>by
 unfold up1;by_cases a:i=d
 .subst a;rw[I rfl,af (h i e),f]
 .rw[N (λj=>a j.symm),aa _ _ _ _ _ a];exact h d g
structure CntK (ts:List (Nat×Nat×Nat)) (k:Nat) (c:Nat->Int):Prop where
 bd:∀i,0<=c i/\c i<=(k:Int)+1
 eob:1<=c 256
 lit:∀i t,i<k->ts[i]? = some t->t.2.1=0->1<=c t.1
 cpy:∀i t,i<k->ts[i]? = some t->t.2.1≠0->(∀j,LSy t.2.1 j->1<=c (257+j))/\∀j,DSy t.2.2 j->1<=c (286+j)
theorem ja(c : Nat → Int)(i j : Nat): c j ≤ up1 c i j := by unfold up1; split <;> rename_i h <;> (try rw [h]) <;> omega
theorem pP c i:up1 c i i=c i+1:=by unfold up1;rw[I rfl]
theorem zE(c : Nat → Int)(i j : Nat): up1 c i j ≤ c j + 1 := by unfold up1; split <;> rename_i h <;> (try rw [h]) <;> omega
theorem CntK.start ts:CntK ts 0 (λi=>if i=256 then 1 else 0):=⟨λi=>⟨by show(0:Int)<=(if i=256 then 1 else 0);split<;>omega,by show(if i=256 then(1:Int) else 0)<=_;split<;>simp⟩,Xi,λi a b=>O,λi a b=>O⟩
theorem CntK.byte{ts k c t}(h:CntK ts k c)(l:ts[k]? = some t)(m:t.2.1=0):CntK ts (k+1) (up1 c t.1):=by
 have d:=ja c t.1;refine⟨λa=>⟨Int.le_trans (h.bd a).1 (d a),?_⟩,Int.le_trans h.eob (d _),λa f n b e => ?_,λa f n b e => ?_⟩
 .have:=zE c t.1 a;have:=(h.bd a).2;push_cast;omega
 .by_cases g:a=k
  .subst g
   rw[l] at b
   have:=Ym b
   rw[<-this,pP]
   have:=(h.bd t.1).1
   omega
  .exact Int.le_trans (h.lit a f O b e) (d _)
 .by_cases g:a=k
  .subst g
   rw[l] at b
   have:=Ym b
   rw[<-this] at e;exact absurd m e
  .have:=h.cpy a f O b e
   exact⟨λi j=>Int.le_trans (this.1 i j) (d _),λi j=>Int.le_trans (this.2 i j) (d _)⟩
theorem CntK.copy{ts k j d c t}(h:CntK ts k c)(n:ts[k]? = some t)(p:t.2.1≠0)(f:LSy t.2.1 j)(q:DSy t.2.2 d):CntK ts (k+1) (up1 (up1 c (257+j)) (286+d)):=by
 have w:=f.1;have g:∀a,c a<=up1 (up1 c (257+j)) (286+d) a:=λa=>Int.le_trans (ja c _ a) (ja _ _ a)
 have r:∀a,up1 (up1 c (257+j)) (286+d) a<=c a+1:=λa=>by
  unfold up1;by_cases b:a=286+d
  .rw[I b,N,b];omega
  .rw[N b]
   by_cases i:a=257+j
   .rw[I i,i];omega
   .rw[N i];omega
 refine⟨λa=>⟨Int.le_trans (h.bd a).1 (g a),?_⟩,Int.le_trans h.eob (g _),λa l s e b => ?_,λa l s e b => ?_⟩
 .have:=r a;have:=(h.bd a).2;push_cast;omega
 .by_cases m:a=k
  .subst m
   rw[n] at e
   have:=Ym e
   rw[<-this] at b;exact absurd b p
  .exact Int.le_trans (h.lit a l O e b) (g _)
 .by_cases m:a=k
  .subst m
   rw[n] at e
   have:=Ym e
   subst this;refine⟨λx u => ?_,λy v => ?_⟩
   .rw[u.one f]
    have o:=ja (up1 c (257+j)) (286+d) (257+j);rw[pP] at o
    have:=(h.bd (257+j)).1
    omega
   .rw[v.one q,pP]
    have o:=ja c (257+j) (286+d)
    have:=(h.bd (286+d)).1
    omega
  .have:=h.cpy a l O e b
   exact⟨λj f=>Int.le_trans (this.1 j f) (g _),λj f=>Int.le_trans (this.2 j f) (g _)⟩
theorem IC.list{W b c}(h:IC W b c):∃d:List Value,d=(List.range 316).map (λi=>Value.int .i64 (c i))/\d.length=316/\W.rangeAt b 0 d/\(∀i,i<316->d[i]? = some (.int .i64 (c i)))/\∀e∈d,e.oneCell'=true:=by
 refine⟨_,rfl,Xi,λf e a => ?_,λi j => ?_,λe a => ?_⟩
 .have g:f<316:=by have:=(Yb.1 a).1;simpa using this
  rw[XQ,Yp g] at a
  injection a with a
  rw[XD,h f g,<-a]
 .rw[XQ,Yp j];rfl
 .obtain⟨i,_,rfl⟩:=YP.1 a
  rfl
def Jl(ts:List (Nat×Nat×Nat))(r:Ending):Prop:=∃(cs:List Value) (c:Nat->Int),r=.returned (.agg cs.toArray)/\cs.length=316/\(∀i,i<316->cs[i]? = some (.int .i64 (c i)))/\CntK ts ts.length c
theorem vF lv ts w(H:TkX w lv ts)(b5:ep w)(e8:ts.length<=1048576)(b6:∀t∈ts,t.1<256/\(t.2.1=0\/(3<=t.2.1/\t.2.1<=258/\1<=t.2.2/\t.2.2<=32768))):Calls prog 161 #[lv] w λR e9=>Jl ts R/\Kept w e9:=by
 obtain⟨f0,f1,rfl⟩:=H.form;obtain⟨h,I⟩:∃h,h=ts.length:=⟨_,rfl⟩;rw[<-I] at H e8 ⊢;have f2:Z _:=I;have f3:Z (∀a,a<h->∃t,ts[a]? = some t/\t.1<256/\(t.2.1=0\/(3<=t.2.1/\t.2.1<=258/\1<=t.2.2/\t.2.2<=32768))):=λa b7=>by
  have b8:a<ts.length:=by rw[<-I];exact b7
  exact⟨ts[a],Xt b8,b6 _ (YU b8)⟩
 clear I b6;have b9:Z (∀d,Kept w d->TkX d (.slice f0 h f1) ts):=λd a=>H.kept a
 have c0:Z (∀d,Kept w d->ep d):=λd a=>b5.kept a
 clear H b5;have S:Z (IC ((w.alloc (Obj.cells zeroCells210 210)).alloc (Obj.cells zeroCells210 210)) (w.heap.size+1) (λ_=>0)):=by
  intro b l;rw[Xr _ _ _ _ Xi];rw[pG];simp[l]
 have c1:Z (((w.alloc (Obj.cells zeroCells210 210)).alloc (Obj.cells zeroCells210 210)).there w.heap.size 0 316):=by
  refine World.there_alloc ?_ _;intro b l;refine⟨?_,XB _ _ _ _ rfl⟩;rw[Xr _ _ _ _ rfl,pG];simp;omega
 have T:Z (∀a,((w.alloc (Obj.cells zeroCells210 210)).alloc (Obj.cells zeroCells210 210)).frozen? ⟨w.heap.size+1,a,none⟩=false):=λa=>XB _ _ _ _ Xi
 have c2:Z (Kept w ((w.alloc (Obj.cells zeroCells210 210)).alloc (Obj.cells zeroCells210 210))):=((Xs _ _).alloc (E _) _).alloc Xi _;go_enter func161,ntmps161;go_upto_region 2 with fail
 generalize ((w.alloc (Obj.cells zeroCells210 210)).alloc (Obj.cells zeroCells210 210))=f4 at *;have c3:=S.o 256 O;have c4:Z (IC (f4.setCell ⟨w.heap.size+1,256,none⟩ (.int .i64 1)) (w.heap.size+1) (λf5=>if f5=256 then 1 else 0)):=λb l=>by
  by_cases g:256=b
  .subst g;rw[af c3];rfl
  .rw[aa _ _ _ _ _ g,S.o b l]
   simp only
   rw[N (λC=>g C.symm)]
 have f6:=T.o 256;go_wp2;go_loopw [4,5,6] (λV _ _ d=>∃(a:Nat) (e:Nat->Int),a<=h/\V=.int .i64 a/\IC d (w.heap.size+1) e/\CntK ts a e/\d.there w.heap.size 0 316/\(∀a,d.frozen? ⟨w.heap.size+1,a,none⟩=false)/\Kept w d) (λV _ _ _=>h-(intOf V).toNat)
 case atStart=>exact⟨0,_,O,rfl,c4.o,CntK.start ts,bV c1.o _ O,λb=>by rw[Xy];exact T.o b,c2.o.setCell Xi _⟩
 case round=>
  obtain⟨a,e,b7,rfl,c5,c6,c7,c8,J⟩:=hrel;have r:=U c5;have s:Z _:=c6;have K:Z _:=c8;have u:=U c7;have D:Z (Kept w wr):=J;clear S c1 T c2 c5 c7 c8 c3 f6 c4 c6;by_cases f7:a<h
  .have f8:(a:Int)<(h:Int):=O
   have i4:(0:Int)<=(a:Int):=O;obtain⟨t,W,c9,L⟩:=f3.o a f7;obtain⟨x,i5,g,X,Y,y⟩:=(b9.o wr J).cells a t W
   injection g with z f9 g0
   clear f9;subst z;subst g0;have a0:Z _:=W;obtain⟨m,i,o⟩:=t;replace X:wr.cell? ⟨x,a*3,none⟩=some (.int .u8 m):=X;replace Y:wr.cell? ⟨x,a*3+1,none⟩=some (.int .i64 i):=Y;replace y:wr.cell? ⟨x,a*3+2,none⟩=some (.int .i64 o):=y;replace c9:m<256:=c9;replace L:i=0\/(3<=i/\i<=258/\1<=o/\o<=32768):=L;clear J W;by_cases a1:i=0
   .subst a1
    have i6:(m:Int)<286:=O;have M:=r.o m O;have a2:=s.o.bd m;obtain⟨f,q⟩:∃f,f=e m:=⟨_,rfl⟩;rw[<-q] at M a2;have a3:Z _:=q;have d0:=K.o m;clear q y;go_wp2;exact⟨⟨a+1,up1 e m,O,Xj,r.o.up O (by rw[<-a3.o]),s.o.byte a0.o rfl,bV u.o _ O,λb=>by rw[Xy];exact K.o b,D.o.setCell Xi _⟩,Xb⟩
   .have g1:((i:Int)==0)=false:=by rw[F];omega
    obtain⟨g2,g3,g4,g5⟩:3<=i/\i<=258/\1<=o/\o<=32768:=by rcases L with C|C;exact absurd C a1;exact C
    clear L;go_wp2_with fail;refine(sQ i wr (c0.o wr D.o) g2 g3).mono ?_;rintro R n ⟨⟨g6,a4,rfl⟩,A⟩;have g7:=U a4;have i7:=a4.1;obtain⟨c,a5⟩:∃c,c=257+g6:=⟨_,rfl⟩;rw[<-a5];have g8:Z _:=a5;have i8:c<286:=O;clear a4 a5;have g9:w.heap.size+1<wr.heap.size:=by
     exact B _ _ (r.o 0 O)
    have a6:=U (r.o.kept A);have a7:Z (∀a,n.frozen? ⟨w.heap.size+1,a,none⟩=false):=λb=>(A.frozen (p:=⟨w.heap.size+1,b,none⟩) g9).trans (K.o b)
    have d1:=U (cR u.o A);have d2:Z (Kept w n):=D.o.trans A;have d3:=(A.cell (p:=⟨x,a*3+2,none⟩) (B _ _ y)).trans y;have h0:x≠w.heap.size+1:=by
     intro g;obtain⟨i9,j0,h1,h2,_,_⟩:=(b9.o w (Kept.refl _)).cells a _ a0.o
     injection h1 with z _ _
     injection z with z
     injection z with z _ _
     have:=B _ _ h2
     simp at this;omega
    clear A r K u D X Y y g1;have j1:(0:Int)<=(c:Int):=O;have j2:(c:Int)<286:=O;have M:=a6.o c O;have a2:=s.o.bd c;obtain⟨f,q⟩:∃f,f=e c:=⟨_,rfl⟩;rw[<-q] at M a2;have a3:Z _:=q;have d0:=a7.o c;clear q;have a8:∀d4,(n.setCell ⟨w.heap.size+1,c,none⟩ d4).cell? ⟨x,a*3+2,none⟩=some (.int .i64 o):=λd4=>(Yl _ _ _ _ (by intro g;injection g with g _ _;exact h0 g.symm)).trans d3
    go_upto_region 11 with fail
    have a9:Z (IC (n.setCell ⟨w.heap.size+1,c,none⟩ (.int .i64 (f+1))) (w.heap.size+1) (up1 e c)):=a6.o.up O (by rw[<-a3.o]);have d5:Z (∀a,(n.setCell ⟨w.heap.size+1,c,none⟩ (.int .i64 (f+1))).frozen? ⟨w.heap.size+1,a,none⟩=false):=λb=>by show _=_;rw[Xy];exact a7.o b
    have d6:Z ((n.setCell ⟨w.heap.size+1,c,none⟩ (.int .i64 (f+1))).there w.heap.size 0 316):=bV d1.o _ O;have b0:Z (Kept w (n.setCell ⟨w.heap.size+1,c,none⟩ (.int .i64 (f+1)))):=d2.o.setCell Xi _;replace a8:=a8 (.int .i64 (f+1));generalize n.setCell ⟨w.heap.size+1,c,none⟩ (.int .i64 (f+1))=b1 at *;clear a6 a7 d1 d2 M d0 d3;go_wp2_with fail;refine(tt o b1 (c0.o b1 b0.o) g4 g5).mono ?_;rintro R d7 ⟨⟨j,b2,rfl⟩,G⟩;have h3:=U b2;have j3:=b2.1;rw[XD];clear b2;have h4:w.heap.size+1<b1.heap.size:=by
     exact B _ _ (a9.o 0 O)
    have d8:=U (a9.o.kept G);have d9:Z (∀a,d7.frozen? ⟨w.heap.size+1,a,none⟩=false):=λb=>(G.frozen (p:=⟨w.heap.size+1,b,none⟩) h4).trans (d5.o b)
    have h5:=U (cR d6.o G);have h6:Z (Kept w d7):=b0.o.trans G;clear G a9 d5 d6 b0 a8;have j4:(0:Int)<=(j:Int):=O;have j5:(j:Int)<30:=O;have h7:=d8.o (286+j) O;have e0:up1 e c (286+j)=e (286+j):=by unfold up1;rw[N]
    have e1:=s.o.bd (286+j);obtain⟨e2,b3⟩:∃e2,e2=up1 e c (286+j):=⟨_,rfl⟩;rw[<-e0] at e1;rw[<-b3] at h7 e1;have h8:Z _:=b3;have j6:=d9.o (286+j);clear b3 e0;go_wp2;refine⟨⟨a+1,up1 (up1 e c) (286+j),O,Xj,d8.o.up O (by rw[<-h8.o]),?_,bV h5.o _ O,λb=>by rw[Xy];exact d9.o b,h6.o.setCell Xi _⟩,Xb⟩;rw[g8.o];exact s.o.copy a0.o a1 g7.o h3.o
  .have f8:¬(a:Int)<(h:Int):=O
   obtain⟨k,h9,b4,e3,e4,e5⟩:=r.o.list;clear h9;have i0:Z _:=e5;have e6:a=ts.length:=by rw[<-f2.o];omega
   have i1:Z (Jl ts (.returned (.agg k.toArray))):=⟨k,e,rfl,b4,e4,by rw[<-e6];exact s.o⟩;have Q:Z _:=b4;have i2:=U e3;clear b4 e4 e3 J e5 e6;have e7:Z ((prog.info? 210).map (·.size)=some k.length):=by show _=_;rw[Q.o];exact CL
   go_wp2;refine wp_load_mid 210 _ rfl (w.heap.size+1) 0 rfl k _ i2.o underlying210 rfl e7.o ?_;have j7:(storeCells ⟨w.heap.size,0,none⟩ k).run prog wr=.ok () (wr.setCells w.heap.size 0 k):=by
    have:=run_storeCells_cells (P:=prog) w.heap.size 0 k 0 wr (λb l=>by simpa using(u.o b (by rw[<-Q.o];exact l)).1) (λb l=>by simpa using(u.o b (by rw[<-Q.o];exact l)).2) i0.o
    simpa using this
   go_wp2;have i3:=
    Yw _ _ _ _ k _ (XO _ _ _ _ (by rw[Q.o];exact u.o)) underlying210 rfl e7.o
   refine XA (v := .agg k.toArray) ?_ rfl ⟨i1.o,Kept.setCells (E _) _ _ D.o⟩;exact ah rfl _ _ _ _ _ rfl i3
end Go.Proofs.YtbedkdnphobmlaaGreatDoor
namespace Go.Proofs.YtbedkdnphobmlaaGreatDoor
open Go.RowKit Px Tryz
def itV:List (Bool×Nat)->List Value
 | []=>[]
 | x::r => .bool x.1 :: .int .i64 (x.2:Int)::itV r
theorem lK:∀a b,itV (a++b)=itV a++itV b
 | [],b=>rfl
 | x::a,b=>by show _::_::itV (a++b)=_;rw[lK a b];rfl
theorem qN:∀(r:List (Bool×Nat)) (i:Nat) (x:Bool×Nat),r[i]? = some x->(itV r)[i*2]? = some (.bool x.1)/\(itV r)[i*2+1]? = some (.int .i64 (x.2:Int))
 | [],i,x,a=>by simp at a
 | y::r,0,x,a=>by simp at a;subst a;exact⟨rfl,rfl⟩
 | y::r,i+1,x,a=>by
  have:=qN r i x (by simpa using a)
  rw[show(i+1)*2=i*2+1+1 from O,show i*2+1+1+1=i*2+1+1+1 from rfl];exact⟨by simpa[itV] using this.1,by simpa[itV] using this.2⟩
structure ItX (W:World) (v:Value) (r:List (Bool×Nat)):Prop where
 form:∃p c,v=.slice p r.length c
 cells:∀i x,r[i]? = some x->∃(g c:Nat),v=.slice (some ⟨g,0,none⟩) r.length c/\W.cell? ⟨g,i*2,none⟩=some (.bool x.1)/\W.cell? ⟨g,i*2+1,none⟩=some (.int .i64 (x.2:Int))
theorem ItX.frS{S:Nat->Prop}{w W v r}(h:ItX w v r)(k:Fr S w W)(f:∀a,v.ownBlock=some a->¬S a):ItX W v r:=by
 refine⟨h.form,λg i j => ?_⟩;obtain⟨a,l,b,c,m⟩:=h.cells g i j;have d:=f a (by rw[b];rfl);have e:=B _ _ c;exact⟨a,l,b,(k.cell e d).trans c,(k.cell e d).trans m⟩
theorem ItX.kept{w W v r}(h:ItX w v r)(k:Kept w W):ItX W v r:=h.frS (S:=λ_=>False) (Fr.of_kept k) (λ_ _ a=>a)
theorem ItX.two{W p n c r}(h:ItX W (.slice p n c) r){i x}(b:r[i]? = some x):∃a:Nat,p=some ⟨a,0,none⟩/\W.cell? ⟨a,i*2+1,none⟩=some (.int .i64 (x.2:Int)):=by
 obtain⟨a,g,d,j,e⟩:=h.cells i x b
 injection d with f k l
 exact⟨a,f,e⟩
def fh(W:World)(N:Nat)(v:Value)(r:List (Bool×Nat)):Prop:=W.ownsRow N 246 2 v r.length (itV r)
theorem fh.slice{W N v r}(h:fh W N v r):∃a b,v=.slice a r.length b:=aW h
theorem fh.kept{w W N v r}(h:fh w N v r)(k:Kept w W):fh W N v r:=bZ h k
theorem fh.ge{W N v r}(h:fh W N v r):∀a,v.ownBlock=some a->N<=a:=λa b=>(World.ownsRow.lt h a b).1
theorem fh.at{W N v r}(o:fh W N v r):ItX W v r:=by
 obtain⟨i,j,k⟩:=aW o;refine⟨⟨i,j,k⟩,λe f d => ?_⟩;have p:=(Yb.1 d).1;rcases o.2 with⟨_,q⟩|⟨b,l,s,g,t⟩
 .omega
 .have m:∀a,(Addr.add ⟨b,0,none⟩ a)=⟨b,a,none⟩:=λa=>by unfold Addr.add;split<;>simp_all
  have h:∀a c,(itV r)[a]? = some c->W.cell? ⟨b,a,none⟩=some c:=λa c n=>by
   have:=World.ownsRow.cells o (by rw[g];rfl) a c n
   rw[m] at this;exact this
  exact⟨b,l,g,h _ _ (qN r e f d).1,h _ _ (qN r e f d).2⟩
theorem EH{w ops o a}{K:Act->World->Prop}{q:Exit->Act->World->Prop}{t:Prop}(u:o.guard=none)s x(y:o.op=Op.call {callee:=Callee.builtin Builtin.append,args:=#[s,x],argTypes:=#[228,228]})N v n r(z:n=r.length)(A:a.eval s=v)(B:fh w N v r)g c b(f:Nat)(C:a.eval x=.slice (some ⟨g,0,none⟩) 1 c)(D:w.cell? ⟨g,0,none⟩=some (.bool b))(E:w.cell? ⟨g,1,none⟩=some (.int .i64 f))(T:n+1<=100000000)(F:N<=w.heap.size)(G:∀i j e,fh e N (.slice (some ⟨i,0,none⟩) (n+1) j) (r++[(b,f)])->Fr (λk=>v.ownBlock=some k) w e->K (a.put o.dst (.slice (some ⟨i,0,none⟩) (n+1) j)) e):if Region.wanted o (yielded ops a.tmps)=true then Oper.wp prog o a w K q else t:=by
 subst z;obtain⟨H,I,J,L,M⟩:=info_parts' vh;refine step_append_lies w u s x 228 y N 246 H (.agg #[.bool false,.int .i64 0]) 2 16 underlying228 I J L M rfl O v r.length (itV r) A B ⟨g,0,none⟩ 1 c [.bool b,.int .i64 f] C rfl ?_ ?_ O Xn O F w.heap.size rfl ?_
 .intro l P d
  have m:(⟨g,0,none⟩:Addr).add l=⟨g,l,none⟩:=by unfold Addr.add;split<;>simp_all
  rw[m]
  match l,d with
  | 0,d=>simp at d;subst d;exact D
  | 1,d=>simp at d;subst d;exact E
  | l+2,d=>simp at d
 .intro P p;simp at p;rcases p with rfl|rfl<;>rfl
 .intro i j e Q h U V
  refine G i j e ?_ ⟨h.os,h.tape,h.output,h.size,λk R S=>h.block k R (λm=>S m.symm)⟩;show e.ownsRow N _ 2 _ (r++[(b,f)]).length (itV (r++[(b,f)]))
  rw[lK,Xv];exact Q
structure LfX (W:World) (v:Value) (ls:List (Nat×Nat)):Prop where
 form:∃p c,v=.slice p ls.length c
 cells:∀i x,ls[i]? = some x->∃(g c:Nat),v=.slice (some ⟨g,0,none⟩) ls.length c/\W.cell? ⟨g,i*2,none⟩=some (.int .i64 (x.1:Int))/\W.cell? ⟨g,i*2+1,none⟩=some (.int .i64 (x.2:Int))
theorem LfX.frS{S:Nat->Prop}{w W v r}(h:LfX w v r)(k:Fr S w W)(f:∀a,v.ownBlock=some a->¬S a):LfX W v r:=by
 refine⟨h.form,λg i j => ?_⟩;obtain⟨a,l,b,c,m⟩:=h.cells g i j;have d:=f a (by rw[b];rfl);have e:=B _ _ c;exact⟨a,l,b,(k.cell e d).trans c,(k.cell e d).trans m⟩
theorem LfX.kept{w W v r}(h:LfX w v r)(k:Kept w W):LfX W v r:=h.frS (S:=λ_=>False) (Fr.of_kept k) (λ_ _ a=>a)
theorem LfX.two{W p n c r}(h:LfX W (.slice p n c) r){i x}(b:r[i]? = some x):∃a:Nat,p=some ⟨a,0,none⟩/\W.cell? ⟨a,i*2,none⟩=some (.int .i64 (x.1:Int))/\W.cell? ⟨a,i*2+1,none⟩=some (.int .i64 (x.2:Int)):=by
 obtain⟨a,j,d,e,f⟩:=h.cells i x b
 injection d with g k l
 exact⟨a,g,e,f⟩
theorem Dq l ls p ps(h:p<l):mg (l::ls) (p::ps)=(false,p)::mg (l::ls) ps:=by
 show mgL (mg ls) l ls (p::ps)=_
 unfold mgL;rw[I h];rfl
theorem AH l ls a(h:∀b,a[0]? = some b->¬b<l):mg (l::ls) a=(true,l)::mg ls a:=by
 match a,h with
 | [],_=>rw[uV,uV];rfl
 | b::a,h=>
  show mgL (mg ls) l ls (b::a)=_
  unfold mgL;rw[N (h b rfl)]
theorem Dp p ps:mg [] (p::ps)=(false,p)::mg [] ps:=rfl
theorem Hu:mg [] []=[]:=rfl
theorem wH:∀(r:List (Bool×Nat)) (k:Nat) (a b:Bool×Nat),r[2*k]? = some a->r[2*k+1]? = some b->(prs r)[k]? = some (a.2+b.2)
 | [],k,a,b,c,_=>by simp at c
 | [x],k,a,b,c,h2=>by simp at h2
 | x::d::r,0,a,b,c,h2=>by simp at c h2;subst c;subst h2;simp[prs]
 | x::d::r,k+1,a,b,c,h2=>by
  have e:2*(k+1)=2*k+1+1:=O;rw[e] at c h2
  simpa[prs] using wH r k a b (by simpa using c) (by simpa using h2)
