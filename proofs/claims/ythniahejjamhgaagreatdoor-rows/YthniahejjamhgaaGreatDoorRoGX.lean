import Derived.Test.YthniahejjamhgaaGreatDoorRoGV
import Derived.BigQuiet
set_option maxRecDepth 100000
set_option maxHeartbeats 6400000
namespace Go.Proofs.YthniahejjamhgaaGreatDoor
open Go.RowKit
set_option linter.unusedSimpArgs false
set_option linter.unusedVariables false
def NumB (b:Nat) (r:Ending):Prop:=∃ n:Nat,n<=b/\r = .returned (.int .i64 (n:Int))
theorem alike_any (dv:Value) (l:List Int) (at' d:Nat) (w:World) (hl:LAt w .u8 dv l) (hn:l.length<=1048576) (h1:1<=d) (h2:d<=at') (h3:at'<=l.length) :
  Calls Tryz.prog 151 #[dv,.int .i64 (at':Int),.int .i64 (d:Int)] w fun r w'=>NumB (min 258 (l.length - at')) r/\Kept w w':=by
 obtain ⟨p,c,rfl⟩:=hl.form;have HL:Hid (LAt w .u8 (.slice p l.length c) l):=hl;have i1:¬ (d:Int)<1:=by omega
 have i2:¬ (at':Int)<(d:Int):=by omega
 clear hl;go_enter Tryz.func151,Tryz.ntmps151;go_wp2;go_loopw [7] (fun v W=>∃ n:Nat,n<=258/\v = .int .i64 (n:Int)/\at'+n<=l.length/\Kept w W) (fun v _=>258 - (intOf v).toNat)
 case atStart=>exact ⟨0,by omega,rfl,by omega,Kept.refl _⟩
 case round=>
  obtain ⟨n,hn2,rfl,ha,hk⟩:=hrel;have HK:Hid (Kept w wr):=hk;have HL1:Hid (LAt wr .u8 (.slice p l.length c) l):=HL.out.kept hk;clear hk;by_cases c1:n<258
  ·have j1:(n:Int)<258:=by omega
   by_cases c2:at'+n<l.length
   ·have j2:(at':Int)+(n:Int)<(l.length:Int):=by omega
    obtain ⟨g,o,rfl,k1⟩:=HL1.out.cellAt (at'+n - d) (by omega);obtain ⟨g',o',e,k2⟩:=HL1.out.cellAt (at'+n) c2
    injection e with e
    injection e with e1 e2
    subst e1;subst e2;generalize l.getD (at'+n - d) 0=X at *;generalize l.getD (at'+n) 0=Y at *;have j3:(0:Int)<=(at':Int)+(n:Int) - (d:Int):=by omega
    have j4:(at':Int)+(n:Int) - (d:Int)<(l.length:Int):=by omega
    have j5:(0:Int)<=(at':Int)+(n:Int):=by omega
    have e3:((at':Int)+(n:Int) - (d:Int)).toNat=at'+n - d:=by omega
    have e4:((at':Int)+(n:Int)).toNat=at'+n:=by omega
    by_cases q:X=Y
    ·subst q
     go_wp2_with fail;go_quiet (fail);go_wp2;exact ⟨⟨n+1,by omega,by go_num,by omega,HK.out.drewN _⟩,by simp [intOf];omega⟩
    ·have q':(X == Y)=false:=by rw[beq_eq_false_iff_ne];exact q
     go_wp2_with fail;go_quiet (fail);go_wp2;go_ret;exact ⟨⟨n,by omega,rfl⟩,HK.out.drewN _⟩
   ·have j2:¬ (at':Int)+(n:Int)<(l.length:Int):=by omega
    have j5:(0:Int)<=(at':Int)+(n:Int):=by omega
    have j6:(at':Int)+(n:Int)<=1048576:=by omega
    have j7:decide ((at':Int)+(n:Int)<(l.length:Int))=false:=decide_eq_false j2;go_wp2_with fail;go_quiet (fail);go_wp2;go_ret;exact ⟨⟨n,by omega,rfl⟩,HK.out.drewN _⟩
  ·have j1:decide ((n:Int)<258)=false:=decide_eq_false (by omega)
   go_wp2_with fail;go_quiet (fail);go_wp2;go_ret;exact ⟨⟨n,by omega,rfl⟩,HK.out.drewN _⟩
structure NxA (W:World) (b:Nat) (wd pc:Int) (m a:Nat):Prop where
 s0:W.cell? ⟨b,0,none⟩=some (.int .i64 wd)
 s1:W.cell? ⟨b,1,none⟩=some (.int .i64 pc)
 r0:∃ u,W.cell? ⟨b+1,0,none⟩=some u
 r1:∃ u,W.cell? ⟨b+1,1,none⟩=some u
 r2:∃ u,W.cell? ⟨b+1,2,none⟩=some u
 f1:∀ j,W.frozen? ⟨b+1,j,none⟩=false
 f2:∀ j,W.frozen? ⟨b+2,j,none⟩=false
 best:∃ B L D:Nat,B<256/\L<=m/\D<=a/\W.cell? ⟨b+2,0,none⟩=some (.int .u8 (B:Int))/\W.cell? ⟨b+2,1,none⟩=some (.int .i64 (L:Int))/\W.cell? ⟨b+2,2,none⟩=some (.int .i64 (D:Int))
theorem NxA.kept {w W:World} {b:Nat} {wd pc:Int} {m a:Nat} (h:NxA w b wd pc m a) (k:Kept w W):NxA W b wd pc m a:=by
 obtain ⟨B,L,D,hB,hL,hD,c0,c1,c2⟩:=h.best;obtain ⟨u0,e0⟩:=h.r0;obtain ⟨u1,e1⟩:=h.r1;obtain ⟨u2,e2⟩:=h.r2;have l0:=World.block_lt_of_cell? _ _ h.s0;have l1:=World.block_lt_of_cell? _ _ e0;have l2:=World.block_lt_of_cell? _ _ c0;exact ⟨(k.cell (p:=⟨b,0,none⟩) l0).trans h.s0,(k.cell (p:=⟨b,1,none⟩) l0).trans h.s1,⟨u0,(k.cell (p:=⟨b+1,0,none⟩) l1).trans e0⟩,⟨u1,(k.cell (p:=⟨b+1,1,none⟩) l1).trans e1⟩,⟨u2,(k.cell (p:=⟨b+1,2,none⟩) l1).trans e2⟩,fun j=>(k.frozen (p:=⟨b+1,j,none⟩) l1).trans (h.f1 j),fun j=>(k.frozen (p:=⟨b+2,j,none⟩) l2).trans (h.f2 j),⟨B,L,D,hB,hL,hD,(k.cell (p:=⟨b+2,0,none⟩) l2).trans c0,(k.cell (p:=⟨b+2,1,none⟩) l2).trans c1,(k.cell (p:=⟨b+2,2,none⟩) l2).trans c2⟩⟩
theorem nxa_new (w:World) (wd pc:Int) (Y m a:Nat) (hY:Y<256):NxA (((w.alloc (Obj.cells #[.int .i64 wd,.int .i64 pc] 145)).alloc (Obj.cells #[.int .u8 0,.int .i64 0,.int .i64 0] 189)).alloc (Obj.cells #[.int .u8 (Y:Int),.int .i64 0,.int .i64 0] 189)) w.heap.size wd pc m a:=by
 obtain ⟨w1,h1⟩:∃ w1,w1=(w.alloc (Obj.cells #[.int .i64 wd,.int .i64 pc] 145)):=⟨_,rfl⟩;obtain ⟨w2,h2⟩:∃ w2,w2=w1.alloc (Obj.cells #[.int .u8 0,.int .i64 0,.int .i64 0] 189):=⟨_,rfl⟩;obtain ⟨w3,h3⟩:∃ w3,w3=w2.alloc (Obj.cells #[.int .u8 (Y:Int),.int .i64 0,.int .i64 0] 189):=⟨_,rfl⟩;have s1:w1.heap.size=w.heap.size+1:=by rw[h1];simp
 have s2:w2.heap.size=w.heap.size+2:=by rw[h2];simp [s1]
 have s3:w3.heap.size=w.heap.size+3:=by rw[h3];simp [s2]
 have k12:Kept w1 w2:=by rw[h2];exact (Below.refl _ _).alloc (Nat.le_refl _) _
 have k23:Kept w2 w3:=by rw[h3];exact (Below.refl _ _).alloc (Nat.le_refl _) _
 have c0:∀ j,w3.cell? ⟨w.heap.size,j,none⟩=(#[.int .i64 wd,.int .i64 pc]:Array Value)[j]? := fun j=>by
  rw[(k12.trans k23).cell (p:=⟨w.heap.size,j,none⟩) (by show w.heap.size<_;omega),h1];exact World.cell?_alloc_at _ _ _ _ rfl
 have c1:∀ j,w3.cell? ⟨w.heap.size+1,j,none⟩=(#[.int .u8 0,.int .i64 0,.int .i64 0]:Array Value)[j]? := fun j=>by
  rw[k23.cell (p:=⟨w.heap.size+1,j,none⟩) (by show w.heap.size+1<_;omega),h2,<- s1];exact World.cell?_alloc_at _ _ _ _ rfl
 have c2:∀ j,w3.cell? ⟨w.heap.size+2,j,none⟩=(#[.int .u8 (Y:Int),.int .i64 0,.int .i64 0]:Array Value)[j]? := fun j=>by
  rw[h3,<- s2];exact World.cell?_alloc_at _ _ _ _ rfl
 have f1:∀ j,w3.frozen? ⟨w.heap.size+1,j,none⟩=false:=fun j=>by
  rw[k23.frozen (p:=⟨w.heap.size+1,j,none⟩) (by show w.heap.size+1<_;omega),h2,<- s1];exact World.frozen?_alloc_at _ _ _ _ rfl
 have f2:∀ j,w3.frozen? ⟨w.heap.size+2,j,none⟩=false:=fun j=>by
  rw[h3,<- s2];exact World.frozen?_alloc_at _ _ _ _ rfl
 have fin:NxA w3 w.heap.size wd pc m a:=⟨c0 0,c0 1,⟨_,c1 0⟩,⟨_,c1 1⟩,⟨_,c1 2⟩,f1,f2,⟨Y,0,0,hY,Nat.zero_le _,Nat.zero_le _,c2 0,c2 1,c2 2⟩⟩;rw[h3,h2,h1] at fin;exact fin
theorem NxA.put {W:World} {b:Nat} {wd pc:Int} {m a:Nat} (h:NxA W b wd pc m a) (n d:Nat) (hn:n<=m) (hd:d<=a):NxA (((W.setCell ⟨b+2,0,none⟩ (.int .u8 0)).setCell ⟨b+2,1,none⟩ (.int .i64 (n:Int))).setCell ⟨b+2,2,none⟩ (.int .i64 (d:Int))) b wd pc m a:=by
 obtain ⟨B,L,D,hB,hL,hD,c0,c1,c2⟩:=h.best;have F:Fr (fun g=>g=b+2) W (((W.setCell ⟨b+2,0,none⟩ (.int .u8 0)).setCell ⟨b+2,1,none⟩ (.int .i64 (n:Int))).setCell ⟨b+2,2,none⟩ (.int .i64 (d:Int))):=((Fr.setCell (S:=fun g=>g=b+2) (Fr.refl _ _) (Or.inl rfl) _ _).setCell (Or.inl rfl) _ _).setCell (Or.inl rfl) _ _;obtain ⟨u0,e0⟩:=h.r0;obtain ⟨u1,e1⟩:=h.r1;obtain ⟨u2,e2⟩:=h.r2;have l0:b<W.heap.size:=World.block_lt_of_cell? _ _ h.s0;have l1:b+1<W.heap.size:=World.block_lt_of_cell? _ _ e0;have n0:¬ b=b+2:=by omega
 have n1:¬ b+1=b+2:=by omega
 refine ⟨(F.cell l0 n0).trans h.s0,(F.cell l0 n0).trans h.s1,⟨u0,(F.cell l1 n1).trans e0⟩,⟨u1,(F.cell l1 n1).trans e1⟩,⟨u2,(F.cell l1 n1).trans e2⟩,fun j=>(F.frozen l1 n1).trans (h.f1 j),fun j => ?_,⟨0,n,d,by omega,hn,hd,?_,?_,?_⟩⟩
 ·rw[World.frozen?_setCell,World.frozen?_setCell,World.frozen?_setCell];exact h.f2 j
 ·rw[cell_set_other _ _ _ _ _ (by omega),cell_set_other _ _ _ _ _ (by omega)];exact cell_set_same c0 _
 ·rw[cell_set_other _ _ _ _ _ (by omega)];exact cell_set_same ((cell_set_other _ _ _ _ _ (by omega)).trans c1) _
 ·exact cell_set_same ((cell_set_other _ _ _ _ _ (by omega)).trans ((cell_set_other _ _ _ _ _ (by omega)).trans c2)) _
def TokP (m a:Nat) (r:Ending):Prop:=∃ B L D:Nat,B<256/\L<=m/\D<=a/\r = .returned (.agg #[.int .u8 (B:Int),.int .i64 (L:Int),.int .i64 (D:Int)])
theorem next_any (dv:Value) (l:List Int) (at':Nat) (wd pc:Int) (w:World) (hl:LAt w .u8 dv l) (hB:isBytes l) (hn:l.length<=1048576) (h3:at'<l.length) :
  Calls Tryz.prog 132 #[dv,.int .i64 (at':Int),.agg #[.int .i64 wd,.int .i64 pc]] w fun r w'=>TokP (min 258 (l.length - at')) at' r/\Kept w w':=by
 obtain ⟨p,c,rfl⟩:=hl.form;have HL:Hid (LAt w .u8 (.slice p l.length c) l):=hl;obtain ⟨g,o,rfl,k1⟩:=hl.cellAt at' h3;have hb:=hB _ (getD_mem h3);generalize l.getD at' 0=X at *;obtain ⟨Y,rfl⟩:∃ Y:Nat,X=(Y:Int):=⟨X.toNat,by omega⟩;have i1:(0:Int)<=(at':Int):=by omega
 have i2:(at':Int)<(l.length:Int):=by omega
 have hg:=World.block_lt_of_cell? _ _ k1;have KA:Hid (Kept w (((w.alloc (Obj.cells #[.int .i64 wd,.int .i64 pc] 145)).alloc (Obj.cells #[.int .u8 0,.int .i64 0,.int .i64 0] 189)).alloc (Obj.cells #[.int .u8 0,.int .i64 0,.int .i64 0] 189))):=(((Below.refl _ _).alloc (Nat.le_refl _) _).alloc (by simp) _).alloc (by simp;omega) _;have kA:(((w.alloc (Obj.cells #[.int .i64 wd,.int .i64 pc] 145)).alloc (Obj.cells #[.int .u8 0,.int .i64 0,.int .i64 0] 189)).alloc (Obj.cells #[.int .u8 0,.int .i64 0,.int .i64 0] 189)).cell? ⟨g,o+at',none⟩=some (.int .u8 (Y:Int)):=(KA.out.cell (p:=⟨g,o+at',none⟩) hg).trans k1;have NA:Hid (NxA (((w.alloc (Obj.cells #[.int .i64 wd,.int .i64 pc] 145)).alloc (Obj.cells #[.int .u8 0,.int .i64 0,.int .i64 0] 189)).alloc (Obj.cells #[.int .u8 (Y:Int),.int .i64 0,.int .i64 0] 189)) w.heap.size wd pc (min 258 (l.length - at')) at'):=nxa_new w wd pc Y _ at' (by omega);have KB:Hid (Kept w (((w.alloc (Obj.cells #[.int .i64 wd,.int .i64 pc] 145)).alloc (Obj.cells #[.int .u8 0,.int .i64 0,.int .i64 0] 189)).alloc (Obj.cells #[.int .u8 (Y:Int),.int .i64 0,.int .i64 0] 189))):=(((Below.refl _ _).alloc (Nat.le_refl _) _).alloc (by simp) _).alloc (by simp;omega) _;clear hl hB k1 hg KA;go_enter Tryz.func132,Tryz.ntmps132;go_wp2_with fail;generalize (((w.alloc (Obj.cells #[.int .i64 wd,.int .i64 pc] 145)).alloc (Obj.cells #[.int .u8 0,.int .i64 0,.int .i64 0] 189)).alloc (Obj.cells #[.int .u8 (Y:Int),.int .i64 0,.int .i64 0] 189))=wB at *;clear kA;have eb:w.heap.size+1+1=w.heap.size+2:=rfl;rw[eb];generalize hbk:w.heap.size=b at *;go_loopw [8,9,10] (fun v8 v9 _ W=>∃ d q:Nat,1<=d/\d<=at'+1/\q<=d/\v8 = .int .i64 (q:Int)/\v9 = .int .i64 (d:Int)/\NxA W b wd pc (min 258 (l.length - at')) at'/\Kept w W) (fun _ v9 _ _=>at'+2 - (intOf v9).toNat)
 case atStart=>exact ⟨1,0,by omega,by omega,by omega,rfl,rfl,NA.out,KB.out⟩
 case round=>
  obtain ⟨d,q,d1,d2,hq,rfl,rfl,hN,hK⟩:=hrel;have s0:=hN.s0;have s1:=hN.s1;have N1:Hid (NxA wr b wd pc (min 258 (l.length - at')) at'):=hN;have K1:Hid (Kept w wr):=hK;have M1:Hid (∀ W,Kept w W->LAt W .u8 (.slice (some ⟨g,o,none⟩) l.length c) l):=fun W k=>HL.out.kept k
  have q9:q<=1048577:=by omega
  clear hN hK;by_cases c1:(d:Int)<=wd/\d<=at'/\(q:Int)<pc
  ·obtain ⟨a1,a2,a3⟩:=c1
   have a2':(d:Int)<=(at':Int):=by omega
   go_wp2_with fail;refine (alike_any (.slice (some ⟨g,o,none⟩) l.length c) l at' d wr (M1.out wr K1.out) hn d1 a2 (by omega)).mono ?_;rintro r w1 ⟨⟨n,hn1,rfl⟩,hk1⟩;have N2:Hid (NxA w1 b wd pc (min 258 (l.length - at')) at'):=N1.out.kept hk1;have K2:Hid (Kept w w1):=K1.out.trans hk1;clear hk1 s0 s1 N1 K1;by_cases c2:n<3
   ·have c2':(n:Int)<3:=by omega
    go_wp2;exact ⟨⟨d+1,q,by omega,by omega,by omega,rfl,by go_num,N2.out,K2.out⟩,by simp [intOf];omega⟩
   ·have c2':¬ (n:Int)<3:=by omega
    obtain ⟨B,L,D,hB,hL,hD,x0,x1,x2⟩:=N2.out.best;have f0:=N2.out.f2 0;have f1:=N2.out.f2 1;have f2:=N2.out.f2 2;by_cases c3:L<n
    ·have c3':(L:Int)<(n:Int):=by omega
     have K3:Hid (Kept w (((w1.setCell ⟨b+2,0,none⟩ (.int .u8 0)).setCell ⟨b+2,1,none⟩ (.int .i64 (n:Int))).setCell ⟨b+2,2,none⟩ (.int .i64 (d:Int)))):=((K2.out.setCell (by rw[hbk];show b<=b+2;omega) _).setCell (by rw[hbk];show b<=b+2;omega) _).setCell (by rw[hbk];show b<=b+2;omega) _;go_wp2;exact ⟨⟨d+1,q+1,by omega,by omega,by omega,by go_num,by go_num,N2.out.put n d hn1 a2,K3.out⟩,by simp [intOf];omega⟩
    ·have c3':¬ (L:Int)<(n:Int):=by omega
     go_wp2;exact ⟨⟨d+1,q+1,by omega,by omega,by omega,by go_num,by go_num,N2.out,K2.out⟩,by simp [intOf];omega⟩
  ·obtain ⟨B,L,D,hB,hL,hD,x0,x1,x2⟩:=N1.out.best
   obtain ⟨u0,e0⟩:=N1.out.r0;obtain ⟨u1,e1⟩:=N1.out.r1;obtain ⟨u2,e2⟩:=N1.out.r2;have f0:=N1.out.f1 0;have f1:=N1.out.f1 1;have f2:=N1.out.f1 2;have K3:Hid (Kept w (((wr.setCell ⟨b+1,0,none⟩ (.int .u8 (B:Int))).setCell ⟨b+1,1,none⟩ (.int .i64 (L:Int))).setCell ⟨b+1,2,none⟩ (.int .i64 (D:Int)))):=((K1.out.setCell (by rw[hbk];show b<=b+1;omega) _).setCell (by rw[hbk];show b<=b+1;omega) _).setCell (by rw[hbk];show b<=b+1;omega) _;have R:Hid (TokP (min 258 (l.length - at')) at' (.returned (.agg #[.int .u8 (B:Int),.int .i64 (L:Int),.int .i64 (D:Int)]))):=⟨B,L,D,hB,hL,hD,rfl⟩;by_cases a1:(d:Int)<=wd
   ·by_cases a2:d<=at'
    ·have a2':(d:Int)<=(at':Int):=by omega
     have a3:¬ (q:Int)<pc:=fun e=>c1 ⟨a1,a2,e⟩
     clear c1;go_wp2;refine bodyPost_ret (v := .agg #[.int .u8 (B:Int),.int .i64 (L:Int),.int .i64 (D:Int)]) (by simp [results,Tryz.results132,go_sem,e0,e1,e2]) rfl ⟨R.out,K3.out⟩
    ·have a2':¬ (d:Int)<=(at':Int):=by omega
     clear c1;go_wp2;refine bodyPost_ret (v := .agg #[.int .u8 (B:Int),.int .i64 (L:Int),.int .i64 (D:Int)]) (by simp [results,Tryz.results132,go_sem,e0,e1,e2]) rfl ⟨R.out,K3.out⟩
   ·clear c1
    go_wp2;refine bodyPost_ret (v := .agg #[.int .u8 (B:Int),.int .i64 (L:Int),.int .i64 (D:Int)]) (by simp [results,Tryz.results132,go_sem,e0,e1,e2]) rfl ⟨R.out,K3.out⟩
theorem infoTk:(Tryz.prog.info? 189).map (fun i=>(i.zero,i.size,i.bytes))=some (some (.agg #[.int .u8 0,.int .i64 0,.int .i64 0]),3,24):=by kernel_rfl
def TkL (xs:List Value) (n:Nat):Prop:=xs.length=n*3/\∀ i,i<n->∃ B L D:Nat,B<256/\L<=258/\D<=65536/\xs[i*3]? = some (.int .u8 (B:Int))/\xs[i*3+1]? = some (.int .i64 (L:Int))/\xs[i*3+2]? = some (.int .i64 (D:Int))
theorem TkL.snoc {xs:List Value} {n B L D:Nat} (h:TkL xs n) (hB:B<256) (hL:L<=258) (hD:D<=65536):TkL (xs++[.int .u8 (B:Int),.int .i64 (L:Int),.int .i64 (D:Int)]) (n+1):=by
 refine ⟨by simp [h.1];omega,fun i hi => ?_⟩;by_cases c:i<n
 ·obtain ⟨b,l,d,h1,h2,h3,e1,e2,e3⟩:=h.2 i c
  have q:=h.1;exact ⟨b,l,d,h1,h2,h3,by rw[List.getElem?_append_left (by omega)];exact e1,by rw[List.getElem?_append_left (by omega)];exact e2,by rw[List.getElem?_append_left (by omega)];exact e3⟩
 ·have q:=h.1
  have e:i=n:=by omega
  subst e;refine ⟨B,L,D,hB,hL,hD,?_,?_,?_⟩
  ·rw[List.getElem?_append_right (by omega),q,Nat.sub_self];rfl
  ·rw[List.getElem?_append_right (by omega),q,show i*3+1 - i*3=1 by omega];rfl
  ·rw[List.getElem?_append_right (by omega),q,show i*3+2 - i*3=2 by omega];rfl
theorem TkL.at {W:World} {N:Nat} {e:TypeId} {v:Value} {n:Nat} {xs:List Value} (h:TkL xs n) (o:W.ownsRow N e 3 v n xs):TkAt W v n:=by
 obtain ⟨p,c,hv⟩:=own_slice o;refine ⟨⟨p,c,hv⟩,fun i hi => ?_⟩;obtain ⟨B,L,D,h1,h2,h3,e1,e2,e3⟩:=h.2 i hi;rcases o.2 with ⟨_,h0⟩ | ⟨g,cap,cur,hv2,r⟩
 ·omega
 ·have ad:∀ j,(Addr.add ⟨g,0,none⟩ j)=⟨g,j,none⟩:=fun j=>by unfold Addr.add;split<;>simp_all
  have hc:∀ j u,xs[j]? = some u->W.cell? ⟨g,j,none⟩=some u:=fun j u hj=>by
   have:=o.cells (by rw[hv2];rfl) j u hj
   rw[ad] at this;exact this
  exact ⟨g,cap,B,L,D,hv2,by omega,by omega,by omega,by omega,by omega,by omega,hc _ _ e1,hc _ _ e2,hc _ _ e3⟩
def TksP (w:World) (m:Nat) (r:Ending) (w':World):Prop:=∃ lv n,r = .returned lv/\n<=m/\TkAt w' lv n/\∀ g,lv.ownBlock=some g->w.heap.size<=g/\g<w'.heap.size
theorem tokof_any (dv:Value) (l:List Int) (f:Nat) (wd pc:Int) (w:World) (hl:LAt w .u8 dv l) (hB:isBytes l) (hn:l.length<=65536) :
  Calls Tryz.prog 103 #[dv,.int .i64 (f:Int),.agg #[.int .i64 wd,.int .i64 pc]] w fun r w'=>TksP w (l.length - f) r w'/\Kept w w':=by
 obtain ⟨p,c,rfl⟩:=hl.form;have HL:Hid (∀ W,Kept w W->LAt W .u8 (.slice p l.length c) l):=fun W k=>hl.kept k
 have HB:Hid (isBytes l):=hB;obtain ⟨w0,hw0⟩:∃ w0,w0=w.alloc (Obj.cells #[.int .i64 wd,.int .i64 pc] 145):=⟨_,rfl⟩;have K0:Hid (Kept w w0):=by rw[hw0];exact (Below.refl _ _).alloc (Nat.le_refl _) _
 have HS:Hid (∀ W,Kept w0 W->W.cell? ⟨w.heap.size,0,none⟩=some (.int .i64 wd)/\W.cell? ⟨w.heap.size,1,none⟩=some (.int .i64 pc)):=fun W k=>by
  have hlt:w.heap.size<w0.heap.size:=by rw[hw0];simp
  exact ⟨by rw[k.cell (p:=⟨w.heap.size,0,none⟩) hlt,hw0];exact World.cell?_alloc_at _ _ _ _ rfl,by rw[k.cell (p:=⟨w.heap.size,1,none⟩) hlt,hw0];exact World.cell?_alloc_at _ _ _ _ rfl⟩
 have i0:(0:Int)<=(f:Int):=by omega
 clear hl hB;go_enter Tryz.func103,Tryz.ntmps103;go_wp2_with fail;rw[<- hw0];clear hw0;go_loopw [7,8,9] (fun v7 v8 _ W=>∃ (n a:Nat) (xs:List Value),v8 = .int .i64 (a:Int)/\n<=l.length/\n+f<=a/\(a=f\/a<=l.length)/\W.ownsRow w0.heap.size 189 3 v7 n xs/\TkL xs n/\Kept w0 W) (fun _ v8 _ _=>l.length - (intOf v8).toNat)
 case atStart=>exact ⟨0,f,[],rfl,by omega,by omega,Or.inl rfl,World.ownsRow_nil _ _ _ _,⟨rfl,fun i hi=>by omega⟩,Kept.refl _⟩
 case round=>
  obtain ⟨n,a,xs,rfl,hn1,hn2,ha,ho,ht,hk⟩:=hrel;obtain ⟨p7,c7,rfl⟩:=own_slice ho;have HO:Hid (wr.ownsRow w0.heap.size 189 3 (.slice p7 n c7) n xs):=ho;have HT:Hid (TkL xs n):=ht;have HK:Hid (Kept w0 wr):=hk;have s0:=(HS.out wr hk).1;have s1:=(HS.out wr hk).2;clear ho ht hk;by_cases c0:a<l.length
  ·have ai:(a:Int)<(l.length:Int):=by omega
   go_wp2_with fail;refine (next_any (.slice p l.length c) l a wd pc wr (HL.out wr (K0.out.trans HK.out)) HB.out (by omega) c0).mono ?_;rintro r w1 ⟨⟨B,L,D,hB,hL,hD,rfl⟩,hk1⟩;have K1:Hid (Kept w0 w1):=HK.out.trans hk1;have O1:Hid (w1.ownsRow w0.heap.size 189 3 (.slice p7 n c7) n xs):=own_kept HO.out hk1;have hsz:w0.heap.size<=w1.heap.size:=K1.out.size;have HJ:Hid (∀ j,(Value.slice p7 n c7).ownBlock=some j->w0.heap.size<=j/\j<w1.heap.size):=fun j hj=>O1.out.lt j hj
   clear hk1 s0 s1 HO HK;have K12:Kept w1 ((w1.alloc (Obj.cells #[.int .u8 (B:Int),.int .i64 (L:Int),.int .i64 (D:Int)] 189)).alloc (Obj.cells #[.int .u8 (B:Int),.int .i64 (L:Int),.int .i64 (D:Int)] 189)):=((Below.refl _ _).alloc (Nat.le_refl _) _).alloc (by simp) _;have O2:Hid (((w1.alloc (Obj.cells #[.int .u8 (B:Int),.int .i64 (L:Int),.int .i64 (D:Int)] 189)).alloc (Obj.cells #[.int .u8 (B:Int),.int .i64 (L:Int),.int .i64 (D:Int)] 189)).ownsRow w0.heap.size 189 3 (.slice p7 n c7) n xs):=own_kept O1.out K12;have K2:Hid (Kept w0 ((w1.alloc (Obj.cells #[.int .u8 (B:Int),.int .i64 (L:Int),.int .i64 (D:Int)] 189)).alloc (Obj.cells #[.int .u8 (B:Int),.int .i64 (L:Int),.int .i64 (D:Int)] 189))):=K1.out.trans K12;have HC:Hid (∀ (j:Nat) (u:Value),[Value.int .u8 (B:Int),.int .i64 (L:Int),.int .i64 (D:Int)][j]? = some u->((w1.alloc (Obj.cells #[.int .u8 (B:Int),.int .i64 (L:Int),.int .i64 (D:Int)] 189)).alloc (Obj.cells #[.int .u8 (B:Int),.int .i64 (L:Int),.int .i64 (D:Int)] 189)).cell? (Addr.add ⟨w1.heap.size+1,0,none⟩ j)=some u):=by
    intro j u hj;have e:(Addr.add ⟨w1.heap.size+1,0,none⟩ j)=⟨(w1.alloc (Obj.cells #[.int .u8 (B:Int),.int .i64 (L:Int),.int .i64 (D:Int)] 189)).heap.size,j,none⟩:=by unfold Addr.add;split<;>simp_all
    rw[e];refine (World.cell?_alloc_at _ _ _ _ rfl).trans ?_
    simpa using hj
   have HZ:Hid (w0.heap.size<=((w1.alloc (Obj.cells #[.int .u8 (B:Int),.int .i64 (L:Int),.int .i64 (D:Int)] 189)).alloc (Obj.cells #[.int .u8 (B:Int),.int .i64 (L:Int),.int .i64 (D:Int)] 189)).heap.size):=by show w0.heap.size<=_;simp;omega
   have c5:((w1.alloc (Obj.cells #[.int .u8 (B:Int),.int .i64 (L:Int),.int .i64 (D:Int)] 189)).alloc (Obj.cells #[.int .u8 (B:Int),.int .i64 (L:Int),.int .i64 (D:Int)] 189)).cell? ⟨w1.heap.size,1,none⟩=some (.int .i64 (L:Int)):=by
    have kx:Kept (w1.alloc (Obj.cells #[.int .u8 (B:Int),.int .i64 (L:Int),.int .i64 (D:Int)] 189)) ((w1.alloc (Obj.cells #[.int .u8 (B:Int),.int .i64 (L:Int),.int .i64 (D:Int)] 189)).alloc (Obj.cells #[.int .u8 (B:Int),.int .i64 (L:Int),.int .i64 (D:Int)] 189)):=(Below.refl _ _).alloc (Nat.le_refl _) _;rw[kx.cell (p:=⟨w1.heap.size,1,none⟩) (by simp)];exact (World.cell?_alloc_at _ _ _ _ rfl).trans rfl
   clear K12 O1;go_wp2_with (at_builtin;refine append_own _ 173 173 189 3 24 (.agg #[.int .u8 0,.int .i64 0,.int .i64 0]) Tryz.underlying173 infoTk rfl (by omega) rfl _ _ rfl w0.heap.size (.slice p7 n c7) n xs rfl O2.out ⟨w1.heap.size+1,0,none⟩ 1 1 [.int .u8 (B:Int),.int .i64 (L:Int),.int .i64 (D:Int)] rfl rfl (by omega) HC.out (by intro u hu;simp at hu;rcases hu with rfl | rfl | rfl<;>rfl) (by unfold maxLen;omega) (by omega) HZ.out ?_ rfl)
   intro v' w' o' gr hat;obtain ⟨p8,c8,rfl⟩:=own_slice o';have T2:Hid (TkL (xs++[.int .u8 (B:Int),.int .i64 (L:Int),.int .i64 (D:Int)]) (n+1)):=HT.out.snoc hB (by omega) (by omega);have O3:Hid (w'.ownsRow w0.heap.size 189 3 (.slice p8 (n+1) c8) (n+1) (xs++[.int .u8 (B:Int),.int .i64 (L:Int),.int .i64 (D:Int)])):=o';have KF:Hid (Kept w0 w'):=K2.out.grown gr HZ.out (fun j hj=>(HJ.out j hj).1);have c6:w'.cell? ⟨w1.heap.size,1,none⟩=some (.int .i64 (L:Int)):=gr.cell c5 (fun e=>by have:=(HJ.out _ e.symm).2;exact Nat.lt_irrefl _ this);clear o' gr hat c5 O2 HC;by_cases c2:L=0
   ·subst c2
    go_wp2;exact ⟨⟨n+1,a+1,_,by go_num,by omega,by omega,Or.inr (by omega),O3.out,T2.out,KF.out⟩,by simp [intOf];omega⟩
   ·have c2':(1:Int)<=(L:Int):=by omega
    go_wp2;exact ⟨⟨n+1,a+L,_,val_int (by omega),by omega,by omega,Or.inr (by omega),O3.out,T2.out,KF.out⟩,by simp [intOf];omega⟩
  ·have ai:¬ (a:Int)<(l.length:Int):=by omega
   go_wp2;go_ret;exact ⟨⟨_,n,rfl,by omega,HT.out.at HO.out,fun g hg=>⟨Nat.le_trans K0.out.size (HO.out.lt g hg).1,(HO.out.lt g hg).2⟩⟩,K0.out.trans HK.out⟩
