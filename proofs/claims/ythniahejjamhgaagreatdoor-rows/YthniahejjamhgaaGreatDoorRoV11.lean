import Derived.Test.YthniahejjamhgaaGreatDoorRoV8
set_option maxRecDepth 100000
set_option maxHeartbeats 6400000
namespace Go.Proofs.YthniahejjamhgaaGreatDoor
open Go.RowKit Px
set_option linter.unusedSimpArgs false
set_option linter.unusedVariables false
def OrgEx (e:Ending):Prop:=∃ (m:Nat) (B:Bool),e = .returned (.tuple #[.int .i64 (m:Int),.bool B])/\m<16
theorem origin_s (f s q p:Nat) (w:World) (hf:f<=8) (hs1:1<=s) (hs2:s<=8) (hp:p<16) :
  Calls Tryz.prog 127 #[.agg #[.int .i64 (f:Int),.int .i64 (s:Int),.int .i64 (q:Int)],.int .i64 (p:Int)] w fun e w'=>OrgEx e/\Kept w w':=by
 have g1:¬ (s:Int)<1:=by omega
 have g0:¬ ((s:Int)=0):=by omega
 have g0':((s:Int) == 0)=false:=by rw[beq_eq_false_iff_ne];omega
 have g0'':¬ (s=0):=by omega
 have K0:Hid (∀ o,Kept w (w.alloc o)):=fun o=>Below.alloc (Below.refl _ _) (Nat.le_refl _) _
 by_cases h:p<f
 ·have h':(p:Int)<(f:Int):=by omega
  go_enter Tryz.func127,Tryz.ntmps127;go_wp2;go_ret2;exact ⟨⟨0,false,rfl,by omega⟩,K0.out _⟩
 ·have h':¬ (p:Int)<(f:Int):=by omega
  obtain ⟨A,hA⟩:∃ A,A=p - f:=⟨_,rfl⟩;have eA:(p:Int) - (f:Int)=(A:Int):=by omega
  obtain ⟨R,hR⟩:∃ R,R=A % s:=⟨_,rfl⟩;have eR:(A:Int) % (s:Int)=(R:Int):=by rw[hR];exact (Int.natCast_emod _ _).symm
  have eR':(A:Int).tmod (s:Int)=(R:Int):=by rw[Int.tmod_eq_emod_of_nonneg (by omega)];exact eR
  have hRA:R<=A:=by rw[hR];exact Nat.mod_le _ _
  obtain ⟨M,hM⟩:∃ M,M=p - R:=⟨_,rfl⟩;have eM:(p:Int) - (R:Int)=(M:Int):=by omega
  have hM16:M<16:=by omega
  clear hR hA hM;go_enter Tryz.func127,Tryz.ntmps127;go_wp2_with fail;go_quiet (fail);go_wp2_with fail;go_ret2;exact ⟨⟨M,_,rfl,hM16⟩,(K0.out _).drewN _⟩
theorem shown_s (b o1 o2 n x y:Nat) (c:Nat->Value) (r:Rw) (t:Tl) (h:Hd) (w:World) (hB:Blk w b n c) (hp:PicOk c o1 o2 n r t h) (hx:x<16) (hy:y<16) (hG:GrdAt w) :
  Calls Tryz.prog 92 #[hdV h,.pointer (some ⟨b,o1,none⟩),.pointer (some ⟨b,o2,none⟩),.int .i64 (x:Int),.int .i64 (y:Int)] w fun e w'=>AnyFour w e w':=by
 obtain ⟨wa,hwa⟩:∃ wa,wa=w.alloc (Obj.cells #[.int .i64 (h.W:Int),.int .i64 (h.H:Int),.int .i64 (h.D:Int),.int .i64 (h.K:Int),.int .i64 (h.L:Int)] 66):=⟨_,rfl⟩;obtain ⟨wb,hwb⟩:∃ wb,wb=wa.alloc (Obj.cells #[.int .i64 0,.int .i64 0,.int .i64 0,.int .i64 0] 157):=⟨_,rfl⟩;have hsa:wa.heap.size=w.heap.size+1:=by rw[hwa];simp
 have Ka:Kept w wa:=by rw[hwa];exact Below.alloc (Below.refl _ _) (Nat.le_refl _) _
 have Kb:Kept wa wb:=by rw[hwb];exact Below.alloc (Below.refl _ _) (Nat.le_refl _) _
 have K0:Hid (Kept w wb):=Ka.trans Kb;have hcell:∀ j v,(#[Value.int .i64 (h.W:Int),.int .i64 (h.H:Int),.int .i64 (h.D:Int),.int .i64 (h.K:Int),.int .i64 (h.L:Int)]:Array Value)[j]? = some v->wb.cell? ⟨w.heap.size,j,none⟩=some v:=fun j v hv=>by
  rw[Kb.cell (p:=⟨w.heap.size,j,none⟩) (by show w.heap.size<wa.heap.size;omega),hwa];exact (World.cell?_alloc_at _ _ _ _ rfl).trans hv
 have R4:Hid (FourAt wb (w.heap.size+1) (fun _=>0)):=by
  rw[hwb,<- hsa];refine ⟨?_,?_,?_,?_⟩<;>exact (World.cell?_alloc_at _ _ _ _ rfl).trans rfl
 have Z4:Hid (∀ j,wb.frozen? ⟨w.heap.size+1,j,none⟩=false):=fun j=>by rw[hwb,<- hsa];exact World.frozen?_alloc_at _ _ _ _ rfl
 have HB:Hid (Blk wb b n c):=hB.kept K0.out;have HG:Hid (GrdAt wb):=hG.kept K0.out;have HP:Hid (PicOk c o1 o2 n r t h):=hp;have p0:=hcell 0 _ rfl;have p1:=hcell 1 _ rfl;have p2:=hcell 2 _ rfl;have p3:=hcell 3 _ rfl;have p4:=hcell 4 _ rfl;have hs0:w.heap.size<wb.heap.size:=World.block_lt_of_cell? wb ⟨w.heap.size,0,none⟩ p0;have hs1:w.heap.size+1<wb.heap.size:=World.block_lt_of_cell? wb ⟨w.heap.size+1,0,none⟩ R4.out.1;have HH:Hid (∀ W,Kept wb W->(W.cell? ⟨w.heap.size,0,none⟩=some (.int .i64 (h.W:Int))/\W.cell? ⟨w.heap.size,1,none⟩=some (.int .i64 (h.H:Int))/\W.cell? ⟨w.heap.size,2,none⟩=some (.int .i64 (h.D:Int))/\W.cell? ⟨w.heap.size,3,none⟩=some (.int .i64 (h.K:Int))/\W.cell? ⟨w.heap.size,4,none⟩=some (.int .i64 (h.L:Int)))):=fun W k=>⟨(k.cell (p:=⟨w.heap.size,0,none⟩) hs0).trans p0,(k.cell (p:=⟨w.heap.size,1,none⟩) hs0).trans p1,(k.cell (p:=⟨w.heap.size,2,none⟩) hs0).trans p2,(k.cell (p:=⟨w.heap.size,3,none⟩) hs0).trans p3,(k.cell (p:=⟨w.heap.size,4,none⟩) hs0).trans p4⟩
 have HL:Hid (h.L<=1):=hp.L;have FC:Hid (∀ W':World,Calls Tryz.prog 65 #[.int .i64 (h.L:Int)] W' fun e w'=>e = .returned (.int .i64 (cntP h.L:Int))/\w'=W'):=fun W'=>count_x _ W'
 obtain ⟨CN,hCN⟩:∃ CN,CN=cntP h.L:=⟨_,rfl⟩;rw[<- hCN] at FC;have hCN7:CN<=7:=by rw[hCN];unfold cntP;split<;>omega
 clear hCN hB hp hcell Ka Kb hG p0 p1 p2 p3;unfold hdV;go_enter Tryz.func92,Tryz.ntmps92;go_upto_region 1 with fail
 rw[<- hwa,<- hwb];replace hwa:Hid _:=hwa;replace hwb:Hid _:=hwb;go_wp2_with fail;refine (FC.out _).mono ?_;rintro e w2 ⟨rfl,hw2⟩;subst w2;go_wp2_with fail;go_loopg [11,12,13,14,15,16] CN (fun m v v12 v13 v14 v15 v16 W=>m<=CN/\v = .int .i64 ((m:Int) - 1)/\Kept wb W)
 case atStart=>exact ⟨Nat.le_refl _,rfl,Kept.refl _⟩
 case round=>
  obtain ⟨hgC,rfl,hkw⟩:=hrel;have HKW:Hid (Kept wb wr):=hkw;obtain ⟨d0,d1,d2,d3,d4⟩:=HH.out wr hkw;clear hkw;by_cases hz:gk=0
  ·have hz':¬ (0:Int)<=(gk:Int) - 1:=by omega
   have R2:Hid (FourAt wr (w.heap.size+1) (fun _=>0)):=R4.out.kept HKW.out;obtain ⟨r0,r1,r2,r3⟩:=R2.out;have zr:∀ j,wr.frozen? ⟨w.heap.size+1,j,none⟩=false:=fun j=>(HKW.out.frozen (p:=⟨w.heap.size+1,j,none⟩) hs1).trans (Z4.out j)
   replace hz:Hid _:=hz;go_wp2_with fail;exact bodyPost_ret (results_cell1 rfl _ _ _ _ _ rfl (load4 (R2.out.put 0 0 0 0))) rfl ⟨0,0,0,0,rfl,((((K0.out.trans HKW.out).setCell (Nat.le_add_right _ _) _).setCell (Nat.le_add_right _ _) _).setCell (Nat.le_add_right _ _) _).setCell (Nat.le_add_right _ _) _⟩
  ·obtain ⟨K,hK⟩:∃ K,gk=K+1:=⟨gk - 1,by omega⟩
   have eK:(gk:Int) - 1=(K:Int):=by omega
   have k0:(0:Int)<=(K:Int):=by omega
   rw[eK];have FO:Hid (Calls Tryz.prog 66 #[.int .i64 (h.L:Int),.int .i64 (K:Int)] wr fun e w'=>e = .returned (psV (psOf h.L K))/\Kept wr w'):=psOf_x h.L K wr HL.out (by omega) (HG.out.kept HKW.out);have HOk:Hid _:=psOf_ok h.L K;obtain ⟨ps,hps⟩:∃ p,p=psOf h.L K:=⟨_,rfl⟩;rw[<- hps] at FO HOk;clear hps hz;replace hK:Hid _:=hK;unfold psV at FO;obtain ⟨q1,q2,q3,q4,q5,q6,q7,q8⟩:=HOk.out;go_wp2_with fail;refine FO.out.mono ?_;rintro e w3 ⟨rfl,hk3⟩;have K3:Hid (Kept wb w3):=HKW.out.trans hk3;have K4:Hid (Kept wb (w3.alloc (Obj.cells #[.int .i64 (ps.cf:Int),.int .i64 (ps.cs:Int),.int .i64 (ps.cb:Int),.int .i64 (ps.rf:Int),.int .i64 (ps.rs:Int),.int .i64 (ps.rb:Int)] 129))):=K3.out.trans (Below.alloc (Below.refl _ _) (Nat.le_refl _) _);have C4:Hid (∀ W,Kept (w3.alloc (Obj.cells #[.int .i64 (ps.cf:Int),.int .i64 (ps.cs:Int),.int .i64 (ps.cb:Int),.int .i64 (ps.rf:Int),.int .i64 (ps.rs:Int),.int .i64 (ps.rb:Int)] 129)) W->(W.cell? ⟨w3.heap.size,0,none⟩=some (.int .i64 (ps.cf:Int))/\W.cell? ⟨w3.heap.size,1,none⟩=some (.int .i64 (ps.cs:Int))/\W.cell? ⟨w3.heap.size,2,none⟩=some (.int .i64 (ps.cb:Int))/\W.cell? ⟨w3.heap.size,3,none⟩=some (.int .i64 (ps.rf:Int))/\W.cell? ⟨w3.heap.size,4,none⟩=some (.int .i64 (ps.rs:Int))/\W.cell? ⟨w3.heap.size,5,none⟩=some (.int .i64 (ps.rb:Int)))):=fun W k=>by
    refine ⟨?_,?_,?_,?_,?_,?_⟩
    ·exact (k.cell (p:=⟨w3.heap.size,0,none⟩) (by simp)).trans ((World.cell?_alloc_at _ _ _ _ rfl).trans rfl)
    ·exact (k.cell (p:=⟨w3.heap.size,1,none⟩) (by simp)).trans ((World.cell?_alloc_at _ _ _ _ rfl).trans rfl)
    ·exact (k.cell (p:=⟨w3.heap.size,2,none⟩) (by simp)).trans ((World.cell?_alloc_at _ _ _ _ rfl).trans rfl)
    ·exact (k.cell (p:=⟨w3.heap.size,3,none⟩) (by simp)).trans ((World.cell?_alloc_at _ _ _ _ rfl).trans rfl)
    ·exact (k.cell (p:=⟨w3.heap.size,4,none⟩) (by simp)).trans ((World.cell?_alloc_at _ _ _ _ rfl).trans rfl)
    ·exact (k.cell (p:=⟨w3.heap.size,5,none⟩) (by simp)).trans ((World.cell?_alloc_at _ _ _ _ rfl).trans rfl)
   clear hk3 FO d0 d1 d2 d3 d4;go_upto_region 5 with fail
   generalize w3.alloc (Obj.cells #[.int .i64 (ps.cf:Int),.int .i64 (ps.cs:Int),.int .i64 (ps.cb:Int),.int .i64 (ps.rf:Int),.int .i64 (ps.rs:Int),.int .i64 (ps.rb:Int)] 129)=w4 at *;generalize w3.heap.size=G at *;obtain ⟨m0,m1,m2,m3,m4,m5⟩:=C4.out w4 (Kept.refl _);have FOx:Hid (∀ W,Calls Tryz.prog 127 #[.agg #[.int .i64 (ps.cf:Int),.int .i64 (ps.cs:Int),.int .i64 (ps.cb:Int)],.int .i64 (x:Int)] W fun e w'=>OrgEx e/\Kept W w'):=fun W=>origin_s _ _ _ _ W (by omega) q2 q3 hx
   have FOy:Hid (∀ W,Calls Tryz.prog 127 #[.agg #[.int .i64 (ps.rf:Int),.int .i64 (ps.rs:Int),.int .i64 (ps.rb:Int)],.int .i64 (y:Int)] W fun e w'=>OrgEx e/\Kept W w'):=fun W=>origin_s _ _ _ _ W (by omega) q6 q7 hy
   go_wp2_with fail;refine (FOx.out _).mono ?_;rintro e w5 ⟨⟨mx,Bx,rfl,hmx⟩,hk5⟩;have K5:Hid (Kept wb w5):=K4.out.trans hk5;obtain ⟨m0',m1',m2',m3',m4',m5'⟩:=C4.out w5 hk5;clear m0 m1 m2 m3 m4 m5 hk5;go_wp2_with fail;refine (FOy.out _).mono ?_;rintro e w6 ⟨⟨my,By,rfl,hmy⟩,hk6⟩;have K6:Hid (Kept wb w6):=K5.out.trans hk6;clear m0' m1' m2' m3' m4' m5' hk6 FOx FOy;have FK:Hid (Calls Tryz.prog 89 #[.pointer (some ⟨b,o1,none⟩),.int .i64 (mx:Int),.int .i64 (my:Int)] w6 fun e w'=>e = .returned (.bool (r.known (my*16+mx)))/\Kept w6 w'):=(rknown_x b o1 n mx my c r w6 (HB.out.kept K6.out) HP.out.V HP.out.n1 hmx hmy).mono (fun e w' ⟨q1,q,q2⟩=>⟨q1,by rw[q2];exact (Kept.refl _).drewN _⟩);cases Bx with
   | false=>
    go_wp2_with fail;go_roundg K
    case measure=>rw[hK.out];omega
    case rel=>exact ⟨by have:=hK.out;omega,by go_num,K6.out⟩
   | true=>
    cases By with
    | false=>
     go_wp2_with fail;go_roundg K
     case measure=>rw[hK.out];omega
     case rel=>exact ⟨by have:=hK.out;omega,by go_num,K6.out⟩
    | true=>
     go_wp2_with fail;refine FK.out.mono ?_;rintro e w7 ⟨rfl,hk7⟩;have K7:Hid (Kept wb w7):=K6.out.trans hk7;clear hk7 FK;cases hkn:r.known (my*16+mx) with
     | false=>
      go_wp2_with fail;go_roundg K
      case measure=>rw[hK.out];omega
      case rel=>exact ⟨by have:=hK.out;omega,by go_num,K7.out⟩
     | true=>
      obtain ⟨d0,d1,d2,d3,d4⟩:=HH.out w7 K7.out;have FP:Hid (Calls Tryz.prog 91 #[.agg #[.int .i64 (h.W:Int),.int .i64 (h.H:Int),.int .i64 (h.D:Int),.int .i64 (h.K:Int),.int .i64 (h.L:Int)],.pointer (some ⟨b,o1,none⟩),.pointer (some ⟨b,o2,none⟩),.int .i64 (mx:Int),.int .i64 (my:Int)] w7 fun e w'=>∃ a0 a1 a2 a3:Int,e = .returned (.agg #[.int .i64 a0,.int .i64 a1,.int .i64 a2,.int .i64 a3])/\Kept w7 w'):=pixel_s b o1 o2 n mx my c r t h w7 (HB.out.kept K7.out) HP.out hmx hmy;clear hkn;go_wp2_with fail;refine FP.out.mono ?_;rintro e w8 ⟨a0,a1,a2,a3,rfl,hk8⟩;have K8:Hid (Kept wb w8):=K7.out.trans hk8;have R8:Hid (FourAt w8 (w.heap.size+1) (fun _=>0)):=R4.out.kept K8.out;obtain ⟨r0,r1,r2,r3⟩:=R8.out;have zr:∀ j,w8.frozen? ⟨w.heap.size+1,j,none⟩=false:=fun j=>(K8.out.frozen (p:=⟨w.heap.size+1,j,none⟩) hs1).trans (Z4.out j)
      go_wp2_with fail;exact bodyPost_ret (results_cell1 rfl _ _ _ _ _ rfl (load4 (R8.out.put a0 a1 a2 a3))) rfl ⟨a0,a1,a2,a3,rfl,((((K0.out.trans K8.out).setCell (Nat.le_add_right _ _) _).setCell (Nat.le_add_right _ _) _).setCell (Nat.le_add_right _ _) _).setCell (Nat.le_add_right _ _) _⟩
theorem show_s (b o1 o2 n:Nat) (c:Nat->Value) (r:Rw) (t:Tl) (h:Hd) (w:World) (hB:Blk w b n c) (hp:PicOk c o1 o2 n r t h) (hG:GrdAt w) :
  Calls Tryz.prog 62 #[hdV h,.pointer (some ⟨b,o1,none⟩),.pointer (some ⟨b,o2,none⟩)] w fun e w'=>∃ g N,e = .returned (.slice (some ⟨g,0,none⟩) N N)/\Kept w w':=by
 have FJ:Hid (∀ W,Calls Tryz.prog 88 #[hdV h] W fun e w'=>e = .returned (.int .i64 ((h.W*h.H:Nat):Int))/\Kept W w'):=fun W=>psize_x h W hp.W1 hp.W2 hp.H1 hp.H2
 obtain ⟨T,hT⟩:∃ T,T=h.W*h.H:=⟨_,rfl⟩;rw[<- hT] at FJ;have hT6:T<=256:=by rw[hT];exact Nat.mul_le_mul hp.W2 hp.H2
 have HT:Hid (T=h.W*h.H):=hT;obtain ⟨T4,hT4⟩:∃ T4,T4=4*T:=⟨_,rfl⟩;have eT4:4*(T:Int)=(T4:Int):=by omega
 have HT4:Hid (T4=4*T):=hT4;have hT4b:T4<=1024:=by omega
 have HP:Hid (PicOk c o1 o2 n r t h):=hp;have HB:Hid (Blk w b n c):=hB;have hbw:=hB.lt;have HG:Hid (GrdAt w):=hG;have w1p:=hp.W1;have w2p:=hp.W2;have h2p:=hp.H2;clear hT hT4 hB hp;have K0:Hid (Kept w (w.alloc (Obj.cells #[.int .i64 (h.W:Int),.int .i64 (h.H:Int),.int .i64 (h.D:Int),.int .i64 (h.K:Int),.int .i64 (h.L:Int)] 66))):=Below.alloc (Below.refl _ _) (Nat.le_refl _) _;have C0:Hid (∀ W,W=w.alloc (Obj.cells #[.int .i64 (h.W:Int),.int .i64 (h.H:Int),.int .i64 (h.D:Int),.int .i64 (h.K:Int),.int .i64 (h.L:Int)] 66)->(W.cell? ⟨w.heap.size,0,none⟩=some (.int .i64 (h.W:Int))/\W.cell? ⟨w.heap.size,1,none⟩=some (.int .i64 (h.H:Int))/\W.cell? ⟨w.heap.size,2,none⟩=some (.int .i64 (h.D:Int))/\W.cell? ⟨w.heap.size,3,none⟩=some (.int .i64 (h.K:Int))/\W.cell? ⟨w.heap.size,4,none⟩=some (.int .i64 (h.L:Int)))):=fun W e=>by
  rw[e];refine ⟨?_,?_,?_,?_,?_⟩<;>exact (World.cell?_alloc_at _ _ _ _ rfl).trans rfl
 unfold hdV at *;go_enter Tryz.func62,Tryz.ntmps62;go_wp2_with fail;generalize hw0:w.alloc (Obj.cells #[.int .i64 (h.W:Int),.int .i64 (h.H:Int),.int .i64 (h.D:Int),.int .i64 (h.K:Int),.int .i64 (h.L:Int)] 66)=w0 at *;obtain ⟨z0,z1,z2,z3,z4⟩:=C0.out w0 rfl;have hs0:w.heap.size<w0.heap.size:=World.block_lt_of_cell? w0 ⟨w.heap.size,0,none⟩ z0;have HH:Hid (∀ W,Kept w0 W->(W.cell? ⟨w.heap.size,0,none⟩=some (.int .i64 (h.W:Int))/\W.cell? ⟨w.heap.size,1,none⟩=some (.int .i64 (h.H:Int))/\W.cell? ⟨w.heap.size,2,none⟩=some (.int .i64 (h.D:Int))/\W.cell? ⟨w.heap.size,3,none⟩=some (.int .i64 (h.K:Int))/\W.cell? ⟨w.heap.size,4,none⟩=some (.int .i64 (h.L:Int)))):=fun W k=>⟨(k.cell (p:=⟨w.heap.size,0,none⟩) hs0).trans z0,(k.cell (p:=⟨w.heap.size,1,none⟩) hs0).trans z1,(k.cell (p:=⟨w.heap.size,2,none⟩) hs0).trans z2,(k.cell (p:=⟨w.heap.size,3,none⟩) hs0).trans z3,(k.cell (p:=⟨w.heap.size,4,none⟩) hs0).trans z4⟩
 clear C0 z0 z1 z2 z3 z4 hw0;refine (FJ.out _).mono ?_;rintro e w1 ⟨rfl,hk1⟩;have hmk:=make_ints w1 T4 (by omega);have K1:Hid (Kept w0 w1):=hk1;have hws:w.heap.size<w1.heap.size:=Nat.lt_of_lt_of_le hs0 hk1.size;have K2:Hid (Kept w1 (w1.alloc (.cells (madeCells #[Value.int .i64 0] T4) 3))):=Below.alloc (Below.refl _ _) (Nat.le_refl _) _;have I2:Hid (IntsAt (w1.alloc (.cells (madeCells #[Value.int .i64 0] T4) 3)) w1.heap.size T4):=⟨fun j hj=>⟨0,(World.cell?_alloc_at _ _ _ _ rfl).trans (made_ints T4 j hj)⟩,fun j=>World.frozen?_alloc_at _ _ _ _ rfl⟩;have hsz:w1.heap.size<(w1.alloc (.cells (madeCells #[Value.int .i64 0] T4) 3)).heap.size:=by simp
 clear hk1;go_wp2_with fail;generalize w1.alloc (.cells (madeCells #[Value.int .i64 0] T4) 3)=w2 at *;clear hmk;obtain ⟨g,hg⟩:∃ g,g=w1.heap.size:=⟨_,rfl⟩;rw[<- hg] at I2 hws hsz ⊢;replace hg:Hid _:=hg;have K02:Hid (Kept w0 w2):=K1.out.trans (by rw[hg.out] at *;exact K2.out);have hgw:w.heap.size<g:=hws;clear K1 K2;go_loopg [8] T (fun m v W=>∃ k:Nat,m=T - k/\k<=T/\v = .int .i64 (k:Int)/\Fr1 g w2 W/\IntsAt W g T4)
 case atStart=>exact ⟨0,by omega,by omega,rfl,Fr.refl _ _,I2.out⟩
 case round=>
  obtain ⟨k,hgk,hkT,rfl,hfr,hin⟩:=hrel;replace hgk:Hid _:=hgk;have HF:Hid (Fr1 g w2 wr):=hfr;have HI:Hid (IntsAt wr g T4):=hin;have KR:Hid (∀ i,i<g->i<w2.heap.size->wr.heap[i]? = w2.heap[i]?):=fun i h1 h2=>hfr.block i h2 (by omega)
  have hcr:∀ j,wr.cell? ⟨w.heap.size,j,none⟩=w2.cell? ⟨w.heap.size,j,none⟩:=fun j=>hfr.cell (Nat.lt_trans hgw hsz) (by omega)
  obtain ⟨x0,x1,x2,x3,x4⟩:=HH.out w2 K02.out;have c0:=(hcr 0).trans x0;have c1:=(hcr 1).trans x1;have c2:=(hcr 2).trans x2;have c3:=(hcr 3).trans x3;have c4:=(hcr 4).trans x4;have hgr:g<wr.heap.size:=Nat.lt_of_lt_of_le hsz hfr.size;have hsr:w.heap.size<wr.heap.size:=Nat.lt_trans hgw hgr;have BR:Hid (Blk wr b n c):=(HB.out.kept (K0.out.trans K02.out)).fr hfr (by omega);have GR:Hid (GrdAt wr):=(HG.out.kept (K0.out.trans K02.out)).fr hfr (by have:=World.block_lt_of_cell? _ _ (HG.out 0 (by omega));show ¬ (_=g);omega);clear hfr hin x0 x1 x2 x3 x4 hcr;have g1:(0:Int)<(h.W:Int):=by omega
  have g0:¬ ((h.W:Int)=0):=by omega
  have g0':((h.W:Int) == 0)=false:=by rw[beq_eq_false_iff_ne];omega
  have g0'':¬ (h.W=0):=by omega
  go_wp2_with fail;refine (FJ.out _).mono ?_;rintro e w3 ⟨rfl,hk3⟩;have K3:Hid (Kept wr w3):=hk3;have d0:=(hk3.cell (p:=⟨w.heap.size,0,none⟩) hsr).trans c0;have d1:=(hk3.cell (p:=⟨w.heap.size,1,none⟩) hsr).trans c1;have d2:=(hk3.cell (p:=⟨w.heap.size,2,none⟩) hsr).trans c2;have d3:=(hk3.cell (p:=⟨w.heap.size,3,none⟩) hsr).trans c3;have d4:=(hk3.cell (p:=⟨w.heap.size,4,none⟩) hsr).trans c4;have hs3:w.heap.size<w3.heap.size:=Nat.lt_of_lt_of_le hsr hk3.size;have hg3:g<w3.heap.size:=Nat.lt_of_lt_of_le hgr hk3.size;clear hk3 c0 c1 c2 c3 c4;by_cases hlt:k<T
  ·have hlt':(k:Int)<(T:Int):=by omega
   obtain ⟨X,hX⟩:∃ X,X=k % h.W:=⟨_,rfl⟩;obtain ⟨Y,hY⟩:∃ Y,Y=k / h.W:=⟨_,rfl⟩;have eX:(k:Int) % (h.W:Int)=(X:Int):=by rw[hX];exact (Int.natCast_emod _ _).symm
   have eY:(k:Int) / (h.W:Int)=(Y:Int):=by rw[hY];exact (Int.natCast_ediv _ _).symm
   have hX16:X<16:=by rw[hX];exact Nat.lt_of_lt_of_le (Nat.mod_lt _ (by omega)) w2p
   have hY16:Y<16:=by
    rw[hY];exact Nat.lt_of_lt_of_le (Nat.div_lt_of_lt_mul (by rw[<- HT.out];exact hlt)) h2p
   have tm:(k:Int).tmod (h.W:Int)=(X:Int):=by rw[Int.tmod_eq_emod_of_nonneg (by omega)];exact eX
   have td:(k:Int).tdiv (h.W:Int)=(Y:Int):=by rw[Int.tdiv_eq_ediv_of_nonneg (by omega)];exact eY
   have wX:IntKind.i64.wrap (X:Int)=(X:Int):=by rw[IntKind.wrap_i64];omega
   have wY:IntKind.i64.wrap (Y:Int)=(Y:Int):=by rw[IntKind.wrap_i64];omega
   replace hX:Hid _:=hX;replace hY:Hid _:=hY;have FP:Hid (∀ W,Kept w3 W->Calls Tryz.prog 92 #[.agg #[.int .i64 (h.W:Int),.int .i64 (h.H:Int),.int .i64 (h.D:Int),.int .i64 (h.K:Int),.int .i64 (h.L:Int)],.pointer (some ⟨b,o1,none⟩),.pointer (some ⟨b,o2,none⟩),.int .i64 (X:Int),.int .i64 (Y:Int)] W fun e w'=>∃ a0 a1 a2 a3:Int,e = .returned (.agg #[.int .i64 a0,.int .i64 a1,.int .i64 a2,.int .i64 a3])/\Kept W w'):=fun W kW=>shown_s b o1 o2 n X Y c r t h W (BR.out.kept (K3.out.trans kW)) HP.out hX16 hY16 (GR.out.kept (K3.out.trans kW))
   have FL:Hid (∀ (W:World) (a0 a1 a2 a3:Int),Kept w3 W->Calls Tryz.prog 90 #[.slice (some ⟨g,0,none⟩) T4 T4,.int .i64 (k:Int),.agg #[.int .i64 a0,.int .i64 a1,.int .i64 a2,.int .i64 a3]] W fun e w'=>e = .returned (.tuple #[])/\IntsAt w' g T4/\Fr1 g W w'):=fun W a0 a1 a2 a3 kW=>lay_s g T4 k a0 a1 a2 a3 W (HI.out.kept (K3.out.trans kW) hgr) (Nat.lt_of_lt_of_le hg3 kW.size) (by have:=HT4.out;omega) (by omega)
   have HS:Hid (∀ W,Kept w3 W->(W.cell? ⟨w.heap.size,0,none⟩=some (.int .i64 (h.W:Int))/\W.cell? ⟨w.heap.size,1,none⟩=some (.int .i64 (h.H:Int))/\W.cell? ⟨w.heap.size,2,none⟩=some (.int .i64 (h.D:Int))/\W.cell? ⟨w.heap.size,3,none⟩=some (.int .i64 (h.K:Int))/\W.cell? ⟨w.heap.size,4,none⟩=some (.int .i64 (h.L:Int)))):=fun W k=>⟨(k.cell (p:=⟨w.heap.size,0,none⟩) hs3).trans d0,(k.cell (p:=⟨w.heap.size,1,none⟩) hs3).trans d1,(k.cell (p:=⟨w.heap.size,2,none⟩) hs3).trans d2,(k.cell (p:=⟨w.heap.size,3,none⟩) hs3).trans d3,(k.cell (p:=⟨w.heap.size,4,none⟩) hs3).trans d4⟩
   have HS5:Hid (∀ V W,Kept w3 V->Fr1 g V W->(W.cell? ⟨w.heap.size,0,none⟩=some (.int .i64 (h.W:Int))/\W.cell? ⟨w.heap.size,1,none⟩=some (.int .i64 (h.H:Int))/\W.cell? ⟨w.heap.size,2,none⟩=some (.int .i64 (h.D:Int))/\W.cell? ⟨w.heap.size,3,none⟩=some (.int .i64 (h.K:Int))/\W.cell? ⟨w.heap.size,4,none⟩=some (.int .i64 (h.L:Int)))):=fun V W k f=>by
    obtain ⟨a0,a1,a2,a3,a4⟩:=HS.out V k;have e:∀ j,W.cell? ⟨w.heap.size,j,none⟩=V.cell? ⟨w.heap.size,j,none⟩:=fun j=>f.cell (Nat.lt_of_lt_of_le hs3 k.size) (by omega)
    exact ⟨(e 0).trans a0,(e 1).trans a1,(e 2).trans a2,(e 3).trans a3,(e 4).trans a4⟩
   go_wp2_with fail;go_region_held3 (fun W=>W.cell? ⟨w.heap.size,0,none⟩=some (.int .i64 (h.W:Int))/\W.cell? ⟨w.heap.size,1,none⟩=some (.int .i64 (h.H:Int))/\W.cell? ⟨w.heap.size,2,none⟩=some (.int .i64 (h.D:Int))/\W.cell? ⟨w.heap.size,3,none⟩=some (.int .i64 (h.K:Int))/\W.cell? ⟨w.heap.size,4,none⟩=some (.int .i64 (h.L:Int))) (first | exact HS.out _ ((Kept.refl _).drewN 1) | exact HS5.out _ _ hk5 hf6 | exact HS.out _ hk5 | go_keep) ((first | (go_at_call 92;refine (FP.out _ ((Kept.refl _).drewN 1)).mono ?_;rintro e w5 ⟨a0,a1,a2,a3,rfl,hk5'⟩;have hk5:Kept w3 w5:=((Kept.refl _).drewN 1).trans hk5') | (go_at_call 90;refine (FL.out _ _ _ _ _ hk5).mono ?_;rintro e w6 ⟨rfl,hi6,hf6⟩)))
   have I6:Hid (IntsAt w6 g T4):=hi6;have F6:Hid (Fr1 g w2 w6):=(HF.out.kept (K3.out.trans hk5)).trans hf6;clear hi6 hf6 hk5;go_wp2_with fail;go_roundg (T - (k+1))
   case measure=>rw[hgk.out];omega
   case rel=>exact ⟨k+1,rfl,by omega,by go_num,F6.out,I6.out⟩
  ·have hlt':¬ (k:Int)<(T:Int):=by omega
   go_wp2_with fail;go_ret;refine ⟨g,T4,rfl,?_⟩;exact Fr.to_kept (S:=fun j=>j=g) (K0.out.trans K02.out) (HF.out.kept K3.out) (fun i hi q=>by omega)
def hdS (W:World) (b o:Nat) (h:Hd):Prop:=W.cell? ⟨b,o,none⟩=some (.int .i64 (h.W:Int))/\W.cell? ⟨b,o+1,none⟩=some (.int .i64 (h.H:Int))/\W.cell? ⟨b,o+2,none⟩=some (.int .i64 (h.D:Int))/\W.cell? ⟨b,o+3,none⟩=some (.int .i64 (h.K:Int))/\W.cell? ⟨b,o+4,none⟩=some (.int .i64 (h.L:Int))
theorem hdS_of {W:World} {b o n:Nat} {c:Nat->Value} {h:Hd} (hB:Blk W b n c) (hV:HdV c o h) (hn:o+5<=n):hdS W b o h:=⟨hB.at (by omega) hV.W,hB.at (by omega) hV.H,hB.at (by omega) hV.D,hB.at (by omega) hV.K,hB.at (by omega) hV.L⟩
def KnEx (w:World) (r:Rw) (h:Hd) (e:Ending) (w':World):Prop:=∃ g,e = .returned (.slice (some ⟨g,0,none⟩) (h.W*h.H) (h.W*h.H))/\w.heap.size<=g/\g<w'.heap.size/\(∀ j,j<h.W*h.H->w'.cell? ⟨g,j,none⟩=some (.int .i64 (if r.known (j / h.W*16+j % h.W) then 1 else 0)))
def SlEx (e:Ending):Prop:=∃ g N,e = .returned (.slice (some ⟨g,0,none⟩) N N)
theorem rdKnown_x (b o n:Nat) (c:Nat->Value) (s:Rd) (w:World) (hB:Blk w b n c) (hV:RdV c o s) (hn:o+5954<=n) (hW:1<=s.hd.W) (hW2:s.hd.W<=16) (hH:1<=s.hd.H) (hH2:s.hd.H<=16) :
  Calls Tryz.prog 31 #[.pointer (some ⟨b,o,none⟩)] w fun e w'=>KnEx w s.rw s.hd e w'/\Kept w w':=by
 have HS:Hid (∀ W,Kept w W->hdS W b (o+6) s.hd):=fun W k=>hdS_of (hB.kept k) hV.hd (by omega)
 have F:Hid (∀ W,Kept w W->Calls Tryz.prog 60 #[.agg #[.int .i64 (s.hd.W:Int),.int .i64 (s.hd.H:Int),.int .i64 (s.hd.D:Int),.int .i64 (s.hd.K:Int),.int .i64 (s.hd.L:Int)],.pointer (some ⟨b,o+4401,none⟩)] W fun e w'=>∃ g,e = .returned (.slice (some ⟨g,0,none⟩) (s.hd.W*s.hd.H) (s.hd.W*s.hd.H))/\W.heap.size<=g/\(∀ j,j<s.hd.W*s.hd.H->w'.cell? ⟨g,j,none⟩=some (.int .i64 (if s.rw.known (j / s.hd.W*16+j % s.hd.W) then 1 else 0)))/\Kept W w'):=fun W k=>pknown_x b (o+4401) n c s.rw s.hd W (hB.kept k) hV.rw (by omega) hW hW2 hH hH2
 have hpos:0<s.hd.W*s.hd.H:=Nat.mul_pos hW hH;clear hB hV;unfold hdS at HS;go_enter Tryz.func31,Tryz.ntmps31;go_wp2_with fail;go_region_held3 (fun W=>W.cell? ⟨b,o+6,none⟩=some (.int .i64 (s.hd.W:Int))/\W.cell? ⟨b,o+6+1,none⟩=some (.int .i64 (s.hd.H:Int))/\W.cell? ⟨b,o+6+2,none⟩=some (.int .i64 (s.hd.D:Int))/\W.cell? ⟨b,o+6+3,none⟩=some (.int .i64 (s.hd.K:Int))/\W.cell? ⟨b,o+6+4,none⟩=some (.int .i64 (s.hd.L:Int))) (first | exact HS.out _ ((Kept.refl _).drewN 1) | exact HS.out _ hk2 | go_keep) ((go_at_call 60;refine (F.out _ ((Kept.refl _).drewN 1)).mono ?_;rintro e w2 ⟨g,rfl,hg,hce,hk2'⟩;have hk2:Kept w w2:=((Kept.refl _).drewN 1).trans hk2'))
 replace hce:Hid _:=hce;replace hg:Hid _:=hg;go_wp2_with fail;go_ret;exact ⟨⟨g,rfl,hg.out,World.block_lt_of_cell? w2 ⟨g,0,none⟩ (hce.out 0 hpos),hce.out⟩,hk2⟩
theorem rdPix_s (b o n:Nat) (c:Nat->Value) (s:Rd) (w:World) (hB:Blk w b n c) (hV:RdV c o s) (hn:o+5954<=n) (hp:PicOk c (o+4401) (o+24) n s.rw s.tl s.hd) :
  Calls Tryz.prog 32 #[.pointer (some ⟨b,o,none⟩)] w fun e w'=>SlEx e/\Kept w w':=by
 have HS:Hid (∀ W,Kept w W->hdS W b (o+6) s.hd):=fun W k=>hdS_of (hB.kept k) hV.hd (by omega)
 have F:Hid (∀ W,Kept w W->Calls Tryz.prog 61 #[.agg #[.int .i64 (s.hd.W:Int),.int .i64 (s.hd.H:Int),.int .i64 (s.hd.D:Int),.int .i64 (s.hd.K:Int),.int .i64 (s.hd.L:Int)],.pointer (some ⟨b,o+4401,none⟩),.pointer (some ⟨b,o+24,none⟩)] W fun e w'=>∃ g N,e = .returned (.slice (some ⟨g,0,none⟩) N N)/\Kept W w'):=fun W k=>pix_s b (o+4401) (o+24) n c s.rw s.tl s.hd W (hB.kept k) hp
 clear hB hV hp;unfold hdS at HS;go_enter Tryz.func32,Tryz.ntmps32;go_wp2_with fail;go_region_held3 (fun W=>W.cell? ⟨b,o+6,none⟩=some (.int .i64 (s.hd.W:Int))/\W.cell? ⟨b,o+6+1,none⟩=some (.int .i64 (s.hd.H:Int))/\W.cell? ⟨b,o+6+2,none⟩=some (.int .i64 (s.hd.D:Int))/\W.cell? ⟨b,o+6+3,none⟩=some (.int .i64 (s.hd.K:Int))/\W.cell? ⟨b,o+6+4,none⟩=some (.int .i64 (s.hd.L:Int))) (first | exact HS.out _ ((Kept.refl _).drewN 1) | exact HS.out _ hk2 | go_keep) ((go_at_call 61;refine (F.out _ ((Kept.refl _).drewN 1)).mono ?_;rintro e w2 ⟨g,N,rfl,hk2'⟩;have hk2:Kept w w2:=((Kept.refl _).drewN 1).trans hk2'))
 go_wp2_with fail;go_ret;exact ⟨⟨g,N,rfl⟩,hk2⟩
theorem rdShow_s (b o n:Nat) (c:Nat->Value) (s:Rd) (w:World) (hB:Blk w b n c) (hV:RdV c o s) (hn:o+5954<=n) (hp:PicOk c (o+4401) (o+24) n s.rw s.tl s.hd) (hG:GrdAt w) :
  Calls Tryz.prog 33 #[.pointer (some ⟨b,o,none⟩)] w fun e w'=>SlEx e/\Kept w w':=by
 have HS:Hid (∀ W,Kept w W->hdS W b (o+6) s.hd):=fun W k=>hdS_of (hB.kept k) hV.hd (by omega)
 have F:Hid (∀ W,Kept w W->Calls Tryz.prog 62 #[.agg #[.int .i64 (s.hd.W:Int),.int .i64 (s.hd.H:Int),.int .i64 (s.hd.D:Int),.int .i64 (s.hd.K:Int),.int .i64 (s.hd.L:Int)],.pointer (some ⟨b,o+4401,none⟩),.pointer (some ⟨b,o+24,none⟩)] W fun e w'=>∃ g N,e = .returned (.slice (some ⟨g,0,none⟩) N N)/\Kept W w'):=fun W k=>show_s b (o+4401) (o+24) n c s.rw s.tl s.hd W (hB.kept k) hp (hG.kept k)
 clear hB hV hp hG;unfold hdS at HS;go_enter Tryz.func33,Tryz.ntmps33;go_wp2_with fail;go_region_held3 (fun W=>W.cell? ⟨b,o+6,none⟩=some (.int .i64 (s.hd.W:Int))/\W.cell? ⟨b,o+6+1,none⟩=some (.int .i64 (s.hd.H:Int))/\W.cell? ⟨b,o+6+2,none⟩=some (.int .i64 (s.hd.D:Int))/\W.cell? ⟨b,o+6+3,none⟩=some (.int .i64 (s.hd.K:Int))/\W.cell? ⟨b,o+6+4,none⟩=some (.int .i64 (s.hd.L:Int))) (first | exact HS.out _ ((Kept.refl _).drewN 1) | exact HS.out _ hk2 | go_keep) ((go_at_call 62;refine (F.out _ ((Kept.refl _).drewN 1)).mono ?_;rintro e w2 ⟨g,N,rfl,hk2'⟩;have hk2:Kept w w2:=((Kept.refl _).drewN 1).trans hk2'))
 go_wp2_with fail;go_ret;exact ⟨⟨g,N,rfl⟩,hk2⟩
theorem info5:(Tryz.prog.info? 66).map (·.size)=some 5:=by kernel_rfl
theorem rdEnded_x (b o n:Nat) (c:Nat->Value) (s:Rd) (w:World) (hB:Blk w b n c) (hV:RdV c o s) (hn:o+5954<=n) :
  Calls Tryz.prog 29 #[.pointer (some ⟨b,o,none⟩)] w fun e w'=>e = .returned (.bool (decide (s.part=5)))/\w'=w:=by
 have k0:=hB.at (i:=o) (by omega) hV.part;clear hB hV;go_enter Tryz.func29,Tryz.ntmps29;go_wp2;go_ret;exact ⟨ret_bool (by rw[Bool.eq_iff_iff,beq_iff_eq,decide_eq_true_iff];omega),rfl⟩
theorem rdHead_x (b o n:Nat) (c:Nat->Value) (s:Rd) (w:World) (hB:Blk w b n c) (hV:RdV c o s) (hn:o+5954<=n) :
  Calls Tryz.prog 30 #[.pointer (some ⟨b,o,none⟩)] w fun e w'=>e = .returned (.agg #[.int .i64 (s.hd.W:Int),.int .i64 (s.hd.H:Int),.int .i64 (s.hd.D:Int),.int .i64 (s.hd.K:Int),.int .i64 (s.hd.L:Int)])/\Kept w w':=by
 have hbw:=hB.lt;have K0:Hid (Kept w (w.alloc (Obj.cells #[.int .i64 0,.int .i64 0,.int .i64 0,.int .i64 0,.int .i64 0] 66))):=Below.alloc (Below.refl _ _) (Nat.le_refl _) _;obtain ⟨h0,h1,h2,h3,h4⟩:=hdS_of (hB.kept K0.out) hV.hd (by omega);clear hB hV;go_enter Tryz.func30,Tryz.ntmps30;go_wp2;refine bodyPost_ret (v := .agg #[.int .i64 (s.hd.W:Int),.int .i64 (s.hd.H:Int),.int .i64 (s.hd.D:Int),.int .i64 (s.hd.K:Int),.int .i64 (s.hd.L:Int)]) (results_cell1 rfl _ _ w.heap.size 0 _ rfl ?_) rfl ?_
 ·refine run_loadVar_row _ _ 66 66 _ (0,0) _ ?_ Tryz.underlying66 rfl info5
  exact heap_alloc_new _ _
 ·exact ⟨rfl,Below.alloc (Below.refl _ _) (Nat.le_refl _) _⟩
def snZ:Array Value:=#[.int .i64 0,.int .i64 0,.bool false,.int .i64 0,.int .i64 0,.int .i64 0,.int .i64 0,.int .i64 0,.slice none 0 0,.slice none 0 0,.slice none 0 0]
theorem info11:(Tryz.prog.info? 50).map (·.size)=some 11:=by kernel_rfl
def SnW (w1:World) (g:Nat) (W:World):Prop:=∃ cc,Blk W g 11 cc/\(∀ i,i<11->(cc i).oneCell'=true)/\Kept w1 W
theorem SnW.kept {w1 W:World} {g:Nat} (h:SnW w1 g W):Kept w1 W:=by
 obtain ⟨_,_,_,k⟩:=h;exact k
theorem SnW.on {w1 W W':World} {g:Nat} (h:SnW w1 g W) (k:Kept W W'):SnW w1 g W':=by
 obtain ⟨cc,h1,h2,h3⟩:=h;exact ⟨cc,h1.kept k,h2,h3.trans k⟩
theorem SnW.set {w1 W:World} {g k:Nat} (h:SnW w1 g W) (hg:w1.heap.size<=g) (hk:k<11) (v:Value) (hv:v.oneCell'=true):SnW w1 g (W.setCell ⟨g,k,none⟩ v):=by
 obtain ⟨cc,h1,h2,h3⟩:=h;refine ⟨_,h1.set hk v,fun i hi => ?_,h3.setCell hg v⟩;by_cases e:i=k
 ·subst e;rw[upd_same];exact hv
 ·rw[upd_ne _ _ _ e];exact h2 i hi
theorem snap_x (b n:Nat) (c:Nat->Value) (d:Dc) (w:World) (hB:Blk w b n c) (hV:DcV c 0 d) (hn:5957<=n) (hp:PicOk c 4401 24 n d.file.rw d.file.tl d.file.hd) (hG:GrdAt w) :
  Calls Tryz.prog 17 #[.pointer (some ⟨b,0,none⟩)] w fun e w'=>∃ cs:List Value,e = .returned (.agg cs.toArray)/\cs.length=11/\(∀ v ∈ cs,v.oneCell'=true)/\(∃ g,cs[8]? = some (.slice (some ⟨g,0,none⟩) (d.file.hd.W*d.file.hd.H) (d.file.hd.W*d.file.hd.H))/\w.heap.size<=g/\g<w'.heap.size/\(∀ j,j<d.file.hd.W*d.file.hd.H->w'.cell? ⟨g,j,none⟩=some (.int .i64 (if d.file.rw.known (j / d.file.hd.W*16+j % d.file.hd.W) then 1 else 0))))/\Kept w w':=by
 have hbw:=hB.lt;have ke:=hB.at (i:=5955) (by omega) hV.err;have ka:=hB.at (i:=5956) (by omega) hV.at1;have HB:Hid (Blk w b n c):=hB;have HV:Hid (DcV c 0 d):=hV;have HP:Hid (PicOk c 4401 24 n d.file.rw d.file.tl d.file.hd):=hp;have HG:Hid (GrdAt w):=hG;have K0:Hid (Kept w (w.alloc (Obj.cells snZ 50))):=Below.alloc (Below.refl _ _) (Nat.le_refl _) _;have B0:Hid (Blk (w.alloc (Obj.cells snZ 50)) w.heap.size 11 (fun i=>snZ.getD i undef)):=Blk.new w snZ _ 11 rfl;clear hB hV hp hG;unfold snZ at K0 B0;go_enter Tryz.func17,Tryz.ntmps17;go_upto_region 3 with fail
 generalize w.alloc (Obj.cells #[.int .i64 0,.int .i64 0,.bool false,.int .i64 0,.int .i64 0,.int .i64 0,.int .i64 0,.int .i64 0,.slice none 0 0,.slice none 0 0,.slice none 0 0] 50)=w1 at *;have ke1:=(K0.out.cell (p:=⟨b,5955,none⟩) hbw).trans ke;have ka1:=(K0.out.cell (p:=⟨b,5956,none⟩) hbw).trans ka;have hb1:b<w1.heap.size:=Nat.lt_of_lt_of_le hbw K0.out.size;replace ke1:w1.cell? ⟨b,5955,none⟩=some (.int .i64 (d.err:Int)):=ke1;replace ka1:w1.cell? ⟨b,5956,none⟩=some (.int .i64 (d.at1:Int)):=ka1;clear ke ka;have HC1:Hid (∀ W,Kept w1 W->(W.cell? ⟨b,5955,none⟩=some (.int .i64 (d.err:Int))/\W.cell? ⟨b,5956,none⟩=some (.int .i64 (d.at1:Int)))):=fun W k=>⟨(k.cell (p:=⟨b,5955,none⟩) hb1).trans ke1,(k.cell (p:=⟨b,5956,none⟩) hb1).trans ka1⟩
 go_region_held3 (fun W=>W.cell? ⟨b,5955,none⟩=some (.int .i64 (d.err:Int))/\W.cell? ⟨b,5956,none⟩=some (.int .i64 (d.at1:Int))) (first | exact ⟨ke1,ka1⟩ | exact HC1.out _ (Below.alloc ((Kept.refl _).drewN 1) (by simp) _) | go_keep) (fail)
 have K2:Hid (Kept w1 (w1.alloc (Obj.cells #[.int .i64 (d.err:Int),.int .i64 (d.at1:Int),.bool false,.int .i64 0,.int .i64 0,.int .i64 0,.int .i64 0,.int .i64 0,.slice none 0 0,.slice none 0 0,.slice none 0 0] 50)).drew):=Kept.drewN (Below.alloc (Below.refl _ _) (Nat.le_refl _) _) 1;have B2:Hid (Blk (w1.alloc (Obj.cells #[.int .i64 (d.err:Int),.int .i64 (d.at1:Int),.bool false,.int .i64 0,.int .i64 0,.int .i64 0,.int .i64 0,.int .i64 0,.slice none 0 0,.slice none 0 0,.slice none 0 0] 50)).drew w1.heap.size 11 (fun i=>(#[.int .i64 (d.err:Int),.int .i64 (d.at1:Int),.bool false,.int .i64 0,.int .i64 0,.int .i64 0,.int .i64 0,.int .i64 0,.slice none 0 0,.slice none 0 0,.slice none 0 0]:Array Value).getD i undef)):=(Blk.new w1 _ _ 11 rfl).kept ((Kept.refl _).drewN 1);have O2:Hid (∀ i,i<11->((#[.int .i64 (d.err:Int),.int .i64 (d.at1:Int),.bool false,.int .i64 0,.int .i64 0,.int .i64 0,.int .i64 0,.int .i64 0,.slice none 0 0,.slice none 0 0,.slice none 0 0]:Array Value).getD i undef).oneCell'=true):=fun i hi=>by
  match i,hi with
  | 0,_=>rfl
  | 1,_=>rfl
  | 2,_=>rfl
  | 3,_=>rfl
  | 4,_=>rfl
  | 5,_=>rfl
  | 6,_=>rfl
  | 7,_=>rfl
  | 8,_=>rfl
  | 9,_=>rfl
  | 10,_=>rfl
 have S2:Hid (SnW w1 w1.heap.size (w1.alloc (Obj.cells #[.int .i64 (d.err:Int),.int .i64 (d.at1:Int),.bool false,.int .i64 0,.int .i64 0,.int .i64 0,.int .i64 0,.int .i64 0,.slice none 0 0,.slice none 0 0,.slice none 0 0] 50)).drew):=⟨_,B2.out,O2.out,K2.out⟩;clear K2 B2 O2 HC1 ke1 ka1;generalize (w1.alloc (Obj.cells #[.int .i64 (d.err:Int),.int .i64 (d.at1:Int),.bool false,.int .i64 0,.int .i64 0,.int .i64 0,.int .i64 0,.int .i64 0,.slice none 0 0,.slice none 0 0,.slice none 0 0] 50)).drew=w2 at *;obtain ⟨g3,hg3⟩:∃ g,g=w1.heap.size:=⟨_,rfl⟩;rw[<- hg3] at S2 ⊢;replace hg3:Hid _:=hg3;have BW:Hid (∀ W,Kept w1 W->Blk W b n c):=fun W k=>(HB.out.kept K0.out).kept k
 have GW:Hid (∀ W,Kept w1 W->GrdAt W):=fun W k=>(HG.out.kept K0.out).kept k
 go_upto_region 4 with fail
 go_cut [] from 17 (fun W=>SnW w1 g3 W)
 case first=>
  obtain ⟨cc,hB2,hO2,hK2⟩:=S2.out;have ke:=(BW.out w2 hK2).at (i:=5955) (by omega) HV.out.err;replace ke:w2.cell? ⟨b,5955,none⟩=some (.int .i64 (d.err:Int)):=ke;obtain ⟨OV,k2⟩:∃ OV,w2.cell? ⟨g3,2,none⟩=some OV:=⟨_,hB2.cell 2 (by omega)⟩;have z2:=hB2.fz 2;have HB2:Hid (Blk w2 g3 11 cc):=hB2;have HO2:Hid (∀ i,i<11->(cc i).oneCell'=true):=hO2;have HK2:Hid (Kept w1 w2):=hK2;have FE:Hid (Calls Tryz.prog 29 #[.pointer (some ⟨b,0,none⟩)] w2 fun e w'=>e = .returned (.bool (decide (d.file.part=5)))/\w'=w2):=rdEnded_x b 0 n c d.file w2 (BW.out w2 hK2) HV.out.file (by omega);clear hB2 hO2 hK2;generalize decide (d.file.part=5)=EE at *;by_cases he:d.err=0
  ·have he':((d.err:Int) == 0)=true:=by rw[beq_iff_eq];omega
   replace he:Hid _:=he;go_wp2_with fail;refine FE.out.mono ?_;rintro e w3 ⟨rfl,hw3⟩;subst w3;go_wp2_with fail
   all_goals
    go_meet
    case rel=>exact SnW.set ⟨cc,HB2.out,HO2.out,HK2.out⟩ (by rw[hg3.out];exact Nat.le_refl _) (by omega) _ rfl
  ·have he':((d.err:Int) == 0)=false:=by rw[beq_eq_false_iff_ne];omega
   go_wp2_with fail;go_meet
   case rel=>exact SnW.set ⟨cc,HB2.out,HO2.out,HK2.out⟩ (by rw[hg3.out];exact Nat.le_refl _) (by omega) _ rfl
 case rest=>
  have S3:Hid (SnW w1 g3 wc):=hcut;clear hcut S2;have K3:Hid (Kept w1 wc):=S3.out.kept;go_wp2_with fail;refine (rdHead_x b 0 n c d.file wc (BW.out wc K3.out) HV.out.file (by omega)).mono ?_;rintro e w4 ⟨rfl,hk4⟩;have S5:Hid (SnW w1 g3 (w4.alloc (Obj.cells #[.int .i64 (d.file.hd.W:Int),.int .i64 (d.file.hd.H:Int),.int .i64 (d.file.hd.D:Int),.int .i64 (d.file.hd.K:Int),.int .i64 (d.file.hd.L:Int)] 66))):=(S3.out.on hk4).on (Below.alloc (Below.refl _ _) (Nat.le_refl _) _);have C5:Hid (∀ j v,(#[Value.int .i64 (d.file.hd.W:Int),.int .i64 (d.file.hd.H:Int),.int .i64 (d.file.hd.D:Int),.int .i64 (d.file.hd.K:Int),.int .i64 (d.file.hd.L:Int)]:Array Value)[j]? = some v->(w4.alloc (Obj.cells #[.int .i64 (d.file.hd.W:Int),.int .i64 (d.file.hd.H:Int),.int .i64 (d.file.hd.D:Int),.int .i64 (d.file.hd.K:Int),.int .i64 (d.file.hd.L:Int)] 66)).cell? ⟨w4.heap.size,j,none⟩=some v):=fun j v hv=>(World.cell?_alloc_at _ _ _ _ rfl).trans hv
  have hg34:g3<w4.heap.size:=by
   obtain ⟨cc,h1,_,_⟩:=S3.out;exact Nat.lt_of_lt_of_le h1.lt hk4.size
  have hW0:((d.file.hd.W:Int) == 0)=false:=by have:=HP.out.W1;rw[beq_eq_false_iff_ne];omega
  clear hk4 S3 K3;go_upto_region 6 with fail
  generalize w4.alloc (Obj.cells #[.int .i64 (d.file.hd.W:Int),.int .i64 (d.file.hd.H:Int),.int .i64 (d.file.hd.D:Int),.int .i64 (d.file.hd.K:Int),.int .i64 (d.file.hd.L:Int)] 66)=w5 at *;obtain ⟨g4,hg4⟩:∃ g,g=w4.heap.size:=⟨_,rfl⟩;rw[<- hg4] at C5 hg34 ⊢;clear hg4;have x0:=C5.out 0 _ rfl;have x1:=C5.out 1 _ rfl;have x2:=C5.out 2 _ rfl;have x3:=C5.out 3 _ rfl;have x4:=C5.out 4 _ rfl;have hne:g4≠g3:=by omega
  have hne':g3≠g4:=by omega
  have YY:Hid (∀ j,j<11->(∃ OV,w5.cell? ⟨g3,j,none⟩=some OV)):=by
   obtain ⟨cc,h1,_,_⟩:=S5.out;exact fun j hj=>⟨_,h1.cell j hj⟩
  have zz:∀ j,w5.frozen? ⟨g3,j,none⟩=false:=by
   obtain ⟨cc,h1,_,_⟩:=S5.out;exact h1.fz
  obtain ⟨V3,y3⟩:=YY.out 3 (by omega);obtain ⟨V4,y4⟩:=YY.out 4 (by omega);obtain ⟨V5,y5⟩:=YY.out 5 (by omega);obtain ⟨V6,y6⟩:=YY.out 6 (by omega);obtain ⟨V7,y7⟩:=YY.out 7 (by omega);have hgle:w1.heap.size<=g3:=by rw[hg3.out];exact Nat.le_refl _
  have S6:Hid (SnW w1 g3 (((((w5.setCell ⟨g3,3,none⟩ (.int .i64 (d.file.hd.W:Int))).setCell ⟨g3,4,none⟩ (.int .i64 (d.file.hd.H:Int))).setCell ⟨g3,5,none⟩ (.int .i64 (d.file.hd.K:Int))).setCell ⟨g3,6,none⟩ (.int .i64 (d.file.hd.D:Int))).setCell ⟨g3,7,none⟩ (.int .i64 (d.file.hd.L:Int)))):=((((S5.out.set hgle (by omega) _ rfl).set hgle (by omega) _ rfl).set hgle (by omega) _ rfl).set hgle (by omega) _ rfl).set hgle (by omega) _ rfl;go_wp2_with fail;generalize ((((w5.setCell ⟨g3,3,none⟩ (.int .i64 (d.file.hd.W:Int))).setCell ⟨g3,4,none⟩ (.int .i64 (d.file.hd.H:Int))).setCell ⟨g3,5,none⟩ (.int .i64 (d.file.hd.K:Int))).setCell ⟨g3,6,none⟩ (.int .i64 (d.file.hd.D:Int))).setCell ⟨g3,7,none⟩ (.int .i64 (d.file.hd.L:Int))=w6 at *;clear x0 x1 x2 x3 x4 y3 y4 y5 y6 y7 YY zz S5 C5 hW0;have K6:Hid (Kept w1 w6):=S6.out.kept;refine (rdKnown_x b 0 n c d.file w6 (BW.out w6 K6.out) HV.out.file (by omega) HP.out.W1 HP.out.W2 HP.out.H1 HP.out.H2).mono ?_;rintro e w7 ⟨⟨gk,rfl,hgk1,hgk2,hgk3⟩,hk7⟩;have S7:Hid (SnW w1 g3 w7):=S6.out.on hk7;obtain ⟨V8,y8⟩:∃ OV,w7.cell? ⟨g3,8,none⟩=some OV:=by
   obtain ⟨cc,h1,_,_⟩:=S7.out;exact ⟨_,h1.cell 8 (by omega)⟩
  have z8:∀ j,w7.frozen? ⟨g3,j,none⟩=false:=by
   obtain ⟨cc,h1,_,_⟩:=S7.out;exact h1.fz
  have hgkne:gk≠g3:=by
   obtain ⟨cc,h1,_,_⟩:=S6.out
   have:=h1.lt
   omega
  have HKn:Hid (∀ W,Kept w7 W\/Fr1 g3 w7 W->(gk<W.heap.size/\∀ j,j<d.file.hd.W*d.file.hd.H->W.cell? ⟨gk,j,none⟩=some (.int .i64 (if d.file.rw.known (j / d.file.hd.W*16+j % d.file.hd.W) then 1 else 0)))):=fun W h=>by
   rcases h with k | f
   ·exact ⟨Nat.lt_of_lt_of_le hgk2 k.size,fun j hj=>(k.cell (p:=⟨gk,j,none⟩) hgk2).trans (hgk3 j hj)⟩
   ·exact ⟨Nat.lt_of_lt_of_le hgk2 f.size,fun j hj=>(f.cell hgk2 (by omega)).trans (hgk3 j hj)⟩
  have hgkw:w.heap.size<=gk:=Nat.le_trans (Nat.le_trans K0.out.size K6.out.size) hgk1;replace hgkw:Hid _:=hgkw;have hgk0:Hid (w1.heap.size<=gk):=Nat.le_trans K6.out.size hgk1;obtain ⟨N,hN⟩:∃ N,N=d.file.hd.W*d.file.hd.H:=⟨_,rfl⟩;rw[<- hN] at HKn ⊢;replace hN:Hid _:=hN;have S8:Hid (∃ cc,Blk (w7.setCell ⟨g3,8,none⟩ (.slice (some ⟨gk,0,none⟩) N N)) g3 11 cc/\(∀ i,i<11->(cc i).oneCell'=true)/\Kept w1 (w7.setCell ⟨g3,8,none⟩ (.slice (some ⟨gk,0,none⟩) N N))/\cc 8 = .slice (some ⟨gk,0,none⟩) N N):=by
   obtain ⟨cc,h1,h2,h3⟩:=S7.out;refine ⟨_,h1.set (k:=8) (by omega) _,fun i hi => ?_,h3.setCell hgle _,upd_same _ _ _⟩;by_cases e:i=8
   ·subst e;rw[upd_same];rfl
   ·rw[upd_ne _ _ _ e];exact h2 i hi
  have F8:Hid (Fr1 g3 w7 (w7.setCell ⟨g3,8,none⟩ (.slice (some ⟨gk,0,none⟩) N N))):=Fr1.set (Fr.refl _ _) _ _;clear hgk1 hgk2 hgk3 hk7 S6 K6;go_wp2_with fail;generalize w7.setCell ⟨g3,8,none⟩ (.slice (some ⟨gk,0,none⟩) N N)=w8 at *;clear y8 z8 S7;obtain ⟨c8,hB8,hO8,hK8,hc8⟩:=S8.out;refine (rdPix_s b 0 n c d.file w8 (BW.out w8 hK8) HV.out.file (by omega) HP.out).mono ?_;rintro e w9 ⟨⟨gp,np,rfl⟩,hk9⟩;have B9:Hid (Blk w9 g3 11 c8):=hB8.kept hk9;have y9:=B9.out.cell 9 (by omega);obtain ⟨V9,y9⟩:∃ OV,w9.cell? ⟨g3,9,none⟩=some OV:=⟨_,y9⟩;have z9:=B9.out.fz;have B10:Hid (Blk (w9.setCell ⟨g3,9,none⟩ (.slice (some ⟨gp,0,none⟩) np np)) g3 11 (upd c8 9 (.slice (some ⟨gp,0,none⟩) np np))):=B9.out.set (by omega) _;have K10:Hid (Kept w1 (w9.setCell ⟨g3,9,none⟩ (.slice (some ⟨gp,0,none⟩) np np))):=(hK8.trans hk9).setCell hgle _;have F10:Hid (Fr1 g3 w7 (w9.setCell ⟨g3,9,none⟩ (.slice (some ⟨gp,0,none⟩) np np))):=Fr1.set (F8.out.kept hk9) _ _;have HO8:Hid (∀ i,i<11->(c8 i).oneCell'=true):=hO8;have Hc8:Hid (c8 8 = .slice (some ⟨gk,0,none⟩) N N):=hc8;clear hk9 hB8 hO8 hK8 hc8 S8;go_wp2_with fail;generalize w9.setCell ⟨g3,9,none⟩ (.slice (some ⟨gp,0,none⟩) np np)=w10 at *;clear y9 z9 B9 F8;refine (rdShow_s b 0 n c d.file w10 (BW.out w10 K10.out) HV.out.file (by omega) HP.out (GW.out w10 K10.out)).mono ?_;rintro e w11 ⟨⟨gs,ns,rfl⟩,hk11⟩;have B11:Hid (Blk w11 g3 11 (upd c8 9 (.slice (some ⟨gp,0,none⟩) np np))):=B10.out.kept hk11;obtain ⟨V10,y10⟩:∃ OV,w11.cell? ⟨g3,10,none⟩=some OV:=⟨_,B11.out.cell 10 (by omega)⟩;have z10:=B11.out.fz;have B12:Hid (Blk (w11.setCell ⟨g3,10,none⟩ (.slice (some ⟨gs,0,none⟩) ns ns)) g3 11 (upd (upd c8 9 (.slice (some ⟨gp,0,none⟩) np np)) 10 (.slice (some ⟨gs,0,none⟩) ns ns))):=B11.out.set (by omega) _;have K12:Hid (Kept w1 (w11.setCell ⟨g3,10,none⟩ (.slice (some ⟨gs,0,none⟩) ns ns))):=(K10.out.trans hk11).setCell hgle _;have F12:Hid (Fr1 g3 w7 (w11.setCell ⟨g3,10,none⟩ (.slice (some ⟨gs,0,none⟩) ns ns))):=Fr1.set (F10.out.kept hk11) _ _;have O12:Hid (∀ i,i<11->(upd (upd c8 9 (.slice (some ⟨gp,0,none⟩) np np)) 10 (.slice (some ⟨gs,0,none⟩) ns ns) i).oneCell'=true):=fun i hi=>by
   by_cases e:i=10
   ·subst e;rw[upd_same];rfl
   ·rw[upd_ne _ _ _ e]
    by_cases e2:i=9
    ·subst e2;rw[upd_same];rfl
    ·rw[upd_ne _ _ _ e2];exact HO8.out i hi
  have Hc12:Hid (upd (upd c8 9 (.slice (some ⟨gp,0,none⟩) np np)) 10 (.slice (some ⟨gs,0,none⟩) ns ns) 8 = .slice (some ⟨gk,0,none⟩) N N):=by
   show upd (upd c8 9 (.slice (some ⟨gp,0,none⟩) np np)) 10 (.slice (some ⟨gs,0,none⟩) ns ns) 8=_
   rw[upd_ne _ _ _ (by omega),upd_ne _ _ _ (by omega)];exact Hc8.out
  clear hk11 B10 K10 F10;go_upto_region 16 with fail
  generalize w11.setCell ⟨g3,10,none⟩ (.slice (some ⟨gs,0,none⟩) ns ns)=w12 at *;generalize upd (upd c8 9 (.slice (some ⟨gp,0,none⟩) np np)) 10 (.slice (some ⟨gs,0,none⟩) ns ns)=c12 at *;clear y10 z10 B11;obtain ⟨cs,hcs⟩:∃ cs,cs=(List.range 11).map c12:=⟨_,rfl⟩;have hcl:cs.length=11:=by rw[hcs];exact range_len c12 11
  have hone:∀ v ∈ cs,v.oneCell'=true:=by
   intro v hv;rw[hcs,List.mem_map] at hv;obtain ⟨j,hj,rfl⟩:=hv;exact O12.out j (List.mem_range.1 hj)
  have hcr:Hid (w12.rangeAt g3 0 cs):=by
   show w12.rangeAt g3 0 cs
   have:=B12.out.range (k:=0) (m:=11) (by omega)
   rw[hcs];rw[show (fun j=>c12 (0+j))=c12 from funext (fun j=>by rw[Nat.zero_add])] at this;exact this
  have h8:Hid (cs[8]? = some (.slice (some ⟨gk,0,none⟩) N N)):=by
   show cs[8]? = _
   rw[hcs,range_get c12 11 8 (by omega),Hc12.out]
  have hi:Hid ((Tryz.prog.info? 50).map (·.size)=some cs.length):=by show _=_;rw[hcl];exact info11
  have BR:Blk w12 w.heap.size 11 _:=B0.out.kept K12.out;have ht:Hid (w12.there w.heap.size 0 cs.length):=by show w12.there _ 0 cs.length;rw[hcl];exact BR.there (by omega)
  have hsc5:(storeCells ⟨w.heap.size,0,none⟩ cs).run Tryz.prog w12 = .ok () (w12.setCells w.heap.size 0 cs):=store_all ht.out hone;have hld:Hid ((loadVar 50 ⟨w.heap.size,0,none⟩).run Tryz.prog (w12.setCells w.heap.size 0 cs) = .ok (.agg cs.toArray) (w12.setCells w.heap.size 0 cs)) :=
   run_loadVar_mid _ _ _ _ cs _ (World.rangeAt_setCells_same _ _ _ _ ht.out) Tryz.underlying50 rfl hi.out
  have F13:Hid (Fr1 w.heap.size w12 (w12.setCells w.heap.size 0 cs)):=Fr1.sets _ _ (Fr.refl _ _);have K13:Hid (Kept w (w12.setCells w.heap.size 0 cs)):=Fr.to_kept (S:=fun j=>j=w.heap.size) (K0.out.trans K12.out) F13.out (fun i hi e=>by omega);have HFin:Hid (gk<(w12.setCells w.heap.size 0 cs).heap.size/\∀ j,j<N->(w12.setCells w.heap.size 0 cs).cell? ⟨gk,j,none⟩=some (.int .i64 (if d.file.rw.known (j / d.file.hd.W*16+j % d.file.hd.W) then 1 else 0))):=by
   obtain ⟨a1,a2⟩:=HKn.out w12 (Or.inr F12.out);have hgn:gk≠w.heap.size:=by
    have h1:=B0.out.lt;have h2:=hgkw.out;have h3:=hgk0.out;omega
   exact ⟨Nat.lt_of_lt_of_le a1 F13.out.size,fun j hj=>(F13.out.cell a1 hgn).trans (a2 j hj)⟩
  replace hcs:Hid _:=hcs;replace hcl:Hid _:=hcl;replace hone:Hid _:=hone;clear B12 O12 Hc12 BR;go_step;refine wpList_load_mid rfl 50 _ rfl g3 0 rfl cs _ hcr.out Tryz.underlying50 rfl hi.out ?_;go_wp2;refine bodyPost_ret (v := .agg cs.toArray) (results_cell1 rfl _ _ _ _ _ rfl hld.out) rfl ⟨cs,rfl,hcl.out,hone.out,⟨gk,?_,hgkw.out,HFin.out.1,?_⟩,K13.out⟩
  ·rw[<- hN.out];exact h8.out
  ·rw[<- hN.out];exact HFin.out.2
