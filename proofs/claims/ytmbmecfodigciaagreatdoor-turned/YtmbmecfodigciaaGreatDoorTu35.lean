import Derived.Test.YtmbmecfodigciaaGreatDoorTu34
import Derived.Test.YtmbmecfodigciaaGreatDoorTu17
import Derived.Test.YtmbmecfodigciaaGreatDoorTu04
set_option maxRecDepth 100000
set_option maxHeartbeats 6400000
namespace Go.Proofs.YtmbmecfodigciaaGreatDoor
open Go.RowKit Px
set_option linter.unusedSimpArgs false
set_option linter.unusedVariables false
theorem lay_writer_x (ct:List Value) (hl:ct.length=576) (h1:∀ v ∈ ct,v.oneCell'=true) :
  ∃ A:Array Value,List.foldl (fun (cs:Array Value) (x:Value × Nat)=>cs.setIfInBounds (3+x.snd) x.fst) Tryz.zeroCells158 ct.zipIdx=A/\A.size=579/\A.toList[0]? = some (.slice none 0 0)/\A.toList[1]? = some (.int .u32 0)/\A.toList[2]? = some (.int .u64 0)/\(∀ i,i<576->A.toList[3+i]? = ct[i]?)/\(∀ v ∈ A.toList,v.oneCell'=true):=by
 have hs:=lay_size 3 ct 0 Tryz.zeroCells158
 have ho:=fun j (h:j<3)=>lay_out 3 ct 0 Tryz.zeroCells158 j (Or.inl (by omega))
 have hi:=fun j (h:j<ct.length)=>lay_in 3 ct 0 Tryz.zeroCells158 j h (by rw[size579];omega)
 rw[size579] at hs
 obtain ⟨A,hA⟩:∃ A,A=List.foldl (fun (cs:Array Value) (x:Value × Nat)=>cs.setIfInBounds (3+x.snd) x.fst) Tryz.zeroCells158 ct.zipIdx:=⟨_,rfl⟩
 rw[<- hA] at hs
 have hA':=hA.symm
 refine ⟨A,hA',hs,?_,?_,?_,?_,?_⟩
 ·rw[Array.getElem?_toList,hA,ho 0 (by omega),z579_0]
 ·rw[Array.getElem?_toList,hA,ho 1 (by omega),z579_1]
 ·rw[Array.getElem?_toList,hA,ho 2 (by omega),z579_2]
 ·intro i hi'
  have:=hi i (by omega)
  rw[Array.getElem?_toList,hA];exact this
 ·intro v hv
  obtain ⟨j,hj,e⟩:=List.getElem_of_mem hv
  have hjA:A.toList[j]? = some v:=by rw[List.getElem?_eq_getElem hj,e]
  rw[Array.getElem?_toList] at hjA
  have hj':j<579:=by simpa [hs] using hj
  by_cases q0:j<3
  ·rw[hA,ho j q0] at hjA
   have:j=0\/j=1\/j=2:=by omega
   rcases this with rfl | rfl | rfl
   ·rw[z579_0] at hjA;injection hjA with hjA;rw[<- hjA];rfl
   ·rw[z579_1] at hjA;injection hjA with hjA;rw[<- hjA];rfl
   ·rw[z579_2] at hjA;injection hjA with hjA;rw[<- hjA];rfl
  ·have hh:=hi (j - 3) (by omega)
   rw[show 3+0+(j - 3)=j by omega,<- hA,hjA] at hh
   exact h1 v (List.mem_of_getElem? hh.symm)
theorem bkF_get (i:Nat) (h:i<576):((List.range 576).map bkF)[i]? = some (bkF i):=by rw[List.getElem?_map,List.getElem?_range h];rfl
theorem fixC_get (i:Nat) (h:i<288):((List.range 288).map (u8C fixLen 288))[i]? = some (.int .u8 (fixLen i:Int)):=by
 rw[List.getElem?_map,List.getElem?_range h]
 show some (u8C fixLen 288 i)=_
 unfold u8C
 rw[if_pos h]
theorem BX.whole {W:World} {x N:Nat} {bs:List Nat} (h:BX W x N bs) (h8:bs.length % 8=0):∃ l,BitB W x N l 0 0/\flat8 (nl l)=bs/\bs.length=8*l.length:=by
 obtain ⟨l,r,m,b,h1,h2,h3⟩:=h.ex
 have hlen:bs.length=8*l.length+m:=by rw[h3];exact bitsW_len l r m
 have hm:m=0:=by omega
 subst hm
 have hr:r=0:=by have:(2:Nat)^0=1:=rfl;omega
 subst hr
 refine ⟨l,b,?_,by omega⟩
 rw[h3];unfold bitsW;exact (List.append_nil _).symm
theorem BX.of {W:World} {x N:Nat} {l:List Int} (h:BitB W x N l 0 0):BX W x N (flat8 (nl l)):=⟨l,0,0,h,by decide,by omega,by unfold bitsW;exact (List.append_nil _).symm⟩
theorem WX.of {x N:Nat} {l:List Int} {a b:World} (h:WroteB x N l 0 0 a b):WX x N (flat8 (nl l)) a b:=⟨BX.of h.bits,h.fr,h.far⟩
theorem stream_x (g o c:Nat) (kv fv cv:Value) (l kl:List Int) (lace srch:Int) (P V:Nat) (w:World) (hl:LAt w .u8 (.slice (some ⟨g,o,none⟩) l.length c) l) (hB:isBytes l) (hcap:l.length<=c) (hkl:LAt w .i64 kv kl) (hn:l.length<=14000) (h0:0<l.length) (hk0:0<kl.length) (hk1:kl.length<=64) (hkk:∀ x ∈ kl,0<=x/\x<=2) (hp0:1<=P) (hp1:P<=1048576) (hw1:V<=7) :
  Calls Tryz.prog 69 #[.slice (some ⟨g,o,none⟩) l.length c,.agg #[.int .i64 lace,fv,kv,.int .i64 (P:Int),cv,.int .i64 (V:Int),.int .i64 srch]] w fun r w'=>∃ ov L,r = .returned ov/\OwnB w' w.heap.size ov L/\L.length<=8+7*l.length/\flat8 (nl L)=strB V (blL P kl l.length 0 l)/\Kept w w':=by
 obtain ⟨ct,hct0⟩:∃ ct,ct=(List.range 576).map bkF:=⟨_,rfl⟩
 have hctl:ct.length=576:=by rw[hct0];simp
 have HCT:Hid (∀ i,i<576->ct[i]? = some (bkF i)):=fun i hi=>by rw[hct0];exact bkF_get i hi
 have HC1:Hid (∀ v ∈ ct,v.oneCell'=true):=by rw[hct0];exact bk_one
 obtain ⟨cs,hcs0⟩:∃ cs,cs=(List.range 288).map (u8C fixLen 288):=⟨_,rfl⟩
 have hcl0:cs.length=288:=by rw[hcs0];simp
 have hcz0:Hid (∀ i,i<288->cs[i]? = some (.int .u8 (fixLen i:Int))):=fun i hi=>by rw[hcs0];exact fixC_get i hi
 have hone:Hid (∀ v ∈ cs,v.oneCell'=true):=by rw[hcs0];exact u8C_one fixLen 288
 have F1:Hid (∀ w,Calls Tryz.prog 97 #[] w fun r w'=>r = .returned (.agg cs.toArray)/\Kept w w'):=by rw[hcs0];exact fixlit_x
 have F2:Hid (∀ (g c:Nat) (w:World),(∀ i,i<288->w.cell? ⟨g,i,none⟩=some (.int .u8 (fixLen i:Int)))->Calls Tryz.prog 98 #[.slice (some ⟨g,0,none⟩) 288 c] w fun r w'=>r = .returned (.agg ct.toArray)/\Kept w w'):=by rw[hct0];exact bookof_x
 clear hct0 hcs0
 have hch:Hid (∀ k u,#[Value.int .i64 lace,fv,kv,.int .i64 (P:Int),cv,.int .i64 (V:Int),.int .i64 srch][k]? = some u->(w.alloc (Obj.cells #[Value.int .i64 lace,fv,kv,.int .i64 (P:Int),cv,.int .i64 (V:Int),.int .i64 srch] 35)).cell? ⟨w.heap.size,k,none⟩=some u):=by
  intro k u hu
  rw[World.cell?_alloc_at _ _ _ _ rfl];exact hu
 have hkw0:Hid (Kept w (w.alloc (Obj.cells #[Value.int .i64 lace,fv,kv,.int .i64 (P:Int),cv,.int .i64 (V:Int),.int .i64 srch] 35))):=(Below.refl _ _).alloc (Nat.le_refl _) _
 have hs0:Hid (w.heap.size<(w.alloc (Obj.cells #[Value.int .i64 lace,fv,kv,.int .i64 (P:Int),cv,.int .i64 (V:Int),.int .i64 srch] 35)).heap.size):=by show _<_;simp
 have HL:Hid (LAt w .u8 (.slice (some ⟨g,o,none⟩) l.length c) l):=hl
 have HKL:Hid (LAt w .i64 kv kl):=hkl
 have HKK:Hid (∀ x ∈ kl,0<=x/\x<=2):=hkk
 have HB:Hid (isBytes l):=hB
 clear hl hkl hkk hB
 go_enter Tryz.func69,Tryz.ntmps69
 go_wp2_with fail
 generalize (w.alloc (Obj.cells #[Value.int .i64 lace,fv,kv,.int .i64 (P:Int),cv,.int .i64 (V:Int),.int .i64 srch] 35))=w0 at *
 refine (F1.out _).mono ?_
 rintro r w1 ⟨rfl,hkw1⟩
 have hT:Hid ((w1.alloc (Obj.cells Tryz.zeroCells149 149)).there w1.heap.size 0 cs.length):=by
  intro j hj
  refine ⟨?_,World.frozen?_alloc_at _ _ _ _ rfl⟩
  rw[World.cell?_alloc_at _ _ _ _ rfl,zero288];simp;omega
 have hsc:(storeCells ⟨w1.heap.size,0,none⟩ cs).run Tryz.prog (w1.alloc (Obj.cells Tryz.zeroCells149 149)) = .ok () ((w1.alloc (Obj.cells Tryz.zeroCells149 149)).setCells w1.heap.size 0 cs):=store_there hT.out hone.out
 have hr2:Hid (∀ i,i<288->((w1.alloc (Obj.cells Tryz.zeroCells149 149)).setCells w1.heap.size 0 cs).cell? ⟨w1.heap.size,i,none⟩=some (.int .u8 (fixLen i:Int))):=by
  intro i hi
  have:=(World.rangeAt_setCells_same _ _ _ _ hT.out) i _ (hcz0.out i hi)
  rw[Nat.zero_add] at this
  exact this
 have hk2:Hid (Kept w1 ((w1.alloc (Obj.cells Tryz.zeroCells149 149)).setCells w1.heap.size 0 cs)):=Kept.setCells (Nat.le_refl _) _ _ ((Below.refl _ _).alloc (Nat.le_refl _) _)
 have hcl:Hid (cs.length=288):=hcl0
 clear hcl0
 replace hctl:Hid _:=hctl
 go_wp2_with fail
 generalize ((w1.alloc (Obj.cells Tryz.zeroCells149 149)).setCells w1.heap.size 0 cs)=w2 at *
 refine (F2.out _ _ w2 hr2.out).mono ?_
 rintro r w3 ⟨rfl,hkw3⟩
 replace hctl:=hctl.out
 obtain ⟨A,hAe,hAs,hA0,hA1,hA2,hA3,hA5⟩:=lay_writer_x ct hctl HC1.out
 have hT4:Hid ((w3.alloc (Obj.cells Tryz.zeroCells158 158)).there w3.heap.size 0 A.toList.length):=by
  intro j hj
  refine ⟨?_,World.frozen?_alloc_at _ _ _ _ rfl⟩
  rw[World.cell?_alloc_at _ _ _ _ rfl]
  have:j<(Tryz.zeroCells158).size:=by rw[size579];rw[Array.length_toList,hAs] at hj;exact hj
  show ((Tryz.zeroCells158)[0+j]?).isSome=true
  rw[Nat.zero_add,Array.getElem?_eq_getElem this];rfl
 have hsc4:(storeCells ⟨w3.heap.size,0,none⟩ A.toList).run Tryz.prog (w3.alloc (Obj.cells Tryz.zeroCells158 158)) = .ok () ((w3.alloc (Obj.cells Tryz.zeroCells158 158)).setCells w3.heap.size 0 A.toList):=store_there hT4.out hA5
 have hR4:Hid (((w3.alloc (Obj.cells Tryz.zeroCells158 158)).setCells w3.heap.size 0 A.toList).rangeAt w3.heap.size 0 A.toList):=World.rangeAt_setCells_same _ _ _ _ hT4.out
 have hK4:Hid (Kept w3 ((w3.alloc (Obj.cells Tryz.zeroCells158 158)).setCells w3.heap.size 0 A.toList)):=Kept.setCells (Nat.le_refl _) _ _ ((Below.refl _ _).alloc (Nat.le_refl _) _)
 have hF4:Hid (∀ k,((w3.alloc (Obj.cells Tryz.zeroCells158 158)).setCells w3.heap.size 0 A.toList).frozen? ⟨w3.heap.size,k,none⟩=false):=fun k=>by rw[World.frozen?_setCells];exact World.frozen?_alloc_at _ _ _ _ rfl
 replace hA0:Hid _:=hA0
 replace hA1:Hid _:=hA1
 replace hA2:Hid _:=hA2
 replace hA3:Hid _:=hA3
 clear hA5
 have HK:Hid (Kept w0 ((w3.alloc (Obj.cells Tryz.zeroCells158 158)).setCells w3.heap.size 0 A.toList)):=((hkw1.trans hk2.out).trans hkw3).trans hK4.out
 have hsz:Hid (((w3.alloc (Obj.cells Tryz.zeroCells158 158)).setCells w3.heap.size 0 A.toList).heap.size=w3.heap.size+1):=by
  show _=_
  rw[setCells_size];simp
 have g0:w.heap.size<w3.heap.size:=by
  have h1:=hs0.out
  have h2:=hkw1.size
  have h3:=hk2.out.size
  have h4:=hkw3.size
  omega
 have ch5:((w3.alloc (Obj.cells Tryz.zeroCells158 158)).setCells w3.heap.size 0 A.toList).cell? ⟨w.heap.size,5,none⟩=some (.int .i64 (V:Int)):=(HK.out.cell (p:=⟨w.heap.size,5,none⟩) hs0.out).trans (hch.out 5 _ rfl)
 go_wp2_with fail
 generalize ((w3.alloc (Obj.cells Tryz.zeroCells158 158)).setCells w3.heap.size 0 A.toList)=w4 at *
 clear hsc4 hT4 hK4 hAe hAs
 generalize w3.heap.size=x at *
 have H4:Hid (BitB w4 x (x+1) [] 0 0):=⟨by omega,by rw[hsz.out];omega,hF4.out,⟨.slice none 0 0,hR4.out 0 _ hA0.out,OwnB.nil _ _⟩,hR4.out 1 _ hA1.out,hR4.out 2 _ hA2.out⟩
 have HBk:Hid (BkX w4 x):=by
  intro i hi
  have e1:=hA3.out i (by omega)
  have e2:=hA3.out (288+i) (by omega)
  rw[HCT.out i (by omega)] at e1
  rw[HCT.out (288+i) (by omega)] at e2
  have c1:=hR4.out _ _ e1
  have c2:=hR4.out _ _ e2
  rw[Nat.zero_add] at c1 c2
  have f1:bkF i = .int .u32 (fixCode i:Int):=by unfold bkF;rw[if_pos hi]
  have f2:bkF (288+i) = .int .u8 (fixLen i:Int):=by unfold bkF;rw[if_neg (by omega),show 288+i - 288=i from by omega]
  rw[f1] at c1
  rw[f2] at c2
  exact ⟨c1,by rw[show 3+288+i=3+(288+i) from by omega];exact c2⟩
 have HKw:Hid (Kept w w4):=hkw0.out.trans HK.out
 have hgl:g<w.heap.size:=HL.out.lt h0 g rfl
 have hkb:Hid (∀ b,sliceBlock kv=some b->b<w.heap.size):=HKL.out.lt hk0
 have ch2:Hid (w4.cell? ⟨w.heap.size,2,none⟩=some kv):=(HK.out.cell (p:=⟨w.heap.size,2,none⟩) hs0.out).trans (hch.out 2 _ rfl)
 have ch3:w4.cell? ⟨w.heap.size,3,none⟩=some (.int .i64 (P:Int)):=(HK.out.cell (p:=⟨w.heap.size,3,none⟩) hs0.out).trans (hch.out 3 _ rfl)
 have hs4:Hid (w.heap.size<w4.heap.size):=by show _<_;rw[hsz.out];omega
 obtain ⟨E0,hE0⟩:∃ E0,E0=xb (zN V) 0 16:=⟨_,rfl⟩
 have hE0l:E0.length=16:=by rw[hE0,xb_len]
 obtain ⟨E,hE⟩:∃ E,E=E0++blksB 0 (blL P kl l.length 0 l):=⟨_,rfl⟩
 have F3:Hid (Calls Tryz.prog 99 #[.pointer (some ⟨x,0,none⟩),.int .i64 (V:Int)] w4 fun r w'=>r = .returned (.tuple #[])/\WX x (x+1) E0 w4 w'):=by
  refine (head_b x (x+1) V [] w4 H4.out hw1 (by simp)).mono ?_
  rintro r w' ⟨rfl,h⟩
  have:=WX.of h
  rw[List.nil_append,head_bits V hw1,<- hE0] at this
  exact ⟨rfl,this⟩
 clear hA0 hA1 hA2 hA3 hR4 hF4 hsz HCT HC1
 have HSTR:Hid (∀ L0,flat8 (nl L0)=E++List.replicate ((8 - E.length % 8) % 8) 0->flat8 (nl (L0++beB (adlL 1 l)))=strB V (blL P kl l.length 0 l)):=fun L0 h=>str_bits V P kl l L0 hp0 (by rw[h,hE,hE0])
 have HE1:Hid (E0++blksB (E0.length % 8) (blL P kl l.length 0 (l.drop 0))=E):=by show _=_;rw[hE0l,hE,List.drop_zero]
 clear hE hE0
 replace hE0l:Hid _:=hE0l
 refine F3.out.mono ?_
 rintro r w5 ⟨rfl,hw5⟩
 have ch3':w5.cell? ⟨w.heap.size,3,none⟩=some (.int .i64 (P:Int)):=(hw5.fr.cell hs4.out (by omega)).trans ch3
 replace hw5:Hid (WX x (x+1) E0 w4 w5):=hw5
 clear ch3 ch5
 go_wp2
 have F4:Hid (∀ (W:World) (k:Nat),k<=65536->LAt W .i64 kv kl->Calls Tryz.prog 100 #[kv,.int .i64 (k:Int)] W fun r w'=>r = .returned (.int .i64 (kl.getD (k % kl.length) 0))/\Kept W w'):=fun W k hk h=>turns_any kv kl k W h hk0 (by omega) (by omega)
 have hSg:Hid (∀ b,sliceBlock (.slice (some ⟨g,o,none⟩) l.length c)=some b->¬ (b=x\/x+1<=b)):=by
  intro b hb
  have:g=b:=by injection hb
  omega
 have F5:Hid (∀ (W:World) (cs:List Nat) (kd f n c':Nat) (b:Bool),f+n<=l.length->cs.length<=67108864->kd<=2->b=decide (f+n=l.length)->WX x (x+1) cs w4 W->Calls Tryz.prog 101 #[.pointer (some ⟨x,0,none⟩),.int .i64 (kd:Int),.slice (some ⟨g,o+f,none⟩) n c',.bool b] W fun r w'=>r = .returned (.tuple #[])/\WX x (x+1) (cs++blkB (cs.length % 8) (if kd=0 then 0 else 1) (decide (f+n=l.length)) (nl ((l.drop f).take n))) W w'):=by
  intro W cs kd f n c' b hfn hT hkd hb hW
  subst hb
  have hlen:((l.drop f).take n).length=n:=by simp;omega
  have:=blockw_x x (x+1) kd (decide (f+n=l.length)) cs (.slice (some ⟨g,o+f,none⟩) n c') _ W hW.bits (HBk.out.far hW.far) (((HL.out.kept HKw.out).fr hW.fr hSg.out).part f n c' hfn) (HB.out.part f n) (by
   intro b hb
   have:g=b:=by injection hb
   omega) (by rw[hlen];omega) hT hkd
  exact this
 have HKW:Hid (∀ (W:World) (T:List Nat),WX x (x+1) T w4 W->LAt W .i64 kv kl/\W.cell? ⟨w.heap.size,2,none⟩=some kv):=by
  intro W T hW
  refine ⟨(HKL.out.kept HKw.out).fr hW.fr (fun b hb=>by have:=hkb.out b hb;omega),(hW.fr.cell hs4.out (by omega)).trans ch2.out⟩
 have F6:Hid (∀ (W:World),E.length<=67108864->BX W x (x+1) E->Calls Tryz.prog 102 #[.pointer (some ⟨x,0,none⟩)] W fun r w'=>r = .returned (.tuple #[])/\WX x (x+1) (E++List.replicate ((8 - E.length % 8) % 8) 0) W w'):=fun W hT hB=>fill_x x (x+1) E W hB (by omega)
 have F7:Hid (∀ (W:World),E.length<=16+51*l.length->WX x (x+1) (E++List.replicate ((8 - E.length % 8) % 8) 0) w4 W->Calls Tryz.prog 103 #[.pointer (some ⟨x,0,none⟩),.slice (some ⟨g,o,none⟩) l.length c] W fun r w'=>r = .returned (.tuple #[])/\∃ L0,L0.length<=3+7*l.length/\flat8 (nl L0)=E++List.replicate ((8 - E.length % 8) % 8) 0/\WroteB x (x+1) (L0++beB (adlL 1 l)) 0 0 W w'):=fun W hT hW=>by
  have h8:(E++List.replicate ((8 - E.length % 8) % 8) 0).length % 8=0:=by rw[List.length_append,List.length_replicate];omega
  obtain ⟨L0,hb,he,hl0⟩:=hW.bits.whole h8
  rw[List.length_append,List.length_replicate] at hl0
  refine (sum_b x (x+1) L0 _ l W hb ((HL.out.kept HKw.out).fr hW.fr hSg.out) HB.out (by omega) (by omega)).mono ?_
  rintro r w' ⟨rfl,h⟩
  exact ⟨rfl,L0,by omega,he,h⟩
 clear HKL HB HL H4 F1 F2 F3 hr2 hk2 hT hone hsc hkw1 hkw3 HK hch hkw0 hs0 ch2 HBk hSg hcz0
 generalize w1.heap.size=y1 at *
 generalize hcsA:cs.toArray=csA at *
 generalize hctA:ct.toArray=ctA at *
 clear hcsA hctA hctl hcl
 go_loopw [8,9] (fun u v W=>∃ (f k:Nat) (ds:List Nat) (n:Nat),f<=l.length/\u = .int .i64 (f:Int)/\v = .int .i64 (k:Int)/\f=min (k*P) l.length/\k<=l.length/\l.length - f<=n/\ds.length<=16+51*f/\ds++blksB (ds.length % 8) (blL P kl n k (l.drop f))=E/\WX x (x+1) ds w4 W) (fun u _ _=>l.length - (intOf u).toNat)
 case atStart=>exact ⟨0,0,E0,l.length,by omega,rfl,rfl,by omega,by omega,by omega,by have:=hE0l.out;omega,HE1.out,hw5.out⟩
 case round=>
  obtain ⟨f,k,ds,n,hf,rfl,rfl,hfe,hkn,hfn,hT1,hds,hW⟩:=hrel
  clear hw5 ch3'
  by_cases hlt:f<l.length
  ·have hfk:f=k*P:=by omega
   have hkl2:k<l.length:=by
    have:=Nat.le_mul_of_pos_right k (show 0<P by omega)
    omega
   obtain ⟨hk4,hc4⟩:=HKW.out wr ds hW
   have FT:=F4.out wr k (by omega) hk4
   obtain ⟨kd,hkd⟩:∃ kd:Nat,kl.getD (k % kl.length) 0=(kd:Int)/\kd<=2:=by
    have:=HKK.out _ (getD_mem (Nat.mod_lt k hk0))
    exact ⟨(kl.getD (k % kl.length) 0).toNat,by omega,by omega⟩
   rw[hkd.1] at FT
   have hkdN:kdN kl k=if kd=0 then 0 else 1:=by
    unfold kdN
    rw[hkd.1]
    by_cases q:kd=0
    ·rw[if_pos q,if_pos (by omega)]
    ·rw[if_neg q,if_neg (by omega)]
   have hkd2:=hkd.2
   clear hkd hk4
   obtain ⟨m,hm⟩:∃ m,m=min P (l.length - f):=⟨_,rfl⟩
   obtain ⟨n',hn',hst⟩:=blk_step P kl n k l ds f (f+m) m hp0 hlt hm rfl hfn
   have hlm:((l.drop f).take m).length=m:=by rw[List.length_take,List.length_drop];omega
   have hbl:=blkB_len (ds.length % 8) (kdN kl k) (decide (f+m=l.length)) ((l.drop f).take m)
   rw[hlm] at hbl
   rw[hds] at hst
   have FB:Hid (∀ (W:World) (c':Nat) (b:Bool),b=decide (f+m=l.length)->WX x (x+1) ds w4 W->Calls Tryz.prog 101 #[.pointer (some ⟨x,0,none⟩),.int .i64 (kd:Int),.slice (some ⟨g,o+f,none⟩) m c',.bool b] W fun r w'=>r = .returned (.tuple #[])/\WX x (x+1) (ds++blkB (ds.length % 8) (kdN kl k) (decide (f+m=l.length)) (nl ((l.drop f).take m))) W w'):=fun W c' b hb hW=>by rw[hkdN];exact F5.out W ds kd f m c' b (by omega) (by omega) hkd2 hb hW
   obtain ⟨ds',hds'⟩:∃ ds',ds'=ds++blkB (ds.length % 8) (kdN kl k) (decide (f+m=l.length)) (nl ((l.drop f).take m)):=⟨_,rfl⟩
   rw[<- hds'] at FB hst
   have hdl:Hid (ds'.length<=16+51*(f+m)):=by show _<=_;rw[hds',List.length_append];omega
   clear hds' hbl hlm hkdN hds
   replace hst:Hid _:=hst
   replace FT:Hid (Calls Tryz.prog 100 #[kv,.int .i64 (k:Int)] wr fun r w'=>r = .returned (.int .i64 (kd:Int))/\Kept wr w'):=FT
   replace hW:Hid (WX x (x+1) ds w4 wr):=hW
   have hfe2:Hid (f+m=min ((k+1)*P) l.length):=by show _=_;rw[Nat.succ_mul,<- hfk,hm];omega
   replace hfe:Hid (f=min (k*P) l.length):=hfe
   replace hfk:Hid (f=k*P):=hfk
   replace hn':Hid _:=hn'
   have hm0:0<m:=by omega
   have hml:f+m<=l.length:=by omega
   have hfl:(f:Int)<(l.length:Int):=by omega
   rcases Nat.eq_zero_or_pos k with hk00 | hk00
   ·subst hk00
    by_cases hmm:P<=l.length - f
    ·have hm':(P:Int)<=(l.length:Int) - (f:Int):=by omega
     obtain rfl:m=P:=by omega
     clear hm
     go_wp2_with fail
     refine FT.out.mono ?_
     rintro r w6 ⟨rfl,hk6⟩
     replace hk6:Hid (Kept wr w6):=hk6
     go_wp2_with fail
     refine (FB.out w6 (c - f) _ (by first | rfl | (rw[Bool.eq_iff_iff];simp;omega) | (simp;omega)) (hW.out.kept hk6.out)).mono ?_
     rintro r w7 ⟨rfl,hw7⟩
     have HW7:Hid (WX x (x+1) ds' w4 w7):=(hW.out.kept hk6.out).trans hw7
     clear hw7
     go_wp2
     exact ⟨⟨f+m,0+1,ds',n',by omega,by first | rfl | go_num,by first | rfl | go_num,by first | exact hfe2.out | (have:=hfe2.out;omega),by omega,by first | exact hn'.out | (have:=hn'.out;omega),by first | exact hdl.out | (have:=hdl.out;omega),by first | exact hst.out.symm | (rw[show l.length=f+(l.length - f) from by omega];exact hst.out.symm),HW7.out⟩,by simp [intOf];omega⟩
    ·have hm':¬ (P:Int)<=(l.length:Int) - (f:Int):=by omega
     obtain rfl:m=l.length - f:=by omega
     clear hm
     go_wp2_with fail
     refine FT.out.mono ?_
     rintro r w6 ⟨rfl,hk6⟩
     replace hk6:Hid (Kept wr w6):=hk6
     go_wp2_with fail
     refine (FB.out w6 (c - f) _ (by first | rfl | (rw[Bool.eq_iff_iff];simp;omega) | (simp;omega)) (hW.out.kept hk6.out)).mono ?_
     rintro r w7 ⟨rfl,hw7⟩
     have HW7:Hid (WX x (x+1) ds' w4 w7):=(hW.out.kept hk6.out).trans hw7
     clear hw7
     go_wp2
     exact ⟨⟨f+(l.length - f),0+1,ds',n',by omega,by first | rfl | go_num,by first | rfl | go_num,by first | exact hfe2.out | (have:=hfe2.out;omega),by omega,by first | exact hn'.out | (have:=hn'.out;omega),by first | exact hdl.out | (have:=hdl.out;omega),by first | exact hst.out.symm | (rw[show l.length=f+(l.length - f) from by omega];exact hst.out.symm),HW7.out⟩,by simp [intOf];omega⟩
   ·have b0:((k:Int) == 0)=false:=by rw[beq_eq_false_iff_ne];omega
    by_cases hmm:P<=l.length - f
    ·have hm':(P:Int)<=(l.length:Int) - (f:Int):=by omega
     obtain rfl:m=P:=by omega
     clear hm
     go_wp2_with fail
     refine FT.out.mono ?_
     rintro r w6 ⟨rfl,hk6⟩
     replace hk6:Hid (Kept wr w6):=hk6
     go_wp2_with fail
     refine (FB.out w6 (c - f) _ (by first | rfl | (rw[Bool.eq_iff_iff];simp;omega) | (simp;omega)) (hW.out.kept hk6.out)).mono ?_
     rintro r w7 ⟨rfl,hw7⟩
     have HW7:Hid (WX x (x+1) ds' w4 w7):=(hW.out.kept hk6.out).trans hw7
     clear hw7
     go_wp2
     exact ⟨⟨f+m,k+1,ds',n',by omega,by first | rfl | go_num,by first | rfl | go_num,by first | exact hfe2.out | (have:=hfe2.out;omega),by omega,by first | exact hn'.out | (have:=hn'.out;omega),by first | exact hdl.out | (have:=hdl.out;omega),by first | exact hst.out.symm | (rw[show l.length=f+(l.length - f) from by omega];exact hst.out.symm),HW7.out⟩,by simp [intOf];omega⟩
    ·have hm':¬ (P:Int)<=(l.length:Int) - (f:Int):=by omega
     obtain rfl:m=l.length - f:=by omega
     clear hm
     go_wp2_with fail
     refine FT.out.mono ?_
     rintro r w6 ⟨rfl,hk6⟩
     replace hk6:Hid (Kept wr w6):=hk6
     go_wp2_with fail
     refine (FB.out w6 (c - f) _ (by first | rfl | (rw[Bool.eq_iff_iff];simp;omega) | (simp;omega)) (hW.out.kept hk6.out)).mono ?_
     rintro r w7 ⟨rfl,hw7⟩
     have HW7:Hid (WX x (x+1) ds' w4 w7):=(hW.out.kept hk6.out).trans hw7
     clear hw7
     go_wp2
     exact ⟨⟨f+(l.length - f),k+1,ds',n',by omega,by first | rfl | go_num,by first | rfl | go_num,by first | exact hfe2.out | (have:=hfe2.out;omega),by omega,by first | exact hn'.out | (have:=hn'.out;omega),by first | exact hdl.out | (have:=hdl.out;omega),by first | exact hst.out.symm | (rw[show l.length=f+(l.length - f) from by omega];exact hst.out.symm),HW7.out⟩,by simp [intOf];omega⟩
  ·have hfn':f=l.length:=by omega
   have hkpos:0<k:=by
    rcases Nat.eq_zero_or_pos k with h | h
    ·subst h;simp at hfe;omega
    ·exact h
   have b0:((k:Int) == 0)=false:=by rw[beq_eq_false_iff_ne];omega
   have hfl:¬ (f:Int)<(l.length:Int):=by omega
   have hdE:ds=E:=by
    rw[hfn',List.drop_length,blL_nil] at hds
    have:ds++[]=E:=hds
    rw[List.append_nil] at this
    exact this
   subst hdE
   have hEl:ds.length<=16+51*l.length:=by omega
   have F66:=F6.out wr (by omega) hW.bits
   replace F66:Hid _:=F66
   replace hW:Hid (WX x (x+1) ds w4 wr):=hW
   clear hfe hds HE1
   replace hEl:Hid _:=hEl
   go_wp2_with fail
   refine Calls.mono F66.out ?_
   rintro r w8 ⟨rfl,hw8⟩
   replace hw8:Hid (WX x (x+1) (ds++List.replicate ((8 - ds.length % 8) % 8) 0) w4 w8):=hW.out.trans hw8
   go_wp2_with fail
   refine (F7.out w8 hEl.out hw8.out).mono ?_
   rintro r w9 ⟨rfl,L0,hL0,hL1,hw9⟩
   obtain ⟨ov,ho0,hoo⟩:=hw9.bits.out
   replace hoo:Hid _:=hoo
   have hfr9:Hid (FrN x (x+1) w4 w9):=hw8.out.fr.trans hw9.fr
   replace hL1:Hid _:=hL1
   replace hL0:Hid _:=hL0
   clear hw9
   go_wp2
   go_ret
   refine ⟨ov,L0++beB (adlL 1 l),rfl,OwnB.base hoo.out (by omega),?_,HSTR.out L0 hL1.out,?_⟩
   ·have:=hL0.out
    rw[List.length_append,beB_len];omega
   ·exact Fr.to_kept HKw.out hfr9.out (fun i hi=>by omega)
