import Derived.Test.YthniahejjamhgaaGreatDoorRoT5a
import Derived.Deep.CutBlock
set_option maxRecDepth 100000
set_option maxHeartbeats 6400000
namespace Go.Proofs.YthniahejjamhgaaGreatDoor
open Go.RowKit
set_option linter.unusedSimpArgs false
set_option linter.unusedVariables false
theorem deskChoice_any (x A B C:Nat) (s t:ByteArray) (w:World) (hx:x<w.heap.size) (hfz:∀ k,w.frozen? ⟨x,k,none⟩=false) (hcs:∀ j,j<15->(w.cell? ⟨x,j,none⟩).isSome=true) (hA:A<=1099511627776) (hB:B<=1099511627776) (hC:C<=1099511627776) (hs:s.size<=65536) (ht:t.size<=65536) :
  Calls Tryz.prog 9 #[.pointer (some ⟨x,0,none⟩),.agg #[.int .i64 (A:Int),.int .i64 (B:Int),.int .i64 (C:Int),.string s,.string t]] w fun r w'=>r = .returned (.tuple #[])/\∃ P V Z:Nat,∃ fp kp cp:Option Addr,∃ fc kc cc:Nat,∃ fl kl cl:List Int,ChR w w' x P V Z fp kp cp fc kc cc fl kl cl:=by
 have FP:Hid (∀ (W':World) (c n:Nat),c<=1099511627776->1<=n->n<=1099511627776->Calls Tryz.prog 7 #[.int .i64 (c:Int),.int .i64 (n:Int)] W' fun r w'=>(∃ k:Nat,k<n/\r = .returned (.int .i64 (k:Int)))/\w'=W'):=fun W' c n h1 h2 h3=>pick_any (c:Int) n W' (by omega) (by omega) h2 h3
 have hk0:Kept w (w.alloc (Obj.cells #[.int .i64 (A:Int),.int .i64 (B:Int),.int .i64 (C:Int),.string s,.string t] 37)):=Below.alloc (Below.refl _ _) (Nat.le_refl _) _;have hs0:w.heap.size<(w.alloc (Obj.cells #[.int .i64 (A:Int),.int .i64 (B:Int),.int .i64 (C:Int),.string s,.string t] 37)).heap.size:=by simp
 have hcs0:∀ j,j<15->((w.alloc (Obj.cells #[.int .i64 (A:Int),.int .i64 (B:Int),.int .i64 (C:Int),.string s,.string t] 37)).cell? ⟨x,j,none⟩).isSome=true:=fun j hj=>by rw[hk0.cell (p:=⟨x,j,none⟩) hx];exact hcs j hj
 have hfz0:∀ k,(w.alloc (Obj.cells #[.int .i64 (A:Int),.int .i64 (B:Int),.int .i64 (C:Int),.string s,.string t] 37)).frozen? ⟨x,k,none⟩=false:=fun k=>(hk0.frozen (p:=⟨x,k,none⟩) hx).trans (hfz k)
 have o1:(w.alloc (Obj.cells #[.int .i64 (A:Int),.int .i64 (B:Int),.int .i64 (C:Int),.string s,.string t] 37)).cell? ⟨w.heap.size,1,none⟩=some (.int .i64 (B:Int)):=by rw[World.cell?_alloc_at _ _ _ _ rfl];rfl
 have o2:(w.alloc (Obj.cells #[.int .i64 (A:Int),.int .i64 (B:Int),.int .i64 (C:Int),.string s,.string t] 37)).cell? ⟨w.heap.size,2,none⟩=some (.int .i64 (C:Int)):=by rw[World.cell?_alloc_at _ _ _ _ rfl];rfl
 have o3:(w.alloc (Obj.cells #[.int .i64 (A:Int),.int .i64 (B:Int),.int .i64 (C:Int),.string s,.string t] 37)).cell? ⟨w.heap.size,3,none⟩=some (.string s):=by rw[World.cell?_alloc_at _ _ _ _ rfl];rfl
 have o4:(w.alloc (Obj.cells #[.int .i64 (A:Int),.int .i64 (B:Int),.int .i64 (C:Int),.string s,.string t] 37)).cell? ⟨w.heap.size,4,none⟩=some (.string t):=by rw[World.cell?_alloc_at _ _ _ _ rfl];rfl
 have hxne:x≠w.heap.size:=by omega
 have hxne':w.heap.size≠x:=by omega
 replace hk0:Hid _:=hk0;replace hfz:Hid _:=hfz;replace hcs:Hid _:=hcs;go_enter Tryz.func9,Tryz.ntmps9;go_wp2_with fail;generalize (w.alloc (Obj.cells #[.int .i64 (A:Int),.int .i64 (B:Int),.int .i64 (C:Int),.string s,.string t] 37))=w0 at *;obtain ⟨u8,hu8⟩:=Option.isSome_iff_exists.1 (hcs0 8 (by omega));obtain ⟨u9,hu9⟩:=Option.isSome_iff_exists.1 (hcs0 9 (by omega));obtain ⟨u10,hu10⟩:=Option.isSome_iff_exists.1 (hcs0 10 (by omega));obtain ⟨u11,hu11⟩:=Option.isSome_iff_exists.1 (hcs0 11 (by omega));obtain ⟨u12,hu12⟩:=Option.isSome_iff_exists.1 (hcs0 12 (by omega));obtain ⟨u13,hu13⟩:=Option.isSome_iff_exists.1 (hcs0 13 (by omega));have z8:=hfz0 8;have z9:=hfz0 9;have z10:=hfz0 10;have z11:=hfz0 11;have z12:=hfz0 12;have z13:=hfz0 13;replace hfz0:Hid _:=hfz0;replace hcs0:Hid _:=hcs0;refine (FP.out _ A 4000 (by omega) (by omega) (by omega)).mono ?_;rintro r w0 ⟨⟨P,hP,rfl⟩,rfl⟩;go_wp2_with fail;refine (FP.out _ B 8 (by omega) (by omega) (by omega)).mono ?_;rintro r w1 ⟨⟨V,hV,rfl⟩,hw1⟩;subst hw1;go_wp2_with fail;refine (FP.out _ C 65 (by omega) (by omega) (by omega)).mono ?_;rintro r w1 ⟨⟨Z,hZ,rfl⟩,hw1⟩;subst hw1;go_upto_block 0 with fail
 have H6:Hid (ChAt w ((((((w0.setCell ⟨x,10,none⟩ (Value.int IntKind.i64 ((P:Int)+1))).setCell ⟨x,12,none⟩ (Value.int IntKind.i64 (V:Int))).setCell ⟨x,13,none⟩ (Value.int IntKind.i64 (Z:Int))).setCell ⟨x,8,none⟩ (Value.slice none 0 0)).setCell ⟨x,9,none⟩ (Value.slice none 0 0)).setCell ⟨x,11,none⟩ (Value.slice none 0 0)) x (w.heap.size+1) w.heap.size s t ((P:Int)+1) (V:Int) (Z:Int) (.slice none 0 0) (.slice none 0 0) (.slice none 0 0) [] [] []):=by
  have oth:∀ (W':World) (a b:Nat) (u:Value),a≠b->(W'.setCell ⟨x,a,none⟩ u).cell? ⟨x,b,none⟩=W'.cell? ⟨x,b,none⟩:=fun W' a b u h=>cell_set_other _ _ _ _ _ h
  have ot2:∀ (W':World) (a b:Nat) (u:Value),(W'.setCell ⟨x,a,none⟩ u).cell? ⟨w.heap.size,b,none⟩=W'.cell? ⟨w.heap.size,b,none⟩:=fun W' a b u=>World.cell?_setCell_other _ _ _ _ (by intro q;injection q;omega)
  have hsize:∀ (W':World) (a:Nat) (u:Value),(W'.setCell ⟨x,a,none⟩ u).heap.size=W'.heap.size:=fun W' a u=>by simp [World.setCell]
  refine ⟨by omega,by omega,by omega,by simp only [hsize];omega,fun k=>by simp only [World.frozen?_setCell];exact hfz0.out k,?_,?_,?_,?_,?_,?_,OwnI.nil _ _,OwnI.nil _ _,OwnI.nil _ _,(fun g hg=>by cases hg),(fun g hg=>by cases hg),(fun g hg=>by cases hg),?_,?_,?_,?_,by omega⟩
  ·rw[oth _ 11 8 _ (by omega),oth _ 9 8 _ (by omega)]
   exact cell_set_same (by rw[oth _ 13 8 _ (by omega),oth _ 12 8 _ (by omega),oth _ 10 8 _ (by omega)];exact hu8) _
  ·rw[oth _ 11 9 _ (by omega)]
   exact cell_set_same (by rw[oth _ 8 9 _ (by omega),oth _ 13 9 _ (by omega),oth _ 12 9 _ (by omega),oth _ 10 9 _ (by omega)];exact hu9) _
  ·exact cell_set_same (by rw[oth _ 9 11 _ (by omega),oth _ 8 11 _ (by omega),oth _ 13 11 _ (by omega),oth _ 12 11 _ (by omega),oth _ 10 11 _ (by omega)];exact hu11) _
  ·rw[oth _ 11 10 _ (by omega),oth _ 9 10 _ (by omega),oth _ 8 10 _ (by omega),oth _ 13 10 _ (by omega),oth _ 12 10 _ (by omega)]
   exact cell_set_same hu10 _
  ·rw[oth _ 11 12 _ (by omega),oth _ 9 12 _ (by omega),oth _ 8 12 _ (by omega),oth _ 13 12 _ (by omega)]
   exact cell_set_same (by rw[oth _ 10 12 _ (by omega)];exact hu12) _
  ·rw[oth _ 11 13 _ (by omega),oth _ 9 13 _ (by omega),oth _ 8 13 _ (by omega)]
   exact cell_set_same (by rw[oth _ 12 13 _ (by omega),oth _ 10 13 _ (by omega)];exact hu13) _
  ·simp only [ot2];exact o3
  ·simp only [ot2];exact o4
  ·intro j hj
   rw[oth _ 11 j _ (by omega),oth _ 9 j _ (by omega),oth _ 8 j _ (by omega),oth _ 13 j _ (by omega),oth _ 12 j _ (by omega),oth _ 10 j _ (by omega)];exact hk0.out.cell (p:=⟨x,j,none⟩) hx
  ·exact Fr1.set (Fr1.set (Fr1.set (Fr1.set (Fr1.set (Fr1.set (Fr.of_kept hk0.out) _ _) _ _) _ _) _ _) _ _) _ _
 generalize ((((((w0.setCell ⟨x,10,none⟩ (Value.int IntKind.i64 ((P:Int)+1))).setCell ⟨x,12,none⟩ (Value.int IntKind.i64 (V:Int))).setCell ⟨x,13,none⟩ (Value.int IntKind.i64 (Z:Int))).setCell ⟨x,8,none⟩ (Value.slice none 0 0)).setCell ⟨x,9,none⟩ (Value.slice none 0 0)).setCell ⟨x,11,none⟩ (Value.slice none 0 0))=w6 at *;clear hu8 hu9 hu10 hu11 hu12 hu13 z8 z9 z10 z11 z12 z13 o1 o2 o3 o4 hfz0 hcs0 hk0;go_cut [] from 7 (fun W=>∃ fv kv:Value,∃ fl kl:List Int,fl.length<=64/\kl.length<=64/\(∀ y ∈ fl,0<=y/\y<=4)/\(∀ y ∈ kl,0<=y/\y<=2)/\ChAt w W x (w.heap.size+1) w.heap.size s t ((P:Int)+1) (V:Int) (Z:Int) fv kv (.slice none 0 0) fl kl [])
 case first=>
  go_wp2_with fail;go_loopw [5] (fun v W=>∃ i:Nat,∃ fv kv:Value,∃ fl kl:List Int,v = .int .i64 (i:Int)/\i<=s.size/\i<=64/\fl.length=i/\kl.length=i/\(∀ y ∈ fl,0<=y/\y<=4)/\(∀ y ∈ kl,0<=y/\y<=2)/\ChAt w W x (w.heap.size+1) w.heap.size s t ((P:Int)+1) (V:Int) (Z:Int) fv kv (.slice none 0 0) fl kl []) (fun v _=>64 - (intOf v).toNat)
  case atStart=>exact ⟨0,_,_,[],[],rfl,by omega,by omega,rfl,rfl,fun y hy=>by simp at hy,fun y hy=>by simp at hy,H6.out⟩
  case round=>
   obtain ⟨i,fv,kv,fl,kl,rfl,hi1,hi2,hfl,hkl,hfb,hkb,hCh⟩:=hrel;clear H6;by_cases hlt:i<s.size/\i<64
   ·obtain ⟨l1,l2⟩:=hlt
    have l1':(i:Int)<(s.size:Int):=by omega
    have l2':(i:Int)<64:=by omega
    have i0:(0:Int)<=(i:Int):=by omega
    obtain ⟨pf,cf,rfl⟩:=hCh.of.slice;obtain ⟨pk,ck,rfl⟩:=hCh.ok.slice;have c8:=hCh.c8;have c3:=hCh.o3;have f8:=hCh.fz 8;have hszr:=hCh.size;have hxr:x<wr.heap.size:=by omega
    replace hfl:Hid _:=hfl;replace hkl:Hid _:=hkl;replace hfb:Hid _:=hfb;replace hkb:Hid _:=hkb;have hflb:fl.length<=64:=by have:=hfl.out;omega
    have HOf:Hid (OwnI wr (w.heap.size+1) (.slice pf fl.length cf) fl):=hCh.of;have hnx:¬ (Value.slice pf fl.length cf).ownBlock=some x:=fun e=>by have:=HOf.out.ge x e;omega
    replace hCh:Hid _:=hCh;go_wp2;have hB:s[i].toNat<256:=UInt8.toNat_lt _;obtain ⟨E1,hE1⟩:∃ E1:Int,E1=(IntKind.i64.wrap (s[i].toNat:Int)).tmod 5:=⟨_,rfl⟩;have hE1b:0<=E1/\E1<=4:=by
     rw[hE1,wrapN _ (by omega),Int.tmod_eq_emod_of_nonneg (by omega)];omega
    replace hE1:Hid (E1=(IntKind.i64.wrap (s[i].toNat:Int)).tmod 5):=hE1;go_region_law ((refine stepI (by rfl) _ _ (by rfl) (w.heap.size+1) (.slice pf fl.length cf) fl (by rfl) (by exact (HOf.out.alloc _).drewN 1) wr.heap.size 1 E1 (by rfl) (by rw[hE1.out];simp) (by omega) (by simp;omega) ?_;intro g' cap w2 ho2 hf2 hn2;have fk:Fr (fun k=>(Value.slice pf fl.length cf).ownBlock=some k) wr w2:=(((Fr.refl _ wr).alloc _).drewN 1).trans hf2;have k8:=(fk.cell (k:=8) hxr hnx).trans c8;have g8:=(fk.frozen (k:=8) hxr hnx).trans f8))
    all_goals
     have C2:Hid (ChAt w (w2.setCell ⟨x,8,none⟩ (Value.slice (some ⟨g',0,none⟩) (fl.length+1) cap)) x (w.heap.size+1) w.heap.size s t ((P:Int)+1) (V:Int) (Z:Int) (Value.slice (some ⟨g',0,none⟩) (fl.length+1) cap) (.slice pk kl.length ck) (.slice none 0 0) (fl++[E1]) kl []):=ChAt.grow_f hCh.out _ _ fk ho2 (fun g hg=>by
      have e:g'=g:=by injection hg
      subst e;rcases hn2 with q | q
      ·exact Or.inl q
      ·exact Or.inr (by simp at q;omega))
     clear fk hf2 ho2 hn2 k8 g8 hCh c8 c3 f8 HOf hnx;generalize w2.setCell ⟨x,8,none⟩ (Value.slice (some ⟨g',0,none⟩) (fl.length+1) cap)=w3 at *;have c9:=C2.out.c9;have c3:=C2.out.o3;have f9:=C2.out.fz 9;have hsz3:=C2.out.size;have hx3:x<w3.heap.size:=by omega
     have HOk:Hid (OwnI w3 (w.heap.size+1) (.slice pk kl.length ck) kl):=C2.out.ok;have hnx:¬ (Value.slice pk kl.length ck).ownBlock=some x:=fun e=>by have:=HOk.out.ge x e;omega
     have hklb:kl.length<=64:=by have:=hkl.out;omega
     go_wp2;obtain ⟨E2,hE2⟩:∃ E2:Int,E2=(IntKind.i64.wrap ((IntKind.i64.wrap (s[i].toNat:Int)).tdiv 5)).tmod 3:=⟨_,rfl⟩;have hE2b:0<=E2/\E2<=2:=by
      rw[hE2,wrapN _ (by omega),Int.tdiv_eq_ediv_of_nonneg (by omega),wrapZ _ (by omega) (by omega),Int.tmod_eq_emod_of_nonneg (by omega)];omega
     replace hE2:Hid (E2=(IntKind.i64.wrap ((IntKind.i64.wrap (s[i].toNat:Int)).tdiv 5)).tmod 3):=hE2;go_region_law ((refine stepI (by rfl) _ _ (by rfl) (w.heap.size+1) (.slice pk kl.length ck) kl (by rfl) (by exact (HOk.out.alloc _).drewN 1) w3.heap.size 1 E2 (by rfl) (by rw[hE2.out];simp) (by omega) (by simp;omega) ?_;intro g2' cap2 w4 ho4 hf4 hn4;have fk:Fr (fun k=>(Value.slice pk kl.length ck).ownBlock=some k) w3 w4:=(((Fr.refl _ w3).alloc _).drewN 1).trans hf4;have k9:=(fk.cell (k:=9) hx3 hnx).trans c9;have g9:=(fk.frozen (k:=9) hx3 hnx).trans f9))
     all_goals
      have C4:Hid (ChAt w (w4.setCell ⟨x,9,none⟩ (Value.slice (some ⟨g2',0,none⟩) (kl.length+1) cap2)) x (w.heap.size+1) w.heap.size s t ((P:Int)+1) (V:Int) (Z:Int) (Value.slice (some ⟨g',0,none⟩) (fl.length+1) cap) (Value.slice (some ⟨g2',0,none⟩) (kl.length+1) cap2) (.slice none 0 0) (fl++[E1]) (kl++[E2]) []):=ChAt.grow_k C2.out _ _ fk ho4 (fun g hg=>by
       have e:g2'=g:=by injection hg
       subst e;rcases hn4 with q | q
       ·exact Or.inl q
       ·exact Or.inr (by simp at q;omega))
      clear fk hf4 ho4 hn4 k9 g9;go_wp2;refine ⟨⟨i+1,_,_,fl++[E1],kl++[E2],by go_num,by omega,by omega,by simp;exact hfl.out,by simp;exact hkl.out,?_,?_,C4.out⟩,by simp [intOf];omega⟩
      ·intro y hy
       rcases List.mem_append.1 hy with q | q
       ·exact hfb.out y q
       ·simp at q;omega
      ·intro y hy
       rcases List.mem_append.1 hy with q | q
       ·exact hkb.out y q
       ·simp at q;omega
   ·replace hCh:Hid _:=hCh
    have hx1:fl.length<=64:=by omega
    have hx2:kl.length<=64:=by omega
    have HX:Hid (∃ fv kv:Value,∃ fl kl:List Int,fl.length<=64/\kl.length<=64/\(∀ y ∈ fl,0<=y/\y<=4)/\(∀ y ∈ kl,0<=y/\y<=2)/\ChAt w wr x (w.heap.size+1) w.heap.size s t ((P:Int)+1) (V:Int) (Z:Int) fv kv (.slice none 0 0) fl kl []):=⟨fv,kv,fl,kl,hx1,hx2,hfb,hkb,hCh.out⟩;have c3:=hCh.out.o3;clear hfl hkl hfb hkb hCh hx1 hx2;by_cases hs1:i<s.size
    ·have l1:(i:Int)<(s.size:Int):=by omega
     have l2:¬ (i:Int)<64:=by omega
     go_wp2;go_meet
     case rel=>exact HX.out
    ·have l1:¬ (i:Int)<(s.size:Int):=by omega
     go_wp2;go_meet
     case rel=>exact HX.out
 case rest=>
  obtain ⟨fv,kv,fl,kl,hfl,hkl,hfb,hkb,hCh⟩:=hcut;clear H6;have c4:=hCh.o4;replace hCh:Hid (ChAt w wc x (w.heap.size+1) w.heap.size s t ((P:Int)+1) (V:Int) (Z:Int) fv kv (.slice none 0 0) fl kl []):=hCh;replace hfl:Hid _:=hfl;replace hkl:Hid _:=hkl;replace hfb:Hid _:=hfb;replace hkb:Hid _:=hkb;go_upto_block 2 with fail
  go_cut [] from 7 (fun W=>∃ cv:Value,∃ cl:List Int,cl.length<=64/\(∀ y ∈ cl,0<=y/\y<=255)/\ChAt w W x (w.heap.size+1) w.heap.size s t ((P:Int)+1) (V:Int) (Z:Int) fv kv cv fl kl cl)
  case first=>
   go_wp2_with fail;go_loopw [6] (fun v W=>∃ j:Nat,∃ cv:Value,∃ cl:List Int,v = .int .i64 (j:Int)/\j<=t.size/\j<=64/\cl.length=j/\(∀ y ∈ cl,0<=y/\y<=255)/\ChAt w W x (w.heap.size+1) w.heap.size s t ((P:Int)+1) (V:Int) (Z:Int) fv kv cv fl kl cl) (fun v _=>64 - (intOf v).toNat)
   case atStart=>exact ⟨0,_,[],rfl,by omega,by omega,rfl,fun y hy=>by simp at hy,hCh.out⟩
   case round=>
    obtain ⟨j,cv,cl,rfl,hj1,hj2,hcl,hcb,hC2⟩:=hrel;clear hCh c4;by_cases hlt2:j<t.size/\j<64
    ·obtain ⟨m1,m2⟩:=hlt2
     have m1':(j:Int)<(t.size:Int):=by omega
     have m2':(j:Int)<64:=by omega
     have j0:(0:Int)<=(j:Int):=by omega
     obtain ⟨pc,cc,rfl⟩:=hC2.oc.slice;have c11:=hC2.c11;have c4:=hC2.o4;have f11:=hC2.fz 11;have hszr:=hC2.size;have hxr:x<wr.heap.size:=by omega
     replace hcl:Hid _:=hcl;replace hcb:Hid _:=hcb;have hclb:cl.length<=64:=by have:=hcl.out;omega
     have HOc:Hid (OwnI wr (w.heap.size+1) (.slice pc cl.length cc) cl):=hC2.oc;have hnx:¬ (Value.slice pc cl.length cc).ownBlock=some x:=fun e=>by have:=HOc.out.ge x e;omega
     replace hC2:Hid _:=hC2;have hB:t[j].toNat<256:=UInt8.toNat_lt _;obtain ⟨E1,hE1⟩:∃ E1:Int,E1=IntKind.i64.wrap (t[j].toNat:Int):=⟨_,rfl⟩;have hE1b:0<=E1/\E1<=255:=by rw[hE1,wrapN _ (by omega)];omega
     replace hE1:Hid (E1=IntKind.i64.wrap (t[j].toNat:Int)):=hE1;go_wp2;go_region_law ((refine stepI (by rfl) _ _ (by rfl) (w.heap.size+1) (.slice pc cl.length cc) cl (by rfl) (by exact (HOc.out.alloc _).drewN 1) wr.heap.size 1 E1 (by rfl) (by rw[hE1.out];simp) (by omega) (by simp;omega) ?_;intro g' cap w2 ho2 hf2 hn2;have fk:Fr (fun k=>(Value.slice pc cl.length cc).ownBlock=some k) wr w2:=(((Fr.refl _ wr).alloc _).drewN 1).trans hf2;have k11:=(fk.cell (k:=11) hxr hnx).trans c11;have g11:=(fk.frozen (k:=11) hxr hnx).trans f11))
     all_goals
      have C3:Hid (ChAt w (w2.setCell ⟨x,11,none⟩ (Value.slice (some ⟨g',0,none⟩) (cl.length+1) cap)) x (w.heap.size+1) w.heap.size s t ((P:Int)+1) (V:Int) (Z:Int) fv kv (Value.slice (some ⟨g',0,none⟩) (cl.length+1) cap) fl kl (cl++[E1])):=ChAt.grow_c hC2.out _ _ fk ho2 (fun g hg=>by
       have e:g'=g:=by injection hg
       subst e;rcases hn2 with q | q
       ·exact Or.inl q
       ·exact Or.inr (by simp at q;omega))
      clear fk hf2 ho2 hn2 k11 g11;go_wp2;refine ⟨⟨j+1,_,cl++[E1],by go_num,by omega,by omega,by simp;exact hcl.out,?_,C3.out⟩,by simp [intOf];omega⟩;intro y hy;rcases List.mem_append.1 hy with q | q
      ·exact hcb.out y q
      ·simp at q;omega
    ·replace hC2:Hid _:=hC2
     have hx1:cl.length<=64:=by omega
     have HX:Hid (∃ cv:Value,∃ cl:List Int,cl.length<=64/\(∀ y ∈ cl,0<=y/\y<=255)/\ChAt w wr x (w.heap.size+1) w.heap.size s t ((P:Int)+1) (V:Int) (Z:Int) fv kv cv fl kl cl):=⟨cv,cl,hx1,hcb,hC2.out⟩;have c4:=hC2.out.o4;clear hcl hcb hC2 hx1;by_cases hs1:j<t.size
     ·have l1:(j:Int)<(t.size:Int):=by omega
      have l2:¬ (j:Int)<64:=by omega
      go_wp2;go_meet
      case rel=>exact HX.out
     ·have l1:¬ (j:Int)<(t.size:Int):=by omega
      go_wp2;go_meet
      case rel=>exact HX.out
  case rest=>
   obtain ⟨cv,cl,hcl,hcb,hC⟩:=hcut;clear hCh c4;obtain ⟨pf,cf,rfl⟩:=hC.of.slice;obtain ⟨pk,ck,rfl⟩:=hC.ok.slice;obtain ⟨pc,cc,rfl⟩:=hC.oc.slice;have k8:=hC.c8;have k9:=hC.c9;have k11:=hC.c11;have z8:=hC.fz 8;replace hcl:Hid _:=hcl;replace hcb:Hid _:=hcb;replace hC:Hid (ChAt w wc x (w.heap.size+1) w.heap.size s t ((P:Int)+1) (V:Int) (Z:Int) (.slice pf fl.length cf) (.slice pk kl.length ck) (.slice pc cl.length cc) fl kl cl):=hC;go_wp2_with fail;refine (some_own (w.heap.size+1) pf cf fl 1 wc hC.out.of hC.out.size (by have:=hfl.out;omega)).mono ?_;rintro r w1 ⟨g1,d1,fl',rfl,ho1,hl1,hm1,hn1,hk1⟩;replace k8:=(hk1.cell (p:=⟨x,8,none⟩) (Nat.lt_of_lt_of_le hC.out.lt hC.out.size)).trans k8;replace k9:=(hk1.cell (p:=⟨x,9,none⟩) (Nat.lt_of_lt_of_le hC.out.lt hC.out.size)).trans k9;replace z8:=(hk1.frozen (p:=⟨x,8,none⟩) (Nat.lt_of_lt_of_le hC.out.lt hC.out.size)).trans z8;clear k11;have C1:Hid (ChAt w (w1.setCell ⟨x,8,none⟩ (.slice (some ⟨g1,0,none⟩) fl'.length d1)) x (w.heap.size+1) w.heap.size s t ((P:Int)+1) (V:Int) (Z:Int) (.slice (some ⟨g1,0,none⟩) fl'.length d1) (.slice pk kl.length ck) (.slice pc cl.length cc) fl' kl cl):=ChAt.grow_f hC.out _ fl' (Fr.of_kept hk1) ho1 (own_hn hn1);have hb1:Hid (∀ y ∈ fl',0<=y/\y<=4):=some_mem hm1 (by omega) hfb.out;have hq1:Hid (fl'.length<=64):=some_len hm1 hfl.out;clear hk1 ho1 hm1 hn1;replace hl1:Hid _:=hl1;go_wp2_with fail;generalize (w1.setCell ⟨x,8,none⟩ (.slice (some ⟨g1,0,none⟩) fl'.length d1))=w2 at *;clear k8 k9 z8;have k9:=C1.out.c9;have z9:=C1.out.fz 9;have k11:=C1.out.c11;refine (some_own (w.heap.size+1) pk ck kl 2 w2 C1.out.ok C1.out.size (by have:=hkl.out;omega)).mono ?_;rintro r w3 ⟨g2,d2,kl',rfl,ho1,hl2,hm1,hn1,hk1⟩;replace k9:=(hk1.cell (p:=⟨x,9,none⟩) (Nat.lt_of_lt_of_le C1.out.lt C1.out.size)).trans k9;replace k11:=(hk1.cell (p:=⟨x,11,none⟩) (Nat.lt_of_lt_of_le C1.out.lt C1.out.size)).trans k11;replace z9:=(hk1.frozen (p:=⟨x,9,none⟩) (Nat.lt_of_lt_of_le C1.out.lt C1.out.size)).trans z9;have C2:Hid (ChAt w (w3.setCell ⟨x,9,none⟩ (.slice (some ⟨g2,0,none⟩) kl'.length d2)) x (w.heap.size+1) w.heap.size s t ((P:Int)+1) (V:Int) (Z:Int) (.slice (some ⟨g1,0,none⟩) fl'.length d1) (.slice (some ⟨g2,0,none⟩) kl'.length d2) (.slice pc cl.length cc) fl' kl' cl):=ChAt.grow_k C1.out _ kl' (Fr.of_kept hk1) ho1 (own_hn hn1)
   have hb2:Hid (∀ y ∈ kl',0<=y/\y<=2):=some_mem hm1 (by omega) hkb.out;have hq2:Hid (kl'.length<=64):=some_len hm1 hkl.out;clear hk1 ho1 hm1 hn1 C1 hC;replace hl2:Hid _:=hl2;go_wp2_with fail;generalize (w3.setCell ⟨x,9,none⟩ (.slice (some ⟨g2,0,none⟩) kl'.length d2))=w4 at *;clear k9 z9 k11;have k11:=C2.out.c11;have z11:=C2.out.fz 11;refine (some_own (w.heap.size+1) pc cc cl 9 w4 C2.out.oc C2.out.size (by have:=hcl.out;omega)).mono ?_;rintro r w5 ⟨g3,d3,cl',rfl,ho1,hl3,hm1,hn1,hk1⟩;replace k11:=(hk1.cell (p:=⟨x,11,none⟩) (Nat.lt_of_lt_of_le C2.out.lt C2.out.size)).trans k11;replace z11:=(hk1.frozen (p:=⟨x,11,none⟩) (Nat.lt_of_lt_of_le C2.out.lt C2.out.size)).trans z11;have C3:Hid (ChAt w (w5.setCell ⟨x,11,none⟩ (.slice (some ⟨g3,0,none⟩) cl'.length d3)) x (w.heap.size+1) w.heap.size s t ((P:Int)+1) (V:Int) (Z:Int) (.slice (some ⟨g1,0,none⟩) fl'.length d1) (.slice (some ⟨g2,0,none⟩) kl'.length d2) (.slice (some ⟨g3,0,none⟩) cl'.length d3) fl' kl' cl'):=ChAt.grow_c C2.out _ cl' (Fr.of_kept hk1) ho1 (own_hn hn1);have hb3:Hid (∀ y ∈ cl',0<=y/\y<=255):=some_mem hm1 (by omega) hcb.out;have hq3:Hid (cl'.length<=64):=some_len hm1 hcl.out;have e0:w5.cell? ⟨g3,0,none⟩=some (.int .i64 (cl'.getD 0 0)):=OwnI.cell0 ho1 0 hl3;have z0:=World.ownsRow.frozenAt ho1 0;have hg3:x≠g3:=fun e=>by have:=ho1.ge g3 rfl;have:=C2.out.lt;omega
   have hg3':g3≠x:=fun e=>hg3 e.symm
   clear hk1 ho1 hm1 hn1 C2;have hl3':0<(cl'.length:Int):=by omega
   obtain ⟨c0,hc0⟩:∃ c0,c0=cl'.getD 0 0:=⟨_,rfl⟩;rw[<- hc0] at e0;replace hc0:Hid _:=hc0;have hb0:0<=c0/\c0<=255:=by rw[hc0.out];exact hb3.out _ (getD_mem hl3)
   by_cases h0:c0=0
   ·have h0':(c0 == 0)=true:=by rw[h0];rfl
    subst h0;go_wp2;go_end0
    have C4:=ChAt.first C3.out 1;have hl:(cl'.set 0 1).length=cl'.length:=List.length_set;have C5:ChAt w ((w5.setCell ⟨x,11,none⟩ (.slice (some ⟨g3,0,none⟩) cl'.length d3)).setCell ⟨g3,0,none⟩ (.int .i64 1)) x (w.heap.size+1) w.heap.size s t ((P:Int)+1) (V:Int) (Z:Int) (.slice (some ⟨g1,0,none⟩) fl'.length d1) (.slice (some ⟨g2,0,none⟩) kl'.length d2) (.slice (some ⟨g3,0,none⟩) (cl'.set 0 1).length d3) fl' kl' (cl'.set 0 1):=by rw[hl];exact C4
    refine ⟨rfl,P+1,V,Z,_,_,_,_,_,_,fl',kl',cl'.set 0 1,C5.done hP hV hZ hl1.out hq1.out hb1.out hl2.out hq2.out hb2.out (by rw[hl];exact hl3) (by rw[hl];exact hq3.out) ?_ ?_⟩
    ·intro y hy
     rcases List.mem_or_eq_of_mem_set hy with q | q
     ·exact hb3.out y q
     ·omega
    ·have:0<cl'.length:=hl3
     simp [List.getD_eq_getElem?_getD,List.getElem?_set,this]
   ·have h0':(c0 == 0)=false:=by rw[beq_eq_false_iff_ne];exact h0
    go_wp2;go_end0
    exact ⟨rfl,P+1,V,Z,_,_,_,_,_,_,fl',kl',cl',C3.out.done hP hV hZ hl1.out hq1.out hb1.out hl2.out hq2.out hb2.out hl3 hq3.out hb3.out (by rw[<- hc0.out];exact h0)⟩
