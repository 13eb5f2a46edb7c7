import Derived.Test.YtgooinallljbpaaGreatDoorTd15
set_option maxRecDepth 100000
set_option maxHeartbeats 6400000
namespace Go.Proofs.YtgooinallljbpaaGreatDoor
open Go.RowKit
set_option linter.unusedSimpArgs false
set_option linter.unusedVariables false
def xB (W:World) (b N:Nat):Nat:=
 match W.cell? ⟨b,2,none⟩,W.cell? ⟨b,3,none⟩,W.cell? ⟨b,1,none⟩ with
 | some (.bool false),some (.int .i64 0),some (.int .i64 a)=>N+1 - a.toNat
 | _,_,_=>0
theorem bR {W:World} {b N a:Nat} {v:Value} (h:BAt W b v ⟨a,false,0⟩):xB W b N=N+1 - a:=by
 unfold xB;rw[h.c2,h.c3,h.c1];simp
theorem lO {W:World} {b N:Nat} {v:Value} {t:Px.Bt} (h:BAt W b v t) (ho:t.on=false):xB W b N=0:=by
 unfold xB;rw[h.c2,h.c3,h.c1];unfold Px.Bt.on at ho;cases hc:t.cut
 ·rw[hc] at ho
  have he:¬ t.err=0:=by simpa using ho
  obtain ⟨e,he2⟩:∃ e,t.err=e+1:=⟨t.err - 1,by omega⟩;rw[he2];rfl
 ·rfl
theorem qd.cases' {z:List Px.One} {a:Nat} {l:List Nat} {s:Nat} {t':Px.Bt} (h:qd z ⟨a,false,0⟩ l s t') :
  (∃ n,Px.bK z a l s n/\t'=⟨a+n,false,0⟩)\/(∃ n,Px.qD z a l n/\t'=⟨a+n,false,13⟩)\/(Px.cY z a l (8*z.length - a)/\t'=⟨8*z.length,true,0⟩):=by
 cases h using qd.cs with
 | got _ n h1 h2 go hs no hit=>exact Or.inl ⟨n,⟨h1,h2,go,hs,no,hit⟩,rfl⟩
 | bad n h1 h2 go no nm=>exact Or.inr (Or.inl ⟨n,⟨h1,h2,go,no,nm⟩,rfl⟩)
 | cut go=>exact Or.inr (Or.inr ⟨go,rfl⟩)
theorem pZ {b:Nat} {w w':World} {base:Nat} {e:TypeId} {size:Nat} {v:Value} {n:Nat} {xs:List Value} (h:w.ownsRow base e size v n xs) (k:Fr1 b w w') (hb:b<base):w'.ownsRow base e size v n xs:=by
 refine h.kept (row:=some b) ⟨k.os,k.tape,k.output,k.size,fun j hj hn=>k.block j hj (fun e=>hn (by rw[e]))⟩ ?_
 right
 intro e
 have:=(h.lt b e).1
 omega
structure uA (w:World) (b:Nat) (v:Value) (z:List Px.One) (a0 nl nd:Nat) (s:Px.St) (sl:List Nat) (u:Value) (W:World) (out:List Nat) (t':Px.Bt):Prop where
 own:W.ownsRow w.heap.size 3 1 u out.length (ints out)
 le:∀ x ∈ out,x<=15
 bat:BAt W b v t'
 fr:Fr1 b w W
 st:(t'.cut=false/\t'.err=0/\t'.a<=8*z.length/\out.length=nl+nd/\Px.Ends z a0 (Px.clS s nl nd sl []) t'.a (s.lens nl nd sl out) s.out)\/Px.Stop z a0 (Px.clS s nl nd sl []) s.out t'
theorem Am (b B:Nat) (v:Value) (z:List Px.One) (a0 nl nd:Nat) (s:Px.St) (sl:List Nat) (w:World) (h:BAt w b v ⟨a0,false,0⟩) (hz:ZAt w v z) (hv:∀ g,ae v=some g->g≠b) (hk:si w B sl (fun k=>k=b)) (hl:Px.bD sl) (h19:sl.length=19) (hg:Px.good z) (ha:a0<=8*z.length) (hn:nl+nd<=316) (hn0:0<nl+nd) (M:Nat) (hM:M=nl+nd) :
  Calls Tryz.prog 110 #[.pointer (some ⟨b,0,none⟩),.pointer (some ⟨B,0,none⟩),.int .i64 (M:Int)] w fun r w'=>∃ (u:Value) (out:List Nat) (t':Px.Bt),r = .returned u/\uA w b v z a0 nl nd s sl u w' out t':=by
 have hz2:=hg.2.1;have hM1:M<=nl+nd:=by omega
 have hM2:nl+nd<=M:=by omega
 have hM316:M<=316:=by omega
 clear hM;go_enter Tryz.func110,Tryz.ntmps110;go_wp2;go_loopw [7] (fun u W=>∃ (out:List Nat) (t1:Px.Bt),W.ownsRow w.heap.size 3 1 u out.length (ints out)/\out.length<=nl+nd/\(∀ x ∈ out,x<=15)/\BAt W b v t1/\Fr1 b w W/\((t1.cut=false/\t1.err=0/\t1.a<=8*z.length/\Px.pU z a0 s nl nd sl t1.a out)\/Px.Stop z a0 (Px.clS s nl nd sl []) s.out t1)) (fun _ W=>xB W b (8*z.length))
 case atStart=>exact ⟨[],⟨a0,false,0⟩,World.ownsRow_nil _ _ _ _,by simp,by simp,h,Fr.refl _ _,Or.inl ⟨rfl,rfl,ha,Or.inl ⟨hn0,.refl _ _⟩⟩⟩
 case round=>
  obtain ⟨out,t1,ho,hol,ho15,hb,hw,hst⟩:=hrel;obtain ⟨p,c,rfl⟩:=aq ho;have fin:∀ W,BAt W b v t1->W.ownsRow w.heap.size 3 1 (.slice p out.length c) out.length (ints out)->Fr1 b w W->(t1.on=false\/out.length=nl+nd)->uA w b v z a0 nl nd s sl (.slice p out.length c) W out t1:=by
   intro W h1 h2 h3 h4;refine ⟨h2,ho15,h1,h3,?_⟩;rcases hst with ⟨e1,e2,e3,hlo⟩ | hst
   ·have hon:t1.on=true:=by unfold Px.Bt.on;rw[e1,e2];rfl
    rcases h4 with h4 | h4
    ·rw[hon] at h4;cases h4
    ·rcases hlo with ⟨h5,_⟩ | ⟨h5,h6⟩
     ·omega
     ·exact Or.inl ⟨e1,e2,e3,h5,h6⟩
   ·exact Or.inr hst
  have ON:=a9 b v t1 wr hb;by_cases hlt:out.length<nl+nd
  ·rcases hst with ⟨e1,e2,e3,hlo⟩ | hst
   ·have hon:t1.on=true:=by unfold Px.Bt.on;rw[e1,e2];rfl
    rw[hon] at ON;have hON:Hid (Calls Tryz.prog 61 _ wr _):=ON;clear ON fin;obtain ⟨a,rfl⟩:∃ a,t1=⟨a,false,0⟩:=⟨t1.a,by cases t1;simp at e1 e2;subst e1;subst e2;rfl⟩;have hrun:Hid (Px.Run z a0 (Px.clS s nl nd sl []) a (Px.clS s nl nd sl out)):=by
     rcases hlo with ⟨_,h6⟩ | ⟨h5,_⟩
     ·exact h6
     ·omega
    have hz1:=hz.fr hw hv;have hk1:=hk.fr hw;have SY:Hid (Calls Tryz.prog 105 _ wr _):=sB b B v z ⟨a,false,0⟩ sl wr hb hz1 hv hk1 hl hg e3 rfl rfl;have hlt':(out.length:Int)<(M:Int):=by omega
    clear hlo;go_wp2_with fail;refine hON.out.mono ?_;rintro r w1 ⟨rfl,rfl⟩;go_wp2_with fail;refine SY.out.mono ?_;rintro r w2 ⟨c1,t2,rfl,hs2,hb2,hw2⟩;rcases hs2.cases' with ⟨n,hgot,rfl⟩ | ⟨n,hbad,rfl⟩ | ⟨hcut,rfl⟩
    ·have ON2:Hid (Calls Tryz.prog 61 #[.pointer (some ⟨b,0,none⟩)] w2 fun r w'=>r = .returned (.bool true)/\w'=w2):=a9 b v _ w2 hb2
     have hc19:c1<19:=by have:=hgot.2.2.2.1;omega
     have hga:=hgot.2.1;have hgn:=hgot.1;have hown2:w2.ownsRow w.heap.size 3 1 (.slice p out.length c) out.length (ints out):=by
      refine ho.kept (row:=some b) ⟨hw2.os,hw2.tape,hw2.output,hw2.size,fun k hk hn=>hw2.block k hk (fun e=>hn (by rw[e]))⟩ ?_
      right
      intro e
      have:=(ho.lt b e).1
      have:=h.lt
      omega
     have hW2:Fr1 b w w2:=hw.trans hw2;have hbw:b<w.heap.size:=h.lt;have hsz:w.heap.size<=w2.heap.size:=hW2.size;have HG:Hid (Px.bK z a sl c1 n):=hgot;clear hgot hs2;by_cases h16:c1<16
     ·go_wp2_with fail
      refine ON2.out.mono ?_;rintro r w3 ⟨rfl,rfl⟩;have hO:Hid (w3.ownsRow w.heap.size 3 1 (.slice p out.length c) out.length (ints out)):=hown2;go_wp2_with (at_builtin;refine cI _ rfl _ _ rfl w.heap.size (.slice p out.length c) out rfl (hO.out.alloc _) w3.heap.size 1 c1 rfl (by simp) (by omega) (by simp;omega) ?_)
      intro u' w4 ho4 hg4 hn4;obtain ⟨p',c',rfl⟩:=aq ho4;have HO4:Hid (w4.ownsRow w.heap.size 3 1 (.slice p' (out.length+1) c') (out.length+1) (ints (out++[c1]))):=ho4;have hF4:Hid (Fr1 b w w4):=(hW2.alloc _).grown hg4 (fun k hk=>Or.inr (hO.out.lt k hk).1);have hb4:Hid (BAt w4 b v ⟨a+n,false,0⟩):=by
       refine hb2.same ?_;have h1:=hg4.block b (by simp;omega) (fun e=>by have:=(hO.out.lt b e.symm).1;omega);exact h1.trans (Below.heap_alloc _ _ _ (by omega))
      clear ho4 hg4 hn4;go_wp2;refine ⟨⟨out++[c1],⟨a+n,false,0⟩,by rw[List.length_append];exact HO4.out,by simp;omega,?_,hb4.out,hF4.out,Or.inl ⟨rfl,rfl,hga,Px.pU.lit hrun.out hlt HG.out h16⟩⟩,?_⟩
      ·intro x hx
       rcases List.mem_append.1 hx with hx | hx
       ·exact ho15 x hx
       ·simp at hx;omega
      ·rw[bR hb4.out,bR hb];omega
     ·by_cases hc16:c1=16
      ·subst hc16
       by_cases hne:out=[]
       ·subst hne
        have FA:Hid (Calls Tryz.prog 60 #[.pointer (some ⟨b,0,none⟩),.int .i64 12] w2 fun r w'=>r = .returned (.tuple #[])/\BAt w' b v ⟨a+n,false,12⟩/\Fr1 b w2 w'):=cV b v _ 12 w2 hb2 rfl rfl;go_wp2_with fail;refine ON2.out.mono ?_;rintro r w3 ⟨rfl,rfl⟩;go_wp2_with fail;refine FA.out.mono ?_;rintro r w5 ⟨rfl,hb6,hw6⟩;go_wp2;go_ret;have hp:uA w b v z a0 nl nd s sl (.slice p 0 c) w5 [] ⟨a+n,false,12⟩ :=
         ⟨pZ hown2 hw6 hbw,by simp,hb6,hW2.trans hw6,Or.inr (.err a _ 12 (a+n) hrun.out (Px.EH HG.out) rfl (by decide) hga)⟩
        first | exact ⟨_,[],_,rfl,hp⟩ | exact ⟨_,rfl,[],_,hp⟩
       ·have HNE:Hid (out≠[]):=hne
        have hpos:0<out.length:=List.length_pos_iff.2 hne;have HV15:Hid (Px.GH 16 out<=15):=by
         show (if 16=16 then out.getD (out.length - 1) 0 else 0)<=15
         rw[if_pos rfl,List.getD_eq_getElem?_getD,List.getElem?_eq_getElem (by omega)];exact ho15 _ (List.getElem_mem _)
        have hvl:∃ g,p=some ⟨g,0,none⟩/\w2.cell? ⟨g,out.length - 1,none⟩=some (.int .i64 (Px.GH 16 out:Int)):=by
         rcases hown2.2 with ⟨hv0,h0⟩ | ⟨g,cap,cur,hv0,hg0,r⟩
         ·omega
         ·have hv1:p=some ⟨g,0,none⟩:=by injection hv0
          refine ⟨g,hv1,?_⟩
          have:=hown2.cells (by rw[hv0];rfl) (out.length - 1) _ (Aq out (out.length - 1) (by omega))
          have e:(Addr.add ⟨g,0,none⟩ (out.length - 1))=⟨g,out.length - 1,none⟩:=by simp [Addr.add];intro h;exact h.symm
          rw[e] at this;exact this
        obtain ⟨g,rfl,hvc⟩:=hvl;clear hne;go_wp2_with fail;refine ON2.out.mono ?_;rintro r w3 ⟨rfl,rfl⟩;generalize hVV:Px.GH 16 out=VV at *;have HVV:Hid (Px.GH 16 out=VV):=hVV;clear hVV;have NU:Hid (Calls Tryz.prog 59 #[.pointer (some ⟨b,0,none⟩),.int .i64 2] w3 fun r w'=>∃ x:Nat,r = .returned (.int .i64 (x:Int))/\x<2^2/\((a+n)+2<=8*z.length->x=Px.ab z (a+n) 2)/\BAt w' b v ((⟨a+n,false,0⟩:Px.Bt).num z 2)/\Fr1 b w3 w'):=oa b v z ⟨a+n,false,0⟩ 2 w3 hb2 (hz.fr hW2 hv) hv hg hga (by omega) rfl;go_wp2_with fail;refine NU.out.mono ?_;rintro r w4 ⟨x,rfl,hx,hx2,hb4,hw4⟩;have hW4:Fr1 b w w4:=hW2.trans hw4;have hx128:x<128:=by omega
        have hown4:w4.ownsRow w.heap.size 3 1 (.slice (some ⟨g,0,none⟩) out.length c) out.length (ints out):=pZ hown2 hw4 hbw;have hrun4:Hid (Px.Run z a0 (Px.clS s nl nd sl []) (a+n) { s with ph := .rep nl nd sl out 16 }):=hrun.out.trans (.one (Px.vO HG.out (by omega) (fun h=>HNE.out h.2)));by_cases hfit:(a+n)+2<=8*z.length
        ·have hb5:BAt w4 b v ⟨a+n+2,false,0⟩:=by
          have e:(⟨a+n,false,0⟩:Px.Bt).num z 2=⟨a+n+2,false,0⟩:=by unfold Px.Bt.num;rw[if_neg (by simp),if_pos hfit]
          rw[e] at hb4;exact hb4
         have hxe:Hid (x=Px.ab z (a+n) 2):=hx2 hfit;have c2:w4.cell? ⟨b,2,none⟩=some (.bool false):=hb5.c2;have ON5:Hid (∀ W,BAt W b v ⟨a+n+2,false,0⟩->Calls Tryz.prog 61 #[.pointer (some ⟨b,0,none⟩)] W fun r w'=>r = .returned (.bool true)/\w'=W):=fun W hW=>a9 b v _ W hW
         clear hx2 hb4;by_cases hover:M<out.length+(x+3)
         ·have FA:Hid (Calls Tryz.prog 60 #[.pointer (some ⟨b,0,none⟩),.int .i64 12] w4 fun r w'=>r = .returned (.tuple #[])/\BAt w' b v ⟨a+n+2,false,12⟩/\Fr1 b w4 w'):=cV b v _ 12 w4 hb5 rfl rfl
          have ON6:Hid (∀ W,BAt W b v ⟨a+n+2,false,12⟩->Calls Tryz.prog 61 #[.pointer (some ⟨b,0,none⟩)] W fun r w'=>r = .returned (.bool false)/\w'=W):=fun W hW=>a9 b v _ W hW
          go_wp2_with fail;refine FA.out.mono ?_;rintro r w5 ⟨rfl,hb6,hw6⟩;have hown5:Hid (w5.ownsRow w.heap.size 3 1 (.slice (some ⟨g,0,none⟩) out.length c) out.length (ints out)):=pZ hown4 hw6 hbw;have hW5:Hid (Fr1 b w w5):=hW4.trans hw6;go_wp2;go_loopw [7,11] (fun u j W=>u = .slice (some ⟨g,0,none⟩) out.length c/\j = .int .i64 0/\W=w5) (fun _ _ _=>0)
          case atStart=>exact ⟨rfl,rfl,rfl⟩
          case round=>
           obtain ⟨rfl,rfl,rfl⟩:=hrel;go_wp2_with fail;refine (ON6.out _ hb6).mono ?_;rintro r w6 ⟨rfl,rfl⟩;go_wp2;have hover2:nl+nd<out.length+Px.vP 16 (Px.ab z (a+n) (Px.cF 16)):=by
            have:=hxe.out
            show nl+nd<out.length+(Px.ab z (a+n) 2+3)
            omega
           refine ⟨⟨out,⟨a+n+2,false,12⟩,hown5.out,hol,ho15,hb6,hW5.out,Or.inr (.err (a+n) _ 12 (a+n+2) hrun4.out (Px.xY (c:=16) hfit hover2) rfl (by decide) hfit)⟩,?_⟩;rw[lO hb6 rfl,bR hb];omega
         ·have hK:Hid (∃ K:Nat,K=x+3):=⟨_,rfl⟩
          obtain ⟨K,hKe⟩:=hK.out;have hKi:(x:Int)+3=(K:Int):=by omega
          have hK1:out.length+K<=M:=by omega
          have hK2:K<=316:=by omega
          have HK:Hid (K=x+3):=hKe;have hover':¬ M<out.length+(x+3):=hover;clear hKe;go_wp2;try rw[hKi]
          clear hKi;go_loopw [7,11] (fun u j W=>∃ i:Nat,i<=K/\j = .int .i64 (i:Int)/\W.ownsRow w.heap.size 3 1 u (out++List.replicate i VV).length (ints (out++List.replicate i VV))/\BAt W b v ⟨a+n+2,false,0⟩/\Fr1 b w W) (fun _ j _=>K - (intOf j).toNat)
          case atStart=>exact ⟨0,by omega,rfl,by simpa using hown4,hb5,hW4⟩
          case round=>
           obtain ⟨i,hi,rfl,hoi,hbi,hwi⟩:=hrel;obtain ⟨pi,ci,rfl⟩:=aq hoi;by_cases hiK:i<K
           ·have hli:(out++List.replicate i VV).length<=out.length+i:=by simp
            have hre:Hid (out++List.replicate (i+1) VV=(out++List.replicate i VV)++[VV]):=by show _=_;rw[List.replicate_succ',List.append_assoc]
            have hszi:w.heap.size<=wr.heap.size:=hwi.size;have hO:Hid (wr.ownsRow w.heap.size 3 1 (.slice pi (out++List.replicate i VV).length ci) (out++List.replicate i VV).length (ints (out++List.replicate i VV))):=hoi;clear hoi;generalize out++List.replicate i VV=L at *;go_wp2_with fail;refine (ON5.out _ hbi).mono ?_;rintro r w6 ⟨rfl,rfl⟩;go_wp2_with (at_builtin;refine cI _ rfl _ _ rfl w.heap.size (.slice pi L.length ci) L rfl (hO.out.alloc _) w6.heap.size 1 VV rfl (by simp) (by omega) (by simp;omega) ?_)
            intro u' w7 ho7 hg7 hn7;obtain ⟨p',c',rfl⟩:=aq ho7;have ho7':w7.ownsRow w.heap.size 3 1 (.slice p' (L.length+1) c') (L.length+1) (ints (L++[VV])):=by simpa using ho7
            have HO7:Hid (w7.ownsRow w.heap.size 3 1 (.slice p' (L.length+1) c') (L.length+1) (ints (L++[VV]))):=ho7';clear ho7';have hF7:Hid (Fr1 b w w7):=(hwi.alloc _).grown hg7 (fun k hk=>Or.inr (hO.out.lt k hk).1);have hb7:Hid (BAt w7 b v ⟨a+n+2,false,0⟩):=by
             refine hbi.same ?_;have h1:=hg7.block b (by simp;omega) (fun e=>by have:=(hO.out.lt b e.symm).1;omega);exact h1.trans (Below.heap_alloc _ _ _ (by omega))
            clear ho7 hg7 hn7;go_wp2;refine ⟨⟨i+1,by omega,by go_num,by rw[hre.out,List.length_append];exact HO7.out,hb7.out,hF7.out⟩,by simp [intOf];omega⟩
           ·have hie:Hid (i=K):=by show _=_;omega
            have hge:¬ (i:Int)<(K:Int):=by omega
            go_wp2;have e1:=hie.out;have e2:=HK.out;have e3:=hxe.out;have hlo:=Px.pU.rep (c:=16) hrun4.out hfit (by show out.length+(Px.ab z (a+n) 2+3)<=nl+nd;omega);have hkk:Px.vP 16 (Px.ab z (a+n) (Px.cF 16))=i:=by show Px.ab z (a+n) 2+3=i;omega
            rw[hkk,HVV.out] at hlo;refine ⟨⟨out++List.replicate i VV,⟨a+n+2,false,0⟩,hoi,by simp;omega,?_,hbi,hwi,Or.inl ⟨rfl,rfl,hfit,hlo⟩⟩,?_⟩
            ·intro y hy
             rcases List.mem_append.1 hy with hy | hy
             ·exact ho15 y hy
             ·rw[(List.mem_replicate.1 hy).2];exact HV15.out
            ·rw[bR hbi,bR hb];omega
        ·have hb5:BAt w4 b v ⟨8*z.length,true,0⟩:=by
          have e:(⟨a+n,false,0⟩:Px.Bt).num z 2=⟨8*z.length,true,0⟩:=by unfold Px.Bt.num;rw[if_neg (by simp),if_neg hfit]
          rw[e] at hb4;exact hb4
         have c2:w4.cell? ⟨b,2,none⟩=some (.bool true):=hb5.c2;have ON6:Hid (∀ W,BAt W b v ⟨8*z.length,true,0⟩->Calls Tryz.prog 61 #[.pointer (some ⟨b,0,none⟩)] W fun r w'=>r = .returned (.bool false)/\w'=W):=fun W hW=>a9 b v _ W hW
         clear hx2 hb4;go_wp2;go_loopw [7,11] (fun u j W=>u = .slice (some ⟨g,0,none⟩) out.length c/\j = .int .i64 0/\W=w4) (fun _ _ _=>0)
         case atStart=>exact ⟨rfl,rfl,rfl⟩
         case round=>
          obtain ⟨rfl,rfl,rfl⟩:=hrel;go_wp2_with fail;refine (ON6.out _ hb5).mono ?_;rintro r w6 ⟨rfl,rfl⟩;go_wp2;refine ⟨⟨out,⟨8*z.length,true,0⟩,hown4,hol,ho15,hb5,hW4,Or.inr (.cut (a+n) _ hrun4.out (.num (n:=2) rfl (by omega)) rfl)⟩,?_⟩;rw[lO hb5 rfl,bR hb];omega
      ·by_cases hc17:c1=17
       ·subst hc17
        have HNE:Hid (¬ (17=16/\out=[])):=fun h=>by omega
        have HV15:Hid (0<=15):=Nat.zero_le _;go_wp2_with fail;refine ON2.out.mono ?_;rintro r w3 ⟨rfl,rfl⟩;have NU:Hid (Calls Tryz.prog 59 #[.pointer (some ⟨b,0,none⟩),.int .i64 3] w3 fun r w'=>∃ x:Nat,r = .returned (.int .i64 (x:Int))/\x<2^3/\((a+n)+3<=8*z.length->x=Px.ab z (a+n) 3)/\BAt w' b v ((⟨a+n,false,0⟩:Px.Bt).num z 3)/\Fr1 b w3 w'):=oa b v z ⟨a+n,false,0⟩ 3 w3 hb2 (hz.fr hW2 hv) hv hg hga (by omega) rfl;go_wp2_with fail;refine NU.out.mono ?_;rintro r w4 ⟨x,rfl,hx,hx2,hb4,hw4⟩;have hW4:Fr1 b w w4:=hW2.trans hw4;have hx128:x<128:=by omega
        have hown4:w4.ownsRow w.heap.size 3 1 (.slice p out.length c) out.length (ints out):=pZ hown2 hw4 hbw;have hrun4:Hid (Px.Run z a0 (Px.clS s nl nd sl []) (a+n) { s with ph := .rep nl nd sl out 17 }):=hrun.out.trans (.one (Px.vO HG.out (by omega) HNE.out));by_cases hfit:(a+n)+3<=8*z.length
        ·have hb5:BAt w4 b v ⟨a+n+3,false,0⟩:=by
          have e:(⟨a+n,false,0⟩:Px.Bt).num z 3=⟨a+n+3,false,0⟩:=by unfold Px.Bt.num;rw[if_neg (by simp),if_pos hfit]
          rw[e] at hb4;exact hb4
         have hxe:Hid (x=Px.ab z (a+n) 3):=hx2 hfit;have c2:w4.cell? ⟨b,2,none⟩=some (.bool false):=hb5.c2;have ON5:Hid (∀ W,BAt W b v ⟨a+n+3,false,0⟩->Calls Tryz.prog 61 #[.pointer (some ⟨b,0,none⟩)] W fun r w'=>r = .returned (.bool true)/\w'=W):=fun W hW=>a9 b v _ W hW
         clear hx2 hb4;by_cases hover:M<out.length+(x+3)
         ·have FA:Hid (Calls Tryz.prog 60 #[.pointer (some ⟨b,0,none⟩),.int .i64 12] w4 fun r w'=>r = .returned (.tuple #[])/\BAt w' b v ⟨a+n+3,false,12⟩/\Fr1 b w4 w'):=cV b v _ 12 w4 hb5 rfl rfl
          have ON6:Hid (∀ W,BAt W b v ⟨a+n+3,false,12⟩->Calls Tryz.prog 61 #[.pointer (some ⟨b,0,none⟩)] W fun r w'=>r = .returned (.bool false)/\w'=W):=fun W hW=>a9 b v _ W hW
          go_wp2_with fail;refine FA.out.mono ?_;rintro r w5 ⟨rfl,hb6,hw6⟩;have hown5:Hid (w5.ownsRow w.heap.size 3 1 (.slice p out.length c) out.length (ints out)):=pZ hown4 hw6 hbw;have hW5:Hid (Fr1 b w w5):=hW4.trans hw6;go_wp2;go_loopw [7,11] (fun u j W=>u = .slice p out.length c/\j = .int .i64 0/\W=w5) (fun _ _ _=>0)
          case atStart=>exact ⟨rfl,rfl,rfl⟩
          case round=>
           obtain ⟨rfl,rfl,rfl⟩:=hrel;go_wp2_with fail;refine (ON6.out _ hb6).mono ?_;rintro r w6 ⟨rfl,rfl⟩;go_wp2;have hover2:nl+nd<out.length+Px.vP 17 (Px.ab z (a+n) (Px.cF 17)):=by
            have:=hxe.out
            show nl+nd<out.length+(Px.ab z (a+n) 3+3)
            omega
           refine ⟨⟨out,⟨a+n+3,false,12⟩,hown5.out,hol,ho15,hb6,hW5.out,Or.inr (.err (a+n) _ 12 (a+n+3) hrun4.out (Px.xY (c:=17) hfit hover2) rfl (by decide) hfit)⟩,?_⟩;rw[lO hb6 rfl,bR hb];omega
         ·have hK:Hid (∃ K:Nat,K=x+3):=⟨_,rfl⟩
          obtain ⟨K,hKe⟩:=hK.out;have hKi:(x:Int)+3=(K:Int):=by omega
          have hK1:out.length+K<=M:=by omega
          have hK2:K<=316:=by omega
          have HK:Hid (K=x+3):=hKe;have hover':¬ M<out.length+(x+3):=hover;clear hKe;go_wp2;try rw[hKi]
          clear hKi;go_loopw [7,11] (fun u j W=>∃ i:Nat,i<=K/\j = .int .i64 (i:Int)/\W.ownsRow w.heap.size 3 1 u (out++List.replicate i 0).length (ints (out++List.replicate i 0))/\BAt W b v ⟨a+n+3,false,0⟩/\Fr1 b w W) (fun _ j _=>K - (intOf j).toNat)
          case atStart=>exact ⟨0,by omega,rfl,by simpa using hown4,hb5,hW4⟩
          case round=>
           obtain ⟨i,hi,rfl,hoi,hbi,hwi⟩:=hrel;obtain ⟨pi,ci,rfl⟩:=aq hoi;by_cases hiK:i<K
           ·have hli:(out++List.replicate i 0).length<=out.length+i:=by simp
            have hre:Hid (out++List.replicate (i+1) 0=(out++List.replicate i 0)++[0]):=by show _=_;rw[List.replicate_succ',List.append_assoc]
            have hszi:w.heap.size<=wr.heap.size:=hwi.size;have hO:Hid (wr.ownsRow w.heap.size 3 1 (.slice pi (out++List.replicate i 0).length ci) (out++List.replicate i 0).length (ints (out++List.replicate i 0))):=hoi;clear hoi;generalize out++List.replicate i 0=L at *;go_wp2_with fail;refine (ON5.out _ hbi).mono ?_;rintro r w6 ⟨rfl,rfl⟩;go_wp2_with (at_builtin;refine cI _ rfl _ _ rfl w.heap.size (.slice pi L.length ci) L rfl (hO.out.alloc _) w6.heap.size 1 0 rfl (by simp) (by omega) (by simp;omega) ?_)
            intro u' w7 ho7 hg7 hn7;obtain ⟨p',c',rfl⟩:=aq ho7;have ho7':w7.ownsRow w.heap.size 3 1 (.slice p' (L.length+1) c') (L.length+1) (ints (L++[0])):=by simpa using ho7
            have HO7:Hid (w7.ownsRow w.heap.size 3 1 (.slice p' (L.length+1) c') (L.length+1) (ints (L++[0]))):=ho7';clear ho7';have hF7:Hid (Fr1 b w w7):=(hwi.alloc _).grown hg7 (fun k hk=>Or.inr (hO.out.lt k hk).1);have hb7:Hid (BAt w7 b v ⟨a+n+3,false,0⟩):=by
             refine hbi.same ?_;have h1:=hg7.block b (by simp;omega) (fun e=>by have:=(hO.out.lt b e.symm).1;omega);exact h1.trans (Below.heap_alloc _ _ _ (by omega))
            clear ho7 hg7 hn7;go_wp2;refine ⟨⟨i+1,by omega,by go_num,by rw[hre.out,List.length_append];exact HO7.out,hb7.out,hF7.out⟩,by simp [intOf];omega⟩
           ·have hie:Hid (i=K):=by show _=_;omega
            have hge:¬ (i:Int)<(K:Int):=by omega
            go_wp2;have e1:=hie.out;have e2:=HK.out;have e3:=hxe.out;have hlo:=Px.pU.rep (c:=17) hrun4.out hfit (by show out.length+(Px.ab z (a+n) 3+3)<=nl+nd;omega);have hkk:Px.vP 17 (Px.ab z (a+n) (Px.cF 17))=i:=by show Px.ab z (a+n) 3+3=i;omega
            rw[hkk] at hlo;refine ⟨⟨out++List.replicate i 0,⟨a+n+3,false,0⟩,hoi,by simp;omega,?_,hbi,hwi,Or.inl ⟨rfl,rfl,hfit,hlo⟩⟩,?_⟩
            ·intro y hy
             rcases List.mem_append.1 hy with hy | hy
             ·exact ho15 y hy
             ·rw[(List.mem_replicate.1 hy).2];exact HV15.out
            ·rw[bR hbi,bR hb];omega
        ·have hb5:BAt w4 b v ⟨8*z.length,true,0⟩:=by
          have e:(⟨a+n,false,0⟩:Px.Bt).num z 3=⟨8*z.length,true,0⟩:=by unfold Px.Bt.num;rw[if_neg (by simp),if_neg hfit]
          rw[e] at hb4;exact hb4
         have c2:w4.cell? ⟨b,2,none⟩=some (.bool true):=hb5.c2;have ON6:Hid (∀ W,BAt W b v ⟨8*z.length,true,0⟩->Calls Tryz.prog 61 #[.pointer (some ⟨b,0,none⟩)] W fun r w'=>r = .returned (.bool false)/\w'=W):=fun W hW=>a9 b v _ W hW
         clear hx2 hb4;go_wp2;go_loopw [7,11] (fun u j W=>u = .slice p out.length c/\j = .int .i64 0/\W=w4) (fun _ _ _=>0)
         case atStart=>exact ⟨rfl,rfl,rfl⟩
         case round=>
          obtain ⟨rfl,rfl,rfl⟩:=hrel;go_wp2_with fail;refine (ON6.out _ hb5).mono ?_;rintro r w6 ⟨rfl,rfl⟩;go_wp2;refine ⟨⟨out,⟨8*z.length,true,0⟩,hown4,hol,ho15,hb5,hW4,Or.inr (.cut (a+n) _ hrun4.out (.num (n:=3) rfl (by omega)) rfl)⟩,?_⟩;rw[lO hb5 rfl,bR hb];omega
       ·have hc18:c1=18:=by omega
        subst hc18;have HNE:Hid (¬ (18=16/\out=[])):=fun h=>by omega
        have HV15:Hid (0<=15):=Nat.zero_le _;go_wp2_with fail;refine ON2.out.mono ?_;rintro r w3 ⟨rfl,rfl⟩;have NU:Hid (Calls Tryz.prog 59 #[.pointer (some ⟨b,0,none⟩),.int .i64 7] w3 fun r w'=>∃ x:Nat,r = .returned (.int .i64 (x:Int))/\x<2^7/\((a+n)+7<=8*z.length->x=Px.ab z (a+n) 7)/\BAt w' b v ((⟨a+n,false,0⟩:Px.Bt).num z 7)/\Fr1 b w3 w'):=oa b v z ⟨a+n,false,0⟩ 7 w3 hb2 (hz.fr hW2 hv) hv hg hga (by omega) rfl;go_wp2_with fail;refine NU.out.mono ?_;rintro r w4 ⟨x,rfl,hx,hx2,hb4,hw4⟩;have hW4:Fr1 b w w4:=hW2.trans hw4;have hx128:x<128:=by omega
        have hown4:w4.ownsRow w.heap.size 3 1 (.slice p out.length c) out.length (ints out):=pZ hown2 hw4 hbw;have hrun4:Hid (Px.Run z a0 (Px.clS s nl nd sl []) (a+n) { s with ph := .rep nl nd sl out 18 }):=hrun.out.trans (.one (Px.vO HG.out (by omega) HNE.out));by_cases hfit:(a+n)+7<=8*z.length
        ·have hb5:BAt w4 b v ⟨a+n+7,false,0⟩:=by
          have e:(⟨a+n,false,0⟩:Px.Bt).num z 7=⟨a+n+7,false,0⟩:=by unfold Px.Bt.num;rw[if_neg (by simp),if_pos hfit]
          rw[e] at hb4;exact hb4
         have hxe:Hid (x=Px.ab z (a+n) 7):=hx2 hfit;have c2:w4.cell? ⟨b,2,none⟩=some (.bool false):=hb5.c2;have ON5:Hid (∀ W,BAt W b v ⟨a+n+7,false,0⟩->Calls Tryz.prog 61 #[.pointer (some ⟨b,0,none⟩)] W fun r w'=>r = .returned (.bool true)/\w'=W):=fun W hW=>a9 b v _ W hW
         clear hx2 hb4;by_cases hover:M<out.length+(x+11)
         ·have FA:Hid (Calls Tryz.prog 60 #[.pointer (some ⟨b,0,none⟩),.int .i64 12] w4 fun r w'=>r = .returned (.tuple #[])/\BAt w' b v ⟨a+n+7,false,12⟩/\Fr1 b w4 w'):=cV b v _ 12 w4 hb5 rfl rfl
          have ON6:Hid (∀ W,BAt W b v ⟨a+n+7,false,12⟩->Calls Tryz.prog 61 #[.pointer (some ⟨b,0,none⟩)] W fun r w'=>r = .returned (.bool false)/\w'=W):=fun W hW=>a9 b v _ W hW
          go_wp2_with fail;refine FA.out.mono ?_;rintro r w5 ⟨rfl,hb6,hw6⟩;have hown5:Hid (w5.ownsRow w.heap.size 3 1 (.slice p out.length c) out.length (ints out)):=pZ hown4 hw6 hbw;have hW5:Hid (Fr1 b w w5):=hW4.trans hw6;go_wp2;go_loopw [7,11] (fun u j W=>u = .slice p out.length c/\j = .int .i64 0/\W=w5) (fun _ _ _=>0)
          case atStart=>exact ⟨rfl,rfl,rfl⟩
          case round=>
           obtain ⟨rfl,rfl,rfl⟩:=hrel;go_wp2_with fail;refine (ON6.out _ hb6).mono ?_;rintro r w6 ⟨rfl,rfl⟩;go_wp2;have hover2:nl+nd<out.length+Px.vP 18 (Px.ab z (a+n) (Px.cF 18)):=by
            have:=hxe.out
            show nl+nd<out.length+(Px.ab z (a+n) 7+11)
            omega
           refine ⟨⟨out,⟨a+n+7,false,12⟩,hown5.out,hol,ho15,hb6,hW5.out,Or.inr (.err (a+n) _ 12 (a+n+7) hrun4.out (Px.xY (c:=18) hfit hover2) rfl (by decide) hfit)⟩,?_⟩;rw[lO hb6 rfl,bR hb];omega
         ·have hK:Hid (∃ K:Nat,K=x+11):=⟨_,rfl⟩
          obtain ⟨K,hKe⟩:=hK.out;have hKi:(x:Int)+11=(K:Int):=by omega
          have hK1:out.length+K<=M:=by omega
          have hK2:K<=316:=by omega
          have HK:Hid (K=x+11):=hKe;have hover':¬ M<out.length+(x+11):=hover;clear hKe;go_wp2;try rw[hKi]
          clear hKi;go_loopw [7,11] (fun u j W=>∃ i:Nat,i<=K/\j = .int .i64 (i:Int)/\W.ownsRow w.heap.size 3 1 u (out++List.replicate i 0).length (ints (out++List.replicate i 0))/\BAt W b v ⟨a+n+7,false,0⟩/\Fr1 b w W) (fun _ j _=>K - (intOf j).toNat)
          case atStart=>exact ⟨0,by omega,rfl,by simpa using hown4,hb5,hW4⟩
          case round=>
           obtain ⟨i,hi,rfl,hoi,hbi,hwi⟩:=hrel;obtain ⟨pi,ci,rfl⟩:=aq hoi;by_cases hiK:i<K
           ·have hli:(out++List.replicate i 0).length<=out.length+i:=by simp
            have hre:Hid (out++List.replicate (i+1) 0=(out++List.replicate i 0)++[0]):=by show _=_;rw[List.replicate_succ',List.append_assoc]
            have hszi:w.heap.size<=wr.heap.size:=hwi.size;have hO:Hid (wr.ownsRow w.heap.size 3 1 (.slice pi (out++List.replicate i 0).length ci) (out++List.replicate i 0).length (ints (out++List.replicate i 0))):=hoi;clear hoi;generalize out++List.replicate i 0=L at *;go_wp2_with fail;refine (ON5.out _ hbi).mono ?_;rintro r w6 ⟨rfl,rfl⟩;go_wp2_with (at_builtin;refine cI _ rfl _ _ rfl w.heap.size (.slice pi L.length ci) L rfl (hO.out.alloc _) w6.heap.size 1 0 rfl (by simp) (by omega) (by simp;omega) ?_)
            intro u' w7 ho7 hg7 hn7;obtain ⟨p',c',rfl⟩:=aq ho7;have ho7':w7.ownsRow w.heap.size 3 1 (.slice p' (L.length+1) c') (L.length+1) (ints (L++[0])):=by simpa using ho7
            have HO7:Hid (w7.ownsRow w.heap.size 3 1 (.slice p' (L.length+1) c') (L.length+1) (ints (L++[0]))):=ho7';clear ho7';have hF7:Hid (Fr1 b w w7):=(hwi.alloc _).grown hg7 (fun k hk=>Or.inr (hO.out.lt k hk).1);have hb7:Hid (BAt w7 b v ⟨a+n+7,false,0⟩):=by
             refine hbi.same ?_;have h1:=hg7.block b (by simp;omega) (fun e=>by have:=(hO.out.lt b e.symm).1;omega);exact h1.trans (Below.heap_alloc _ _ _ (by omega))
            clear ho7 hg7 hn7;go_wp2;refine ⟨⟨i+1,by omega,by go_num,by rw[hre.out,List.length_append];exact HO7.out,hb7.out,hF7.out⟩,by simp [intOf];omega⟩
           ·have hie:Hid (i=K):=by show _=_;omega
            have hge:¬ (i:Int)<(K:Int):=by omega
            go_wp2;have e1:=hie.out;have e2:=HK.out;have e3:=hxe.out;have hlo:=Px.pU.rep (c:=18) hrun4.out hfit (by show out.length+(Px.ab z (a+n) 7+11)<=nl+nd;omega);have hkk:Px.vP 18 (Px.ab z (a+n) (Px.cF 18))=i:=by show Px.ab z (a+n) 7+11=i;omega
            rw[hkk] at hlo;refine ⟨⟨out++List.replicate i 0,⟨a+n+7,false,0⟩,hoi,by simp;omega,?_,hbi,hwi,Or.inl ⟨rfl,rfl,hfit,hlo⟩⟩,?_⟩
            ·intro y hy
             rcases List.mem_append.1 hy with hy | hy
             ·exact ho15 y hy
             ·rw[(List.mem_replicate.1 hy).2];exact HV15.out
            ·rw[bR hbi,bR hb];omega
        ·have hb5:BAt w4 b v ⟨8*z.length,true,0⟩:=by
          have e:(⟨a+n,false,0⟩:Px.Bt).num z 7=⟨8*z.length,true,0⟩:=by unfold Px.Bt.num;rw[if_neg (by simp),if_neg hfit]
          rw[e] at hb4;exact hb4
         have c2:w4.cell? ⟨b,2,none⟩=some (.bool true):=hb5.c2;have ON6:Hid (∀ W,BAt W b v ⟨8*z.length,true,0⟩->Calls Tryz.prog 61 #[.pointer (some ⟨b,0,none⟩)] W fun r w'=>r = .returned (.bool false)/\w'=W):=fun W hW=>a9 b v _ W hW
         clear hx2 hb4;go_wp2;go_loopw [7,11] (fun u j W=>u = .slice p out.length c/\j = .int .i64 0/\W=w4) (fun _ _ _=>0)
         case atStart=>exact ⟨rfl,rfl,rfl⟩
         case round=>
          obtain ⟨rfl,rfl,rfl⟩:=hrel;go_wp2_with fail;refine (ON6.out _ hb5).mono ?_;rintro r w6 ⟨rfl,rfl⟩;go_wp2;refine ⟨⟨out,⟨8*z.length,true,0⟩,hown4,hol,ho15,hb5,hW4,Or.inr (.cut (a+n) _ hrun4.out (.num (n:=7) rfl (by omega)) rfl)⟩,?_⟩;rw[lO hb5 rfl,bR hb];omega
    ·have ON2:Hid (Calls Tryz.prog 61 #[.pointer (some ⟨b,0,none⟩)] w2 fun r w'=>r = .returned (.bool false)/\w'=w2):=a9 b v _ w2 hb2
     have hp:Hid (uA w b v z a0 nl nd s sl (.slice p out.length c) w2 out ⟨a+n,false,13⟩):=by
      refine ⟨?_,ho15,hb2,hw.trans hw2,Or.inr (.err a _ 13 (a+n) hrun.out (.bad rfl hbad) rfl (by decide) hbad.2.1)⟩;refine ho.kept (row:=some b) ⟨hw2.os,hw2.tape,hw2.output,hw2.size,fun k hk hn=>hw2.block k hk (fun e=>hn (by rw[e]))⟩ ?_
      right
      intro e
      have:=(ho.lt b e).1
      have:=h.lt
      omega
     go_wp2_with fail;refine ON2.out.mono ?_;rintro r w3 ⟨rfl,rfl⟩;go_wp2;go_ret;exact ⟨_,out,_,rfl,hp.out⟩
    ·have ON2:Hid (Calls Tryz.prog 61 #[.pointer (some ⟨b,0,none⟩)] w2 fun r w'=>r = .returned (.bool false)/\w'=w2):=a9 b v _ w2 hb2
     have hp:Hid (uA w b v z a0 nl nd s sl (.slice p out.length c) w2 out ⟨8*z.length,true,0⟩):=by
      refine ⟨?_,ho15,hb2,hw.trans hw2,Or.inr (.cut a _ hrun.out (.sym rfl hcut) rfl)⟩;refine ho.kept (row:=some b) ⟨hw2.os,hw2.tape,hw2.output,hw2.size,fun k hk hn=>hw2.block k hk (fun e=>hn (by rw[e]))⟩ ?_
      right
      intro e
      have:=(ho.lt b e).1
      have:=h.lt
      omega
     go_wp2_with fail;refine ON2.out.mono ?_;rintro r w3 ⟨rfl,rfl⟩;go_wp2;go_ret;exact ⟨_,out,_,rfl,hp.out⟩
   ·have hon:t1.on=false:=hst.off
    rw[hon] at ON;have hON:Hid (Calls Tryz.prog 61 _ wr _):=ON;have hfin:=fin wr hb ho hw (Or.inl hon);clear ON fin;have HF:Hid _:=hfin;clear hfin;go_wp2_with fail;refine hON.out.mono ?_;rintro r w1 ⟨rfl,rfl⟩;go_wp2;go_ret
    first | exact ⟨_,out,t1,rfl,HF.out⟩ | exact ⟨_,rfl,out,t1,HF.out⟩
  ·have hfin:=fin wr hb ho hw (Or.inr (by omega))
   have HF:Hid _:=hfin;clear hfin fin ON;have hlt':(M:Int)<=(out.length:Int):=by omega
   go_wp2;go_ret
   first | exact ⟨_,out,t1,rfl,HF.out⟩ | exact ⟨_,rfl,out,t1,HF.out⟩
end Go.Proofs.YtgooinallljbpaaGreatDoor
namespace Px
theorem Dk (k:Nat) (h:k<19):x9.getD k 0<19:=by
 have:(List.range 19).all (fun k=>decide (x9.getD k 0<19))=true:=by decide
 exact of_decide_eq_true (List.all_eq_true.1 this k (List.mem_range.2 h))
theorem qG (told:List Nat) (k:Nat):(dr told k).length=19:=by
 induction k with
 | zero=>simp [dr]
 | succ k ih=>rw[dr,List.length_set];exact ih
theorem BD (told:List Nat) (h:∀ x ∈ told,x<8) (k:Nat):∀ x ∈ dr told k,x<8:=by
 induction k with
 | zero=>intro x hx;rw[dr] at hx;rw[(List.mem_replicate.1 hx).2];omega
 | succ k ih=>
  intro x hx;rw[dr] at hx;rcases List.mem_or_eq_of_mem_set hx with hx | hx
  ·exact ih x hx
  ·subst hx
   rw[List.getD_eq_getElem?_getD];cases e:told[k]? with
   | none=>simp
   | some y=>exact h y (List.mem_of_getElem? e)
theorem xV (told:List Nat) (x k:Nat) (hk:k<=told.length):dr (told++[x]) k=dr told k:=by
 induction k with
 | zero=>rfl
 | succ k ih=>
  rw[dr,dr,ih (by omega)]
  congr 1
  rw[List.getD_eq_getElem?_getD,List.getD_eq_getElem?_getD,List.getElem?_append_left (by omega)]
theorem ua (told:List Nat) (x:Nat):aM (told++[x])=(aM told).set (x9.getD told.length 0) x:=by
 unfold aM;rw[List.length_append];show dr (told++[x]) (told.length+1)=_
 rw[dr,xV told x _ (Nat.le_refl _)]
 congr 1
 rw[List.getD_eq_getElem?_getD,List.getElem?_append_right (Nat.le_refl _)];simp
theorem iD (l:List Nat) (h:∀ x ∈ l,x<8) (h19:l.length=19):bD l:=⟨fun x hx=>by have:=h x hx;omega,by omega⟩
abbrev shS (s:St) (nl nd ns:Nat) (told:List Nat):St:={ s with ph := .short nl nd ns told }
abbrev coS (s:St):St:={ s with ph := .counts }
theorem AC {z:List One} {a:Nat} {s:St} (hb:a+14<=8*z.length) (h1:¬ 286<ab z a 5+257) (h2:¬ 30<ab z (a+5) 5+1):Step z a (coS s) (a+14) (shS s (ab z a 5+257) (ab z (a+5) 5+1) (ab z (a+10) 4+4) []):=by
 have e:ab z a 14=ab z a 5+32*ab z (a+5) 5+1024*ab z (a+10) 4:=by
  have e1:ab z a 14=ab z a 5+2^5*ab z (a+5) 9:=dg z a 5 9;have e2:ab z (a+5) 9=ab z (a+5) 5+2^5*ab z (a+10) 4:=dg z (a+5) 5 4;omega
 have l1:=bO z a 5;have l2:=bO z (a+5) 5;have l3:=bO z (a+10) 4;refine Step.num (k:=false) (n:=14) rfl hb ?_;show (if 286<ab z a 14 % 32+257\/30<ab z a 14 / 32 % 32+1 then _ else _)=_
 have q1:ab z a 14 % 32=ab z a 5:=by omega
 have q2:ab z a 14 / 32 % 32=ab z (a+5) 5:=by omega
 have q3:ab z a 14 / 1024=ab z (a+10) 4:=by omega
 rw[q1,q2,q3,if_neg (by omega)];rfl
theorem AD {z:List One} {a:Nat} {s:St} (hb:a+14<=8*z.length) (h:286<ab z a 5+257\/30<ab z (a+5) 5+1):Fails z a (coS s) 12 (a+14):=by
 have e:ab z a 14=ab z a 5+32*ab z (a+5) 5+1024*ab z (a+10) 4:=by
  have e1:ab z a 14=ab z a 5+2^5*ab z (a+5) 9:=dg z a 5 9;have e2:ab z (a+5) 9=ab z (a+5) 5+2^5*ab z (a+10) 4:=dg z (a+5) 5 4;omega
 have l1:=bO z a 5;have l2:=bO z (a+5) 5;have l3:=bO z (a+10) 4;refine Fails.num (n:=14) rfl hb ?_;show (if 286<ab z a 14 % 32+257\/30<ab z a 14 / 32 % 32+1 then _ else _)=_
 have q1:ab z a 14 % 32=ab z a 5:=by omega
 have q2:ab z a 14 / 32 % 32=ab z (a+5) 5:=by omega
 rw[q1,q2,if_pos h]
def FQ (z:List One) (a0:Nat) (s:St) (nl nd ns:Nat) (a:Nat) (told:List Nat):Prop:=
 (told.length<ns/\Run z a0 (coS s) a (shS s nl nd ns told))\/(told.length=ns/\Ends z a0 (coS s) a (if db (aM told) false false=false then .err 12 else s.to (.clen nl nd (aM told) [])) s.out)
theorem FQ.next {z:List One} {a0:Nat} {s:St} {nl nd ns a:Nat} {told:List Nat} (h:Run z a0 (coS s) a (shS s nl nd ns told)) (hl:told.length<ns) (hb:a+3<=8*z.length):FQ z a0 s nl nd ns (a+3) (told++[ab z a 3]):=by
 by_cases e:told.length+1<ns
 ·refine Or.inl ⟨by simp;exact e,.tail h (.num (k:=false) (n:=3) rfl hb ?_)⟩
  show (if told.length+1<ns then _ else _)=_
  rw[if_pos e];rfl
 ·refine Or.inr ⟨by simp;omega,a,_,h,rfl,Or.inl ⟨3,rfl,rfl,hb,?_⟩⟩
  show (if told.length+1<ns then _ else _)=_
  rw[if_neg e];rfl
theorem J5 {z:List One} {a:Nat} (h:a+14<=8*z.length):(((⟨a,false,0⟩:Bt).num z 5).num z 5).num z 4=⟨a+14,false,0⟩/\((⟨a,false,0⟩:Bt).num z 5)=⟨a+5,false,0⟩/\(((⟨a,false,0⟩:Bt).num z 5).num z 5)=⟨a+10,false,0⟩:=by
 have e1:((⟨a,false,0⟩:Bt).num z 5)=⟨a+5,false,0⟩:=by unfold Bt.num;rw[if_neg (by simp),if_pos (by show a+5<=_;omega)]
 have e2:((⟨a+5,false,0⟩:Bt).num z 5)=⟨a+10,false,0⟩:=by unfold Bt.num;rw[if_neg (by simp),if_pos (by show a+5+5<=_;omega)]
 have e3:((⟨a+10,false,0⟩:Bt).num z 4)=⟨a+14,false,0⟩:=by unfold Bt.num;rw[if_neg (by simp),if_pos (by show a+10+4<=_;omega)]
 rw[e1,e2,e3];exact ⟨rfl,rfl,rfl⟩
theorem cM {z:List One} {a n:Nat} (h:8*z.length<a+n):((⟨a,false,0⟩:Bt).num z n)=⟨8*z.length,true,0⟩:=by
 unfold Bt.num;rw[if_neg (by simp),if_neg (by show ¬ a+n<=_;omega)]
theorem cA {z:List One} {a n:Nat} (h:a+n<=8*z.length):((⟨a,false,0⟩:Bt).num z n)=⟨a+n,false,0⟩:=by
 unfold Bt.num;rw[if_neg (by simp),if_pos h]
theorem kV {z:List One} {t:Bt} {n:Nat} (h:t.cut=true):t.num z n=t:=by unfold Bt.num;rw[if_pos h]
theorem G7 {z:List One} {a:Nat} (h:¬ a+14<=8*z.length):(((⟨a,false,0⟩:Bt).num z 5).num z 5).num z 4=⟨8*z.length,true,0⟩:=by
 by_cases h1:a+5<=8*z.length
 ·rw[cA h1]
  by_cases h2:a+5+5<=8*z.length
  ·rw[cA h2,cM (by omega)]
  ·rw[cM (by omega),kV rfl]
 ·rw[cM (by omega),kV rfl,kV rfl]
end Px
