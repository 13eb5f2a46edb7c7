import Derived.Test.YtgooinallljbpaaGreatDoorTd27
set_option maxRecDepth 100000
set_option maxHeartbeats 6400000
namespace Go.Proofs.YtgooinallljbpaaGreatDoor
open Go.RowKit Px
set_option linter.unusedSimpArgs false
set_option linter.unusedVariables false
def wR (K D C CL:Nat) (x:Nat->Nat):Bool:=decide (K=3) && (List.range CL).any (fun i=>decide (C<=qE D x i))
theorem KV {K D C CL:Nat} {x:Nat->Nat} (h:K=3->∀ j,j<CL->¬ C<=qE D x j):wR K D C CL x=false:=by
 unfold wR;by_cases c:K=3
 ·rw[decide_eq_true c,Bool.true_and,List.any_eq_false]
  intro j hj;rw[decide_eq_true_iff];exact h c j (List.mem_range.1 hj)
 ·rw[decide_eq_false c,Bool.false_and]
theorem IZ {K D C CL j:Nat} {x:Nat->Nat} (hK:K=3) (hj:j<CL) (h:C<=qE D x j):wR K D C CL x=true:=by
 unfold wR;rw[decide_eq_true hK,Bool.true_and,List.any_eq_true];exact ⟨j,List.mem_range.2 hj,decide_eq_true h⟩
theorem Nj {Q:Exit->Act->World->Prop} {u2 u3 u4 u5 u7 u8 u9 rY tX uE sq u16 rX o6 o5 o4 o3 o0 oZ oY oX oW oV oU oT oS u32 oR oQ oP oO oN oM oL oK oJ oI oH oG oF oE oD oC oB oA oz oy ox ow ou ot oq oo om oj oi oh og u64 pW pV qu qt qq qp qo qn qm ql qk qj qi qh qg qf qz qy qx rK rJ rI rH rG rF rE rD rC rB rA rz ry ru rq rp fh eE eB ez ey ew ev eu ej eh ed dZ dY dX dW dV dU dT dS dR dQ dP dO dN dM dL dK dJ dI dH dG dF dE dD dC dB dA dz dy dx fy fx gB iB iA iz iy ix iw iu ir ik ij ig ie ib gZ gY gX gW gV gU gT gS gR gQ gP gO gN gM gK gJ gI kR kQ kP kO kN kM kL kK kJ kI kG kF kE kD kC kB ky kv ku kj kf ke j9 j8 j7 j6 j5 j4 jZ jY jX jW jV jU jT jS jR jQ jP jO jN jM jL jK jJ jI jH gA gy gw gv gp gm gj gi gh gg tW tV tU tT tS tR tQ tP tO tN nZ nY nX nW nV nU nT nR nQ nP nO nM nL nJ nI nH nG nF nE nD nB nA nz ny nv nu nt nr np nk nj ni nh ng nc na m9 m8 m7 mZ mY mX mW mV mU mT mS mR mQ mP mO mN:Value} (fb sb mb rb gx SZ CL FR K D palN cx co pc gz:Nat) (pa:Option Addr) (out:List One) (x:Nat->Nat) (v5 v6:Value) (w:World)
  (hs0:w.cell? ⟨sb,0,none⟩=some (.slice (some ⟨gz,0,none⟩) out.length co)) (hz:Hid (ZAt w (.slice (some ⟨gz,0,none⟩) out.length co) out)) (r2:w.cell? ⟨rb,2,none⟩=some (.int .i64 (FR:Int))) (r3:w.cell? ⟨rb,3,none⟩=some (.int .i64 (CL:Int))) (r4:w.cell? ⟨rb,4,none⟩=some (.int .i64 (SZ:Int)))
  (f3:w.cell? ⟨fb,3,none⟩=some (.int .i64 (D:Int))) (f4:w.cell? ⟨fb,4,none⟩=some (.int .i64 (K:Int))) (f8:w.cell? ⟨fb,8,none⟩=some (.slice pa palN pc)) (m5:w.cell? ⟨mb,5,none⟩=some v5) (m6:w.cell? ⟨mb,6,none⟩=some v6)
  (hx:Hid (fI w gx SZ x)) (hfz:∀ k,w.frozen? ⟨mb,k,none⟩=false) (n1:sb≠mb) (n2:rb≠mb) (n4:gz≠mb) (hfr:FR+SZ<out.length) (b1:SZ<=1000) (b2:FR<=100000) (b6:out.length<=4294967296) (b7:CL<=1000) (b8:palN<=1048576) (hD:Hid (okD D)) (hk:Hid (K=3->∀ k,k<CL->(k+1)*D<=8*SZ))
  (hQn:Hid (wR K D (palN / 3) CL x=false->∀ v4 uB uV jG jF jE jD jC jB jA jz jy jx jw jv ju jt js jr jq jo jn jm jl jk jj ji jh jg jf je jd jc jb ja iZ iY iX iW iV iU iT iS iR iQ iP iO iN iM iL W',Kept w W'->Q .normal ⟨#[.pointer (some ⟨fb,0,none⟩),.pointer (some ⟨sb,0,none⟩),u2,u3,v4,u5,.pointer (some ⟨mb,0,none⟩),u7,u8,u9,rY,.pointer (some ⟨rb,0,none⟩),tX,uE,.slice (some ⟨gx,0,none⟩) SZ cx,sq,u16,uB,uV,o6,o5,o4,o3,o0,oZ,oY,oX,oW,oV,oU,oT,oS,u32,oR,oQ,oP,oO,oN,oM,oL,oK,oJ,oI,oH,oG,oF,oE,oD,oC,oB,oA,oz,oy,ox,ow,ou,ot,oq,oo,om,oj,oi,oh,og,u64,pW,pV,qu,qt,qq,qp,qo,qn,qm,ql,qk,qj,qi,qh,qg,qf,qz,qy,qx,rK,rJ,rI,rH,rG,rF,rE,rD,rC,rB,rA,rz,ry,ru,rq,rp,fh,eE,eB,ez,ey,ew,ev,eu,ej,eh,ed,dZ,dY,dX,dW,dV,dU,dT,dS,dR,dQ,dP,dO,dN,dM,dL,dK,dJ,dI,dH,dG,dF,dE,dD,dC,dB,dA,dz,dy,dx,fy,fx,gB,iB,iA,iz,iy,ix,iw,iu,ir,ik,ij,ig,ie,ib,gZ,gY,gX,gW,gV,gU,gT,gS,gR,gQ,gP,gO,gN,gM,gK,gJ,gI,jG,jF,jE,jD,jC,jB,jA,jz,jy,jx,jw,jv,ju,jt,js,jr,jq,jo,jn,jm,jl,jk,jj,ji,jh,jg,jf,je,jd,jc,jb,ja,iZ,iY,iX,iW,iV,iU,iT,iS,iR,iQ,iP,iO,iN,iM,iL,gA,gy,gw,gv,gp,gm,gj,gi,gh,gg,tW,tV,tU,tT,tS,tR,tQ,tP,tO,tN,nZ,nY,nX,nW,nV,nU,nT,nR,nQ,nP,nO,nM,nL,nJ,nI,nH,nG,nF,nE,nD,nB,nA,nz,ny,nv,nu,nt,nr,np,nk,nj,ni,nh,ng,nc,na,m9,m8,m7,mZ,mY,mX,mW,mV,mU,mT,mS,mR,mQ,mP,mO,mN],[]⟩ W'))
  (hQr:Hid (wR K D (palN / 3) CL x=true->∀ uB uV jG jF jE jD jC jB jA jz jy jx jw jv ju jt js jr jq jo jn jm jl jk jj ji jh jg jf je jd jc jb ja iZ iY iX iW iV iU iT iS iR iQ iP iO iN iM iL W' W1,Kept w W1->W'=(((W1.setCell ⟨mb,5,none⟩ (.int .i64 16)).setCell ⟨mb,6,none⟩ (.int .i64 (pAt out (FR+SZ):Int)))).drew->Q .ret ⟨#[.pointer (some ⟨fb,0,none⟩),.pointer (some ⟨sb,0,none⟩),u2,u3,.pointer (some ⟨mb,0,none⟩),u5,.pointer (some ⟨mb,0,none⟩),u7,u8,u9,rY,.pointer (some ⟨rb,0,none⟩),tX,uE,.slice (some ⟨gx,0,none⟩) SZ cx,sq,u16,uB,uV,o6,o5,o4,o3,o0,oZ,oY,oX,oW,oV,oU,oT,oS,u32,oR,oQ,oP,oO,oN,oM,oL,oK,oJ,oI,oH,oG,oF,oE,oD,oC,oB,oA,oz,oy,ox,ow,ou,ot,oq,oo,om,oj,oi,oh,og,u64,pW,pV,qu,qt,qq,qp,qo,qn,qm,ql,qk,qj,qi,qh,qg,qf,qz,qy,qx,rK,rJ,rI,rH,rG,rF,rE,rD,rC,rB,rA,rz,ry,ru,rq,rp,fh,eE,eB,ez,ey,ew,ev,eu,ej,eh,ed,dZ,dY,dX,dW,dV,dU,dT,dS,dR,dQ,dP,dO,dN,dM,dL,dK,dJ,dI,dH,dG,dF,dE,dD,dC,dB,dA,dz,dy,dx,fy,fx,gB,iB,iA,iz,iy,ix,iw,iu,ir,ik,ij,ig,ie,ib,gZ,gY,gX,gW,gV,gU,gT,gS,gR,gQ,gP,gO,gN,gM,gK,gJ,gI,jG,jF,jE,jD,jC,jB,jA,jz,jy,jx,jw,jv,ju,jt,js,jr,jq,jo,jn,jm,jl,jk,jj,ji,jh,jg,jf,je,jd,jc,jb,ja,iZ,iY,iX,iW,iV,iU,iT,iS,iR,iQ,iP,iO,iN,iM,iL,gA,gy,gw,gv,gp,gm,gj,gi,gh,gg,tW,tV,tU,tT,tS,tR,tQ,tP,tO,tN,nZ,nY,nX,nW,nV,nU,nT,nR,nQ,nP,nO,nM,nL,nJ,nI,nH,nG,nF,nE,nD,nB,nA,nz,ny,nv,nu,nt,nr,np,nk,nj,ni,nh,ng,nc,na,m9,m8,m7,mZ,mY,mX,mW,mV,mU,mT,mS,mR,mQ,mP,mO,mN],[]⟩ W')) :
  Code.wp Tryz.prog ((Tryz.f42.body.bind (fJ 4)).getD .skip) Q ⟨#[.pointer (some ⟨fb,0,none⟩),.pointer (some ⟨sb,0,none⟩),u2,u3,u4,u5,.pointer (some ⟨mb,0,none⟩),u7,u8,u9,rY,.pointer (some ⟨rb,0,none⟩),tX,uE,.slice (some ⟨gx,0,none⟩) SZ cx,sq,u16,.int .i64 0,rX,o6,o5,o4,o3,o0,oZ,oY,oX,oW,oV,oU,oT,oS,u32,oR,oQ,oP,oO,oN,oM,oL,oK,oJ,oI,oH,oG,oF,oE,oD,oC,oB,oA,oz,oy,ox,ow,ou,ot,oq,oo,om,oj,oi,oh,og,u64,pW,pV,qu,qt,qq,qp,qo,qn,qm,ql,qk,qj,qi,qh,qg,qf,qz,qy,qx,rK,rJ,rI,rH,rG,rF,rE,rD,rC,rB,rA,rz,ry,ru,rq,rp,fh,eE,eB,ez,ey,ew,ev,eu,ej,eh,ed,dZ,dY,dX,dW,dV,dU,dT,dS,dR,dQ,dP,dO,dN,dM,dL,dK,dJ,dI,dH,dG,dF,dE,dD,dC,dB,dA,dz,dy,dx,fy,fx,gB,iB,iA,iz,iy,ix,iw,iu,ir,ik,ij,ig,ie,ib,gZ,gY,gX,gW,gV,gU,gT,gS,gR,gQ,gP,gO,gN,gM,gK,gJ,gI,kR,kQ,kP,kO,kN,kM,kL,kK,kJ,kI,kG,kF,kE,kD,kC,kB,ky,kv,ku,kj,kf,ke,j9,j8,j7,j6,j5,j4,jZ,jY,jX,jW,jV,jU,jT,jS,jR,jQ,jP,jO,jN,jM,jL,jK,jJ,jI,jH,gA,gy,gw,gv,gp,gm,gj,gi,gh,gg,tW,tV,tU,tT,tS,tR,tQ,tP,tO,tN,nZ,nY,nX,nW,nV,nU,nT,nR,nQ,nP,nO,nM,nL,nJ,nI,nH,nG,nF,nE,nD,nB,nA,nz,ny,nv,nu,nt,nr,np,nk,nj,ni,nh,ng,nc,na,m9,m8,m7,mZ,mY,mX,mW,mV,mU,mT,mS,mR,mQ,mP,mO,mN],[]⟩ w:=by
 conv=>arg 2;whnf
 go_wp2_with fail;go_loopg [17] CL (fun m uB W=>∃ k:Nat,k<=CL/\uB = .int .i64 (k:Int)/\m=CL - k/\Kept w W/\Hid (K=3->∀ j,j<k->¬ palN / 3<=qE D x j))
 case atStart=>exact ⟨0,by omega,rfl,by omega,Kept.refl _,fun _ j hj=>by omega⟩
 case round=>
  obtain ⟨k,hkl,rfl,hm,hw,HN⟩:=hrel;have HM:Hid _:=hm;have HW:Hid (Kept w wr):=hw;have lsb:sb<w.heap.size:=World.block_lt_of_cell? _ _ hs0;have lrb:rb<w.heap.size:=World.block_lt_of_cell? _ _ r2;have lfb:fb<w.heap.size:=World.block_lt_of_cell? _ _ f3;have lmb:mb<w.heap.size:=World.block_lt_of_cell? _ _ m5;have s0:=(hw.cell (p:=⟨sb,0,none⟩) lsb).trans hs0;have q2:=(hw.cell (p:=⟨rb,2,none⟩) lrb).trans r2;have q3:=(hw.cell (p:=⟨rb,3,none⟩) lrb).trans r3;have q4:=(hw.cell (p:=⟨rb,4,none⟩) lrb).trans r4;have g3:=(hw.cell (p:=⟨fb,3,none⟩) lfb).trans f3;have g4:=(hw.cell (p:=⟨fb,4,none⟩) lfb).trans f4;have g8:=(hw.cell (p:=⟨fb,8,none⟩) lfb).trans f8;have h5:=(hw.cell (p:=⟨mb,5,none⟩) lmb).trans m5;have h6:=(hw.cell (p:=⟨mb,6,none⟩) lmb).trans m6;have hf1:∀ k,wr.frozen? ⟨mb,k,none⟩=false:=fun k=>(hw.frozen (p:=⟨mb,k,none⟩) lmb).trans (hfz k)
  clear hm hw;by_cases c:k<CL/\K=3
  ·obtain ⟨c1,c2⟩:=c
   subst c2;have hci:(k:Int)<(CL:Int):=by omega
   have HZ:=hz.out.fr (S:=fun _=>False) (Fr.of_kept HW.out) (fun g hg e=>e);obtain ⟨g,hg,z0,z1⟩:=HZ.cells _ _ rfl (FR+SZ) (by omega)
   injection hg with hg
   injection hg with hg
   subst hg;have HX:Hid (fI wr gx SZ x):=by
    by_cases h0:SZ=0
    ·subst h0;exact ⟨(fun j hj=>by omega),(fun j hj=>by omega)⟩
    ·exact hx.out.kept (by omega) HW.out
   obtain ⟨V,hV⟩:∃ V,V=qE D x k:=⟨_,rfl⟩;have Fd:Hid (Calls Tryz.prog 73 #[.slice (some ⟨gx,0,none⟩) SZ cx,.int .i64 (k:Int),.int .i64 (D:Int)] wr fun r w'=>r = .returned (.int .i64 (V:Int))/\Kept wr w'):=by
    have:=BH gx SZ cx k D x wr HX.out hD.out (hk.out rfl k c1) (by omega)
    rw[<- hV] at this;exact this
   have HV:Hid _:=hV;obtain ⟨A,hA⟩:∃ A,A=pAt out (FR+SZ):=⟨_,rfl⟩;rw[<- hA] at z1;have HA:Hid _:=hA;have HZ1:Hid _:=z1;clear hV z0 HZ hA z1 hs0 r2 r3 r4 f3 f4 f8 m5 m6 hfz;go_wp2_with fail;refine Fd.out.mono ?_;rintro r w1 ⟨rfl,hw1⟩;have lsb1:sb<wr.heap.size:=World.block_lt_of_cell? _ _ s0;have lrb1:rb<wr.heap.size:=World.block_lt_of_cell? _ _ q2;have lfb1:fb<wr.heap.size:=World.block_lt_of_cell? _ _ g3;have lmb1:mb<wr.heap.size:=World.block_lt_of_cell? _ _ h5;have s0':=(hw1.cell (p:=⟨sb,0,none⟩) lsb1).trans s0;have q2':=(hw1.cell (p:=⟨rb,2,none⟩) lrb1).trans q2;have q4':=(hw1.cell (p:=⟨rb,4,none⟩) lrb1).trans q4;have g8':=(hw1.cell (p:=⟨fb,8,none⟩) lfb1).trans g8;have h5':=(hw1.cell (p:=⟨mb,5,none⟩) lmb1).trans h5;have h6':=(hw1.cell (p:=⟨mb,6,none⟩) lmb1).trans h6;have hf1':∀ k,w1.frozen? ⟨mb,k,none⟩=false:=fun k=>(hw1.frozen (p:=⟨mb,k,none⟩) lmb1).trans (hf1 k)
   have lgz:gz<wr.heap.size:=World.block_lt_of_cell? _ _ HZ1.out;have z1':=(hw1.cell (p:=⟨gz,(FR+SZ)*2+1,none⟩) lgz).trans HZ1.out;have HW1:Hid (Kept w w1):=HW.out.trans hw1;clear s0 q2 q3 q4 g3 g4 g8 h5 h6 hf1 hw1 HZ1;by_cases e:palN / 3<=V
   ·have HB:Hid (wR 3 D (palN / 3) CL x=true):=IZ rfl c1 (by rw[<- HV.out];exact e)
    have ei:(palN:Int) / 3<=(V:Int):=by omega
    clear e;obtain ⟨P,hP⟩:∃ P,P=FR+SZ:=⟨_,rfl⟩;rw[<- hP] at z1';have w1':IntKind.i64.wrap ((FR:Int)+(SZ:Int))=(P:Int):=by rw[IntKind.wrap_i64];omega
    have w2':IntKind.i64.wrap (P:Int)=(P:Int):=by rw[IntKind.wrap_i64];omega
    have hPl:(P:Int)<(out.length:Int):=by omega
    have hPn:(0:Int)<=(P:Int):=by omega
    have k0:=(ax (b:=mb) w1 5 0 (.int .i64 16) n1).trans s0';have k2:=(ax (b:=mb) w1 5 2 (.int .i64 16) n2).trans q2';have k4:=(ax (b:=mb) w1 5 4 (.int .i64 16) n2).trans q4';have kz:=(ax (b:=mb) w1 5 (P*2+1) (.int .i64 16) n4).trans z1';have k6:(w1.setCell ⟨mb,5,none⟩ (.int .i64 16)).cell? ⟨mb,6,none⟩=some v6:=(aa _ _ _ _ _ (by omega)).trans h6';have HP:Hid _:=hP;clear hP;go_wp2_with fail;go_region_held3 (fun W=>W.cell? ⟨sb,0,none⟩=some (.slice (some ⟨gz,0,none⟩) out.length co)/\W.cell? ⟨rb,2,none⟩=some (.int .i64 (FR:Int))/\W.cell? ⟨rb,4,none⟩=some (.int .i64 (SZ:Int))/\W.cell? ⟨gz,P*2+1,none⟩=some (.int .i64 (A:Int))) (first | exact ⟨k0,k2,k4,kz⟩ | exact ⟨(ax _ _ _ _ (by omega)).trans k0,(ax _ _ _ _ (by omega)).trans k2,(ax _ _ _ _ (by omega)).trans k4,(ax _ _ _ _ (by omega)).trans kz⟩ | go_keep) (fail)
    go_wp2_with fail;refine hQr.out HB.out _ _ _ _ _ _ _ _ _ _ _ _ _ _ _ _ _ _ _ _ _ _ _ _ _ _ _ _ _ _ _ _ _ _ _ _ _ _ _ _ _ _ _ _ _ _ _ _ _ _ _ HW1.out ?_;rw[<- HA.out]
   ·have HB:Hid (¬ palN / 3<=V):=e
    have ei:¬ (palN:Int) / 3<=(V:Int):=by omega
    clear e;go_wp2_with fail;go_roundg (CL - (k+1))
    case measure=>have:=HM.out;omega
    refine ⟨k+1,by omega,by go_num,rfl,HW1.out,fun q j hj => ?_⟩;by_cases e:j=k
    ·subst e;rw[<- HV.out];exact HB.out
    ·exact HN.out (by first | rfl | trivial) j (by omega)
  ·have HB:Hid (wR K D (palN / 3) CL x=false):=KV (fun q j hj=>HN.out q j (by omega))
   clear hs0 r2 r3 r4 f3 f4 f8 m5 m6 hfz;by_cases c1:k<CL
   ·have c2:((K:Int) == 3)=false:=by rw[beq_eq_false_iff_ne];omega
    have hci:(k:Int)<(CL:Int):=by omega
    clear c;go_wp2_with fail;exact hQn.out HB.out _ _ _ _ _ _ _ _ _ _ _ _ _ _ _ _ _ _ _ _ _ _ _ _ _ _ _ _ _ _ _ _ _ _ _ _ _ _ _ _ _ _ _ _ _ _ _ _ _ _ _ HW.out
   ·have hci:¬ (k:Int)<(CL:Int):=by omega
    clear c;go_wp2_with fail;exact hQn.out HB.out _ _ _ _ _ _ _ _ _ _ _ _ _ _ _ _ _ _ _ _ _ _ _ _ _ _ _ _ _ _ _ _ _ _ _ _ _ _ _ _ _ _ _ _ _ _ _ _ _ _ _ HW.out
def Mm:Code->Code
 | .block _ b=>b
 | c=>c
def fF (n:Nat):Code->Option Code
 | .seq (.region k o d) b=>if k=n then some (.seq (.region k o d) b) else fF n b
 | .seq _ b=>fF n b
 | _=>none
def OfR (h:Hd) (C:Nat) (out:List One) (rows:List (Nat × Nat)) (w3 W:World) (mb:Nat):Prop:=∃ ls e p,aN h C rows (fun _=>0) out = .bad (ls.map Ln.x) e p/\mJ w3 W mb e p ls/\Jg h rows ls
structure OfE (w3:World) (fb sb mb gz gr co cr palN ST:Nat) (h:Hd) (out:List One) (rows:List (Nat × Nat)):Prop where
 fd:sf w3 fb h palN
 s0:w3.cell? ⟨sb,0,none⟩=some (.slice (some ⟨gz,0,none⟩) out.length co)
 z:ZAt w3 (.slice (some ⟨gz,0,none⟩) out.length co) out
 rw:w3.ownsRow (mb+1) 146 5 (.slice (some ⟨gr,0,none⟩) rows.length cr) rows.length (kT h rows 0)
 n1:fb≠mb
 n2:sb≠mb
 n3:gz≠mb
 hz:gz<w3.heap.size
 ol:out.length<=4294967296
 by':dt out
 pal:palN<=1048576
 st:ST=cE h
 st1:1<=ST
 st8:ST<=8
 W:h.W<=16
 H:h.H<=16
 D:okD h.D
 bits:1<=bG h
 rl:rows.length<=200
 tot:aH h rows<=200*200
theorem wh (w:World) (n:Nat) (hn:n<=1048576):(Instr.makeSlice 30 (.int .i64 (n:Int)) (.int .i64 (n:Int))).run Tryz.prog w = .ok (.slice (some ⟨w.heap.size,0,none⟩) n n) (w.alloc (.cells (madeCells #[Value.int .i64 0] n) 3)) :=
 run_make_row' 30 3 (.int .i64 0) 8 Tryz.underlying30 rS rfl .i64 .i64 n (by omega) (by omega) w
theorem B9 (n j:Nat) (h:j<n):(madeCells #[Value.int .i64 0] n)[j]? = some (.int .i64 0):=by
 unfold madeCells;rw[Array.getElem?_map,Array.getElem?_range,if_pos h];show some (#[Value.int .i64 0][j % 1]!)=_
 rw[Nat.mod_one];rfl
theorem Dn (w:World) (n:Nat):fI (w.alloc (.cells (madeCells #[Value.int .i64 0] n) 3)) w.heap.size n (fun _=>0):=⟨fun j hj=>(World.cell?_alloc_at _ _ _ _ rfl).trans (B9 n j hj),fun j hj=>by show 0<256;omega⟩
theorem gF.oth {w3 W W':World} {mb b:Nat} {lv fv:Value} {ls:List Ln} (h:gF w3 W mb lv fv ls) (F:Fr1 b W W') (hb:w3.heap.size<=b) (h1:∀ a ∈ ls,a.g≠b) (h2:lv.ownBlock≠some b) (h3:fv.ownBlock≠some b):gF w3 W' mb lv fv ls:=by
 have hne:mb≠b:=by have:=h.lt;omega
 have hm:mb<W.heap.size:=World.block_lt_of_cell? _ _ h.c3;obtain ⟨fs,hfs⟩:=h.fil;have c:∀ i,W'.cell? ⟨mb,i,none⟩=W.cell? ⟨mb,i,none⟩:=fun i=>F.cell hm hne
 refine ⟨(c 3).trans h.c3,(c 4).trans h.c4,(c 5).trans h.c5,(c 6).trans h.c6,fun i hi=>(c i).trans (h.c02 i hi),fun i=>(F.frozen hm hne).trans (h.fz i),h.fr.trans' F (fun i hi e=>by omega),h.lt,aQ h.own F (fun g hg e=>h2 (by rw[hg,e])),⟨fs,aQ hfs F (fun g hg e=>h3 (by rw[hg,e]))⟩,fun a ha => ?_,h.dis⟩;obtain ⟨a1,a2,a3,a4⟩:=h.ln a ha;exact ⟨a1.same (F.block a.g a3 (h1 a ha)),a2,Nat.lt_of_lt_of_le a3 F.size,a4⟩
theorem KG {out:List One} (h:dt out) (i:Nat):vAt out i<256:=by
 unfold vAt;rw[List.getD_eq_getElem?_getD];cases e:out[i]? with
 | none=>simp
 | some x=>exact (h x (List.mem_of_getElem? e)).1
theorem Mq {Q:Exit->Act->World->Prop} {u2 u3 u4 u5 u7 u8 rY uC sq u16 sx rX o6 o5 o4 o3 o0 oZ oY oX oW oV oU oT oS u32 oR oQ oP oO oN oM oL oK oJ oI oH oG oF oE oD oC oB oA oz oy ox ow ou ot oq oo om oj oi oh og u64 pW pV qu qt qq qp qo qn qm ql qk qj qi qh qg qf qz qy qx rK rJ rI rH rG rF rE rD rC rB rA rz ry ru rq rp fh eE eB ez ey ew ev eu ej eh ed dZ dY dX dW dV dU dT dS dR dQ dP dO dN dM dL dK dJ dI dH dG dF dE dD dC dB dA dz dy dx fy fx gB iB iA iz iy ix iw iu ir ik ij ig ie ib gZ gY gX gW gV gU gT gS gR gQ gP gO gN gM gK gJ gI kR kQ kP kO kN kM kL kK kJ kI kG kF kE kD kC kB ky kv ku kj kf ke j9 j8 j7 j6 j5 j4 jZ jY jX jW jV jU jT jS jR jQ jP jO jN jM jL jK jJ jI jH gA gy gw gv gp gm gj gi gh gg tW tV tU tT tS tR tQ tP tO tN nZ nY nX nW nV nU nT nR nQ nP nO nM nL nJ nI nH nG nF nE nD nB nA nz ny nv nu nt nr np nk nj ni nh ng nc na m9 m8 m7 mZ mY mX mW mV mU mT mS mR mQ mP mO mN:Value} (fb sb mb gz gr co cr palN ST k prev:Nat) (h:Hd) (out:List One) (rows pre rs:List (Nat × Nat)) (p n:Nat) (lv fv:Value) (ls:List Ln) (up:Nat->Nat) (w3 w w5:World) (rb gu cu t FR SZ CL:Nat)
  (HE:Hid (OfE w3 fb sb mb gz gr co cr palN ST h out rows)) (HL:Hid (OfL h (palN / 3) out rows w3 w mb k lv fv ls pre ((p,n)::rs) prev up)) (hlt:Hid (aH h pre<out.length))
  (HI:Hid (gF w3 w5 mb lv fv ls)) (hrb:rb≠mb) (y2:w5.cell? ⟨rb,2,none⟩=some (.int .i64 (FR:Int))) (y3:w5.cell? ⟨rb,3,none⟩=some (.int .i64 (CL:Int))) (y4:w5.cell? ⟨rb,4,none⟩=some (.int .i64 (SZ:Int)))
  (HU:Hid (fI w5 gu SZ (if n=0 then fun _=>0 else up))) (hgu:gu<w5.heap.size) (HFR:Hid (FR=aH h pre)) (HSZ:Hid (SZ=aL h p)) (HCL:Hid (CL=bY h p)) (HT:Hid (t=vAt out FR)) (ht4:t<=4) (HB:Hid (FR+SZ<out.length)) (b1:SZ<=1000) (b2:FR<=40000) (b7:CL<=16) (hsz:1<=SZ)
  (hQn:Hid (∀ v4 vD vh vC uB uV pM pL pK mC mB mA mz my mx mw mv mu mr mq mo mn mm ml mj mi mh mg lZ lY lX lW lV lU lT lS lR lQ lP jG jF jE jD jC jB jA jz jy jx jw jv ju jt js jr jq jo jn jm jl jk jj ji jh jg jf je jd jc jb ja iZ iY iX iW iV iU iT iS iR iQ iP iO iN iM iL pJ pI pH pG pF pE pD pC pB pA pz pq pn pj pg pe pd o9 o8 o7 W' lv' fv' ls' prev' up',OfL h (palN / 3) out rows w3 W' mb (k+1) lv' fv' ls' (pre++[(p,n)]) rs prev' up'->Q .normal ⟨#[.pointer (some ⟨fb,0,none⟩),.pointer (some ⟨sb,0,none⟩),u2,u3,v4,u5,.pointer (some ⟨mb,0,none⟩),u7,u8,.int .i64 (ST:Int),rY,.pointer (some ⟨rb,0,none⟩),.int .i64 (t:Int),.slice (some ⟨gu,0,none⟩) SZ cu,vD,vh,vC,uB,uV,o6,o5,o4,o3,o0,oZ,oY,oX,oW,oV,oU,oT,oS,u32,oR,oQ,oP,oO,oN,oM,oL,oK,oJ,oI,oH,oG,oF,oE,oD,oC,oB,oA,oz,oy,ox,ow,ou,ot,oq,oo,om,oj,oi,oh,og,u64,pW,pV,qu,qt,qq,qp,qo,qn,qm,ql,qk,qj,qi,qh,qg,qf,qz,qy,qx,rK,rJ,rI,rH,rG,rF,rE,rD,rC,rB,rA,rz,ry,ru,rq,rp,fh,eE,eB,ez,ey,ew,ev,eu,ej,eh,ed,dZ,dY,dX,dW,dV,dU,dT,dS,dR,dQ,dP,dO,dN,dM,dL,dK,dJ,dI,dH,dG,dF,dE,dD,dC,dB,dA,dz,dy,dx,pM,pL,pK,mC,mB,mA,mz,my,mx,mw,mv,mu,mr,mq,mo,mn,mm,ml,mj,mi,mh,mg,lZ,lY,lX,lW,lV,lU,lT,lS,lR,lQ,lP,jG,jF,jE,jD,jC,jB,jA,jz,jy,jx,jw,jv,ju,jt,js,jr,jq,jo,jn,jm,jl,jk,jj,ji,jh,jg,jf,je,jd,jc,jb,ja,iZ,iY,iX,iW,iV,iU,iT,iS,iR,iQ,iP,iO,iN,iM,iL,pJ,pI,pH,pG,pF,pE,pD,pC,pB,pA,pz,pq,pn,pj,pg,pe,pd,o9,o8,o7,nZ,nY,nX,nW,nV,nU,nT,nR,nQ,nP,nO,nM,nL,nJ,nI,nH,nG,nF,nE,nD,nB,nA,nz,ny,nv,nu,nt,nr,np,nk,nj,ni,nh,ng,nc,na,m9,m8,m7,mZ,mY,mX,mW,mV,mU,mT,mS,mR,mQ,mP,mO,mN],[]⟩ W'))
  (hQr:Hid (∀ vD vh vC uB uV pM pL pK mC mB mA mz my mx mw mv mu mr mq mo mn mm ml mj mi mh mg lZ lY lX lW lV lU lT lS lR lQ lP jG jF jE jD jC jB jA jz jy jx jw jv ju jt js jr jq jo jn jm jl jk jj ji jh jg jf je jd jc jb ja iZ iY iX iW iV iU iT iS iR iQ iP iO iN iM iL pJ pI pH pG pF pE pD pC pB pA pz pq pn pj pg pe pd o9 o8 o7 W',OfR h (palN / 3) out rows w3 W' mb->Q .ret ⟨#[.pointer (some ⟨fb,0,none⟩),.pointer (some ⟨sb,0,none⟩),u2,u3,.pointer (some ⟨mb,0,none⟩),u5,.pointer (some ⟨mb,0,none⟩),u7,u8,.int .i64 (ST:Int),rY,.pointer (some ⟨rb,0,none⟩),.int .i64 (t:Int),.slice (some ⟨gu,0,none⟩) SZ cu,vD,vh,vC,uB,uV,o6,o5,o4,o3,o0,oZ,oY,oX,oW,oV,oU,oT,oS,u32,oR,oQ,oP,oO,oN,oM,oL,oK,oJ,oI,oH,oG,oF,oE,oD,oC,oB,oA,oz,oy,ox,ow,ou,ot,oq,oo,om,oj,oi,oh,og,u64,pW,pV,qu,qt,qq,qp,qo,qn,qm,ql,qk,qj,qi,qh,qg,qf,qz,qy,qx,rK,rJ,rI,rH,rG,rF,rE,rD,rC,rB,rA,rz,ry,ru,rq,rp,fh,eE,eB,ez,ey,ew,ev,eu,ej,eh,ed,dZ,dY,dX,dW,dV,dU,dT,dS,dR,dQ,dP,dO,dN,dM,dL,dK,dJ,dI,dH,dG,dF,dE,dD,dC,dB,dA,dz,dy,dx,pM,pL,pK,mC,mB,mA,mz,my,mx,mw,mv,mu,mr,mq,mo,mn,mm,ml,mj,mi,mh,mg,lZ,lY,lX,lW,lV,lU,lT,lS,lR,lQ,lP,jG,jF,jE,jD,jC,jB,jA,jz,jy,jx,jw,jv,ju,jt,js,jr,jq,jo,jn,jm,jl,jk,jj,ji,jh,jg,jf,je,jd,jc,jb,ja,iZ,iY,iX,iW,iV,iU,iT,iS,iR,iQ,iP,iO,iN,iM,iL,pJ,pI,pH,pG,pF,pE,pD,pC,pB,pA,pz,pq,pn,pj,pg,pe,pd,o9,o8,o7,nZ,nY,nX,nW,nV,nU,nT,nR,nQ,nP,nO,nM,nL,nJ,nI,nH,nG,nF,nE,nD,nB,nA,nz,ny,nv,nu,nt,nr,np,nk,nj,ni,nh,ng,nc,na,m9,m8,m7,mZ,mY,mX,mW,mV,mU,mT,mS,mR,mQ,mP,mO,mN],[]⟩ W')) :
  Code.wp Tryz.prog ((((Tryz.f42.body.bind (fJ 1)).map Mm).bind (fF 19)).getD .skip) Q ⟨#[.pointer (some ⟨fb,0,none⟩),.pointer (some ⟨sb,0,none⟩),u2,u3,u4,u5,.pointer (some ⟨mb,0,none⟩),u7,u8,.int .i64 (ST:Int),rY,.pointer (some ⟨rb,0,none⟩),.int .i64 (t:Int),.slice (some ⟨gu,0,none⟩) SZ cu,uC,sq,u16,sx,rX,o6,o5,o4,o3,o0,oZ,oY,oX,oW,oV,oU,oT,oS,u32,oR,oQ,oP,oO,oN,oM,oL,oK,oJ,oI,oH,oG,oF,oE,oD,oC,oB,oA,oz,oy,ox,ow,ou,ot,oq,oo,om,oj,oi,oh,og,u64,pW,pV,qu,qt,qq,qp,qo,qn,qm,ql,qk,qj,qi,qh,qg,qf,qz,qy,qx,rK,rJ,rI,rH,rG,rF,rE,rD,rC,rB,rA,rz,ry,ru,rq,rp,fh,eE,eB,ez,ey,ew,ev,eu,ej,eh,ed,dZ,dY,dX,dW,dV,dU,dT,dS,dR,dQ,dP,dO,dN,dM,dL,dK,dJ,dI,dH,dG,dF,dE,dD,dC,dB,dA,dz,dy,dx,fy,fx,gB,iB,iA,iz,iy,ix,iw,iu,ir,ik,ij,ig,ie,ib,gZ,gY,gX,gW,gV,gU,gT,gS,gR,gQ,gP,gO,gN,gM,gK,gJ,gI,kR,kQ,kP,kO,kN,kM,kL,kK,kJ,kI,kG,kF,kE,kD,kC,kB,ky,kv,ku,kj,kf,ke,j9,j8,j7,j6,j5,j4,jZ,jY,jX,jW,jV,jU,jT,jS,jR,jQ,jP,jO,jN,jM,jL,jK,jJ,jI,jH,gA,gy,gw,gv,gp,gm,gj,gi,gh,gg,tW,tV,tU,tT,tS,tR,tQ,tP,tO,tN,nZ,nY,nX,nW,nV,nU,nT,nR,nQ,nP,nO,nM,nL,nJ,nI,nH,nG,nF,nE,nD,nB,nA,nz,ny,nv,nu,nt,nr,np,nk,nj,ni,nh,ng,nc,na,m9,m8,m7,mZ,mY,mX,mW,mV,mU,mT,mS,mR,mQ,mP,mO,mN],[]⟩ w5:=by
 conv=>arg 2;whnf
 have hmk:=wh w5 SZ (by omega);obtain ⟨w6,hw6⟩:∃ w6,w6=w5.alloc (.cells (madeCells #[Value.int .i64 0] SZ) 3):=⟨_,rfl⟩;rw[<- hw6] at hmk;have K6:Hid (Kept w5 w6):=by rw[hw6];exact Below.alloc (Below.refl _ _) (Nat.le_refl _) _
 obtain ⟨gx,hgx⟩:∃ gx,gx=w5.heap.size:=⟨_,rfl⟩;have L6:Hid (fI w6 gx SZ (fun _=>0)):=by rw[hw6,hgx];exact Dn w5 SZ
 have F6:Hid (∀ j,w6.frozen? ⟨gx,j,none⟩=false):=fun j=>by rw[hw6,hgx];exact World.frozen?_alloc_at _ _ _ _ rfl
 have S6:Hid (w6.heap.size=gx+1):=by show _=_;rw[hw6,hgx];simp
 rw[<- hgx] at hmk;have HGX:Hid (gx=w5.heap.size):=hgx;clear hw6;have hI6:=HI.out.kept K6.out;have hsb3:sb<w3.heap.size:=World.block_lt_of_cell? _ _ HE.out.s0;have hsz5:=HI.out.fr.size;have hm3:=HI.out.lt;have hfb3:=HE.out.fd.lt;have hgz3:=HE.out.hz;have hrb5:rb<w5.heap.size:=World.block_lt_of_cell? _ _ y2;have s6:w6.cell? ⟨sb,0,none⟩=some (.slice (some ⟨gz,0,none⟩) out.length co):=(hI6.fr.cell hsb3 HE.out.n2).trans HE.out.s0;have z6:Hid (ZAt w6 (.slice (some ⟨gz,0,none⟩) out.length co) out):=HE.out.z.fr hI6.fr (fun g hg e=>by injection hg with hg;simp at hg;have:=HE.out.n3;omega);have r2:=(K6.out.cell (p:=⟨rb,2,none⟩) hrb5).trans y2;have r3:=(K6.out.cell (p:=⟨rb,3,none⟩) hrb5).trans y3;have r4:=(K6.out.cell (p:=⟨rb,4,none⟩) hrb5).trans y4;have U6:Hid (fI w6 gu SZ (if n=0 then fun _=>0 else up)):=HU.out.kept (by omega) K6.out;have HI6:Hid (gF w3 w6 mb lv fv ls):=hI6;have d6:Hid (sf w6 fb h palN):=HE.out.fd.same (hI6.fr.block fb hfb3 HE.out.n1);have HO:Hid (∀ i,i<SZ->oAt (out.drop (FR+1)) i=vAt out (FR+1+i)/\oAt (out.drop (FR+1)) i<256):=fun i hi=>by
  have e:oAt (out.drop (FR+1)) i=vAt out (FR+1+i):=by
   unfold oAt vAt;rw[List.getD_eq_getElem?_getD,List.getElem?_drop,List.getD_eq_getElem?_getD]
  exact ⟨e,by rw[e];exact KG HE.out.by' _⟩
 have ol:=HE.out.ol;have st1:=HE.out.st1;have st8:=HE.out.st8;have pal:=HE.out.pal;have hne1:Hid (sb≠gx/\rb≠gx/\gu≠gx/\gz≠gx/\fb≠gx/\mb≠gx):=by
  have:=HGX.out
  refine ⟨?_,?_,?_,?_,?_,?_⟩<;>omega
 clear y2 y3 hI6 hgx;go_upto_block 2 with fail
 refine Nk sb rb gx gu SZ FR ST t cu SZ co gz out (if n=0 then fun _=>0 else up) (oAt (out.drop (FR+1))) w6 s6 z6 r2 r4 U6 L6 F6.out hne1.out.1 hne1.out.2.1 hne1.out.2.2.1 hne1.out.2.2.2.1 HB.out (by omega) (by omega) st1 st8 ht4 ol HO ?_;intro vh vC mC mB mA mz my mx mw mv mu mr mq mo mn mm ml mj mi mh mg lZ lY lX lW lV lU lT lS lR lQ lP w7 hl7 hf7;have k7:∀ c j,c<w6.heap.size->c≠gx->w7.cell? ⟨c,j,none⟩=w6.cell? ⟨c,j,none⟩:=fun c j h1 h2=>hf7.cell h1 h2
 have hs6:=S6.out;have hgx5:=HGX.out;obtain ⟨e1,e2,e3,e4,e5,e6⟩:=hne1.out;have s7:=(k7 sb 0 (by omega) e1).trans s6;have q2:=(k7 rb 2 (by omega) e2).trans r2;have q3:=(k7 rb 3 (by omega) e2).trans r3;have q4:=(k7 rb 4 (by omega) e2).trans r4;have z7:Hid (ZAt w7 (.slice (some ⟨gz,0,none⟩) out.length co) out):=z6.out.fr hf7 (fun g hg e=>by injection hg with hg;simp at hg;omega);have d7:=d6.out.same (hf7.block fb (by omega) e5);obtain ⟨pa,pc,d8⟩:=d7.c8;have hI7:gF w3 w7 mb lv fv ls:=HI6.out.oth hf7 (by omega) (fun a ha=>by have:=(HI.out.ln a ha).2.2.1;omega) (fun e=>by have:=(HI.out.own.lt _ e).2;omega) (fun e=>by obtain ⟨fs,hfs⟩:=HI.out.fil;have:=(hfs.lt _ e).2;omega);have HI7:Hid (gF w3 w7 mb lv fv ls):=hI7;have m5:=hI7.c5;have m6:=hI7.c6;have mf:=hI7.fz;have f3:=d7.c3;have f4:=d7.c4;have hgx7:Hid (gx<w7.heap.size):=Nat.lt_of_lt_of_le (show gx<w6.heap.size by omega) hf7.size;obtain ⟨X,hX⟩:∃ X,X=fV ST t (if n=0 then fun _=>0 else up) (oAt (out.drop (FR+1))) SZ:=⟨_,rfl⟩;rw[<- hX] at hl7;have L7:Hid (fI w7 gx SZ X):=hl7;have HX:Hid _:=hX;have HLX:Hid (X=cy h p n t up (out.drop (FR+1))):=by
  show X=cy h p n t up (out.drop (FR+1))
  rw[hX];unfold cy;rw[<- HE.out.st,<- HSZ.out]
 have HK:Hid (h.K=3->∀ k,k<CL->(k+1)*h.D<=8*SZ):=fun q k hk=>by
  have h1:(k+1)*h.D<=CL*h.D:=Nat.mul_le_mul_right _ hk;have h2:=HSZ.out;unfold aL bG at h2;rw[q,<- HCL.out,show chn 3=1 from rfl,Nat.one_mul] at h2;omega
 have HIX:Hid (ly h (palN / 3) p X=wR h.K h.D (palN / 3) CL X):=by
  show ly h (palN / 3) p X=wR h.K h.D (palN / 3) CL X
  rw[HCL.out];rfl
 have HDD:Hid (okD h.D):=HE.out.D;clear k7 s6 r2 r3 r4 hl7 hf7 hX d7 hI7 hs6 hgx5 e1 e2 e3 e4 e5 e6 L6 U6;go_upto_block 4 with fail
 refine Nj fb sb mb rb gx SZ CL FR h.K h.D palN SZ co pc gz pa out X _ _ w7 s7 z7 q2 q3 q4 f3 f4 d8 m5 m6 L7 mf HE.out.n2 hrb HE.out.n3 HB.out (by omega) (by omega) ol (by omega) pal HDD HK ?_ ?_
 ·intro hbad v4 uB uV jG jF jE jD jC jB jA jz jy jx jw jv ju jt js jr jq jo jn jm jl jk jj ji jh jg jf je jd jc jb ja iZ iY iX iW iV iU iT iS iR iQ iP iO iN iM iL w8 hk8
  have hI8:gF w3 w8 mb lv fv ls:=HI7.out.kept hk8;have L8:Hid (fI w8 gx SZ X):=L7.out.kept (by omega) hk8;have hgx8:gx<w8.heap.size:=Nat.lt_of_lt_of_le hgx7.out hk8.size;have HIB:Hid (ly h (palN / 3) p X=false):=HIX.out.trans hbad;have c3:=hI8.c3;have mf8:=hI8.fz;have hown:=hI8.own;have hm8:=hI8.lt;have hfr8:=hI8.fr.size;have ngl:lv.ownBlock≠some gx:=fun e=>by have:=(HI.out.own.lt _ e).2;have:=HGX.out;omega
  have ngf:fv.ownBlock≠some gx:=fun e=>by obtain ⟨fs,hfs⟩:=HI.out.fil;have:=(hfs.lt _ e).2;have:=HGX.out;omega
  obtain ⟨pl,cl,hlv⟩:=aq hown;have hlen:ls.length<=200:=by
   have h1:=HL.out.lenl;have h2:=HL.out.len;have h3:=HE.out.rl;rw[HL.out.split,List.length_append] at h3;omega
  have HLV:Hid (lv = .slice pl ls.length cl):=hlv;rw[hlv] at c3;have HC:Hid (∀ j u,[Value.slice (some ⟨gx,0,none⟩) SZ SZ][j]? = some u->(w8.alloc (.cells #[.slice (some ⟨gx,0,none⟩) SZ SZ] 30)).cell? (Addr.add ⟨w8.heap.size,0,none⟩ j)=some u):=by
   intro j u hj
   match j,hj with
   | 0,hj=>simp at hj;subst hj;simp [Addr.add]
   | j+1,hj=>simp at hj
  have HI8:Hid (gF w3 w8 mb lv fv ls):=hI8;have HOW:Hid (w8.ownsRow w3.heap.size 30 1 lv ls.length (ls.map lnV)):=hown;have HNG:Hid (lv.ownBlock≠some gx/\fv.ownBlock≠some gx):=⟨ngl,ngf⟩;have HK8:Hid (Kept w7 w8):=hk8;clear hI8 hown ngl ngf hbad hk8 hlv m5 m6 mf s7 q2 q3 q4 f3 f4 d8;go_wp2_with (at_builtin;refine cT _ 103 30 1 24 (.slice none 0 0) Tryz.underlying103 If rfl (by omega) rfl _ _ rfl w3.heap.size lv ls.length (ls.map lnV) (by rw[HLV.out];rfl) (HOW.out.alloc _) ⟨w8.heap.size,0,none⟩ 1 1 [.slice (some ⟨gx,0,none⟩) SZ SZ] rfl rfl (by omega) HC.out (by intro u hu;simp at hu;subst hu;rfl) (by unfold maxLen;omega) (by omega) (by simp;omega) ?_)
  intro v' w9 ho9 hg9 hn9;obtain ⟨p',c',hv'⟩:=aq ho9;have hIa:gF w3 (w8.alloc (.cells #[.slice (some ⟨gx,0,none⟩) SZ SZ] 30)) mb lv fv ls:=HI8.out.kept (Below.alloc (Below.refl _ _) (Nat.le_refl _) _);have La:fI (w8.alloc (.cells #[.slice (some ⟨gx,0,none⟩) SZ SZ] 30)) gx SZ X:=L8.out.kept (by omega) (Below.alloc (Below.refl _ _) (Nat.le_refl _) _);obtain ⟨fs,g1,g2,g3,g4,g5,g6,g7,g8⟩:=hIa.line (a:=⟨gx,SZ,X⟩) (lv':=v') La (by show w3.heap.size<=gx;have:=HI.out.fr.size;have:=HGX.out;omega) (by show gx<_;simp;omega) HNG.out.1 HNG.out.2 hg9 ho9 (fun k hk=>by rcases hn9 k hk with q | q;exact Or.inl q;exact Or.inr (by simpa using q));have hmo:some mb≠lv.ownBlock:=fun e=>by have:=(HOW.out.lt mb e.symm).1;omega
  have blkm:w9.heap[mb]? = w8.heap[mb]? := (hg9.block mb (by simp;omega) hmo).trans (Below.heap_alloc _ _ _ (by omega));have c39:w9.cell? ⟨mb,3,none⟩=some (.slice pl ls.length cl):=(World.cell?_of_block (w:=w8) blkm).trans c3;have f39:∀ k,w9.frozen? ⟨mb,k,none⟩=false:=fun k=>(World.frozen?_of_block (w:=w8) blkm).trans (mf8 k)
  subst hv';obtain ⟨w10,hw10⟩:∃ w10,w10=w9.setCell ⟨mb,3,none⟩ (.slice p' (ls.length+1) c'):=⟨_,rfl⟩;rw[<- hw10] at g1 g3 g4 g5 g6 g7 g8;obtain ⟨pf,cf,hfv⟩:=aq g1;have c49:w10.cell? ⟨mb,4,none⟩=some (.slice pf ls.length cf):=by rw[<- hfv];exact (g5 4 (by omega)).trans hIa.c4
  have G1:Hid (w10.ownsRow w3.heap.size 3 1 fv ls.length fs):=g1;have G2:Hid _:=g2;have G3:Hid _:=g3;have G4:Hid _:=g4;have G5:Hid (∀ j,j≠3->w10.cell? ⟨mb,j,none⟩=_):=g5;have G6:Hid _:=g6;have G8:Hid _:=g8;have HIa:Hid (gF w3 (w8.alloc _) mb lv fv ls):=hIa;have hm10:mb<w10.heap.size:=World.block_lt_of_cell? _ _ g6;have hs10:w3.heap.size<=w10.heap.size:=g4.size;have HFV:Hid (fv = .slice pf ls.length cf):=hfv;have HW10:Hid _:=hw10;have HC2:Hid (∀ j u,[Value.int .i64 (t:Int)][j]? = some u->(w10.alloc (.cells #[.int .i64 (t:Int)] 3)).cell? (Addr.add ⟨w10.heap.size,0,none⟩ j)=some u):=by
   intro j u hj
   match j,hj with
   | 0,hj=>simp at hj;subst hj;simp [Addr.add]
   | j+1,hj=>simp at hj
  clear g1 g2 g3 g4 g5 g6 g8 hIa La ho9 hg9 hn9 hmo blkm hfv hw10 c3 mf8;go_upto_region 34 with fail
  rw[<- HW10.out];go_wp2_with (at_builtin;refine cT _ 30 3 1 8 (.int .i64 0) Tryz.underlying30 rS rfl (by omega) rfl _ _ rfl w3.heap.size fv ls.length fs (by rw[HFV.out];rfl) (G1.out.alloc _) ⟨w10.heap.size,0,none⟩ 1 1 [.int .i64 (t:Int)] rfl rfl (by omega) HC2.out (by intro u hu;simp at hu;subst hu;rfl) (by unfold maxLen;omega) (by omega) (by simp;omega) ?_)
  intro v2 w11 ho11 hg11 hn11;obtain ⟨p2,c2,hv2⟩:=aq ho11;obtain ⟨wa,hwa⟩:∃ wa,wa=w10.alloc (.cells #[.int .i64 (t:Int)] 3):=⟨_,rfl⟩;have Ka:Kept w10 wa:=by rw[hwa];exact Below.alloc (Below.refl _ _) (Nat.le_refl _) _
  rw[<- hwa] at hg11;have ca:∀ j,wa.cell? ⟨mb,j,none⟩=w10.cell? ⟨mb,j,none⟩:=fun j=>Ka.cell (p:=⟨mb,j,none⟩) hm10
  have fa:∀ j,wa.frozen? ⟨mb,j,none⟩=w10.frozen? ⟨mb,j,none⟩:=fun j=>Ka.frozen (p:=⟨mb,j,none⟩) hm10
  have hsa:wa.heap.size=w10.heap.size+1:=by rw[hwa];simp
  have FIN:gF w3 (w11.setCell ⟨mb,4,none⟩ v2) mb _ v2 (ls++[⟨gx,SZ,X⟩]) :=
   gF.filt (W:=wa) (ls:=ls) hm8 (by simp) (cC G1.out Ka) G2.out (cC G3.out Ka) (G4.out.kept Ka) ((ca 3).trans G6.out) ((ca 4).trans ((G5.out 4 (by omega)).trans HIa.out.c4)) ((ca 5).trans ((G5.out 5 (by omega)).trans HIa.out.c5)) ((ca 6).trans ((G5.out 6 (by omega)).trans HIa.out.c6)) (fun j hj=>(ca j).trans ((G5.out j (by omega)).trans (HIa.out.c02 j hj))) (fun j=>(fa j).trans (g7 j)) (fun b hb=>by
    obtain ⟨b1,b2,b3,b4,b5⟩:=G8.out b hb;exact ⟨b1.same (Ka.block b.g b3),b2,by omega,b4,b5⟩) hg11 ho11 (fun k hk=>by rcases hn11 k hk with q | q;exact Or.inl q;exact Or.inr (by omega))
  have hmo:some mb≠fv.ownBlock:=fun e=>by have:=(G1.out.lt mb e.symm).1;omega
  have blkm:w11.heap[mb]? = w10.heap[mb]? := (hg11.block mb (by omega) hmo).trans (Ka.block mb hm10);have c411:w11.cell? ⟨mb,4,none⟩=some (.slice pf ls.length cf):=(World.cell?_of_block (w:=w10) blkm).trans c49;have f411:∀ k,w11.frozen? ⟨mb,k,none⟩=false:=fun k=>(World.frozen?_of_block (w:=w10) blkm).trans (g7 k)
  subst hv2;have HFIN:Hid _:=FIN;clear FIN blkm hmo hsa fa ca Ka hwa ho11 hg11 hn11 c49 g7 f39 c39;go_wp2_with fail;obtain ⟨hnx,hpL,hcol,hlin,hprev⟩:=vL HL.out.pos;have h1:=HL.out.len;have h2:=HL.out.lenl;refine hQn.out _ _ _ _ _ _ _ _ _ _ _ _ _ _ _ _ _ _ _ _ _ _ _ _ _ _ _ _ _ _ _ _ _ _ _ _ _ _ _ _ _ _ _ _ _ _ _ _ _ _ _ _ _ _ _ _ _ _ _ _ _ _ _ _ _ _ _ _ _ _ _ _ _ _ _ _ _ _ _ _ _ _ _ _ _ _ _ _ _ _ _ _ _ _ _ _ _ _ _ _ _ _ _ _ _ _ _ _ _ (ls++[⟨gx,SZ,X⟩]) SZ X ⟨HFIN.out,?_,?_,?_,?_,?_,?_,?_⟩
  ·rw[HL.out.split];simp
  ·rw[List.length_append,h1];rfl
  ·rw[List.length_append,h2];rfl
  ·rw[HSZ.out];exact hnx
  ·intro _
   refine ⟨⟨gx,SZ,X⟩,?_,by omega,rfl,rfl⟩;rw[Nat.add_sub_cancel,<- h2,List.getElem?_append_right (Nat.le_refl _),Nat.sub_self];rfl
  ·have q:=HL.out.eq
   rw[ga out _ hlt.out,aN,if_neg (by show ¬ 4<vAt out (aH h pre);rw[<- HFR.out,<- HT.out];omega),if_neg (by rw[<- HFR.out,<- HSZ.out,List.length_drop];have:=HB.out;omega)] at q;rw[<- HFR.out,<- HSZ.out] at q;have ex:cy h p n (vAt out FR) up (out.drop (FR+1))=X:=by rw[<- HT.out,<- HLX.out]
   rw[if_neg (by show ¬ ly h (palN / 3) p (cy h p n (vAt out FR) up (out.drop (FR+1)))=true;rw[ex,HIB.out];decide)] at q;rw[q];show ((aN h (palN / 3) rs (cy h p n (vAt out FR) up (out.drop (FR+1))) ((out.drop (FR+1)).drop SZ)).cons (cy h p n (vAt out FR) up (out.drop (FR+1)))).app (ls.map Ln.x)=_
   rw[ex,ImR.app_cons,List.map_append,List.drop_drop,pN,aH,aH,<- HFR.out,<- HSZ.out,show FR+1+SZ=FR+(1+SZ+0) by omega];rfl
  ·intro j a hj
   by_cases c:j<ls.length
   ·rw[List.getElem?_append_left c] at hj
    exact HL.out.sz j a hj
   ·rw[List.getElem?_append_right (by omega)] at hj
    have e0:j - ls.length=0:=by
     by_cases e:j - ls.length=0
     ·exact e
     ·obtain ⟨m,hm⟩:∃ m,j - ls.length=m+1:=⟨j - ls.length - 1,by omega⟩
      rw[hm] at hj;simp at hj
    rw[e0] at hj;simp at hj;subst hj;refine ⟨p,n,?_,HSZ.out⟩;rw[HL.out.split,List.getElem?_append_right (by omega),show j - pre.length=0 by omega];rfl
 ·intro hbad uB uV jG jF jE jD jC jB jA jz jy jx jw jv ju jt js jr jq jo jn jm jl jk jj ji jh jg jf je jd jc jb ja iZ iY iX iW iV iU iT iS iR iQ iP iO iN iM iL w9 w8 hk8 hw9
  subst hw9;have hI8:gF w3 w8 mb lv fv ls:=HI7.out.kept hk8;refine hQr.out _ _ _ _ _ _ _ _ _ _ _ _ _ _ _ _ _ _ _ _ _ _ _ _ _ _ _ _ _ _ _ _ _ _ _ _ _ _ _ _ _ _ _ _ _ _ _ _ _ _ _ _ _ _ _ _ _ _ _ _ _ _ _ _ _ _ _ _ _ _ _ _ _ _ _ _ _ _ _ _ _ _ _ _ _ _ _ _ _ _ _ _ _ _ _ _ _ _ _ _ _ _ _ _ _ _ ⟨ls,16,pAt out (FR+SZ),?_,((hI8.fin.set5 16).set6 _).kept ((Kept.refl _).drewN 1),HL.out.sz⟩;have q:=HL.out.eq;rw[ga out _ hlt.out,aN,if_neg (by show ¬ 4<vAt out (aH h pre);rw[<- HFR.out,<- HT.out];omega),if_neg (by rw[<- HFR.out,<- HSZ.out,List.length_drop];have:=HB.out;omega)] at q;rw[<- HFR.out,<- HSZ.out] at q;show _=ImR.bad (ls.map Ln.x) 16 (pAt out (FR+SZ))
  rw[if_pos (by show ly h (palN / 3) p (cy h p n (vAt out FR) up (out.drop (FR+1)))=true;rw[<- HT.out,<- HLX.out];exact HIX.out.trans hbad)] at q;rw[q];show ImR.bad (ls.map Ln.x++[]) 16 _=_
  rw[List.append_nil]
  congr 1
  unfold pAt;rw[List.getD_eq_getElem?_getD,List.getElem?_drop,List.getD_eq_getElem?_getD,show FR+1+(SZ - 1)=FR+SZ by omega]
theorem ue {P:Ending->World->Prop} {V:Nat} {w:World} {r:Ending} (h:P (.returned (.int .i64 (V:Int))) w) (e:r = .returned (.int .i64 (V:Int))):P r w:=by rw[e];exact h
theorem KJ {u3 u4 u5 u6 u7 u8 u9 rY vo tX uE uC sq u16 sx rX o6 o5 o4 o3 o0 oZ oY oX oW oV oU oT oS u32 oR oQ oP oO oN oM oL oK oJ oI oH oG oF oE oD oC oB oA oz oy ox ow ou ot oq oo om oj oi oh og u64 pW pV qu qt qq qp qo qn qm ql qk qj qi qh qg qf qz qy qx rK rJ rI rH rG rF rE rD rC rB rA rz ry ru rq rp fh eE eB ez ey ew ev eu ej eh ed dZ dY dX dW dV dU dT dS dR dQ dP dO dN dM dL dK dJ dI dH dG dF dE dD dC dB dA dz dy dx fy fx gB iB iA iz iy ix iw iu ir ik ij ig ie ib gZ gY gX gW gV gU gT gS gR gQ gP gO gN gM gK gJ gI kR kQ kP kO kN kM kL kK kJ kI kG kF kE kD kC kB ky kv ku kj kf ke j9 j8 j7 j6 j5 j4 jZ jY jX jW jV jU jT jS jR jQ jP jO jN jM jL jK jJ jI jH gA gy gw gv gp gm gj gi gh gg:Value} (P:Ending->World->Prop) (b:Nat) (k:ByteArray) (n:Nat) (w:World) (hk:k.size=4) (hn:n<2147483648) (K D PN I:Nat) (hp cl ov:Bool) (pa ia:Option Addr) (pc ic:Nat) (hD:D<=16) (hPN:PN<=1048576) (hI:I<=1048576) (hK:kindOk K)
  (c11:w.cell? ⟨b,11,none⟩=some (.slice ia I ic)) (c12:w.cell? ⟨b,12,none⟩=some (.bool ov)) (c4:w.cell? ⟨b,4,none⟩=some (.int .i64 (K:Int))) (c3:w.cell? ⟨b,3,none⟩=some (.int .i64 (D:Int)))
  (c6:w.cell? ⟨b,6,none⟩=some (.bool hp)) (c7:w.cell? ⟨b,7,none⟩=some (.bool cl)) (c8:w.cell? ⟨b,8,none⟩=some (.slice pa PN pc))
  (t1:(k.toList == [73,72,68,82])=true) (t2:(k.toList == [80,76,84,69])=false) (t3:(k.toList == [116,82,78,83])=false) (t4:(k.toList == [73,68,65,84])=false) (t5:(k.toList == [73,69,78,68])=false) (V:Nat) (HV:Hid (V=4)) (HP:Hid (P (.returned (.int .i64 (V:Int))) w)) :
  Code.wp Tryz.prog ((Tryz.f99.body.bind (fF 16)).getD .skip) (bodyPost Tryz.prog Tryz.f99 P) ⟨#[.pointer (some ⟨b,0,none⟩),.string k,.int .i64 (n:Int),u3,u4,u5,u6,u7,u8,u9,rY,vo,tX,uE,uC,sq,u16,sx,rX,o6,o5,o4,o3,o0,oZ,oY,oX,oW,oV,oU,oT,oS,u32,oR,oQ,oP,oO,oN,oM,oL,oK,oJ,oI,oH,oG,oF,oE,oD,oC,oB,oA,oz,oy,ox,ow,ou,ot,oq,oo,om,oj,oi,oh,og,u64,pW,pV,qu,qt,qq,qp,qo,qn,qm,ql,qk,qj,qi,qh,qg,qf,qz,qy,qx,rK,rJ,rI,rH,rG,rF,rE,rD,rC,rB,rA,rz,ry,ru,rq,rp,fh,eE,eB,ez,ey,ew,ev,eu,ej,eh,ed,dZ,dY,dX,dW,dV,dU,dT,dS,dR,dQ,dP,dO,dN,dM,dL,dK,dJ,dI,dH,dG,dF,dE,dD,dC,dB,dA,dz,dy,dx,fy,fx,gB,iB,iA,iz,iy,ix,iw,iu,ir,ik,ij,ig,ie,ib,gZ,gY,gX,gW,gV,gU,gT,gS,gR,gQ,gP,gO,gN,gM,gK,gJ,gI,kR,kQ,kP,kO,kN,kM,kL,kK,kJ,kI,kG,kF,kE,kD,kC,kB,ky,kv,ku,kj,kf,ke,j9,j8,j7,j6,j5,j4,jZ,jY,jX,jW,jV,jU,jT,jS,jR,jQ,jP,jO,jN,jM,jL,jK,jJ,jI,jH,gA,gy,gw,gv,gp,gm,gj,gi,gh,gg],[]⟩ w:=by
 rcases hK with e | e | e | e | e<;>rw[e] at c4<;>clear e
 all_goals
  conv=>arg 2;whnf
  go_wp2
  all_goals exact ue HP.out (ah (by rw[HV.out];rfl))
theorem KL {u3 u4 u5 u6 u7 u8 u9 rY vo tX uE uC sq u16 sx rX o6 o5 o4 o3 o0 oZ oY oX oW oV oU oT oS u32 oR oQ oP oO oN oM oL oK oJ oI oH oG oF oE oD oC oB oA oz oy ox ow ou ot oq oo om oj oi oh og u64 pW pV qu qt qq qp qo qn qm ql qk qj qi qh qg qf qz qy qx rK rJ rI rH rG rF rE rD rC rB rA rz ry ru rq rp fh eE eB ez ey ew ev eu ej eh ed dZ dY dX dW dV dU dT dS dR dQ dP dO dN dM dL dK dJ dI dH dG dF dE dD dC dB dA dz dy dx fy fx gB iB iA iz iy ix iw iu ir ik ij ig ie ib gZ gY gX gW gV gU gT gS gR gQ gP gO gN gM gK gJ gI kR kQ kP kO kN kM kL kK kJ kI kG kF kE kD kC kB ky kv ku kj kf ke j9 j8 j7 j6 j5 j4 jZ jY jX jW jV jU jT jS jR jQ jP jO jN jM jL jK jJ jI jH gA gy gw gv gp gm gj gi gh gg:Value} (P:Ending->World->Prop) (b:Nat) (k:ByteArray) (n:Nat) (w:World) (hk:k.size=4) (hn:n<2147483648) (K D PN I:Nat) (hp cl ov:Bool) (pa ia:Option Addr) (pc ic:Nat) (hD:D<=16) (hPN:PN<=1048576) (hI:I<=1048576) (hK:kindOk K)
  (c11:w.cell? ⟨b,11,none⟩=some (.slice ia I ic)) (c12:w.cell? ⟨b,12,none⟩=some (.bool ov)) (c4:w.cell? ⟨b,4,none⟩=some (.int .i64 (K:Int))) (c3:w.cell? ⟨b,3,none⟩=some (.int .i64 (D:Int)))
  (c6:w.cell? ⟨b,6,none⟩=some (.bool hp)) (c7:w.cell? ⟨b,7,none⟩=some (.bool cl)) (c8:w.cell? ⟨b,8,none⟩=some (.slice pa PN pc))
  (t1:(k.toList == [73,72,68,82])=false) (t2:(k.toList == [80,76,84,69])=false) (t3:(k.toList == [116,82,78,83])=false) (t4:(k.toList == [73,68,65,84])=false) (t5:(k.toList == [73,69,78,68])=true) (V:Nat) (HV:Hid (V=if I=0 then 4 else if n≠0 then 5 else 0)) (HP:Hid (P (.returned (.int .i64 (V:Int))) w)) :
  Code.wp Tryz.prog ((Tryz.f99.body.bind (fF 16)).getD .skip) (bodyPost Tryz.prog Tryz.f99 P) ⟨#[.pointer (some ⟨b,0,none⟩),.string k,.int .i64 (n:Int),u3,u4,u5,u6,u7,u8,u9,rY,vo,tX,uE,uC,sq,u16,sx,rX,o6,o5,o4,o3,o0,oZ,oY,oX,oW,oV,oU,oT,oS,u32,oR,oQ,oP,oO,oN,oM,oL,oK,oJ,oI,oH,oG,oF,oE,oD,oC,oB,oA,oz,oy,ox,ow,ou,ot,oq,oo,om,oj,oi,oh,og,u64,pW,pV,qu,qt,qq,qp,qo,qn,qm,ql,qk,qj,qi,qh,qg,qf,qz,qy,qx,rK,rJ,rI,rH,rG,rF,rE,rD,rC,rB,rA,rz,ry,ru,rq,rp,fh,eE,eB,ez,ey,ew,ev,eu,ej,eh,ed,dZ,dY,dX,dW,dV,dU,dT,dS,dR,dQ,dP,dO,dN,dM,dL,dK,dJ,dI,dH,dG,dF,dE,dD,dC,dB,dA,dz,dy,dx,fy,fx,gB,iB,iA,iz,iy,ix,iw,iu,ir,ik,ij,ig,ie,ib,gZ,gY,gX,gW,gV,gU,gT,gS,gR,gQ,gP,gO,gN,gM,gK,gJ,gI,kR,kQ,kP,kO,kN,kM,kL,kK,kJ,kI,kG,kF,kE,kD,kC,kB,ky,kv,ku,kj,kf,ke,j9,j8,j7,j6,j5,j4,jZ,jY,jX,jW,jV,jU,jT,jS,jR,jQ,jP,jO,jN,jM,jL,jK,jJ,jI,jH,gA,gy,gw,gv,gp,gm,gj,gi,gh,gg],[]⟩ w:=by
 rcases hK with e | e | e | e | e<;>rw[e] at c4<;>clear e
 all_goals
  conv=>arg 2;whnf
  go_wp2
  all_goals (refine ue HP.out (ah ?_);rw[HV.out];clear c4 c6 c7 c8 c3 c11 c12 t1 t2 t3 t4 t5 HV HP;(try simp only [bne_iff_ne,bne_eq_false_iff_eq,ne_eq,beq_iff_eq,beq_eq_false_iff_ne,Bool.not_eq_true',Bool.not_eq_false',decide_eq_true_eq,decide_eq_false_iff_not] at *);(repeat' split)<;>first | rfl | omega)
theorem KM {u3 u4 u5 u6 u7 u8 u9 rY vo tX uE uC sq u16 sx rX o6 o5 o4 o3 o0 oZ oY oX oW oV oU oT oS u32 oR oQ oP oO oN oM oL oK oJ oI oH oG oF oE oD oC oB oA oz oy ox ow ou ot oq oo om oj oi oh og u64 pW pV qu qt qq qp qo qn qm ql qk qj qi qh qg qf qz qy qx rK rJ rI rH rG rF rE rD rC rB rA rz ry ru rq rp fh eE eB ez ey ew ev eu ej eh ed dZ dY dX dW dV dU dT dS dR dQ dP dO dN dM dL dK dJ dI dH dG dF dE dD dC dB dA dz dy dx fy fx gB iB iA iz iy ix iw iu ir ik ij ig ie ib gZ gY gX gW gV gU gT gS gR gQ gP gO gN gM gK gJ gI kR kQ kP kO kN kM kL kK kJ kI kG kF kE kD kC kB ky kv ku kj kf ke j9 j8 j7 j6 j5 j4 jZ jY jX jW jV jU jT jS jR jQ jP jO jN jM jL jK jJ jI jH gA gy gw gv gp gm gj gi gh gg:Value} (P:Ending->World->Prop) (b:Nat) (k:ByteArray) (n:Nat) (w:World) (hk:k.size=4) (hn:n<2147483648) (K D PN I:Nat) (hp cl ov:Bool) (pa ia:Option Addr) (pc ic:Nat) (hD:D<=16) (hPN:PN<=1048576) (hI:I<=1048576) (hK:kindOk K)
  (c11:w.cell? ⟨b,11,none⟩=some (.slice ia I ic)) (c12:w.cell? ⟨b,12,none⟩=some (.bool ov)) (c4:w.cell? ⟨b,4,none⟩=some (.int .i64 (K:Int))) (c3:w.cell? ⟨b,3,none⟩=some (.int .i64 (D:Int)))
  (c6:w.cell? ⟨b,6,none⟩=some (.bool hp)) (c7:w.cell? ⟨b,7,none⟩=some (.bool cl)) (c8:w.cell? ⟨b,8,none⟩=some (.slice pa PN pc))
  (t1:(k.toList == [73,72,68,82])=false) (t2:(k.toList == [80,76,84,69])=false) (t3:(k.toList == [116,82,78,83])=false) (t4:(k.toList == [73,68,65,84])=true) (t5:(k.toList == [73,69,78,68])=false) (V:Nat) (HV:Hid (V=if ov=true\/(K=3/\hp=false) then 4 else 0)) (HP:Hid (P (.returned (.int .i64 (V:Int))) w)) :
  Code.wp Tryz.prog ((Tryz.f99.body.bind (fF 16)).getD .skip) (bodyPost Tryz.prog Tryz.f99 P) ⟨#[.pointer (some ⟨b,0,none⟩),.string k,.int .i64 (n:Int),u3,u4,u5,u6,u7,u8,u9,rY,vo,tX,uE,uC,sq,u16,sx,rX,o6,o5,o4,o3,o0,oZ,oY,oX,oW,oV,oU,oT,oS,u32,oR,oQ,oP,oO,oN,oM,oL,oK,oJ,oI,oH,oG,oF,oE,oD,oC,oB,oA,oz,oy,ox,ow,ou,ot,oq,oo,om,oj,oi,oh,og,u64,pW,pV,qu,qt,qq,qp,qo,qn,qm,ql,qk,qj,qi,qh,qg,qf,qz,qy,qx,rK,rJ,rI,rH,rG,rF,rE,rD,rC,rB,rA,rz,ry,ru,rq,rp,fh,eE,eB,ez,ey,ew,ev,eu,ej,eh,ed,dZ,dY,dX,dW,dV,dU,dT,dS,dR,dQ,dP,dO,dN,dM,dL,dK,dJ,dI,dH,dG,dF,dE,dD,dC,dB,dA,dz,dy,dx,fy,fx,gB,iB,iA,iz,iy,ix,iw,iu,ir,ik,ij,ig,ie,ib,gZ,gY,gX,gW,gV,gU,gT,gS,gR,gQ,gP,gO,gN,gM,gK,gJ,gI,kR,kQ,kP,kO,kN,kM,kL,kK,kJ,kI,kG,kF,kE,kD,kC,kB,ky,kv,ku,kj,kf,ke,j9,j8,j7,j6,j5,j4,jZ,jY,jX,jW,jV,jU,jT,jS,jR,jQ,jP,jO,jN,jM,jL,jK,jJ,jI,jH,gA,gy,gw,gv,gp,gm,gj,gi,gh,gg],[]⟩ w:=by
 rcases hK with e | e | e | e | e<;>rw[e] at c4<;>rw[e] at HV<;>clear e<;>cases ov<;>cases hp
 all_goals
  conv=>arg 2;whnf
  go_wp2
  all_goals exact ue HP.out (ah (by rw[HV.out];rfl))
theorem KN {u3 u4 u5 u6 u7 u8 u9 rY vo tX uE uC sq u16 sx rX o6 o5 o4 o3 o0 oZ oY oX oW oV oU oT oS u32 oR oQ oP oO oN oM oL oK oJ oI oH oG oF oE oD oC oB oA oz oy ox ow ou ot oq oo om oj oi oh og u64 pW pV qu qt qq qp qo qn qm ql qk qj qi qh qg qf qz qy qx rK rJ rI rH rG rF rE rD rC rB rA rz ry ru rq rp fh eE eB ez ey ew ev eu ej eh ed dZ dY dX dW dV dU dT dS dR dQ dP dO dN dM dL dK dJ dI dH dG dF dE dD dC dB dA dz dy dx fy fx gB iB iA iz iy ix iw iu ir ik ij ig ie ib gZ gY gX gW gV gU gT gS gR gQ gP gO gN gM gK gJ gI kR kQ kP kO kN kM kL kK kJ kI kG kF kE kD kC kB ky kv ku kj kf ke j9 j8 j7 j6 j5 j4 jZ jY jX jW jV jU jT jS jR jQ jP jO jN jM jL jK jJ jI jH gA gy gw gv gp gm gj gi gh gg:Value} (P:Ending->World->Prop) (b:Nat) (k:ByteArray) (n:Nat) (w:World) (hk:k.size=4) (hn:n<2147483648) (K D PN I:Nat) (hp cl ov:Bool) (pa ia:Option Addr) (pc ic:Nat) (hD:D<=16) (hPN:PN<=1048576) (hI:I<=1048576) (hK:kindOk K)
  (c11:w.cell? ⟨b,11,none⟩=some (.slice ia I ic)) (c12:w.cell? ⟨b,12,none⟩=some (.bool ov)) (c4:w.cell? ⟨b,4,none⟩=some (.int .i64 (K:Int))) (c3:w.cell? ⟨b,3,none⟩=some (.int .i64 (D:Int)))
  (c6:w.cell? ⟨b,6,none⟩=some (.bool hp)) (c7:w.cell? ⟨b,7,none⟩=some (.bool cl)) (c8:w.cell? ⟨b,8,none⟩=some (.slice pa PN pc))
  (t1:(k.toList == [73,72,68,82])=false) (t2:(k.toList == [80,76,84,69])=false) (t3:(k.toList == [116,82,78,83])=false) (t4:(k.toList == [73,68,65,84])=false) (t5:(k.toList == [73,69,78,68])=false) (V:Nat) (HV:Hid (V=if qb (gb k 0) then 3 else 0)) (HP:Hid (P (.returned (.int .i64 (V:Int))) w)) :
  Code.wp Tryz.prog ((Tryz.f99.body.bind (fF 16)).getD .skip) (bodyPost Tryz.prog Tryz.f99 P) ⟨#[.pointer (some ⟨b,0,none⟩),.string k,.int .i64 (n:Int),u3,u4,u5,u6,u7,u8,u9,rY,vo,tX,uE,uC,sq,u16,sx,rX,o6,o5,o4,o3,o0,oZ,oY,oX,oW,oV,oU,oT,oS,u32,oR,oQ,oP,oO,oN,oM,oL,oK,oJ,oI,oH,oG,oF,oE,oD,oC,oB,oA,oz,oy,ox,ow,ou,ot,oq,oo,om,oj,oi,oh,og,u64,pW,pV,qu,qt,qq,qp,qo,qn,qm,ql,qk,qj,qi,qh,qg,qf,qz,qy,qx,rK,rJ,rI,rH,rG,rF,rE,rD,rC,rB,rA,rz,ry,ru,rq,rp,fh,eE,eB,ez,ey,ew,ev,eu,ej,eh,ed,dZ,dY,dX,dW,dV,dU,dT,dS,dR,dQ,dP,dO,dN,dM,dL,dK,dJ,dI,dH,dG,dF,dE,dD,dC,dB,dA,dz,dy,dx,fy,fx,gB,iB,iA,iz,iy,ix,iw,iu,ir,ik,ij,ig,ie,ib,gZ,gY,gX,gW,gV,gU,gT,gS,gR,gQ,gP,gO,gN,gM,gK,gJ,gI,kR,kQ,kP,kO,kN,kM,kL,kK,kJ,kI,kG,kF,kE,kD,kC,kB,ky,kv,ku,kj,kf,ke,j9,j8,j7,j6,j5,j4,jZ,jY,jX,jW,jV,jU,jT,jS,jR,jQ,jP,jO,jN,jM,jL,jK,jJ,jI,jH,gA,gy,gw,gv,gp,gm,gj,gi,gh,gg],[]⟩ w:=by
 have hkk:0<k.size:=by omega
 have HG:Hid (k[0].toNat=gb k 0):=mL k 0 hkk;have HC:Hid (qb (gb k 0)=decide (65<=k[0].toNat/\k[0].toNat<=90)):=by show _=_;rw[<- HG.out];rfl
 rcases hK with e | e | e | e | e<;>rw[e] at c4<;>clear e
 all_goals
  conv=>arg 2;whnf
  go_wp2
  all_goals (refine ue HP.out (ah ?_);rw[HV.out,HC.out];clear c4 c6 c7 c8 c3 c11 c12 t1 t2 t3 t4 t5 HV HC HP;simp only [decide_eq_true_eq];(repeat' split)<;>first | rfl | omega)
theorem KI {u3 u4 u5 u6 u7 u8 u9 rY vo tX uE uC sq u16 sx rX o6 o5 o4 o3 o0 oZ oY oX oW oV oU oT oS u32 oR oQ oP oO oN oM oL oK oJ oI oH oG oF oE oD oC oB oA oz oy ox ow ou ot oq oo om oj oi oh og u64 pW pV qu qt qq qp qo qn qm ql qk qj qi qh qg qf qz qy qx rK rJ rI rH rG rF rE rD rC rB rA rz ry ru rq rp fh eE eB ez ey ew ev eu ej eh ed dZ dY dX dW dV dU dT dS dR dQ dP dO dN dM dL dK dJ dI dH dG dF dE dD dC dB dA dz dy dx fy fx gB iB iA iz iy ix iw iu ir ik ij ig ie ib gZ gY gX gW gV gU gT gS gR gQ gP gO gN gM gK gJ gI kR kQ kP kO kN kM kL kK kJ kI kG kF kE kD kC kB ky kv ku kj kf ke j9 j8 j7 j6 j5 j4 jZ jY jX jW jV jU jT jS jR jQ jP jO jN jM jL jK jJ jI jH gA gy gw gv gp gm gj gi gh gg:Value} (P:Ending->World->Prop) (b:Nat) (k:ByteArray) (n:Nat) (w:World) (hk:k.size=4) (hn:n<2147483648) (K D PN I:Nat) (hp cl ov:Bool) (pa ia:Option Addr) (pc ic:Nat) (hD:D<=16) (hPN:PN<=1048576) (hI:I<=1048576) (hK:kindOk K)
  (c11:w.cell? ⟨b,11,none⟩=some (.slice ia I ic)) (c12:w.cell? ⟨b,12,none⟩=some (.bool ov)) (c4:w.cell? ⟨b,4,none⟩=some (.int .i64 (K:Int))) (c3:w.cell? ⟨b,3,none⟩=some (.int .i64 (D:Int)))
  (c6:w.cell? ⟨b,6,none⟩=some (.bool hp)) (c7:w.cell? ⟨b,7,none⟩=some (.bool cl)) (c8:w.cell? ⟨b,8,none⟩=some (.slice pa PN pc))
  (t1:(k.toList == [73,72,68,82])=false) (t2:(k.toList == [80,76,84,69])=true) (t3:(k.toList == [116,82,78,83])=false) (t4:(k.toList == [73,68,65,84])=false) (t5:(k.toList == [73,69,78,68])=false) (V:Nat) (HV:Hid (V=(if 0<I\/hp=true\/cl=true\/¬ (K=2\/K=3\/K=6) then 4 else if n=0\/n % 3≠0\/768<n\/(K=3/\3*2^D<n) then 5 else 0))) (HP:Hid (P (.returned (.int .i64 (V:Int))) w)) :
  Code.wp Tryz.prog ((Tryz.f99.body.bind (fF 16)).getD .skip) (bodyPost Tryz.prog Tryz.f99 P) ⟨#[.pointer (some ⟨b,0,none⟩),.string k,.int .i64 (n:Int),u3,u4,u5,u6,u7,u8,u9,rY,vo,tX,uE,uC,sq,u16,sx,rX,o6,o5,o4,o3,o0,oZ,oY,oX,oW,oV,oU,oT,oS,u32,oR,oQ,oP,oO,oN,oM,oL,oK,oJ,oI,oH,oG,oF,oE,oD,oC,oB,oA,oz,oy,ox,ow,ou,ot,oq,oo,om,oj,oi,oh,og,u64,pW,pV,qu,qt,qq,qp,qo,qn,qm,ql,qk,qj,qi,qh,qg,qf,qz,qy,qx,rK,rJ,rI,rH,rG,rF,rE,rD,rC,rB,rA,rz,ry,ru,rq,rp,fh,eE,eB,ez,ey,ew,ev,eu,ej,eh,ed,dZ,dY,dX,dW,dV,dU,dT,dS,dR,dQ,dP,dO,dN,dM,dL,dK,dJ,dI,dH,dG,dF,dE,dD,dC,dB,dA,dz,dy,dx,fy,fx,gB,iB,iA,iz,iy,ix,iw,iu,ir,ik,ij,ig,ie,ib,gZ,gY,gX,gW,gV,gU,gT,gS,gR,gQ,gP,gO,gN,gM,gK,gJ,gI,kR,kQ,kP,kO,kN,kM,kL,kK,kJ,kI,kG,kF,kE,kD,kC,kB,ky,kv,ku,kj,kf,ke,j9,j8,j7,j6,j5,j4,jZ,jY,jX,jW,jV,jU,jT,jS,jR,jQ,jP,jO,jN,jM,jL,jK,jJ,jI,jH,gA,gy,gw,gv,gp,gm,gj,gi,gh,gg],[]⟩ w:=by
 have hpw:=Dg D hD;by_cases hb:0<I\/hp=true\/cl=true\/¬ (K=2\/K=3\/K=6)
 ·have H4:Hid (V=4):=by have:=HV.out;rw[if_pos hb] at this;exact this
  clear HV;by_cases i0:0<I
  ·have ii:(0:Int)<(I:Int):=by omega
   clear hb i0;rcases hK with e | e | e | e | e<;>rw[e] at c4<;>clear e
   all_goals
    conv=>arg 2;whnf
    go_wp2
    all_goals exact ue HP.out (ah (by rw[H4.out];rfl))
  ·have ii:I=0:=by omega
   subst ii;clear i0;rcases hK with e | e | e | e | e<;>rw[e] at c4<;>simp only [e] at hb<;>clear e<;>cases hp<;>cases cl<;>first | (exfalso;revert hb;decide) | skip
   all_goals
    clear hb
    conv=>arg 2;whnf
    go_wp2
    all_goals exact ue HP.out (ah (by rw[H4.out];rfl))
 ·have h1:hp=false:=by cases hp<;>simp_all
  have h2:cl=false:=by cases cl<;>simp_all
  have h3:I=0:=by omega
  have H5:Hid (V=if n=0\/n % 3≠0\/768<n\/(K=3/\3*2^D<n) then 5 else 0):=by have:=HV.out;rw[if_neg hb] at this;exact this
  subst h1 h2 h3;have hk3:K=2\/K=3\/K=6:=by omega
  clear HV hb hK;rcases hk3 with e | e | e<;>rw[e] at c4 H5<;>clear e
  ·have H6:Hid (V=if n=0\/n % 3≠0\/768<n then 5 else 0):=by show V=_;have h:=H5.out;rw[h];generalize 2^D=m;(repeat' split)<;>first | rfl | omega
   clear H5
   conv=>arg 2;whnf
   go_wp2
   all_goals (refine ue HP.out (ah ?_);rw[H6.out];clear c4 c6 c7 c8 c3 c11 c12 t1 t2 t3 t4 t5 HP;(try simp only [bne_iff_ne,bne_eq_false_iff_eq,ne_eq,beq_iff_eq,beq_eq_false_iff_ne] at *);(repeat' split)<;>first | rfl | omega)
  ·have H6:Hid (V=if n=0\/n % 3≠0\/768<n\/3*2^D<n then 5 else 0):=by show V=_;have h:=H5.out;rw[h];generalize 2^D=m;(repeat' split)<;>first | rfl | omega
   clear H5;have HW:Hid (wrap64 (3*2^D)=((3*2^D:Nat):Int)):=by
    show wrap64 (3*2^D)=((3*2^D:Nat):Int)
    rw[show (3:Int)*2^D=((3*2^D:Nat):Int) from by simp];generalize 2^D=m at *;unfold wrap64;omega
   conv=>arg 2;whnf
   go_wp2
   all_goals (refine ue HP.out (ah ?_);rw[H6.out];clear c4 c6 c7 c8 c3 c11 c12 t1 t2 t3 t4 t5 HP;(try rw[HW.out] at *);(try simp only [bne_iff_ne,bne_eq_false_iff_eq,ne_eq,beq_iff_eq,beq_eq_false_iff_ne,HW.out] at *);clear HW H6;generalize 2^D=m at *;(repeat' split)<;>first | rfl | omega)
  ·have H6:Hid (V=if n=0\/n % 3≠0\/768<n then 5 else 0):=by show V=_;have h:=H5.out;rw[h];generalize 2^D=m;(repeat' split)<;>first | rfl | omega
   clear H5
   conv=>arg 2;whnf
   go_wp2
   all_goals (refine ue HP.out (ah ?_);rw[H6.out];clear c4 c6 c7 c8 c3 c11 c12 t1 t2 t3 t4 t5 HP;(try simp only [bne_iff_ne,bne_eq_false_iff_eq,ne_eq,beq_iff_eq,beq_eq_false_iff_ne] at *);(repeat' split)<;>first | rfl | omega)
