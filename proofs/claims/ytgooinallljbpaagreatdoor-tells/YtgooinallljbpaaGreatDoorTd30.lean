import Derived.Test.YtgooinallljbpaaGreatDoorTd28
import Derived.Test.YtgooinallljbpaaGreatDoorTd29
set_option maxRecDepth 100000
set_option maxHeartbeats 6400000
namespace Go.Proofs.YtgooinallljbpaaGreatDoor
open Go.RowKit Px
set_option linter.unusedSimpArgs false
set_option linter.unusedVariables false
theorem Nl {Q:Exit->Act->World->Prop} {u2 u3 u4 u5 u8 vo tX uE uC sq u16 sx rX o6 o5 o4 o3 o0 oZ oY oX oW oV oU oT oS u32 oR oQ oP oO oN oM oL oK oJ oI oH oG oF oE oD oC oB oA oz oy ox ow ou ot oq oo om oj oi oh og u64 pW pV qu qt qq qp qo qn qm ql qk qj qi qh qg qf qz qy qx rK rJ rI rH rG rF rE rD rC rB rA rz ry ru rq rp fh eE eB ez ey ew ev eu ej eh ed dZ dY dX dW dV dU dT dS dR dQ dP dO dN dM dL dK dJ dI dH dG dF dE dD dC dB dA dz dy dx fy fx gB iB iA iz iy ix iw iu ir ik ij ig ie ib gZ gY gX gW gV gU gT gS gR gQ gP gO gN gM gK gJ gI kR kQ kP kO kN kM kL kK kJ kI kG kF kE kD kC kB ky kv ku kj kf ke j9 j8 j7 j6 j5 j4 jZ jY jX jW jV jU jT jS jR jQ jP jO jN jM jL jK jJ jI jH gA gy gw gv gp gm gj gi gh gg tW tV tU tT tS tR tQ tP tO tN nZ nY nX nW nV nU nT nR nQ nP nO nM nL nJ nI nH nG nF nE nD nB nA nz ny nv nu nt nr np nk nj ni nh ng nc na m9 m8 m7 mZ mY mX mW mV mU mT mS mR mQ mP mO mN:Value} (fb sb mb gz gr co cr palN ST k prev:Nat) (h:Hd) (out:List One) (rows pre rs:List (Nat × Nat)) (p n:Nat) (lv fv:Value) (ls:List Ln) (up:Nat->Nat) (w3 w:World)
  (HE:Hid (OfE w3 fb sb mb gz gr co cr palN ST h out rows)) (HL:Hid (OfL h (palN / 3) out rows w3 w mb k lv fv ls pre ((p,n)::rs) prev up)) (hlt:Hid (aH h pre<out.length))
  (hQn:Hid (∀ v4 zF xF vm vD vh vC uB uV zE zD zC zy zx zw zu zt zq zo zm zk zj zi zg ze qC tM tL tK tJ tI tH tG tF tE tD tC tB tA tz tx tu tt ts tr tq tp tn tm tj th tg tf tc s9 s8 sZ sY sX sW sV sU sT sS sR pM pL pK mC mB mA mz my mx mw mv mu mr mq mo mn mm ml mj mi mh mg lZ lY lX lW lV lU lT lS lR lQ lP jG jF jE jD jC jB jA jz jy jx jw jv ju jt js jr jq jo jn jm jl jk jj ji jh jg jf je jd jc jb ja iZ iY iX iW iV iU iT iS iR iQ iP iO iN iM iL pJ pI pH pG pF pE pD pC pB pA pz pq pn pj pg pe pd o9 o8 o7 W' lv' fv' ls' prev' up',OfL h (palN / 3) out rows w3 W' mb (k+1) lv' fv' ls' (pre++[(p,n)]) rs prev' up'->Q .normal ⟨#[.pointer (some ⟨fb,0,none⟩),.pointer (some ⟨sb,0,none⟩),u2,u3,v4,u5,.pointer (some ⟨mb,0,none⟩),.slice (some ⟨gr,0,none⟩) rows.length cr,u8,.int .i64 (ST:Int),.int .i64 (k:Int),zF,xF,vm,vD,vh,vC,uB,uV,o6,o5,o4,o3,o0,oZ,oY,oX,oW,oV,oU,oT,oS,u32,oR,oQ,oP,oO,oN,oM,oL,oK,oJ,oI,oH,oG,oF,oE,oD,oC,oB,oA,oz,oy,ox,ow,ou,ot,oq,oo,om,oj,oi,oh,og,u64,pW,pV,qu,qt,qq,qp,qo,qn,qm,ql,qk,qj,qi,qh,qg,qf,qz,qy,qx,zE,zD,zC,zy,zx,zw,zu,zt,zq,zo,zm,zk,zj,zi,zg,ze,qC,tM,tL,tK,tJ,tI,tH,tG,tF,tE,tD,tC,tB,tA,tz,tx,tu,tt,ts,tr,tq,tp,tn,tm,tj,th,tg,tf,tc,s9,s8,sZ,sY,sX,sW,sV,sU,sT,sS,sR,pM,pL,pK,mC,mB,mA,mz,my,mx,mw,mv,mu,mr,mq,mo,mn,mm,ml,mj,mi,mh,mg,lZ,lY,lX,lW,lV,lU,lT,lS,lR,lQ,lP,jG,jF,jE,jD,jC,jB,jA,jz,jy,jx,jw,jv,ju,jt,js,jr,jq,jo,jn,jm,jl,jk,jj,ji,jh,jg,jf,je,jd,jc,jb,ja,iZ,iY,iX,iW,iV,iU,iT,iS,iR,iQ,iP,iO,iN,iM,iL,pJ,pI,pH,pG,pF,pE,pD,pC,pB,pA,pz,pq,pn,pj,pg,pe,pd,o9,o8,o7,nZ,nY,nX,nW,nV,nU,nT,nR,nQ,nP,nO,nM,nL,nJ,nI,nH,nG,nF,nE,nD,nB,nA,nz,ny,nv,nu,nt,nr,np,nk,nj,ni,nh,ng,nc,na,m9,m8,m7,mZ,mY,mX,mW,mV,mU,mT,mS,mR,mQ,mP,mO,mN],[]⟩ W'))
  (hQb:Hid (∀ v4 zF xF vm vD vh vC uB uV zE zD zC zy zx zw zu zt zq zo zm zk zj zi zg ze qC tM tL tK tJ tI tH tG tF tE tD tC tB tA tz tx tu tt ts tr tq tp tn tm tj th tg tf tc s9 s8 sZ sY sX sW sV sU sT sS sR pM pL pK mC mB mA mz my mx mw mv mu mr mq mo mn mm ml mj mi mh mg lZ lY lX lW lV lU lT lS lR lQ lP jG jF jE jD jC jB jA jz jy jx jw jv ju jt js jr jq jo jn jm jl jk jj ji jh jg jf je jd jc jb ja iZ iY iX iW iV iU iT iS iR iQ iP iO iN iM iL pJ pI pH pG pF pE pD pC pB pA pz pq pn pj pg pe pd o9 o8 o7 W' im,OfZ h (palN / 3) out rows w3 W' mb ls im->Q (.exit 0) ⟨#[.pointer (some ⟨fb,0,none⟩),.pointer (some ⟨sb,0,none⟩),u2,u3,v4,u5,.pointer (some ⟨mb,0,none⟩),.slice (some ⟨gr,0,none⟩) rows.length cr,u8,.int .i64 (ST:Int),.int .i64 (k:Int),zF,xF,vm,vD,vh,vC,uB,uV,o6,o5,o4,o3,o0,oZ,oY,oX,oW,oV,oU,oT,oS,u32,oR,oQ,oP,oO,oN,oM,oL,oK,oJ,oI,oH,oG,oF,oE,oD,oC,oB,oA,oz,oy,ox,ow,ou,ot,oq,oo,om,oj,oi,oh,og,u64,pW,pV,qu,qt,qq,qp,qo,qn,qm,ql,qk,qj,qi,qh,qg,qf,qz,qy,qx,zE,zD,zC,zy,zx,zw,zu,zt,zq,zo,zm,zk,zj,zi,zg,ze,qC,tM,tL,tK,tJ,tI,tH,tG,tF,tE,tD,tC,tB,tA,tz,tx,tu,tt,ts,tr,tq,tp,tn,tm,tj,th,tg,tf,tc,s9,s8,sZ,sY,sX,sW,sV,sU,sT,sS,sR,pM,pL,pK,mC,mB,mA,mz,my,mx,mw,mv,mu,mr,mq,mo,mn,mm,ml,mj,mi,mh,mg,lZ,lY,lX,lW,lV,lU,lT,lS,lR,lQ,lP,jG,jF,jE,jD,jC,jB,jA,jz,jy,jx,jw,jv,ju,jt,js,jr,jq,jo,jn,jm,jl,jk,jj,ji,jh,jg,jf,je,jd,jc,jb,ja,iZ,iY,iX,iW,iV,iU,iT,iS,iR,iQ,iP,iO,iN,iM,iL,pJ,pI,pH,pG,pF,pE,pD,pC,pB,pA,pz,pq,pn,pj,pg,pe,pd,o9,o8,o7,nZ,nY,nX,nW,nV,nU,nT,nR,nQ,nP,nO,nM,nL,nJ,nI,nH,nG,nF,nE,nD,nB,nA,nz,ny,nv,nu,nt,nr,np,nk,nj,ni,nh,ng,nc,na,m9,m8,m7,mZ,mY,mX,mW,mV,mU,mT,mS,mR,mQ,mP,mO,mN],[]⟩ W'))
  (hQr:Hid (∀ zF xF vm vD vh vC uB uV zE zD zC zy zx zw zu zt zq zo zm zk zj zi zg ze qC tM tL tK tJ tI tH tG tF tE tD tC tB tA tz tx tu tt ts tr tq tp tn tm tj th tg tf tc s9 s8 sZ sY sX sW sV sU sT sS sR pM pL pK mC mB mA mz my mx mw mv mu mr mq mo mn mm ml mj mi mh mg lZ lY lX lW lV lU lT lS lR lQ lP jG jF jE jD jC jB jA jz jy jx jw jv ju jt js jr jq jo jn jm jl jk jj ji jh jg jf je jd jc jb ja iZ iY iX iW iV iU iT iS iR iQ iP iO iN iM iL pJ pI pH pG pF pE pD pC pB pA pz pq pn pj pg pe pd o9 o8 o7 W',OfR h (palN / 3) out rows w3 W' mb->Q .ret ⟨#[.pointer (some ⟨fb,0,none⟩),.pointer (some ⟨sb,0,none⟩),u2,u3,.pointer (some ⟨mb,0,none⟩),u5,.pointer (some ⟨mb,0,none⟩),.slice (some ⟨gr,0,none⟩) rows.length cr,u8,.int .i64 (ST:Int),.int .i64 (k:Int),zF,xF,vm,vD,vh,vC,uB,uV,o6,o5,o4,o3,o0,oZ,oY,oX,oW,oV,oU,oT,oS,u32,oR,oQ,oP,oO,oN,oM,oL,oK,oJ,oI,oH,oG,oF,oE,oD,oC,oB,oA,oz,oy,ox,ow,ou,ot,oq,oo,om,oj,oi,oh,og,u64,pW,pV,qu,qt,qq,qp,qo,qn,qm,ql,qk,qj,qi,qh,qg,qf,qz,qy,qx,zE,zD,zC,zy,zx,zw,zu,zt,zq,zo,zm,zk,zj,zi,zg,ze,qC,tM,tL,tK,tJ,tI,tH,tG,tF,tE,tD,tC,tB,tA,tz,tx,tu,tt,ts,tr,tq,tp,tn,tm,tj,th,tg,tf,tc,s9,s8,sZ,sY,sX,sW,sV,sU,sT,sS,sR,pM,pL,pK,mC,mB,mA,mz,my,mx,mw,mv,mu,mr,mq,mo,mn,mm,ml,mj,mi,mh,mg,lZ,lY,lX,lW,lV,lU,lT,lS,lR,lQ,lP,jG,jF,jE,jD,jC,jB,jA,jz,jy,jx,jw,jv,ju,jt,js,jr,jq,jo,jn,jm,jl,jk,jj,ji,jh,jg,jf,je,jd,jc,jb,ja,iZ,iY,iX,iW,iV,iU,iT,iS,iR,iQ,iP,iO,iN,iM,iL,pJ,pI,pH,pG,pF,pE,pD,pC,pB,pA,pz,pq,pn,pj,pg,pe,pd,o9,o8,o7,nZ,nY,nX,nW,nV,nU,nT,nR,nQ,nP,nO,nM,nL,nJ,nI,nH,nG,nF,nE,nD,nB,nA,nz,ny,nv,nu,nt,nr,np,nk,nj,ni,nh,ng,nc,na,m9,m8,m7,mZ,mY,mX,mW,mV,mU,mT,mS,mR,mQ,mP,mO,mN],[]⟩ W')) :
  Code.wp Tryz.prog ((Tryz.f42.body.bind (fJ 1)).getD .skip) Q ⟨#[.pointer (some ⟨fb,0,none⟩),.pointer (some ⟨sb,0,none⟩),u2,u3,u4,u5,.pointer (some ⟨mb,0,none⟩),.slice (some ⟨gr,0,none⟩) rows.length cr,u8,.int .i64 (ST:Int),.int .i64 (k:Int),vo,tX,uE,uC,sq,u16,sx,rX,o6,o5,o4,o3,o0,oZ,oY,oX,oW,oV,oU,oT,oS,u32,oR,oQ,oP,oO,oN,oM,oL,oK,oJ,oI,oH,oG,oF,oE,oD,oC,oB,oA,oz,oy,ox,ow,ou,ot,oq,oo,om,oj,oi,oh,og,u64,pW,pV,qu,qt,qq,qp,qo,qn,qm,ql,qk,qj,qi,qh,qg,qf,qz,qy,qx,rK,rJ,rI,rH,rG,rF,rE,rD,rC,rB,rA,rz,ry,ru,rq,rp,fh,eE,eB,ez,ey,ew,ev,eu,ej,eh,ed,dZ,dY,dX,dW,dV,dU,dT,dS,dR,dQ,dP,dO,dN,dM,dL,dK,dJ,dI,dH,dG,dF,dE,dD,dC,dB,dA,dz,dy,dx,fy,fx,gB,iB,iA,iz,iy,ix,iw,iu,ir,ik,ij,ig,ie,ib,gZ,gY,gX,gW,gV,gU,gT,gS,gR,gQ,gP,gO,gN,gM,gK,gJ,gI,kR,kQ,kP,kO,kN,kM,kL,kK,kJ,kI,kG,kF,kE,kD,kC,kB,ky,kv,ku,kj,kf,ke,j9,j8,j7,j6,j5,j4,jZ,jY,jX,jW,jV,jU,jT,jS,jR,jQ,jP,jO,jN,jM,jL,jK,jJ,jI,jH,gA,gy,gw,gv,gp,gm,gj,gi,gh,gg,tW,tV,tU,tT,tS,tR,tQ,tP,tO,tN,nZ,nY,nX,nW,nV,nU,nT,nR,nQ,nP,nO,nM,nL,nJ,nI,nH,nG,nF,nE,nD,nB,nA,nz,ny,nv,nu,nt,nr,np,nk,nj,ni,nh,ng,nc,na,m9,m8,m7,mZ,mY,mX,mW,mV,mU,mT,mS,mR,mQ,mP,mO,mN],[]⟩ w:=by
 conv=>arg 2;whnf
 have hF:=HL.out.img.fr;obtain ⟨hnx,hpL,hcol,hlin,hprev⟩:=vL HL.out.pos;have hkl:=HL.out.len;have hsl:rows.length=k+(rs.length+1):=by rw[HL.out.split,List.length_append,hkl];rfl
 have hOW:=aQ HE.out.rw hF (fun g hg e=>by have:=(HE.out.rw.lt g hg).1;omega);have hrk:rows[k]? = some (p,n):=by rw[HL.out.split,List.getElem?_append_right (by omega),hkl,Nat.sub_self];rfl
 have htk:rows.take k=pre:=by rw[HL.out.split,<- hkl];simp
 have hrc:=vN h rows 0 k p n hrk;rw[Nat.zero_add,htk] at hrc;have hrx:∀ j u,(kT h rows 0)[k*5+j]? = some u->w.cell? ⟨gr,k*5+j,none⟩=some u:=fun j u hu=>by
  have:=hOW.cells rfl (k*5+j) u hu
  have e:(Addr.add ⟨gr,0,none⟩ (k*5+j))=⟨gr,k*5+j,none⟩:=by simp [Addr.add];omega
  rw[e] at this;exact this
 have r0:=hrx 0 _ hrc.1;rw[Nat.add_zero] at r0;have r1:=hrx 1 _ hrc.2.1;have r2:=hrx 2 _ hrc.2.2.1;have r3:=hrx 3 _ hrc.2.2.2.1;have r4:=hrx 4 _ hrc.2.2.2.2;have htot:=HE.out.tot;have hsp:aH h rows=aH h pre+(1+aL h p+aH h rs):=by rw[HL.out.split,pN,aH]
 obtain ⟨FR,hFR⟩:∃ FR,FR=aH h pre:=⟨_,rfl⟩;obtain ⟨SZ,hSZ⟩:∃ SZ,SZ=aL h p:=⟨_,rfl⟩;obtain ⟨CL,hCL⟩:∃ CL,CL=bY h p:=⟨_,rfl⟩;have hcl16:CL<=16:=by rw[hCL];exact fT (fj _ _).2.1 HE.out.W
 rw[<- hFR] at r2 hsp;rw[<- hCL] at r3;rw[<- hSZ] at r4 hsp;have hlt':=hlt.out;rw[<- hFR] at hlt';have b1:SZ<=40000:=by omega
 have b1':SZ<=1000:=by
  have hD16:h.D<=16:=by have:=HE.out.D;unfold okD at this;omega
  have h1:bY h p*bG h<=16*64:=Nat.mul_le_mul (by rw[<- hCL];exact hcl16) (Nat.mul_le_mul (ob _) hD16);rw[hSZ];unfold aL;omega
 have b2:FR<=40000:=by omega
 have hn16:n<=16:=by
  have:fL h p<=16:=fT (fj _ _).2.2.2.2.2.1 HE.out.H
  omega
 have hk1:(k:Int)<(rows.length:Int):=by omega
 have hk2:(0:Int)<=(k:Int):=by omega
 have HFR:Hid (FR=aH h pre):=hFR;have HSZ:Hid (SZ=aL h p):=hSZ;have HCL:Hid (CL=bY h p):=hCL;have s0:w.cell? ⟨sb,0,none⟩=some (.slice (some ⟨gz,0,none⟩) out.length co):=(hF.cell (World.block_lt_of_cell? _ _ HE.out.s0) HE.out.n2).trans HE.out.s0;have HZ:=HE.out.z.fr hF (fun g hg e=>by injection hg with hg;simp at hg;have:=HE.out.n3;omega);obtain ⟨g,hg,z0,z1⟩:=HZ.cells _ _ rfl FR (by omega)
 injection hg with hg
 injection hg with hg
 subst hg;obtain ⟨t,ht⟩:∃ t,t=vAt out FR:=⟨_,rfl⟩;obtain ⟨A,hA⟩:∃ A,A=pAt out FR:=⟨_,rfl⟩;rw[<- ht] at z0;rw[<- hA] at z1;have HT:Hid _:=ht;have HA:Hid _:=hA;have HS:Hid (rows.length=k+(rs.length+1)):=hsl;have HTS:Hid (aH h rows=FR+(1+SZ+aH h rs)):=hsp;have ol:=HE.out.ol;have hFRl:(FR:Int)<(out.length:Int):=by omega
 have hFRn:(0:Int)<=(FR:Int):=by omega
 have hcolc:0<bY h p:=hcol;have hprevc:=hprev;rw[hCL.symm] at hcolc;clear hrx hrc hOW htk hrk hFR hSZ hCL hsl ht hA htot hsp HZ hnx hprev hlin hcol hpL hkl hF hlt';have hrl:=HE.out.rl;generalize rows.length=RL at *;have hbits:1<=SZ:=by
  have h1:=HE.out.bits;have h2:1<=CL*bG h:=Nat.mul_le_mul (show 1<=CL by omega) h1;have h3:=HSZ.out;unfold aL at h3;rw[<- HCL.out] at h3;omega
 clear hcolc;have C0:Hid (∀ W,W=w.alloc (.cells #[.int .i64 (p:Int),.int .i64 (n:Int),.int .i64 (FR:Int),.int .i64 (CL:Int),.int .i64 (SZ:Int)] 146)->Kept w W/\W.cell? ⟨w.heap.size,1,none⟩=some (.int .i64 (n:Int))/\W.cell? ⟨w.heap.size,2,none⟩=some (.int .i64 (FR:Int))/\W.cell? ⟨w.heap.size,3,none⟩=some (.int .i64 (CL:Int))/\W.cell? ⟨w.heap.size,4,none⟩=some (.int .i64 (SZ:Int))):=fun W e=>by
  rw[e];refine ⟨Below.alloc (Below.refl _ _) (Nat.le_refl _) _,?_,?_,?_,?_⟩<;>exact (World.cell?_alloc_at _ _ _ _ rfl).trans rfl
 go_upto_region 10 with fail
 generalize hw0:w.alloc (.cells #[.int .i64 (p:Int),.int .i64 (n:Int),.int .i64 (FR:Int),.int .i64 (CL:Int),.int .i64 (SZ:Int)] 146)=w0 at *;obtain ⟨hk0,y1,y2,y3,y4⟩:=C0.out w0 rfl;have K0:Hid (Kept w w0):=hk0;obtain ⟨rb,hrb⟩:∃ rb,rb=w.heap.size:=⟨_,rfl⟩;rw[<- hrb] at y1 y2 y3 y4 ⊢;have HRB:Hid (rb=w.heap.size):=hrb;have hrb0:rb<w0.heap.size:=World.block_lt_of_cell? _ _ y1;have lsb:sb<w.heap.size:=World.block_lt_of_cell? _ _ s0;have lgz:gz<w.heap.size:=World.block_lt_of_cell? _ _ z0;have x0:=(hk0.cell (p:=⟨sb,0,none⟩) lsb).trans s0;have xz0:=(hk0.cell (p:=⟨gz,FR*2,none⟩) lgz).trans z0;have HZ1:Hid (∀ W,Kept w W->W.cell? ⟨gz,FR*2+1,none⟩=some (.int .i64 (A:Int))/\W.cell? ⟨sb,0,none⟩=some (.slice (some ⟨gz,0,none⟩) out.length co)):=fun W k=>⟨(k.cell (p:=⟨gz,FR*2+1,none⟩) lgz).trans z1,(k.cell (p:=⟨sb,0,none⟩) lsb).trans s0⟩
 have HR:Hid (∀ W,Kept w0 W->W.cell? ⟨rb,1,none⟩=some (.int .i64 (n:Int))/\W.cell? ⟨rb,2,none⟩=some (.int .i64 (FR:Int))/\W.cell? ⟨rb,3,none⟩=some (.int .i64 (CL:Int))/\W.cell? ⟨rb,4,none⟩=some (.int .i64 (SZ:Int))):=fun W k=>⟨(k.cell (p:=⟨rb,1,none⟩) hrb0).trans y1,(k.cell (p:=⟨rb,2,none⟩) hrb0).trans y2,(k.cell (p:=⟨rb,3,none⟩) hrb0).trans y3,(k.cell (p:=⟨rb,4,none⟩) hrb0).trans y4⟩
 clear C0 r0 r1 r2 r3 r4 s0 z0 z1 hk0 hw0 hrb y1 y3 y4;go_quiet (fail);obtain ⟨w2,hw2⟩:∃ w2,w2=w0.drewN nq:=⟨_,rfl⟩;rw[<- hw2];have K2:Hid (Kept w0 w2):=by rw[hw2];exact (Kept.refl _).drewN nq
 clear hw2 x0 xz0 y2;obtain ⟨y1,y2,y3,y4⟩:=HR.out w2 K2.out;obtain ⟨xz1,x0⟩:=HZ1.out w2 (K0.out.trans K2.out);have HI:Hid (gF w3 w2 mb lv fv ls):=HL.out.img.kept (K0.out.trans K2.out);have m5:=HI.out.c5;have m6:=HI.out.c6;have mf:=HI.out.fz;have n2:=HE.out.n2;have n3:=HE.out.n3;have n4:rb≠mb:=by
  have h1:=HI.out.lt;have h2:=HL.out.img.fr.size
  have:=HRB.out
  omega
 by_cases c4:4<t
 ·have ci:(4:Int)<(t:Int):=by omega
  have k0:=(ax (b:=mb) w2 5 0 (.int .i64 15) n2).trans x0;have k2:=(ax (b:=mb) w2 5 2 (.int .i64 15) n4).trans y2;have kz:=(ax (b:=mb) w2 5 (FR*2+1) (.int .i64 15) n3).trans xz1;have k6:(w2.setCell ⟨mb,5,none⟩ (.int .i64 15)).cell? ⟨mb,6,none⟩=some (.int .i64 0):=(aa _ _ _ _ _ (by omega)).trans m6;have HB:Hid (4<t):=c4;clear c4 y1 y3 y4;go_wp2_with fail;go_region_held3 (fun W=>W.cell? ⟨sb,0,none⟩=some (.slice (some ⟨gz,0,none⟩) out.length co)/\W.cell? ⟨rb,2,none⟩=some (.int .i64 (FR:Int))/\W.cell? ⟨gz,FR*2+1,none⟩=some (.int .i64 (A:Int))) (first | exact ⟨k0,k2,kz⟩ | exact ⟨(ax _ _ _ _ (by omega)).trans k0,(ax _ _ _ _ (by omega)).trans k2,(ax _ _ _ _ (by omega)).trans kz⟩ | go_keep) (fail)
  go_wp2_with fail;refine hQr.out _ _ _ _ _ _ _ _ _ _ _ _ _ _ _ _ _ _ _ _ _ _ _ _ _ _ _ _ _ _ _ _ _ _ _ _ _ _ _ _ _ _ _ _ _ _ _ _ _ _ _ _ _ _ _ _ _ _ _ _ _ _ _ _ _ _ _ _ _ _ _ _ _ _ _ _ _ _ _ _ _ _ _ _ _ _ _ _ _ _ _ _ _ _ _ _ _ _ _ _ _ _ _ _ _ _ _ _ _ _ _ _ _ _ _ _ _ _ _ _ _ _ _ _ _ _ _ _ _ _ _ _ _ _ _ _ _ _ _ _ _ _ _ _ _ _ _ _ _ _ _ _ _ _ _ _ _ _ _ _ _ _ _ _ _ ⟨ls,15,A,?_,((HI.out.fin.set5 15).set6 A).kept ((Kept.refl _).drewN 1),HL.out.sz⟩;have q:=HL.out.eq;have hh:=hlt.out;rw[ga out _ hh,aN,if_pos (by show 4<vAt out (aH h pre);rw[<- HFR.out,<- HT.out];exact HB.out)] at q;rw[q,HA.out,HFR.out];show ImR.bad (ls.map Ln.x++[]) 15 _=_
  rw[List.append_nil]
 ·have ci:¬ (4:Int)<(t:Int):=by omega
  have hFS:Hid _:=c4;clear c4;obtain ⟨PS,hPS⟩:∃ PS,PS=FR+SZ:=⟨_,rfl⟩;have HPS:Hid _:=hPS;by_cases c5:out.length<=FR+SZ
  ·have ci5:(out.length:Int)<=(FR:Int)+(SZ:Int):=by omega
   have HB:Hid _:=c5;clear c5 hPS;go_wp2_with fail;go_quiet (fail);go_wp2_with fail;obtain ⟨im,him⟩:=HL.out.cut (w2.drewN nq) (HI.out.kept ((Kept.refl _).drewN nq)).fin (Or.inr ⟨hlt.out,by rw[<- HFR.out,<- HT.out];exact Nat.le_of_not_lt hFS.out,by rw[<- HFR.out,<- HSZ.out];exact HB.out⟩);exact hQb.out _ _ _ _ _ _ _ _ _ _ _ _ _ _ _ _ _ _ _ _ _ _ _ _ _ _ _ _ _ _ _ _ _ _ _ _ _ _ _ _ _ _ _ _ _ _ _ _ _ _ _ _ _ _ _ _ _ _ _ _ _ _ _ _ _ _ _ _ _ _ _ _ _ _ _ _ _ _ _ _ _ _ _ _ _ _ _ _ _ _ _ _ _ _ _ _ _ _ _ _ _ _ _ _ _ _ _ _ _ _ _ _ _ _ _ _ _ _ _ _ _ _ _ _ _ _ _ _ _ _ _ _ _ _ _ _ _ _ _ _ _ _ _ _ _ _ _ _ _ _ _ _ _ _ _ _ _ _ _ _ _ _ _ _ _ _ im him
  ·have ci5:¬ (out.length:Int)<=(FR:Int)+(SZ:Int):=by omega
   have HB:Hid (FR+SZ<out.length):=by show _<_;omega
   clear c5 hPS;go_wp2_with fail;go_quiet (fail);obtain ⟨w4,hw4⟩:∃ w4,w4=w2.drewN nq:=⟨_,rfl⟩;rw[<- hw4];have K4:Hid (Kept w2 w4):=by rw[hw4];exact (Kept.refl _).drewN nq
   clear hw4 x0 xz1 y1 y2 y3 y4 m5 m6 mf;have K04:Hid (Kept w0 w4):=K2.out.trans K4.out;obtain ⟨y1,y2,y3,y4⟩:=HR.out w4 K04.out;have HI4:Hid (gF w3 w4 mb lv fv ls):=HI.out.kept K4.out;have hmk:=wh w4 SZ (by omega);obtain ⟨w5,hw5⟩:∃ w5,w5=w4.alloc (.cells (madeCells #[Value.int .i64 0] SZ) 3):=⟨_,rfl⟩;rw[<- hw5] at hmk;have K5:Hid (Kept w4 w5):=by rw[hw5];exact Below.alloc (Below.refl _ _) (Nat.le_refl _) _
   have L5:Hid (fI w5 w4.heap.size SZ (fun _=>0)):=by rw[hw5];exact Dn w4 SZ
   have s5:Hid (w5.heap.size=w4.heap.size+1):=by show _=_;rw[hw5];simp
   clear hw5;have K05:Hid (Kept w0 w5):=K04.out.trans K5.out;obtain ⟨y1',y2',y3',y4'⟩:=HR.out w5 K05.out;have HI5:Hid (gF w3 w5 mb lv fv ls):=HI4.out.kept K5.out;have c3:=HI5.out.c3;have hll:=HL.out.lenl;have hlast:=HL.out.last;have HP:Hid (0<n->prev=SZ):=fun q=>by show _=_;rw[HSZ.out];exact hprevc q
   clear hprevc;go_upto_if 131 with fail
   go_cut [13] from 132 to 139 (fun vm W=>∃ gu cu,vm = .slice (some ⟨gu,0,none⟩) SZ cu/\fI W gu SZ (if n=0 then fun _=>0 else up)/\gu<w5.heap.size/\W=w5)
   case first=>
    by_cases cn:n=0
    ·subst cn
     go_wp2_with fail;go_meet
     case rel=>exact ⟨w4.heap.size,SZ,rfl,L5.out,by rw[s5.out];omega,rfl⟩
    ·have hn0:(0:Int)<(n:Int):=by omega
     have hpv:=HP.out (by omega);obtain ⟨a,ha,hk0',han,hax⟩:=hlast (by omega);obtain ⟨k',hk'⟩:∃ k',k'=k - 1:=⟨_,rfl⟩;have kn:(0:Int)<=(k':Int):=by omega
     have ki:(k:Int) - 1=(k':Int):=by omega
     have kl:(k':Int)<(k:Int):=by omega
     have hown:=HI5.out.own;rcases hown.2 with ⟨hv,h0⟩ | ⟨gl,cap,cur,hv,hgl,rr⟩
     ·exfalso;omega
     ·have hlc:=hown.cells (show lv.ownBlock=some gl by rw[hv];rfl) k' (lnV a) (by rw[List.getElem?_map];rw[<- hk'] at ha;rw[ha];rfl)
      have e:(Addr.add ⟨gl,0,none⟩ k')=⟨gl,k',none⟩:=by simp [Addr.add];omega
      rw[e] at hlc;rw[hv] at c3;rw[hll] at c3;unfold lnV at hlc;have hln:=(HI5.out.ln a (List.mem_of_getElem? ha));have HRE:Hid (fI w5 a.g SZ (if n=0 then fun _=>0 else up)/\a.g<w5.heap.size):=by
       rw[if_neg cn,<- hax,<- hpv,<- han];exact ⟨hln.1,hln.2.2.1⟩
      rw[han,hpv] at hlc;have Hk':Hid _:=hk';clear hln hown rr hgl ha hax han hpv hlast hk' hv;go_wp2_with fail;go_meet
      case rel=>exact ⟨a.g,SZ,rfl,HRE.out.1,HRE.out.2,rfl⟩
   case rest=>
    obtain ⟨gu,cu,rfl,hU,hgu,rfl⟩:=hcut;have HU:Hid _:=hU;have ht4:t<=4:=Nat.le_of_not_lt hFS.out;go_step;refine Mq fb sb mb gz gr co cr palN ST k prev h out rows pre rs p n lv fv ls up w3 w wc rb gu cu t FR SZ CL HE HL hlt HI5 n4 y2' y3' y4' HU hgu HFR HSZ HCL HT ht4 HB b1' b2 hcl16 hbits ?_ ?_
    ·intro v4 vD vh vC uB uV pM pL pK mC mB mA mz my mx mw mv mu mr mq mo mn mm ml mj mi mh mg lZ lY lX lW lV lU lT lS lR lQ lP jG jF jE jD jC jB jA jz jy jx jw jv ju jt js jr jq jo jn jm jl jk jj ji jh jg jf je jd jc jb ja iZ iY iX iW iV iU iT iS iR iQ iP iO iN iM iL pJ pI pH pG pF pE pD pC pB pA pz pq pn pj pg pe pd o9 o8 o7 W' lv' fv' ls' prev' up' hn'
     exact hQn.out _ _ _ _ _ _ _ _ _ _ _ _ _ _ _ _ _ _ _ _ _ _ _ _ _ _ _ _ _ _ _ _ _ _ _ _ _ _ _ _ _ _ _ _ _ _ _ _ _ _ _ _ _ _ _ _ _ _ _ _ _ _ _ _ _ _ _ _ _ _ _ _ _ _ _ _ _ _ _ _ _ _ _ _ _ _ _ _ _ _ _ _ _ _ _ _ _ _ _ _ _ _ _ _ _ _ _ _ _ _ _ _ _ _ _ _ _ _ _ _ _ _ _ _ _ _ _ _ _ _ _ _ _ _ _ _ _ _ _ _ _ _ _ _ _ _ _ _ _ _ _ _ _ _ _ _ _ _ _ _ _ _ _ _ _ _ _ _ _ _ _ hn'
    ·intro vD vh vC uB uV pM pL pK mC mB mA mz my mx mw mv mu mr mq mo mn mm ml mj mi mh mg lZ lY lX lW lV lU lT lS lR lQ lP jG jF jE jD jC jB jA jz jy jx jw jv ju jt js jr jq jo jn jm jl jk jj ji jh jg jf je jd jc jb ja iZ iY iX iW iV iU iT iS iR iQ iP iO iN iM iL pJ pI pH pG pF pE pD pC pB pA pz pq pn pj pg pe pd o9 o8 o7 W' hr'
     exact hQr.out _ _ _ _ _ _ _ _ _ _ _ _ _ _ _ _ _ _ _ _ _ _ _ _ _ _ _ _ _ _ _ _ _ _ _ _ _ _ _ _ _ _ _ _ _ _ _ _ _ _ _ _ _ _ _ _ _ _ _ _ _ _ _ _ _ _ _ _ _ _ _ _ _ _ _ _ _ _ _ _ _ _ _ _ _ _ _ _ _ _ _ _ _ _ _ _ _ _ _ _ _ _ _ _ _ _ _ _ _ _ _ _ _ _ _ _ _ _ _ _ _ _ _ _ _ _ _ _ _ _ _ _ _ _ _ _ _ _ _ _ _ _ _ _ _ _ _ _ _ _ _ _ _ _ _ _ _ _ _ _ _ _ _ _ _ hr'
structure Lb (w3:World) (fb sb mb co cr palN ST:Nat) (po pr:Option Addr) (h:Hd) (out:List One) (rows:List (Nat × Nat)):Prop where
 fd:sf w3 fb h palN
 s0:w3.cell? ⟨sb,0,none⟩=some (.slice po out.length co)
 z:ZAt w3 (.slice po out.length co) out
 rw:w3.ownsRow (mb+1) 146 5 (.slice pr rows.length cr) rows.length (kT h rows 0)
 n1:fb≠mb
 n2:sb≠mb
 n3:∀ a,po=some a->a.block≠mb
 ol:out.length<=4294967296
 by':dt out
 pal:palN<=1048576
 st:ST=cE h
 st1:1<=ST
 st8:ST<=8
 W:h.W<=16
 H:h.H<=16
 D:okD h.D
 bits:1<=bG h
 rl:rows.length<=200
 tot:aH h rows<=200*200
theorem Lb.get {w3:World} {fb sb mb co cr palN ST gz gr:Nat} {h:Hd} {out:List One} {rows:List (Nat × Nat)} (k:Lb w3 fb sb mb co cr palN ST (some ⟨gz,0,none⟩) (some ⟨gr,0,none⟩) h out rows) (hz:gz<w3.heap.size):OfE w3 fb sb mb gz gr co cr palN ST h out rows:=
 ⟨k.fd,k.s0,k.z,k.rw,k.n1,k.n2,k.n3 _ rfl,hz,k.ol,k.by',k.pal,k.st,k.st1,k.st8,k.W,k.H,k.D,k.bits,k.rl,k.tot⟩
theorem Nm {Q:Exit->Act->World->Prop} {u2 u3 u4 u5 u8 vo tX uE uC sq u16 sx rX o6 o5 o4 o3 o0 oZ oY oX oW oV oU oT oS u32 oR oQ oP oO oN oM oL oK oJ oI oH oG oF oE oD oC oB oA oz oy ox ow ou ot oq oo om oj oi oh og u64 pW pV qu qt qq qp qo qn qm ql qk qj qi qh qg qf qz qy qx rK rJ rI rH rG rF rE rD rC rB rA rz ry ru rq rp fh eE eB ez ey ew ev eu ej eh ed dZ dY dX dW dV dU dT dS dR dQ dP dO dN dM dL dK dJ dI dH dG dF dE dD dC dB dA dz dy dx fy fx gB iB iA iz iy ix iw iu ir ik ij ig ie ib gZ gY gX gW gV gU gT gS gR gQ gP gO gN gM gK gJ gI kR kQ kP kO kN kM kL kK kJ kI kG kF kE kD kC kB ky kv ku kj kf ke j9 j8 j7 j6 j5 j4 jZ jY jX jW jV jU jT jS jR jQ jP jO jN jM jL jK jJ jI jH gA gy gw gv gp gm gj gi gh gg tW tV tU tT tS tR tQ tP tO tN nZ nY nX nW nV nU nT nR nQ nP nO nM nL nJ nI nH nG nF nE nD nB nA nz ny nv nu nt nr np nk nj ni nh ng nc na m9 m8 m7 mZ mY mX mW mV mU mT mS mR mQ mP mO mN:Value} (fb sb mb co cr palN ST:Nat) (po pr:Option Addr) (h:Hd) (out:List One) (rows:List (Nat × Nat)) (w3:World)
  (HE:Hid (Lb w3 fb sb mb co cr palN ST po pr h out rows)) (HL0:Hid (OfL h (palN / 3) out rows w3 w3 mb 0 (.slice none 0 0) (.slice none 0 0) [] [] rows 0 (fun _=>0)))
  (hQn:Hid (∀ v4 Gb zF xF vm vD vh vC uB uV ML MK MJ MI MH MG MF ME MD MB MA Mz My Mx Mw Mv Lg Lf Le zE zD zC zy zx zw zu zt zq zo zm zk zj zi zg ze qC tM tL tK tJ tI tH tG tF tE tD tC tB tA tz tx tu tt ts tr tq tp tn tm tj th tg tf tc s9 s8 sZ sY sX sW sV sU sT sS sR pM pL pK mC mB mA mz my mx mw mv mu mr mq mo mn mm ml mj mi mh mg lZ lY lX lW lV lU lT lS lR lQ lP jG jF jE jD jC jB jA jz jy jx jw jv ju jt js jr jq jo jn jm jl jk jj ji jh jg jf je jd jc jb ja iZ iY iX iW iV iU iT iS iR iQ iP iO iN iM iL pJ pI pH pG pF pE pD pC pB pA pz pq pn pj pg pe pd o9 o8 o7 W' ls im,OfZ h (palN / 3) out rows w3 W' mb ls im->Q .normal ⟨#[.pointer (some ⟨fb,0,none⟩),.pointer (some ⟨sb,0,none⟩),u2,u3,v4,u5,.pointer (some ⟨mb,0,none⟩),.slice pr rows.length cr,u8,.int .i64 (ST:Int),Gb,zF,xF,vm,vD,vh,vC,uB,uV,o6,o5,o4,o3,o0,oZ,oY,oX,oW,oV,oU,oT,oS,u32,oR,oQ,oP,oO,oN,oM,oL,oK,oJ,oI,oH,oG,oF,oE,oD,oC,oB,oA,oz,oy,ox,ow,ou,ot,oq,oo,om,oj,oi,oh,og,u64,ML,MK,MJ,MI,MH,MG,MF,ME,MD,MB,MA,Mz,My,Mx,Mw,Mv,Lg,Lf,Le,zE,zD,zC,zy,zx,zw,zu,zt,zq,zo,zm,zk,zj,zi,zg,ze,qC,tM,tL,tK,tJ,tI,tH,tG,tF,tE,tD,tC,tB,tA,tz,tx,tu,tt,ts,tr,tq,tp,tn,tm,tj,th,tg,tf,tc,s9,s8,sZ,sY,sX,sW,sV,sU,sT,sS,sR,pM,pL,pK,mC,mB,mA,mz,my,mx,mw,mv,mu,mr,mq,mo,mn,mm,ml,mj,mi,mh,mg,lZ,lY,lX,lW,lV,lU,lT,lS,lR,lQ,lP,jG,jF,jE,jD,jC,jB,jA,jz,jy,jx,jw,jv,ju,jt,js,jr,jq,jo,jn,jm,jl,jk,jj,ji,jh,jg,jf,je,jd,jc,jb,ja,iZ,iY,iX,iW,iV,iU,iT,iS,iR,iQ,iP,iO,iN,iM,iL,pJ,pI,pH,pG,pF,pE,pD,pC,pB,pA,pz,pq,pn,pj,pg,pe,pd,o9,o8,o7,nZ,nY,nX,nW,nV,nU,nT,nR,nQ,nP,nO,nM,nL,nJ,nI,nH,nG,nF,nE,nD,nB,nA,nz,ny,nv,nu,nt,nr,np,nk,nj,ni,nh,ng,nc,na,m9,m8,m7,mZ,mY,mX,mW,mV,mU,mT,mS,mR,mQ,mP,mO,mN],[]⟩ W'))
  (hQr:Hid (∀ Gb zF xF vm vD vh vC uB uV ML MK MJ MI MH MG MF ME MD MB MA Mz My Mx Mw Mv Lg Lf Le zE zD zC zy zx zw zu zt zq zo zm zk zj zi zg ze qC tM tL tK tJ tI tH tG tF tE tD tC tB tA tz tx tu tt ts tr tq tp tn tm tj th tg tf tc s9 s8 sZ sY sX sW sV sU sT sS sR pM pL pK mC mB mA mz my mx mw mv mu mr mq mo mn mm ml mj mi mh mg lZ lY lX lW lV lU lT lS lR lQ lP jG jF jE jD jC jB jA jz jy jx jw jv ju jt js jr jq jo jn jm jl jk jj ji jh jg jf je jd jc jb ja iZ iY iX iW iV iU iT iS iR iQ iP iO iN iM iL pJ pI pH pG pF pE pD pC pB pA pz pq pn pj pg pe pd o9 o8 o7 W',OfR h (palN / 3) out rows w3 W' mb->Q .ret ⟨#[.pointer (some ⟨fb,0,none⟩),.pointer (some ⟨sb,0,none⟩),u2,u3,.pointer (some ⟨mb,0,none⟩),u5,.pointer (some ⟨mb,0,none⟩),.slice pr rows.length cr,u8,.int .i64 (ST:Int),Gb,zF,xF,vm,vD,vh,vC,uB,uV,o6,o5,o4,o3,o0,oZ,oY,oX,oW,oV,oU,oT,oS,u32,oR,oQ,oP,oO,oN,oM,oL,oK,oJ,oI,oH,oG,oF,oE,oD,oC,oB,oA,oz,oy,ox,ow,ou,ot,oq,oo,om,oj,oi,oh,og,u64,ML,MK,MJ,MI,MH,MG,MF,ME,MD,MB,MA,Mz,My,Mx,Mw,Mv,Lg,Lf,Le,zE,zD,zC,zy,zx,zw,zu,zt,zq,zo,zm,zk,zj,zi,zg,ze,qC,tM,tL,tK,tJ,tI,tH,tG,tF,tE,tD,tC,tB,tA,tz,tx,tu,tt,ts,tr,tq,tp,tn,tm,tj,th,tg,tf,tc,s9,s8,sZ,sY,sX,sW,sV,sU,sT,sS,sR,pM,pL,pK,mC,mB,mA,mz,my,mx,mw,mv,mu,mr,mq,mo,mn,mm,ml,mj,mi,mh,mg,lZ,lY,lX,lW,lV,lU,lT,lS,lR,lQ,lP,jG,jF,jE,jD,jC,jB,jA,jz,jy,jx,jw,jv,ju,jt,js,jr,jq,jo,jn,jm,jl,jk,jj,ji,jh,jg,jf,je,jd,jc,jb,ja,iZ,iY,iX,iW,iV,iU,iT,iS,iR,iQ,iP,iO,iN,iM,iL,pJ,pI,pH,pG,pF,pE,pD,pC,pB,pA,pz,pq,pn,pj,pg,pe,pd,o9,o8,o7,nZ,nY,nX,nW,nV,nU,nT,nR,nQ,nP,nO,nM,nL,nJ,nI,nH,nG,nF,nE,nD,nB,nA,nz,ny,nv,nu,nt,nr,np,nk,nj,ni,nh,ng,nc,na,m9,m8,m7,mZ,mY,mX,mW,mV,mU,mT,mS,mR,mQ,mP,mO,mN],[]⟩ W')) :
  Code.wp Tryz.prog ((Tryz.f42.body.bind (fJ 0)).getD .skip) Q ⟨#[.pointer (some ⟨fb,0,none⟩),.pointer (some ⟨sb,0,none⟩),u2,u3,u4,u5,.pointer (some ⟨mb,0,none⟩),.slice pr rows.length cr,u8,.int .i64 (ST:Int),.int .i64 0,vo,tX,uE,uC,sq,u16,sx,rX,o6,o5,o4,o3,o0,oZ,oY,oX,oW,oV,oU,oT,oS,u32,oR,oQ,oP,oO,oN,oM,oL,oK,oJ,oI,oH,oG,oF,oE,oD,oC,oB,oA,oz,oy,ox,ow,ou,ot,oq,oo,om,oj,oi,oh,og,u64,pW,pV,qu,qt,qq,qp,qo,qn,qm,ql,qk,qj,qi,qh,qg,qf,qz,qy,qx,rK,rJ,rI,rH,rG,rF,rE,rD,rC,rB,rA,rz,ry,ru,rq,rp,fh,eE,eB,ez,ey,ew,ev,eu,ej,eh,ed,dZ,dY,dX,dW,dV,dU,dT,dS,dR,dQ,dP,dO,dN,dM,dL,dK,dJ,dI,dH,dG,dF,dE,dD,dC,dB,dA,dz,dy,dx,fy,fx,gB,iB,iA,iz,iy,ix,iw,iu,ir,ik,ij,ig,ie,ib,gZ,gY,gX,gW,gV,gU,gT,gS,gR,gQ,gP,gO,gN,gM,gK,gJ,gI,kR,kQ,kP,kO,kN,kM,kL,kK,kJ,kI,kG,kF,kE,kD,kC,kB,ky,kv,ku,kj,kf,ke,j9,j8,j7,j6,j5,j4,jZ,jY,jX,jW,jV,jU,jT,jS,jR,jQ,jP,jO,jN,jM,jL,jK,jJ,jI,jH,gA,gy,gw,gv,gp,gm,gj,gi,gh,gg,tW,tV,tU,tT,tS,tR,tQ,tP,tO,tN,nZ,nY,nX,nW,nV,nU,nT,nR,nQ,nP,nO,nM,nL,nJ,nI,nH,nG,nF,nE,nD,nB,nA,nz,ny,nv,nu,nt,nr,np,nk,nj,ni,nh,ng,nc,na,m9,m8,m7,mZ,mY,mX,mW,mV,mU,mT,mS,mR,mQ,mP,mO,mN],[]⟩ w3:=by
 conv=>arg 2;whnf
 have hrl:=HE.out.rl;have ol:=HE.out.ol;go_wp2_with fail;go_loopg [10] rows.length (fun m Gb W=>∃ (k:Nat) (lv fv:Value) (ls:List Ln) (pre rs:List (Nat × Nat)) (prev:Nat) (up:Nat->Nat),Gb = .int .i64 (k:Int)/\m=rs.length/\OfL h (palN / 3) out rows w3 W mb k lv fv ls pre rs prev up)
 case atStart=>exact ⟨0,_,_,_,_,_,_,_,rfl,rfl,HL0.out⟩
 case round=>
  obtain ⟨k,lv,fv,ls,pre,rs,prev,up,rfl,hm,hL⟩:=hrel;have HM:Hid _:=hm;have H1:Hid (OfL h (palN / 3) out rows w3 wr mb k lv fv ls pre rs prev up):=hL;have hF:=hL.img.fr;have hsb3:sb<w3.heap.size:=World.block_lt_of_cell? _ _ HE.out.s0;have s0:wr.cell? ⟨sb,0,none⟩=some (.slice po out.length co):=(hF.cell hsb3 HE.out.n2).trans HE.out.s0;have hkl:pre.length=k:=hL.len;have hsp:=hL.split;have hsl:rows.length=k+rs.length:=by rw[hsp,List.length_append,hkl]
  clear hm hsp;cases rs with
  | nil=>
   have HD:Hid (((rows.length:Nat):Int)=(k:Int)):=by show ((rows.length:Nat):Int)=(k:Int);simp at hsl;omega
   have HZ:Hid (∃ im,OfZ h (palN / 3) out rows w3 wr mb ls im):=hL.stop;clear hL hsl hkl hF;go_wp2_with fail;have hd:=HD.out;go_quiet (fail);go_wp2_with fail;obtain ⟨im,him⟩:=HZ.out;exact hQn.out _ _ _ _ _ _ _ _ _ _ _ _ _ _ _ _ _ _ _ _ _ _ _ _ _ _ _ _ _ _ _ _ _ _ _ _ _ _ _ _ _ _ _ _ _ _ _ _ _ _ _ _ _ _ _ _ _ _ _ _ _ _ _ _ _ _ _ _ _ _ _ _ _ _ _ _ _ _ _ _ _ _ _ _ _ _ _ _ _ _ _ _ _ _ _ _ _ _ _ _ _ _ _ _ _ _ _ _ _ _ _ _ _ _ _ _ _ _ _ _ _ _ _ _ _ _ _ _ _ _ _ _ _ _ _ _ _ _ _ _ _ _ _ _ _ _ _ _ _ _ _ _ _ _ _ _ _ _ _ _ _ _ _ _ _ _ _ _ _ _ _ _ _ _ _ _ _ _ _ _ _ _ _ _ _ _ ls im ⟨him.img.kept ((Kept.refl _).drewN _),him.eq,him.lines,him.sz,him.kind⟩
  | cons x rs=>
   obtain ⟨p,n⟩:=x;have hOW:=aQ HE.out.rw hF (fun g hg e=>by have:=(HE.out.rw.lt g hg).1;omega);have hk0:k<rows.length:=by simp at hsl;omega
   obtain ⟨gr,rfl⟩:∃ gr,pr=some ⟨gr,0,none⟩:=by
    rcases hOW.2 with ⟨hv,h0⟩ | ⟨g,cap,cur,hv,hg,r⟩
    ·omega
    ·injection hv with h1 _ _;exact ⟨g,h1⟩
   have hrk:rows[k]? = some (p,n):=by rw[hL.split,List.getElem?_append_right (by omega),hkl,Nat.sub_self];rfl
   have htk:rows.take k=pre:=by rw[hL.split,<- hkl];simp
   have hrc:=vN h rows 0 k p n hrk;rw[Nat.zero_add,htk] at hrc;have r2:wr.cell? ⟨gr,k*5+2,none⟩=some (.int .i64 ((aH h pre:Nat):Int)):=by
    have:=hOW.cells rfl (k*5+2) _ hrc.2.2.1
    have e:(Addr.add ⟨gr,0,none⟩ (k*5+2))=⟨gr,k*5+2,none⟩:=by simp [Addr.add]
    rw[e] at this;exact this
   obtain ⟨FR,hFR⟩:∃ FR,FR=aH h pre:=⟨_,rfl⟩;rw[<- hFR] at r2;have hk1:(k:Int)<(rows.length:Int):=by omega
   have hk2:(0:Int)<=(k:Int):=by omega
   have HFR:Hid (FR=aH h pre):=hFR;have HSL:Hid _:=hsl;clear hrc hOW htk hrk hFR hsl hk0 hkl hF;by_cases c1:out.length<=FR
   ·have HD2:Hid (¬ ((FR:Int)<(out.length:Int))):=by show ¬ ((FR:Int)<(out.length:Int));omega
    have HC:Hid _:=c1;clear hL c1;go_wp2_with fail;have hd2:=HD2.out;go_quiet (fail);go_wp2_with fail;obtain ⟨im,him⟩:=H1.out.cut (wr.drewN nq) (H1.out.img.fin.kept ((Kept.refl _).drewN nq)) (Or.inl (by rw[<- HFR.out];exact HC.out));exact hQn.out _ _ _ _ _ _ _ _ _ _ _ _ _ _ _ _ _ _ _ _ _ _ _ _ _ _ _ _ _ _ _ _ _ _ _ _ _ _ _ _ _ _ _ _ _ _ _ _ _ _ _ _ _ _ _ _ _ _ _ _ _ _ _ _ _ _ _ _ _ _ _ _ _ _ _ _ _ _ _ _ _ _ _ _ _ _ _ _ _ _ _ _ _ _ _ _ _ _ _ _ _ _ _ _ _ _ _ _ _ _ _ _ _ _ _ _ _ _ _ _ _ _ _ _ _ _ _ _ _ _ _ _ _ _ _ _ _ _ _ _ _ _ _ _ _ _ _ _ _ _ _ _ _ _ _ _ _ _ _ _ _ _ _ _ _ _ _ _ _ _ _ _ _ _ _ _ _ _ _ _ _ _ _ _ _ _ ls im him
   ·have hd2:(FR:Int)<(out.length:Int):=by omega
    have HC:Hid (aH h pre<out.length):=by show _<_;rw[<- HFR.out];omega
    obtain ⟨gz,hgz,zz,_⟩:=HE.out.z.cells _ _ rfl FR (by omega);subst hgz;have HEE:Hid (OfE w3 fb sb mb gz gr co cr palN ST h out rows):=HE.out.get (World.block_lt_of_cell? _ _ zz);clear zz;clear hL c1;go_wp2_with fail;go_quiet (fail);obtain ⟨w4,hw4⟩:∃ w4,w4=wr.drewN nq:=⟨_,rfl⟩;rw[<- hw4];have H4:Hid (OfL h (palN / 3) out rows w3 w4 mb k lv fv ls pre ((p,n)::rs) prev up):=⟨by rw[hw4];exact H1.out.img.kept ((Kept.refl _).drewN nq),H1.out.split,H1.out.len,H1.out.lenl,H1.out.pos,H1.out.last,H1.out.eq,H1.out.sz⟩;clear hw4 s0 r2;go_upto_block 1 with fail
    refine Nl fb sb mb gz gr co cr palN ST k prev h out rows pre rs p n lv fv ls up w3 w4 HEE H4 HC ?_ ?_ ?_
    ·intro v4 zF xF vm vD vh vC uB uV zE zD zC zy zx zw zu zt zq zo zm zk zj zi zg ze qC tM tL tK tJ tI tH tG tF tE tD tC tB tA tz tx tu tt ts tr tq tp tn tm tj th tg tf tc s9 s8 sZ sY sX sW sV sU sT sS sR pM pL pK mC mB mA mz my mx mw mv mu mr mq mo mn mm ml mj mi mh mg lZ lY lX lW lV lU lT lS lR lQ lP jG jF jE jD jC jB jA jz jy jx jw jv ju jt js jr jq jo jn jm jl jk jj ji jh jg jf je jd jc jb ja iZ iY iX iW iV iU iT iS iR iQ iP iO iN iM iL pJ pI pH pG pF pE pD pC pB pA pz pq pn pj pg pe pd o9 o8 o7 w5 lv' fv' ls' prev' up' hn'
     have HN:Hid _:=hn';clear hn';have hk5:k<=200:=by have:=HSL.out;omega
     go_wp2_with fail;go_roundg rs.length
     case measure=>have:=HM.out;simp at this;omega
     exact ⟨k+1,lv',fv',ls',pre++[(p,n)],rs,prev',up',by go_num,rfl,HN.out⟩
    ·intro v4 zF xF vm vD vh vC uB uV zE zD zC zy zx zw zu zt zq zo zm zk zj zi zg ze qC tM tL tK tJ tI tH tG tF tE tD tC tB tA tz tx tu tt ts tr tq tp tn tm tj th tg tf tc s9 s8 sZ sY sX sW sV sU sT sS sR pM pL pK mC mB mA mz my mx mw mv mu mr mq mo mn mm ml mj mi mh mg lZ lY lX lW lV lU lT lS lR lQ lP jG jF jE jD jC jB jA jz jy jx jw jv ju jt js jr jq jo jn jm jl jk jj ji jh jg jf je jd jc jb ja iZ iY iX iW iV iU iT iS iR iQ iP iO iN iM iL pJ pI pH pG pF pE pD pC pB pA pz pq pn pj pg pe pd o9 o8 o7 w5 im him
     exact hQn.out _ _ _ _ _ _ _ _ _ _ _ _ _ _ _ _ _ _ _ _ _ _ _ _ _ _ _ _ _ _ _ _ _ _ _ _ _ _ _ _ _ _ _ _ _ _ _ _ _ _ _ _ _ _ _ _ _ _ _ _ _ _ _ _ _ _ _ _ _ _ _ _ _ _ _ _ _ _ _ _ _ _ _ _ _ _ _ _ _ _ _ _ _ _ _ _ _ _ _ _ _ _ _ _ _ _ _ _ _ _ _ _ _ _ _ _ _ _ _ _ _ _ _ _ _ _ _ _ _ _ _ _ _ _ _ _ _ _ _ _ _ _ _ _ _ _ _ _ _ _ _ _ _ _ _ _ _ _ _ _ _ _ _ _ _ _ _ _ _ _ _ _ _ _ _ _ _ _ _ _ _ _ _ _ _ _ ls im him
    ·intro zF xF vm vD vh vC uB uV zE zD zC zy zx zw zu zt zq zo zm zk zj zi zg ze qC tM tL tK tJ tI tH tG tF tE tD tC tB tA tz tx tu tt ts tr tq tp tn tm tj th tg tf tc s9 s8 sZ sY sX sW sV sU sT sS sR pM pL pK mC mB mA mz my mx mw mv mu mr mq mo mn mm ml mj mi mh mg lZ lY lX lW lV lU lT lS lR lQ lP jG jF jE jD jC jB jA jz jy jx jw jv ju jt js jr jq jo jn jm jl jk jj ji jh jg jf je jd jc jb ja iZ iY iX iW iV iU iT iS iR iQ iP iO iN iM iL pJ pI pH pG pF pE pD pC pB pA pz pq pn pj pg pe pd o9 o8 o7 w5 hr'
     exact hQr.out _ _ _ _ _ _ _ _ _ _ _ _ _ _ _ _ _ _ _ _ _ _ _ _ _ _ _ _ _ _ _ _ _ _ _ _ _ _ _ _ _ _ _ _ _ _ _ _ _ _ _ _ _ _ _ _ _ _ _ _ _ _ _ _ _ _ _ _ _ _ _ _ _ _ _ _ _ _ _ _ _ _ _ _ _ _ _ _ _ _ _ _ _ _ _ _ _ _ _ _ _ _ _ _ _ _ _ _ _ _ _ _ _ _ _ _ _ _ _ _ _ _ _ _ _ _ _ _ _ _ _ _ _ _ _ _ _ _ _ _ _ _ _ _ _ _ _ _ _ _ _ _ _ _ _ _ _ _ _ _ _ _ _ _ _ _ _ _ _ _ _ _ _ _ _ _ _ _ _ _ _ _ _ _ _ hr'
def qQ (n:Nat):Code->Option Code
 | .region k o d=>if k=n then some (.region k o d) else none
 | .seq a b=>match qQ n a with
  | some c=>some (.seq c b)
  | none=>qQ n b
 | _=>none
theorem lH {P:Ending->World->Prop} {b:Nat} {w:World} {r:Ending} (h:P (.returned (.pointer (some ⟨b,0,none⟩))) w) (e:r = .returned (.pointer (some ⟨b,0,none⟩))):P r w:=by rw[e];exact h
theorem of_rest {u0 u2 u3 u4 u5 u7 u9 rY vo tX uE uC sq u16 sx rX o6 o5 o4 o3 o0 oZ oY oX oW oV oU oT oS u32 oR oQ oP oO oN oM oL oK oJ oI oH oG oF oE oD oC oB oA oz oy ox ow ou ot oq oo om oj oi oh og u64 pW pV qu qt qq qp qo qn qm ql qk qj qi qh qg qf qz qy qx rK rJ rI rH rG rF rE rD rC rB rA rz ry ru rq rp fh eE eB ez ey ew ev eu ej eh ed dZ dY dX dW dV dU dT dS dR dQ dP dO dN dM dL dK dJ dI dH dG dF dE dD dC dB dA dz dy dx fy fx gB iB iA iz iy ix iw iu ir ik ij ig ie ib gZ gY gX gW gV gU gT gS gR gQ gP gO gN gM gK gJ gI kR kQ kP kO kN kM kL kK kJ kI kG kF kE kD kC kB ky kv ku kj kf ke j9 j8 j7 j6 j5 j4 jZ jY jX jW jV jU jT jS jR jQ jP jO jN jM jL jK jJ jI jH gA gy gw gv gp gm gj gi gh gg tW tV tU tT tS tR tQ tP tO tN nZ nY nX nW nV nU nT nR nQ nP nO nM nL nJ nI nH nG nF nE nD nB nA nz ny nv nu nt nr np nk nj ni nh ng nc na m9 m8 m7 mZ mY mX mW mV mU mT mS mR mQ mP mO mN:Value} (P:Ending->World->Prop) (sb mb TT en co:Nat) (po:Option Addr) (h:Hd) (C:Nat) (out:List One) (dn sm:Bool) (rows:List (Nat × Nat)) (ls:List Ln) (im:ImR) (w3 w:World)
  (HS:Hid (wT w3 sb (.slice po out.length co) out dn sm en)) (HZ:Hid (OfZ h C out rows w3 w mb ls im)) (HTT:Hid (TT=aH h rows)) (b1:TT<=40000) (ol:out.length<=4294967296) (n2:sb≠mb) (HN:Hid (∀ a,po=some a->a.block≠mb))
  (HP:Hid (∀ W',mJ w3 W' mb (ofE im dn sm en).1 (ofE im dn sm en).2 ls->P (.returned (.pointer (some ⟨mb,0,none⟩))) W')) :
  Code.wp Tryz.prog ((Tryz.f42.body.bind (qQ 35)).getD .skip) (bodyPost Tryz.prog Tryz.f42 P) ⟨#[u0,.pointer (some ⟨sb,0,none⟩),u2,u3,u4,u5,.pointer (some ⟨mb,0,none⟩),u7,.int .i64 (TT:Int),u9,rY,vo,tX,uE,uC,sq,u16,sx,rX,o6,o5,o4,o3,o0,oZ,oY,oX,oW,oV,oU,oT,oS,u32,oR,oQ,oP,oO,oN,oM,oL,oK,oJ,oI,oH,oG,oF,oE,oD,oC,oB,oA,oz,oy,ox,ow,ou,ot,oq,oo,om,oj,oi,oh,og,u64,pW,pV,qu,qt,qq,qp,qo,qn,qm,ql,qk,qj,qi,qh,qg,qf,qz,qy,qx,rK,rJ,rI,rH,rG,rF,rE,rD,rC,rB,rA,rz,ry,ru,rq,rp,fh,eE,eB,ez,ey,ew,ev,eu,ej,eh,ed,dZ,dY,dX,dW,dV,dU,dT,dS,dR,dQ,dP,dO,dN,dM,dL,dK,dJ,dI,dH,dG,dF,dE,dD,dC,dB,dA,dz,dy,dx,fy,fx,gB,iB,iA,iz,iy,ix,iw,iu,ir,ik,ij,ig,ie,ib,gZ,gY,gX,gW,gV,gU,gT,gS,gR,gQ,gP,gO,gN,gM,gK,gJ,gI,kR,kQ,kP,kO,kN,kM,kL,kK,kJ,kI,kG,kF,kE,kD,kC,kB,ky,kv,ku,kj,kf,ke,j9,j8,j7,j6,j5,j4,jZ,jY,jX,jW,jV,jU,jT,jS,jR,jQ,jP,jO,jN,jM,jL,jK,jJ,jI,jH,gA,gy,gw,gv,gp,gm,gj,gi,gh,gg,tW,tV,tU,tT,tS,tR,tQ,tP,tO,tN,nZ,nY,nX,nW,nV,nU,nT,nR,nQ,nP,nO,nM,nL,nJ,nI,nH,nG,nF,nE,nD,nB,nA,nz,ny,nv,nu,nt,nr,np,nk,nj,ni,nh,ng,nc,na,m9,m8,m7,mZ,mY,mX,mW,mV,mU,mT,mS,mR,mQ,mP,mO,mN],[]⟩ w:=by
 conv=>arg 2;whnf
 have hF:=HZ.out.img.fr;have hsb3:=HS.out.lt;have s0:w.cell? ⟨sb,0,none⟩=some (.slice po out.length co):=(hF.cell hsb3 n2).trans HS.out.c0;have s3:w.cell? ⟨sb,3,none⟩=some (.bool dn):=(hF.cell hsb3 n2).trans HS.out.c3;have s4:w.cell? ⟨sb,4,none⟩=some (.bool sm):=(hF.cell hsb3 n2).trans HS.out.c4;have s7:w.cell? ⟨sb,7,none⟩=some (.int .i64 (en:Int)):=(hF.cell hsb3 n2).trans HS.out.c7;have m5:=HZ.out.img.c5;have m6:=HZ.out.img.c6;have mf:=HZ.out.img.fz;have HI:Hid (mJ w3 w mb 0 0 ls):=HZ.out.img;rcases HZ.out.kind with ⟨l,e1,e2⟩ | ⟨l,e1,e2⟩ | ⟨l,e1,e2⟩
 ·rw[<- HTT.out] at e2
  have ei:(out.length:Int)<(TT:Int):=by omega
  subst e1;clear e2 hF;cases dn
  ·have HP2:Hid (∀ W',mJ w3 W' mb 0 0 ls->P (.returned (.pointer (some ⟨mb,0,none⟩))) W'):=HP.out
   go_wp2_with fail;exact lH (HP2.out _ HI.out) rfl
  ·cases sm
   ·have HP2:Hid (∀ W',mJ w3 W' mb 0 0 ls->P (.returned (.pointer (some ⟨mb,0,none⟩))) W'):=HP.out
    go_wp2_with fail;exact lH (HP2.out _ HI.out) rfl
   ·have HP2:Hid (∀ W',mJ w3 W' mb 18 en ls->P (.returned (.pointer (some ⟨mb,0,none⟩))) W'):=HP.out
    have k7:=(ax (b:=mb) w 5 7 (.int .i64 18) n2).trans s7;have k6:(w.setCell ⟨mb,5,none⟩ (.int .i64 18)).cell? ⟨mb,6,none⟩=_:=(aa _ _ _ _ _ (by omega)).trans m6;go_wp2_with fail;exact lH (HP2.out _ ((HI.out.set5 18).set6 en)) rfl
 ·rw[<- HTT.out] at e2
  have ei:(out.length:Int)=(TT:Int):=by omega
  subst e1;have HP2:Hid (∀ W',mJ w3 W' mb 0 0 ls->P (.returned (.pointer (some ⟨mb,0,none⟩))) W'):=HP.out;clear e2 hF;have h1:¬ ((TT:Int)<(out.length:Int)):=by omega
  have h2:¬ ((out.length:Int)<(TT:Int)):=by omega
  have HEI:Hid _:=ei;clear ei;cases dn<;>cases sm
  all_goals
   go_wp2_with fail;exact lH (HP2.out _ HI.out) rfl
 ·rw[<- HTT.out] at e2 e1
  have ei:(TT:Int)<(out.length:Int):=by omega
  have HE1:Hid _:=e1;have HP2:Hid (∀ W',mJ w3 W' mb 17 (pAt out TT) ls->P (.returned (.pointer (some ⟨mb,0,none⟩))) W'):=fun W' k=>HP.out W' (by rw[HE1.out];exact k)
  have HZ2:=HS.out.z.fr hF (fun g hg e=>by
   cases po with
   | none=>cases hg
   | some a=>injection hg with hg;exact HN.out a rfl (by omega))
  obtain ⟨gz,hgz,z0,z1⟩:=HZ2.cells _ _ rfl TT e2;subst hgz;have n3:gz≠mb:=HN.out _ rfl;obtain ⟨A,hA⟩:∃ A,A=pAt out TT:=⟨_,rfl⟩;rw[<- hA] at z1 HP2;clear e2 e1 hF HZ2 z0 hA;have k0:=(ax (b:=mb) w 5 0 (.int .i64 17) n2).trans s0;have kz:=(ax (b:=mb) w 5 (TT*2+1) (.int .i64 17) n3).trans z1;have k6:(w.setCell ⟨mb,5,none⟩ (.int .i64 17)).cell? ⟨mb,6,none⟩=_:=(aa _ _ _ _ _ (by omega)).trans m6;go_wp2_with fail;exact lH (HP2.out _ ((HI.out.set5 17).set6 A)) rfl
def lE (f2:Fl) (k n:Nat) (d:List Nat) (cut bad:Bool):Ch:=
 if cut=true then ⟨f2,0,0,0⟩ else if bad=true then ⟨f2,6,8+n+3,0⟩ else if (f2.ends k d).2≠0 then ⟨(f2.ends k d).1,(f2.ends k d).2,8+n+3,0⟩ else ⟨(f2.ends k d).1,0,0,8+n+4⟩
theorem Df {P:Ending->World->Prop} {a:Int} {c:Bool} {w:World} {r:Ending} (h:P (.returned (.tuple #[.int .i64 a,.bool c])) w) (e:r = .returned (.tuple #[.int .i64 a,.bool c])):P r w:=by rw[e];exact h
theorem DS {u3 u4 u5 u6 u7 u8 rY tX uE uC sq u16 sx rX o6 o5 o4 o3 o0 oZ oY oX oW oV oU oT oS u32 oR oQ oP oO oN oM oL oK oJ oI oH oG oF oE oD oC oB oA oz oy ox ow ou ot oq oo om oj oi oh og u64 pW pV qu qt qq qp qo qn qm ql qk qj qi qh qg qf qz qy qx rK rJ rI rH rG rF rE rD rC rB rA rz ry ru rq rp fh eE eB ez ey ew ev eu ej eh ed dZ dY dX dW dV dU dT dS dR dQ dP dO dN dM dL dK dJ dI dH dG dF dE dD dC dB dA dz dy dx fy fx:Value} (P:Ending->World->Prop) (b i n E C M:Nat) (t kd:ByteArray) (f2:Fl) (pv cv zv iv:Value) (w:World) (h:Hid (ar w b f2 0 0 pv cv zv iv)) (hs:t.size<=1048576) (hE:E=i+8+n) (hi8:i+8<=t.size) (hn:n<2147483648)
  (F2:E+4<=t.size->Hid (∀ W,Calls Tryz.prog 100 #[.string (t.extract (i+4) E)] W fun r w'=>r = .returned (.int .i64 (C:Int))/\w'=W))
  (F3:E+4<=t.size->Hid (∀ W,Calls Tryz.prog 98 #[.string t,.int .i64 (E:Int),.int .i64 4] W fun r w'=>r = .returned (.int .i64 (M:Int))/\w'=W))
  (G2:E+4<=t.size->Hid (∀ W,ar W b f2 0 0 pv cv zv iv->Calls Tryz.prog 101 #[.pointer (some ⟨b,0,none⟩),.string kd,.string (t.extract (i+8) E)] W fun r w'=>∃ pv' cv',r = .returned (.int .i64 ((f2.ends (ty kd) (seg t (i+8) n)).2:Int))/\ar w' b (f2.ends (ty kd) (seg t (i+8) n)).1 0 0 pv' cv' zv iv/\Below b W w'))
  (HP:Hid (∀ W' pv' cv',ar W' b (lE f2 (ty kd) n (seg t (i+8) n) (decide (t.size<E+4)) (decide (C≠M))).f (lE f2 (ty kd) n (seg t (i+8) n) (decide (t.size<E+4)) (decide (C≠M))).err (if (lE f2 (ty kd) n (seg t (i+8) n) (decide (t.size<E+4)) (decide (C≠M))).err=0 then 0 else i+(lE f2 (ty kd) n (seg t (i+8) n) (decide (t.size<E+4)) (decide (C≠M))).at') pv' cv' zv iv->Below b w W'->P (.returned (.tuple #[.int .i64 ((i+(lE f2 (ty kd) n (seg t (i+8) n) (decide (t.size<E+4)) (decide (C≠M))).took:Nat):Int),.bool (decide ((lE f2 (ty kd) n (seg t (i+8) n) (decide (t.size<E+4)) (decide (C≠M))).took≠0))])) W')) :
  Code.wp Tryz.prog ((Tryz.f58.body.bind (qQ 22)).getD .skip) (bodyPost Tryz.prog Tryz.f58 P) ⟨#[.pointer (some ⟨b,0,none⟩),.string t,.int .i64 (i:Int),u3,u4,u5,u6,u7,u8,.string kd,rY,.int .i64 (E:Int),tX,uE,uC,sq,u16,sx,rX,o6,o5,o4,o3,o0,oZ,oY,oX,oW,oV,oU,oT,oS,u32,oR,oQ,oP,oO,oN,oM,oL,oK,oJ,oI,oH,oG,oF,oE,oD,oC,oB,oA,oz,oy,ox,ow,ou,ot,oq,oo,om,oj,oi,oh,og,u64,pW,pV,qu,qt,qq,qp,qo,qn,qm,ql,qk,qj,qi,qh,qg,qf,qz,qy,qx,rK,rJ,rI,rH,rG,rF,rE,rD,rC,rB,rA,rz,ry,ru,rq,rp,fh,eE,eB,ez,ey,ew,ev,eu,ej,eh,ed,dZ,dY,dX,dW,dV,dU,dT,dS,dR,dQ,dP,dO,dN,dM,dL,dK,dJ,dI,dH,dG,dF,dE,dD,dC,dB,dA,dz,dy,dx,fy,fx],[]⟩ w:=by
 conv=>arg 2;whnf
 have hblt:=h.out.lt;unfold lE at HP;by_cases c1:t.size<E+4
 ·have HP1:Hid (P (.returned (.tuple #[.int .i64 (i:Int),.bool false])) w):=by
   have:=HP.out w pv cv
   rw[if_pos (decide_eq_true c1)] at this;exact this h.out (Below.refl _ _)
  have ci:(t.size:Int)<(E:Int)+4:=by omega
  clear HP F2 F3 G2;go_wp2;exact Df HP1.out rfl
 have hE4:E+4<=t.size:=by omega
 have F2':=F2 hE4;have F3':=F3 hE4;have G2':=G2 hE4;rw[if_neg (by rw[decide_eq_false c1];decide)] at HP;clear F2 F3 G2;have ci:¬ (t.size:Int)<(E:Int)+4:=by omega
 have hiE:i+4<=E:=by omega
 have hiE8:i+8<=E:=by omega
 by_cases c2:C=M
 ·rw[if_neg (by rw[decide_eq_false (fun q=>q c2)];decide)] at HP
  have cm:((C:Int) != (M:Int))=false:=by rw[bne_eq_false_iff_eq];omega
  obtain ⟨f3,hf3⟩:∃ f3,f3=(f2.ends (ty kd) (seg t (i+8) n)).1:=⟨_,rfl⟩;obtain ⟨V,hV⟩:∃ V,V=(f2.ends (ty kd) (seg t (i+8) n)).2:=⟨_,rfl⟩;rw[<- hf3,<- hV] at HP G2';clear c1 c2 hf3;by_cases c3:V=0
  ·have HP1:Hid (∀ W' pv' cv',ar W' b f3 0 0 pv' cv' zv iv->Below b w W'->P (.returned (.tuple #[.int .i64 ((E+4:Nat):Int),.bool true])) W'):=fun W' pv' cv' a1 a2=>by
    have:=HP.out W' pv' cv'
    rw[if_neg (fun q=>q c3)] at this;have h2:=this a1 a2;rw[show i+(⟨f3,0,0,8+n+4⟩:Ch).took=E+4 by show i+(8+n+4)=_;omega] at h2;exact h2
   have cv0:((V:Int) != 0)=false:=by rw[bne_eq_false_iff_eq];omega
   clear HP hV c3 hE;go_wp2_with fail;refine (F2'.out _).mono ?_;rintro r w' ⟨rfl,hw⟩;subst w';go_wp2_with fail;refine (F3'.out _).mono ?_;rintro r w' ⟨rfl,hw⟩;subst w';go_wp2_with fail;refine (G2'.out _ h.out).mono ?_;rintro r w2 ⟨pv',cv',rfl,h2,hw2⟩;have HH:Hid _:=HP1.out w2 pv' cv' h2 hw2;clear h2 hw2 HP1;go_wp2;exact Df HH.out (by simp)
  ·have HP1:Hid (∀ W' pv' cv',ar W' b f3 V (E+3) pv' cv' zv iv->Below b w W'->P (.returned (.tuple #[.int .i64 (i:Int),.bool false])) W'):=fun W' pv' cv' a1 a2=>by
    have:=HP.out W' pv' cv'
    rw[if_pos c3] at this;refine this ?_ a2;show ar W' b f3 V (if V=0 then 0 else i+(8+n+3)) _ _ _ _
    rw[if_neg c3,show i+(8+n+3)=E+3 by omega];exact a1
   have cv0:((V:Int) != 0)=true:=by rw[bne_iff_ne];omega
   have e3:Hid (∀ W pv' cv',ar W b f3 0 0 pv' cv' zv iv->Calls Tryz.prog 57 #[.pointer (some ⟨b,0,none⟩),.int .i64 (V:Int),.int .i64 ((E:Int)+3)] W fun r w'=>r = .returned (.bool false)/\ar w' b f3 V (E+3) pv' cv' zv iv/\Fr1 b W w'):=fun W pv' cv' hW=>lN b f3 0 0 V (E+3) pv' cv' zv iv W hW
   clear HP hV c3 hE;go_wp2_with fail;refine (F2'.out _).mono ?_;rintro r w' ⟨rfl,hw⟩;subst w';go_wp2_with fail;refine (F3'.out _).mono ?_;rintro r w' ⟨rfl,hw⟩;subst w';go_wp2_with fail;refine (G2'.out _ h.out).mono ?_;rintro r w2 ⟨pv',cv',rfl,h2,hw2⟩;have hb2:=h2.lt;have HW2:Hid _:=hw2;have F:=e3.out w2 pv' cv' h2;have HF:Hid _:=F;clear h2 hw2 F e3;go_wp2_with fail;refine Calls.mono HF.out ?_;rintro r w3 ⟨rfl,h3,hw3⟩;have HH:Hid _:=HP1.out w3 pv' cv' h3 (HW2.out.trans ⟨hw3.os,hw3.tape,hw3.output,hw3.size,fun j hj=>hw3.block j (by omega) (by omega)⟩);clear h3 hw3 HP1;go_wp2;exact Df HH.out rfl
 ·rw[if_pos (decide_eq_true (show C≠M from c2))] at HP
  have HP1:Hid (∀ W',ar W' b f2 6 (E+3) pv cv zv iv->Below b w W'->P (.returned (.tuple #[.int .i64 (i:Int),.bool false])) W'):=fun W' a1 a2=>by
   refine HP.out W' pv cv ?_ a2;show ar W' b f2 6 (i+(8+n+3)) _ _ _ _
   rw[show i+(8+n+3)=E+3 by omega];exact a1
  have cm:((C:Int) != (M:Int))=true:=by rw[bne_iff_ne];omega
  have e3:Hid (∀ W,ar W b f2 0 0 pv cv zv iv->Calls Tryz.prog 57 #[.pointer (some ⟨b,0,none⟩),.int .i64 6,.int .i64 ((E:Int)+3)] W fun r w'=>r = .returned (.bool false)/\ar w' b f2 6 (E+3) pv cv zv iv/\Fr1 b W w'):=fun W hW=>lN b f2 0 0 6 (E+3) pv cv zv iv W hW
  clear c1 c2 HP hE G2';go_wp2_with fail;refine (F2'.out _).mono ?_;rintro r w' ⟨rfl,hw⟩;subst w';go_wp2_with fail;refine (F3'.out _).mono ?_;rintro r w' ⟨rfl,hw⟩;subst w';go_wp2_with fail;refine (e3.out _ h.out).mono ?_;rintro r w3 ⟨rfl,h3,hw3⟩;have HH:Hid _:=HP1.out w3 h3 ⟨hw3.os,hw3.tape,hw3.output,hw3.size,fun j hj=>hw3.block j (by omega) (by omega)⟩;clear h3 hw3 HP1;go_wp2;exact Df HH.out rfl
