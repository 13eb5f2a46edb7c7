import Derived.Test.YtgooinallljbpaaGreatDoorSh00
import Derived.Test.YtgooinallljbpaaGreatDoorSh09
set_option linter.all false
set_option maxRecDepth 100000
set_option maxHeartbeats 0
namespace Go.Proofs.YtgooinallljbpaaGreatDoor
open Go.RowKit Px Tryz
theorem Ox{Q:Exit->Act->World->Prop}{u2 u3 u4 u5 u8 NS J8 J7 My GH u16 J1 Gv wg we vZ vY vX vW vV vU vT vS vR vQ vP u32 vO vN vM vL vK vJ vI vH vG vF vE vD vC vB vA vy vx vw vv vu vt vr vq vo vn vm vj vi vh vg vf u64 xK xJ xI xH xG xF xE xD xC xB xA xz xy xx xw xv xu xt xr Bg Bf Be Bd Bc Bb Ba A9 A8 A7 A6 A5 A4 A3 A2 A1 nh ng nc na mZ mY mX mW mV mU mT mS mR mQ mP mO mN mM mL mK mJ mI mH mG mF mE mD mC mB mA mz mw mv mu mr mq mo mn mm ml pI pH pG rh ra qZ qY qX qW qV qU qT qS qR qQ qP qO qN qM qL qK qJ qI qH qG qF qE qD qC qB qA qz qy tn tm tj ti th tg tf tc sZ sY sX sW sV sU sT sS sR sQ sP sO sM sL sK sJ sI sH sG sF sE sD sC sB sA sx sw sv su sq so sn sj si sh sg sf rZ rY pF pE pD pC pB pA pz pq pn pj pg pe pd oZ oY oX oW oV oU oT jI jH jG jF jE jD jC jB jA jz jy jx jw jv ju jt js jr jq jo jn jm jl jk jj ji jh jg jf je jd jc jb ja iZ iY iX iW iV iU iT iS iR iQ iP iO iN iM iL iK iJ iI:Value}(fb sb mb gz gr co cr palN ST k prev:Nat)(h:Hd)(out:List One)(rows pre rs:List (Nat×Nat))(p n:Nat)(lv fv:Value)(ls:List Ln)(up:Nat->Nat)(w3 w:World)(HE:Z (OfE w3 fb sb mb gz gr co cr palN ST h out rows))(HL:Z (OfL h (palN/3) out rows w3 w mb k lv fv ls pre ((p,n)::rs) prev up))(hlt:Z (aN h pre<out.length))(hQn:Z (∀v4 A0 zd xq tx rL tw qv rK De Dd Db Da C9 C8 C7 C6 C5 C3 C2 C1 CZ CY CX CW oS oR oQ oP oO oN oM oL oK oJ oI oH oG oF oE oD oC oB oA oz oy ox ow ou ot oq oo oj oi oh og oe od oc ob oa nZ nY nX nW ky kv ku ix iw iu ir il ik ij ig ie ic ib ia hZ hJ hI hC gZ gY gW gV gU gT gS gR gQ gP gO gN gM gK fU fT fS fR fQ fP fO fN fM fK fJ fI fH fG fF fE fD fC fB fA fy fx fw fu ft fq fp fo fm fj fi fh fg ff fe fc fa eZ eY eX eW eV eU eT eS eR eQ kq km kj kh kg ke jZ jY jX jW jV jU jT jS jR jQ jP jO jN jM W' lv' fv' ls' prev' up',OfL h (palN/3) out rows w3 W' mb (k+1) lv' fv' ls' (pre++[(p,n)]) rs prev' up'->Q .normal ⟨#[.pointer (some ⟨fb,0,none⟩),.pointer (some ⟨sb,0,none⟩),u2,u3,v4,u5,.pointer (some ⟨mb,0,none⟩),.slice (some ⟨gr,0,none⟩) rows.length cr,u8,.int .i64 ST,.int .i64 k,A0,zd,xq,tx,rL,tw,qv,rK,wg,we,vZ,vY,vX,vW,vV,vU,vT,vS,vR,vQ,vP,u32,vO,vN,vM,vL,vK,vJ,vI,vH,vG,vF,vE,vD,vC,vB,vA,vy,vx,vw,vv,vu,vt,vr,vq,vo,vn,vm,vj,vi,vh,vg,vf,u64,xK,xJ,xI,xH,xG,xF,xE,xD,xC,xB,xA,xz,xy,xx,xw,xv,xu,xt,xr,De,Dd,Db,Da,C9,C8,C7,C6,C5,C3,C2,C1,CZ,CY,CX,CW,oS,oR,oQ,oP,oO,oN,oM,oL,oK,oJ,oI,oH,oG,oF,oE,oD,oC,oB,oA,oz,oy,ox,ow,ou,ot,oq,oo,oj,oi,oh,og,oe,od,oc,ob,oa,nZ,nY,nX,nW,ky,kv,ku,ix,iw,iu,ir,il,ik,ij,ig,ie,ic,ib,ia,hZ,hJ,hI,hC,gZ,gY,gW,gV,gU,gT,gS,gR,gQ,gP,gO,gN,gM,gK,fU,fT,fS,fR,fQ,fP,fO,fN,fM,fK,fJ,fI,fH,fG,fF,fE,fD,fC,fB,fA,fy,fx,fw,fu,ft,fq,fp,fo,fm,fj,fi,fh,fg,ff,fe,fc,fa,eZ,eY,eX,eW,eV,eU,eT,eS,eR,eQ,kq,km,kj,kh,kg,ke,jZ,jY,jX,jW,jV,jU,jT,jS,jR,jQ,jP,jO,jN,jM,jI,jH,jG,jF,jE,jD,jC,jB,jA,jz,jy,jx,jw,jv,ju,jt,js,jr,jq,jo,jn,jm,jl,jk,jj,ji,jh,jg,jf,je,jd,jc,jb,ja,iZ,iY,iX,iW,iV,iU,iT,iS,iR,iQ,iP,iO,iN,iM,iL,iK,iJ,iI],[]⟩ W'))(hQb:Z (∀v4 A0 zd xq tx rL tw qv rK De Dd Db Da C9 C8 C7 C6 C5 C3 C2 C1 CZ CY CX CW oS oR oQ oP oO oN oM oL oK oJ oI oH oG oF oE oD oC oB oA oz oy ox ow ou ot oq oo oj oi oh og oe od oc ob oa nZ nY nX nW ky kv ku ix iw iu ir il ik ij ig ie ic ib ia hZ hJ hI hC gZ gY gW gV gU gT gS gR gQ gP gO gN gM gK fU fT fS fR fQ fP fO fN fM fK fJ fI fH fG fF fE fD fC fB fA fy fx fw fu ft fq fp fo fm fj fi fh fg ff fe fc fa eZ eY eX eW eV eU eT eS eR eQ kq km kj kh kg ke jZ jY jX jW jV jU jT jS jR jQ jP jO jN jM W' im,OfZ h (palN/3) out rows w3 W' mb ls im->Q (.exit 0) ⟨#[.pointer (some ⟨fb,0,none⟩),.pointer (some ⟨sb,0,none⟩),u2,u3,v4,u5,.pointer (some ⟨mb,0,none⟩),.slice (some ⟨gr,0,none⟩) rows.length cr,u8,.int .i64 ST,.int .i64 k,A0,zd,xq,tx,rL,tw,qv,rK,wg,we,vZ,vY,vX,vW,vV,vU,vT,vS,vR,vQ,vP,u32,vO,vN,vM,vL,vK,vJ,vI,vH,vG,vF,vE,vD,vC,vB,vA,vy,vx,vw,vv,vu,vt,vr,vq,vo,vn,vm,vj,vi,vh,vg,vf,u64,xK,xJ,xI,xH,xG,xF,xE,xD,xC,xB,xA,xz,xy,xx,xw,xv,xu,xt,xr,De,Dd,Db,Da,C9,C8,C7,C6,C5,C3,C2,C1,CZ,CY,CX,CW,oS,oR,oQ,oP,oO,oN,oM,oL,oK,oJ,oI,oH,oG,oF,oE,oD,oC,oB,oA,oz,oy,ox,ow,ou,ot,oq,oo,oj,oi,oh,og,oe,od,oc,ob,oa,nZ,nY,nX,nW,ky,kv,ku,ix,iw,iu,ir,il,ik,ij,ig,ie,ic,ib,ia,hZ,hJ,hI,hC,gZ,gY,gW,gV,gU,gT,gS,gR,gQ,gP,gO,gN,gM,gK,fU,fT,fS,fR,fQ,fP,fO,fN,fM,fK,fJ,fI,fH,fG,fF,fE,fD,fC,fB,fA,fy,fx,fw,fu,ft,fq,fp,fo,fm,fj,fi,fh,fg,ff,fe,fc,fa,eZ,eY,eX,eW,eV,eU,eT,eS,eR,eQ,kq,km,kj,kh,kg,ke,jZ,jY,jX,jW,jV,jU,jT,jS,jR,jQ,jP,jO,jN,jM,jI,jH,jG,jF,jE,jD,jC,jB,jA,jz,jy,jx,jw,jv,ju,jt,js,jr,jq,jo,jn,jm,jl,jk,jj,ji,jh,jg,jf,je,jd,jc,jb,ja,iZ,iY,iX,iW,iV,iU,iT,iS,iR,iQ,iP,iO,iN,iM,iL,iK,iJ,iI],[]⟩ W'))(hQr:Z (∀A0 zd xq tx rL tw qv rK De Dd Db Da C9 C8 C7 C6 C5 C3 C2 C1 CZ CY CX CW oS oR oQ oP oO oN oM oL oK oJ oI oH oG oF oE oD oC oB oA oz oy ox ow ou ot oq oo oj oi oh og oe od oc ob oa nZ nY nX nW ky kv ku ix iw iu ir il ik ij ig ie ic ib ia hZ hJ hI hC gZ gY gW gV gU gT gS gR gQ gP gO gN gM gK fU fT fS fR fQ fP fO fN fM fK fJ fI fH fG fF fE fD fC fB fA fy fx fw fu ft fq fp fo fm fj fi fh fg ff fe fc fa eZ eY eX eW eV eU eT eS eR eQ kq km kj kh kg ke jZ jY jX jW jV jU jT jS jR jQ jP jO jN jM W',OfR h (palN/3) out rows w3 W' mb->Q .ret ⟨#[.pointer (some ⟨fb,0,none⟩),.pointer (some ⟨sb,0,none⟩),u2,u3,.pointer (some ⟨mb,0,none⟩),u5,.pointer (some ⟨mb,0,none⟩),.slice (some ⟨gr,0,none⟩) rows.length cr,u8,.int .i64 ST,.int .i64 k,A0,zd,xq,tx,rL,tw,qv,rK,wg,we,vZ,vY,vX,vW,vV,vU,vT,vS,vR,vQ,vP,u32,vO,vN,vM,vL,vK,vJ,vI,vH,vG,vF,vE,vD,vC,vB,vA,vy,vx,vw,vv,vu,vt,vr,vq,vo,vn,vm,vj,vi,vh,vg,vf,u64,xK,xJ,xI,xH,xG,xF,xE,xD,xC,xB,xA,xz,xy,xx,xw,xv,xu,xt,xr,De,Dd,Db,Da,C9,C8,C7,C6,C5,C3,C2,C1,CZ,CY,CX,CW,oS,oR,oQ,oP,oO,oN,oM,oL,oK,oJ,oI,oH,oG,oF,oE,oD,oC,oB,oA,oz,oy,ox,ow,ou,ot,oq,oo,oj,oi,oh,og,oe,od,oc,ob,oa,nZ,nY,nX,nW,ky,kv,ku,ix,iw,iu,ir,il,ik,ij,ig,ie,ic,ib,ia,hZ,hJ,hI,hC,gZ,gY,gW,gV,gU,gT,gS,gR,gQ,gP,gO,gN,gM,gK,fU,fT,fS,fR,fQ,fP,fO,fN,fM,fK,fJ,fI,fH,fG,fF,fE,fD,fC,fB,fA,fy,fx,fw,fu,ft,fq,fp,fo,fm,fj,fi,fh,fg,ff,fe,fc,fa,eZ,eY,eX,eW,eV,eU,eT,eS,eR,eQ,kq,km,kj,kh,kg,ke,jZ,jY,jX,jW,jV,jU,jT,jS,jR,jQ,jP,jO,jN,jM,jI,jH,jG,jF,jE,jD,jC,jB,jA,jz,jy,jx,jw,jv,ju,jt,js,jr,jq,jo,jn,jm,jl,jk,jj,ji,jh,jg,jf,je,jd,jc,jb,ja,iZ,iY,iX,iW,iV,iU,iT,iS,iR,iQ,iP,iO,iN,iM,iL,iK,iJ,iI],[]⟩ W')):Code.wp prog ((f42.body.bind (dN 1)).getD .skip) Q ⟨#[.pointer (some ⟨fb,0,none⟩),.pointer (some ⟨sb,0,none⟩),u2,u3,u4,u5,.pointer (some ⟨mb,0,none⟩),.slice (some ⟨gr,0,none⟩) rows.length cr,u8,.int .i64 ST,.int .i64 k,NS,J8,J7,My,GH,u16,J1,Gv,wg,we,vZ,vY,vX,vW,vV,vU,vT,vS,vR,vQ,vP,u32,vO,vN,vM,vL,vK,vJ,vI,vH,vG,vF,vE,vD,vC,vB,vA,vy,vx,vw,vv,vu,vt,vr,vq,vo,vn,vm,vj,vi,vh,vg,vf,u64,xK,xJ,xI,xH,xG,xF,xE,xD,xC,xB,xA,xz,xy,xx,xw,xv,xu,xt,xr,Bg,Bf,Be,Bd,Bc,Bb,Ba,A9,A8,A7,A6,A5,A4,A3,A2,A1,nh,ng,nc,na,mZ,mY,mX,mW,mV,mU,mT,mS,mR,mQ,mP,mO,mN,mM,mL,mK,mJ,mI,mH,mG,mF,mE,mD,mC,mB,mA,mz,mw,mv,mu,mr,mq,mo,mn,mm,ml,pI,pH,pG,rh,ra,qZ,qY,qX,qW,qV,qU,qT,qS,qR,qQ,qP,qO,qN,qM,qL,qK,qJ,qI,qH,qG,qF,qE,qD,qC,qB,qA,qz,qy,tn,tm,tj,ti,th,tg,tf,tc,sZ,sY,sX,sW,sV,sU,sT,sS,sR,sQ,sP,sO,sM,sL,sK,sJ,sI,sH,sG,sF,sE,sD,sC,sB,sA,sx,sw,sv,su,sq,so,sn,sj,si,sh,sg,sf,rZ,rY,pF,pE,pD,pC,pB,pA,pz,pq,pn,pj,pg,pe,pd,oZ,oY,oX,oW,oV,oU,oT,jI,jH,jG,jF,jE,jD,jC,jB,jA,jz,jy,jx,jw,jv,ju,jt,js,jr,jq,jo,jn,jm,jl,jk,jj,ji,jh,jg,jf,je,jd,jc,jb,ja,iZ,iY,iX,iW,iV,iU,iT,iS,iR,iQ,iP,iO,iN,iM,iL,iK,iJ,iI],[]⟩ w:=by
 conv=>arg 2;whnf
 have hF:=HL.o.img.fr;obtain⟨hnx,hpL,hcol,hlin,hprev⟩:=tV HL.o.pos;have hkl:=HL.o.len;have hsl:rows.length=k+(rs.length+1):=by rw[HL.o.split,Xv,hkl];rfl
 have hOW:=aU HE.o.rw hF (λg hg e=>by have:=(HE.o.rw.lt g hg).1;omega);have hrk:rows[k]? = some (p,n):=by rw[HL.o.split,XP O,hkl,YC];rfl
 have htk:rows.take k=pre:=by rw[HL.o.split,<-hkl];simp
 have hrc:=pP h rows 0 k p n hrk;rw[XD,htk] at hrc;have hrx:∀j u,(gh h rows 0)[k*5+j]? = some u->w.cell? ⟨gr,k*5+j,none⟩=some u:=λj u hu=>by
  have:=hOW.cells rfl (k*5+j) u hu
  have e:(Addr.add ⟨gr,0,none⟩ (k*5+j))=⟨gr,k*5+j,none⟩:=by simp[Addr.add];omega
  rw[e] at this;exact this
 have r0:=hrx 0 _ hrc.1;rw[X5] at r0;have r1:=hrx 1 _ hrc.2.1;have r2:=hrx 2 _ hrc.2.2.1;have r3:=hrx 3 _ hrc.2.2.2.1;have r4:=hrx 4 _ hrc.2.2.2.2;have htot:=HE.o.tot;have hsp:aN h rows=aN h pre+(1+aC h p+aN h rs):=by rw[HL.o.split,kA,aN]
 obtain⟨FR,hFR⟩:∃FR,FR=aN h pre:=⟨_,rfl⟩;obtain⟨SZ,hSZ⟩:∃SZ,SZ=aC h p:=⟨_,rfl⟩;obtain⟨CL,hCL⟩:∃CL,CL=bd h p:=⟨_,rfl⟩;have hcl16:CL<=16:=by rw[hCL];exact ed (bK _ _).2.1 HE.o.W
 rw[<-hFR] at r2 hsp;rw[<-hCL] at r3;rw[<-hSZ] at r4 hsp;have hlt':=hlt.o;rw[<-hFR] at hlt';have b1:SZ<=40000:=O;have b1':SZ<=1000:=by
  have hD16:h.D<=16:=by have:=HE.o.D;unfold okD at this;omega
  have h1:bd h p*bo h<=16*64:=XF (by rw[<-hCL];exact hcl16) (XF (ev _) hD16);rw[hSZ];unfold aC;omega
 have b2:FR<=40000:=O;have hn16:n<=16:=by
  have:dt h p<=16:=ed (bK _ _).2.2.2.2.2.1 HE.o.H
  omega
 have hk1:(k:Int)<(rows.length:Int):=O;have hk2:(0:Int)<=(k:Int):=O;have HFR:Z _:=hFR;have HSZ:Z _:=hSZ;have HCL:Z _:=hCL;have s0:=(hF.cell (B _ _ HE.o.s0) HE.o.n2).trans HE.o.s0;have HZ:=HE.o.z.fr hF (λg hg e=>by injection hg with hg;simp at hg;have:=HE.o.n3;omega);obtain⟨g,hg,z0,z1⟩:=HZ.cells _ _ rfl FR O
 injection hg with hg
 injection hg with hg
 subst hg;obtain⟨t,ht⟩:∃t,t=vAt out FR:=⟨_,rfl⟩;obtain⟨A,hA⟩:∃A,A=pAt out FR:=⟨_,rfl⟩;rw[<-ht] at z0;rw[<-hA] at z1;have HT:Z _:=ht;have HA:Z _:=hA;have hFRl:(FR:Int)<(out.length:Int):=O;have hFRn:(0:Int)<=(FR:Int):=O;have hcolc:=hcol;have hprevc:=hprev;rw[hCL.symm] at hcolc;clear hrx hrc hOW htk hrk hFR hSZ hCL hsl ht hA htot hsp HZ hnx hprev hlin hcol hpL hkl hF hlt';have hrl:=HE.o.rl;generalize rows.length=RL at *;have hbits:1<=SZ:=by
  have h1:=HE.o.bits;have h2:=XF (show 1<=CL from O) h1;have h3:=HSZ.o;unfold aC at h3;rw[<-HCL.o] at h3;omega
 clear hcolc;have C0:Z (∀W,W=w.alloc (.cells #[.int .i64 p,.int .i64 n,.int .i64 FR,.int .i64 CL,.int .i64 SZ] 146)->Kept w W/\W.cell? ⟨w.heap.size,1,none⟩=some (.int .i64 n)/\W.cell? ⟨w.heap.size,2,none⟩=some (.int .i64 FR)/\W.cell? ⟨w.heap.size,3,none⟩=some (.int .i64 CL)/\W.cell? ⟨w.heap.size,4,none⟩=some (.int .i64 SZ)):=λW e=>by
  rw[e];refine⟨Xw (Xs _ _) (E _) _,?_,?_,?_,?_⟩<;>exact(Xr _ _ _ _ rfl).trans rfl
 go_upto_region 10 with fail
 generalize hw0:w.alloc (.cells #[.int .i64 p,.int .i64 n,.int .i64 FR,.int .i64 CL,.int .i64 SZ] 146)=w0 at *;obtain⟨hk0,y1,y2,y3,y4⟩:=C0.o w0 rfl;have K0:Z (Kept w w0):=hk0;obtain⟨rb,hrb⟩:∃rb,rb=w.heap.size:=⟨_,rfl⟩;rw[<-hrb] at y1 y2 y3 y4 ⊢;have HRB:Z _:=hrb;have hrb0:=B _ _ y1;have lsb:=B _ _ s0;have lgz:=B _ _ z0;have x0:=(hk0.cell (p:=⟨sb,0,none⟩) lsb).trans s0;have xz0:=(hk0.cell (p:=⟨gz,FR*2,none⟩) lgz).trans z0;have HZ1:Z (∀W,Kept w W->W.cell? ⟨gz,FR*2+1,none⟩=some (.int .i64 A)/\W.cell? ⟨sb,0,none⟩=some (.slice (some ⟨gz,0,none⟩) out.length co)):=λW k=>⟨(k.cell (p:=⟨gz,FR*2+1,none⟩) lgz).trans z1,(k.cell (p:=⟨sb,0,none⟩) lsb).trans s0⟩
 have HR:Z (∀W,Kept w0 W->W.cell? ⟨rb,1,none⟩=some (.int .i64 n)/\W.cell? ⟨rb,2,none⟩=some (.int .i64 FR)/\W.cell? ⟨rb,3,none⟩=some (.int .i64 CL)/\W.cell? ⟨rb,4,none⟩=some (.int .i64 SZ)):=λW k=>⟨(k.cell (p:=⟨rb,1,none⟩) hrb0).trans y1,(k.cell (p:=⟨rb,2,none⟩) hrb0).trans y2,(k.cell (p:=⟨rb,3,none⟩) hrb0).trans y3,(k.cell (p:=⟨rb,4,none⟩) hrb0).trans y4⟩
 clear C0 r0 r1 r2 r3 r4 s0 z0 z1 hk0 hw0 hrb y1 y3 y4;go_quiet (fail);obtain⟨w2,hw2⟩:∃w2,w2=w0.drewN nq:=⟨_,rfl⟩;rw[<-hw2];have K2:Z (Kept w0 w2):=by rw[hw2];exact(Kept.refl _).drewN nq
 clear hw2 x0 xz0 y2;obtain⟨y1,y2,y3,y4⟩:=HR.o w2 K2.o;obtain⟨xz1,x0⟩:=HZ1.o w2 (K0.o.trans K2.o);have HI:Z _:=HL.o.img.kept (K0.o.trans K2.o);have m5:=HI.o.c5;have mf:=HI.o.fz;have n2:=HE.o.n2;have n3:=HE.o.n3;have n4:rb≠mb:=by
  have h1:=HI.o.lt;have h2:=HL.o.img.fr.size
  have:=HRB.o
  omega
 by_cases c4:4<t
 .have ci:(4:Int)<(t:Int):=O
  have k0:=(aA (b:=mb) w2 5 0 (.int .i64 15) n2).trans x0;have k2:=(aA (b:=mb) w2 5 2 (.int .i64 15) n4).trans y2;have kz:=(aA (b:=mb) w2 5 (FR*2+1) (.int .i64 15) n3).trans xz1;have k6:(w2.setCell ⟨mb,5,none⟩ (.int .i64 15)).cell? ⟨mb,6,none⟩=some (.int .i64 0):=(aa _ _ _ _ _ O).trans HI.o.c6;have HB:Z _:=c4;clear c4 y1 y3 y4;go_wp2_with fail;go_region_held3 (λW=>W.cell? ⟨sb,0,none⟩=some (.slice (some ⟨gz,0,none⟩) out.length co)/\W.cell? ⟨rb,2,none⟩=some (.int .i64 FR)/\W.cell? ⟨gz,FR*2+1,none⟩=some (.int .i64 A)) (first|exact⟨k0,k2,kz⟩|exact⟨(aA _ _ _ _ O).trans k0,(aA _ _ _ _ O).trans k2,(aA _ _ _ _ O).trans kz⟩|go_keep) (fail)
  go_wp2_with fail;refine hQr.o _ _ _ _ _ _ _ _ _ _ _ _ _ _ _ _ _ _ _ _ _ _ _ _ _ _ _ _ _ _ _ _ _ _ _ _ _ _ _ _ _ _ _ _ _ _ _ _ _ _ _ _ _ _ _ _ _ _ _ _ _ _ _ _ _ _ _ _ _ _ _ _ _ _ _ _ _ _ _ _ _ _ _ _ _ _ _ _ _ _ _ _ _ _ _ _ _ _ _ _ _ _ _ _ _ _ _ _ _ _ _ _ _ _ _ _ _ _ _ _ _ _ _ _ _ _ _ _ _ _ _ _ _ _ _ _ _ _ _ _ _ _ _ _ _ _ _ _ _ _ _ _ _ _ _ _ _ _ _ _ _ _ _ _ _ ⟨ls,15,A,?_,((HI.o.fin.set5 15).set6 A).kept ((Kept.refl _).drewN 1),HL.o.sz⟩;have q:=HL.o.eq;rw[et out _ hlt.o,aH,I (by show 4<vAt out (aN h pre);rw[<-HFR.o,<-HT.o];exact HB.o)] at q;rw[q,HA.o,HFR.o];show ImR.bad (ls.map Ln.x++[]) 15 _=_
  rw[XN]
 .have ci:¬(4:Int)<(t:Int):=O
  have hFS:Z _:=c4;clear c4;obtain⟨PS,hPS⟩:∃PS,PS=FR+SZ:=⟨_,rfl⟩;by_cases c5:out.length<=FR+SZ
  .have ci5:(out.length:Int)<=(FR:Int)+(SZ:Int):=O
   have HB:Z _:=c5;clear c5 hPS;go_wp2_with fail;go_quiet (fail);go_wp2_with fail;obtain⟨im,him⟩:=HL.o.cut (w2.drewN nq) (HI.o.kept ((Kept.refl _).drewN nq)).fin (R ⟨hlt.o,by rw[<-HFR.o,<-HT.o];exact Nat.le_of_not_lt hFS.o,by rw[<-HFR.o,<-HSZ.o];exact HB.o⟩);exact hQb.o _ _ _ _ _ _ _ _ _ _ _ _ _ _ _ _ _ _ _ _ _ _ _ _ _ _ _ _ _ _ _ _ _ _ _ _ _ _ _ _ _ _ _ _ _ _ _ _ _ _ _ _ _ _ _ _ _ _ _ _ _ _ _ _ _ _ _ _ _ _ _ _ _ _ _ _ _ _ _ _ _ _ _ _ _ _ _ _ _ _ _ _ _ _ _ _ _ _ _ _ _ _ _ _ _ _ _ _ _ _ _ _ _ _ _ _ _ _ _ _ _ _ _ _ _ _ _ _ _ _ _ _ _ _ _ _ _ _ _ _ _ _ _ _ _ _ _ _ _ _ _ _ _ _ _ _ _ _ _ _ _ _ _ _ _ _ im him
  .have ci5:¬(out.length:Int)<=(FR:Int)+(SZ:Int):=O
   have HB:Z (FR+SZ<out.length):=by show _<_;omega
   clear c5 hPS;go_wp2_with fail;go_quiet (fail);obtain⟨w4,hw4⟩:∃w4,w4=w2.drewN nq:=⟨_,rfl⟩;rw[<-hw4];have K4:Z (Kept w2 w4):=by rw[hw4];exact(Kept.refl _).drewN nq
   clear hw4 x0 xz1 y1 y2 y3 y4 m5 mf;have K04:Z (Kept w0 w4):=K2.o.trans K4.o;obtain⟨y1,y2,y3,y4⟩:=HR.o w4 K04.o;have hmk:=uw w4 SZ O;obtain⟨w5,hw5⟩:∃w5,w5=w4.alloc (.cells (madeCells #[Value.int .i64 0] SZ) 3):=⟨_,rfl⟩;rw[<-hw5] at hmk;have K5:Z (Kept w4 w5):=by rw[hw5];exact Xw (Xs _ _) (E _) _
   have L5:Z (dS w5 w4.heap.size SZ (λ_=>0)):=by rw[hw5];exact DG w4 SZ
   have s5:Z (w5.heap.size=w4.heap.size+1):=by show _=_;rw[hw5];simp
   clear hw5;have K05:Z (Kept w0 w5):=K04.o.trans K5.o;obtain⟨y1',y2',y3',y4'⟩:=HR.o w5 K05.o;have HI5:Z _:=(HI.o.kept K4.o).kept K5.o;have c3:=HI5.o.c3;have hll:=HL.o.lenl;have HP:Z (0<n->prev=SZ):=λq=>by show _=_;rw[HSZ.o];exact hprevc q
   clear hprevc;go_upto_if 131 with fail
   go_cut [13] from 132 to 139 (λxq W=>∃gu cu,xq=.slice (some ⟨gu,0,none⟩) SZ cu/\dS W gu SZ (if n=0 then λ_=>0 else up)/\gu<w5.heap.size/\W=w5)
   case first=>
    by_cases cn:n=0
    .subst cn
     go_wp2_with fail;go_meet
     case rel=>exact⟨w4.heap.size,SZ,rfl,L5.o,by rw[s5.o];omega,rfl⟩
    .have hn0:(0:Int)<(n:Int):=O
     have hpv:=HP.o O;obtain⟨a,ha,hk0',han,hax⟩:=HL.o.last O;obtain⟨k',hk'⟩:∃k',k'=k-1:=⟨_,rfl⟩;have kn:(0:Int)<=(k':Int):=O;have ki:(k:Int)-1=(k':Int):=O;have kl:(k':Int)<(k:Int):=O;have hown:=HI5.o.own;rcases hown.2 with⟨hv,h0⟩|⟨gl,cap,cur,hv,hgl,rr⟩
     .exfalso;omega
     .have hlc:=hown.cells (show lv.ownBlock=some gl by rw[hv];rfl) k' (lnV a) (by rw[XQ];rw[<-hk'] at ha;rw[ha];rfl)
      have e:(Addr.add ⟨gl,0,none⟩ k')=⟨gl,k',none⟩:=by simp[Addr.add];omega
      rw[e] at hlc;rw[hv] at c3;rw[hll] at c3;unfold lnV at hlc;have hln:=(HI5.o.ln a (X8 ha));have HRE:Z (dS w5 a.g SZ (if n=0 then λ_=>0 else up)/\a.g<w5.heap.size):=by
       rw[N cn,<-hax,<-hpv,<-han];exact⟨hln.1,hln.2.2.1⟩
      rw[han,hpv] at hlc;clear hln hown rr hgl ha hax han hpv hk' hv;go_wp2_with fail;go_meet
      case rel=>exact⟨a.g,SZ,rfl,HRE.o.1,HRE.o.2,rfl⟩
   case rest=>
    obtain⟨gu,cu,rfl,hU,hgu,rfl⟩:=hcut;have HU:Z _:=hU;go_step;refine No fb sb mb gz gr co cr palN ST k prev h out rows pre rs p n lv fv ls up w3 w wc rb gu cu t FR SZ CL HE HL hlt HI5 n4 y2' y3' y4' HU hgu HFR HSZ HCL HT (Nat.le_of_not_lt hFS.o) HB b1' b2 hcl16 hbits ?_ ?_
    .intro v4 tx rL tw qv rK ky kv ku ix iw iu ir il ik ij ig ie ic ib ia hZ hJ hI hC gZ gY gW gV gU gT gS gR gQ gP gO gN gM gK fU fT fS fR fQ fP fO fN fM fK fJ fI fH fG fF fE fD fC fB fA fy fx fw fu ft fq fp fo fm fj fi fh fg ff fe fc fa eZ eY eX eW eV eU eT eS eR eQ kq km kj kh kg ke jZ jY jX jW jV jU jT jS jR jQ jP jO jN jM W' lv' fv' ls' prev' up' hn'
     exact hQn.o _ _ _ _ _ _ _ _ _ _ _ _ _ _ _ _ _ _ _ _ _ _ _ _ _ _ _ _ _ _ _ _ _ _ _ _ _ _ _ _ _ _ _ _ _ _ _ _ _ _ _ _ _ _ _ _ _ _ _ _ _ _ _ _ _ _ _ _ _ _ _ _ _ _ _ _ _ _ _ _ _ _ _ _ _ _ _ _ _ _ _ _ _ _ _ _ _ _ _ _ _ _ _ _ _ _ _ _ _ _ _ _ _ _ _ _ _ _ _ _ _ _ _ _ _ _ _ _ _ _ _ _ _ _ _ _ _ _ _ _ _ _ _ _ _ _ _ _ _ _ _ _ _ _ _ _ _ _ _ _ _ _ _ _ _ _ _ _ _ _ _ hn'
    .intro tx rL tw qv rK ky kv ku ix iw iu ir il ik ij ig ie ic ib ia hZ hJ hI hC gZ gY gW gV gU gT gS gR gQ gP gO gN gM gK fU fT fS fR fQ fP fO fN fM fK fJ fI fH fG fF fE fD fC fB fA fy fx fw fu ft fq fp fo fm fj fi fh fg ff fe fc fa eZ eY eX eW eV eU eT eS eR eQ kq km kj kh kg ke jZ jY jX jW jV jU jT jS jR jQ jP jO jN jM W' hr'
     exact hQr.o _ _ _ _ _ _ _ _ _ _ _ _ _ _ _ _ _ _ _ _ _ _ _ _ _ _ _ _ _ _ _ _ _ _ _ _ _ _ _ _ _ _ _ _ _ _ _ _ _ _ _ _ _ _ _ _ _ _ _ _ _ _ _ _ _ _ _ _ _ _ _ _ _ _ _ _ _ _ _ _ _ _ _ _ _ _ _ _ _ _ _ _ _ _ _ _ _ _ _ _ _ _ _ _ _ _ _ _ _ _ _ _ _ _ _ _ _ _ _ _ _ _ _ _ _ _ _ _ _ _ _ _ _ _ _ _ _ _ _ _ _ _ _ _ _ _ _ _ _ _ _ _ _ _ _ _ _ _ _ _ _ _ _ _ _ hr'
structure Mk (w3:World) (fb sb mb co cr palN ST:Nat) (po pr:Option Addr) (h:Hd) (out:List One) (rows:List (Nat×Nat)):Prop where
 fd:tt w3 fb h palN
 s0:w3.cell? ⟨sb,0,none⟩=some (.slice po out.length co)
 z:ZAt w3 (.slice po out.length co) out
 rw:w3.ownsRow (mb+1) 146 5 (.slice pr rows.length cr) rows.length (gh h rows 0)
 n1:fb≠mb
 n2:sb≠mb
 n3:∀a,po=some a->a.block≠mb
 ol:out.length<=4294967296
 by':dx out
 pal:palN<=1048576
 st:ST=bZ h
 st1:1<=ST
 st8:ST<=8
 W:h.W<=16
 H:h.H<=16
 D:okD h.D
 bits:1<=bo h
 rl:rows.length<=200
 tot:aN h rows<=200*200
theorem Mk.get{w3 fb sb mb co cr palN ST gz gr h out rows}(k:Mk w3 fb sb mb co cr palN ST (some ⟨gz,0,none⟩) (some ⟨gr,0,none⟩) h out rows)(a:gz<w3.heap.size):OfE w3 fb sb mb gz gr co cr palN ST h out rows:=
 ⟨k.fd,k.s0,k.z,k.rw,k.n1,k.n2,k.n3 _ rfl,a,k.ol,k.by',k.pal,k.st,k.st1,k.st8,k.W,k.H,k.D,k.bits,k.rl,k.tot⟩
theorem Oy{Q:Exit->Act->World->Prop}{u2 u3 u4 u5 u8 NS J8 J7 My GH u16 J1 Gv wg we vZ vY vX vW vV vU vT vS vR vQ vP u32 vO vN vM vL vK vJ vI vH vG vF vE vD vC vB vA vy vx vw vv vu vt vr vq vo vn vm vj vi vh vg vf u64 xK xJ xI xH xG xF xE xD xC xB xA xz xy xx xw xv xu xt xr Bg Bf Be Bd Bc Bb Ba A9 A8 A7 A6 A5 A4 A3 A2 A1 nh ng nc na mZ mY mX mW mV mU mT mS mR mQ mP mO mN mM mL mK mJ mI mH mG mF mE mD mC mB mA mz mw mv mu mr mq mo mn mm ml pI pH pG rh ra qZ qY qX qW qV qU qT qS qR qQ qP qO qN qM qL qK qJ qI qH qG qF qE qD qC qB qA qz qy tn tm tj ti th tg tf tc sZ sY sX sW sV sU sT sS sR sQ sP sO sM sL sK sJ sI sH sG sF sE sD sC sB sA sx sw sv su sq so sn sj si sh sg sf rZ rY pF pE pD pC pB pA pz pq pn pj pg pe pd oZ oY oX oW oV oU oT jI jH jG jF jE jD jC jB jA jz jy jx jw jv ju jt js jr jq jo jn jm jl jk jj ji jh jg jf je jd jc jb ja iZ iY iX iW iV iU iT iS iR iQ iP iO iN iM iL iK iJ iI:Value}(fb sb mb co cr palN ST:Nat)(po pr:Option Addr)(h:Hd)(out:List One)(rows:List (Nat×Nat))(w3:World)(HE:Z (Mk w3 fb sb mb co cr palN ST po pr h out rows))(HL0:Z (OfL h (palN/3) out rows w3 w3 mb 0 (.slice none 0 0) (.slice none 0 0) [] [] rows 0 (λ_=>0)))(hQn:Z (∀v4 J0 A0 zd xq tx rL tw qv rK NQ NP NO NN NM NL NK NJ NI NH NG NF ND NC NB NA Nz Ny Nx De Dd Db Da C9 C8 C7 C6 C5 C3 C2 C1 CZ CY CX CW oS oR oQ oP oO oN oM oL oK oJ oI oH oG oF oE oD oC oB oA oz oy ox ow ou ot oq oo oj oi oh og oe od oc ob oa nZ nY nX nW ky kv ku ix iw iu ir il ik ij ig ie ic ib ia hZ hJ hI hC gZ gY gW gV gU gT gS gR gQ gP gO gN gM gK fU fT fS fR fQ fP fO fN fM fK fJ fI fH fG fF fE fD fC fB fA fy fx fw fu ft fq fp fo fm fj fi fh fg ff fe fc fa eZ eY eX eW eV eU eT eS eR eQ kq km kj kh kg ke jZ jY jX jW jV jU jT jS jR jQ jP jO jN jM W' ls im,OfZ h (palN/3) out rows w3 W' mb ls im->Q .normal ⟨#[.pointer (some ⟨fb,0,none⟩),.pointer (some ⟨sb,0,none⟩),u2,u3,v4,u5,.pointer (some ⟨mb,0,none⟩),.slice pr rows.length cr,u8,.int .i64 ST,J0,A0,zd,xq,tx,rL,tw,qv,rK,wg,we,vZ,vY,vX,vW,vV,vU,vT,vS,vR,vQ,vP,u32,vO,vN,vM,vL,vK,vJ,vI,vH,vG,vF,vE,vD,vC,vB,vA,vy,vx,vw,vv,vu,vt,vr,vq,vo,vn,vm,vj,vi,vh,vg,vf,u64,NQ,NP,NO,NN,NM,NL,NK,NJ,NI,NH,NG,NF,ND,NC,NB,NA,Nz,Ny,Nx,De,Dd,Db,Da,C9,C8,C7,C6,C5,C3,C2,C1,CZ,CY,CX,CW,oS,oR,oQ,oP,oO,oN,oM,oL,oK,oJ,oI,oH,oG,oF,oE,oD,oC,oB,oA,oz,oy,ox,ow,ou,ot,oq,oo,oj,oi,oh,og,oe,od,oc,ob,oa,nZ,nY,nX,nW,ky,kv,ku,ix,iw,iu,ir,il,ik,ij,ig,ie,ic,ib,ia,hZ,hJ,hI,hC,gZ,gY,gW,gV,gU,gT,gS,gR,gQ,gP,gO,gN,gM,gK,fU,fT,fS,fR,fQ,fP,fO,fN,fM,fK,fJ,fI,fH,fG,fF,fE,fD,fC,fB,fA,fy,fx,fw,fu,ft,fq,fp,fo,fm,fj,fi,fh,fg,ff,fe,fc,fa,eZ,eY,eX,eW,eV,eU,eT,eS,eR,eQ,kq,km,kj,kh,kg,ke,jZ,jY,jX,jW,jV,jU,jT,jS,jR,jQ,jP,jO,jN,jM,jI,jH,jG,jF,jE,jD,jC,jB,jA,jz,jy,jx,jw,jv,ju,jt,js,jr,jq,jo,jn,jm,jl,jk,jj,ji,jh,jg,jf,je,jd,jc,jb,ja,iZ,iY,iX,iW,iV,iU,iT,iS,iR,iQ,iP,iO,iN,iM,iL,iK,iJ,iI],[]⟩ W'))(hQr:Z (∀J0 A0 zd xq tx rL tw qv rK NQ NP NO NN NM NL NK NJ NI NH NG NF ND NC NB NA Nz Ny Nx De Dd Db Da C9 C8 C7 C6 C5 C3 C2 C1 CZ CY CX CW oS oR oQ oP oO oN oM oL oK oJ oI oH oG oF oE oD oC oB oA oz oy ox ow ou ot oq oo oj oi oh og oe od oc ob oa nZ nY nX nW ky kv ku ix iw iu ir il ik ij ig ie ic ib ia hZ hJ hI hC gZ gY gW gV gU gT gS gR gQ gP gO gN gM gK fU fT fS fR fQ fP fO fN fM fK fJ fI fH fG fF fE fD fC fB fA fy fx fw fu ft fq fp fo fm fj fi fh fg ff fe fc fa eZ eY eX eW eV eU eT eS eR eQ kq km kj kh kg ke jZ jY jX jW jV jU jT jS jR jQ jP jO jN jM W',OfR h (palN/3) out rows w3 W' mb->Q .ret ⟨#[.pointer (some ⟨fb,0,none⟩),.pointer (some ⟨sb,0,none⟩),u2,u3,.pointer (some ⟨mb,0,none⟩),u5,.pointer (some ⟨mb,0,none⟩),.slice pr rows.length cr,u8,.int .i64 ST,J0,A0,zd,xq,tx,rL,tw,qv,rK,wg,we,vZ,vY,vX,vW,vV,vU,vT,vS,vR,vQ,vP,u32,vO,vN,vM,vL,vK,vJ,vI,vH,vG,vF,vE,vD,vC,vB,vA,vy,vx,vw,vv,vu,vt,vr,vq,vo,vn,vm,vj,vi,vh,vg,vf,u64,NQ,NP,NO,NN,NM,NL,NK,NJ,NI,NH,NG,NF,ND,NC,NB,NA,Nz,Ny,Nx,De,Dd,Db,Da,C9,C8,C7,C6,C5,C3,C2,C1,CZ,CY,CX,CW,oS,oR,oQ,oP,oO,oN,oM,oL,oK,oJ,oI,oH,oG,oF,oE,oD,oC,oB,oA,oz,oy,ox,ow,ou,ot,oq,oo,oj,oi,oh,og,oe,od,oc,ob,oa,nZ,nY,nX,nW,ky,kv,ku,ix,iw,iu,ir,il,ik,ij,ig,ie,ic,ib,ia,hZ,hJ,hI,hC,gZ,gY,gW,gV,gU,gT,gS,gR,gQ,gP,gO,gN,gM,gK,fU,fT,fS,fR,fQ,fP,fO,fN,fM,fK,fJ,fI,fH,fG,fF,fE,fD,fC,fB,fA,fy,fx,fw,fu,ft,fq,fp,fo,fm,fj,fi,fh,fg,ff,fe,fc,fa,eZ,eY,eX,eW,eV,eU,eT,eS,eR,eQ,kq,km,kj,kh,kg,ke,jZ,jY,jX,jW,jV,jU,jT,jS,jR,jQ,jP,jO,jN,jM,jI,jH,jG,jF,jE,jD,jC,jB,jA,jz,jy,jx,jw,jv,ju,jt,js,jr,jq,jo,jn,jm,jl,jk,jj,ji,jh,jg,jf,je,jd,jc,jb,ja,iZ,iY,iX,iW,iV,iU,iT,iS,iR,iQ,iP,iO,iN,iM,iL,iK,iJ,iI],[]⟩ W')):Code.wp prog ((f42.body.bind (dN 0)).getD .skip) Q ⟨#[.pointer (some ⟨fb,0,none⟩),.pointer (some ⟨sb,0,none⟩),u2,u3,u4,u5,.pointer (some ⟨mb,0,none⟩),.slice pr rows.length cr,u8,.int .i64 ST,.int .i64 0,NS,J8,J7,My,GH,u16,J1,Gv,wg,we,vZ,vY,vX,vW,vV,vU,vT,vS,vR,vQ,vP,u32,vO,vN,vM,vL,vK,vJ,vI,vH,vG,vF,vE,vD,vC,vB,vA,vy,vx,vw,vv,vu,vt,vr,vq,vo,vn,vm,vj,vi,vh,vg,vf,u64,xK,xJ,xI,xH,xG,xF,xE,xD,xC,xB,xA,xz,xy,xx,xw,xv,xu,xt,xr,Bg,Bf,Be,Bd,Bc,Bb,Ba,A9,A8,A7,A6,A5,A4,A3,A2,A1,nh,ng,nc,na,mZ,mY,mX,mW,mV,mU,mT,mS,mR,mQ,mP,mO,mN,mM,mL,mK,mJ,mI,mH,mG,mF,mE,mD,mC,mB,mA,mz,mw,mv,mu,mr,mq,mo,mn,mm,ml,pI,pH,pG,rh,ra,qZ,qY,qX,qW,qV,qU,qT,qS,qR,qQ,qP,qO,qN,qM,qL,qK,qJ,qI,qH,qG,qF,qE,qD,qC,qB,qA,qz,qy,tn,tm,tj,ti,th,tg,tf,tc,sZ,sY,sX,sW,sV,sU,sT,sS,sR,sQ,sP,sO,sM,sL,sK,sJ,sI,sH,sG,sF,sE,sD,sC,sB,sA,sx,sw,sv,su,sq,so,sn,sj,si,sh,sg,sf,rZ,rY,pF,pE,pD,pC,pB,pA,pz,pq,pn,pj,pg,pe,pd,oZ,oY,oX,oW,oV,oU,oT,jI,jH,jG,jF,jE,jD,jC,jB,jA,jz,jy,jx,jw,jv,ju,jt,js,jr,jq,jo,jn,jm,jl,jk,jj,ji,jh,jg,jf,je,jd,jc,jb,ja,iZ,iY,iX,iW,iV,iU,iT,iS,iR,iQ,iP,iO,iN,iM,iL,iK,iJ,iI],[]⟩ w3:=by
 conv=>arg 2;whnf
 have hrl:=HE.o.rl;go_wp2_with fail;go_loopg [10] rows.length (λm J0 W=>∃(k:Nat) (lv fv:Value) (ls:List Ln) (pre rs:List (Nat×Nat)) (prev:Nat) (up:Nat->Nat),J0=.int .i64 k/\m=rs.length/\OfL h (palN/3) out rows w3 W mb k lv fv ls pre rs prev up)
 case atStart=>exact⟨0,_,_,_,_,_,_,_,rfl,rfl,HL0.o⟩
 case round=>
  obtain⟨k,lv,fv,ls,pre,rs,prev,up,rfl,hm,hL⟩:=hrel;have HM:Z _:=hm;have H1:Z _:=hL;have hF:=hL.img.fr;have hsb3:=B _ _ HE.o.s0;have s0:=(hF.cell hsb3 HE.o.n2).trans HE.o.s0;have hkl:=hL.len;have hsl:rows.length=k+rs.length:=by rw[hL.split,Xv,hkl]
  clear hm;cases rs with
  | nil=>
   have HD:Z (((rows.length:Nat):Int)=(k:Int)):=by show((rows.length:Nat):Int)=(k:Int);simp at hsl;omega
   have HZ:Z _:=hL.stop;clear hL hsl hkl hF;go_wp2_with fail;have hd:=HD.o;go_quiet (fail);go_wp2_with fail;obtain⟨im,him⟩:=HZ.o;exact hQn.o _ _ _ _ _ _ _ _ _ _ _ _ _ _ _ _ _ _ _ _ _ _ _ _ _ _ _ _ _ _ _ _ _ _ _ _ _ _ _ _ _ _ _ _ _ _ _ _ _ _ _ _ _ _ _ _ _ _ _ _ _ _ _ _ _ _ _ _ _ _ _ _ _ _ _ _ _ _ _ _ _ _ _ _ _ _ _ _ _ _ _ _ _ _ _ _ _ _ _ _ _ _ _ _ _ _ _ _ _ _ _ _ _ _ _ _ _ _ _ _ _ _ _ _ _ _ _ _ _ _ _ _ _ _ _ _ _ _ _ _ _ _ _ _ _ _ _ _ _ _ _ _ _ _ _ _ _ _ _ _ _ _ _ _ _ _ _ _ _ _ _ _ _ _ _ _ _ _ _ _ _ _ _ _ _ _ ls im ⟨him.img.kept ((Kept.refl _).drewN _),him.eq,him.lines,him.sz,him.kind⟩
  | cons x rs=>
   obtain⟨p,n⟩:=x;have hOW:=aU HE.o.rw hF (λg hg e=>by have:=(HE.o.rw.lt g hg).1;omega);have hk0:k<rows.length:=by simp at hsl;omega
   obtain⟨gr,rfl⟩:∃gr,pr=some ⟨gr,0,none⟩:=by
    rcases hOW.2 with⟨hv,h0⟩|⟨g,cap,cur,hv,hg,r⟩
    .omega
    .injection hv with h1 _ _;exact⟨g,h1⟩
   have hrk:rows[k]? = some (p,n):=by rw[hL.split,XP O,hkl,YC];rfl
   have htk:rows.take k=pre:=by rw[hL.split,<-hkl];simp
   have hrc:=pP h rows 0 k p n hrk;rw[XD,htk] at hrc;have r2:wr.cell? ⟨gr,k*5+2,none⟩=some (.int .i64 ((aN h pre:Nat):Int)):=by
    have:=hOW.cells rfl (k*5+2) _ hrc.2.2.1
    have e:(Addr.add ⟨gr,0,none⟩ (k*5+2))=⟨gr,k*5+2,none⟩:=by simp[Addr.add]
    rw[e] at this;exact this
   obtain⟨FR,hFR⟩:∃FR,FR=aN h pre:=⟨_,rfl⟩;rw[<-hFR] at r2;have hk1:(k:Int)<(rows.length:Int):=O;have hk2:(0:Int)<=(k:Int):=O;have HFR:Z _:=hFR;have HSL:Z _:=hsl;clear hrc hOW htk hrk hFR hsl hk0 hkl hF;by_cases c1:out.length<=FR
   .have HD2:Z (¬((FR:Int)<(out.length:Int))):=by show ¬((FR:Int)<(out.length:Int));omega
    have HC:Z _:=c1;clear hL c1;go_wp2_with fail;have hd2:=HD2.o;go_quiet (fail);go_wp2_with fail;obtain⟨im,him⟩:=H1.o.cut (wr.drewN nq) (H1.o.img.fin.kept ((Kept.refl _).drewN nq)) (L (by rw[<-HFR.o];exact HC.o));exact hQn.o _ _ _ _ _ _ _ _ _ _ _ _ _ _ _ _ _ _ _ _ _ _ _ _ _ _ _ _ _ _ _ _ _ _ _ _ _ _ _ _ _ _ _ _ _ _ _ _ _ _ _ _ _ _ _ _ _ _ _ _ _ _ _ _ _ _ _ _ _ _ _ _ _ _ _ _ _ _ _ _ _ _ _ _ _ _ _ _ _ _ _ _ _ _ _ _ _ _ _ _ _ _ _ _ _ _ _ _ _ _ _ _ _ _ _ _ _ _ _ _ _ _ _ _ _ _ _ _ _ _ _ _ _ _ _ _ _ _ _ _ _ _ _ _ _ _ _ _ _ _ _ _ _ _ _ _ _ _ _ _ _ _ _ _ _ _ _ _ _ _ _ _ _ _ _ _ _ _ _ _ _ _ _ _ _ _ ls im him
   .have hd2:(FR:Int)<(out.length:Int):=O
    have HC:Z (aN h pre<out.length):=by show _<_;rw[<-HFR.o];omega
    obtain⟨gz,hgz,zz,_⟩:=HE.o.z.cells _ _ rfl FR O;subst hgz;have HEE:Z _:=HE.o.get (B _ _ zz);clear zz;clear hL c1;go_wp2_with fail;go_quiet (fail);obtain⟨w4,hw4⟩:∃w4,w4=wr.drewN nq:=⟨_,rfl⟩;rw[<-hw4];have H4:Z (OfL h (palN/3) out rows w3 w4 mb k lv fv ls pre ((p,n)::rs) prev up):=⟨by rw[hw4];exact H1.o.img.kept ((Kept.refl _).drewN nq),H1.o.split,H1.o.len,H1.o.lenl,H1.o.pos,H1.o.last,H1.o.eq,H1.o.sz⟩;clear hw4 s0 r2;go_upto_block 1 with fail
    refine Ox fb sb mb gz gr co cr palN ST k prev h out rows pre rs p n lv fv ls up w3 w4 HEE H4 HC ?_ ?_ ?_
    .intro v4 A0 zd xq tx rL tw qv rK De Dd Db Da C9 C8 C7 C6 C5 C3 C2 C1 CZ CY CX CW oS oR oQ oP oO oN oM oL oK oJ oI oH oG oF oE oD oC oB oA oz oy ox ow ou ot oq oo oj oi oh og oe od oc ob oa nZ nY nX nW ky kv ku ix iw iu ir il ik ij ig ie ic ib ia hZ hJ hI hC gZ gY gW gV gU gT gS gR gQ gP gO gN gM gK fU fT fS fR fQ fP fO fN fM fK fJ fI fH fG fF fE fD fC fB fA fy fx fw fu ft fq fp fo fm fj fi fh fg ff fe fc fa eZ eY eX eW eV eU eT eS eR eQ kq km kj kh kg ke jZ jY jX jW jV jU jT jS jR jQ jP jO jN jM w5 lv' fv' ls' prev' up' hn'
     have HN:Z _:=hn';clear hn';have hk5:k<=200:=by have:=HSL.o;omega
     go_wp2_with fail;go_roundg rs.length
     case measure=>have:=HM.o;simp at this;omega
     exact⟨k+1,lv',fv',ls',pre++[(p,n)],rs,prev',up',Xj,rfl,HN.o⟩
    .intro v4 A0 zd xq tx rL tw qv rK De Dd Db Da C9 C8 C7 C6 C5 C3 C2 C1 CZ CY CX CW oS oR oQ oP oO oN oM oL oK oJ oI oH oG oF oE oD oC oB oA oz oy ox ow ou ot oq oo oj oi oh og oe od oc ob oa nZ nY nX nW ky kv ku ix iw iu ir il ik ij ig ie ic ib ia hZ hJ hI hC gZ gY gW gV gU gT gS gR gQ gP gO gN gM gK fU fT fS fR fQ fP fO fN fM fK fJ fI fH fG fF fE fD fC fB fA fy fx fw fu ft fq fp fo fm fj fi fh fg ff fe fc fa eZ eY eX eW eV eU eT eS eR eQ kq km kj kh kg ke jZ jY jX jW jV jU jT jS jR jQ jP jO jN jM w5 im him
     exact hQn.o _ _ _ _ _ _ _ _ _ _ _ _ _ _ _ _ _ _ _ _ _ _ _ _ _ _ _ _ _ _ _ _ _ _ _ _ _ _ _ _ _ _ _ _ _ _ _ _ _ _ _ _ _ _ _ _ _ _ _ _ _ _ _ _ _ _ _ _ _ _ _ _ _ _ _ _ _ _ _ _ _ _ _ _ _ _ _ _ _ _ _ _ _ _ _ _ _ _ _ _ _ _ _ _ _ _ _ _ _ _ _ _ _ _ _ _ _ _ _ _ _ _ _ _ _ _ _ _ _ _ _ _ _ _ _ _ _ _ _ _ _ _ _ _ _ _ _ _ _ _ _ _ _ _ _ _ _ _ _ _ _ _ _ _ _ _ _ _ _ _ _ _ _ _ _ _ _ _ _ _ _ _ _ _ _ _ ls im him
    .intro A0 zd xq tx rL tw qv rK De Dd Db Da C9 C8 C7 C6 C5 C3 C2 C1 CZ CY CX CW oS oR oQ oP oO oN oM oL oK oJ oI oH oG oF oE oD oC oB oA oz oy ox ow ou ot oq oo oj oi oh og oe od oc ob oa nZ nY nX nW ky kv ku ix iw iu ir il ik ij ig ie ic ib ia hZ hJ hI hC gZ gY gW gV gU gT gS gR gQ gP gO gN gM gK fU fT fS fR fQ fP fO fN fM fK fJ fI fH fG fF fE fD fC fB fA fy fx fw fu ft fq fp fo fm fj fi fh fg ff fe fc fa eZ eY eX eW eV eU eT eS eR eQ kq km kj kh kg ke jZ jY jX jW jV jU jT jS jR jQ jP jO jN jM w5 hr'
     exact hQr.o _ _ _ _ _ _ _ _ _ _ _ _ _ _ _ _ _ _ _ _ _ _ _ _ _ _ _ _ _ _ _ _ _ _ _ _ _ _ _ _ _ _ _ _ _ _ _ _ _ _ _ _ _ _ _ _ _ _ _ _ _ _ _ _ _ _ _ _ _ _ _ _ _ _ _ _ _ _ _ _ _ _ _ _ _ _ _ _ _ _ _ _ _ _ _ _ _ _ _ _ _ _ _ _ _ _ _ _ _ _ _ _ _ _ _ _ _ _ _ _ _ _ _ _ _ _ _ _ _ _ _ _ _ _ _ _ _ _ _ _ _ _ _ _ _ _ _ _ _ _ _ _ _ _ _ _ _ _ _ _ _ _ _ _ _ _ _ _ _ _ _ _ _ _ _ _ _ _ _ _ _ _ _ _ _ hr'
def lA(n:Nat):Code->Option Code
 | .region k o d=>if k=n then some (.region k o d) else none
 | .seq a b=>match lA n a with
  | some c=>some (.seq c b)
  | none=>lA n b
 | _=>none
theorem gB{P:Ending->World->Prop}{b w r}(h:P (.returned (.pointer (some ⟨b,0,none⟩))) w)(e:r=.returned (.pointer (some ⟨b,0,none⟩))):P r w:=by rw[e];exact h
theorem of_rest{u0 u2 u3 u4 u5 u7 u9 Di NS J8 J7 My GH u16 J1 Gv wg we vZ vY vX vW vV vU vT vS vR vQ vP u32 vO vN vM vL vK vJ vI vH vG vF vE vD vC vB vA vy vx vw vv vu vt vr vq vo vn vm vj vi vh vg vf u64 xK xJ xI xH xG xF xE xD xC xB xA xz xy xx xw xv xu xt xr Bg Bf Be Bd Bc Bb Ba A9 A8 A7 A6 A5 A4 A3 A2 A1 nh ng nc na mZ mY mX mW mV mU mT mS mR mQ mP mO mN mM mL mK mJ mI mH mG mF mE mD mC mB mA mz mw mv mu mr mq mo mn mm ml pI pH pG rh ra qZ qY qX qW qV qU qT qS qR qQ qP qO qN qM qL qK qJ qI qH qG qF qE qD qC qB qA qz qy tn tm tj ti th tg tf tc sZ sY sX sW sV sU sT sS sR sQ sP sO sM sL sK sJ sI sH sG sF sE sD sC sB sA sx sw sv su sq so sn sj si sh sg sf rZ rY pF pE pD pC pB pA pz pq pn pj pg pe pd oZ oY oX oW oV oU oT jI jH jG jF jE jD jC jB jA jz jy jx jw jv ju jt js jr jq jo jn jm jl jk jj ji jh jg jf je jd jc jb ja iZ iY iX iW iV iU iT iS iR iQ iP iO iN iM iL iK iJ iI:Value}(P:Ending->World->Prop)(sb mb TT en co:Nat)(po:Option Addr)(h:Hd)(C:Nat)(out:List One)(dn sm:Bool)(rows:List (Nat×Nat))(ls:List Ln)(im:ImR)(w3 w:World)(HS:Z (AU w3 sb (.slice po out.length co) out dn sm en))(HZ:Z (OfZ h C out rows w3 w mb ls im))(HTT:Z (TT=aN h rows))(b1:TT<=40000)(ol:out.length<=4294967296)(n2:sb≠mb)(HN:Z (∀a,po=some a->a.block≠mb))(HP:Z (∀W',lN w3 W' mb (ofE im dn sm en).1 (ofE im dn sm en).2 ls->P (.returned (.pointer (some ⟨mb,0,none⟩))) W')):Code.wp prog ((f42.body.bind (lA 35)).getD .skip) (bodyPost prog f42 P) ⟨#[u0,.pointer (some ⟨sb,0,none⟩),u2,u3,u4,u5,.pointer (some ⟨mb,0,none⟩),u7,.int .i64 TT,u9,Di,NS,J8,J7,My,GH,u16,J1,Gv,wg,we,vZ,vY,vX,vW,vV,vU,vT,vS,vR,vQ,vP,u32,vO,vN,vM,vL,vK,vJ,vI,vH,vG,vF,vE,vD,vC,vB,vA,vy,vx,vw,vv,vu,vt,vr,vq,vo,vn,vm,vj,vi,vh,vg,vf,u64,xK,xJ,xI,xH,xG,xF,xE,xD,xC,xB,xA,xz,xy,xx,xw,xv,xu,xt,xr,Bg,Bf,Be,Bd,Bc,Bb,Ba,A9,A8,A7,A6,A5,A4,A3,A2,A1,nh,ng,nc,na,mZ,mY,mX,mW,mV,mU,mT,mS,mR,mQ,mP,mO,mN,mM,mL,mK,mJ,mI,mH,mG,mF,mE,mD,mC,mB,mA,mz,mw,mv,mu,mr,mq,mo,mn,mm,ml,pI,pH,pG,rh,ra,qZ,qY,qX,qW,qV,qU,qT,qS,qR,qQ,qP,qO,qN,qM,qL,qK,qJ,qI,qH,qG,qF,qE,qD,qC,qB,qA,qz,qy,tn,tm,tj,ti,th,tg,tf,tc,sZ,sY,sX,sW,sV,sU,sT,sS,sR,sQ,sP,sO,sM,sL,sK,sJ,sI,sH,sG,sF,sE,sD,sC,sB,sA,sx,sw,sv,su,sq,so,sn,sj,si,sh,sg,sf,rZ,rY,pF,pE,pD,pC,pB,pA,pz,pq,pn,pj,pg,pe,pd,oZ,oY,oX,oW,oV,oU,oT,jI,jH,jG,jF,jE,jD,jC,jB,jA,jz,jy,jx,jw,jv,ju,jt,js,jr,jq,jo,jn,jm,jl,jk,jj,ji,jh,jg,jf,je,jd,jc,jb,ja,iZ,iY,iX,iW,iV,iU,iT,iS,iR,iQ,iP,iO,iN,iM,iL,iK,iJ,iI],[]⟩ w:=by
 conv=>arg 2;whnf
 have hF:=HZ.o.img.fr;have hsb3:=HS.o.lt;have s0:=(hF.cell hsb3 n2).trans HS.o.c0;have s3:=(hF.cell hsb3 n2).trans HS.o.c3;have s4:=(hF.cell hsb3 n2).trans HS.o.c4;have s7:=(hF.cell hsb3 n2).trans HS.o.c7;have m5:=HZ.o.img.c5;have m6:=HZ.o.img.c6;have mf:=HZ.o.img.fz;have HI:Z _:=HZ.o.img;rcases HZ.o.kind with⟨l,e1,e2⟩|⟨l,e1,e2⟩|⟨l,e1,e2⟩
 .rw[<-HTT.o] at e2
  have ei:(out.length:Int)<(TT:Int):=O;subst e1;clear e2 hF;cases dn
  .have HP2:=U HP.o
   go_wp2_with fail;exact gB (HP2.o _ HI.o) rfl
  .cases sm
   .have HP2:=U HP.o
    go_wp2_with fail;exact gB (HP2.o _ HI.o) rfl
   .have HP2:=U HP.o
    have k7:=(aA (b:=mb) w 5 7 (.int .i64 18) n2).trans s7;have k6:(w.setCell ⟨mb,5,none⟩ (.int .i64 18)).cell? ⟨mb,6,none⟩=_:=(aa _ _ _ _ _ O).trans m6;go_wp2_with fail;exact gB (HP2.o _ ((HI.o.set5 18).set6 en)) rfl
 .rw[<-HTT.o] at e2
  have ei:(out.length:Int)=(TT:Int):=O;subst e1;have HP2:=U HP.o;clear e2 hF;have h1:¬((TT:Int)<(out.length:Int)):=O;have h2:¬((out.length:Int)<(TT:Int)):=O;clear ei;cases dn<;>cases sm
  all_goals
   go_wp2_with fail;exact gB (HP2.o _ HI.o) rfl
 .rw[<-HTT.o] at e2 e1
  have ei:(TT:Int)<(out.length:Int):=O;have HP2:Z (∀W',lN w3 W' mb 17 (pAt out TT) ls->P (.returned (.pointer (some ⟨mb,0,none⟩))) W'):=λW' k=>HP.o W' (by rw[e1];exact k)
  have HZ2:=HS.o.z.fr hF (λg hg e=>by
   cases po with
   | none=>cases hg
   | some a=>injection hg with hg;exact HN.o a rfl O)
  obtain⟨gz,hgz,z0,z1⟩:=HZ2.cells _ _ rfl TT e2;subst hgz;have n3:=HN.o _ rfl;obtain⟨A,hA⟩:∃A,A=pAt out TT:=⟨_,rfl⟩;rw[<-hA] at z1 HP2;clear e2 e1 hF HZ2 z0 hA;have k0:=(aA (b:=mb) w 5 0 (.int .i64 17) n2).trans s0;have kz:=(aA (b:=mb) w 5 (TT*2+1) (.int .i64 17) n3).trans z1;have k6:(w.setCell ⟨mb,5,none⟩ (.int .i64 17)).cell? ⟨mb,6,none⟩=_:=(aa _ _ _ _ _ O).trans m6;go_wp2_with fail;exact gB (HP2.o _ ((HI.o.set5 17).set6 A)) rfl
theorem MT fb sb palN en h ov out dn sm w(hf:tt w fb h palN)(hs:AU w sb ov out dn sm en)(hW:h.W<=16)(hH:h.H<=16)(hD:okD h.D)(hK:kindOk h.K)(hL:h.L<=1)(hl:(h.K=0\/h.K=3)\/(h.D=8\/h.D=16))(hb:1<=bo h)(ho:dx out)(hol:out.length<=4294967296)(hp:palN<=1048576)(hen:en<=1048576)(hovw:∀g,ae ov=some g->g<w.heap.size):Calls prog 42 #[.pointer (some ⟨fb,0,none⟩),.pointer (some ⟨sb,0,none⟩)] w λr w'=>∃mb ls im,r=.returned (.pointer (some ⟨mb,0,none⟩))/\OfP h (palN/3) w w' fb mb out dn sm en ls im:=by
 have c5:=hf.c5;have hD16:h.D<=16:=by unfold okD at hD;omega
 have F:Z (∀W:World,Calls prog 70 _ W _):=λW=>Hh h W hW hH hD16 hL hK
 have HSV:Z (∀W,Calls prog 71 #[.int .i64 h.K,.int .i64 h.D] W λr w'=>r=.returned (.int .i64 (bZ h))/\w'=W):=λW=>by
  have:=GV h.K h.D W hD16
  rw[BL hK hD hl] at this;exact this
 obtain⟨rows,hrows0⟩:∃rows,rows=au h (aq h.L) 0:=⟨_,rfl⟩;have hrows:Z _:=hrows0;clear hrows0;have hst:bZ h<=8:=by
  unfold bZ bo
  have:=ev h.K
  have:chn h.K*h.D<=4*16:=XF this hD16
  omega
 have hst1:1<=bZ h:=by unfold bZ;omega
 go_enter func42,ntmps42;go_wp2_with fail;refine(ui _ _ hL).mono ?_;rintro r w1 ⟨rfl,hps,hk1⟩;have h1:=hf.kept hk1;have d1:=h1.c1;have d2:=h1.c2;have d3:=h1.c3;have d4:=h1.c4;have d5:=h1.c5;have hlt1:=h1.lt;clear c5;have HH1:Z _:=h1;have HS:Z _:=hs.kept hk1;have HP:Z _:=hps;clear h1 hs hps hf;go_wp2_with fail;go_region_held3 (λW=>W.cell? ⟨fb,1,none⟩=some (.int .i64 h.W)/\W.cell? ⟨fb,2,none⟩=some (.int .i64 h.H)/\W.cell? ⟨fb,3,none⟩=some (.int .i64 h.D)/\W.cell? ⟨fb,4,none⟩=some (.int .i64 h.K)/\W.cell? ⟨fb,5,none⟩=some (.int .i64 h.L)) (first|go_keep|(refine⟨?_,?_,?_,?_,?_⟩<;>(rw[hk2.cell (by go_grown)];go_keep))) ((go_at_call 70;refine(F.o _).mono ?_;rintro r w2 ⟨⟨v,rfl,hown⟩,hk2⟩))
 rw[<-hrows.o] at hown ⊢;obtain⟨pr,cr,rfl⟩:=ak hown;have hml:w1.heap.size<((w1.alloc (.cells #[.pointer (some ⟨fb,0,none⟩),.slice (some ⟨w.heap.size,0,none⟩) (aq h.L) (aq h.L),.slice none 0 0,.slice none 0 0,.slice none 0 0,.int .i64 0,.int .i64 0] 105)).drew).heap.size:=Xi;have mc:∀j,w2.cell? ⟨w1.heap.size,j,none⟩=(#[.pointer (some ⟨fb,0,none⟩),.slice (some ⟨w.heap.size,0,none⟩) (aq h.L) (aq h.L),.slice none 0 0,.slice none 0 0,.slice none 0 0,.int .i64 0,.int .i64 0]:Array Value)[j]? := λj=>by
  rw[hk2.cell (p:=⟨w1.heap.size,j,none⟩) hml];show(w1.alloc _).cell? _=_
  rw[Xr _ _ _ _ rfl]
 have mf:∀j,w2.frozen? ⟨w1.heap.size,j,none⟩=false:=λj=>by
  rw[hk2.frozen (p:=⟨w1.heap.size,j,none⟩) hml];exact XB _ _ _ _ rfl
 have K12:Z (Kept w1 w2):=(((Xs _ _).alloc (E _) _).drew).trans (Below.mono hk2 (Yx hml));have m2:w2.cell? ⟨w1.heap.size,2,none⟩=some (.slice none 0 0):=mc 2;have mf2:=mf 2;have hm2:=B _ _ m2;have HMC:Z _:=mc;have HMF:Z _:=mf;have HOW0:w2.ownsRow (w1.heap.size+1) 146 5 (.slice pr rows.length cr) rows.length (gh h rows 0):=by simpa using hown
 have HOW:=U HOW0;clear HOW0;have HK1:Z (Kept w w1):=hk1;clear mc mf hk2 hown hk1 d1 d2 d3 d4 d5 hml;go_wp2_with fail;go_quiet ((go_at_call 71;exact Xu (HSV.o _)))
 obtain⟨w3,hw3⟩:∃w3,w3=(w2.setCell ⟨w1.heap.size,2,none⟩ (.slice pr rows.length cr)).drewN nq:=⟨_,rfl⟩;rw[<-hw3];have F3:Fr1 w1.heap.size w2 w3:=by rw[hw3];exact((Fr1.refl _ _).set _ _).drewN nq
 have hsz3:=F3.size;have n3:∀j,j≠2->w3.cell? ⟨w1.heap.size,j,none⟩=w2.cell? ⟨w1.heap.size,j,none⟩:=λj hj=>by
  rw[hw3];exact aa _ _ _ _ _ O
 have n2:w3.cell? ⟨w1.heap.size,2,none⟩=some (.slice pr rows.length cr):=by rw[hw3];exact ai m2 _
 have nf:∀j,w3.frozen? ⟨w1.heap.size,j,none⟩=false:=λj=>by rw[hw3];exact(Xy _ _ _ _).trans (HMF.o j)
 have HS3:Z (AU w3 sb ov out dn sm en):=by
  have h2:=HS.o.kept K12.o
  have:Kept w1 w3:=Fr.to_kept K12.o F3 (λi hi e=>O)
  exact HS.o.kept this
 have HF3:Z _:=HH1.o.kept (Fr.to_kept K12.o F3 (λi hi e=>O));have HPA:Z _:=HP.o.kept (Fr.to_kept K12.o F3 (λi hi e=>O));have HOW3:Z (w3.ownsRow (w1.heap.size+1) 146 5 (.slice pr rows.length cr) rows.length (gh h rows 0)):=aU HOW.o F3 (λg hg e=>by have:=(HOW.o.lt g hg).1;omega);have HK3:Z (Kept w w3):=HK1.o.trans (Fr.to_kept K12.o F3 (λi hi e=>O));have HIM:Z (lM w3 w3 w1.heap.size (.slice none 0 0) (.slice none 0 0) []) :=
  ⟨(n3 3 O).trans (HMC.o 3),(n3 4 O).trans (HMC.o 4),(n3 5 O).trans (HMC.o 5),(n3 6 O).trans (HMC.o 6),λj _=>rfl,nf,Fr.refl _ _,O,XR _ _ _ _,⟨[],XR _ _ _ _⟩,(λa ha=>by cases ha),(λg hg=>by cases hg)⟩
 have M0:Z (w3.cell? ⟨w1.heap.size,0,none⟩=some (.pointer (some ⟨fb,0,none⟩))/\w3.cell? ⟨w1.heap.size,1,none⟩=some (.slice (some ⟨w.heap.size,0,none⟩) (aq h.L) (aq h.L))/\w3.cell? ⟨w1.heap.size,2,none⟩=some (.slice pr rows.length cr)):=⟨(n3 0 O).trans (HMC.o 0),(n3 1 O).trans (HMC.o 1),n2⟩;have hm3:w1.heap.size<w3.heap.size:=O;obtain⟨mb,hmb⟩:∃mb,mb=w1.heap.size:=⟨_,rfl⟩;have hlo:w.heap.size<=mb:=by rw[hmb];exact HK1.o.size
 rw[<-hmb] at HIM M0 hm3 HOW3 ⊢;have HL0:Z (OfL h (palN/3) out rows w3 w3 mb 0 (.slice none 0 0) (.slice none 0 0) [] [] rows 0 (λ_=>0)) :=
  ⟨HIM.o,rfl,rfl,rfl,by rw[hrows.o];exact zJ h,(λq=>absurd rfl q),(by show _=ImR.app [] (aH h (palN/3) rows (λ_=>0) out);rw[ImR.app_nil]),(λj a e=>by simp at e)⟩
 have HMB:Z _:=hmb;have hrl:rows.length<=200:=by
  rw[hrows.o];exact wD h hH (aq h.L) 0 (kH h.L).2
 have htot:aN h rows<=200*200:=by
  have:=zq h hW hD16 rows
  omega
 obtain⟨TT,hTT⟩:∃TT,TT=aN h rows:=⟨_,rfl⟩;rw[<-hTT] at htot ⊢;have HTT:Z _:=hTT;have hHD:=U hD;have hHo:=U ho;clear m2 mf2 hm2 HMC HMF K12 F3 n3 n2 nf hw3 HIM HOW hlt1 hsz3 hmb hTT hD hK hl ho F HSV;obtain⟨po,co,hov⟩:=HS.o.z.form;subst hov;obtain⟨ST,hST⟩:∃ST,ST=bZ h:=⟨_,rfl⟩;rw[<-hST] at hst hst1 ⊢;have HN:Z (∀a,po=some a->a.block≠mb):=λa ha=>by
  have h1:=hovw a.block (by rw[ha];rfl);have h2:=HK1.o.size
  have:=HMB.o
  omega
 have n1:fb≠mb:=by
  have h1:=HH1.o.lt
  have:=HMB.o
  omega
 have n2:sb≠mb:=by
  have h1:=HS.o.lt
  have:=HMB.o
  omega
 have HE:Z (Mk w3 fb sb mb co cr palN ST po pr h out rows):=⟨HF3.o,HS3.o.c0,HS3.o.z,by rw[HMB.o];rw[HMB.o] at HOW3;exact HOW3.o,n1,n2,HN.o,hol,hHo.o,hp,hST,hst1,hst,hW,hH,hHD.o,hb,hrl,by rw[<-HTT.o];exact htot⟩;have HSM:Z _:=HS3.o;have FIN:Z (∀W' ls im,lN w3 W' mb (ofE im dn sm en).1 (ofE im dn sm en).2 ls->aH h (palN/3) rows (λ_=>0) out=im->ls.map Ln.x=im.lines->CP h rows ls->OfP h (palN/3) w W' fb mb out dn sm en ls im):=λW' ls im a1 a2 a3 a4=>by
  have kk:=Fr.to_kept HK3.o a1.fr (λi hi e=>by rw[HMB.o] at e;have:=HK1.o.size;omega);refine⟨by rw[<-hrows.o];exact a2,a3,by rw[<-hrows.o];exact a4,⟨w3,w.heap.size,_,a1,(a1.c02 0 O).trans M0.o.1,(a1.c02 1 O).trans M0.o.2.1,?_,E _,(a1.c02 2 O).trans M0.o.2.2,?_⟩,hlo,kk⟩
  .have hl:=HP.o.lt
   have hl3:=HPA.o.lt;exact⟨λp j hp hj=>(a1.fr.cell hl3 (by rw[HMB.o];omega)).trans (HPA.o.cell p j hp hj)⟩
  .rw[<-hrows.o]
   have o1:=aU HOW3.o a1.fr (λg hg e=>by have:=(HOW3.o.lt g hg).1;omega);exact lU o1 O
 clear hST HOW3 HPA HK3 M0 HP HK1 HH1 hHD hHo HF3 HS HS3 hst hst1;go_upto_block 0 with fail
 refine Oy fb sb mb co cr palN ST po pr h out rows w3 HE HL0 ?_ ?_
 .intro v4 J0 A0 zd xq tx rL tw qv rK NQ NP NO NN NM NL NK NJ NI NH NG NF ND NC NB NA Nz Ny Nx De Dd Db Da C9 C8 C7 C6 C5 C3 C2 C1 CZ CY CX CW oS oR oQ oP oO oN oM oL oK oJ oI oH oG oF oE oD oC oB oA oz oy ox ow ou ot oq oo oj oi oh og oe od oc ob oa nZ nY nX nW ky kv ku ix iw iu ir il ik ij ig ie ic ib ia hZ hJ hI hC gZ gY gW gV gU gT gS gR gQ gP gO gN gM gK fU fT fS fR fQ fP fO fN fM fK fJ fI fH fG fF fE fD fC fB fA fy fx fw fu ft fq fp fo fm fj fi fh fg ff fe fc fa eZ eY eX eW eV eU eT eS eR eQ kq km kj kh kg ke jZ jY jX jW jV jU jT jS jR jQ jP jO jN jM W' ls im him
  have HI:Z _:=him;clear him HL0 HE;go_step;go_step;refine wp_mono (of_rest (λr w'=>∃mb ls im,r=.returned (.pointer (some ⟨mb,0,none⟩))/\OfP h (palN/3) w w' fb mb out dn sm en ls im) sb mb TT en co po h (palN/3) out dn sm rows ls im w3 W' HSM HI HTT O hol n2 HN ?_) (λe a w hq=>hq);intro W2 hf;exact⟨mb,ls,im,rfl,FIN.o W2 ls im hf HI.o.eq HI.o.lines HI.o.sz⟩
 .intro J0 A0 zd xq tx rL tw qv rK NQ NP NO NN NM NL NK NJ NI NH NG NF ND NC NB NA Nz Ny Nx De Dd Db Da C9 C8 C7 C6 C5 C3 C2 C1 CZ CY CX CW oS oR oQ oP oO oN oM oL oK oJ oI oH oG oF oE oD oC oB oA oz oy ox ow ou ot oq oo oj oi oh og oe od oc ob oa nZ nY nX nW ky kv ku ix iw iu ir il ik ij ig ie ic ib ia hZ hJ hI hC gZ gY gW gV gU gT gS gR gQ gP gO gN gM gK fU fT fS fR fQ fP fO fN fM fK fJ fI fH fG fF fE fD fC fB fA fy fx fw fu ft fq fp fo fm fj fi fh fg ff fe fc fa eZ eY eX eW eV eU eT eS eR eQ kq km kj kh kg ke jZ jY jX jW jV jU jT jS jR jQ jP jO jN jM W' hr
  obtain⟨ls,e,p,h1,h2,h3⟩:=hr;have HR:Z (OfP h (palN/3) w W' fb mb out dn sm en ls (.bad (ls.map Ln.x) e p)):=FIN.o W' ls _ h2 h1 rfl h3;clear h1 h2 h3 HL0 HE;go_ret;exact⟨mb,ls,_,rfl,HR.o⟩
