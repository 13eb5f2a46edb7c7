import Derived.Test.YtgooinallljbpaaGreatDoorSh00
import Derived.Test.YtgooinallljbpaaGreatDoorSh06
set_option linter.all false
set_option maxRecDepth 100000
set_option maxHeartbeats 0
namespace Go.Proofs.YtgooinallljbpaaGreatDoor
open Go.RowKit Px Tryz
def dN(n:Nat):Code->Option Code
 | .block k b=>if k=n then some (.block k b) else dN n b
 | .seq a b=>match dN n a with
  | some c=>some c
  | none=>dN n b
 | .loop b=>dN n b
 | .cond _ a b=>match dN n a with
  | some c=>some c
  | none=>dN n b
 | _=>none
theorem aA{b c}(w:World)k j v(h:c≠b):(w.setCell ⟨b,k,none⟩ v).cell? ⟨c,j,none⟩=w.cell? ⟨c,j,none⟩ :=
 Yl _ _ _ _ (by intro a;apply h;injection a with d _ _;exact d.symm)
theorem Ow{Q:Exit->Act->World->Prop}{u0 u2 u3 u4 u5 u6 u7 u8 Di u16 J1 Gv wg we vZ vY vX vW vV vU vT vS vR vQ vP u32 vO vN vM vL vK vJ vI vH vG vF vE vD vC vB vA vy vx vw vv vu vt vr vq vo vn vm vj vi vh vg vf u64 xK xJ xI xH xG xF xE xD xC xB xA xz xy xx xw xv xu xt xr Bg Bf Be Bd Bc Bb Ba A9 A8 A7 A6 A5 A4 A3 A2 A1 nh ng nc na mZ mY mX mW mV mU mT mS mR mQ mP mO mN mM mL mK mJ mI mH mG mF mE mD mC mB mA mz mw mv mu mr mq mo mn mm ml pI pH pG rh ra qZ qY qX qW qV qU qT qS qR qQ qP qO qN qM qL qK qJ qI qH qG qF qE qD qC qB qA qz qy tn tm tj ti th tg tf tc sZ sY sX sW sV sU sT sS sR sQ sP sO sM sL sK sJ sI sH sG sF sE sD sC sB sA sx sw sv su sq so sn sj si sh sg sf rZ rY pF pE pD pC pB pA pz pq pn pj pg pe pd oZ oY oX oW oV oU oT jI jH jG jF jE jD jC jB jA jz jy jx jw jv ju jt js jr jq jo jn jm jl jk jj ji jh jg jf je jd jc jb ja iZ iY iX iW iV iU iT iS iR iQ iP iO iN iM iL iK iJ iI:Value}(sb rb gx gu SZ FR ST t cu cx co gz:Nat)(out:List One)(up O:Nat->Nat)(w:World)(hs0:w.cell? ⟨sb,0,none⟩=some (.slice (some ⟨gz,0,none⟩) out.length co))(hz:Z (ZAt w (.slice (some ⟨gz,0,none⟩) out.length co) out))(r2:w.cell? ⟨rb,2,none⟩=some (.int .i64 FR))(r4:w.cell? ⟨rb,4,none⟩=some (.int .i64 SZ))(hu:Z (dS w gu SZ up))(hx:Z (dS w gx SZ (λ_=>0)))(hfz:∀k,w.frozen? ⟨gx,k,none⟩=false)(n1:sb≠gx)(n2:rb≠gx)(n3:gu≠gx)(n4:gz≠gx)(hfr:FR+SZ<out.length)(b1:SZ<=1000)(b2:FR<=100000)(b3:1<=ST)(b4:ST<=8)(b5:t<=4)(b6:out.length<=4294967296)(hO:Z (∀i,i<SZ->O i=vAt out (FR+1+i)/\O i<256))(hQ:Z (∀rL tw ix iw iu ir il ik ij ig ie ic ib ia hZ hJ hI hC gZ gY gW gV gU gT gS gR gQ gP gO gN gM gK W',dS W' gx SZ (eH ST t up O SZ)->Fr1 gx w W'->Q .normal ⟨#[u0,.pointer (some ⟨sb,0,none⟩),u2,u3,u4,u5,u6,u7,u8,.int .i64 ST,Di,.pointer (some ⟨rb,0,none⟩),.int .i64 t,.slice (some ⟨gu,0,none⟩) SZ cu,.slice (some ⟨gx,0,none⟩) SZ cx,rL,tw,J1,Gv,wg,we,vZ,vY,vX,vW,vV,vU,vT,vS,vR,vQ,vP,u32,vO,vN,vM,vL,vK,vJ,vI,vH,vG,vF,vE,vD,vC,vB,vA,vy,vx,vw,vv,vu,vt,vr,vq,vo,vn,vm,vj,vi,vh,vg,vf,u64,xK,xJ,xI,xH,xG,xF,xE,xD,xC,xB,xA,xz,xy,xx,xw,xv,xu,xt,xr,Bg,Bf,Be,Bd,Bc,Bb,Ba,A9,A8,A7,A6,A5,A4,A3,A2,A1,nh,ng,nc,na,mZ,mY,mX,mW,mV,mU,mT,mS,mR,mQ,mP,mO,mN,mM,mL,mK,mJ,mI,mH,mG,mF,mE,mD,mC,mB,mA,mz,mw,mv,mu,mr,mq,mo,mn,mm,ml,pI,pH,pG,ix,iw,iu,ir,il,ik,ij,ig,ie,ic,ib,ia,hZ,hJ,hI,hC,gZ,gY,gW,gV,gU,gT,gS,gR,gQ,gP,gO,gN,gM,gK,tn,tm,tj,ti,th,tg,tf,tc,sZ,sY,sX,sW,sV,sU,sT,sS,sR,sQ,sP,sO,sM,sL,sK,sJ,sI,sH,sG,sF,sE,sD,sC,sB,sA,sx,sw,sv,su,sq,so,sn,sj,si,sh,sg,sf,rZ,rY,pF,pE,pD,pC,pB,pA,pz,pq,pn,pj,pg,pe,pd,oZ,oY,oX,oW,oV,oU,oT,jI,jH,jG,jF,jE,jD,jC,jB,jA,jz,jy,jx,jw,jv,ju,jt,js,jr,jq,jo,jn,jm,jl,jk,jj,ji,jh,jg,jf,je,jd,jc,jb,ja,iZ,iY,iX,iW,iV,iU,iT,iS,iR,iQ,iP,iO,iN,iM,iL,iK,iJ,iI],[]⟩ W')):Code.wp prog ((f42.body.bind (dN 2)).getD .skip) Q ⟨#[u0,.pointer (some ⟨sb,0,none⟩),u2,u3,u4,u5,u6,u7,u8,.int .i64 ST,Di,.pointer (some ⟨rb,0,none⟩),.int .i64 t,.slice (some ⟨gu,0,none⟩) SZ cu,.slice (some ⟨gx,0,none⟩) SZ cx,.int .i64 0,u16,J1,Gv,wg,we,vZ,vY,vX,vW,vV,vU,vT,vS,vR,vQ,vP,u32,vO,vN,vM,vL,vK,vJ,vI,vH,vG,vF,vE,vD,vC,vB,vA,vy,vx,vw,vv,vu,vt,vr,vq,vo,vn,vm,vj,vi,vh,vg,vf,u64,xK,xJ,xI,xH,xG,xF,xE,xD,xC,xB,xA,xz,xy,xx,xw,xv,xu,xt,xr,Bg,Bf,Be,Bd,Bc,Bb,Ba,A9,A8,A7,A6,A5,A4,A3,A2,A1,nh,ng,nc,na,mZ,mY,mX,mW,mV,mU,mT,mS,mR,mQ,mP,mO,mN,mM,mL,mK,mJ,mI,mH,mG,mF,mE,mD,mC,mB,mA,mz,mw,mv,mu,mr,mq,mo,mn,mm,ml,pI,pH,pG,rh,ra,qZ,qY,qX,qW,qV,qU,qT,qS,qR,qQ,qP,qO,qN,qM,qL,qK,qJ,qI,qH,qG,qF,qE,qD,qC,qB,qA,qz,qy,tn,tm,tj,ti,th,tg,tf,tc,sZ,sY,sX,sW,sV,sU,sT,sS,sR,sQ,sP,sO,sM,sL,sK,sJ,sI,sH,sG,sF,sE,sD,sC,sB,sA,sx,sw,sv,su,sq,so,sn,sj,si,sh,sg,sf,rZ,rY,pF,pE,pD,pC,pB,pA,pz,pq,pn,pj,pg,pe,pd,oZ,oY,oX,oW,oV,oU,oT,jI,jH,jG,jF,jE,jD,jC,jB,jA,jz,jy,jx,jw,jv,ju,jt,js,jr,jq,jo,jn,jm,jl,jk,jj,ji,jh,jg,jf,je,jd,jc,jb,ja,iZ,iY,iX,iW,iV,iU,iT,iS,iR,iQ,iP,iO,iN,iM,iL,iK,iJ,iI],[]⟩ w:=by
 conv=>arg 2;whnf
 have hgx:gx<w.heap.size\/SZ=0:=by
  by_cases c:SZ=0
  .exact R c
  .exact L (B _ _ (hx.o.cell 0 om))
 go_wp2_with fail;go_loopg [15] SZ (λm rL W=>∃k:Nat,k<=SZ/\rL=.int .i64 k/\m=SZ-k/\dS W gx SZ (eH ST t up O k)/\Fr1 gx w W/\(∀j,W.frozen? ⟨gx,j,none⟩=false))
 case atStart=>exact⟨0,om,rfl,om,hx.o,Fr1.refl _ _,hfz⟩
 case round=>
  obtain⟨k,hk,rfl,hm,hl,hF,hf⟩:=hrel;have HM:Z _:=hm;have HL:Z _:=hl;have HF:Z _:=hF;have hsb:=B _ _ hs0;have hrb:=B _ _ r2;have s0:=(hF.cell hsb n1).trans hs0;have q2:=(hF.cell hrb n2).trans r2;have q4:=(hF.cell hrb n2).trans r4;clear hs0 r2 r4 hm hl hF;by_cases c:k<SZ
  .have hgx':gx<w.heap.size:=om
   have HU:Z (dS wr gu SZ up):=by
    have:gu<w.heap.size:=B _ _ (hu.o.cell 0 om)
    exact hu.o.same (HF.o.block gu this n3)
   have HZ:=hz.o.fr HF.o (λg hg e=>by injection hg with hg;simp at hg;omega);obtain⟨g,hg,z0,z1⟩:=HZ.cells _ _ rfl (FR+1+k) om
   injection hg with hg
   injection hg with hg
   subst hg;have hOk:=hO.o k c;rw[<-hOk.1] at z0;have c0:=HL.o.cell k c;have hci:(k:Int)<(SZ:Int):=om;obtain⟨G,hG⟩:∃G,G=gss t (if ST<=k then eH ST t up O k (k-ST) else 0) (up k) (if ST<=k then up (k-ST) else 0):=⟨_,rfl⟩;have hG256:G<256:=by
    rw[hG];refine IW ?_ (HU.o.lt k c) ?_
    .split
     .exact HL.o.lt _ om
     .omega
    .split
     .exact HU.o.lt _ om
     .omega
   have FG:Z (Calls prog 72 #[.int .i64 t,.slice (some ⟨gx,0,none⟩) SZ cx,.slice (some ⟨gu,0,none⟩) SZ cu,.int .i64 k,.int .i64 ST] wr λr w'=>r=.returned (.int .i64 G)/\w'=wr):=by
    have:=E7 t gx gu SZ cx cu k ST _ up wr HL.o HU.o c b3 om om b5
    rw[<-hG] at this;exact this
   have HG:Z _:=hG;obtain⟨Y,hY⟩:∃Y,Y=O k:=⟨_,rfl⟩;rw[<-hY] at z0 hOk;have HY:Z _:=hY;obtain⟨P,hP⟩:∃P,P=FR+1+k:=⟨_,rfl⟩;rw[<-hP] at z0;obtain⟨F1,hF1⟩:∃F1,F1=FR+1:=⟨_,rfl⟩;obtain⟨SM,hSM⟩:∃SM,SM=Y+G:=⟨_,rfl⟩;obtain⟨M,hM⟩:∃M,M=SM%256:=⟨_,rfl⟩;have w1':IntKind.i64.wrap ((FR:Int)+1)=(F1:Int):=Xd;have w2':IntKind.i64.wrap (F1:Int)=(F1:Int):=Xd;have w3':IntKind.i64.wrap ((F1:Int)+(k:Int))=(P:Int):=Xd;have w4':IntKind.i64.wrap (P:Int)=(P:Int):=Xd;have w5':IntKind.i64.wrap ((Y:Int)+(G:Int))=(SM:Int):=Xd;have w7':Int.tmod (SM:Int) 256=(M:Int):=by rw[hM];rfl
   have HSM:Z _:=hSM;have HMM:Z _:=hM;have hPl:(P:Int)<(out.length:Int):=om;have hPn:(0:Int)<=(P:Int):=om;have hkn:(0:Int)<=(k:Int):=om;clear hOk hY hG z1 HZ hP hSM hM hF1;generalize eH ST t up O k k=X at c0;go_wp2_with fail;refine FG.o.mono ?_;rintro r w1 ⟨rfl,hw⟩;subst w1;go_wp2_with fail;go_region_held3 (λW=>W.cell? ⟨sb,0,none⟩=some (.slice (some ⟨gz,0,none⟩) out.length co)/\W.cell? ⟨rb,2,none⟩=some (.int .i64 FR)/\W.cell? ⟨gz,P*2,none⟩=some (.int .i64 Y)) (first|exact⟨s0,q2,z0⟩|exact⟨(aA _ _ _ _ om).trans s0,(aA _ _ _ _ om).trans q2,(aA _ _ _ _ om).trans z0⟩|go_keep) (fail)
   go_wp2_with fail;go_roundg (SZ-(k+1))
   case measure=>have:=HM.o;omega
   refine⟨k+1,om,Xj,rfl,⟨λj hj => ?_,λj hj => ?_⟩,?_,λj => ?_⟩
   .show(World.setCell _ _ _).cell? _=_
    rw[eH];by_cases e:j=k
    .subst e
     rw[upd_same,ai c0,HMM.o,HSM.o,HG.o,HY.o]
    .rw[upd_ne _ _ _ e,aa _ _ _ _ _ (λq=>e q.symm)]
     exact HL.o.cell j hj
   .rw[eH]
    by_cases e:j=k
    .subst e
     rw[upd_same];exact YD _ om
    .rw[upd_ne _ _ _ e];exact HL.o.lt j hj
   .exact((Fr1.set HF.o _ _).drewN 1)
   .exact(Xy _ _ _ _).trans (hf j)
  .have e:k=SZ:=om
   subst e;go_wp2_with fail;exact hQ.o _ _ _ _ _ _ _ _ _ _ _ _ _ _ _ _ _ _ _ _ _ _ _ _ _ _ _ _ _ _ _ _ _ HL.o HF.o
def yY(K D C CL:Nat)(x:Nat->Nat):Bool:=decide (K=3)&&(List.range CL).any (λi=>decide (C<=cU D x i))
theorem Ma{K D C CL x}(h:K=3->∀a,a<CL->¬C<=cU D x a):yY K D C CL x=false:=by
 unfold yY;by_cases b:K=3
 .rw[decide_eq_true b,YH,List.any_eq_false]
  intro a c;rw[XL];exact h b a (Yi.1 c)
 .rw[J b,YM]
theorem JM{K D C CL j x}(a:K=3)(b:j<CL)(h:C<=cU D x j):yY K D C CL x=true:=by
 unfold yY;rw[decide_eq_true a,YH,List.any_eq_true];exact⟨j,Yi.2 b,decide_eq_true h⟩
theorem Ov{Q:Exit->Act->World->Prop}{u2 u3 u4 u5 u7 u8 u9 Di J8 J7 GH u16 Gv wg we vZ vY vX vW vV vU vT vS vR vQ vP u32 vO vN vM vL vK vJ vI vH vG vF vE vD vC vB vA vy vx vw vv vu vt vr vq vo vn vm vj vi vh vg vf u64 xK xJ xI xH xG xF xE xD xC xB xA xz xy xx xw xv xu xt xr Bg Bf Be Bd Bc Bb Ba A9 A8 A7 A6 A5 A4 A3 A2 A1 nh ng nc na mZ mY mX mW mV mU mT mS mR mQ mP mO mN mM mL mK mJ mI mH mG mF mE mD mC mB mA mz mw mv mu mr mq mo mn mm ml pI pH pG rh ra qZ qY qX qW qV qU qT qS qR qQ qP qO qN qM qL qK qJ qI qH qG qF qE qD qC qB qA qz qy tn tm tj ti th tg tf tc sZ sY sX sW sV sU sT sS sR sQ sP sO sM sL sK sJ sI sH sG sF sE sD sC sB sA sx sw sv su sq so sn sj si sh sg sf rZ rY pF pE pD pC pB pA pz pq pn pj pg pe pd oZ oY oX oW oV oU oT jI jH jG jF jE jD jC jB jA jz jy jx jw jv ju jt js jr jq jo jn jm jl jk jj ji jh jg jf je jd jc jb ja iZ iY iX iW iV iU iT iS iR iQ iP iO iN iM iL iK iJ iI:Value}(fb sb mb rb gx SZ CL FR K D palN cx co pc gz:Nat)(pa:Option Addr)(out:List One)(x:Nat->Nat)(v5 v6:Value)(w:World)(hs0:w.cell? ⟨sb,0,none⟩=some (.slice (some ⟨gz,0,none⟩) out.length co))(hz:Z (ZAt w (.slice (some ⟨gz,0,none⟩) out.length co) out))(r2:w.cell? ⟨rb,2,none⟩=some (.int .i64 FR))(r3:w.cell? ⟨rb,3,none⟩=some (.int .i64 CL))(r4:w.cell? ⟨rb,4,none⟩=some (.int .i64 SZ))(f3:w.cell? ⟨fb,3,none⟩=some (.int .i64 D))(f4:w.cell? ⟨fb,4,none⟩=some (.int .i64 K))(f8:w.cell? ⟨fb,8,none⟩=some (.slice pa palN pc))(m5:w.cell? ⟨mb,5,none⟩=some v5)(m6:w.cell? ⟨mb,6,none⟩=some v6)(hx:Z (dS w gx SZ x))(hfz:∀k,w.frozen? ⟨mb,k,none⟩=false)(n1:sb≠mb)(n2:rb≠mb)(n4:gz≠mb)(hfr:FR+SZ<out.length)(b1:SZ<=1000)(b2:FR<=100000)(b6:out.length<=4294967296)(b7:CL<=1000)(b8:palN<=1048576)(hD:Z (okD D))(hk:Z (K=3->∀k,k<CL->(k+1)*D<=8*SZ))(hQn:Z (yY K D (palN/3) CL x=false->∀v4 qv rK fU fT fS fR fQ fP fO fN fM fK fJ fI fH fG fF fE fD fC fB fA fy fx fw fu ft fq fp fo fm fj fi fh fg ff fe fc fa eZ eY eX eW eV eU eT eS eR eQ W',Kept w W'->Q .normal ⟨#[.pointer (some ⟨fb,0,none⟩),.pointer (some ⟨sb,0,none⟩),u2,u3,v4,u5,.pointer (some ⟨mb,0,none⟩),u7,u8,u9,Di,.pointer (some ⟨rb,0,none⟩),J8,J7,.slice (some ⟨gx,0,none⟩) SZ cx,GH,u16,qv,rK,wg,we,vZ,vY,vX,vW,vV,vU,vT,vS,vR,vQ,vP,u32,vO,vN,vM,vL,vK,vJ,vI,vH,vG,vF,vE,vD,vC,vB,vA,vy,vx,vw,vv,vu,vt,vr,vq,vo,vn,vm,vj,vi,vh,vg,vf,u64,xK,xJ,xI,xH,xG,xF,xE,xD,xC,xB,xA,xz,xy,xx,xw,xv,xu,xt,xr,Bg,Bf,Be,Bd,Bc,Bb,Ba,A9,A8,A7,A6,A5,A4,A3,A2,A1,nh,ng,nc,na,mZ,mY,mX,mW,mV,mU,mT,mS,mR,mQ,mP,mO,mN,mM,mL,mK,mJ,mI,mH,mG,mF,mE,mD,mC,mB,mA,mz,mw,mv,mu,mr,mq,mo,mn,mm,ml,pI,pH,pG,rh,ra,qZ,qY,qX,qW,qV,qU,qT,qS,qR,qQ,qP,qO,qN,qM,qL,qK,qJ,qI,qH,qG,qF,qE,qD,qC,qB,qA,qz,qy,fU,fT,fS,fR,fQ,fP,fO,fN,fM,fK,fJ,fI,fH,fG,fF,fE,fD,fC,fB,fA,fy,fx,fw,fu,ft,fq,fp,fo,fm,fj,fi,fh,fg,ff,fe,fc,fa,eZ,eY,eX,eW,eV,eU,eT,eS,eR,eQ,pF,pE,pD,pC,pB,pA,pz,pq,pn,pj,pg,pe,pd,oZ,oY,oX,oW,oV,oU,oT,jI,jH,jG,jF,jE,jD,jC,jB,jA,jz,jy,jx,jw,jv,ju,jt,js,jr,jq,jo,jn,jm,jl,jk,jj,ji,jh,jg,jf,je,jd,jc,jb,ja,iZ,iY,iX,iW,iV,iU,iT,iS,iR,iQ,iP,iO,iN,iM,iL,iK,iJ,iI],[]⟩ W'))(hQr:Z (yY K D (palN/3) CL x=true->∀qv rK fU fT fS fR fQ fP fO fN fM fK fJ fI fH fG fF fE fD fC fB fA fy fx fw fu ft fq fp fo fm fj fi fh fg ff fe fc fa eZ eY eX eW eV eU eT eS eR eQ W' W1,Kept w W1->W'=(((W1.setCell ⟨mb,5,none⟩ (.int .i64 16)).setCell ⟨mb,6,none⟩ (.int .i64 (pAt out (FR+SZ):Int)))).drew->Q .ret ⟨#[.pointer (some ⟨fb,0,none⟩),.pointer (some ⟨sb,0,none⟩),u2,u3,.pointer (some ⟨mb,0,none⟩),u5,.pointer (some ⟨mb,0,none⟩),u7,u8,u9,Di,.pointer (some ⟨rb,0,none⟩),J8,J7,.slice (some ⟨gx,0,none⟩) SZ cx,GH,u16,qv,rK,wg,we,vZ,vY,vX,vW,vV,vU,vT,vS,vR,vQ,vP,u32,vO,vN,vM,vL,vK,vJ,vI,vH,vG,vF,vE,vD,vC,vB,vA,vy,vx,vw,vv,vu,vt,vr,vq,vo,vn,vm,vj,vi,vh,vg,vf,u64,xK,xJ,xI,xH,xG,xF,xE,xD,xC,xB,xA,xz,xy,xx,xw,xv,xu,xt,xr,Bg,Bf,Be,Bd,Bc,Bb,Ba,A9,A8,A7,A6,A5,A4,A3,A2,A1,nh,ng,nc,na,mZ,mY,mX,mW,mV,mU,mT,mS,mR,mQ,mP,mO,mN,mM,mL,mK,mJ,mI,mH,mG,mF,mE,mD,mC,mB,mA,mz,mw,mv,mu,mr,mq,mo,mn,mm,ml,pI,pH,pG,rh,ra,qZ,qY,qX,qW,qV,qU,qT,qS,qR,qQ,qP,qO,qN,qM,qL,qK,qJ,qI,qH,qG,qF,qE,qD,qC,qB,qA,qz,qy,fU,fT,fS,fR,fQ,fP,fO,fN,fM,fK,fJ,fI,fH,fG,fF,fE,fD,fC,fB,fA,fy,fx,fw,fu,ft,fq,fp,fo,fm,fj,fi,fh,fg,ff,fe,fc,fa,eZ,eY,eX,eW,eV,eU,eT,eS,eR,eQ,pF,pE,pD,pC,pB,pA,pz,pq,pn,pj,pg,pe,pd,oZ,oY,oX,oW,oV,oU,oT,jI,jH,jG,jF,jE,jD,jC,jB,jA,jz,jy,jx,jw,jv,ju,jt,js,jr,jq,jo,jn,jm,jl,jk,jj,ji,jh,jg,jf,je,jd,jc,jb,ja,iZ,iY,iX,iW,iV,iU,iT,iS,iR,iQ,iP,iO,iN,iM,iL,iK,iJ,iI],[]⟩ W')):Code.wp prog ((f42.body.bind (dN 4)).getD .skip) Q ⟨#[.pointer (some ⟨fb,0,none⟩),.pointer (some ⟨sb,0,none⟩),u2,u3,u4,u5,.pointer (some ⟨mb,0,none⟩),u7,u8,u9,Di,.pointer (some ⟨rb,0,none⟩),J8,J7,.slice (some ⟨gx,0,none⟩) SZ cx,GH,u16,.int .i64 0,Gv,wg,we,vZ,vY,vX,vW,vV,vU,vT,vS,vR,vQ,vP,u32,vO,vN,vM,vL,vK,vJ,vI,vH,vG,vF,vE,vD,vC,vB,vA,vy,vx,vw,vv,vu,vt,vr,vq,vo,vn,vm,vj,vi,vh,vg,vf,u64,xK,xJ,xI,xH,xG,xF,xE,xD,xC,xB,xA,xz,xy,xx,xw,xv,xu,xt,xr,Bg,Bf,Be,Bd,Bc,Bb,Ba,A9,A8,A7,A6,A5,A4,A3,A2,A1,nh,ng,nc,na,mZ,mY,mX,mW,mV,mU,mT,mS,mR,mQ,mP,mO,mN,mM,mL,mK,mJ,mI,mH,mG,mF,mE,mD,mC,mB,mA,mz,mw,mv,mu,mr,mq,mo,mn,mm,ml,pI,pH,pG,rh,ra,qZ,qY,qX,qW,qV,qU,qT,qS,qR,qQ,qP,qO,qN,qM,qL,qK,qJ,qI,qH,qG,qF,qE,qD,qC,qB,qA,qz,qy,tn,tm,tj,ti,th,tg,tf,tc,sZ,sY,sX,sW,sV,sU,sT,sS,sR,sQ,sP,sO,sM,sL,sK,sJ,sI,sH,sG,sF,sE,sD,sC,sB,sA,sx,sw,sv,su,sq,so,sn,sj,si,sh,sg,sf,rZ,rY,pF,pE,pD,pC,pB,pA,pz,pq,pn,pj,pg,pe,pd,oZ,oY,oX,oW,oV,oU,oT,jI,jH,jG,jF,jE,jD,jC,jB,jA,jz,jy,jx,jw,jv,ju,jt,js,jr,jq,jo,jn,jm,jl,jk,jj,ji,jh,jg,jf,je,jd,jc,jb,ja,iZ,iY,iX,iW,iV,iU,iT,iS,iR,iQ,iP,iO,iN,iM,iL,iK,iJ,iI],[]⟩ w:=by
 conv=>arg 2;whnf
 go_wp2_with fail;go_loopg [17] CL (λm qv W=>∃k:Nat,k<=CL/\qv=.int .i64 k/\m=CL-k/\Kept w W/\Z (K=3->∀j,j<k->¬palN/3<=cU D x j))
 case atStart=>exact⟨0,O,rfl,O,Kept.refl _,λ_ j hj=>O⟩
 case round=>
  obtain⟨k,hkl,rfl,hm,hw,HN⟩:=hrel;have HM:Z _:=hm;have HW:Z (Kept w wr):=hw;have lrb:=B _ _ r2;have lfb:=B _ _ f3;have lmb:=B _ _ m5;have s0:=(hw.cell (p:=⟨sb,0,none⟩) (B _ _ hs0)).trans hs0;have q2:=(hw.cell (p:=⟨rb,2,none⟩) lrb).trans r2;have q3:=(hw.cell (p:=⟨rb,3,none⟩) lrb).trans r3;have q4:=(hw.cell (p:=⟨rb,4,none⟩) lrb).trans r4;have g3:=(hw.cell (p:=⟨fb,3,none⟩) lfb).trans f3;have g4:=(hw.cell (p:=⟨fb,4,none⟩) lfb).trans f4;have g8:=(hw.cell (p:=⟨fb,8,none⟩) lfb).trans f8;have h5:=(hw.cell (p:=⟨mb,5,none⟩) lmb).trans m5;have h6:=(hw.cell (p:=⟨mb,6,none⟩) lmb).trans m6;have hf1:∀k,wr.frozen? ⟨mb,k,none⟩=false:=λk=>(hw.frozen (p:=⟨mb,k,none⟩) lmb).trans (hfz k)
  clear hm hw;by_cases c:k<CL/\K=3
  .obtain⟨c1,c2⟩:=c
   subst c2;have hci:(k:Int)<(CL:Int):=O;obtain⟨g,hg,z0,z1⟩:=(hz.o.fr (S:=λ_=>False) (Fr.of_kept HW.o) (λg hg e=>e)).cells _ _ rfl (FR+SZ) O
   injection hg with hg
   injection hg with hg
   subst hg;have HX:Z (dS wr gx SZ x):=by
    by_cases h0:SZ=0
    .subst h0;exact⟨(λj hj=>O),(λj hj=>O)⟩
    .exact hx.o.kept O HW.o
   obtain⟨V,hV⟩:∃V,V=cU D x k:=⟨_,rfl⟩;have Fd:Z (Calls prog 73 #[.slice (some ⟨gx,0,none⟩) SZ cx,.int .i64 k,.int .i64 D] wr λr w'=>r=.returned (.int .i64 V)/\Kept wr w'):=by
    have:=BQ gx SZ cx k D x wr HX.o hD.o (hk.o rfl k c1) O
    rw[<-hV] at this;exact this
   have HV:Z _:=hV;obtain⟨A,hA⟩:∃A,A=pAt out (FR+SZ):=⟨_,rfl⟩;rw[<-hA] at z1;have HA:Z _:=hA;have HZ1:Z _:=z1;clear hV z0 hA z1 hs0 r2 r3 r4 f3 f4 f8 m5 m6 hfz;go_wp2_with fail;refine Fd.o.mono ?_;rintro r w1 ⟨rfl,hw1⟩;have lrb1:=B _ _ q2;have lfb1:=B _ _ g3;have lmb1:=B _ _ h5;have s0':=(hw1.cell (p:=⟨sb,0,none⟩) (B _ _ s0)).trans s0;have q2':=(hw1.cell (p:=⟨rb,2,none⟩) lrb1).trans q2;have q4':=(hw1.cell (p:=⟨rb,4,none⟩) lrb1).trans q4;have g8':=(hw1.cell (p:=⟨fb,8,none⟩) lfb1).trans g8;have h5':=(hw1.cell (p:=⟨mb,5,none⟩) lmb1).trans h5;have h6':=(hw1.cell (p:=⟨mb,6,none⟩) lmb1).trans h6;have hf1':∀k,w1.frozen? ⟨mb,k,none⟩=false:=λk=>(hw1.frozen (p:=⟨mb,k,none⟩) lmb1).trans (hf1 k)
   have lgz:=B _ _ HZ1.o;have z1':=(hw1.cell (p:=⟨gz,(FR+SZ)*2+1,none⟩) lgz).trans HZ1.o;have HW1:Z (Kept w w1):=HW.o.trans hw1;clear s0 q2 q3 q4 g3 g4 g8 h5 h6 hf1 hw1 HZ1;by_cases e:palN/3<=V
   .have HB:Z _:=JM rfl c1 (by rw[<-HV.o];exact e)
    have ei:(palN:Int)/3<=(V:Int):=O;clear e;obtain⟨P,hP⟩:∃P,P=FR+SZ:=⟨_,rfl⟩;rw[<-hP] at z1';have w1':IntKind.i64.wrap ((FR:Int)+(SZ:Int))=(P:Int):=Xd;have w2':IntKind.i64.wrap (P:Int)=(P:Int):=Xd;have hPl:(P:Int)<(out.length:Int):=O;have hPn:(0:Int)<=(P:Int):=O;have k0:=(aA (b:=mb) w1 5 0 (.int .i64 16) n1).trans s0';have k2:=(aA (b:=mb) w1 5 2 (.int .i64 16) n2).trans q2';have k4:=(aA (b:=mb) w1 5 4 (.int .i64 16) n2).trans q4';have kz:=(aA (b:=mb) w1 5 (P*2+1) (.int .i64 16) n4).trans z1';have k6:(w1.setCell ⟨mb,5,none⟩ (.int .i64 16)).cell? ⟨mb,6,none⟩=some v6:=(aa _ _ _ _ _ O).trans h6';clear hP;go_wp2_with fail;go_region_held3 (λW=>W.cell? ⟨sb,0,none⟩=some (.slice (some ⟨gz,0,none⟩) out.length co)/\W.cell? ⟨rb,2,none⟩=some (.int .i64 FR)/\W.cell? ⟨rb,4,none⟩=some (.int .i64 SZ)/\W.cell? ⟨gz,P*2+1,none⟩=some (.int .i64 A)) (first|exact⟨k0,k2,k4,kz⟩|exact⟨(aA _ _ _ _ O).trans k0,(aA _ _ _ _ O).trans k2,(aA _ _ _ _ O).trans k4,(aA _ _ _ _ O).trans kz⟩|go_keep) (fail)
    go_wp2_with fail;refine hQr.o HB.o _ _ _ _ _ _ _ _ _ _ _ _ _ _ _ _ _ _ _ _ _ _ _ _ _ _ _ _ _ _ _ _ _ _ _ _ _ _ _ _ _ _ _ _ _ _ _ _ _ _ _ HW1.o ?_;rw[<-HA.o]
   .have HB:Z _:=e
    have ei:¬(palN:Int)/3<=(V:Int):=O;clear e;go_wp2_with fail;go_roundg (CL-(k+1))
    case measure=>have:=HM.o;omega
    refine⟨k+1,O,Xj,rfl,HW1.o,λq j hj => ?_⟩;by_cases e:j=k
    .subst e;rw[<-HV.o];exact HB.o
    .exact HN.o (by first|rfl|trivial) j O
  .have HB:Z (yY K D (palN/3) CL x=false):=Ma (λq j hj=>HN.o q j O)
   clear hs0 r2 r3 r4 f3 f4 f8 m5 m6 hfz;by_cases c1:k<CL
   .have c2:((K:Int)==3)=false:=by rw[F];omega
    have hci:(k:Int)<(CL:Int):=O;clear c;go_wp2_with fail;exact hQn.o HB.o _ _ _ _ _ _ _ _ _ _ _ _ _ _ _ _ _ _ _ _ _ _ _ _ _ _ _ _ _ _ _ _ _ _ _ _ _ _ _ _ _ _ _ _ _ _ _ _ _ _ _ HW.o
   .have hci:¬(k:Int)<(CL:Int):=O
    clear c;go_wp2_with fail;exact hQn.o HB.o _ _ _ _ _ _ _ _ _ _ _ _ _ _ _ _ _ _ _ _ _ _ _ _ _ _ _ _ _ _ _ _ _ _ _ _ _ _ _ _ _ _ _ _ _ _ _ _ _ _ _ HW.o
def Nk:Code->Code
 | .block _ b=>b
 | c=>c
def dH(n:Nat):Code->Option Code
 | .seq (.region k o d) b=>if k=n then some (.seq (.region k o d) b) else dH n b
 | .seq _ b=>dH n b
 | _=>none
def OfR(h:Hd)(C:Nat)(out:List One)(rows:List (Nat×Nat))(w3 W:World)(mb:Nat):Prop:=∃ls e p,aH h C rows (λ_=>0) out=.bad (ls.map Ln.x) e p/\lN w3 W mb e p ls/\CP h rows ls
structure OfE (w3:World) (fb sb mb gz gr co cr palN ST:Nat) (h:Hd) (out:List One) (rows:List (Nat×Nat)):Prop where
 fd:tt w3 fb h palN
 s0:w3.cell? ⟨sb,0,none⟩=some (.slice (some ⟨gz,0,none⟩) out.length co)
 z:ZAt w3 (.slice (some ⟨gz,0,none⟩) out.length co) out
 rw:w3.ownsRow (mb+1) 146 5 (.slice (some ⟨gr,0,none⟩) rows.length cr) rows.length (gh h rows 0)
 n1:fb≠mb
 n2:sb≠mb
 n3:gz≠mb
 hz:gz<w3.heap.size
 ol:out.length<=4294967296
 by':dx out
 pal:palN<=1048576
 st:ST=bZ h
 st1:1<=ST
 st8:ST<=8
 W:h.W<=16
 H:h.H<=16
 D:okD h.D
 bits:1<=bo h
 rl:rows.length<=200
 tot:aN h rows<=200*200
theorem uw w(n:Nat)(a:n<=1048576):(Instr.makeSlice 30 (.int .i64 n) (.int .i64 n)).run prog w=.ok (.slice (some ⟨w.heap.size,0,none⟩) n n) (w.alloc (.cells (madeCells #[Value.int .i64 0] n) 3)) :=
 run_make_row' 30 3 (.int .i64 0) 8 underlying30 kQ rfl .i64 .i64 n O O w
theorem Cb n j(h:j<n):(madeCells #[Value.int .i64 0] n)[j]? = some (.int .i64 0):=by
 unfold madeCells;rw[Array.getElem?_map,Array.getElem?_range,I h];show some (#[Value.int .i64 0][j%1]!)=_
 rw[Nat.mod_one];rfl
theorem DG(w:World)n:dS (w.alloc (.cells (madeCells #[Value.int .i64 0] n) 3)) w.heap.size n (λ_=>0):=⟨λa b=>(Xr _ _ _ _ rfl).trans (Cb n a b),λa b=>Xp⟩
theorem lM.oth{w3 W W' mb b lv fv ls}(h:lM w3 W mb lv fv ls)(c:Fr1 b W W')(w:w3.heap.size<=b)(n:∀d∈ls,d.g≠b)(o:lv.ownBlock≠some b)(p:fv.ownBlock≠some b):lM w3 W' mb lv fv ls:=by
 have i:mb≠b:=by have:=h.lt;omega
 have j:=B _ _ h.c3;obtain⟨q,r⟩:=h.fil;have e:∀a,W'.cell? ⟨mb,a,none⟩=W.cell? ⟨mb,a,none⟩:=λa=>c.cell j i
 refine⟨(e 3).trans h.c3,(e 4).trans h.c4,(e 5).trans h.c5,(e 6).trans h.c6,λa k=>(e a).trans (h.c02 a k),λa=>(c.frozen j i).trans (h.fz a),h.fr.trans' c (λa k f=>O),h.lt,aU h.own c (λs g f=>o (by rw[g,f])),⟨q,aU r c (λs g f=>p (by rw[g,f]))⟩,λd l => ?_,h.dis⟩;obtain⟨t,u,m,v⟩:=h.ln d l;exact⟨t.same (c.block d.g m (n d l)),u,Xq m c.size,v⟩
theorem LR{out}(h:dx out)i:vAt out i<256:=by
 unfold vAt;rw[G];cases a:out[i]? with
 | none=>simp
 | some b=>exact(h b (X8 a)).1
theorem No{Q:Exit->Act->World->Prop}{u2 u3 u4 u5 u7 u8 Di My GH u16 J1 Gv wg we vZ vY vX vW vV vU vT vS vR vQ vP u32 vO vN vM vL vK vJ vI vH vG vF vE vD vC vB vA vy vx vw vv vu vt vr vq vo vn vm vj vi vh vg vf u64 xK xJ xI xH xG xF xE xD xC xB xA xz xy xx xw xv xu xt xr Bg Bf Be Bd Bc Bb Ba A9 A8 A7 A6 A5 A4 A3 A2 A1 nh ng nc na mZ mY mX mW mV mU mT mS mR mQ mP mO mN mM mL mK mJ mI mH mG mF mE mD mC mB mA mz mw mv mu mr mq mo mn mm ml pI pH pG rh ra qZ qY qX qW qV qU qT qS qR qQ qP qO qN qM qL qK qJ qI qH qG qF qE qD qC qB qA qz qy tn tm tj ti th tg tf tc sZ sY sX sW sV sU sT sS sR sQ sP sO sM sL sK sJ sI sH sG sF sE sD sC sB sA sx sw sv su sq so sn sj si sh sg sf rZ rY pF pE pD pC pB pA pz pq pn pj pg pe pd oZ oY oX oW oV oU oT jI jH jG jF jE jD jC jB jA jz jy jx jw jv ju jt js jr jq jo jn jm jl jk jj ji jh jg jf je jd jc jb ja iZ iY iX iW iV iU iT iS iR iQ iP iO iN iM iL iK iJ iI:Value}(fb sb mb gz gr co cr palN ST k prev:Nat)(h:Hd)(out:List One)(rows pre rs:List (Nat×Nat))(p n:Nat)(lv fv:Value)(ls:List Ln)(up:Nat->Nat)(w3 w w5:World)(rb gu cu t FR SZ CL:Nat)(HE:Z (OfE w3 fb sb mb gz gr co cr palN ST h out rows))(HL:Z (OfL h (palN/3) out rows w3 w mb k lv fv ls pre ((p,n)::rs) prev up))(hlt:Z (aN h pre<out.length))(HI:Z (lM w3 w5 mb lv fv ls))(hrb:rb≠mb)(y2:w5.cell? ⟨rb,2,none⟩=some (.int .i64 FR))(y3:w5.cell? ⟨rb,3,none⟩=some (.int .i64 CL))(y4:w5.cell? ⟨rb,4,none⟩=some (.int .i64 SZ))(HU:Z (dS w5 gu SZ (if n=0 then λ_=>0 else up)))(hgu:gu<w5.heap.size)(HFR:Z (FR=aN h pre))(HSZ:Z (SZ=aC h p))(HCL:Z (CL=bd h p))(HT:Z (t=vAt out FR))(ht4:t<=4)(HB:Z (FR+SZ<out.length))(b1:SZ<=1000)(b2:FR<=40000)(b7:CL<=16)(hsz:1<=SZ)(hQn:Z (∀v4 tx rL tw qv rK ky kv ku ix iw iu ir il ik ij ig ie ic ib ia hZ hJ hI hC gZ gY gW gV gU gT gS gR gQ gP gO gN gM gK fU fT fS fR fQ fP fO fN fM fK fJ fI fH fG fF fE fD fC fB fA fy fx fw fu ft fq fp fo fm fj fi fh fg ff fe fc fa eZ eY eX eW eV eU eT eS eR eQ kq km kj kh kg ke jZ jY jX jW jV jU jT jS jR jQ jP jO jN jM W' lv' fv' ls' prev' up',OfL h (palN/3) out rows w3 W' mb (k+1) lv' fv' ls' (pre++[(p,n)]) rs prev' up'->Q .normal ⟨#[.pointer (some ⟨fb,0,none⟩),.pointer (some ⟨sb,0,none⟩),u2,u3,v4,u5,.pointer (some ⟨mb,0,none⟩),u7,u8,.int .i64 ST,Di,.pointer (some ⟨rb,0,none⟩),.int .i64 t,.slice (some ⟨gu,0,none⟩) SZ cu,tx,rL,tw,qv,rK,wg,we,vZ,vY,vX,vW,vV,vU,vT,vS,vR,vQ,vP,u32,vO,vN,vM,vL,vK,vJ,vI,vH,vG,vF,vE,vD,vC,vB,vA,vy,vx,vw,vv,vu,vt,vr,vq,vo,vn,vm,vj,vi,vh,vg,vf,u64,xK,xJ,xI,xH,xG,xF,xE,xD,xC,xB,xA,xz,xy,xx,xw,xv,xu,xt,xr,Bg,Bf,Be,Bd,Bc,Bb,Ba,A9,A8,A7,A6,A5,A4,A3,A2,A1,nh,ng,nc,na,mZ,mY,mX,mW,mV,mU,mT,mS,mR,mQ,mP,mO,mN,mM,mL,mK,mJ,mI,mH,mG,mF,mE,mD,mC,mB,mA,mz,mw,mv,mu,mr,mq,mo,mn,mm,ml,ky,kv,ku,ix,iw,iu,ir,il,ik,ij,ig,ie,ic,ib,ia,hZ,hJ,hI,hC,gZ,gY,gW,gV,gU,gT,gS,gR,gQ,gP,gO,gN,gM,gK,fU,fT,fS,fR,fQ,fP,fO,fN,fM,fK,fJ,fI,fH,fG,fF,fE,fD,fC,fB,fA,fy,fx,fw,fu,ft,fq,fp,fo,fm,fj,fi,fh,fg,ff,fe,fc,fa,eZ,eY,eX,eW,eV,eU,eT,eS,eR,eQ,kq,km,kj,kh,kg,ke,jZ,jY,jX,jW,jV,jU,jT,jS,jR,jQ,jP,jO,jN,jM,jI,jH,jG,jF,jE,jD,jC,jB,jA,jz,jy,jx,jw,jv,ju,jt,js,jr,jq,jo,jn,jm,jl,jk,jj,ji,jh,jg,jf,je,jd,jc,jb,ja,iZ,iY,iX,iW,iV,iU,iT,iS,iR,iQ,iP,iO,iN,iM,iL,iK,iJ,iI],[]⟩ W'))(hQr:Z (∀tx rL tw qv rK ky kv ku ix iw iu ir il ik ij ig ie ic ib ia hZ hJ hI hC gZ gY gW gV gU gT gS gR gQ gP gO gN gM gK fU fT fS fR fQ fP fO fN fM fK fJ fI fH fG fF fE fD fC fB fA fy fx fw fu ft fq fp fo fm fj fi fh fg ff fe fc fa eZ eY eX eW eV eU eT eS eR eQ kq km kj kh kg ke jZ jY jX jW jV jU jT jS jR jQ jP jO jN jM W',OfR h (palN/3) out rows w3 W' mb->Q .ret ⟨#[.pointer (some ⟨fb,0,none⟩),.pointer (some ⟨sb,0,none⟩),u2,u3,.pointer (some ⟨mb,0,none⟩),u5,.pointer (some ⟨mb,0,none⟩),u7,u8,.int .i64 ST,Di,.pointer (some ⟨rb,0,none⟩),.int .i64 t,.slice (some ⟨gu,0,none⟩) SZ cu,tx,rL,tw,qv,rK,wg,we,vZ,vY,vX,vW,vV,vU,vT,vS,vR,vQ,vP,u32,vO,vN,vM,vL,vK,vJ,vI,vH,vG,vF,vE,vD,vC,vB,vA,vy,vx,vw,vv,vu,vt,vr,vq,vo,vn,vm,vj,vi,vh,vg,vf,u64,xK,xJ,xI,xH,xG,xF,xE,xD,xC,xB,xA,xz,xy,xx,xw,xv,xu,xt,xr,Bg,Bf,Be,Bd,Bc,Bb,Ba,A9,A8,A7,A6,A5,A4,A3,A2,A1,nh,ng,nc,na,mZ,mY,mX,mW,mV,mU,mT,mS,mR,mQ,mP,mO,mN,mM,mL,mK,mJ,mI,mH,mG,mF,mE,mD,mC,mB,mA,mz,mw,mv,mu,mr,mq,mo,mn,mm,ml,ky,kv,ku,ix,iw,iu,ir,il,ik,ij,ig,ie,ic,ib,ia,hZ,hJ,hI,hC,gZ,gY,gW,gV,gU,gT,gS,gR,gQ,gP,gO,gN,gM,gK,fU,fT,fS,fR,fQ,fP,fO,fN,fM,fK,fJ,fI,fH,fG,fF,fE,fD,fC,fB,fA,fy,fx,fw,fu,ft,fq,fp,fo,fm,fj,fi,fh,fg,ff,fe,fc,fa,eZ,eY,eX,eW,eV,eU,eT,eS,eR,eQ,kq,km,kj,kh,kg,ke,jZ,jY,jX,jW,jV,jU,jT,jS,jR,jQ,jP,jO,jN,jM,jI,jH,jG,jF,jE,jD,jC,jB,jA,jz,jy,jx,jw,jv,ju,jt,js,jr,jq,jo,jn,jm,jl,jk,jj,ji,jh,jg,jf,je,jd,jc,jb,ja,iZ,iY,iX,iW,iV,iU,iT,iS,iR,iQ,iP,iO,iN,iM,iL,iK,iJ,iI],[]⟩ W')):Code.wp prog ((((f42.body.bind (dN 1)).map Nk).bind (dH 19)).getD .skip) Q ⟨#[.pointer (some ⟨fb,0,none⟩),.pointer (some ⟨sb,0,none⟩),u2,u3,u4,u5,.pointer (some ⟨mb,0,none⟩),u7,u8,.int .i64 ST,Di,.pointer (some ⟨rb,0,none⟩),.int .i64 t,.slice (some ⟨gu,0,none⟩) SZ cu,My,GH,u16,J1,Gv,wg,we,vZ,vY,vX,vW,vV,vU,vT,vS,vR,vQ,vP,u32,vO,vN,vM,vL,vK,vJ,vI,vH,vG,vF,vE,vD,vC,vB,vA,vy,vx,vw,vv,vu,vt,vr,vq,vo,vn,vm,vj,vi,vh,vg,vf,u64,xK,xJ,xI,xH,xG,xF,xE,xD,xC,xB,xA,xz,xy,xx,xw,xv,xu,xt,xr,Bg,Bf,Be,Bd,Bc,Bb,Ba,A9,A8,A7,A6,A5,A4,A3,A2,A1,nh,ng,nc,na,mZ,mY,mX,mW,mV,mU,mT,mS,mR,mQ,mP,mO,mN,mM,mL,mK,mJ,mI,mH,mG,mF,mE,mD,mC,mB,mA,mz,mw,mv,mu,mr,mq,mo,mn,mm,ml,pI,pH,pG,rh,ra,qZ,qY,qX,qW,qV,qU,qT,qS,qR,qQ,qP,qO,qN,qM,qL,qK,qJ,qI,qH,qG,qF,qE,qD,qC,qB,qA,qz,qy,tn,tm,tj,ti,th,tg,tf,tc,sZ,sY,sX,sW,sV,sU,sT,sS,sR,sQ,sP,sO,sM,sL,sK,sJ,sI,sH,sG,sF,sE,sD,sC,sB,sA,sx,sw,sv,su,sq,so,sn,sj,si,sh,sg,sf,rZ,rY,pF,pE,pD,pC,pB,pA,pz,pq,pn,pj,pg,pe,pd,oZ,oY,oX,oW,oV,oU,oT,jI,jH,jG,jF,jE,jD,jC,jB,jA,jz,jy,jx,jw,jv,ju,jt,js,jr,jq,jo,jn,jm,jl,jk,jj,ji,jh,jg,jf,je,jd,jc,jb,ja,iZ,iY,iX,iW,iV,iU,iT,iS,iR,iQ,iP,iO,iN,iM,iL,iK,iJ,iI],[]⟩ w5:=by
 conv=>arg 2;whnf
 have hmk:=uw w5 SZ O;obtain⟨w6,hw6⟩:∃w6,w6=w5.alloc (.cells (madeCells #[Value.int .i64 0] SZ) 3):=⟨_,rfl⟩;rw[<-hw6] at hmk;have K6:Z (Kept w5 w6):=by rw[hw6];exact Xw (Xs _ _) (E _) _
 obtain⟨gx,hgx⟩:∃gx,gx=w5.heap.size:=⟨_,rfl⟩;have L6:Z (dS w6 gx SZ (λ_=>0)):=by rw[hw6,hgx];exact DG w5 SZ
 have F6:Z (∀j,w6.frozen? ⟨gx,j,none⟩=false):=λj=>by rw[hw6,hgx];exact XB _ _ _ _ rfl
 have S6:Z (w6.heap.size=gx+1):=by show _=_;rw[hw6,hgx];simp
 rw[<-hgx] at hmk;have HGX:Z _:=hgx;clear hw6;have hI6:=HI.o.kept K6.o;have hsb3:sb<w3.heap.size:=B _ _ HE.o.s0;have hsz5:=HI.o.fr.size;have hm3:=HI.o.lt;have hfb3:=HE.o.fd.lt;have hgz3:=HE.o.hz;have hrb5:rb<w5.heap.size:=B _ _ y2;have s6:=(hI6.fr.cell hsb3 HE.o.n2).trans HE.o.s0;have z6:Z _:=HE.o.z.fr hI6.fr (λg hg e=>by injection hg with hg;simp at hg;have:=HE.o.n3;omega);have r2:=(K6.o.cell (p:=⟨rb,2,none⟩) hrb5).trans y2;have r3:=(K6.o.cell (p:=⟨rb,3,none⟩) hrb5).trans y3;have r4:=(K6.o.cell (p:=⟨rb,4,none⟩) hrb5).trans y4;have U6:Z _:=HU.o.kept O K6.o;have HI6:Z _:=hI6;have d6:Z _:=HE.o.fd.same (hI6.fr.block fb hfb3 HE.o.n1);have HO:Z (∀i,i<SZ->oAt (out.drop (FR+1)) i=vAt out (FR+1+i)/\oAt (out.drop (FR+1)) i<256):=λi hi=>by
  have e:oAt (out.drop (FR+1)) i=vAt out (FR+1+i):=by
   unfold oAt vAt;rw[G,Y1,G]
  exact⟨e,by rw[e];exact LR HE.o.by' _⟩
 have ol:=HE.o.ol;have hne1:Z (sb≠gx/\rb≠gx/\gu≠gx/\gz≠gx/\fb≠gx/\mb≠gx):=by
  have:=HGX.o
  refine⟨?_,?_,?_,?_,?_,?_⟩<;>omega
 clear y2 y3 hI6 hgx;go_upto_block 2 with fail
 refine Ow sb rb gx gu SZ FR ST t cu SZ co gz out (if n=0 then λ_=>0 else up) (oAt (out.drop (FR+1))) w6 s6 z6 r2 r4 U6 L6 F6.o hne1.o.1 hne1.o.2.1 hne1.o.2.2.1 hne1.o.2.2.2.1 HB.o O O HE.o.st1 HE.o.st8 ht4 ol HO ?_;intro rL tw ix iw iu ir il ik ij ig ie ic ib ia hZ hJ hI hC gZ gY gW gV gU gT gS gR gQ gP gO gN gM gK w7 hl7 hf7;have k7:∀c j,c<w6.heap.size->c≠gx->w7.cell? ⟨c,j,none⟩=w6.cell? ⟨c,j,none⟩:=λc j h1 h2=>hf7.cell h1 h2
 have hs6:=S6.o;have hgx5:=HGX.o;obtain⟨e1,e2,e3,e4,e5,e6⟩:=hne1.o;have s7:=(k7 sb 0 O e1).trans s6;have q2:=(k7 rb 2 O e2).trans r2;have q3:=(k7 rb 3 O e2).trans r3;have q4:=(k7 rb 4 O e2).trans r4;have z7:Z _:=z6.o.fr hf7 (λg hg e=>by injection hg with hg;simp at hg;omega);have d7:=d6.o.same (hf7.block fb O e5);obtain⟨pa,pc,d8⟩:=d7.c8;have hI7:=HI6.o.oth hf7 O (λa ha=>by have:=(HI.o.ln a ha).2.2.1;omega) (λe=>by have:=(HI.o.own.lt _ e).2;omega) (λe=>by obtain⟨fs,hfs⟩:=HI.o.fil;have:=(hfs.lt _ e).2;omega);have HI7:Z _:=hI7;have m5:=hI7.c5;have m6:=hI7.c6;have mf:=hI7.fz;have f3:=d7.c3;have f4:=d7.c4;have hgx7:Z _:=Xq (show gx<w6.heap.size from O) hf7.size;obtain⟨X,hX⟩:∃X,X=eH ST t (if n=0 then λ_=>0 else up) (oAt (out.drop (FR+1))) SZ:=⟨_,rfl⟩;rw[<-hX] at hl7;have L7:Z _:=hl7;have HLX:Z (X=bw h p n t up (out.drop (FR+1))):=by
  show X=bw h p n t up (out.drop (FR+1))
  rw[hX];unfold bw;rw[<-HE.o.st,<-HSZ.o]
 have HK:Z (h.K=3->∀k,k<CL->(k+1)*h.D<=8*SZ):=λq k hk=>by
  have h1:(k+1)*h.D<=CL*h.D:=XS _ hk;have h2:=HSZ.o;unfold aC bo at h2;rw[q,<-HCL.o,show chn 3=1 from rfl,Zi] at h2;omega
 have HIX:Z (eh h (palN/3) p X=yY h.K h.D (palN/3) CL X):=by
  show eh h (palN/3) p X=yY h.K h.D (palN/3) CL X
  rw[HCL.o];rfl
 have HDD:Z (okD h.D):=HE.o.D;clear k7 s6 r2 r3 r4 hl7 hf7 hX d7 hI7 hs6 hgx5 e1 e2 e3 e4 e5 e6 L6 U6;go_upto_block 4 with fail
 refine Ov fb sb mb rb gx SZ CL FR h.K h.D palN SZ co pc gz pa out X _ _ w7 s7 z7 q2 q3 q4 f3 f4 d8 m5 m6 L7 mf HE.o.n2 hrb HE.o.n3 HB.o O O ol O HE.o.pal HDD HK ?_ ?_
 .intro hbad v4 qv rK fU fT fS fR fQ fP fO fN fM fK fJ fI fH fG fF fE fD fC fB fA fy fx fw fu ft fq fp fo fm fj fi fh fg ff fe fc fa eZ eY eX eW eV eU eT eS eR eQ w8 hk8
  have hI8:=HI7.o.kept hk8;have L8:Z _:=L7.o.kept O hk8;have hgx8:=Xq hgx7.o hk8.size;have HIB:Z _:=HIX.o.trans hbad;have c3:=hI8.c3;have mf8:=hI8.fz;have hown:=hI8.own;have hm8:=hI8.lt;have hfr8:=hI8.fr.size;have ngl:lv.ownBlock≠some gx:=λe=>by have:=(HI.o.own.lt _ e).2;have:=HGX.o;omega
  have ngf:fv.ownBlock≠some gx:=λe=>by obtain⟨fs,hfs⟩:=HI.o.fil;have:=(hfs.lt _ e).2;have:=HGX.o;omega
  obtain⟨pl,cl,hlv⟩:=ak hown;have hlen:ls.length<=200:=by
   have h1:=HL.o.lenl;have h2:=HL.o.len;have h3:=HE.o.rl;rw[HL.o.split,Xv] at h3;omega
  have HLV:Z _:=hlv;rw[hlv] at c3;have HC:Z (∀j u,[Value.slice (some ⟨gx,0,none⟩) SZ SZ][j]? = some u->(w8.alloc (.cells #[.slice (some ⟨gx,0,none⟩) SZ SZ] 30)).cell? (Addr.add ⟨w8.heap.size,0,none⟩ j)=some u):=by
   intro j u hj
   match j,hj with
   | 0,hj=>simp at hj;subst hj;simp[Addr.add]
   | j+1,hj=>simp at hj
  have HI8:Z _:=hI8;have HOW:Z (w8.ownsRow w3.heap.size 30 1 lv ls.length (ls.map lnV)):=hown;have HNG:Z (lv.ownBlock≠some gx/\fv.ownBlock≠some gx):=⟨ngl,ngf⟩;clear hI8 hown ngl ngf hbad hk8 hlv m5 m6 mf s7 q2 q3 q4 f3 f4 d8;go_wp2_with (at_builtin;refine ch _ 103 30 1 24 (.slice none 0 0) underlying103 IN rfl O rfl _ _ rfl w3.heap.size lv ls.length (ls.map lnV) (by rw[HLV.o];rfl) (HOW.o.alloc _) ⟨w8.heap.size,0,none⟩ 1 1 [.slice (some ⟨gx,0,none⟩) SZ SZ] rfl rfl O HC.o (by intro u hu;simp at hu;subst hu;rfl) Xn O Xf ?_)
  intro v' w9 ho9 hg9 hn9;obtain⟨p',c',hv'⟩:=ak ho9;have hIa:lM w3 (w8.alloc (.cells #[.slice (some ⟨gx,0,none⟩) SZ SZ] 30)) mb lv fv ls:=HI8.o.kept (Xw (Xs _ _) (E _) _);obtain⟨fs,g1,g2,g3,g4,g5,g6,g7,g8⟩:=hIa.line (a:=⟨gx,SZ,X⟩) (lv':=v') (L8.o.kept O (Xw (Xs _ _) (E _) _)) (by show w3.heap.size<=gx;have:=HI.o.fr.size;have:=HGX.o;omega) (by show gx<_;simp;omega) HNG.o.1 HNG.o.2 hg9 ho9 (λk hk=>by rcases hn9 k hk with q|q;exact L q;exact R (by simpa using q));have hmo:some mb≠lv.ownBlock:=λe=>by have:=(HOW.o.lt mb e.symm).1;omega
  have blkm:=(hg9.block mb Xf hmo).trans (YR _ _ _ O);have c39:=(XK (w:=w8) blkm).trans c3;have f39:∀k,w9.frozen? ⟨mb,k,none⟩=false:=λk=>(X2 (w:=w8) blkm).trans (mf8 k)
  subst hv';obtain⟨w10,hw10⟩:∃w10,w10=w9.setCell ⟨mb,3,none⟩ (.slice p' (ls.length+1) c'):=⟨_,rfl⟩;rw[<-hw10] at g1 g3 g4 g5 g6 g7 g8;obtain⟨pf,cf,hfv⟩:=ak g1;have c49:w10.cell? ⟨mb,4,none⟩=some (.slice pf ls.length cf):=by rw[<-hfv];exact(g5 4 O).trans hIa.c4
  have G1:Z (w10.ownsRow w3.heap.size 3 1 fv ls.length fs):=g1;have G2:Z _:=g2;have G3:Z _:=g3;have G4:Z _:=g4;have G5:Z _:=g5;have G6:Z _:=g6;have G8:Z _:=g8;have HIa:Z _:=hIa;have hm10:mb<w10.heap.size:=B _ _ g6;have hs10:=g4.size;have HFV:Z _:=hfv;have HW10:Z _:=hw10;have HC2:Z (∀j u,[Value.int .i64 t][j]? = some u->(w10.alloc (.cells #[.int .i64 t] 3)).cell? (Addr.add ⟨w10.heap.size,0,none⟩ j)=some u):=by
   intro j u hj
   match j,hj with
   | 0,hj=>simp at hj;subst hj;simp[Addr.add]
   | j+1,hj=>simp at hj
  clear g1 g2 g3 g4 g5 g6 g8 hIa ho9 hg9 hn9 hmo blkm hfv hw10 c3 mf8;go_upto_region 34 with fail
  rw[<-HW10.o];go_wp2_with (at_builtin;refine ch _ 30 3 1 8 (.int .i64 0) underlying30 kQ rfl O rfl _ _ rfl w3.heap.size fv ls.length fs (by rw[HFV.o];rfl) (G1.o.alloc _) ⟨w10.heap.size,0,none⟩ 1 1 [.int .i64 t] rfl rfl O HC2.o (by intro u hu;simp at hu;subst hu;rfl) Xn O Xf ?_)
  intro v2 w11 ho11 hg11 hn11;obtain⟨p2,c2,hv2⟩:=ak ho11;obtain⟨wa,hwa⟩:∃wa,wa=w10.alloc (.cells #[.int .i64 t] 3):=⟨_,rfl⟩;have Ka:Kept w10 wa:=by rw[hwa];exact Xw (Xs _ _) (E _) _
  rw[<-hwa] at hg11;have ca:∀j,wa.cell? ⟨mb,j,none⟩=w10.cell? ⟨mb,j,none⟩:=λj=>Ka.cell (p:=⟨mb,j,none⟩) hm10
  have hsa:wa.heap.size=w10.heap.size+1:=by rw[hwa];simp
  have FIN:=
   lM.filt (W:=wa) (ls:=ls) hm8 Xi (bO G1.o Ka) G2.o (bO G3.o Ka) (G4.o.kept Ka) ((ca 3).trans G6.o) ((ca 4).trans ((G5.o 4 O).trans HIa.o.c4)) ((ca 5).trans ((G5.o 5 O).trans HIa.o.c5)) ((ca 6).trans ((G5.o 6 O).trans HIa.o.c6)) (λj hj=>(ca j).trans ((G5.o j O).trans (HIa.o.c02 j hj))) (λj=>((λj=>Ka.frozen (p:=⟨mb,j,none⟩) hm10) j).trans (g7 j)) (λb hb=>by
    obtain⟨b1,b2,b3,b4,b5⟩:=G8.o b hb;exact⟨b1.same (Ka.block b.g b3),b2,O,b4,b5⟩) hg11 ho11 (λk hk=>by rcases hn11 k hk with q|q;exact L q;exact R O)
  have hmo:some mb≠fv.ownBlock:=λe=>by have:=(G1.o.lt mb e.symm).1;omega
  have blkm:=(hg11.block mb O hmo).trans (Ka.block mb hm10);have c411:=(XK (w:=w10) blkm).trans c49;have f411:∀k,w11.frozen? ⟨mb,k,none⟩=false:=λk=>(X2 (w:=w10) blkm).trans (g7 k)
  subst hv2;have HFIN:Z _:=FIN;clear FIN blkm hmo hsa ca Ka hwa ho11 hg11 hn11 c49 g7 f39 c39;go_wp2_with fail;obtain⟨hnx,hpL,hcol,hlin,hprev⟩:=tV HL.o.pos;have h1:=HL.o.len;have h2:=HL.o.lenl;refine hQn.o _ _ _ _ _ _ _ _ _ _ _ _ _ _ _ _ _ _ _ _ _ _ _ _ _ _ _ _ _ _ _ _ _ _ _ _ _ _ _ _ _ _ _ _ _ _ _ _ _ _ _ _ _ _ _ _ _ _ _ _ _ _ _ _ _ _ _ _ _ _ _ _ _ _ _ _ _ _ _ _ _ _ _ _ _ _ _ _ _ _ _ _ _ _ _ _ _ _ _ _ _ _ _ _ _ _ _ _ _ (ls++[⟨gx,SZ,X⟩]) SZ X ⟨HFIN.o,?_,?_,?_,?_,?_,?_,?_⟩
  .rw[HL.o.split];simp
  .rw[Xv,h1];rfl
  .rw[Xv,h2];rfl
  .rw[HSZ.o];exact hnx
  .intro _
   refine⟨⟨gx,SZ,X⟩,?_,O,rfl,rfl⟩;rw[YL,<-h2,XP (E _),YC];rfl
  .have q:=HL.o.eq
   rw[et out _ hlt.o,aH,N (by show ¬4<vAt out (aN h pre);rw[<-HFR.o,<-HT.o];omega),N (by rw[<-HFR.o,<-HSZ.o,Yn];have:=HB.o;omega)] at q;rw[<-HFR.o,<-HSZ.o] at q;have ex:bw h p n (vAt out FR) up (out.drop (FR+1))=X:=by rw[<-HT.o,<-HLX.o]
   rw[N (by show ¬eh h (palN/3) p (bw h p n (vAt out FR) up (out.drop (FR+1)))=true;rw[ex,HIB.o];decide)] at q;rw[q];show((aH h (palN/3) rs (bw h p n (vAt out FR) up (out.drop (FR+1))) ((out.drop (FR+1)).drop SZ)).cons (bw h p n (vAt out FR) up (out.drop (FR+1)))).app (ls.map Ln.x)=_
   rw[ex,ImR.app_cons,Zf,YV,kA,aN,aN,<-HFR.o,<-HSZ.o,show FR+1+SZ=FR+(1+SZ+0) from O];rfl
  .intro j a hj
   by_cases c:j<ls.length
   .rw[XV c] at hj
    exact HL.o.sz j a hj
   .rw[XP O] at hj
    have e0:j-ls.length=0:=by
     by_cases e:j-ls.length=0
     .exact e
     .obtain⟨m,hm⟩:∃m,j-ls.length=m+1:=⟨j-ls.length-1,O⟩
      rw[hm] at hj;simp at hj
    rw[e0] at hj;simp at hj;subst hj;refine⟨p,n,?_,HSZ.o⟩;rw[HL.o.split,XP O,show j-pre.length=0 from O];rfl
 .intro hbad qv rK fU fT fS fR fQ fP fO fN fM fK fJ fI fH fG fF fE fD fC fB fA fy fx fw fu ft fq fp fo fm fj fi fh fg ff fe fc fa eZ eY eX eW eV eU eT eS eR eQ w9 w8 hk8 hw9
  subst hw9;have hI8:=HI7.o.kept hk8;refine hQr.o _ _ _ _ _ _ _ _ _ _ _ _ _ _ _ _ _ _ _ _ _ _ _ _ _ _ _ _ _ _ _ _ _ _ _ _ _ _ _ _ _ _ _ _ _ _ _ _ _ _ _ _ _ _ _ _ _ _ _ _ _ _ _ _ _ _ _ _ _ _ _ _ _ _ _ _ _ _ _ _ _ _ _ _ _ _ _ _ _ _ _ _ _ _ _ _ _ _ _ _ _ _ _ _ _ _ ⟨ls,16,pAt out (FR+SZ),?_,((hI8.fin.set5 16).set6 _).kept ((Kept.refl _).drewN 1),HL.o.sz⟩;have q:=HL.o.eq;rw[et out _ hlt.o,aH,N (by show ¬4<vAt out (aN h pre);rw[<-HFR.o,<-HT.o];omega),N (by rw[<-HFR.o,<-HSZ.o,Yn];have:=HB.o;omega)] at q;rw[<-HFR.o,<-HSZ.o] at q;show _=ImR.bad (ls.map Ln.x) 16 (pAt out (FR+SZ))
  rw[I (by show eh h (palN/3) p (bw h p n (vAt out FR) up (out.drop (FR+1)))=true;rw[<-HT.o,<-HLX.o];exact HIX.o.trans hbad)] at q;rw[q];show ImR.bad (ls.map Ln.x++[]) 16 _=_
  rw[XN]
  congr 1
  unfold pAt;rw[G,Y1,G,show FR+1+(SZ-1)=FR+SZ from O]
