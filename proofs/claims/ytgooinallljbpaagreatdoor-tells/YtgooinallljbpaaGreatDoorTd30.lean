import Derived.Test.YtgooinallljbpaaGreatDoorTd29
set_option maxRecDepth 100000
set_option maxHeartbeats 6400000
namespace Go.Proofs.YtgooinallljbpaaGreatDoor
open Go.RowKit Px
set_option linter.unusedSimpArgs false
set_option linter.unusedVariables false
noncomputable def NI:Code:=(Tryz.f42.body.bind (fD 0)).getD .skip
structure K8 (w3:World) (fb sb mb co cr palN ST:Nat) (po pr:Option Addr) (h:Hd) (out:List One) (rows:List (Nat × Nat)):Prop where
 fd:rV w3 fb h palN
 s0:w3.cell? ⟨sb,0,none⟩=some (.slice po out.length co)
 z:ZAt w3 (.slice po out.length co) out
 rw:w3.ownsRow (mb+1) 146 5 (.slice pr rows.length cr) rows.length (kO h rows 0)
 n1:fb≠mb
 n2:sb≠mb
 n3:∀ a,po=some a->a.block≠mb
 ol:out.length<=4294967296
 by':eU out
 pal:palN<=1048576
 st:ST=cE h
 st1:1<=ST
 st8:ST<=8
 W:h.W<=16
 H:h.H<=16
 D:okD h.D
 bits:1<=bG h
 rl:rows.length<=200
 tot:aH h rows<=200*200
theorem K8.get {w3:World} {fb sb mb co cr palN ST gz gr:Nat} {h:Hd} {out:List One} {rows:List (Nat × Nat)} (k:K8 w3 fb sb mb co cr palN ST (some ⟨gz,0,none⟩) (some ⟨gr,0,none⟩) h out rows) (hz:gz<w3.heap.size):OfE w3 fb sb mb gz gr co cr palN ST h out rows:=
 ⟨k.fd,k.s0,k.z,k.rw,k.n1,k.n2,k.n3 _ rfl,hz,k.ol,k.by',k.pal,k.st,k.st1,k.st8,k.W,k.H,k.D,k.bits,k.rl,k.tot⟩
theorem No {Q:Exit->Act->World->Prop} {u2 u3 u4 u5 u8 vh tP ux uv se u16 si rR oY oX oW oV oU oT oS oR oQ oP oO oN oM u32 oL oK oJ oI oH oG oF oE oD oC oB oA oz oy ox ow ou ot oq oo om oj oi oh og oe od ob oa nZ nY u64 pS pR qn qm ql qk qj qi qh qg qf qe qd qc qb qa qt qq qp rE rD rC rB rA rz ry ru rq rp rm rk rj rh ra qZ fc ey ew ev eu ej eh ed dZ dY dX dW dV dU dT dS dR dQ dP dO dN dM dL dK dJ dI dH dG dF dE dD dC dB dA dz dy dx dw du dt fq fp gm iu ir ik ij ig ie ib gZ gY gX gW gV gU gT gS gR gQ gP gO gN gM gK gJ gI gH gG gF gE gB gA kL kK kJ kI kG kF kE kD kC kB ky kv ku kj kf ke j9 j8 j7 j6 j5 j4 jZ jY jX jW jV jU jT jS jR jQ jP jO jN jM jL jK jJ jI jH jG jF jE jD jC jB gj gi gh gg gf gd ga fZ fY fX tO tN tM tL tK tJ tI tH tG tF nT nR nQ nP nO nM nL nJ nI nH nG nF nE nD nB nA nz ny nv nu nt nr np nk nj ni nh ng nc na m9 m8 m7 mZ mY mX mW mV mU mT mS mR mQ mP mO mN mM mL mK mJ mI mH:Value} (fb sb mb co cr palN ST:Nat) (po pr:Option Addr) (h:Hd) (out:List One) (rows:List (Nat × Nat)) (w3:World)
  (HE:Hid (K8 w3 fb sb mb co cr palN ST po pr h out rows)) (HL0:Hid (OfL h (palN / 3) out rows w3 w3 mb 0 (.slice none 0 0) (.slice none 0 0) [] [] rows 0 (fun _=>0)))
  (hQn:Hid (∀ v4 Ga zH xE vf vw va vv uu uP ML MK MJ MI MH MG MF ME MD MB MA Mz My Mx Mw Mv Lf Le Ld zG zF zE zD zC zy zx zw zu zt zq zo zm zk zj zi qx tE tD tC tB tA tz tx tu tt ts tr tq tp tn tm tj th tg tf tc s9 s8 sZ sY sX sW sV sU sT sS sR sQ sP sO sM sL sK sJ sI pG pF pE mu mr mq mo mn mm ml mj mi mh mg lZ lY lX lW lV lU lT lS lR lQ lP lO lN lM lL lK lJ lI lH jA jz jy jx jw jv ju jt js jr jq jo jn jm jl jk jj ji jh jg jf je jd jc jb ja iZ iY iX iW iV iU iT iS iR iQ iP iO iN iM iL iK iJ iI iH iG iF pD pC pB pA pz pq pn pj pg pe pd o9 o8 o7 o6 o5 o4 o3 o0 oZ W' ls im,OfZ h (palN / 3) out rows w3 W' mb ls im->Q .normal ⟨#[.pointer (some ⟨fb,0,none⟩),.pointer (some ⟨sb,0,none⟩),u2,u3,v4,u5,.pointer (some ⟨mb,0,none⟩),.slice pr rows.length cr,u8,.int .i64 (ST:Int),Ga,zH,xE,vf,vw,va,vv,uu,uP,oY,oX,oW,oV,oU,oT,oS,oR,oQ,oP,oO,oN,oM,u32,oL,oK,oJ,oI,oH,oG,oF,oE,oD,oC,oB,oA,oz,oy,ox,ow,ou,ot,oq,oo,om,oj,oi,oh,og,oe,od,ob,oa,nZ,nY,u64,ML,MK,MJ,MI,MH,MG,MF,ME,MD,MB,MA,Mz,My,Mx,Mw,Mv,Lf,Le,Ld,zG,zF,zE,zD,zC,zy,zx,zw,zu,zt,zq,zo,zm,zk,zj,zi,qx,tE,tD,tC,tB,tA,tz,tx,tu,tt,ts,tr,tq,tp,tn,tm,tj,th,tg,tf,tc,s9,s8,sZ,sY,sX,sW,sV,sU,sT,sS,sR,sQ,sP,sO,sM,sL,sK,sJ,sI,pG,pF,pE,mu,mr,mq,mo,mn,mm,ml,mj,mi,mh,mg,lZ,lY,lX,lW,lV,lU,lT,lS,lR,lQ,lP,lO,lN,lM,lL,lK,lJ,lI,lH,jA,jz,jy,jx,jw,jv,ju,jt,js,jr,jq,jo,jn,jm,jl,jk,jj,ji,jh,jg,jf,je,jd,jc,jb,ja,iZ,iY,iX,iW,iV,iU,iT,iS,iR,iQ,iP,iO,iN,iM,iL,iK,iJ,iI,iH,iG,iF,pD,pC,pB,pA,pz,pq,pn,pj,pg,pe,pd,o9,o8,o7,o6,o5,o4,o3,o0,oZ,nT,nR,nQ,nP,nO,nM,nL,nJ,nI,nH,nG,nF,nE,nD,nB,nA,nz,ny,nv,nu,nt,nr,np,nk,nj,ni,nh,ng,nc,na,m9,m8,m7,mZ,mY,mX,mW,mV,mU,mT,mS,mR,mQ,mP,mO,mN,mM,mL,mK,mJ,mI,mH],[]⟩ W'))
  (hQr:Hid (∀ Ga zH xE vf vw va vv uu uP ML MK MJ MI MH MG MF ME MD MB MA Mz My Mx Mw Mv Lf Le Ld zG zF zE zD zC zy zx zw zu zt zq zo zm zk zj zi qx tE tD tC tB tA tz tx tu tt ts tr tq tp tn tm tj th tg tf tc s9 s8 sZ sY sX sW sV sU sT sS sR sQ sP sO sM sL sK sJ sI pG pF pE mu mr mq mo mn mm ml mj mi mh mg lZ lY lX lW lV lU lT lS lR lQ lP lO lN lM lL lK lJ lI lH jA jz jy jx jw jv ju jt js jr jq jo jn jm jl jk jj ji jh jg jf je jd jc jb ja iZ iY iX iW iV iU iT iS iR iQ iP iO iN iM iL iK iJ iI iH iG iF pD pC pB pA pz pq pn pj pg pe pd o9 o8 o7 o6 o5 o4 o3 o0 oZ W',OfR h (palN / 3) out rows w3 W' mb->Q .ret ⟨#[.pointer (some ⟨fb,0,none⟩),.pointer (some ⟨sb,0,none⟩),u2,u3,.pointer (some ⟨mb,0,none⟩),u5,.pointer (some ⟨mb,0,none⟩),.slice pr rows.length cr,u8,.int .i64 (ST:Int),Ga,zH,xE,vf,vw,va,vv,uu,uP,oY,oX,oW,oV,oU,oT,oS,oR,oQ,oP,oO,oN,oM,u32,oL,oK,oJ,oI,oH,oG,oF,oE,oD,oC,oB,oA,oz,oy,ox,ow,ou,ot,oq,oo,om,oj,oi,oh,og,oe,od,ob,oa,nZ,nY,u64,ML,MK,MJ,MI,MH,MG,MF,ME,MD,MB,MA,Mz,My,Mx,Mw,Mv,Lf,Le,Ld,zG,zF,zE,zD,zC,zy,zx,zw,zu,zt,zq,zo,zm,zk,zj,zi,qx,tE,tD,tC,tB,tA,tz,tx,tu,tt,ts,tr,tq,tp,tn,tm,tj,th,tg,tf,tc,s9,s8,sZ,sY,sX,sW,sV,sU,sT,sS,sR,sQ,sP,sO,sM,sL,sK,sJ,sI,pG,pF,pE,mu,mr,mq,mo,mn,mm,ml,mj,mi,mh,mg,lZ,lY,lX,lW,lV,lU,lT,lS,lR,lQ,lP,lO,lN,lM,lL,lK,lJ,lI,lH,jA,jz,jy,jx,jw,jv,ju,jt,js,jr,jq,jo,jn,jm,jl,jk,jj,ji,jh,jg,jf,je,jd,jc,jb,ja,iZ,iY,iX,iW,iV,iU,iT,iS,iR,iQ,iP,iO,iN,iM,iL,iK,iJ,iI,iH,iG,iF,pD,pC,pB,pA,pz,pq,pn,pj,pg,pe,pd,o9,o8,o7,o6,o5,o4,o3,o0,oZ,nT,nR,nQ,nP,nO,nM,nL,nJ,nI,nH,nG,nF,nE,nD,nB,nA,nz,ny,nv,nu,nt,nr,np,nk,nj,ni,nh,ng,nc,na,m9,m8,m7,mZ,mY,mX,mW,mV,mU,mT,mS,mR,mQ,mP,mO,mN,mM,mL,mK,mJ,mI,mH],[]⟩ W')) :
  Code.wp Tryz.prog NI Q ⟨#[.pointer (some ⟨fb,0,none⟩),.pointer (some ⟨sb,0,none⟩),u2,u3,u4,u5,.pointer (some ⟨mb,0,none⟩),.slice pr rows.length cr,u8,.int .i64 (ST:Int),.int .i64 0,vh,tP,ux,uv,se,u16,si,rR,oY,oX,oW,oV,oU,oT,oS,oR,oQ,oP,oO,oN,oM,u32,oL,oK,oJ,oI,oH,oG,oF,oE,oD,oC,oB,oA,oz,oy,ox,ow,ou,ot,oq,oo,om,oj,oi,oh,og,oe,od,ob,oa,nZ,nY,u64,pS,pR,qn,qm,ql,qk,qj,qi,qh,qg,qf,qe,qd,qc,qb,qa,qt,qq,qp,rE,rD,rC,rB,rA,rz,ry,ru,rq,rp,rm,rk,rj,rh,ra,qZ,fc,ey,ew,ev,eu,ej,eh,ed,dZ,dY,dX,dW,dV,dU,dT,dS,dR,dQ,dP,dO,dN,dM,dL,dK,dJ,dI,dH,dG,dF,dE,dD,dC,dB,dA,dz,dy,dx,dw,du,dt,fq,fp,gm,iu,ir,ik,ij,ig,ie,ib,gZ,gY,gX,gW,gV,gU,gT,gS,gR,gQ,gP,gO,gN,gM,gK,gJ,gI,gH,gG,gF,gE,gB,gA,kL,kK,kJ,kI,kG,kF,kE,kD,kC,kB,ky,kv,ku,kj,kf,ke,j9,j8,j7,j6,j5,j4,jZ,jY,jX,jW,jV,jU,jT,jS,jR,jQ,jP,jO,jN,jM,jL,jK,jJ,jI,jH,jG,jF,jE,jD,jC,jB,gj,gi,gh,gg,gf,gd,ga,fZ,fY,fX,tO,tN,tM,tL,tK,tJ,tI,tH,tG,tF,nT,nR,nQ,nP,nO,nM,nL,nJ,nI,nH,nG,nF,nE,nD,nB,nA,nz,ny,nv,nu,nt,nr,np,nk,nj,ni,nh,ng,nc,na,m9,m8,m7,mZ,mY,mX,mW,mV,mU,mT,mS,mR,mQ,mP,mO,mN,mM,mL,mK,mJ,mI,mH],[]⟩ w3:=by
 conv=>arg 2;whnf
 have hrl:=HE.out.rl;have ol:=HE.out.ol;go_wp2_with fail;go_loopg [10] rows.length (fun m Ga W=>∃ (k:Nat) (lv fv:Value) (ls:List Ln) (pre rs:List (Nat × Nat)) (prev:Nat) (up:Nat->Nat),Ga = .int .i64 (k:Int)/\m=rs.length/\OfL h (palN / 3) out rows w3 W mb k lv fv ls pre rs prev up)
 case atStart=>exact ⟨0,_,_,_,_,_,_,_,rfl,rfl,HL0.out⟩
 case round=>
  obtain ⟨k,lv,fv,ls,pre,rs,prev,up,rfl,hm,hL⟩:=hrel;have HM:Hid _:=hm;have H1:Hid (OfL h (palN / 3) out rows w3 wr mb k lv fv ls pre rs prev up):=hL;have hF:=hL.img.fr;have hsb3:sb<w3.heap.size:=World.block_lt_of_cell? _ _ HE.out.s0;have s0:wr.cell? ⟨sb,0,none⟩=some (.slice po out.length co):=(hF.cell hsb3 HE.out.n2).trans HE.out.s0;have hkl:pre.length=k:=hL.len;have hsp:=hL.split;have hsl:rows.length=k+rs.length:=by rw[hsp,List.length_append,hkl]
  clear hm hsp;cases rs with
  | nil=>
   have HD:Hid (((rows.length:Nat):Int)=(k:Int)):=by show ((rows.length:Nat):Int)=(k:Int);simp at hsl;omega
   have HZ:Hid (∃ im,OfZ h (palN / 3) out rows w3 wr mb ls im):=hL.stop;clear hL hsl hkl hF;go_wp2_with fail;have hd:=HD.out;go_quiet (fail);go_wp2_with fail;obtain ⟨im,him⟩:=HZ.out;exact hQn.out _ _ _ _ _ _ _ _ _ _ _ _ _ _ _ _ _ _ _ _ _ _ _ _ _ _ _ _ _ _ _ _ _ _ _ _ _ _ _ _ _ _ _ _ _ _ _ _ _ _ _ _ _ _ _ _ _ _ _ _ _ _ _ _ _ _ _ _ _ _ _ _ _ _ _ _ _ _ _ _ _ _ _ _ _ _ _ _ _ _ _ _ _ _ _ _ _ _ _ _ _ _ _ _ _ _ _ _ _ _ _ _ _ _ _ _ _ _ _ _ _ _ _ _ _ _ _ _ _ _ _ _ _ _ _ _ _ _ _ _ _ _ _ _ _ _ _ _ _ _ _ _ _ _ _ _ _ _ _ _ _ _ _ _ _ _ _ _ _ _ _ _ _ _ _ _ _ _ _ _ _ _ _ _ _ _ ls im ⟨him.img.kept ((Kept.refl _).drewN _),him.eq,him.lines,him.sz,him.kind⟩
  | cons x rs=>
   obtain ⟨p,n⟩:=x;have hOW:=aQ HE.out.rw hF (fun g hg e=>by have:=(HE.out.rw.lt g hg).1;omega);have hk0:k<rows.length:=by simp at hsl;omega
   obtain ⟨gr,rfl⟩:∃ gr,pr=some ⟨gr,0,none⟩:=by
    rcases hOW.2 with ⟨hv,h0⟩ | ⟨g,cap,cur,hv,hg,r⟩
    ·omega
    ·injection hv with h1 _ _;exact ⟨g,h1⟩
   have hrk:rows[k]? = some (p,n):=by rw[hL.split,List.getElem?_append_right (by omega),hkl,Nat.sub_self];rfl
   have htk:rows.take k=pre:=by rw[hL.split,<- hkl];simp
   have hrc:=vI h rows 0 k p n hrk;rw[Nat.zero_add,htk] at hrc;have r2:wr.cell? ⟨gr,k*5+2,none⟩=some (.int .i64 ((aH h pre:Nat):Int)):=by
    have:=hOW.cells rfl (k*5+2) _ hrc.2.2.1
    have e:(Addr.add ⟨gr,0,none⟩ (k*5+2))=⟨gr,k*5+2,none⟩:=by simp [Addr.add]
    rw[e] at this;exact this
   obtain ⟨FR,hFR⟩:∃ FR,FR=aH h pre:=⟨_,rfl⟩;rw[<- hFR] at r2;have hk1:(k:Int)<(rows.length:Int):=by omega
   have hk2:(0:Int)<=(k:Int):=by omega
   have HFR:Hid (FR=aH h pre):=hFR;have HSL:Hid _:=hsl;clear hrc hOW htk hrk hFR hsl hk0 hkl hF;by_cases c1:out.length<=FR
   ·have HD2:Hid (¬ ((FR:Int)<(out.length:Int))):=by show ¬ ((FR:Int)<(out.length:Int));omega
    have HC:Hid _:=c1;clear hL c1;go_wp2_with fail;have hd2:=HD2.out;go_quiet (fail);go_wp2_with fail;obtain ⟨im,him⟩:=H1.out.cut (wr.drewN nq) (H1.out.img.fin.kept ((Kept.refl _).drewN nq)) (Or.inl (by rw[<- HFR.out];exact HC.out));exact hQn.out _ _ _ _ _ _ _ _ _ _ _ _ _ _ _ _ _ _ _ _ _ _ _ _ _ _ _ _ _ _ _ _ _ _ _ _ _ _ _ _ _ _ _ _ _ _ _ _ _ _ _ _ _ _ _ _ _ _ _ _ _ _ _ _ _ _ _ _ _ _ _ _ _ _ _ _ _ _ _ _ _ _ _ _ _ _ _ _ _ _ _ _ _ _ _ _ _ _ _ _ _ _ _ _ _ _ _ _ _ _ _ _ _ _ _ _ _ _ _ _ _ _ _ _ _ _ _ _ _ _ _ _ _ _ _ _ _ _ _ _ _ _ _ _ _ _ _ _ _ _ _ _ _ _ _ _ _ _ _ _ _ _ _ _ _ _ _ _ _ _ _ _ _ _ _ _ _ _ _ _ _ _ _ _ _ _ ls im him
   ·have hd2:(FR:Int)<(out.length:Int):=by omega
    have HC:Hid (aH h pre<out.length):=by show _<_;rw[<- HFR.out];omega
    obtain ⟨gz,hgz,zz,_⟩:=HE.out.z.cells _ _ rfl FR (by omega);subst hgz;have HEE:Hid (OfE w3 fb sb mb gz gr co cr palN ST h out rows):=HE.out.get (World.block_lt_of_cell? _ _ zz);clear zz;clear hL c1;go_wp2_with fail;go_quiet (fail);obtain ⟨w4,hw4⟩:∃ w4,w4=wr.drewN nq:=⟨_,rfl⟩;rw[<- hw4];have H4:Hid (OfL h (palN / 3) out rows w3 w4 mb k lv fv ls pre ((p,n)::rs) prev up):=⟨by rw[hw4];exact H1.out.img.kept ((Kept.refl _).drewN nq),H1.out.split,H1.out.len,H1.out.lenl,H1.out.pos,H1.out.last,H1.out.eq,H1.out.sz⟩;clear hw4 s0 r2;go_upto_block 1 with fail
    refine Nn fb sb mb gz gr co cr palN ST k prev h out rows pre rs p n lv fv ls up w3 w4 HEE H4 HC ?_ ?_ ?_
    ·intro v4 zH xE vf vw va vv uu uP zG zF zE zD zC zy zx zw zu zt zq zo zm zk zj zi qx tE tD tC tB tA tz tx tu tt ts tr tq tp tn tm tj th tg tf tc s9 s8 sZ sY sX sW sV sU sT sS sR sQ sP sO sM sL sK sJ sI pG pF pE mu mr mq mo mn mm ml mj mi mh mg lZ lY lX lW lV lU lT lS lR lQ lP lO lN lM lL lK lJ lI lH jA jz jy jx jw jv ju jt js jr jq jo jn jm jl jk jj ji jh jg jf je jd jc jb ja iZ iY iX iW iV iU iT iS iR iQ iP iO iN iM iL iK iJ iI iH iG iF pD pC pB pA pz pq pn pj pg pe pd o9 o8 o7 o6 o5 o4 o3 o0 oZ w5 lv' fv' ls' prev' up' hn'
     have HN:Hid _:=hn';clear hn';have hk5:k<=200:=by have:=HSL.out;omega
     go_wp2_with fail;go_roundg rs.length
     case measure=>have:=HM.out;simp at this;omega
     exact ⟨k+1,lv',fv',ls',pre++[(p,n)],rs,prev',up',by go_num,rfl,HN.out⟩
    ·intro v4 zH xE vf vw va vv uu uP zG zF zE zD zC zy zx zw zu zt zq zo zm zk zj zi qx tE tD tC tB tA tz tx tu tt ts tr tq tp tn tm tj th tg tf tc s9 s8 sZ sY sX sW sV sU sT sS sR sQ sP sO sM sL sK sJ sI pG pF pE mu mr mq mo mn mm ml mj mi mh mg lZ lY lX lW lV lU lT lS lR lQ lP lO lN lM lL lK lJ lI lH jA jz jy jx jw jv ju jt js jr jq jo jn jm jl jk jj ji jh jg jf je jd jc jb ja iZ iY iX iW iV iU iT iS iR iQ iP iO iN iM iL iK iJ iI iH iG iF pD pC pB pA pz pq pn pj pg pe pd o9 o8 o7 o6 o5 o4 o3 o0 oZ w5 im him
     exact hQn.out _ _ _ _ _ _ _ _ _ _ _ _ _ _ _ _ _ _ _ _ _ _ _ _ _ _ _ _ _ _ _ _ _ _ _ _ _ _ _ _ _ _ _ _ _ _ _ _ _ _ _ _ _ _ _ _ _ _ _ _ _ _ _ _ _ _ _ _ _ _ _ _ _ _ _ _ _ _ _ _ _ _ _ _ _ _ _ _ _ _ _ _ _ _ _ _ _ _ _ _ _ _ _ _ _ _ _ _ _ _ _ _ _ _ _ _ _ _ _ _ _ _ _ _ _ _ _ _ _ _ _ _ _ _ _ _ _ _ _ _ _ _ _ _ _ _ _ _ _ _ _ _ _ _ _ _ _ _ _ _ _ _ _ _ _ _ _ _ _ _ _ _ _ _ _ _ _ _ _ _ _ _ _ _ _ _ ls im him
    ·intro zH xE vf vw va vv uu uP zG zF zE zD zC zy zx zw zu zt zq zo zm zk zj zi qx tE tD tC tB tA tz tx tu tt ts tr tq tp tn tm tj th tg tf tc s9 s8 sZ sY sX sW sV sU sT sS sR sQ sP sO sM sL sK sJ sI pG pF pE mu mr mq mo mn mm ml mj mi mh mg lZ lY lX lW lV lU lT lS lR lQ lP lO lN lM lL lK lJ lI lH jA jz jy jx jw jv ju jt js jr jq jo jn jm jl jk jj ji jh jg jf je jd jc jb ja iZ iY iX iW iV iU iT iS iR iQ iP iO iN iM iL iK iJ iI iH iG iF pD pC pB pA pz pq pn pj pg pe pd o9 o8 o7 o6 o5 o4 o3 o0 oZ w5 hr'
     exact hQr.out _ _ _ _ _ _ _ _ _ _ _ _ _ _ _ _ _ _ _ _ _ _ _ _ _ _ _ _ _ _ _ _ _ _ _ _ _ _ _ _ _ _ _ _ _ _ _ _ _ _ _ _ _ _ _ _ _ _ _ _ _ _ _ _ _ _ _ _ _ _ _ _ _ _ _ _ _ _ _ _ _ _ _ _ _ _ _ _ _ _ _ _ _ _ _ _ _ _ _ _ _ _ _ _ _ _ _ _ _ _ _ _ _ _ _ _ _ _ _ _ _ _ _ _ _ _ _ _ _ _ _ _ _ _ _ _ _ _ _ _ _ _ _ _ _ _ _ _ _ _ _ _ _ _ _ _ _ _ _ _ _ _ _ _ _ _ _ _ _ _ _ _ _ _ _ _ _ _ _ _ _ _ _ _ _ hr'
def qK (n:Nat):Code->Option Code
 | .region k o d=>if k=n then some (.region k o d) else none
 | .seq a b=>match qK n a with
  | some c=>some (.seq c b)
  | none=>qK n b
 | _=>none
noncomputable def M5:Code:=(Tryz.f42.body.bind (qK 35)).getD .skip
theorem lz {P:Ending->World->Prop} {b:Nat} {w:World} {r:Ending} (h:P (.returned (.pointer (some ⟨b,0,none⟩))) w) (e:r = .returned (.pointer (some ⟨b,0,none⟩))):P r w:=by rw[e];exact h
theorem of_rest {u0 u2 u3 u4 u5 u7 u9 rS vh tP ux uv se u16 si rR oY oX oW oV oU oT oS oR oQ oP oO oN oM u32 oL oK oJ oI oH oG oF oE oD oC oB oA oz oy ox ow ou ot oq oo om oj oi oh og oe od ob oa nZ nY u64 pS pR qn qm ql qk qj qi qh qg qf qe qd qc qb qa qt qq qp rE rD rC rB rA rz ry ru rq rp rm rk rj rh ra qZ fc ey ew ev eu ej eh ed dZ dY dX dW dV dU dT dS dR dQ dP dO dN dM dL dK dJ dI dH dG dF dE dD dC dB dA dz dy dx dw du dt fq fp gm iu ir ik ij ig ie ib gZ gY gX gW gV gU gT gS gR gQ gP gO gN gM gK gJ gI gH gG gF gE gB gA kL kK kJ kI kG kF kE kD kC kB ky kv ku kj kf ke j9 j8 j7 j6 j5 j4 jZ jY jX jW jV jU jT jS jR jQ jP jO jN jM jL jK jJ jI jH jG jF jE jD jC jB gj gi gh gg gf gd ga fZ fY fX tO tN tM tL tK tJ tI tH tG tF nT nR nQ nP nO nM nL nJ nI nH nG nF nE nD nB nA nz ny nv nu nt nr np nk nj ni nh ng nc na m9 m8 m7 mZ mY mX mW mV mU mT mS mR mQ mP mO mN mM mL mK mJ mI mH:Value} (P:Ending->World->Prop) (sb mb TT en co:Nat) (po:Option Addr) (h:Hd) (C:Nat) (out:List One) (dn sm:Bool) (rows:List (Nat × Nat)) (ls:List Ln) (im:ImR) (w3 w:World)
  (HS:Hid (wP w3 sb (.slice po out.length co) out dn sm en)) (HZ:Hid (OfZ h C out rows w3 w mb ls im)) (HTT:Hid (TT=aH h rows)) (b1:TT<=40000) (ol:out.length<=4294967296) (n2:sb≠mb) (HN:Hid (∀ a,po=some a->a.block≠mb))
  (HP:Hid (∀ W',mD w3 W' mb (ofE im dn sm en).1 (ofE im dn sm en).2 ls->P (.returned (.pointer (some ⟨mb,0,none⟩))) W')) :
  Code.wp Tryz.prog M5 (bodyPost Tryz.prog Tryz.f42 P) ⟨#[u0,.pointer (some ⟨sb,0,none⟩),u2,u3,u4,u5,.pointer (some ⟨mb,0,none⟩),u7,.int .i64 (TT:Int),u9,rS,vh,tP,ux,uv,se,u16,si,rR,oY,oX,oW,oV,oU,oT,oS,oR,oQ,oP,oO,oN,oM,u32,oL,oK,oJ,oI,oH,oG,oF,oE,oD,oC,oB,oA,oz,oy,ox,ow,ou,ot,oq,oo,om,oj,oi,oh,og,oe,od,ob,oa,nZ,nY,u64,pS,pR,qn,qm,ql,qk,qj,qi,qh,qg,qf,qe,qd,qc,qb,qa,qt,qq,qp,rE,rD,rC,rB,rA,rz,ry,ru,rq,rp,rm,rk,rj,rh,ra,qZ,fc,ey,ew,ev,eu,ej,eh,ed,dZ,dY,dX,dW,dV,dU,dT,dS,dR,dQ,dP,dO,dN,dM,dL,dK,dJ,dI,dH,dG,dF,dE,dD,dC,dB,dA,dz,dy,dx,dw,du,dt,fq,fp,gm,iu,ir,ik,ij,ig,ie,ib,gZ,gY,gX,gW,gV,gU,gT,gS,gR,gQ,gP,gO,gN,gM,gK,gJ,gI,gH,gG,gF,gE,gB,gA,kL,kK,kJ,kI,kG,kF,kE,kD,kC,kB,ky,kv,ku,kj,kf,ke,j9,j8,j7,j6,j5,j4,jZ,jY,jX,jW,jV,jU,jT,jS,jR,jQ,jP,jO,jN,jM,jL,jK,jJ,jI,jH,jG,jF,jE,jD,jC,jB,gj,gi,gh,gg,gf,gd,ga,fZ,fY,fX,tO,tN,tM,tL,tK,tJ,tI,tH,tG,tF,nT,nR,nQ,nP,nO,nM,nL,nJ,nI,nH,nG,nF,nE,nD,nB,nA,nz,ny,nv,nu,nt,nr,np,nk,nj,ni,nh,ng,nc,na,m9,m8,m7,mZ,mY,mX,mW,mV,mU,mT,mS,mR,mQ,mP,mO,mN,mM,mL,mK,mJ,mI,mH],[]⟩ w:=by
 conv=>arg 2;whnf
 have hF:=HZ.out.img.fr;have hsb3:=HS.out.lt;have s0:w.cell? ⟨sb,0,none⟩=some (.slice po out.length co):=(hF.cell hsb3 n2).trans HS.out.c0;have s3:w.cell? ⟨sb,3,none⟩=some (.bool dn):=(hF.cell hsb3 n2).trans HS.out.c3;have s4:w.cell? ⟨sb,4,none⟩=some (.bool sm):=(hF.cell hsb3 n2).trans HS.out.c4;have s7:w.cell? ⟨sb,7,none⟩=some (.int .i64 (en:Int)):=(hF.cell hsb3 n2).trans HS.out.c7;have m5:=HZ.out.img.c5;have m6:=HZ.out.img.c6;have mf:=HZ.out.img.fz;have HI:Hid (mD w3 w mb 0 0 ls):=HZ.out.img;rcases HZ.out.kind with ⟨l,e1,e2⟩ | ⟨l,e1,e2⟩ | ⟨l,e1,e2⟩
 ·rw[<- HTT.out] at e2
  have ei:(out.length:Int)<(TT:Int):=by omega
  subst e1;clear e2 hF;cases dn
  ·have HP2:Hid (∀ W',mD w3 W' mb 0 0 ls->P (.returned (.pointer (some ⟨mb,0,none⟩))) W'):=HP.out
   go_wp2_with fail;exact lz (HP2.out _ HI.out) rfl
  ·cases sm
   ·have HP2:Hid (∀ W',mD w3 W' mb 0 0 ls->P (.returned (.pointer (some ⟨mb,0,none⟩))) W'):=HP.out
    go_wp2_with fail;exact lz (HP2.out _ HI.out) rfl
   ·have HP2:Hid (∀ W',mD w3 W' mb 18 en ls->P (.returned (.pointer (some ⟨mb,0,none⟩))) W'):=HP.out
    have k7:=(ax (b:=mb) w 5 7 (.int .i64 18) n2).trans s7;have k6:(w.setCell ⟨mb,5,none⟩ (.int .i64 18)).cell? ⟨mb,6,none⟩=_:=(aa _ _ _ _ _ (by omega)).trans m6;go_wp2_with fail;exact lz (HP2.out _ ((HI.out.set5 18).set6 en)) rfl
 ·rw[<- HTT.out] at e2
  have ei:(out.length:Int)=(TT:Int):=by omega
  subst e1;have HP2:Hid (∀ W',mD w3 W' mb 0 0 ls->P (.returned (.pointer (some ⟨mb,0,none⟩))) W'):=HP.out;clear e2 hF;have h1:¬ ((TT:Int)<(out.length:Int)):=by omega
  have h2:¬ ((out.length:Int)<(TT:Int)):=by omega
  have HEI:Hid _:=ei;clear ei;cases dn<;>cases sm
  all_goals
   go_wp2_with fail;exact lz (HP2.out _ HI.out) rfl
 ·rw[<- HTT.out] at e2 e1
  have ei:(TT:Int)<(out.length:Int):=by omega
  have HE1:Hid _:=e1;have HP2:Hid (∀ W',mD w3 W' mb 17 (pAt out TT) ls->P (.returned (.pointer (some ⟨mb,0,none⟩))) W'):=fun W' k=>HP.out W' (by rw[HE1.out];exact k)
  have HZ2:=HS.out.z.fr hF (fun g hg e=>by
   cases po with
   | none=>cases hg
   | some a=>injection hg with hg;exact HN.out a rfl (by omega))
  obtain ⟨gz,hgz,z0,z1⟩:=HZ2.cells _ _ rfl TT e2;subst hgz;have n3:gz≠mb:=HN.out _ rfl;obtain ⟨A,hA⟩:∃ A,A=pAt out TT:=⟨_,rfl⟩;rw[<- hA] at z1 HP2;clear e2 e1 hF HZ2 z0 hA;have k0:=(ax (b:=mb) w 5 0 (.int .i64 17) n2).trans s0;have kz:=(ax (b:=mb) w 5 (TT*2+1) (.int .i64 17) n3).trans z1;have k6:(w.setCell ⟨mb,5,none⟩ (.int .i64 17)).cell? ⟨mb,6,none⟩=_:=(aa _ _ _ _ _ (by omega)).trans m6;go_wp2_with fail;exact lz (HP2.out _ ((HI.out.set5 17).set6 A)) rfl
noncomputable def chT:Code:=(Tryz.f58.body.bind (qK 22)).getD .skip
def lu (f2:Fl) (k n:Nat) (d:List Nat) (cut bad:Bool):Ch:=
 if cut=true then ⟨f2,0,0,0⟩ else if bad=true then ⟨f2,6,8+n+3,0⟩ else if (f2.ends k d).2≠0 then ⟨(f2.ends k d).1,(f2.ends k d).2,8+n+3,0⟩ else ⟨(f2.ends k d).1,0,0,8+n+4⟩
theorem Dh {P:Ending->World->Prop} {a:Int} {c:Bool} {w:World} {r:Ending} (h:P (.returned (.tuple #[.int .i64 a,.bool c])) w) (e:r = .returned (.tuple #[.int .i64 a,.bool c])):P r w:=by rw[e];exact h
theorem DT {u3 u4 u5 u6 u7 u8 rS tP ux uv se u16 si rR oY oX oW oV oU oT oS oR oQ oP oO oN oM u32 oL oK oJ oI oH oG oF oE oD oC oB oA oz oy ox ow ou ot oq oo om oj oi oh og oe od ob oa nZ nY u64 pS pR qn qm ql qk qj qi qh qg qf qe qd qc qb qa qt qq qp rE rD rC rB rA rz ry ru rq rp rm rk rj rh ra qZ fc ey ew ev eu ej eh ed dZ dY dX dW dV dU dT dS dR dQ dP dO dN dM dL dK dJ dI dH dG dF dE dD dC dB dA dz dy dx dw du dt fq fp:Value} (P:Ending->World->Prop) (b i n E C M:Nat) (t kd:ByteArray) (f2:Fl) (pv cv zv iv:Value) (w:World) (h:Hid (aq w b f2 0 0 pv cv zv iv)) (hs:t.size<=1048576) (hE:E=i+8+n) (hi8:i+8<=t.size) (hn:n<2147483648)
  (F2:E+4<=t.size->Hid (∀ W,Calls Tryz.prog 100 #[.string (t.extract (i+4) E)] W fun r w'=>r = .returned (.int .i64 (C:Int))/\w'=W))
  (F3:E+4<=t.size->Hid (∀ W,Calls Tryz.prog 98 #[.string t,.int .i64 (E:Int),.int .i64 4] W fun r w'=>r = .returned (.int .i64 (M:Int))/\w'=W))
  (G2:E+4<=t.size->Hid (∀ W,aq W b f2 0 0 pv cv zv iv->Calls Tryz.prog 101 #[.pointer (some ⟨b,0,none⟩),.string kd,.string (t.extract (i+8) E)] W fun r w'=>∃ pv' cv',r = .returned (.int .i64 ((f2.ends (ty kd) (seg t (i+8) n)).2:Int))/\aq w' b (f2.ends (ty kd) (seg t (i+8) n)).1 0 0 pv' cv' zv iv/\Below b W w'))
  (HP:Hid (∀ W' pv' cv',aq W' b (lu f2 (ty kd) n (seg t (i+8) n) (decide (t.size<E+4)) (decide (C≠M))).f (lu f2 (ty kd) n (seg t (i+8) n) (decide (t.size<E+4)) (decide (C≠M))).err (if (lu f2 (ty kd) n (seg t (i+8) n) (decide (t.size<E+4)) (decide (C≠M))).err=0 then 0 else i+(lu f2 (ty kd) n (seg t (i+8) n) (decide (t.size<E+4)) (decide (C≠M))).at') pv' cv' zv iv->Below b w W'->P (.returned (.tuple #[.int .i64 ((i+(lu f2 (ty kd) n (seg t (i+8) n) (decide (t.size<E+4)) (decide (C≠M))).took:Nat):Int),.bool (decide ((lu f2 (ty kd) n (seg t (i+8) n) (decide (t.size<E+4)) (decide (C≠M))).took≠0))])) W')) :
  Code.wp Tryz.prog chT (bodyPost Tryz.prog Tryz.f58 P) ⟨#[.pointer (some ⟨b,0,none⟩),.string t,.int .i64 (i:Int),u3,u4,u5,u6,u7,u8,.string kd,rS,.int .i64 (E:Int),tP,ux,uv,se,u16,si,rR,oY,oX,oW,oV,oU,oT,oS,oR,oQ,oP,oO,oN,oM,u32,oL,oK,oJ,oI,oH,oG,oF,oE,oD,oC,oB,oA,oz,oy,ox,ow,ou,ot,oq,oo,om,oj,oi,oh,og,oe,od,ob,oa,nZ,nY,u64,pS,pR,qn,qm,ql,qk,qj,qi,qh,qg,qf,qe,qd,qc,qb,qa,qt,qq,qp,rE,rD,rC,rB,rA,rz,ry,ru,rq,rp,rm,rk,rj,rh,ra,qZ,fc,ey,ew,ev,eu,ej,eh,ed,dZ,dY,dX,dW,dV,dU,dT,dS,dR,dQ,dP,dO,dN,dM,dL,dK,dJ,dI,dH,dG,dF,dE,dD,dC,dB,dA,dz,dy,dx,dw,du,dt,fq,fp],[]⟩ w:=by
 conv=>arg 2;whnf
 have hblt:=h.out.lt;unfold lu at HP;by_cases c1:t.size<E+4
 ·have HP1:Hid (P (.returned (.tuple #[.int .i64 (i:Int),.bool false])) w):=by
   have:=HP.out w pv cv
   rw[if_pos (decide_eq_true c1)] at this;exact this h.out (Below.refl _ _)
  have ci:(t.size:Int)<(E:Int)+4:=by omega
  clear HP F2 F3 G2;go_wp2;exact Dh HP1.out rfl
 have hE4:E+4<=t.size:=by omega
 have F2':=F2 hE4;have F3':=F3 hE4;have G2':=G2 hE4;rw[if_neg (by rw[decide_eq_false c1];decide)] at HP;clear F2 F3 G2;have ci:¬ (t.size:Int)<(E:Int)+4:=by omega
 have hiE:i+4<=E:=by omega
 have hiE8:i+8<=E:=by omega
 by_cases c2:C=M
 ·rw[if_neg (by rw[decide_eq_false (fun q=>q c2)];decide)] at HP
  have cm:((C:Int) != (M:Int))=false:=by rw[bne_eq_false_iff_eq];omega
  obtain ⟨f3,hf3⟩:∃ f3,f3=(f2.ends (ty kd) (seg t (i+8) n)).1:=⟨_,rfl⟩;obtain ⟨V,hV⟩:∃ V,V=(f2.ends (ty kd) (seg t (i+8) n)).2:=⟨_,rfl⟩;rw[<- hf3,<- hV] at HP G2';clear c1 c2 hf3;by_cases c3:V=0
  ·have HP1:Hid (∀ W' pv' cv',aq W' b f3 0 0 pv' cv' zv iv->Below b w W'->P (.returned (.tuple #[.int .i64 ((E+4:Nat):Int),.bool true])) W'):=fun W' pv' cv' a1 a2=>by
    have:=HP.out W' pv' cv'
    rw[if_neg (fun q=>q c3)] at this;have h2:=this a1 a2;rw[show i+(⟨f3,0,0,8+n+4⟩:Ch).took=E+4 by show i+(8+n+4)=_;omega] at h2;exact h2
   have cv0:((V:Int) != 0)=false:=by rw[bne_eq_false_iff_eq];omega
   clear HP hV c3 hE;go_wp2_with fail;refine (F2'.out _).mono ?_;rintro r w' ⟨rfl,hw⟩;subst w';go_wp2_with fail;refine (F3'.out _).mono ?_;rintro r w' ⟨rfl,hw⟩;subst w';go_wp2_with fail;refine (G2'.out _ h.out).mono ?_;rintro r w2 ⟨pv',cv',rfl,h2,hw2⟩;have HH:Hid _:=HP1.out w2 pv' cv' h2 hw2;clear h2 hw2 HP1;go_wp2;exact Dh HH.out (by simp)
  ·have HP1:Hid (∀ W' pv' cv',aq W' b f3 V (E+3) pv' cv' zv iv->Below b w W'->P (.returned (.tuple #[.int .i64 (i:Int),.bool false])) W'):=fun W' pv' cv' a1 a2=>by
    have:=HP.out W' pv' cv'
    rw[if_pos c3] at this;refine this ?_ a2;show aq W' b f3 V (if V=0 then 0 else i+(8+n+3)) _ _ _ _
    rw[if_neg c3,show i+(8+n+3)=E+3 by omega];exact a1
   have cv0:((V:Int) != 0)=true:=by rw[bne_iff_ne];omega
   have e3:Hid (∀ W pv' cv',aq W b f3 0 0 pv' cv' zv iv->Calls Tryz.prog 57 #[.pointer (some ⟨b,0,none⟩),.int .i64 (V:Int),.int .i64 ((E:Int)+3)] W fun r w'=>r = .returned (.bool false)/\aq w' b f3 V (E+3) pv' cv' zv iv/\Fr1 b W w'):=fun W pv' cv' hW=>lF b f3 0 0 V (E+3) pv' cv' zv iv W hW
   clear HP hV c3 hE;go_wp2_with fail;refine (F2'.out _).mono ?_;rintro r w' ⟨rfl,hw⟩;subst w';go_wp2_with fail;refine (F3'.out _).mono ?_;rintro r w' ⟨rfl,hw⟩;subst w';go_wp2_with fail;refine (G2'.out _ h.out).mono ?_;rintro r w2 ⟨pv',cv',rfl,h2,hw2⟩;have hb2:=h2.lt;have HW2:Hid _:=hw2;have F:=e3.out w2 pv' cv' h2;have HF:Hid _:=F;clear h2 hw2 F e3;go_wp2_with fail;refine Calls.mono HF.out ?_;rintro r w3 ⟨rfl,h3,hw3⟩;have HH:Hid _:=HP1.out w3 pv' cv' h3 (HW2.out.trans ⟨hw3.os,hw3.tape,hw3.output,hw3.size,fun j hj=>hw3.block j (by omega) (by omega)⟩);clear h3 hw3 HP1;go_wp2;exact Dh HH.out rfl
 ·rw[if_pos (decide_eq_true (show C≠M from c2))] at HP
  have HP1:Hid (∀ W',aq W' b f2 6 (E+3) pv cv zv iv->Below b w W'->P (.returned (.tuple #[.int .i64 (i:Int),.bool false])) W'):=fun W' a1 a2=>by
   refine HP.out W' pv cv ?_ a2;show aq W' b f2 6 (i+(8+n+3)) _ _ _ _
   rw[show i+(8+n+3)=E+3 by omega];exact a1
  have cm:((C:Int) != (M:Int))=true:=by rw[bne_iff_ne];omega
  have e3:Hid (∀ W,aq W b f2 0 0 pv cv zv iv->Calls Tryz.prog 57 #[.pointer (some ⟨b,0,none⟩),.int .i64 6,.int .i64 ((E:Int)+3)] W fun r w'=>r = .returned (.bool false)/\aq w' b f2 6 (E+3) pv cv zv iv/\Fr1 b W w'):=fun W hW=>lF b f2 0 0 6 (E+3) pv cv zv iv W hW
  clear c1 c2 HP hE G2';go_wp2_with fail;refine (F2'.out _).mono ?_;rintro r w' ⟨rfl,hw⟩;subst w';go_wp2_with fail;refine (F3'.out _).mono ?_;rintro r w' ⟨rfl,hw⟩;subst w';go_wp2_with fail;refine (e3.out _ h.out).mono ?_;rintro r w3 ⟨rfl,h3,hw3⟩;have HH:Hid _:=HP1.out w3 h3 ⟨hw3.os,hw3.tape,hw3.output,hw3.size,fun j hj=>hw3.block j (by omega) (by omega)⟩;clear h3 hw3 HP1;go_wp2;exact Dh HH.out rfl
def ChP (w w':World) (b:Nat) (f:Fl) (l:List Nat) (i:Nat) (r:Ending):Prop:=∃ dn F' pv' cv' zv' iv',(f.ov (vA l)=true->yR f.z dn)/\r = .returned (.tuple #[.int .i64 ((i+(f.chunk l i dn).took:Nat):Int),.bool (decide ((f.chunk l i dn).took≠0))])/\aq w' b F' (f.chunk l i dn).err (if (f.chunk l i dn).err=0 then 0 else i+(f.chunk l i dn).at') pv' cv' zv' iv'/\fo (f.chunk l i dn).f F'/\((f.chunk l i dn).took≠0->F'=(f.chunk l i dn).f)/\Below b w w'
theorem CG (t:ByteArray) (f1:Fl) (k i n:Nat) (hi:i+8<=t.size):Fl.body f1 k n (((af t).drop i).take 8) (((af t).drop i).drop 8) (i+8)=lu (f1.data k (seg t (i+8) n) (i+8)) k n (seg t (i+8) n) (decide (t.size<i+8+n+4)) (decide (bJ (bE ar (seg t (i+4) (4+n)))≠dg (seg t (i+8+n) 4))):=by
 have hl:(((af t).drop i).drop 8).length=t.size - (i+8):=by rw[List.drop_drop,List.length_drop,av]
 unfold Fl.body lu;rw[AC];by_cases c:t.size<i+8+n+4
 ·rw[if_pos (by rw[hl];omega),if_pos (decide_eq_true c)]
 have hc:¬ (decide (t.size<i+8+n+4)=true):=by rw[decide_eq_false c];decide
 have e1:(((af t).drop i).take 8).drop 4++seg t (i+8) n=seg t (i+4) (4+n):=by
  rw[<- JA t i n (by omega),AC]
 have e2:n4 ((((af t).drop i).drop 8).getD n 0) ((((af t).drop i).drop 8).getD (n+1) 0) ((((af t).drop i).drop 8).getD (n+2) 0) ((((af t).drop i).drop 8).getD (n+3) 0)=dg (seg t (i+8+n) 4):=by
  rw[List.drop_drop,cD,cD,cD,cD];exact x9 t (i+8+n) (by omega)
 rw[e1,e2,if_neg (show ¬ (((af t).drop i).drop 8).length<n+4 by rw[hl];omega),if_neg hc];by_cases d:bJ (bE ar (seg t (i+4) (4+n)))≠dg (seg t (i+8+n) 4)
 ·rw[if_pos d,if_pos (decide_eq_true d)]
 ·have hd:¬ (decide (bJ (bE ar (seg t (i+4) (4+n)))≠dg (seg t (i+8+n) 4))=true):=by rw[decide_eq_false d];decide
  rw[if_neg d,if_neg hd]
theorem Fo (b:Nat) (t:ByteArray) (i:Nat) (w:World) (h:t.size<i+4) (hs:t.size<=1048576) (hi:i<=1048576) :
  Calls Tryz.prog 58 #[.pointer (some ⟨b,0,none⟩),.string t,.int .i64 (i:Int)] w fun r w'=>r = .returned (.tuple #[.int .i64 (i:Int),.bool false])/\w'=w:=by
 go_enter Tryz.func58,Tryz.ntmps58;go_wp2;go_ret2;exact ⟨rfl,rfl⟩
theorem Fp (b:Nat) (f:Fl) (pv cv zv iv:Value) (t:ByteArray) (i n:Nat) (w:World) (h:aq w b f 0 0 pv cv zv iv) (h4:i+4<=t.size) (hs:t.size<=1048576)
  (F:Hid (∀ W,Calls Tryz.prog 98 #[.string t,.int .i64 (i:Int),.int .i64 4] W fun r w'=>r = .returned (.int .i64 (n:Int))/\w'=W)) (hn:decide ((2147483648:Int)<=(n:Int))=true) :
  Calls Tryz.prog 58 #[.pointer (some ⟨b,0,none⟩),.string t,.int .i64 (i:Int)] w fun r w'=>r = .returned (.tuple #[.int .i64 (i:Int),.bool false])/\aq w' b f 2 (i+3) pv cv zv iv/\Below b w w':=by
 have e3:Hid (∀ W,aq W b f 0 0 pv cv zv iv->Calls Tryz.prog 57 #[.pointer (some ⟨b,0,none⟩),.int .i64 2,.int .i64 ((i:Int)+3)] W fun r w'=>r = .returned (.bool false)/\aq w' b f 2 (i+3) pv cv zv iv/\Fr1 b W w'):=fun W hW=>lF b f 0 0 2 (i+3) pv cv zv iv W hW
 have hb:=h.lt;go_enter Tryz.func58,Tryz.ntmps58;go_wp2_with fail;refine (F.out _).mono ?_;rintro r w' ⟨rfl,hw⟩;subst w';go_wp2_with fail;refine (e3.out _ h).mono ?_;rintro r w1 ⟨rfl,h1,hw1⟩;go_wp2;go_ret2;exact ⟨rfl,h1,⟨hw1.os,hw1.tape,hw1.output,hw1.size,fun j hj=>hw1.block j (by omega) (by omega)⟩⟩
theorem Fm (b:Nat) (t:ByteArray) (i n:Nat) (w:World) (h4:i+4<=t.size) (h8:t.size<i+8) (hs:t.size<=1048576)
  (F:Hid (∀ W,Calls Tryz.prog 98 #[.string t,.int .i64 (i:Int),.int .i64 4] W fun r w'=>r = .returned (.int .i64 (n:Int))/\w'=W)) (hn:decide ((2147483648:Int)<=(n:Int))=false) :
  Calls Tryz.prog 58 #[.pointer (some ⟨b,0,none⟩),.string t,.int .i64 (i:Int)] w fun r w'=>r = .returned (.tuple #[.int .i64 (i:Int),.bool false])/\w'=w:=by
 go_enter Tryz.func58,Tryz.ntmps58;go_wp2_with fail;refine (F.out _).mono ?_;rintro r w' ⟨rfl,hw⟩;subst w';go_wp2;go_ret2;exact ⟨rfl,rfl⟩
theorem Fk (b:Nat) (f:Fl) (pv cv zv iv:Value) (t:ByteArray) (i n:Nat) (w:World) (h:aq w b f 0 0 pv cv zv iv) (ho:FOk f) (hbd:FBd i f) (h8:i+8<=t.size) (hs:t.size<=1048576)
  (F:Hid (∀ W,Calls Tryz.prog 98 #[.string t,.int .i64 (i:Int),.int .i64 4] W fun r w'=>r = .returned (.int .i64 (n:Int))/\w'=W)) (hnn:n<2147483648) (hch:Hid (∀ dn,f.chunk ((af t).drop i) i dn=if f.begE (ty (t.extract (i+4) (i+8))) n dn≠0 then ⟨f,f.begE (ty (t.extract (i+4) (i+8))) n dn,7,0⟩ else Fl.body (f.begF (ty (t.extract (i+4) (i+8)))) (ty (t.extract (i+4) (i+8))) n (((af t).drop i).take 8) (((af t).drop i).drop 8) (i+8))) (hty:Hid (ty (t.extract (i+4) (i+8))=vA ((af t).drop i))) :
  Calls Tryz.prog 58 #[.pointer (some ⟨b,0,none⟩),.string t,.int .i64 (i:Int)] w fun r w'=>ChP w w' b f ((af t).drop i) i r:=by
 obtain ⟨kd,hkd⟩:∃ kd,kd=t.extract (i+4) (i+8):=⟨_,rfl⟩;have hks:kd.size=4:=by rw[hkd,size_extract t _ _ (by omega) h8];omega
 rw[<- hkd] at hch hty;have hnd:decide ((2147483648:Int)<=(n:Int))=false:=decide_eq_false (by omega);have G:Hid (Calls Tryz.prog 99 #[.pointer (some ⟨b,0,none⟩),.string kd,.int .i64 (n:Int)] w fun r w'=>yV w w' b f 0 0 pv cv zv iv (ty kd) n r):=CM b f 0 0 i pv cv zv iv kd n w h hks hnn ho hbd (by omega);have HKE:Hid (t.extract (i+4) (i+8)=kd):=hkd.symm;have t4:=xI kd hks;have HBD:Hid (FBd i f):=hbd;have HO:Hid (FOk f):=ho;have hblt:=h.lt;have hext:t.extract (i+4) (i+8)=kd:=hkd.symm;clear h ho hbd hkd;go_enter Tryz.func58,Tryz.ntmps58;go_wp2_with fail;refine (F.out _).mono ?_;rintro r w' ⟨rfl,hw⟩;subst w';go_wp2_with fail;rw[hext];clear hext;refine G.out.mono ?_;rintro r w1 ⟨dn,g,hrd,rfl,hX,hsf,hg,hB⟩;have HRD:Hid (f.ov (vA ((af t).drop i))=true->yR f.z dn):=by rw[<- hty.out];exact hrd
 have HX:Hid (aq w1 b g 0 0 pv cv zv iv):=hX;have HB:Hid (Below b w w1):=hB;have HSF:Hid (fo f g):=hsf;have hb1:=hX.lt;obtain ⟨V,hV⟩:∃ V,V=f.begE (ty kd) n dn:=⟨_,rfl⟩;have hcd:=hch.out dn;rw[<- hV] at hg hcd ⊢;have HG:Hid (V=0->g=f.begF (ty kd)):=hg;have HV:Hid _:=hV;clear hrd hX hsf hg hB hV hch;by_cases v0:V=0
 ·rw[if_neg (fun q=>q v0),CG t _ _ i n h8] at hcd
  have hgf:=HG.out v0;have cv0:((V:Int) != 0)=false:=by rw[bne_eq_false_iff_eq];omega
  obtain ⟨E,hE⟩:∃ E,E=i+8+n:=⟨_,rfl⟩;have hEi:(i:Int)+8+(n:Int)=(E:Int):=by omega
  rw[<- hgf,<- hE] at hcd;have HCD:Hid _:=hcd;have HE:Hid (E=i+8+n):=hE;have hE8:i+8<=E:=by omega
  have hEb:E<=4294967296:=by omega
  have hgd:FBd i g:=HBD.out.same HSF.out;have HGD:Hid (FBd i g):=hgd;have F2:Hid (E+4<=t.size->Hid (∀ W,Calls Tryz.prog 100 #[.string (t.extract (i+4) E)] W fun r w'=>r = .returned (.int .i64 ((bJ (bE ar (seg t (i+4) (4+n))):Nat):Int))/\w'=W)):=fun q W=>by
   have:=IC (t.extract (i+4) E) W (by rw[size_extract t _ _ (by omega) (by omega)];omega)
   rw[pY,show E - (i+4)=4+n by omega] at this;exact this
  have F3:Hid (E+4<=t.size->Hid (∀ W,Calls Tryz.prog 98 #[.string t,.int .i64 (E:Int),.int .i64 4] W fun r w'=>r = .returned (.int .i64 ((dg (seg t E 4):Nat):Int))/\w'=W)):=fun q W=>qD t E 4 W (by omega) (by omega) hs
  have he0:f.begE (ty kd) n dn=0:=HV.out.symm.trans v0;have G2:Hid (∀ f2:Fl,f2.hd=f.hd->E+4<=t.size->∀ zv iv pv cv,Hid (∀ W,aq W b f2 0 0 pv cv zv iv->Calls Tryz.prog 101 #[.pointer (some ⟨b,0,none⟩),.string kd,.string (t.extract (i+8) E)] W fun r w'=>∃ pv' cv',r = .returned (.int .i64 ((f2.ends (ty kd) (seg t (i+8) n)).2:Int))/\aq w' b (f2.ends (ty kd) (seg t (i+8) n)).1 0 0 pv' cv' zv iv/\Below b W w')):=fun f2 hf2 q zv iv pv cv W hW=>by
   have hsz:(t.extract (i+8) E).size=n:=by rw[size_extract t _ _ (by omega) (by omega)];omega
   have:=Ip b f2 0 0 pv cv zv iv kd (t.extract (i+8) E) W hW hks (by rw[hsz];omega) (fun e=>by rw[hsz];rw[e] at he0;exact (wD he0).2) (fun e hK=>by
    rw[e] at he0;have hfi:=iA (by decide) he0;have hh:=(HO.out.on hfi).2;have hD16:f.hd.D<=16:=by have:=hh.D;unfold okD at this;omega
    rw[hf2] at hK ⊢;rcases (AX hfi hh.K (wC hfi he0)).2 with q | ⟨_,q⟩ | ⟨_,q⟩
    ·exact absurd q hK
    ·exact ⟨by rw[hsz,q],hD16⟩
    ·exact ⟨by rw[hsz,q],hD16⟩)
   rw[pY,show E - (i+8)=n by omega] at this;exact this
  have FIN:Hid (∀ (W2:World) (pv cv zv iv:Value),Below b w1 W2->aq W2 b (g.data (ty kd) (seg t (i+8) n) (i+8)) 0 0 pv cv zv iv->Hid (∀ W' pv' cv',aq W' b (lu (g.data (ty kd) (seg t (i+8) n) (i+8)) (ty kd) n (seg t (i+8) n) (decide (t.size<E+4)) (decide (bJ (bE ar (seg t (i+4) (4+n)))≠dg (seg t E 4)))).f (lu (g.data (ty kd) (seg t (i+8) n) (i+8)) (ty kd) n (seg t (i+8) n) (decide (t.size<E+4)) (decide (bJ (bE ar (seg t (i+4) (4+n)))≠dg (seg t E 4)))).err (if (lu (g.data (ty kd) (seg t (i+8) n) (i+8)) (ty kd) n (seg t (i+8) n) (decide (t.size<E+4)) (decide (bJ (bE ar (seg t (i+4) (4+n)))≠dg (seg t E 4)))).err=0 then 0 else i+(lu (g.data (ty kd) (seg t (i+8) n) (i+8)) (ty kd) n (seg t (i+8) n) (decide (t.size<E+4)) (decide (bJ (bE ar (seg t (i+4) (4+n)))≠dg (seg t E 4)))).at') pv' cv' zv iv->Below b W2 W'->ChP w W' b f ((af t).drop i) i (.returned (.tuple #[.int .i64 ((i+(lu (g.data (ty kd) (seg t (i+8) n) (i+8)) (ty kd) n (seg t (i+8) n) (decide (t.size<E+4)) (decide (bJ (bE ar (seg t (i+4) (4+n)))≠dg (seg t E 4)))).took:Nat):Int),.bool (decide ((lu (g.data (ty kd) (seg t (i+8) n) (i+8)) (ty kd) n (seg t (i+8) n) (decide (t.size<E+4)) (decide (bJ (bE ar (seg t (i+4) (4+n)))≠dg (seg t E 4)))).took≠0))])))):=fun W2 pv cv zv iv k2 hx2 W' pv' cv' hx' k'=>by
   refine ⟨dn,(lu (g.data (ty kd) (seg t (i+8) n) (i+8)) (ty kd) n (seg t (i+8) n) (decide (t.size<E+4)) (decide (bJ (bE ar (seg t (i+4) (4+n)))≠dg (seg t E 4)))).f,pv',cv',zv,iv,HRD.out,?_,?_,?_,fun _ => ?_,(HB.out.trans k2).trans k'⟩
   ·rw[HCD.out]
   ·rw[HCD.out];exact hx'
   ·rw[HCD.out];exact fo.refl _
   ·rw[HCD.out]
  have hghd:g.hd=f.hd:=by obtain ⟨o,p,e⟩:=HSF.out;rw[e]
  have HGHD:Hid (g.hd=f.hd):=hghd;clear hcd hgf HV HCD HRD hghd he0 hE hgd HG;obtain ⟨HVV,hHVV0⟩:∃ H,H=min E t.size:=⟨_,rfl⟩;have hHVV:Hid (HVV=min E t.size):=hHVV0;clear hHVV0;go_upto_if 64 with fail
  go_cut [12,64] from 65 to 66 (fun xE v64 W=>xE = .int .i64 (HVV:Int)/\W=w1)
  case first=>
   by_cases c:t.size<E
   ·have ci:(t.size:Int)<(E:Int):=by omega
    have He:Hid (HVV=t.size):=by show HVV=t.size;have:=hHVV.out;omega
    clear hHVV;go_wp2_with fail;go_meet
    case rel=>exact ⟨by rw[He.out],rfl⟩
   ·have ci:¬ (t.size:Int)<(E:Int):=by omega
    have He:Hid (HVV=E):=by show HVV=E;have:=hHVV.out;omega
    clear hHVV;go_wp2_with fail;go_meet
    case rel=>exact ⟨by rw[He.out],rfl⟩
  case rest=>
   obtain ⟨rfl,hw⟩:=hcut;subst wc;have HHV:Hid (HVV=min E t.size):=hHVV.out;clear hHVV;by_cases cd:ty kd=aJ
   ·rw[decide_eq_true cd] at t4
    obtain ⟨xs,hxs⟩:=HX.out.ids;obtain ⟨ia,ic,hiv⟩:=ao hxs;have c11:w1.cell? ⟨b,11,none⟩=some (.slice ia g.ids ic):=by rw[<- hiv];exact HX.out.cell 11 (by omega)
    have hids:g.ids<=1048576:=Nat.le_trans HGD.out.ids (by omega);have hfz:=HX.out.fz;have HOW:Hid (w1.ownsRow (b+1) 3 1 iv g.ids xs):=hxs;have HIV:Hid (iv = .slice ia g.ids ic):=hiv;have HC:Hid (∀ j u,[Value.int .i64 (n:Int)][j]? = some u->(w1.alloc (.cells #[.int .i64 (n:Int)] 3)).cell? (Addr.add ⟨w1.heap.size,0,none⟩ j)=some u):=by
     intro j u hj
     match j,hj with
     | 0,hj=>simp at hj;subst hj;simp [Addr.add]
     | j+1,hj=>simp at hj
    have HCD:Hid (ty kd=aJ):=cd;have hnb:some b≠iv.ownBlock:=fun e=>by have:=(hxs.lt b e.symm).1;omega
    clear hxs hiv cd;go_wp2_with (at_builtin;refine cT _ 30 3 1 8 (.int .i64 0) Tryz.underlying30 rM rfl (by omega) rfl _ _ rfl (b+1) iv g.ids xs (by rw[HIV.out];rfl) (HOW.out.alloc _) ⟨w1.heap.size,0,none⟩ 1 1 [.int .i64 (n:Int)] rfl rfl (by omega) HC.out (by intro u hu;simp at hu;subst hu;rfl) (by unfold maxLen;omega) (by omega) (by simp;omega) ?_)
    intro v2 w2 ho2 hg2 hn2;obtain ⟨p2,c2,hv2⟩:=ao ho2;have hF2:Fr (fun x=>iv.ownBlock=some x) w1 w2:=((Fr.refl _ w1).alloc _).grown hg2 (fun k hk=>Or.inl hk);have hX2:=HX.out.setIds hF2 ho2 (fun q hq=>by rcases hn2 q hq with z | z;exact Or.inl z;exact Or.inr (by omega));have blk:w2.heap[b]? = w1.heap[b]? := hF2.block b hb1 (fun e=>hnb e.symm);have c11':w2.cell? ⟨b,11,none⟩=some (.slice ia g.ids ic):=(World.cell?_of_block (w:=w1) blk).trans c11;have hfz':∀ k,w2.frozen? ⟨b,k,none⟩=false:=fun k=>(World.frozen?_of_block (w:=w1) blk).trans (hfz k)
    subst hv2;obtain ⟨w3,hw3⟩:∃ w3,w3=w2.setCell ⟨b,11,none⟩ (.slice p2 (g.ids+1) c2):=⟨_,rfl⟩;rw[<- hw3] at hX2;have HX2:Hid (aq w3 b { g with ids:=g.ids+1 } 0 0 pv cv zv (.slice p2 (g.ids+1) c2)):=hX2;have HB3:Hid (Below b w1 w3):=by
     have h1:Below b w1 w2:=⟨hF2.os,hF2.tape,hF2.output,hF2.size,fun j hj=>hF2.block j (by omega) (fun e=>by have:=(HOW.out.lt j e).1;omega)⟩;show Below b w1 w3
     rw[hw3];exact h1.setCell (p:=⟨b,11,none⟩) (Nat.le_refl b) _
    have HW3:Hid (w2.setCell ⟨b,11,none⟩ (.slice p2 (g.ids+1) c2)=w3):=hw3.symm;have hHV1:HVV<=t.size:=by have:=HHV.out;omega
    have hHV2:i+8<=HVV:=by have:=HHV.out;omega
    have hzl:g.z.length<=1048576:=Nat.le_trans HGD.out.zl (by omega);clear hX2 hF2 ho2 hg2 hn2 blk hw3 hnb c11 hfz;go_upto_region 18 with fail
    rw[HW3.out];go_upto_block 0 with fail
    have HZ:Hid (seg t (i+8) (HVV - (i+8))=seg t (i+8) n):=by
     show seg t (i+8) (HVV - (i+8))=seg t (i+8) n
     have h1:=HHV.out;have h2:=HE.out;by_cases c:t.size<E
     ·rw[JJ t (i+8) n (by omega) (by omega),show HVV - (i+8)=t.size - (i+8) by omega]
     ·rw[show HVV - (i+8)=n by omega]
    refine wp_mono (Mt (P:=fun r w'=>ChP w w' b f ((af t).drop i) i r) b (i+8) HVV t { g with ids:=g.ids+1 } pv cv zv (.slice p2 (g.ids+1) c2) w3 HX2 hHV1 hHV2 hs hzl ?_) (fun e a w hq=>hq);intro vf Lf Le Ld zG zF zE zD zC zy zx zw zu zt zq zo zm zk zj zi qx w4 zv' hX4 hB4;rw[HZ.out] at hX4;have hD:g.data (ty kd) (seg t (i+8) n) (i+8)={ g with ids:=g.ids+1,z:=g.z++plc (seg t (i+8) n) (i+8) }:=by unfold Fl.data;rw[if_pos HCD.out]
    have HX4:Hid (aq w4 b (g.data (ty kd) (seg t (i+8) n) (i+8)) 0 0 pv cv zv' (.slice p2 (g.ids+1) c2)):=by
     rw[hD];exact hX4
    have hdh:(g.data (ty kd) (seg t (i+8) n) (i+8)).hd=f.hd:=by rw[hD];exact HGHD.out
    have FF:=FIN.out w4 pv cv zv' (.slice p2 (g.ids+1) c2) (HB3.out.trans hB4) HX4.out;have GG:E+4<=t.size->Hid _:=fun q=>G2.out (g.data (ty kd) (seg t (i+8) n) (i+8)) hdh q zv' (.slice p2 (g.ids+1) c2) pv cv
    repeat (first | exact wp_mono (DT (fun r w'=>ChP w w' b f ((af t).drop i) i r) b i n E _ _ t kd (g.data (ty kd) (seg t (i+8) n) (i+8)) pv cv zv' (.slice p2 (g.ids+1) c2) w4 HX4 hs HE.out h8 hnn F2.out F3.out GG FF) (fun e a w hq=>hq) | go_step)
   ·rw[decide_eq_false cd] at t4
    have hD:g.data (ty kd) (seg t (i+8) n) (i+8)=g:=by unfold Fl.data;rw[if_neg cd]
    have HX4:Hid (aq w1 b (g.data (ty kd) (seg t (i+8) n) (i+8)) 0 0 pv cv zv iv):=by
     rw[hD];exact HX.out
    have hdh:(g.data (ty kd) (seg t (i+8) n) (i+8)).hd=f.hd:=by rw[hD];exact HGHD.out
    have FF:=FIN.out w1 pv cv zv iv (Below.refl _ _) HX4.out;have GG:E+4<=t.size->Hid _:=fun q=>G2.out (g.data (ty kd) (seg t (i+8) n) (i+8)) hdh q zv iv pv cv
    have HFF:Hid _:=FF;have HGG:Hid _:=GG;clear hD hdh FF GG cd;go_upto_if 68 with fail
    repeat (first | exact wp_mono (DT (fun r w'=>ChP w w' b f ((af t).drop i) i r) b i n E _ _ t kd (g.data (ty kd) (seg t (i+8) n) (i+8)) pv cv zv iv w1 HX4 hs HE.out h8 hnn F2.out F3.out HGG.out HFF.out) (fun e a w hq=>hq) | go_step)
 ·rw[if_pos v0] at hcd
  have HCD:Hid _:=hcd;have cv0:((V:Int) != 0)=true:=by rw[bne_iff_ne];omega
  have e3:Hid (∀ W,aq W b g 0 0 pv cv zv iv->Calls Tryz.prog 57 #[.pointer (some ⟨b,0,none⟩),.int .i64 (V:Int),.int .i64 ((i:Int)+7)] W fun r w'=>r = .returned (.bool false)/\aq w' b g V (i+7) pv cv zv iv/\Fr1 b W w'):=fun W hW=>lF b g 0 0 V (i+7) pv cv zv iv W hW
  have HV0:Hid (V≠0):=v0;clear hcd v0;go_wp2_with fail;refine (e3.out _ HX.out).mono ?_;rintro r w2 ⟨rfl,h2,hw2⟩;have HH:Hid (ChP w w2 b f ((af t).drop i) i (.returned (.tuple #[.int .i64 (i:Int),.bool false]))):=by
   refine ⟨dn,g,pv,cv,zv,iv,HRD.out,?_,?_,?_,fun q => ?_,HB.out.trans ⟨hw2.os,hw2.tape,hw2.output,hw2.size,fun j hj=>hw2.block j (by omega) (by omega)⟩⟩
   ·rw[HCD.out];rfl
   ·rw[HCD.out]
    show aq w2 b g V (if V=0 then 0 else i+7) _ _ _ _
    rw[if_neg HV0.out];exact h2
   ·rw[HCD.out];exact HSF.out
   ·rw[HCD.out] at q;exact absurd rfl q
  clear h2 hw2;go_wp2
  first
   | exact HH.out
   | (go_ret2;exact HH.out)
