import Derived.Test.YtbedkdnphobmlaaGreatDoorProg
import Derived.Deep.CutBlock
import Derived.Deep.CutRange
import Derived.Deep.RegionHeld3
import Derived.Test.YtbedkdnphobmlaaGreatDoorUaa00
import Derived.Test.YtbedkdnphobmlaaGreatDoorUaa01
import Derived.Test.YtbedkdnphobmlaaGreatDoorUaa06
import Derived.Test.YtbedkdnphobmlaaGreatDoorUaa07
import Derived.Test.YtbedkdnphobmlaaGreatDoorUaa13
import Derived.Test.YtbedkdnphobmlaaGreatDoorUaa14
import Derived.Test.YtbedkdnphobmlaaGreatDoorUaa33
set_option linter.all false
set_option maxRecDepth 100000
set_option maxHeartbeats 0
namespace Go.Proofs.YtbedkdnphobmlaaGreatDoor
open Go.RowKit Tryz
theorem HS w:Calls prog 33 #[.int .i64 0] w λa b=>a=.returned (.tuple #[.int .i64 0,.int .i64 1])/\Kept w b:=by
 go_enter func33,ntmps33;go_wp2;go_quiet (fail);go_wp2;go_ret2;exact⟨rfl,Kept.drewN (Xw (Xw (Xs _ _) (E _) _) Xi _) _⟩
theorem HR w:Calls prog 33 #[.int .i64 1] w λa b=>a=.returned (.tuple #[.int .i64 0,.int .i64 2])/\Kept w b:=by
 go_enter func33,ntmps33;go_wp2;go_quiet (fail);go_wp2;go_ret2;exact⟨rfl,Kept.drewN (Xw (Xw (Xs _ _) (E _) _) Xi _) _⟩
theorem HQ w:Calls prog 33 #[.int .i64 2] w λa b=>a=.returned (.tuple #[.int .i64 0,.int .i64 4])/\Kept w b:=by
 go_enter func33,ntmps33;go_wp2;go_quiet (fail);go_wp2;go_ret2;exact⟨rfl,Kept.drewN (Xw (Xw (Xs _ _) (E _) _) Xi _) _⟩
theorem HM w:Calls prog 33 #[.int .i64 3] w λa b=>a=.returned (.tuple #[.int .i64 0,.int .i64 8])/\Kept w b:=by
 go_enter func33,ntmps33;go_wp2;go_quiet (fail);go_wp2;go_ret2;exact⟨rfl,Kept.drewN (Xw (Xw (Xs _ _) (E _) _) Xi _) _⟩
theorem HK w:Calls prog 33 #[.int .i64 4] w λa b=>a=.returned (.tuple #[.int .i64 0,.int .i64 16])/\Kept w b:=by
 go_enter func33,ntmps33;go_wp2;go_quiet (fail);go_wp2;go_ret2;exact⟨rfl,Kept.drewN (Xw (Xw (Xs _ _) (E _) _) Xi _) _⟩
theorem HJ w:Calls prog 33 #[.int .i64 5] w λa b=>a=.returned (.tuple #[.int .i64 2,.int .i64 8])/\Kept w b:=by
 go_enter func33,ntmps33;go_wp2;go_quiet (fail);go_wp2;go_ret2;exact⟨rfl,Kept.drewN (Xw (Xw (Xs _ _) (E _) _) Xi _) _⟩
theorem HI w:Calls prog 33 #[.int .i64 6] w λa b=>a=.returned (.tuple #[.int .i64 2,.int .i64 16])/\Kept w b:=by
 go_enter func33,ntmps33;go_wp2;go_quiet (fail);go_wp2;go_ret2;exact⟨rfl,Kept.drewN (Xw (Xw (Xs _ _) (E _) _) Xi _) _⟩
theorem HF w:Calls prog 33 #[.int .i64 7] w λa b=>a=.returned (.tuple #[.int .i64 3,.int .i64 1])/\Kept w b:=by
 go_enter func33,ntmps33;go_wp2;go_quiet (fail);go_wp2;go_ret2;exact⟨rfl,Kept.drewN (Xw (Xw (Xs _ _) (E _) _) Xi _) _⟩
theorem HC w:Calls prog 33 #[.int .i64 8] w λa b=>a=.returned (.tuple #[.int .i64 3,.int .i64 2])/\Kept w b:=by
 go_enter func33,ntmps33;go_wp2;go_quiet (fail);go_wp2;go_ret2;exact⟨rfl,Kept.drewN (Xw (Xw (Xs _ _) (E _) _) Xi _) _⟩
theorem HA w:Calls prog 33 #[.int .i64 9] w λa b=>a=.returned (.tuple #[.int .i64 3,.int .i64 4])/\Kept w b:=by
 go_enter func33,ntmps33;go_wp2;go_quiet (fail);go_wp2;go_ret2;exact⟨rfl,Kept.drewN (Xw (Xw (Xs _ _) (E _) _) Xi _) _⟩
theorem DD w:Calls prog 33 #[.int .i64 10] w λa b=>a=.returned (.tuple #[.int .i64 3,.int .i64 8])/\Kept w b:=by
 go_enter func33,ntmps33;go_wp2;go_quiet (fail);go_wp2;go_ret2;exact⟨rfl,Kept.drewN (Xw (Xw (Xs _ _) (E _) _) Xi _) _⟩
theorem DC w:Calls prog 33 #[.int .i64 11] w λa b=>a=.returned (.tuple #[.int .i64 4,.int .i64 8])/\Kept w b:=by
 go_enter func33,ntmps33;go_wp2;go_quiet (fail);go_wp2;go_ret2;exact⟨rfl,Kept.drewN (Xw (Xw (Xs _ _) (E _) _) Xi _) _⟩
theorem DB w:Calls prog 33 #[.int .i64 12] w λa b=>a=.returned (.tuple #[.int .i64 4,.int .i64 16])/\Kept w b:=by
 go_enter func33,ntmps33;go_wp2;go_quiet (fail);go_wp2;go_ret2;exact⟨rfl,Kept.drewN (Xw (Xw (Xs _ _) (E _) _) Xi _) _⟩
theorem Dz w:Calls prog 33 #[.int .i64 13] w λa b=>a=.returned (.tuple #[.int .i64 6,.int .i64 8])/\Kept w b:=by
 go_enter func33,ntmps33;go_wp2;go_quiet (fail);go_wp2;go_ret2;exact⟨rfl,Kept.drewN (Xw (Xw (Xs _ _) (E _) _) Xi _) _⟩
theorem Dy w:Calls prog 33 #[.int .i64 14] w λa b=>a=.returned (.tuple #[.int .i64 6,.int .i64 16])/\Kept w b:=by
 go_enter func33,ntmps33;go_wp2;go_quiet (fail);go_wp2;go_ret2;exact⟨rfl,Kept.drewN (Xw (Xw (Xs _ _) (E _) _) Xi _) _⟩
theorem A1(k:Nat)w(e:k<15):Calls prog 33 #[.int .i64 k] w λc d=>(∃K D:Nat,ax K D/\c=.returned (.tuple #[.int .i64 K,.int .i64 D]))/\Kept w d:=by
 have:k=0\/k=1\/k=2\/k=3\/k=4\/k=5\/k=6\/k=7\/k=8\/k=9\/k=10\/k=11\/k=12\/k=13\/k=14:=O
 rcases this with rfl|rfl|rfl|rfl|rfl|rfl|rfl|rfl|rfl|rfl|rfl|rfl|rfl|rfl|rfl
 .exact(HS w).mono (λc d ⟨a,b⟩=>⟨⟨0,1,by unfold ax;omega,a⟩,b⟩)
 .exact(HR w).mono (λc d ⟨a,b⟩=>⟨⟨0,2,by unfold ax;omega,a⟩,b⟩)
 .exact(HQ w).mono (λc d ⟨a,b⟩=>⟨⟨0,4,by unfold ax;omega,a⟩,b⟩)
 .exact(HM w).mono (λc d ⟨a,b⟩=>⟨⟨0,8,by unfold ax;omega,a⟩,b⟩)
 .exact(HK w).mono (λc d ⟨a,b⟩=>⟨⟨0,16,by unfold ax;omega,a⟩,b⟩)
 .exact(HJ w).mono (λc d ⟨a,b⟩=>⟨⟨2,8,by unfold ax;omega,a⟩,b⟩)
 .exact(HI w).mono (λc d ⟨a,b⟩=>⟨⟨2,16,by unfold ax;omega,a⟩,b⟩)
 .exact(HF w).mono (λc d ⟨a,b⟩=>⟨⟨3,1,by unfold ax;omega,a⟩,b⟩)
 .exact(HC w).mono (λc d ⟨a,b⟩=>⟨⟨3,2,by unfold ax;omega,a⟩,b⟩)
 .exact(HA w).mono (λc d ⟨a,b⟩=>⟨⟨3,4,by unfold ax;omega,a⟩,b⟩)
 .exact(DD w).mono (λc d ⟨a,b⟩=>⟨⟨3,8,by unfold ax;omega,a⟩,b⟩)
 .exact(DC w).mono (λc d ⟨a,b⟩=>⟨⟨4,8,by unfold ax;omega,a⟩,b⟩)
 .exact(DB w).mono (λc d ⟨a,b⟩=>⟨⟨4,16,by unfold ax;omega,a⟩,b⟩)
 .exact(Dz w).mono (λc d ⟨a,b⟩=>⟨⟨6,8,by unfold ax;omega,a⟩,b⟩)
 .exact(Dy w).mono (λc d ⟨a,b⟩=>⟨⟨6,16,by unfold ax;omega,a⟩,b⟩)
def lastOf:Code->Code
 | .seq _ b=>lastOf b
 | c=>c
theorem th(u1 u2 u4 u5 u6 u7 u9 KN KM KL KK KJ u16 KI KH KG KF KE KD KC KB KA Kz Ky Kx Kw Kv u32 Ku Kt Ks Kr Kq Kp Ko Kn Km Kl Kk Kj Ki Kh Kg Kf Ke Kc J9 J8 J7 J6 J5 J4 J3 J2 J1 J0 JZ JY JX u64 JW JV JU JT JS JR JQ JP JO JN JM JL JK JJ JI JH JG JF JE JD JC JB JA Jz Jy Jx Jw Jv Ju Jt Js Jr Jq Jp Jo GZ GY GX GW GV GU GT GS GR GQ GP GO GN GM GL GK GJ GI GH GG GF GE GD GC GB GA Gz Gy Gx Gw Gv Gu Gt Gs Gr Gq Gp Gn Gm Gl Gk Gj Gi Gh Gg Gf Ge Gd Gc Gb Ga F9 F8 F7 F6 F5 F4 F3 F2 F1 F0 FZ FY FX FW FV FU FT FR FQ FN FM FJ FI FH FG FE FD FB Fz Fy Fx Fw Fv Fu Ft Fs Fq Fp Fo Fm Fl Fk Fj Fi Fh Fg Ff Fe Fc Fb Fa E9 E8 E7 E6 E5 E4 E3 E2:Value)(x wd H K D L M C1 T0 T:Nat)(pv qv:Value)(pl ql:List Int)(s t:ByteArray)(w wc:World)(hx:x<w.heap.size)(hs:s.size<=65536)(hlg:Z (ax K D))(hG:Z (vR K D M pl ql))(hL:L<2)(hwd1:1<=wd)(hwd2:wd<=16)(hH1:1<=H)(hH2:H<=16)(hm1:1<=M)(hm2:M<=65536)(hC1:Z (C1=chan K))(hC12:1<=C1/\C1<=4)(hT01:T0<=256)(hT1:T<=1024)(eT0:(wd:Int)*(H:Int)=(T0:Int))(eT:(T0:Int)*(C1:Int)=(T:Int))(hT0:Z (T0=wd*H))(hT:Z (T=T0*C1))(hI:Z (cF w wc x (w.heap.size+1) w.heap.size s t (imU w x wd H K D L) pv qv (.slice none 0 0) pl ql [])):Code.wp prog ((f18.body.map lastOf).getD .skip) (bodyPost prog f18 λr w'=>r=.returned (.tuple #[])/\∃wd H K D L:Nat,∃pp qp xp:Option Addr,∃pc qc xc:Nat,∃pal clr pix:List Int,ImR w w' x wd H K D L pp qp xp pc qc xc pal clr pix) ⟨#[.pointer (some ⟨x,0,none⟩),u1,u2,.pointer (some ⟨w.heap.size,0,none⟩),u4,u5,u6,u7,.int .i64 M,u9,KN,KM,KL,.int .i64 C1,KK,KJ,u16,.int .i64 0,KI,KH,KG,KF,KE,KD,KC,KB,KA,Kz,Ky,Kx,Kw,Kv,u32,Ku,Kt,Ks,Kr,Kq,Kp,Ko,Kn,Km,Kl,Kk,Kj,Ki,Kh,Kg,Kf,Ke,Kc,J9,J8,J7,J6,J5,J4,J3,J2,J1,J0,JZ,JY,JX,u64,JW,JV,JU,JT,JS,JR,JQ,JP,JO,JN,JM,JL,JK,JJ,JI,JH,JG,JF,JE,JD,JC,JB,JA,Jz,Jy,Jx,Jw,Jv,Ju,Jt,Js,Jr,Jq,Jp,Jo,GZ,GY,GX,GW,GV,GU,GT,GS,GR,GQ,GP,GO,GN,GM,GL,GK,GJ,GI,GH,GG,GF,GE,GD,GC,GB,GA,Gz,Gy,Gx,Gw,Gv,Gu,Gt,Gs,Gr,Gq,Gp,Gn,Gm,Gl,Gk,Gj,Gi,Gh,Gg,Gf,Ge,Gd,Gc,Gb,Ga,F9,F8,F7,F6,F5,F4,F3,F2,F1,F0,FZ,FY,FX,FW,FV,FU,FT,FR,FQ,FN,FM,FJ,FI,FH,FG,FE,FD,FB,Fz,Fy,Fx,Fw,Fv,Fu,Ft,Fs,Fq,Fp,Fo,Fm,Fl,Fk,Fj,Fi,Fh,Fg,Ff,Fe,Fc,Fb,Fa,E9,E8,E7,E6,E5,E4,E3,E2],[]⟩ wc:=by
 conv=>arg 2;whnf
 have FA:Z (∀(W':World) (k:Nat),k<=1048576->Calls prog 34 #[.string s,.int .i64 k] W' λr w'=>(∃v:Nat,v<256/\r=.returned (.int .i64 v))/\Kept W' w'):=λW' k hk=>vN s k W' hs hk
 go_wp2_with fail;go_loopg [17] T (λk v W=>∃i:Nat,∃xv:Value,∃xl:List Int,v=.int .i64 i/\i<=T/\k=T-i/\xl.length=i/\(∀y∈xl,0<=y/\y<(M:Int))/\cF w W x (w.heap.size+1) w.heap.size s t (imU w x wd H K D L) pv qv xv pl ql xl)
 case atStart=>exact⟨0,_,[],rfl,O,O,rfl,λy hy=>by simp at hy,hI.o⟩
 case round=>
  obtain⟨i,xv,xl,rfl,hi1,hgk,hxl,hxb,hI2⟩:=hrel;clear hI;have k0:wr.cell? ⟨x,0,none⟩=some (.int .i64 wd):=(hI2.rest 0 O).trans rfl;have k1:wr.cell? ⟨x,1,none⟩=some (.int .i64 H):=(hI2.rest 1 O).trans rfl;have k3:=hI2.o3;replace hxl:Z _:=hxl;replace hxb:Z _:=hxb;replace hgk:Z _:=hgk;obtain⟨px,cx,rfl⟩:=hI2.ox.slice;replace hI2:Z (cF w wr x (w.heap.size+1) w.heap.size s t (imU w x wd H K D L) pv qv (.slice px xl.length cx) pl ql xl):=hI2;by_cases hlt:i<T
  .have l1:(i:Int)<(T:Int):=O
   have e2i:(2:Int)*(i:Int)=((2*i:Nat):Int):=O;have e2j:(2:Int)*(i:Int)+1=((2*i+1:Nat):Int):=O;replace e2i:Z _:=e2i;replace e2j:Z _:=e2j;go_wp2_with fail;go_quiet (fail);have Iq:Z (cF w (wr.drewN nq) x (w.heap.size+1) w.heap.size s t (imU w x wd H K D L) pv qv (.slice px xl.length cx) pl ql xl):=hI2.o.kept ((Kept.refl _).drewN _);clear hI2 k0 k1 k3;generalize wr.drewN nq=wq at *;have k3:=Iq.o.o3;go_upto_block 7 with fail
   go_cut [] from 165 to 209 (λW=>∃xv:Value,∃xl:List Int,xl.length=i+1/\(∀y∈xl,0<=y/\y<(M:Int))/\cF w W x (w.heap.size+1) w.heap.size s t (imU w x wd H K D L) pv qv xv pl ql xl)
   case first=>
    --<D0
    go_wp2_with fail;rw[e2i.o];refine(FA.o _ (2*i) O).mono ?_;rintro r wa ⟨⟨v,hv,rfl⟩,hka⟩;have I3:Z _:=Iq.o.kept hka;clear Iq hka k3;have k3:=I3.o.o3;go_wp2_with fail;rw[e2j.o];refine(FA.o _ (2*i+1) O).mono ?_;rintro r wb ⟨⟨v2,hv2,rfl⟩,hka⟩;have I4:Z _:=I3.o.kept hka;clear I3 hka k3;have c6:=I4.o.c6;have hszr:=I4.o.size;have hxr:x<wb.heap.size:=O;have HO:=U I4.o.ox;have hnx:¬(Value.slice px xl.length cx).ownBlock=some x:=λe=>by have:=HO.o.ge x e;omega
    have hxlb:xl.length<=1024:=by have:=hxl.o;omega
    have n2:¬(M=0):=O;obtain⟨E1,hE1⟩:∃E1:Int,E1=(IntKind.i64.wrap (IntKind.i64.wrap (256*(v:Int))+(v2:Int))).tmod (M:Int):=⟨_,rfl⟩;have hE1b:0<=E1/\E1<(M:Int):=by
     rw[hE1,lZ (256*(v:Int)) O O,lZ _ O O,XU O];exact⟨Int.emod_nonneg _ O,Int.emod_lt_of_pos _ O⟩
    replace hE1:Z _:=hE1;go_wp2_with fail;go_region_law ((refine oK (by rfl) _ _ (by rfl) (w.heap.size+1) (.slice px xl.length cx) xl (by rfl) (by exact(HO.o.alloc _).drewN 1) wb.heap.size 1 E1 (by rfl) (by rw[hE1.o];simp) O Xf ?_;intro g' cap w2 ho2 hf2 hn2;have fk:=(((Fr.refl _ wb).alloc _).drewN 1).trans hf2;have k6:=(fk.cell (k:=6) hxr hnx).trans c6;have g6:=(fk.frozen (k:=6) hxr hnx).trans (I4.o.fz 6)))
    all_goals
     have C2:Z _:=cF.grow_x I4.o _ _ fk ho2 (qs hn2);clear fk hf2 ho2 hn2 k6 g6;go_wp2_with fail;go_meet
     case rel=>
      exact⟨_,xl++[E1],kj hxl.o,lW hxb.o hE1b,C2.o⟩
    -->D0
   case rest=>
    clear k3 Iq;obtain⟨qv3,ql3,hl3,hb3,hI3⟩:=hcut;replace hl3:Z _:=hl3;replace hb3:Z _:=hb3;replace hI3:Z _:=hI3;go_wp2_with fail;go_roundg (T-(i+1))
    case measure=>rw[hgk.o];omega
    case rel=>exact⟨i+1,qv3,ql3,Xj,O,rfl,hl3.o,hb3.o,hI3.o⟩
  .have l1:¬(i:Int)<(T:Int):=O
   have hi:i=T:=O;have HX:Z (cF w (wr.drewN 1) x (w.heap.size+1) w.heap.size s t (imU w x wd H K D L) pv qv (.slice px xl.length cx) pl ql xl):=hI2.o.kept ((Kept.refl _).drewN _);go_wp2_with fail;go_quiet (fail);go_wp2_with fail;go_end0
   obtain⟨pp,pc,rfl⟩:=hI2.o.op.slice;obtain⟨qp,qc,rfl⟩:=hI2.o.oq.slice;have hIq:cF w (wr.drewN nq) x (w.heap.size+1) w.heap.size s t (imU w x wd H K D L) (.slice pp pl.length pc) (.slice qp ql.length qc) (.slice px xl.length cx) pl ql xl:=hI2.o.kept ((Kept.refl _).drewN _);exact⟨rfl,wd,H,K,D,L,pp,qp,px,pc,qc,cx,pl,ql,xl,hIq.done (M:=M) (vR.ok hG.o hlg.o hwd1 hwd2 hH1 hH2 (by rw[hxl.o,hi,hT.o,hT0.o,hC1.o]) hxb.o) O⟩
def jm(n:Nat):Code->Option Code
 | .seq (.region k o d) b=>if k=n then some (.seq (.region k o d) b) else jm n b
 | .seq _ b=>jm n b
 | _=>none
theorem vi(u1 u2 u4 u5 u7 u9 KN KM KL Ln KK KJ u16 Lm KI KH KG KF KE KD KC KB KA Kz Ky Kx Kw Kv u32 Ku Kt Ks Kr Kq Kp Ko Kn Km Kl Kk Kj Ki Kh Kg Kf Ke Kc J9 J8 J7 J6 J5 J4 J3 J2 J1 J0 JZ JY JX u64 JW JV JU JT JS JR JQ JP JO JN JM JL JK JJ JI JH JG JF JE JD JC JB JA Jz Jy Jx Jw Jv Ju Jt Js Jr Jq Jp Jo GZ GY GX GW GV GU GT GS GR GQ GP GO GN GM GL GK GJ GI GH GG GF GE GD GC GB GA Gz Gy Gx Gw Gv Gu Gt Gs Gr Gq Gp Gn Gm Gl Gk Gj Gi Gh Gg Gf Ge Gd Gc Gb Ga F9 F8 F7 F6 F5 F4 F3 F2 F1 F0 FZ FY FX FW FV FU FT FR FQ FN FM FJ FI FH FG FE FD FB Fz Fy Fx Fw Fv Fu Ft Fs Fq Fp Fo Fm Fl Fk Fj Fi Fh Fg Ff Fe Fc Fb Fa E9 E8 E7 E6 E5 E4 E3 E2:Value)(x wd H K D L M:Nat)(pv qv:Value)(pl ql:List Int)(s t:ByteArray)(w wc:World)(hx:x<w.heap.size)(hs:s.size<=65536)(ht:t.size<=65536)(hlg:Z (ax K D))(hG:Z (Iy K D M pl ql))(hL:L<2)(hwd1:1<=wd)(hwd2:wd<=16)(hH1:1<=H)(hH2:H<=16)(hm1:1<=M)(hm2:M<=65536)(hI:Z (cF w wc x (w.heap.size+1) w.heap.size s t (imU w x wd H K D L) pv qv (.slice none 0 0) pl ql [])):Code.wp prog ((f18.body.bind (jm 21)).getD .skip) (bodyPost prog f18 λr w'=>r=.returned (.tuple #[])/\∃wd H K D L:Nat,∃pp qp xp:Option Addr,∃pc qc xc:Nat,∃pal clr pix:List Int,ImR w w' x wd H K D L pp qp xp pc qc xc pal clr pix) ⟨#[.pointer (some ⟨x,0,none⟩),u1,u2,.pointer (some ⟨w.heap.size,0,none⟩),u4,u5,.int .i64 K,u7,.int .i64 M,u9,KN,KM,KL,Ln,KK,KJ,u16,Lm,KI,KH,KG,KF,KE,KD,KC,KB,KA,Kz,Ky,Kx,Kw,Kv,u32,Ku,Kt,Ks,Kr,Kq,Kp,Ko,Kn,Km,Kl,Kk,Kj,Ki,Kh,Kg,Kf,Ke,Kc,J9,J8,J7,J6,J5,J4,J3,J2,J1,J0,JZ,JY,JX,u64,JW,JV,JU,JT,JS,JR,JQ,JP,JO,JN,JM,JL,JK,JJ,JI,JH,JG,JF,JE,JD,JC,JB,JA,Jz,Jy,Jx,Jw,Jv,Ju,Jt,Js,Jr,Jq,Jp,Jo,GZ,GY,GX,GW,GV,GU,GT,GS,GR,GQ,GP,GO,GN,GM,GL,GK,GJ,GI,GH,GG,GF,GE,GD,GC,GB,GA,Gz,Gy,Gx,Gw,Gv,Gu,Gt,Gs,Gr,Gq,Gp,Gn,Gm,Gl,Gk,Gj,Gi,Gh,Gg,Gf,Ge,Gd,Gc,Gb,Ga,F9,F8,F7,F6,F5,F4,F3,F2,F1,F0,FZ,FY,FX,FW,FV,FU,FT,FR,FQ,FN,FM,FJ,FI,FH,FG,FE,FD,FB,Fz,Fy,Fx,Fw,Fv,Fu,Ft,Fs,Fq,Fp,Fo,Fm,Fl,Fk,Fj,Fi,Fh,Fg,Ff,Fe,Fc,Fb,Fa,E9,E8,E7,E6,E5,E4,E3,E2],[]⟩ wc:=by
 conv=>arg 2;whnf
 have k4:=hI.o.o4;go_wp2_with fail;refine(dE K _ (gF hlg.o)).mono ?_;rintro r wc' ⟨rfl,hw⟩;subst hw;obtain⟨C1,hC1⟩:∃C1:Nat,C1=chan K:=⟨_,rfl⟩;have hC12:1<=C1/\C1<=4:=by
  rw[hC1];rcases gF hlg.o with rfl|rfl|rfl|rfl|rfl<;>decide
 rw[<-hC1];replace hC1:Z _:=hC1;go_upto_region 22 with fail
 go_cut [6,13,131] from 20 (λk6 c13 b W=>k6=.int .i64 K/\c13=.int .i64 C1/\b=.bool (decide ((K=0\/K=2)/\0<t.size))/\W=wc')
 case first=>
  clear hG hI hlg;go_wp2
  all_goals
   go_meet
   case rel=>
    exact⟨bU O,rfl,zD Xf,rfl⟩
 case rest=>
  obtain⟨rfl,rfl,rfl,hw⟩:=hcut;subst hw;go_upto_if 131 with fail
  go_cut [] from 20 (λW=>∃qv:Value,∃ql:List Int,vR K D M pl ql/\cF w W x (w.heap.size+1) w.heap.size s t (imU w x wd H K D L) pv qv (.slice none 0 0) pl ql [])
  case first=>
   by_cases hcond:(K=0\/K=2)/\0<t.size
   .have hcd:=decide_eq_true hcond
    have hG1:Z (K≠3/\M=2^D/\pl=[]/\ql=[]):=by
     rcases hG.o with⟨h3,_⟩|h
     .omega
     .exact h
    have FA:Z (∀(W':World) (k:Nat),k<=1048576->Calls prog 34 #[.string t,.int .i64 k] W' λr w'=>(∃v:Nat,v<256/\r=.returned (.int .i64 v))/\Kept W' w'):=λW' k hk=>vN t k W' ht hk
    rw[hcd];clear hcd;go_wp2_with fail;go_loopg [14] C1 (λk v W=>∃i:Nat,∃qv:Value,∃ql:List Int,v=.int .i64 i/\i<=C1/\k=C1-i/\ql.length=i/\(∀y∈ql,0<=y/\y<(M:Int))/\cF w W x (w.heap.size+1) w.heap.size s t (imU w x wd H K D L) pv qv (.slice none 0 0) pl ql [])
    case atStart=>exact⟨0,_,[],rfl,O,O,rfl,λy hy=>by simp at hy,by rw[hG1.o.2.2.2] at hI;exact hI.o⟩
    case round=>
     obtain⟨i,qv2,ql2,rfl,hi1,hgk,hql,hqb,hI2⟩:=hrel;clear hI k4;by_cases hlt:i<C1
     .have l1:(i:Int)<(C1:Int):=O
      have k4:=hI2.o4;obtain⟨pq,cq,rfl⟩:=hI2.oq.slice;replace hql:Z _:=hql;replace hqb:Z _:=hqb;replace hgk:Z _:=hgk;replace hI2:Z (cF w wr x (w.heap.size+1) w.heap.size s t (imU w x wd H K D L) pv (.slice pq ql2.length cq) (.slice none 0 0) pl ql2 []):=hI2;have e2i:(2:Int)*(i:Int)=((2*i:Nat):Int):=O;have e2j:(2:Int)*(i:Int)+1=((2*i+1:Nat):Int):=O;replace e2i:Z _:=e2i;replace e2j:Z _:=e2j;go_upto_block 5 with fail
      go_cut [] from 132 to 164 (λW=>∃qv:Value,∃ql:List Int,ql.length=i+1/\(∀y∈ql,0<=y/\y<(M:Int))/\cF w W x (w.heap.size+1) w.heap.size s t (imU w x wd H K D L) pv qv (.slice none 0 0) pl ql [])
      case first=>
       go_wp2_with fail;rw[e2i.o];refine(FA.o _ (2*i) O).mono ?_;rintro r wa ⟨⟨v,hv,rfl⟩,hka⟩;have I3:Z _:=hI2.o.kept hka;clear hI2 hka k4;have k4:=I3.o.o4;go_wp2_with fail;rw[e2j.o];refine(FA.o _ (2*i+1) O).mono ?_;rintro r wb ⟨⟨v2,hv2,rfl⟩,hka⟩;have I4:Z _:=I3.o.kept hka;clear I3 hka k4;have c5:=I4.o.c5;have hszr:=I4.o.size;have hxr:x<wb.heap.size:=O;have HO:=U I4.o.oq;have hnx:¬(Value.slice pq ql2.length cq).ownBlock=some x:=λe=>by have:=HO.o.ge x e;omega
       have hqlb:ql2.length<=64:=by have:=hql.o;omega
       have n2:¬(M=0):=O;obtain⟨E1,hE1⟩:∃E1:Int,E1=(IntKind.i64.wrap (IntKind.i64.wrap (256*(v:Int))+(v2:Int))).tmod (M:Int):=⟨_,rfl⟩;have hE1b:0<=E1/\E1<(M:Int):=by
        rw[hE1,lZ (256*(v:Int)) O O,lZ _ O O,XU O];exact⟨Int.emod_nonneg _ O,Int.emod_lt_of_pos _ O⟩
       replace hE1:Z _:=hE1;go_wp2_with fail;go_region_law ((refine oK (by rfl) _ _ (by rfl) (w.heap.size+1) (.slice pq ql2.length cq) ql2 (by rfl) (by exact(HO.o.alloc _).drewN 1) wb.heap.size 1 E1 (by rfl) (by rw[hE1.o];simp) O Xf ?_;intro g' cap w2 ho2 hf2 hn2;have fk:=(((Fr.refl _ wb).alloc _).drewN 1).trans hf2;have k5:=(fk.cell (k:=5) hxr hnx).trans c5;have g5:=(fk.frozen (k:=5) hxr hnx).trans (I4.o.fz 5)))
       all_goals
        have C2:Z _:=cF.grow_q I4.o _ _ fk ho2 (qs hn2);clear fk hf2 ho2 hn2 k5 g5;go_wp2_with fail;go_meet
        case rel=>
         exact⟨_,ql2++[E1],kj hql.o,lW hqb.o hE1b,C2.o⟩
      case rest=>
       clear k4 hI2;obtain⟨qv3,ql3,hl3,hb3,hI3⟩:=hcut;replace hl3:Z _:=hl3;replace hb3:Z _:=hb3;replace hI3:Z _:=hI3;go_wp2_with fail;go_roundg (C1-(i+1))
       case measure=>rw[hgk.o];omega
       case rel=>exact⟨i+1,qv3,ql3,Xj,O,rfl,hl3.o,hb3.o,hI3.o⟩
     .have l1:¬(i:Int)<(C1:Int):=O
      have hi:i=C1:=O;have HX:Z (∃qv:Value,∃ql:List Int,vR K D M pl ql/\cF w wr x (w.heap.size+1) w.heap.size s t (imU w x wd H K D L) pv qv (.slice none 0 0) pl ql []):=by
       obtain⟨a1,a2,a3,a4⟩:=hG1.o;refine⟨qv2,ql2,R ⟨a1,a2,a3,R ⟨hcond.1,?_,?_⟩⟩,hI2⟩
       .rw[hql,hi];exact hC1.o
       .rw[<-a2];exact hqb
      clear hql hqb hI2 hi hgk;go_wp2;go_meet
      case rel=>exact HX.o
   .have hcd:=J hcond
    have HX:Z (∃qv:Value,∃ql:List Int,vR K D M pl ql/\cF w wc x (w.heap.size+1) w.heap.size s t (imU w x wd H K D L) pv qv (.slice none 0 0) pl ql []):=by
     refine⟨qv,ql,?_,hI.o⟩;rcases hG.o with h|⟨a1,a2,a3,a4⟩
     .exact Or.inl h
     .exact R ⟨a1,a2,a3,Or.inl a4⟩
    clear hI hG;go_wp2;go_meet
    case rel=>exact HX.o
  case rest=>
   clear hG hI;obtain⟨qv,ql,hG,hI⟩:=hcut;replace hG:Z _:=hG;replace hI:Z (cF w wc x (w.heap.size+1) w.heap.size s t (imU w x wd H K D L) pv qv (.slice none 0 0) pl ql []):=hI;obtain⟨T0,hT0⟩:∃T0:Nat,T0=wd*H:=⟨_,rfl⟩;have hT01:T0<=256:=by rw[hT0];exact XF hwd2 hH2
   obtain⟨T,hT⟩:∃T:Nat,T=T0*C1:=⟨_,rfl⟩;have hT1:T<=1024:=by rw[hT];exact XF hT01 hC12.2
   have eT0:(wd:Int)*(H:Int)=(T0:Int):=by rw[hT0];simp
   have eT:(T0:Int)*(C1:Int)=(T:Int):=by rw[hT];simp
   replace hT0:Z _:=hT0;replace hT:Z _:=hT;go_upto_block 6 with fail
   exact th _ _ _ _ _ _ _ _ _ _ _ _ _ _ _ _ _ _ _ _ _ _ _ _ _ _ _ _ _ _ _ _ _ _ _ _ _ _ _ _ _ _ _ _ _ _ _ _ _ _ _ _ _ _ _ _ _ _ _ _ _ _ _ _ _ _ _ _ _ _ _ _ _ _ _ _ _ _ _ _ _ _ _ _ _ _ _ _ _ _ _ _ _ _ _ _ _ _ _ _ _ _ _ _ _ _ _ _ _ _ _ _ _ _ _ _ _ _ _ _ _ _ _ _ _ _ _ _ _ _ _ _ _ _ _ _ _ _ _ _ _ _ _ _ _ _ _ _ _ _ _ _ _ _ _ _ _ _ _ _ _ _ _ _ _ _ _ _ _ _ _ _ _ _ _ _ _ _ _ _ _ _ _ _ _ _ _ _ _ _ _ _ _ _ _ _ _ _ _ _ _ _ _ _ _ x wd H K D L M C1 T0 T pv qv pl ql s t w wc hx hs hlg hG hL hwd1 hwd2 hH1 hH2 hm1 hm2 hC1 hC12 hT01 hT1 eT0 eT hT0 hT hI
theorem iY(x A B C:Nat)s t w(a3:x<w.heap.size)(c4:∀e,w.frozen? ⟨x,e,none⟩=false)(c5:∀b,b<15->(w.cell? ⟨x,b,none⟩).isSome=true)(m9:A<=1099511627776)(h9:B<=1099511627776)(n0:C<=1099511627776)(i0:s.size<=65536)(e9:t.size<=65536):Calls prog 18 #[.pointer (some ⟨x,0,none⟩),.agg #[.int .i64 A,.int .i64 B,.int .i64 C,.string s,.string t]] w λr U=>r=.returned (.tuple #[])/\∃j l h i n:Nat,∃K i1 i2:Option Addr,∃i3 i4 i5:Nat,∃i6 i7 i8:List Int,ImR w U x j l h i n K i1 i2 i3 i4 i5 i6 i7 i8:=by
 have c6:Z (∀(f:World) (c7 c:Nat),c7<=1099511627776->1<=c->c<=1099511627776->Calls prog 17 #[.int .i64 c7,.int .i64 c] f λr U=>(∃e:Nat,e<c/\r=.returned (.int .i64 e))/\U=f):=λf c7 c n1 f0 i9=>dO (c7:Int) c f O O f0 i9
 have f1:Z (∀(f:World) (e:Nat),e<15->Calls prog 33 #[.int .i64 e] f λr U=>(∃h i:Nat,ax h i/\r=.returned (.tuple #[.int .i64 h,.int .i64 i]))/\Kept f U):=λf e d9=>A1 e f d9
 have a4:Kept w (w.alloc (Obj.cells #[.int .i64 A,.int .i64 B,.int .i64 C,.string s,.string t] 41)):=Xw (Xs _ _) (E _) _;have V:w.heap.size<(w.alloc (Obj.cells #[.int .i64 A,.int .i64 B,.int .i64 C,.string s,.string t] 41)).heap.size:=Xi;have f2:∀b,b<15->((w.alloc (Obj.cells #[.int .i64 A,.int .i64 B,.int .i64 C,.string s,.string t] 41)).cell? ⟨x,b,none⟩).isSome=true:=λb c8=>by rw[a4.cell (p:=⟨x,b,none⟩) a3];exact c5 b c8
 have f3:∀e,(w.alloc (Obj.cells #[.int .i64 A,.int .i64 B,.int .i64 C,.string s,.string t] 41)).frozen? ⟨x,e,none⟩=false:=λe=>(a4.frozen (p:=⟨x,e,none⟩) a3).trans (c4 e)
 have j0:(w.alloc (Obj.cells #[.int .i64 A,.int .i64 B,.int .i64 C,.string s,.string t] 41)).cell? ⟨w.heap.size,1,none⟩=some (.int .i64 B):=by rw[Xr _ _ _ _ rfl];rfl
 have e0:(w.alloc (Obj.cells #[.int .i64 A,.int .i64 B,.int .i64 C,.string s,.string t] 41)).cell? ⟨w.heap.size,2,none⟩=some (.int .i64 C):=by rw[Xr _ _ _ _ rfl];rfl
 have c9:(w.alloc (Obj.cells #[.int .i64 A,.int .i64 B,.int .i64 C,.string s,.string t] 41)).cell? ⟨w.heap.size,3,none⟩=some (.string s):=by rw[Xr _ _ _ _ rfl];rfl
 have d0:(w.alloc (Obj.cells #[.int .i64 A,.int .i64 B,.int .i64 C,.string s,.string t] 41)).cell? ⟨w.heap.size,4,none⟩=some (.string t):=by rw[Xr _ _ _ _ rfl];rfl
 have n2:w.heap.size≠x:=O;replace a4:Z _:=a4;replace c4:Z _:=c4;replace c5:Z _:=c5;go_enter func18,ntmps18;go_wp2_with fail;generalize (w.alloc (Obj.cells #[.int .i64 A,.int .i64 B,.int .i64 C,.string s,.string t] 41))=j1 at *;refine(c6.o _ A 256 O O O).mono ?_;rintro r j1 ⟨⟨o,n3,rfl⟩,rfl⟩;go_wp2_with fail;refine(c6.o _ B 15 O O O).mono ?_;rintro r a5 ⟨⟨H,j2,rfl⟩,e1⟩;subst e1;go_wp2_with fail;refine(f1.o _ H j2).mono ?_;rintro r a5 ⟨⟨h,i,a6,rfl⟩,Q⟩;replace e0:=(Q.cell (p:=⟨w.heap.size,2,none⟩) V).trans e0;replace c9:=(Q.cell (p:=⟨w.heap.size,3,none⟩) V).trans c9;replace d0:=(Q.cell (p:=⟨w.heap.size,4,none⟩) V).trans d0;clear j0;have y:∀b,b<15->(a5.cell? ⟨x,b,none⟩).isSome=true:=λb c8=>by rw[Q.cell (p:=⟨x,b,none⟩) (YZ a3 V)];exact f2 b c8
 have u:∀e,a5.frozen? ⟨x,e,none⟩=false:=λe=>(Q.frozen (p:=⟨x,e,none⟩) (YZ a3 V)).trans (f3 e)
 have e2:Z (Kept w a5):=Kept.trans a4.o Q;have n4:=Xq V Q.size;clear Q f3 f2 a4 V;obtain⟨n5,f4⟩:=Option.isSome_iff_exists.1 (y 0 O);obtain⟨n6,f5⟩:=Option.isSome_iff_exists.1 (y 1 O);obtain⟨n7,f6⟩:=Option.isSome_iff_exists.1 (y 2 O);obtain⟨n8,f7⟩:=Option.isSome_iff_exists.1 (y 3 O);obtain⟨n9,f8⟩:=Option.isSome_iff_exists.1 (y 4 O);obtain⟨o0,f9⟩:=Option.isSome_iff_exists.1 (y 5 O);obtain⟨o1,g0⟩:=Option.isSome_iff_exists.1 (y 6 O);obtain⟨o2,g1⟩:=Option.isSome_iff_exists.1 (y 7 O);have j3:=u 0;have j4:=u 1;have j5:=u 2;have j6:=u 3;have j7:=u 4;have j8:=u 5;have j9:=u 6;have k0:=u 7;replace u:Z _:=u;replace y:Z _:=y;replace a6:Z _:=a6;go_wp2_with fail;refine(c6.o _ C 2 O O O).mono ?_;rintro r g2 ⟨⟨n,k1,rfl⟩,e1⟩;subst e1;go_upto_if 54 with fail
 obtain⟨j,k2⟩:∃j:Nat,j=o%16+1:=⟨_,rfl⟩;obtain⟨l,k3⟩:∃l:Nat,l=o/16+1:=⟨_,rfl⟩;have g3:(o:Int)%16+1=(j:Int):=O;have g4:(o:Int)/16+1=(l:Int):=O;have k4:1<=j:=O;have k5:j<=16:=O;have k6:1<=l:=O;have k7:l<=16:=O;rw[g3,g4,Do (xh a6.o)];clear k2 k3 g3 g4;have g5:=dS (xh a6.o);have g6:1<=2^i:=Nat.one_le_two_pow;have d1:h=3->2^i<=256:=λb0=>by subst b0;exact eg (yK a6.o)
 obtain⟨b1,b2⟩:∃b1:Nat,b1=2^i:=⟨_,rfl⟩;rw[<-b2] at g6 g5 d1 ⊢;replace b2:Z _:=b2;replace d1:Z _:=d1;have b3:Z (cF w ((((((((a5.setCell ⟨x,0,none⟩ (.int .i64 j)).setCell ⟨x,1,none⟩ (.int .i64 l)).setCell ⟨x,2,none⟩ (.int .i64 h)).setCell ⟨x,3,none⟩ (.int .i64 i)).setCell ⟨x,4,none⟩ (.slice none 0 0)).setCell ⟨x,5,none⟩ (.slice none 0 0)).setCell ⟨x,6,none⟩ (.slice none 0 0)).setCell ⟨x,7,none⟩ (.int .i64 n)) x (w.heap.size+1) w.heap.size s t (imU w x j l h i n) (.slice none 0 0) (.slice none 0 0) (.slice none 0 0) [] [] []):=by
  have a:∀(f:World) (o H:Nat) (S:Value),o≠H->(f.setCell ⟨x,o,none⟩ S).cell? ⟨x,H,none⟩=f.cell? ⟨x,H,none⟩:=λf o H S k8=>aa _ _ _ _ _ k8
  have g7:∀(f:World) (o H:Nat) (S:Value),(f.setCell ⟨x,o,none⟩ S).cell? ⟨w.heap.size,H,none⟩=f.cell? ⟨w.heap.size,H,none⟩:=λf o H S=>Yl _ _ _ _ (by intro b4;injection b4;omega)
  have k9:∀(f:World) (o:Nat) (S:Value),(f.setCell ⟨x,o,none⟩ S).heap.size=f.heap.size:=λf o S=>by simp[World.setCell]
  refine⟨O,O,O,by simp only[k9];omega,λe=>by simp only[Xy];exact u.o e,?_,?_,?_,bj.nil _ _,bj.nil _ _,bj.nil _ _,(λd2 W=>by cases W),(λd2 W=>by cases W),(λd2 W=>by cases W),?_,?_,?_,?_,O⟩
  .rw[a _ 7 4 _ O,a _ 6 4 _ O,a _ 5 4 _ O]
   exact af (by rw[a _ 3 4 _ O,a _ 2 4 _ O,a _ 1 4 _ O,a _ 0 4 _ O];exact f8) _
  .rw[a _ 7 5 _ O,a _ 6 5 _ O]
   exact af (by rw[a _ 4 5 _ O,a _ 3 5 _ O,a _ 2 5 _ O,a _ 1 5 _ O,a _ 0 5 _ O];exact f9) _
  .rw[a _ 7 6 _ O]
   exact af (by rw[a _ 5 6 _ O,a _ 4 6 _ O,a _ 3 6 _ O,a _ 2 6 _ O,a _ 1 6 _ O,a _ 0 6 _ O];exact g0) _
  .simp only[g7];exact c9
  .simp only[g7];exact d0
  .intro b c8
   by_cases e3:b=0
   .subst e3
    rw[a _ 7 0 _ O,a _ 6 0 _ O,a _ 5 0 _ O,a _ 4 0 _ O,a _ 3 0 _ O,a _ 2 0 _ O,a _ 1 0 _ O];exact af f4 _
   by_cases g8:b=1
   .subst g8
    rw[a _ 7 1 _ O,a _ 6 1 _ O,a _ 5 1 _ O,a _ 4 1 _ O,a _ 3 1 _ O,a _ 2 1 _ O];exact af (by rw[a _ 0 1 _ O];exact f5) _
   by_cases g9:b=2
   .subst g9
    rw[a _ 7 2 _ O,a _ 6 2 _ O,a _ 5 2 _ O,a _ 4 2 _ O,a _ 3 2 _ O];exact af (by rw[a _ 1 2 _ O,a _ 0 2 _ O];exact f6) _
   by_cases h0:b=3
   .subst h0
    rw[a _ 7 3 _ O,a _ 6 3 _ O,a _ 5 3 _ O,a _ 4 3 _ O];exact af (by rw[a _ 2 3 _ O,a _ 1 3 _ O,a _ 0 3 _ O];exact f7) _
   by_cases h1:b=7
   .subst h1
    exact af (by rw[a _ 6 7 _ O,a _ 5 7 _ O,a _ 4 7 _ O,a _ 3 7 _ O,a _ 2 7 _ O,a _ 1 7 _ O,a _ 0 7 _ O];exact g1) _
   rw[a _ 7 b _ O,a _ 6 b _ O,a _ 5 b _ O,a _ 4 b _ O,a _ 3 b _ O,a _ 2 b _ O,a _ 1 b _ O,a _ 0 b _ O];unfold imU;rw[N e3,N g8,N g9,N h0,N h1];exact e2.o.cell (p:=⟨x,b,none⟩) a3
  .exact Fr1.set (Fr1.set (Fr1.set (Fr1.set (Fr1.set (Fr1.set (Fr1.set (Fr1.set (Fr.of_kept e2.o) _ _) _ _) _ _) _ _) _ _) _ _) _ _) _ _
 generalize ((((((((a5.setCell ⟨x,0,none⟩ (.int .i64 j)).setCell ⟨x,1,none⟩ (.int .i64 l)).setCell ⟨x,2,none⟩ (.int .i64 h)).setCell ⟨x,3,none⟩ (.int .i64 i)).setCell ⟨x,4,none⟩ (.slice none 0 0)).setCell ⟨x,5,none⟩ (.slice none 0 0)).setCell ⟨x,6,none⟩ (.slice none 0 0)).setCell ⟨x,7,none⟩ (.int .i64 n))=l0 at *;clear f4 f5 f6 f7 f8 f9 g0 g1 j3 j4 j5 j6 j7 j8 j9 k0 e0 c9 d0 u y e2 c5 c4 c6 f1;go_cut [6,8] from 20 (λl1 l2 z=>∃D:Nat,∃I J:Value,∃d g:List Int,l1=.int .i64 h/\l2=.int .i64 D/\1<=D/\D<=65536/\Iy h i D d g/\cF w z x (w.heap.size+1) w.heap.size s t (imU w x j l h i n) I J (.slice none 0 0) d g [])
 case first=>
  by_cases b5:h=3
  .have T:=b3.o.o4
   have o3:=d1.o b5;have e4:(h:Int)=3:=O;replace b5:Z _:=b5;have l3:Z (∀(f:World) (e:Nat),e<=1048576->Calls prog 34 #[.string t,.int .i64 e] f λr U=>(∃G:Nat,G<256/\r=.returned (.int .i64 G))/\Kept f U):=λf e d9=>vN t e f e9 d9
   go_upto_if 62 with fail
   simp only[e4];go_cut [9] from 20 (λG z=>∃c:Nat,G=.int .i64 c/\1<=c/\c<=b1/\z=l0)
   case first=>
    go_wp2
    all_goals
     go_meet
     case rel=>
      first
       | exact⟨b1,rfl,O,O,rfl⟩
       | exact⟨t.size/4+1,bU O,O,O,rfl⟩
   case rest=>
    obtain⟨c,rfl,h2,l4,l5⟩:=hcut;subst l5;go_wp2_with fail;go_loopg [10] (3*c) (λe G z=>∃m:Nat,∃I:Value,∃d:List Int,G=.int .i64 m/\m<=3*c/\e=3*c-m/\d.length=m/\(∀q∈d,0<=q/\q<256)/\cF w z x (w.heap.size+1) w.heap.size s t (imU w x j l h i n) I (.slice none 0 0) (.slice none 0 0) d [] [])
    case atStart=>exact⟨0,_,[],rfl,O,O,rfl,λq e5=>by simp at e5,b3.o⟩
    case round=>
     obtain⟨m,I,d,rfl,o4,d3,a7,b6,M⟩:=hrel;clear b3 T;have T:=M.o4;obtain⟨K,X,rfl⟩:=M.op.slice;replace a7:Z _:=a7;replace b6:Z _:=b6;replace d3:Z _:=d3;replace M:Z (cF w wr x (w.heap.size+1) w.heap.size s t (imU w x j l h i n) (.slice K d.length X) (.slice none 0 0) (.slice none 0 0) d [] []):=M;by_cases o5:m<3*c
     .have l6:(m:Int)<3*(c:Int):=O
      go_upto_block 1 with fail
      go_cut [] from 64 to 85 (λz=>∃I:Value,∃d:List Int,d.length=m+1/\(∀q∈d,0<=q/\q<256)/\cF w z x (w.heap.size+1) w.heap.size s t (imU w x j l h i n) I (.slice none 0 0) (.slice none 0 0) d [] [])
      case first=>
       go_wp2_with fail;refine(l3.o _ m O).mono ?_;rintro r d4 ⟨⟨G,o6,rfl⟩,h3⟩;have b7:Z _:=M.o.kept h3;clear M h3 T;have h4:=b7.o.c4;have l7:=b7.o.size;have b8:x<d4.heap.size:=O;have b9:Z (bj d4 (w.heap.size+1) (.slice K d.length X) d):=b7.o.op;have o7:d.length<=768:=by have:=a7.o;omega
       go_wp2_with (at_builtin;refine Es _ rfl _ _ rfl (w.heap.size+1) (.slice K d.length X) d rfl (b9.o.alloc _) d4.heap.size 1 (G:Int) rfl Xi O Xf ?_)
       intro o8 g2 a8 c0 c1;have c2:¬(Value.slice K d.length X).ownBlock=some x:=λb0=>by have:=b9.o.ge x b0;omega
       have P:=((Fr.refl _ d4).alloc _).trans c0;have T:=(P.cell (k:=4) b8 c2).trans h4;have o9:=(P.frozen (k:=4) b8 c2).trans (b7.o.fz 4);obtain⟨p0,p1,h5⟩:=a8.slice;rw[kj rfl] at h5;subst h5;have e6:Z _:=cF.grow_p b7.o _ _ P a8 (λd2 W=>by rcases c1 d2 W with b4|b4;exact L b4;exact R (by first|omega|(simp at b4;omega)));clear P c0 a8 c1 h4;go_wp2_with fail;go_meet
       case rel=>
        exact⟨_,d++[(G:Int)],kj a7.o,lW b6.o O,e6.o⟩
      case rest=>
       clear T M;obtain⟨e7,e8,Y,a0,a1⟩:=hcut;replace Y:Z _:=Y;replace a0:Z _:=a0;replace a1:Z _:=a1;go_wp2_with fail;go_roundg (3*c-(m+1))
       case measure=>rw[d3.o];omega
       case rel=>exact⟨m+1,e7,e8,Xj,O,rfl,Y.o,a0.o,a1.o⟩
     .have l6:¬(m:Int)<3*(c:Int):=O
      have h6:Z (d.length=3*c):=by have:=a7.o;exact(by omega:d.length=3*c)
      go_wp2_with fail;go_loopg [12] c (λe G z=>∃m:Nat,∃J:Value,∃g:List Int,G=.int .i64 m/\3*c<=m/\m<=4*c/\e=4*c-m/\g.length=m-3*c/\(∀q∈g,0<=q/\q<256)/\cF w z x (w.heap.size+1) w.heap.size s t (imU w x j l h i n) (.slice K d.length X) J (.slice none 0 0) d g [])
      case atStart=>exact⟨3*c,_,[],Xj,O,O,O,Xi,λq e5=>by simp at e5,M.o⟩
      case round=>
       obtain⟨b,J,g,rfl,p2,p3,d5,a9,c3,v⟩:=hrel;clear M T a7 d3;have T:=v.o4;obtain⟨d6,d7,rfl⟩:=v.oq.slice;replace a9:Z _:=a9;replace c3:Z _:=c3;replace d5:Z _:=d5;replace v:Z (cF w wr x (w.heap.size+1) w.heap.size s t (imU w x j l h i n) (.slice K d.length X) (.slice d6 g.length d7) (.slice none 0 0) d g []):=v;by_cases l8:b<4*c/\b<t.size
       .obtain⟨p4,p5⟩:=l8
        have h7:(b:Int)<4*(c:Int):=O;have l9:(b:Int)<(t.size:Int):=O;have e3:(0:Int)<=(b:Int):=O;go_upto_block 3 with fail
        go_cut [] from 88 to 116 (λz=>∃J:Value,∃g:List Int,g.length=b-3*c+1/\(∀q∈g,0<=q/\q<256)/\cF w z x (w.heap.size+1) w.heap.size s t (imU w x j l h i n) (.slice K d.length X) J (.slice none 0 0) d g [])
        case first=>
         have m0:=v.o.c5;have m1:=v.o.fz 5;have l7:=v.o.size;have b8:x<wr.heap.size:=O;have b9:Z (bj wr (w.heap.size+1) (.slice d6 g.length d7) g):=v.o.oq;have c2:¬(Value.slice d6 g.length d7).ownBlock=some x:=λb0=>by have:=b9.o.ge x b0;omega
         have p6:g.length<=256:=by have:=a9.o;omega
         have h9:t[b].toNat<256:=UInt8.toNat_lt _;obtain⟨a2,d8⟩:∃a2:Int,a2=IntKind.i64.wrap (t[b].toNat:Int):=⟨_,rfl⟩;have m2:0<=a2/\a2<256:=by rw[d8,wrapN _ O];omega
         replace d8:Z (a2=IntKind.i64.wrap (t[b].toNat:Int)):=d8;go_wp2_with fail;go_region_law ((refine oK (by rfl) _ _ (by rfl) (w.heap.size+1) (.slice d6 g.length d7) g (by rfl) (by exact(b9.o.alloc _).drewN 1) wr.heap.size 1 a2 (by rfl) (by rw[d8.o];simp) O Xf ?_;intro p7 p8 g2 a8 c0 c1;have P:=(((Fr.refl _ wr).alloc _).drewN 1).trans c0;have m3:=(P.cell (k:=5) b8 c2).trans m0;have m4:=(P.frozen (k:=5) b8 c2).trans m1))
         all_goals
          have e6:Z _:=cF.grow_q v.o _ _ P a8 (qs c1);clear P c0 a8 c1 m3 m4;go_wp2_with fail;go_meet
          case rel=>
           exact⟨_,g++[a2],kj a9.o,lW c3.o m2,e6.o⟩
        case rest=>
         clear T v;obtain⟨e7,e8,Y,a0,a1⟩:=hcut;replace Y:Z _:=Y;replace a0:Z _:=a0;replace a1:Z _:=a1;go_wp2_with fail;go_roundg (4*c-(b+1))
         case measure=>rw[d5.o];omega
         case rel=>exact⟨b+1,e7,e8,Xj,O,O,rfl,by rw[Y.o];omega,a0.o,a1.o⟩
       .have h8:Z (∃D:Nat,∃I J:Value,∃d g:List Int,Value.int .i64 3=.int .i64 h/\Value.int .i64 c=.int .i64 D/\1<=D/\D<=65536/\Iy h i D d g/\cF w wr x (w.heap.size+1) w.heap.size s t (imU w x j l h i n) I J (.slice none 0 0) d g []):=⟨c,_,_,d,g,by rw[e4],rfl,h2,O,L ⟨b5.o,h2,by rw[<-b2.o];exact l4,h6.o,by rw[a9.o];omega,b6.o,c3.o⟩,v.o⟩
        clear v a9 c3 b6 h6 d5;by_cases f0:b<4*c
        .have h7:(b:Int)<4*(c:Int):=O
         have l9:¬(b:Int)<(t.size:Int):=O;go_wp2;go_meet
         case rel=>exact h8.o
        .have h7:¬(b:Int)<4*(c:Int):=O
         go_wp2;go_meet
         case rel=>exact h8.o
  .have e4:((h:Int)==3)=false:=by rw[F];omega
   go_wp2;go_meet
   case rel=>exact⟨b1,_,_,[],[],rfl,rfl,g6,g5,R ⟨b5,b2.o,rfl,rfl⟩,b3.o⟩
 case rest=>
  clear b3;obtain⟨D,I,J,d,g,rfl,rfl,m5,m6,m7,m8⟩:=hcut;go_step;exact vi _ _ _ _ _ _ _ _ _ _ _ _ _ _ _ _ _ _ _ _ _ _ _ _ _ _ _ _ _ _ _ _ _ _ _ _ _ _ _ _ _ _ _ _ _ _ _ _ _ _ _ _ _ _ _ _ _ _ _ _ _ _ _ _ _ _ _ _ _ _ _ _ _ _ _ _ _ _ _ _ _ _ _ _ _ _ _ _ _ _ _ _ _ _ _ _ _ _ _ _ _ _ _ _ _ _ _ _ _ _ _ _ _ _ _ _ _ _ _ _ _ _ _ _ _ _ _ _ _ _ _ _ _ _ _ _ _ _ _ _ _ _ _ _ _ _ _ _ _ _ _ _ _ _ _ _ _ _ _ _ _ _ _ _ _ _ _ _ _ _ _ _ _ _ _ _ _ _ _ _ _ _ _ _ _ _ _ _ _ _ _ _ _ _ _ _ _ _ _ _ _ _ _ _ _ _ x j l h i n D I J d g s t w wc a3 i0 e9 a6 m7 k1 k4 k5 k6 k7 m5 m6 m8
structure Dk (W:World) (x wd H K D L P V Z:Nat) (pp qp xp fp kp cp:Option Addr) (pc qc xc fc kc cc:Nat) (pal clr pix fl kl cl:List Int):Prop where
 xs:x<W.heap.size
 im:cu wd H K D pal clr pix
 ch:rG L P V fl kl cl
 z:Z<=64
 fz:∀k,W.frozen? ⟨x,k,none⟩=false
 c0:W.cell? ⟨x,0,none⟩=some (.int .i64 (wd:Int))
 c1:W.cell? ⟨x,1,none⟩=some (.int .i64 (H:Int))
 c2:W.cell? ⟨x,2,none⟩=some (.int .i64 (K:Int))
 c3:W.cell? ⟨x,3,none⟩=some (.int .i64 (D:Int))
 c4:W.cell? ⟨x,4,none⟩=some (.slice pp pal.length pc)
 c5:W.cell? ⟨x,5,none⟩=some (.slice qp clr.length qc)
 c6:W.cell? ⟨x,6,none⟩=some (.slice xp pix.length xc)
 c7:W.cell? ⟨x,7,none⟩=some (.int .i64 (L:Int))
 c8:W.cell? ⟨x,8,none⟩=some (.slice fp fl.length fc)
 c9:W.cell? ⟨x,9,none⟩=some (.slice kp kl.length kc)
 c10:W.cell? ⟨x,10,none⟩=some (.int .i64 (P:Int))
 c11:W.cell? ⟨x,11,none⟩=some (.slice cp cl.length cc)
 c12:W.cell? ⟨x,12,none⟩=some (.int .i64 (V:Int))
 c13:W.cell? ⟨x,13,none⟩=some (.int .i64 (Z:Int))
 c14:∃u,W.cell? ⟨x,14,none⟩=some u
 lp:LAt W .i64 (.slice pp pal.length pc) pal
 lq:LAt W .i64 (.slice qp clr.length qc) clr
 lx:LAt W .i64 (.slice xp pix.length xc) pix
 lf:LAt W .i64 (.slice fp fl.length fc) fl
 lk:LAt W .i64 (.slice kp kl.length kc) kl
 lc:LAt W .i64 (.slice cp cl.length cc) cl
 bp:∀g,ai (.slice pp pal.length pc)=some g->g≠x/\g<W.heap.size
 bq:∀g,ai (.slice qp clr.length qc)=some g->g≠x/\g<W.heap.size
 bx:∀g,ai (.slice xp pix.length xc)=some g->g≠x/\g<W.heap.size
 bf:∀g,ai (.slice fp fl.length fc)=some g->g≠x/\g<W.heap.size
 bk:∀g,ai (.slice kp kl.length kc)=some g->g≠x/\g<W.heap.size
 bc:∀g,ai (.slice cp cl.length cc)=some g->g≠x/\g<W.heap.size
 grid:aV W
 kp:pal.length<=pc
 kx:pix.length<=xc
theorem Dk.kept{W W' x wd H K D L P V Z pp qp xp fp kp cp pc qc xc fc kc cc pal clr pix fl kl cl}(h:Dk W x wd H K D L P V Z pp qp xp fp kp cp pc qc xc fc kc cc pal clr pix fl kl cl)(k:Kept W W'):Dk W' x wd H K D L P V Z pp qp xp fp kp cp pc qc xc fc kc cc pal clr pix fl kl cl:=by
 have a:∀c,W'.cell? ⟨x,c,none⟩=W.cell? ⟨x,c,none⟩:=λc=>k.cell (p:=⟨x,c,none⟩) h.xs
 have d:∀{e:Value},(∀b,ai e=some b->b≠x/\b<W.heap.size)->∀b,ai e=some b->b≠x/\b<W'.heap.size:=λf b g=>⟨(f b g).1,Xq (f b g).2 k.size⟩
 exact⟨Xq h.xs k.size,h.im,h.ch,h.z,λc=>(k.frozen (p:=⟨x,c,none⟩) h.xs).trans (h.fz c),(a 0).trans h.c0,(a 1).trans h.c1,(a 2).trans h.c2,(a 3).trans h.c3,(a 4).trans h.c4,(a 5).trans h.c5,(a 6).trans h.c6,(a 7).trans h.c7,(a 8).trans h.c8,(a 9).trans h.c9,(a 10).trans h.c10,(a 11).trans h.c11,(a 12).trans h.c12,(a 13).trans h.c13,by obtain⟨i,j⟩:=h.c14;exact⟨i,(a 14).trans j⟩,h.lp.kept k,h.lq.kept k,h.lx.kept k,h.lf.kept k,h.lk.kept k,h.lc.kept k,d h.bp,d h.bq,d h.bx,d h.bf,d h.bk,d h.bc,h.grid.kept k,h.kp,h.kx⟩
theorem Bc{W}(h:aV W){x}(b:4<x)j u:aV (W.setCell ⟨x,j,none⟩ u):=h.fr (S:=λa=>a=x) (Fr.setCell (S:=λa=>a=x) (Fr.refl _ _) (L rfl) _ _) (λc d e=>O)
theorem Dk.set14{W x wd H K D L P V Z pp qp xp fp kp cp pc qc xc fc kc cc pal clr pix fl kl cl}(h:Dk W x wd H K D L P V Z pp qp xp fp kp cp pc qc xc fc kc cc pal clr pix fl kl cl)(k:4<x)v:Dk (W.setCell ⟨x,14,none⟩ v) x wd H K D L P V Z pp qp xp fp kp cp pc qc xc fc kc cc pal clr pix fl kl cl:=by
 have d:Fr (λi=>i=x) W (W.setCell ⟨x,14,none⟩ v):=Fr.setCell (S:=λi=>i=x) (Fr.refl _ _) (Or.inl rfl) _ _;have b:∀e,e≠14->(W.setCell ⟨x,14,none⟩ v).cell? ⟨x,e,none⟩=W.cell? ⟨x,e,none⟩:=λe l=>aa _ _ _ _ _ (λg=>l g.symm)
 have f:∀{j:Value},(∀a,ai j=some a->a≠x/\a<W.heap.size)->∀a,ai j=some a->a≠x/\a<(W.setCell ⟨x,14,none⟩ v).heap.size:=λg a c=>⟨(g a c).1,Xq (g a c).2 d.size⟩
 obtain⟨j,m⟩:=h.c14;exact⟨Xq h.xs d.size,h.im,h.ch,h.z,λe=>by rw[Xy];exact h.fz e,(b 0 O).trans h.c0,(b 1 O).trans h.c1,(b 2 O).trans h.c2,(b 3 O).trans h.c3,(b 4 O).trans h.c4,(b 5 O).trans h.c5,(b 6 O).trans h.c6,(b 7 O).trans h.c7,(b 8 O).trans h.c8,(b 9 O).trans h.c9,(b 10 O).trans h.c10,(b 11 O).trans h.c11,(b 12 O).trans h.c12,(b 13 O).trans h.c13,⟨v,af m _⟩,h.lp.fr d (λa c=>(h.bp a c).1),h.lq.fr d (λa c=>(h.bq a c).1),h.lx.fr d (λa c=>(h.bx a c).1),h.lf.fr d (λa c=>(h.bf a c).1),h.lk.fr d (λa c=>(h.bk a c).1),h.lc.fr d (λa c=>(h.bc a c).1),f h.bp,f h.bq,f h.bx,f h.bf,f h.bk,f h.bc,Bc h.grid k _ _,h.kp,h.kx⟩
theorem Dk.s{W:World}{x wd H K D L P V Z:Nat}{pp qp xp fp kp cp:Option Addr}{pc qc xc fc kc cc:Nat}{pal clr pix fl kl cl:List Int}(h:Dk W x wd H K D L P V Z pp qp xp fp kp cp pc qc xc fc kc cc pal clr pix fl kl cl):W.cell? ⟨x,0,none⟩=some (.int .i64 (wd:Int))/\W.cell? ⟨x,1,none⟩=some (.int .i64 (H:Int))/\W.cell? ⟨x,2,none⟩=some (.int .i64 (K:Int))/\W.cell? ⟨x,3,none⟩=some (.int .i64 (D:Int))/\W.cell? ⟨x,4,none⟩=some (.slice pp pal.length pc)/\W.cell? ⟨x,5,none⟩=some (.slice qp clr.length qc)/\W.cell? ⟨x,6,none⟩=some (.slice xp pix.length xc)/\W.cell? ⟨x,7,none⟩=some (.int .i64 (L:Int))/\W.cell? ⟨x,8,none⟩=some (.slice fp fl.length fc)/\W.cell? ⟨x,9,none⟩=some (.slice kp kl.length kc)/\W.cell? ⟨x,10,none⟩=some (.int .i64 (P:Int))/\W.cell? ⟨x,11,none⟩=some (.slice cp cl.length cc)/\W.cell? ⟨x,12,none⟩=some (.int .i64 (V:Int))/\W.cell? ⟨x,13,none⟩=some (.int .i64 (Z:Int)):=⟨h.c0,h.c1,h.c2,h.c3,h.c4,h.c5,h.c6,h.c7,h.c8,h.c9,h.c10,h.c11,h.c12,h.c13⟩
theorem Dk.make{w W1 W2 x wd H K D L P V Z pp qp xp fp kp cp pc qc xc fc kc cc pal clr pix fl kl cl}(m:x<w.heap.size)(c:ImR w W1 x wd H K D L pp qp xp pc qc xc pal clr pix)(a:ChR W1 W2 x P V Z fp kp cp fc kc cc fl kl cl)(j:∃g,W1.cell? ⟨x,14,none⟩=some g)(k:aV W2):Dk W2 x wd H K D L P V Z pp qp xp fp kp cp pc qc xc fc kc cc pal clr pix fl kl cl:=by
 have n:=c.fr.size;have o:=a.fr.size;have e:∀{f:Value},(∀b,ai f=some b->w.heap.size<=b/\b<W1.heap.size)->∀b,ai f=some b->b≠x/\b<W2.heap.size:=λh b d=>by have:=h b d;omega
 have i:∀{f:Value},(∀b,ai f=some b->W1.heap.size<=b/\b<W2.heap.size)->∀b,ai f=some b->b≠x/\b<W2.heap.size:=λh b d=>by have:=h b d;omega
 obtain⟨g,l⟩:=j;exact⟨O,c.ok,a.ok L c.l,a.z,a.fz,(a.rest 0 O).trans c.c0,(a.rest 1 O).trans c.c1,(a.rest 2 O).trans c.c2,(a.rest 3 O).trans c.c3,(a.rest 4 O).trans c.c4,(a.rest 5 O).trans c.c5,(a.rest 6 O).trans c.c6,(a.rest 7 O).trans c.c7,a.c8,a.c9,a.c10,a.c11,a.c12,a.c13,⟨g,(a.rest 14 O).trans l⟩,c.lp.fr a.fr (λb d=>(e c.bp b d).1),c.lq.fr a.fr (λb d=>(e c.bq b d).1),c.lx.fr a.fr (λb d=>(e c.bx b d).1),a.lf,a.lk,a.lc,e c.bp,e c.bq,e c.bx,i a.bf,i a.bk,i a.bc,k,c.kp,c.kx⟩
