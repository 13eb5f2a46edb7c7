import Derived.Test.YtgooinallljbpaaGreatDoorTd28
import Derived.Test.YtgooinallljbpaaGreatDoorTd26
import Derived.Test.YtgooinallljbpaaGreatDoorTd20
set_option maxRecDepth 100000
set_option maxHeartbeats 6400000
namespace Go.Proofs.YtgooinallljbpaaGreatDoor
open Go.RowKit Px
set_option linter.unusedSimpArgs false
set_option linter.unusedVariables false
theorem KH {u3 u4 u5 u6 u7 u8 u9 rY vo tX uE uC sq u16 sx rX o6 o5 o4 o3 o0 oZ oY oX oW oV oU oT oS u32 oR oQ oP oO oN oM oL oK oJ oI oH oG oF oE oD oC oB oA oz oy ox ow ou ot oq oo om oj oi oh og u64 pW pV qu qt qq qp qo qn qm ql qk qj qi qh qg qf qz qy qx rK rJ rI rH rG rF rE rD rC rB rA rz ry ru rq rp fh eE eB ez ey ew ev eu ej eh ed dZ dY dX dW dV dU dT dS dR dQ dP dO dN dM dL dK dJ dI dH dG dF dE dD dC dB dA dz dy dx fy fx gB iB iA iz iy ix iw iu ir ik ij ig ie ib gZ gY gX gW gV gU gT gS gR gQ gP gO gN gM gK gJ gI kR kQ kP kO kN kM kL kK kJ kI kG kF kE kD kC kB ky kv ku kj kf ke j9 j8 j7 j6 j5 j4 jZ jY jX jW jV jU jT jS jR jQ jP jO jN jM jL jK jJ jI jH gA gy gw gv gp gm gj gi gh gg:Value} (P:Ending->World->Prop) (b:Nat) (k:ByteArray) (n:Nat) (w:World) (hk:k.size=4) (hn:n<2147483648) (K D PN I:Nat) (hp cl ov:Bool) (pa ia:Option Addr) (pc ic:Nat) (hD:D<=16) (hPN:PN<=1048576) (hI:I<=1048576) (hK:kindOk K)
  (c11:w.cell? ⟨b,11,none⟩=some (.slice ia I ic)) (c12:w.cell? ⟨b,12,none⟩=some (.bool ov)) (c4:w.cell? ⟨b,4,none⟩=some (.int .i64 (K:Int))) (c3:w.cell? ⟨b,3,none⟩=some (.int .i64 (D:Int)))
  (c6:w.cell? ⟨b,6,none⟩=some (.bool hp)) (c7:w.cell? ⟨b,7,none⟩=some (.bool cl)) (c8:w.cell? ⟨b,8,none⟩=some (.slice pa PN pc))
  (t1:(k.toList == [73,72,68,82])=false) (t2:(k.toList == [80,76,84,69])=false) (t3:(k.toList == [116,82,78,83])=true) (t4:(k.toList == [73,68,65,84])=false) (t5:(k.toList == [73,69,78,68])=false) (V:Nat) (HV:Hid (V=(if 0<I\/cl=true\/(K=4\/K=6)\/(K=3/\hp=false) then 4 else if K=3/\(n=0\/PN / 3<n) then 5 else if K≠3/\n≠2*vi K then 5 else 0))) (HP:Hid (P (.returned (.int .i64 (V:Int))) w)) :
  Code.wp Tryz.prog ((Tryz.f99.body.bind (fF 16)).getD .skip) (bodyPost Tryz.prog Tryz.f99 P) ⟨#[.pointer (some ⟨b,0,none⟩),.string k,.int .i64 (n:Int),u3,u4,u5,u6,u7,u8,u9,rY,vo,tX,uE,uC,sq,u16,sx,rX,o6,o5,o4,o3,o0,oZ,oY,oX,oW,oV,oU,oT,oS,u32,oR,oQ,oP,oO,oN,oM,oL,oK,oJ,oI,oH,oG,oF,oE,oD,oC,oB,oA,oz,oy,ox,ow,ou,ot,oq,oo,om,oj,oi,oh,og,u64,pW,pV,qu,qt,qq,qp,qo,qn,qm,ql,qk,qj,qi,qh,qg,qf,qz,qy,qx,rK,rJ,rI,rH,rG,rF,rE,rD,rC,rB,rA,rz,ry,ru,rq,rp,fh,eE,eB,ez,ey,ew,ev,eu,ej,eh,ed,dZ,dY,dX,dW,dV,dU,dT,dS,dR,dQ,dP,dO,dN,dM,dL,dK,dJ,dI,dH,dG,dF,dE,dD,dC,dB,dA,dz,dy,dx,fy,fx,gB,iB,iA,iz,iy,ix,iw,iu,ir,ik,ij,ig,ie,ib,gZ,gY,gX,gW,gV,gU,gT,gS,gR,gQ,gP,gO,gN,gM,gK,gJ,gI,kR,kQ,kP,kO,kN,kM,kL,kK,kJ,kI,kG,kF,kE,kD,kC,kB,ky,kv,ku,kj,kf,ke,j9,j8,j7,j6,j5,j4,jZ,jY,jX,jW,jV,jU,jT,jS,jR,jQ,jP,jO,jN,jM,jL,jK,jJ,jI,jH,gA,gy,gw,gv,gp,gm,gj,gi,gh,gg],[]⟩ w:=by
 by_cases hb:0<I\/cl=true\/(K=4\/K=6)\/(K=3/\hp=false)
 ·have H4:Hid (V=4):=by have:=HV.out;rw[if_pos hb] at this;exact this
  clear HV;by_cases i0:0<I
  ·have ii:(0:Int)<(I:Int):=by omega
   clear hb i0;rcases hK with e | e | e | e | e<;>rw[e] at c4<;>clear e
   all_goals
    conv=>arg 2;whnf
    go_wp2
    all_goals exact ue HP.out (ah (by rw[H4.out];rfl))
  ·have ii:I=0:=by omega
   subst ii;clear i0;rcases hK with e | e | e | e | e<;>rw[e] at c4<;>simp only [e] at hb<;>clear e<;>cases hp<;>cases cl<;>first | (exfalso;revert hb;decide) | skip
   all_goals
    clear hb
    conv=>arg 2;whnf
    go_wp2
    all_goals exact ue HP.out (ah (by rw[H4.out];rfl))
 ·have h2:cl=false:=by cases cl<;>simp_all
  have h3:I=0:=by omega
  have H5:Hid (V=if K=3/\(n=0\/PN / 3<n) then 5 else if K≠3/\n≠2*vi K then 5 else 0):=by have:=HV.out;rw[if_neg hb] at this;exact this
  subst h2 h3;have hk3:K=0\/K=2\/K=3:=by unfold kindOk at hK;omega
  clear HV hK;rcases hk3 with e | e | e<;>rw[e] at c4 H5
  ·have H6:Hid (V=if n≠2 then 5 else 0):=by show V=_;have h:=H5.out;rw[h];simp [vi]
   clear H5 hb e;cases hp
   all_goals
    conv=>arg 2;whnf
    go_wp2_with (go_at_call 80;refine (show Calls Tryz.prog 80 #[.int .i64 0] _ (fun e w'=>e = .returned (.int .i64 1)/\w'=_) from lG 0 _).mono ?_;rintro r w' ⟨rfl,rfl⟩)
    all_goals (refine ue HP.out (ah ?_);rw[H6.out];clear c4 c6 c7 c8 c3 c11 c12 t1 t2 t3 t4 t5 HP;(try simp only [bne_iff_ne,bne_eq_false_iff_eq,ne_eq,beq_iff_eq,beq_eq_false_iff_ne] at *);(repeat' split)<;>first | rfl | omega)
  ·have H6:Hid (V=if n≠6 then 5 else 0):=by show V=_;have h:=H5.out;rw[h];simp [vi]
   clear H5 hb e;cases hp
   all_goals
    conv=>arg 2;whnf
    go_wp2_with (go_at_call 80;refine (show Calls Tryz.prog 80 #[.int .i64 2] _ (fun e w'=>e = .returned (.int .i64 3)/\w'=_) from lG 2 _).mono ?_;rintro r w' ⟨rfl,rfl⟩)
    all_goals (refine ue HP.out (ah ?_);rw[H6.out];clear c4 c6 c7 c8 c3 c11 c12 t1 t2 t3 t4 t5 HP;(try simp only [bne_iff_ne,bne_eq_false_iff_eq,ne_eq,beq_iff_eq,beq_eq_false_iff_ne] at *);(repeat' split)<;>first | rfl | omega)
  ·have h1:hp=true:=by cases hp<;>simp_all
   subst h1;have H6:Hid (V=if n=0\/PN / 3<n then 5 else 0):=by show V=_;have h:=H5.out;rw[h];simp
   clear H5 hb e
   conv=>arg 2;whnf
   go_wp2
   all_goals (refine ue HP.out (ah ?_);rw[H6.out];clear c4 c6 c7 c8 c3 c11 c12 t1 t2 t3 t4 t5 HP;(try simp only [bne_iff_ne,bne_eq_false_iff_eq,ne_eq,beq_iff_eq,beq_eq_false_iff_ne] at *);(repeat' split)<;>first | rfl | omega)
theorem yL (b:Nat) (f:Fl) (e a:Nat) (pv cv zv iv:Value) (k:ByteArray) (n:Nat) (dn:Bool) (w:World) (h:ar w b f e a pv cv zv iv) (hk:k.size=4) (hf:f.first=false) :
  Calls Tryz.prog 99 #[.pointer (some ⟨b,0,none⟩),.string k,.int .i64 (n:Int)] w fun r w'=>r = .returned (.int .i64 (f.begE (ty k) n dn:Int))/\ar w' b (if f.begE (ty k) n dn=0 then { f with first:=true } else f) e a pv cv zv iv/\Fr1 b w w':=by
 have c13:w.cell? ⟨b,13,none⟩=some (.bool f.first):=h.cell 13 (by omega);have hfz:=h.fz;rw[hf] at c13;have H:Hid (ar w b f e a pv cv zv iv):=h;clear h;have tb:=xH k hk;have ti:=xI k hk;cases ha:sO k
 ·have hq:f.begE (ty k) n dn=3:=by unfold Fl.begE;rw[tb,if_pos ha]
  rw[hq,if_neg (by omega)];clear hq ti tb;go_enter Tryz.func99,Tryz.ntmps99;go_wp2_with (go_at_call 130;refine (fo _ _ hk).mono ?_;rintro r w' ⟨rfl,rfl⟩)
  go_ret;exact ⟨rfl,H.out,Fr1.refl _ _⟩
 ·have hq:f.begE (ty k) n dn=if ty k≠aY then 4 else if n≠13 then 5 else 0:=by
   unfold Fl.begE;rw[tb,if_neg (by rw[ha];decide),if_pos hf]
  by_cases h1:ty k=aY
  ·rw[if_neg (by simpa using h1)] at hq
   rw[decide_eq_true h1] at ti;cases h2:((n:Int) != 13)
   ·rw[if_neg (by rw[bne_eq_false_iff_eq] at h2;omega)] at hq
    rw[hq,if_pos rfl];clear hq tb;go_enter Tryz.func99,Tryz.ntmps99;go_wp2_with (go_at_call 130;refine (fo _ _ hk).mono ?_;rintro r w' ⟨rfl,rfl⟩)
    go_ret;exact ⟨rfl,H.out.setFirst,(Fr1.refl _ _).set _ _⟩
   ·rw[if_pos (by rw[bne_iff_ne] at h2;omega)] at hq
    rw[hq,if_neg (by omega)];clear hq tb;go_enter Tryz.func99,Tryz.ntmps99;go_wp2_with (go_at_call 130;refine (fo _ _ hk).mono ?_;rintro r w' ⟨rfl,rfl⟩)
    go_ret;exact ⟨rfl,H.out,Fr1.refl _ _⟩
  ·rw[if_pos h1] at hq
   rw[decide_eq_false h1] at ti;rw[hq,if_neg (by omega)];clear hq tb;go_enter Tryz.func99,Tryz.ntmps99;go_wp2_with (go_at_call 130;refine (fo _ _ hk).mono ?_;rintro r w' ⟨rfl,rfl⟩)
   go_ret;exact ⟨rfl,H.out,Fr1.refl _ _⟩
theorem rdz {z out:List One} {dn sm:Bool} {er at' en:Nat} (h:se z out dn sm er at' en):RdZ er at':=by
 intro e;rcases h with ⟨t,_,_,_,_,h4,h5⟩ | ⟨a,s1,_,_,_,_,_,_,h7,_,_⟩ | ⟨a,s1,_,_,_,_,_,_,_,h8,h9⟩
 ·rw[h5,if_pos (by rw[<- h4];exact e)]
 ·rw[h7] at e;cases e
 ·by_cases c:a<8*z.length
  ·rw[if_pos c] at h8;rw[h8] at e;cases e
  ·rw[h9,if_neg c]
theorem sw {l:List Nat} (hb:∀ x ∈ l,x<256) {F:Fl} {er at':Nat} (h:fq l F er at') {out:List One} {dn sm:Bool} {ser sat sen:Nat} (q:se F.z out dn sm ser sat sen) (up:Nat->Nat) :
  (wM F er at' (aN F.hd (F.pal.length / 3) (az F.hd (aF F.hd.L) 0) up out) dn sm ser sat sen).1=(ak rd0 l).2.1 /\
  ((ak rd0 l).2.1≠0->(wM F er at' (aN F.hd (F.pal.length / 3) (az F.hd (aF F.hd.L) 0) up out) dn sm ser sat sen).2=(ak rd0 l).2.2) /\
  ((ak rd0 l).2.1=0->((ak rd0 l).1.part=5 ↔ F.done=true)):=A8 hb h q (rdz q) up
theorem Lq {l:List Nat} {F:Fl} {er at':Nat} (h:fq l F er at'):er=0->at'=0:=by
 intro e;cases h using fq.cs with
 | sign _ h8 hi hn hg=>cases e
 | out h hi=>rfl
 | trail h hd hi=>cases e
 | stop h hd hi hr ht=>rw[if_pos e]
theorem wK {l:List Nat} (hb:∀ x ∈ l,x<256) {F:Fl} {er at':Nat} (h:fq l F er at') {out:List One} {dn sm:Bool} {ser sat sen:Nat} (q:se F.z out dn sm ser sat sen) (up:Nat->Nat) (e:(ak rd0 l).2.1=0) :
  (wM F er at' (aN F.hd (F.pal.length / 3) (az F.hd (aF F.hd.L) 0) up out) dn sm ser sat sen).2=0:=by
 have V:=sw hb h q up;rw[e] at V;have V1:=V.1;unfold wM at V1 ⊢;by_cases c:F.on=true/\(imE (aN F.hd (F.pal.length / 3) (az F.hd (aF F.hd.L) 0) up out) dn sm sen).1≠0
 ·rw[if_pos c] at V1;exact absurd V1 c.2
 ·rw[if_neg c] at V1 ⊢
  by_cases d:ser≠0
  ·rw[if_pos d] at V1;exact absurd V1 d
  ·rw[if_neg d] at V1 ⊢
   exact Lq h V1
def fw (f g:Fl):Prop:=∃ o p,g={ f with over:=o,first:=p }
theorem fw.refl (f:Fl):fw f f:=⟨f.over,f.first,rfl⟩
theorem xA (f:Fl) (k:Nat):fw f (f.begF k):=by
 unfold Fl.begF;split
 ·exact ⟨f.over,true,rfl⟩
 ·split
  ·exact ⟨true,f.first,rfl⟩
  ·exact fw.refl f
structure FBd (i:Nat) (f:Fl):Prop where
 pal:f.pal.length<=1048576
 zl:f.z.length<=i
 ids:f.ids<=i
 zb:∀ x ∈ f.z,x.1<256/\x.2<=1048576
theorem FBd.mono {i j:Nat} {f:Fl} (h:FBd i f) (k:i<=j):FBd j f:=⟨h.pal,Nat.le_trans h.zl k,Nat.le_trans h.ids k,h.zb⟩
theorem FBd.same {i:Nat} {f g:Fl} (h:FBd i f) (k:fw f g):FBd i g:=by
 obtain ⟨o,p,rfl⟩:=k;exact ⟨h.pal,h.zl,h.ids,h.zb⟩
theorem FBd.good {i:Nat} {f:Fl} (h:FBd i f) (hi:i<=1048576):good f.z:=⟨fun x hx=>(h.zb x hx).1,Nat.le_trans h.zl hi,fun x hx=>(h.zb x hx).2⟩
theorem uP:FBd 0 Fl.start:=⟨by decide,by decide,by decide,(fun x hx=>by cases hx)⟩
theorem JQ {l:List Nat} {i:Nat} {x:One} (h:x ∈ plc l i):x.1 ∈ l/\x.2<i+l.length:=by
 induction l generalizing i with
 | nil=>cases h
 | cons y l ih=>
  rw[plc] at h;rcases List.mem_cons.1 h with e | e
  ·subst e;exact ⟨by simp,by simp⟩
  ·have:=ih e
   exact ⟨by simp [this.1],by simp;omega⟩
theorem Ac:∀ (l:List Nat) (i x:Nat),plc (l++[x]) i=plc l i++[(x,i+l.length)]
 | [],i,x=>rfl
 | y::l,i,x=>by
  rw[List.cons_append,plc,Ac l,plc,List.cons_append,List.length_cons,show i+1+l.length=i+(l.length+1) by omega]
theorem DN {i n:Nat} {f:Fl} {k:Nat} {d:List Nat} (h:FBd i f) (hd:∀ x ∈ d,x<256) (hn:i+8+d.length<=1048576):FBd (i+8+d.length) (f.data k d (i+8)):=by
 unfold Fl.data;have h1:=h.zl;have h2:=h.ids;split
 ·refine ⟨h.pal,?_,?_,fun x hx => ?_⟩
  ·show (f.z++plc d (i+8)).length<=_
   rw[List.length_append,uf];omega
  ·show f.ids+1<=_
   omega
  ·rcases List.mem_append.1 hx with q | q
   ·exact h.zb x q
   ·have:=JQ q
    exact ⟨hd _ this.1,by omega⟩
 ·exact h.mono (by omega)
theorem yw {i k:Nat} {f:Fl} {d:List Nat} (h:FBd i f) (hd:d.length<=1048576):FBd i (f.ends k d).1:=by
 unfold Fl.ends
 (repeat' split)
 all_goals first
  | exact h
  | exact ⟨h.pal,h.zl,h.ids,h.zb⟩
  | exact ⟨hd,h.zl,h.ids,h.zb⟩
theorem KO {i k n:Nat} {f:Fl} {h' r:List Nat} (h:FBd i f) (hr:∀ x ∈ r,x<256) (hn:i+8+r.length<=1048576):FBd (i+8+r.length) (Fl.body f k n h' r (i+8)).f:=by
 have hd:=DN (n:=0) (k:=k) (d:=r.take n) h (fun x hx=>hr x (List.mem_of_mem_take hx)) (by rw[List.length_take];omega);have hd2:FBd (i+8+r.length) (f.data k (r.take n) (i+8)):=hd.mono (by rw[List.length_take];omega);unfold Fl.body;split
 ·exact hd2
 ·split
  ·exact hd2
  ·split
   ·exact yw hd2 (by rw[List.length_take];omega)
   ·exact yw hd2 (by rw[List.length_take];omega)
theorem IQ {i k n:Nat} {f:Fl} {h' r:List Nat} (h:FBd i f) (hr:∀ x ∈ r,x<256) (hn:i+8+r.length<=1048576) (ht:(Fl.body f k n h' r (i+8)).took≠0):FBd (i+(Fl.body f k n h' r (i+8)).took) (Fl.body f k n h' r (i+8)).f/\(Fl.body f k n h' r (i+8)).took<=8+r.length/\(Fl.body f k n h' r (i+8)).err=0:=by
 have hd:=DN (n:=0) (k:=k) (d:=r.take n) h (fun x hx=>hr x (List.mem_of_mem_take hx)) (by rw[List.length_take];omega);unfold Fl.body at ht ⊢;by_cases c1:r.length<n+4
 ·rw[if_pos c1] at ht;exact absurd rfl ht
 rw[if_neg c1] at ht ⊢
 split at ht
 ·exact absurd rfl ht
 ·rename_i c2
  rw[if_neg c2]
  split at ht
  ·exact absurd rfl ht
  ·rename_i c3
   rw[if_neg c3];refine ⟨yw (hd.mono ?_) (by rw[List.length_take];omega),?_,rfl⟩
   ·rw[List.length_take];show _<=i+(8+n+4);omega
   ·show 8+n+4<=_;omega
theorem IL {i:Nat} {f:Fl} {l:List Nat} {dn:Bool} (h:FBd i f) (hl:∀ x ∈ l,x<256) (hn:i+l.length<=1048576):FBd (i+l.length) (f.chunk l i dn).f/\((f.chunk l i dn).took≠0->FBd (i+(f.chunk l i dn).took) (f.chunk l i dn).f/\(f.chunk l i dn).took<=l.length/\(f.chunk l i dn).err=0):=by
 have h0:FBd (i+l.length) f:=h.mono (by omega);unfold Fl.chunk;by_cases c1:l.length<4
 ·rw[if_pos c1];exact ⟨h0,fun q=>absurd rfl q⟩
 rw[if_neg c1];by_cases c2:2147483648<=n4 (l.getD 0 0) (l.getD 1 0) (l.getD 2 0) (l.getD 3 0)
 ·rw[if_pos c2];exact ⟨h0,fun q=>absurd rfl q⟩
 rw[if_neg c2];by_cases c3:l.length<8
 ·rw[if_pos c3];exact ⟨h0,fun q=>absurd rfl q⟩
 rw[if_neg c3];generalize n4 (l.getD 4 0) (l.getD 5 0) (l.getD 6 0) (l.getD 7 0)=k;generalize n4 (l.getD 0 0) (l.getD 1 0) (l.getD 2 0) (l.getD 3 0)=n;by_cases c4:f.begE k n dn≠0
 ·rw[if_pos c4];exact ⟨h0,fun q=>absurd rfl q⟩
 rw[if_neg c4];have hb:FBd i (f.begF k):=h.same (xA f k);have hr:∀ x ∈ l.drop 8,x<256:=fun x hx=>hl x (List.mem_of_mem_drop hx)
 have hlen:(l.drop 8).length=l.length - 8:=List.length_drop;refine ⟨?_,fun q => ?_⟩
 ·have:=KO (k:=k) (n:=n) (h':=l.take 8) hb hr (by rw[hlen];omega)
  exact this.mono (by rw[hlen];omega)
 ·have:=IQ (k:=k) (n:=n) (h':=l.take 8) hb hr (by rw[hlen];omega) q
  rw[hlen] at this;exact ⟨this.1,by omega,this.2.2⟩
theorem cD (t:ByteArray) (i j:Nat):((af t).drop i).getD j 0=gb t (i+j):=by
 unfold gb;rw[List.getD_eq_getElem?_getD,List.getElem?_drop,List.getD_eq_getElem?_getD]
theorem ya (t:ByteArray) (i:Nat) (h:i+4<=t.size):n4 (gb t i) (gb t (i+1)) (gb t (i+2)) (gb t (i+3))=dj (seg t i 4):=(LB t i h).symm
theorem qc (t:ByteArray) (a b:Nat):af (t.extract a b)=seg t a (b - a):=by
 unfold af seg af;rw[<- List.map_drop,<- List.map_take]
 congr 1
 rw[ByteArray.data_extract,Array.toList_extract,List.extract_eq_take_drop]
theorem size_extract (t:ByteArray) (a b:Nat) (h1:a<=b) (h2:b<=t.size):(t.extract a b).size=b - a:=by
 rw[ByteArray.size_extract];omega
theorem Az (t:ByteArray) (i j n:Nat):(((af t).drop i).drop j).take n=seg t (i+j) n:=by unfold seg;rw[List.drop_drop]
theorem Ls (t:ByteArray) (i:Nat) (h:i+8<=t.size):ty (t.extract (i+4) (i+8))=n4 (((af t).drop i).getD 4 0) (((af t).drop i).getD 5 0) (((af t).drop i).getD 6 0) (((af t).drop i).getD 7 0):=by
 unfold ty;rw[qc,show i+8 - (i+4)=4 by omega,<- ya t (i+4) (by omega),cD,cD,cD,cD]
theorem JB (t:ByteArray) (i n:Nat) (h:i+8+n<=t.size):(((af t).drop i).take 8).drop 4++(((af t).drop i).drop 8).take n=seg t (i+4) (4+n):=by
 unfold seg;rw[List.drop_take,List.drop_drop,List.drop_drop,List.take_add,List.drop_drop]
theorem JK (t:ByteArray) (i n:Nat) (h:i<=t.size) (hn:t.size<=i+n):seg t i n=seg t i (t.size - i):=by
 unfold seg;have hl:((af t).drop i).length=t.size - i:=by rw[List.length_drop,aw]
 rw[List.take_of_length_le (by omega),List.take_of_length_le (by omega)]
theorem x8 {W:World} {N:Nat} {ov:Value} {out:List One} (ho:W.ownsRow N 148 2 ov out.length (gH out)):ZAt W ov out:=by
 rcases ho.2 with ⟨hv,h0⟩ | ⟨g,cap,cur,hv,hg,r⟩
 ·refine ⟨⟨none,0,by rw[hv,h0]⟩,?_⟩
  intro p c _ i hi;omega
 ·refine ⟨⟨_,_,hv⟩,?_⟩
  intro p c hp i hi;rw[hv] at hp
  injection hp with hp _ _
  have hob:ov.ownBlock=some g:=by rw[hv];rfl
  have h1:=ho.cells hob (i*2) _ (rQ out i hi).1;have h2:=ho.cells hob (i*2+1) _ (rQ out i hi).2;have e1:(Addr.add ⟨g,0,none⟩ (i*2))=⟨g,i*2,none⟩:=by simp [Addr.add];intro h;omega
  have e2:(Addr.add ⟨g,0,none⟩ (i*2+1))=⟨g,i*2+1,none⟩:=by simp [Addr.add]
  rw[e1] at h1;rw[e2] at h2;exact ⟨g,hp.symm,h1,h2⟩
theorem ar.readable {w:World} {b:Nat} {f:Fl} {er at':Nat} {pv cv zv iv:Value} (h:ar w b f er at' pv cv zv iv):∀ g,ae zv=some g->g<w.heap.size:=fun g hg=>by
 rw[cj zv h.z] at hg;exact (h.z.lt g hg).2
theorem Lh {w:World} {b:Nat} {f:Fl} {er at':Nat} {pv cv zv iv:Value} (h:ar w b f er at' pv cv zv iv) (hg:good f.z):∃ dn,uT f.z dn:=by
 obtain ⟨e,w',fr,⟨_,ov,out,dn,sm,er,at'',en,hrp⟩,_⟩:=vQ zv f.z w (x8 h.z) hg h.readable [];exact ⟨dn,out,sm,er,at'',en,hrp.st⟩
theorem FJ {f:Fl} {k n:Nat} (h:k≠aJ):({ f with over:=true }:Fl).begE k n true=f.begE k n true:=by
 unfold Fl.begE;simp only [Bool.not_true,Bool.and_false,if_neg h]
theorem uu {u3 u4 u5 u6 u7 u8 u9 rY vo tX uE uC sq u16 sx rX o6 o5 o4 o3 o0 oZ oY oX oW oV oU oT oS u32 oR oQ oP oO oN oM oL oK oJ oI oH oG oF oE oD oC oB oA oz oy ox ow ou ot oq oo om oj oi oh og u64 pW pV qu qt qq qp qo qn qm ql qk qj qi qh qg qf qz qy qx rK rJ rI rH rG rF rE rD rC rB rA rz ry ru rq rp fh eE eB ez ey ew ev eu ej eh ed dZ dY dX dW dV dU dT dS dR dQ dP dO dN dM dL dK dJ dI dH dG dF dE dD dC dB dA dz dy dx fy fx gB iB iA iz iy ix iw iu ir ik ij ig ie ib gZ gY gX gW gV gU gT gS gR gQ gP gO gN gM gK gJ gI kR kQ kP kO kN kM kL kK kJ kI kG kF kE kD kC kB ky kv ku kj kf ke j9 j8 j7 j6 j5 j4 jZ jY jX jW jV jU jT jS jR jQ jP jO jN jM jL jK jJ jI jH gA gy gw gv gp gm gj gi gh gg:Value} (P:Ending->World->Prop) (b:Nat) (f:Fl) (e a:Nat) (pv cv zv iv:Value) (k:ByteArray) (n:Nat) (dn:Bool) (w:World) (h:ar w b f e a pv cv zv iv) (hk:k.size=4) (hn:n<2147483648) (hK:kindOk f.hd.K) (hD:f.hd.D<=16) (hPN:f.pal.length<=1048576) (hI:f.ids<=1048576) (ha:sO k=true) (hf:f.first=true) (hd:(f.ov (ty k) && !dn)=false)
  (HP:Hid (P (.returned (.int .i64 (f.begE (ty k) n dn:Int))) w)) :
  Code.wp Tryz.prog ((Tryz.f99.body.bind (fF 16)).getD .skip) (bodyPost Tryz.prog Tryz.f99 P) ⟨#[.pointer (some ⟨b,0,none⟩),.string k,.int .i64 (n:Int),u3,u4,u5,u6,u7,u8,u9,rY,vo,tX,uE,uC,sq,u16,sx,rX,o6,o5,o4,o3,o0,oZ,oY,oX,oW,oV,oU,oT,oS,u32,oR,oQ,oP,oO,oN,oM,oL,oK,oJ,oI,oH,oG,oF,oE,oD,oC,oB,oA,oz,oy,ox,ow,ou,ot,oq,oo,om,oj,oi,oh,og,u64,pW,pV,qu,qt,qq,qp,qo,qn,qm,ql,qk,qj,qi,qh,qg,qf,qz,qy,qx,rK,rJ,rI,rH,rG,rF,rE,rD,rC,rB,rA,rz,ry,ru,rq,rp,fh,eE,eB,ez,ey,ew,ev,eu,ej,eh,ed,dZ,dY,dX,dW,dV,dU,dT,dS,dR,dQ,dP,dO,dN,dM,dL,dK,dJ,dI,dH,dG,dF,dE,dD,dC,dB,dA,dz,dy,dx,fy,fx,gB,iB,iA,iz,iy,ix,iw,iu,ir,ik,ij,ig,ie,ib,gZ,gY,gX,gW,gV,gU,gT,gS,gR,gQ,gP,gO,gN,gM,gK,gJ,gI,kR,kQ,kP,kO,kN,kM,kL,kK,kJ,kI,kG,kF,kE,kD,kC,kB,ky,kv,ku,kj,kf,ke,j9,j8,j7,j6,j5,j4,jZ,jY,jX,jW,jV,jU,jT,jS,jR,jQ,jP,jO,jN,jM,jL,jK,jJ,jI,jH,gA,gy,gw,gv,gp,gm,gj,gi,gh,gg],[]⟩ w:=by
 obtain ⟨pa,pc,rfl⟩:=h.pal.form;obtain ⟨xs,hx⟩:=h.ids;obtain ⟨ia,ic,rfl⟩:=aq hx;have c3:w.cell? ⟨b,3,none⟩=some (.int .i64 (f.hd.D:Int)):=h.cell 3 (by omega);have c4:w.cell? ⟨b,4,none⟩=some (.int .i64 (f.hd.K:Int)):=h.cell 4 (by omega);have c6:w.cell? ⟨b,6,none⟩=some (.bool f.hasPal):=h.cell 6 (by omega);have c7:w.cell? ⟨b,7,none⟩=some (.bool f.hasClear):=h.cell 7 (by omega);have c8:w.cell? ⟨b,8,none⟩=some (.slice pa f.pal.length pc):=h.cell 8 (by omega);have c11:w.cell? ⟨b,11,none⟩=some (.slice ia f.ids ic):=h.cell 11 (by omega);have c12:w.cell? ⟨b,12,none⟩=some (.bool f.over):=h.cell 12 (by omega);have tb:=xH k hk;have t1:=xI k hk;have t2:=CY k hk;have t3:=CX k hk;have t4:=xJ k hk;have t5:=CZ k hk;have hg:qb (ty k / 16777216 % 256)=qb (gb k 0):=by
  rw[Ge k hk];have h0:=fQ k 0;have h1:=fQ k 1;have h2:=fQ k 2;have h3:=fQ k 3
  congr 1
  omega
 obtain ⟨V,hV⟩:∃ V,V=f.begE (ty k) n dn:=⟨_,rfl⟩;rw[<- hV] at HP;have hq:=hV;unfold Fl.begE at hq;rw[tb,if_neg (by rw[ha];decide),if_neg (by rw[hf];decide),if_neg (by rw[hd];decide),hg] at hq;by_cases e1:ty k=aY
 ·rw[if_pos e1] at hq
  rw[decide_eq_true e1] at t1;rw[decide_eq_false (by rw[e1];decide)] at t2 t3 t4 t5;exact KJ P b k n w hk hn _ _ _ _ _ _ _ pa ia pc ic hD hPN hI hK c11 c12 c4 c3 c6 c7 c8 t1 t2 t3 t4 t5 V hq HP
 rw[if_neg e1] at hq;rw[decide_eq_false e1] at t1;by_cases e2:ty k=cq
 ·rw[if_pos e2] at hq
  rw[decide_eq_true e2] at t2;rw[decide_eq_false (by rw[e2];decide)] at t3 t4 t5;exact KI P b k n w hk hn _ _ _ _ _ _ _ pa ia pc ic hD hPN hI hK c11 c12 c4 c3 c6 c7 c8 t1 t2 t3 t4 t5 V hq HP
 rw[if_neg e2] at hq;rw[decide_eq_false e2] at t2;by_cases e3:ty k=bZ
 ·rw[if_pos e3] at hq
  rw[decide_eq_true e3] at t3;rw[decide_eq_false (by rw[e3];decide)] at t4 t5;exact KH P b k n w hk hn _ _ _ _ _ _ _ pa ia pc ic hD hPN hI hK c11 c12 c4 c3 c6 c7 c8 t1 t2 t3 t4 t5 V hq HP
 rw[if_neg e3] at hq;rw[decide_eq_false e3] at t3;by_cases e4:ty k=aJ
 ·rw[if_pos e4] at hq
  rw[decide_eq_true e4] at t4;rw[decide_eq_false (by rw[e4];decide)] at t5;exact KM P b k n w hk hn _ _ _ _ _ _ _ pa ia pc ic hD hPN hI hK c11 c12 c4 c3 c6 c7 c8 t1 t2 t3 t4 t5 V hq HP
 rw[if_neg e4] at hq;rw[decide_eq_false e4] at t4;by_cases e5:ty k=cS
 ·rw[if_pos e5] at hq
  rw[decide_eq_true e5] at t5;exact KL P b k n w hk hn _ _ _ _ _ _ _ pa ia pc ic hD hPN hI hK c11 c12 c4 c3 c6 c7 c8 t1 t2 t3 t4 t5 V hq HP
 rw[if_neg e5] at hq;rw[decide_eq_false e5] at t5;exact KN P b k n w hk hn _ _ _ _ _ _ _ pa ia pc ic hD hPN hI hK c11 c12 c4 c3 c6 c7 c8 t1 t2 t3 t4 t5 V hq HP
def yT (w w':World) (b:Nat) (f:Fl) (e a:Nat) (pv cv zv iv:Value) (k n:Nat) (r:Ending):Prop:=∃ dn g,(f.ov k=true->uT f.z dn)/\r = .returned (.int .i64 (f.begE k n dn:Int))/\ar w' b g e a pv cv zv iv/\fw f g/\(f.begE k n dn=0->g=f.begF k)/\Below b w w'
theorem KU (b:Nat) (k:ByteArray) (n:Nat) (w:World) (hk:k.size=4) (ha:sO k=false) :
  Calls Tryz.prog 99 #[.pointer (some ⟨b,0,none⟩),.string k,.int .i64 (n:Int)] w fun r w'=>r = .returned (.int .i64 ((3:Nat):Int))/\w'=w:=by
 go_enter Tryz.func99,Tryz.ntmps99;go_wp2_with (go_at_call 130;refine (fo _ _ hk).mono ?_;rintro r w' ⟨rfl,rfl⟩)
 go_ret;exact ⟨rfl,rfl⟩
theorem Fz (b:Nat) (f:Fl) (e a:Nat) (pv cv zv iv:Value) (k:ByteArray) (n:Nat) (w:World) (h:ar w b f e a pv cv zv iv) (hk:k.size=4) (hn:n<2147483648) (hK:kindOk f.hd.K) (hD:f.hd.D<=16) (hPN:f.pal.length<=1048576) (hI:f.ids<=1048576) (hg:good f.z) (hf:f.first=true) (ha:sO k=true) :
  Calls Tryz.prog 99 #[.pointer (some ⟨b,0,none⟩),.string k,.int .i64 (n:Int)] w fun r w'=>yT w w' b f e a pv cv zv iv (ty k) n r:=by
 have HX:Hid (ar w b f e a pv cv zv iv):=h;have c13:w.cell? ⟨b,13,none⟩=some (.bool f.first):=h.cell 13 (by omega);rw[hf] at c13;obtain ⟨xs,hx⟩:=h.ids;obtain ⟨ia,ic,hiv⟩:=aq hx;have c11:w.cell? ⟨b,11,none⟩=some (.slice ia f.ids ic):=by rw[<- hiv];exact h.cell 11 (by omega)
 have c12:w.cell? ⟨b,12,none⟩=some (.bool f.over):=h.cell 12 (by omega);have t4:=xJ k hk;have hlt:=h.lt;have hfz:=h.fz;obtain ⟨I,hIe⟩:∃ I,I=f.ids:=⟨_,rfl⟩;obtain ⟨ovv,hov⟩:∃ o,o=f.over:=⟨_,rfl⟩;rw[<- hIe] at c11;rw[<- hov] at c12;have hI2:I<=1048576:=by omega
 have HA:Hid (sO k=true):=ha;have HF1:Hid (f.first=true):=hf;have HKK:Hid (kindOk f.hd.K):=hK;have FL:Hid (∀ W,Calls Tryz.prog 130 #[.string k] W fun e w'=>e = .returned (.bool true)/\w'=W):=fun W=>by
  have:=fo k W hk
  rw[ha] at this;exact this
 have HBF:Hid (f.begF (ty k)=if f.ov (ty k)=true then { f with over:=true } else f):=by
  show f.begF (ty k)=_
  unfold Fl.begF;rw[if_neg (by rw[hf];decide)]
 by_cases q:f.ov (ty k)=true
 ·
  have q':=q;unfold Fl.ov at q';simp only [Bool.and_eq_true,decide_eq_true_eq,Bool.not_eq_true'] at q';obtain ⟨⟨q1,q2⟩,q3⟩:=q';rw[decide_eq_false q2] at t4;rw[<- hov] at q3;subst q3;have ii:(0:Int)<(I:Int):=by omega
  obtain ⟨zp,zc,hzv⟩:=aq h.z;have c10:(w.setCell ⟨b,12,none⟩ (.bool true)).cell? ⟨b,10,none⟩=some (.slice zp f.z.length zc):=by
   rw[aa _ _ _ _ _ (by omega),<- hzv];exact h.cell 10 (by omega)
  have hX2:ar (w.setCell ⟨b,12,none⟩ (.bool true)) b { f with over:=true } e a pv cv zv iv:=h.setOver;have HX2:Hid _:=hX2;have HR:Hid (Calls Tryz.prog 41 #[.slice zp f.z.length zc] (w.setCell ⟨b,12,none⟩ (.bool true)) fun r w'=>r = .returned (.pointer (some ⟨(w.setCell ⟨b,12,none⟩ (.bool true)).heap.size,0,none⟩))/\K8 (w.setCell ⟨b,12,none⟩ (.bool true)) w' f.z (w.setCell ⟨b,12,none⟩ (.bool true)).heap.size):=by
   have:=vQ zv f.z _ (x8 hX2.z) hg hX2.readable
   rw[hzv] at this;exact this
  have HB1:Hid (Below b w (w.setCell ⟨b,12,none⟩ (.bool true))):=(Below.refl b w).setCell (p:=⟨b,12,none⟩) (Nat.le_refl b) (.bool true);have HQ:Hid (f.ov (ty k)=true):=q;have HQ2:Hid (ty k≠aJ):=q2;obtain ⟨ZL,hZL⟩:∃ ZL,ZL=f.z.length:=⟨_,rfl⟩;rw[<- hZL] at c10 HR;obtain ⟨w1,hw1⟩:∃ w1,w1=w.setCell ⟨b,12,none⟩ (.bool true):=⟨_,rfl⟩;have HW1:Hid (w.setCell ⟨b,12,none⟩ (.bool true)=w1):=hw1.symm;clear q q1 q2 hx hiv hzv hX2 hIe hov ha hf hK hg h hZL hw1;go_enter Tryz.func99,Tryz.ntmps99;go_wp2_with fail;refine (FL.out _).mono ?_;rintro r w' ⟨rfl,hw⟩;subst w';go_wp2_with fail;refine HR.out.mono ?_;rintro r w2 ⟨rfl,ov,out,dn,sm,ser,sat,sen,hrp⟩;have s3:=hrp.sc.c3;rw[show (w.setCell ⟨b,12,none⟩ (.bool true)).heap.size=w.heap.size by simp [World.setCell]] at s3;have hX3:=HX2.out.kept hrp.kept;have HX3:Hid (ar w2 b { f with over:=true } e a pv cv zv iv):=hX3;have hbs:b<=(w.setCell ⟨b,12,none⟩ (.bool true)).heap.size:=by simpa [World.setCell] using Nat.le_of_lt hlt
  have HB2:Hid (Below b w w2):=HB1.out.trans (hrp.kept.mono hbs);have HRD:Hid (uT f.z dn):=⟨out,sm,ser,sat,sen,hrp.st⟩;clear hX3 hrp c10 c11 c12 c13;cases dn
  ·have HE:Hid (f.begE (ty k) n false=21):=by
    show f.begE (ty k) n false=21
    unfold Fl.begE;rw[if_neg (by rw[xH k hk,HA.out];decide),if_neg (by rw[HF1.out];decide),if_pos (by rw[HQ.out];decide)]
   go_wp2;try go_ret
   refine ⟨false,{ f with over:=true },fun _=>HRD.out,?_,HX3.out,⟨true,f.first,rfl⟩,fun z => ?_,HB2.out⟩
   ·rw[HE.out];rfl
   ·rw[HE.out] at z;cases z
  ·have HPP:Hid (yT w w2 b f e a pv cv zv iv (ty k) n (.returned (.int .i64 ((({ f with over:=true }:Fl).begE (ty k) n true:Nat):Int)))):=by
    refine ⟨true,{ f with over:=true },fun _=>HRD.out,?_,HX3.out,⟨true,f.first,rfl⟩,fun _ => ?_,HB2.out⟩
    ·rw[FJ HQ2.out]
    ·rw[HBF.out,if_pos HQ.out]
   go_upto_if 58 with fail
   repeat (first | exact wp_mono (uu (fun r w'=>yT w w' b f e a pv cv zv iv (ty k) n r) b { f with over:=true } e a pv cv zv iv k n true w2 HX3.out hk hn HKK.out hD hPN hI HA.out HF1.out (by simp) HPP) (fun e a w hq=>hq) | go_step)
 ·have q0:f.ov (ty k)=false:=by cases hh:f.ov (ty k);rfl;exact absurd hh q
  have HQ:Hid (f.ov (ty k)=false):=q0;have HPP:Hid (yT w w b f e a pv cv zv iv (ty k) n (.returned (.int .i64 (f.begE (ty k) n true:Int)))) :=
   ⟨true,f,(fun z=>by rw[HQ.out] at z;cases z),rfl,HX.out,fw.refl f,(fun _=>by rw[HBF.out,if_neg (by rw[HQ.out];decide)]),Below.refl _ _⟩
  have key:(I=0)\/(0<I/\ty k=aJ)\/(0<I/\ty k≠aJ/\ovv=true):=by
   unfold Fl.ov at q0;rw[<- hIe,<- hov] at q0;by_cases i0:0<I
   ·by_cases i1:ty k=aJ
    ·exact Or.inr (Or.inl ⟨i0,i1⟩)
    ·right;right
     rw[decide_eq_true i0,decide_eq_true i1] at q0;refine ⟨i0,i1,?_⟩;cases ovv
     ·simp at q0
     ·rfl
   ·exact Or.inl (by omega)
  clear q q0 hx hiv hIe hov ha hf hK hg h;rcases key with i0 | ⟨i0,i1⟩ | ⟨i0,i1,i2⟩
  ·subst i0
   clear t4;go_enter Tryz.func99,Tryz.ntmps99;go_wp2_with fail;refine (FL.out _).mono ?_;rintro r w' ⟨rfl,hw⟩;subst w';go_upto_if 45 with fail
   repeat (first | exact wp_mono (uu (fun r w''=>yT w w'' b f e a pv cv zv iv (ty k) n r) b f e a pv cv zv iv k n true w HX.out hk hn HKK.out hD hPN hI HA.out HF1.out (by simp) HPP) (fun e a w hq=>hq) | go_step)
  ·rw[decide_eq_true i1] at t4
   have ii:(0:Int)<(I:Int):=by omega
   clear i1;go_enter Tryz.func99,Tryz.ntmps99;go_wp2_with fail;refine (FL.out _).mono ?_;rintro r w' ⟨rfl,hw⟩;subst w';go_upto_if 45 with fail
   repeat (first | exact wp_mono (uu (fun r w''=>yT w w'' b f e a pv cv zv iv (ty k) n r) b f e a pv cv zv iv k n true w HX.out hk hn HKK.out hD hPN hI HA.out HF1.out (by simp) HPP) (fun e a w hq=>hq) | go_step)
  ·rw[decide_eq_false i1] at t4
   have ii:(0:Int)<(I:Int):=by omega
   subst i2;clear i1;go_enter Tryz.func99,Tryz.ntmps99;go_wp2_with fail;refine (FL.out _).mono ?_;rintro r w' ⟨rfl,hw⟩;subst w';go_upto_if 45 with fail
   repeat (first | exact wp_mono (uu (fun r w''=>yT w w'' b f e a pv cv zv iv (ty k) n r) b f e a pv cv zv iv k n true w HX.out hk hn HKK.out hD hPN hI HA.out HF1.out (by simp) HPP) (fun e a w hq=>hq) | go_step)
theorem CJ (b:Nat) (f:Fl) (e a i:Nat) (pv cv zv iv:Value) (k:ByteArray) (n:Nat) (w:World) (h:ar w b f e a pv cv zv iv) (hk:k.size=4) (hn:n<2147483648) (ho:FOk f) (hb:FBd i f) (hi:i<=1048576) :
  Calls Tryz.prog 99 #[.pointer (some ⟨b,0,none⟩),.string k,.int .i64 (n:Int)] w fun r w'=>yT w w' b f e a pv cv zv iv (ty k) n r:=by
 have hg:=hb.good hi;obtain ⟨dn,hdn⟩:=Lh h hg;by_cases ha:sO k=true
 ·cases hf:f.first
  ·refine (yL b f e a pv cv zv iv k n dn w h hk hf).mono ?_
   rintro r w' ⟨rfl,h1,h2⟩;have hbl:=h.lt;refine ⟨dn,_,fun _=>hdn,rfl,h1,?_,fun z => ?_,⟨h2.os,h2.tape,h2.output,h2.size,fun j hj=>h2.block j (by omega) (by omega)⟩⟩
   ·split
    ·exact ⟨f.over,true,rfl⟩
    ·exact fw.refl f
   ·rw[if_pos z];unfold Fl.begF;rw[if_pos hf]
  ·have hh:=(ho.on hf).2
   have hD16:f.hd.D<=16:=by have:=hh.D;unfold okD at this;omega
   exact Fz b f e a pv cv zv iv k n w h hk hn hh.K hD16 hb.pal (Nat.le_trans hb.ids hi) hg hf ha
 ·have ha':sO k=false:=by cases hh:sO k;rfl;exact absurd hh ha
  refine (KU b k n w hk ha').mono ?_;rintro r w' ⟨rfl,rfl⟩;have he:f.begE (ty k) n dn=3:=by unfold Fl.begE;rw[xH k hk,if_pos ha']
  exact ⟨dn,f,fun _=>hdn,by rw[he],h,fw.refl f,(fun z=>by rw[he] at z;cases z),Below.refl _ _⟩
theorem ar.setZ {W W2:World} {b:Nat} {f:Fl} {er at':Nat} {pv cv zv iv zv':Value} {x:One} (h:ar W b f er at' pv cv zv iv) (hF:Fr (fun g=>zv.ownBlock=some g) W W2) (ho:W2.ownsRow (b+1) 148 2 zv' (f.z.length+1) (gH f.z++[.int .i64 (x.1:Int),.int .i64 (x.2:Int)])) (hn:∀ g,zv'.ownBlock=some g->zv.ownBlock=some g\/W.heap.size<=g) :
  ar (W2.setCell ⟨b,10,none⟩ zv') b { f with z:=f.z++[x] } er at' pv cv zv' iv:=by
 have hb:=h.lt;have hnb:¬ zv.ownBlock=some b:=fun e=>by have:=(h.z.lt b e).1;omega
 have F:Fr1 b W2 (W2.setCell ⟨b,10,none⟩ zv'):=(Fr1.refl _ _).set _ _;obtain ⟨xs,hx⟩:=h.ids;have hx2:=aQ hx hF (fun g hg e=>h.dis g e hg);have c2:∀ j,W2.cell? ⟨b,j,none⟩=W.cell? ⟨b,j,none⟩:=fun j=>hF.cell hb hnb
 refine ⟨fun j hj => ?_,fun j=>(World.frozen?_setCell _ _ _ _).trans ((hF.frozen hb hnb).trans (h.fz j)),(h.pal.fr hF (fun g hg=>(h.pb g hg).2.1)).fr F (fun g hg e=>by have:=(h.pb g hg).1;omega),(h.clr.fr hF (fun g hg=>(h.cb g hg).2.1)).fr F (fun g hg e=>by have:=(h.cb g hg).1;omega),?_,⟨xs,aQ hx2 F (fun g hg e=>by have:=(hx.lt g hg).1;omega)⟩,fun g hg=>⟨(h.pb g hg).1,fun e => ?_,(h.pb g hg).2.2⟩,fun g hg=>⟨(h.cb g hg).1,fun e => ?_,(h.cb g hg).2.2⟩,fun g hg e => ?_,fun g hg => ?_,fun g hg => ?_⟩
 ·by_cases e:j=10
  ·subst e;exact aj ((c2 10).trans (h.cell 10 hj)) _
  ·rw[aa _ _ _ _ _ (fun q=>e q.symm),c2 j,h.cell j hj]
   congr 1
   revert e
   exact bP (P:=fun j=>j≠10->flV f er at' pv cv zv iv j=flV { f with z:=f.z++[x] } er at' pv cv zv' iv j) ⟨fun _=>rfl,fun _=>rfl,fun _=>rfl,fun _=>rfl,fun _=>rfl,fun _=>rfl,fun _=>rfl,fun _=>rfl,fun _=>rfl,fun _=>rfl,fun q=>absurd rfl q,fun _=>rfl,fun _=>rfl,fun _=>rfl,fun _=>rfl,fun _=>rfl,fun _=>rfl⟩ j hj
 ·show (W2.setCell ⟨b,10,none⟩ zv').ownsRow (b+1) _ 2 zv' (f.z++[x]).length (gH (f.z++[x]))
  rw[vU,List.length_append];exact aQ ho F (fun g hg e=>by have:=(ho.lt g hg).1;omega)
 ·rcases hn g e with q | q
  ·exact (h.pb g hg).2.1 q
  ·have:=h.plt g hg;omega
 ·rcases hn g e with q | q
  ·exact (h.cb g hg).2.1 q
  ·have:=h.clt g hg;omega
 ·rcases hn g hg with q | q
  ·exact h.dis g q e
  ·have:=(hx.lt g e).2;omega
 ·have:=h.plt g hg;have:=hF.size;simp [World.setCell];omega
 ·have:=h.clt g hg;have:=hF.size;simp [World.setCell];omega
theorem ar.setIds {W W2:World} {b:Nat} {f:Fl} {er at':Nat} {pv cv zv iv iv':Value} {xs':List Value} (h:ar W b f er at' pv cv zv iv) (hF:Fr (fun g=>iv.ownBlock=some g) W W2) (ho:W2.ownsRow (b+1) 3 1 iv' (f.ids+1) xs') (hn:∀ g,iv'.ownBlock=some g->iv.ownBlock=some g\/W.heap.size<=g) :
  ar (W2.setCell ⟨b,11,none⟩ iv') b { f with ids:=f.ids+1 } er at' pv cv zv iv':=by
 have hb:=h.lt;obtain ⟨xs,hx⟩:=h.ids;have hnb:¬ iv.ownBlock=some b:=fun e=>by have:=(hx.lt b e).1;omega
 have F:Fr1 b W2 (W2.setCell ⟨b,11,none⟩ iv'):=(Fr1.refl _ _).set _ _;have hz2:=aQ h.z hF (fun g hg e=>h.dis g hg e);have c2:∀ j,W2.cell? ⟨b,j,none⟩=W.cell? ⟨b,j,none⟩:=fun j=>hF.cell hb hnb
 refine ⟨fun j hj => ?_,fun j=>(World.frozen?_setCell _ _ _ _).trans ((hF.frozen hb hnb).trans (h.fz j)),(h.pal.fr hF (fun g hg=>(h.pb g hg).2.2)).fr F (fun g hg e=>by have:=(h.pb g hg).1;omega),(h.clr.fr hF (fun g hg=>(h.cb g hg).2.2)).fr F (fun g hg e=>by have:=(h.cb g hg).1;omega),aQ hz2 F (fun g hg e=>by have:=(h.z.lt g hg).1;omega),⟨xs',aQ ho F (fun g hg e=>by have:=(ho.lt g hg).1;omega)⟩,fun g hg=>⟨(h.pb g hg).1,(h.pb g hg).2.1,fun e => ?_⟩,fun g hg=>⟨(h.cb g hg).1,(h.cb g hg).2.1,fun e => ?_⟩,fun g hg e => ?_,fun g hg => ?_,fun g hg => ?_⟩
 ·by_cases e:j=11
  ·subst e;exact aj ((c2 11).trans (h.cell 11 hj)) _
  ·rw[aa _ _ _ _ _ (fun q=>e q.symm),c2 j,h.cell j hj]
   congr 1
   revert e
   exact bP (P:=fun j=>j≠11->flV f er at' pv cv zv iv j=flV { f with ids:=f.ids+1 } er at' pv cv zv iv' j) ⟨fun _=>rfl,fun _=>rfl,fun _=>rfl,fun _=>rfl,fun _=>rfl,fun _=>rfl,fun _=>rfl,fun _=>rfl,fun _=>rfl,fun _=>rfl,fun _=>rfl,fun q=>absurd rfl q,fun _=>rfl,fun _=>rfl,fun _=>rfl,fun _=>rfl,fun _=>rfl⟩ j hj
 ·rcases hn g e with q | q
  ·exact (h.pb g hg).2.2 q
  ·have:=h.plt g hg;omega
 ·rcases hn g e with q | q
  ·exact (h.cb g hg).2.2 q
  ·have:=h.clt g hg;omega
 ·rcases hn g e with q | q
  ·exact h.dis g hg q
  ·have:=(h.z.lt g hg).2;omega
 ·have:=h.plt g hg;have:=hF.size;simp [World.setCell];omega
 ·have:=h.clt g hg;have:=hF.size;simp [World.setCell];omega
theorem MR {w:World} {ops:Array Oper} {o:Oper} {a:Act} {K:Act->World->Prop} {Q:Exit->Act->World->Prop} {E:Prop} (hgd:o.guard=none) (s x:Operand)
  (hop:o.op=Op.call { callee:=Callee.builtin Builtin.append,args:=#[s,x],argTypes:=#[85,85] })
  (N:Nat) (v:Value) (n:Nat) (xs:List Value) (hs:a.eval s=v) (hown:w.ownsRow N 148 2 v n xs)
  (g c:Nat) (news:List Value) (hx:a.eval x = .slice (some ⟨g,0,none⟩) 1 c) (hn:news.length=2) (hc:∀ j u,news[j]? = some u->w.cell? ⟨g,j,none⟩=some u) (h1:∀ u ∈ news,u.oneCell'=true) (hb:n+1<=100000000) (hbase:N<=w.heap.size)
  (hK:∀ g' cap w',w'.ownsRow N 148 2 (.slice (some ⟨g',0,none⟩) (n+1) cap) (n+1) (xs++news)->Fr (fun k=>v.ownBlock=some k) w w'->(v.ownBlock=some g'\/w.heap.size<=g')->K (a.put o.dst (.slice (some ⟨g',0,none⟩) (n+1) cap)) w') :
  if Region.wanted o (yielded ops a.tmps)=true then Oper.wp Tryz.prog o a w K Q else E:=by
 obtain ⟨i0,hi,hz0,hz1,hz2⟩:=info_parts Du;refine step_append_lies w hgd s x 85 hop N 148 i0 (.agg #[.int .i64 0,.int .i64 0]) 2 16 Tryz.underlying85 hi hz0 hz1 hz2 rfl (by omega) v n xs hs hown ⟨g,0,none⟩ 1 c news hx (by rw[hn]) ?_ h1 (by omega) (by unfold maxLen;omega) (by omega) hbase w.heap.size rfl ?_
 ·intro j u hj
  have e:(⟨g,0,none⟩:Addr).add j=⟨g,j,none⟩:=by unfold Addr.add;split<;>simp_all
  rw[e];exact hc j u hj
 ·intro g' cap w' h1 h2 h3 h4
  exact hK g' cap w' h1 ⟨h2.os,h2.tape,h2.output,h2.size,fun k hk hn=>h2.block k hk (fun e=>hn e.symm)⟩ (match h3 with|.inl a=>.inl a|.inr e=>.inr (by omega))
theorem Mt {K:Act->World->Prop} {P:Ending->World->Prop} {u2 u3 u4 u5 u6 u7 u8 u9 rY vo uC sq u16 sx rX o6 o5 o4 o3 o0 oZ oY oX oW oV oU oT oS u32 oR oQ oP oO oN oM oL oK oJ oI oH oG oF oE oD oC oB oA oz oy ox ow ou ot oq oo om oj oi oh og u64 pW pV qu qt qq qp qo qn qm ql qk qj qi qh qg qf qz qy qx rK rJ rI rH rG rF rE rD rC rB rA rz ry ru rq rp fh eE eB ez ey ew ev eu ej eh ed dZ dY dX dW dV dU dT dS dR dQ dP dO dN dM dL dK dJ dI dH dG dF dE dD dC dB dA dz dy dx fy fx:Value} (b i HV:Nat) (t:ByteArray) (f:Fl) (pv cv zv iv:Value) (w:World) (h:Hid (ar w b f 0 0 pv cv zv iv)) (hHV:HV<=t.size) (hi:i<=HV) (hs:t.size<=1048576) (hzl:f.z.length<=1048576)
  (hQ:Hid (∀ vm Lg Lf Le zE zD zC zy zx zw zu zt zq zo zm zk zj zi zg ze qC W' zv',ar W' b { f with z:=f.z++plc (seg t i (HV - i)) i } 0 0 pv cv zv' iv->Below b w W'->K ⟨#[.pointer (some ⟨b,0,none⟩),.string t,u2,u3,u4,u5,u6,u7,u8,u9,rY,vo,.int .i64 (HV:Int),vm,uC,sq,u16,sx,rX,o6,o5,o4,o3,o0,oZ,oY,oX,oW,oV,oU,oT,oS,u32,oR,oQ,oP,oO,oN,oM,oL,oK,oJ,oI,oH,oG,oF,oE,oD,oC,oB,oA,oz,oy,ox,ow,ou,ot,oq,oo,om,oj,oi,oh,og,u64,pW,pV,qu,qt,qq,qp,qo,qn,qm,ql,qk,qj,qi,qh,qg,qf,Lg,Lf,Le,zE,zD,zC,zy,zx,zw,zu,zt,zq,zo,zm,zk,zj,zi,zg,ze,qC,eE,eB,ez,ey,ew,ev,eu,ej,eh,ed,dZ,dY,dX,dW,dV,dU,dT,dS,dR,dQ,dP,dO,dN,dM,dL,dK,dJ,dI,dH,dG,dF,dE,dD,dC,dB,dA,dz,dy,dx,fy,fx],[]⟩ W')) :
  Code.wp Tryz.prog ((Tryz.f58.body.bind (fJ 0)).getD .skip) (Exit.then K (bodyPost Tryz.prog Tryz.f58 P)) ⟨#[.pointer (some ⟨b,0,none⟩),.string t,u2,u3,u4,u5,u6,u7,u8,u9,rY,vo,.int .i64 (HV:Int),.int .i64 (i:Int),uC,sq,u16,sx,rX,o6,o5,o4,o3,o0,oZ,oY,oX,oW,oV,oU,oT,oS,u32,oR,oQ,oP,oO,oN,oM,oL,oK,oJ,oI,oH,oG,oF,oE,oD,oC,oB,oA,oz,oy,ox,ow,ou,ot,oq,oo,om,oj,oi,oh,og,u64,pW,pV,qu,qt,qq,qp,qo,qn,qm,ql,qk,qj,qi,qh,qg,qf,qz,qy,qx,rK,rJ,rI,rH,rG,rF,rE,rD,rC,rB,rA,rz,ry,ru,rq,rp,fh,eE,eB,ez,ey,ew,ev,eu,ej,eh,ed,dZ,dY,dX,dW,dV,dU,dT,dS,dR,dQ,dP,dO,dN,dM,dL,dK,dJ,dI,dH,dG,dF,dE,dD,dC,dB,dA,dz,dy,dx,fy,fx],[]⟩ w:=by
 conv=>arg 2;whnf
 have hblt:=h.out.lt;go_wp2_with fail;go_loopg [13] (HV - i) (fun m vm W=>∃ (k:Nat) (zv':Value),i<=k/\k<=HV/\vm = .int .i64 (k:Int)/\m=HV - k/\ar W b { f with z:=f.z++plc (seg t i (k - i)) i } 0 0 pv cv zv' iv/\Below b w W)
 case atStart=>exact ⟨i,zv,Nat.le_refl _,hi,rfl,rfl,by rw[Nat.sub_self,show plc (seg t i 0) i=[] from rfl,List.append_nil];exact h.out,Below.refl _ _⟩
 case round=>
  obtain ⟨k,zv',k1,k2,rfl,hm,hX,hB⟩:=hrel;have HM:Hid _:=hm;have HX:Hid _:=hX;have HB:Hid _:=hB;clear hm hB;by_cases c:k<HV
  ·have hci:(k:Int)<(HV:Int):=by omega
   have hkt:k<t.size:=by omega
   have hkti:(k:Int)<(t.size:Int):=by omega
   have hk0:(0:Int)<=(k:Int):=by omega
   obtain ⟨zp,zc,hzv⟩:=aq hX.z;have hzn:(f.z++plc (seg t i (k - i)) i).length<=2097152:=by
    rw[List.length_append,uf,seg_length t i (k - i) (by omega)];omega
   obtain ⟨ZL,hZL⟩:∃ ZL,ZL=(f.z++plc (seg t i (k - i)) i).length:=⟨_,rfl⟩;have c10:wr.cell? ⟨b,10,none⟩=some (.slice zp ZL zc):=by rw[hZL,<- hzv];exact hX.cell 10 (by omega)
   have hOW:=hX.z;have hbl:b<wr.heap.size:=hX.lt;have hnb:¬ zv'.ownBlock=some b:=fun e=>by have:=(hX.z.lt b e).1;omega
   have hfz:=hX.fz;have HSN:Hid (plc (seg t i (k+1 - i)) i=plc (seg t i (k - i)) i++[(t[k].toNat,k)]):=by
    show plc (seg t i (k+1 - i)) i=_
    rw[show k+1 - i=(k - i)+1 by omega,kS t i (k - i) (by omega),Ac,seg_length t i (k - i) (by omega)];simp only [show i+(k - i)=k by omega]
   obtain ⟨X,hXX⟩:∃ X,X=t[k].toNat:=⟨_,rfl⟩;have hX256:X<256:=by rw[hXX];exact t[k].toNat_lt
   rw[<- hXX] at HSN;have wv:IntKind.i64.wrap (X:Int)=(X:Int):=by rw[IntKind.wrap_i64];omega
   have wk:IntKind.i64.wrap (k:Int)=(k:Int):=by rw[IntKind.wrap_i64];omega
   have hXi:(t[k].toNat:Int)=(X:Int):=by rw[hXX]
   have hZ1:ZL+1<=100000000:=by omega
   have HOW:Hid (wr.ownsRow (b+1) 148 2 (.slice zp ZL zc) ZL (gH (f.z++plc (seg t i (k - i)) i))):=by rw[hZL,<- hzv];exact hOW
   have HZV:Hid (zv' = .slice zp ZL zc):=by rw[hZL];exact hzv
   rw[hzv,<- hZL] at hnb;have HZL:Hid _:=hZL;have HC:Hid (∀ (E:TypeId) (j:Nat) (u:Value),[Value.int .i64 (X:Int),.int .i64 (k:Int)][j]? = some u->(wr.alloc (Obj.cells #[Value.int .i64 (X:Int),.int .i64 (k:Int)] E)).cell? ⟨wr.heap.size,j,none⟩=some u):=fun E j u hj=>by rw[World.cell?_alloc_at _ _ _ _ rfl];simpa using hj
   have HO1:Hid (∀ u ∈ [Value.int .i64 (X:Int),.int .i64 (k:Int)],u.oneCell'=true):=by
    intro u hu;simp only [List.mem_cons,List.not_mem_nil,or_false] at hu;rcases hu with rfl | rfl<;>rfl
   obtain ⟨XS,hXS⟩:∃ XS,XS=gH (f.z++plc (seg t i (k - i)) i):=⟨_,rfl⟩;rw[<- hXS] at HOW;have HXS:Hid (XS=gH (f.z++plc (seg t i (k - i)) i)):=hXS;clear hXS;clear hzv hZL hOW hX hXX hzn;go_upto_region 21 with fail
   go_region_law ((refine MR (by rfl) _ _ (by rfl) (b+1) (.slice zp ZL zc) ZL XS (by rfl) (by exact cC HOW.out (Kept.drewN ((Below.refl _ _).alloc (Nat.le_refl _) _) 1)) wr.heap.size 1 [Value.int .i64 (X:Int),.int .i64 (k:Int)] (by rfl) rfl (by intro j u hj;exact HC.out _ j u hj) HO1.out hZ1 (by simp;omega) ?_;intro g' cap w20 ho2 hf2 hn2;have fk:Fr (fun k=>(Value.slice zp ZL zc).ownBlock=some k) wr w20:=(((Fr.refl _ wr).alloc _).drewN 1).trans hf2;have k10:=(fk.cell (k:=10) hbl hnb).trans c10;have g10:=(fk.frozen (k:=10) hbl hnb).trans (hfz 10)))
   all_goals
    have hnew:∀ g,(Value.slice (some ⟨g',0,none⟩) (ZL+1) cap).ownBlock=some g->zv'.ownBlock=some g\/wr.heap.size<=g:=fun g hg=>by
     have e:g'=g:=by injection hg
     subst e;rw[HZV.out];rcases hn2 with q | q
     ·exact Or.inl q
     ·exact Or.inr (by simp at q;omega)
    rw[<- HZV.out] at fk;rw[HZL.out] at ho2 hnew;rw[HXS.out] at ho2;have hFX:=HX.out.setZ (x:=(X,k)) fk ho2 hnew;have hBL:Below b w (w20.setCell ⟨b,10,none⟩ (.slice (some ⟨g',0,none⟩) (ZL+1) cap)):=by
     have h1:Below b wr w20:=⟨fk.os,fk.tape,fk.output,fk.size,fun j hj=>fk.block j (by omega) (fun e=>by have:=(HX.out.z.lt j e).1;omega)⟩;exact (HB.out.trans h1).setCell (p:=⟨b,10,none⟩) (Nat.le_refl b) _
    rw[<- HZL.out] at hFX;have HFX:Hid _:=hFX;have HBL:Hid _:=hBL;clear hnew fk ho2 hn2 hf2 hFX hBL k10 g10;go_wp2_with fail;go_roundg (HV - (k+1))
    case measure=>have:=HM.out;omega
    refine ⟨k+1,.slice (some ⟨g',0,none⟩) (ZL+1) cap,by omega,by omega,by go_num,rfl,?_,HBL.out⟩;have q:=HFX.out;rw[HSN.out,<- List.append_assoc];exact q
  ·have e:k=HV:=by omega
   subst e;have hci:¬ (k:Int)<(k:Int):=by omega
   go_wp2_with fail;exact hQ.out _ _ _ _ _ _ _ _ _ _ _ _ _ _ _ _ _ _ _ _ _ _ _ HX.out HB.out
