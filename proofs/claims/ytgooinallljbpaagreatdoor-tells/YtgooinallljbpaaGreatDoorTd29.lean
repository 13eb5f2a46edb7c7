import Derived.Test.YtgooinallljbpaaGreatDoorTd26
import Derived.Test.YtgooinallljbpaaGreatDoorTd28
import Derived.Test.YtgooinallljbpaaGreatDoorTd20
set_option maxRecDepth 100000
set_option maxHeartbeats 6400000
namespace Go.Proofs.YtgooinallljbpaaGreatDoor
open Go.RowKit Px
set_option linter.unusedSimpArgs false
set_option linter.unusedVariables false
def fo (f g:Fl):Prop:=∃ o p,g={ f with over:=o,first:=p }
theorem fo.refl (f:Fl):fo f f:=⟨f.over,f.first,rfl⟩
theorem xz (f:Fl) (k:Nat):fo f (f.begF k):=by
 unfold Fl.begF;split
 ·exact ⟨f.over,true,rfl⟩
 ·split
  ·exact ⟨true,f.first,rfl⟩
  ·exact fo.refl f
structure FBd (i:Nat) (f:Fl):Prop where
 pal:f.pal.length<=1048576
 zl:f.z.length<=i
 ids:f.ids<=i
 zb:∀ x ∈ f.z,x.1<256/\x.2<=1048576
theorem FBd.mono {i j:Nat} {f:Fl} (h:FBd i f) (k:i<=j):FBd j f:=⟨h.pal,Nat.le_trans h.zl k,Nat.le_trans h.ids k,h.zb⟩
theorem FBd.same {i:Nat} {f g:Fl} (h:FBd i f) (k:fo f g):FBd i g:=by
 obtain ⟨o,p,rfl⟩:=k;exact ⟨h.pal,h.zl,h.ids,h.zb⟩
theorem FBd.good {i:Nat} {f:Fl} (h:FBd i f) (hi:i<=1048576):good f.z:=⟨fun x hx=>(h.zb x hx).1,Nat.le_trans h.zl hi,fun x hx=>(h.zb x hx).2⟩
theorem uJ:FBd 0 Fl.start:=⟨by decide,by decide,by decide,(fun x hx=>by cases hx)⟩
theorem JP {l:List Nat} {i:Nat} {x:One} (h:x ∈ plc l i):x.1 ∈ l/\x.2<i+l.length:=by
 induction l generalizing i with
 | nil=>cases h
 | cons y l ih=>
  rw[plc] at h;rcases List.mem_cons.1 h with e | e
  ·subst e;exact ⟨by simp,by simp⟩
  ·have:=ih e
   exact ⟨by simp [this.1],by simp;omega⟩
theorem Ae:∀ (l:List Nat) (i x:Nat),plc (l++[x]) i=plc l i++[(x,i+l.length)]
 | [],i,x=>rfl
 | y::l,i,x=>by
  rw[List.cons_append,plc,Ae l,plc,List.cons_append,List.length_cons,show i+1+l.length=i+(l.length+1) by omega]
theorem DO {i n:Nat} {f:Fl} {k:Nat} {d:List Nat} (h:FBd i f) (hd:∀ x ∈ d,x<256) (hn:i+8+d.length<=1048576):FBd (i+8+d.length) (f.data k d (i+8)):=by
 unfold Fl.data;have h1:=h.zl;have h2:=h.ids;split
 ·refine ⟨h.pal,?_,?_,fun x hx => ?_⟩
  ·show (f.z++plc d (i+8)).length<=_
   rw[List.length_append,tW];omega
  ·show f.ids+1<=_
   omega
  ·rcases List.mem_append.1 hx with q | q
   ·exact h.zb x q
   ·have:=JP q
    exact ⟨hd _ this.1,by omega⟩
 ·exact h.mono (by omega)
theorem yw {i k:Nat} {f:Fl} {d:List Nat} (h:FBd i f) (hd:d.length<=1048576):FBd i (f.ends k d).1:=by
 unfold Fl.ends
 (repeat' split)
 all_goals first
  | exact h
  | exact ⟨h.pal,h.zl,h.ids,h.zb⟩
  | exact ⟨hd,h.zl,h.ids,h.zb⟩
theorem KN {i k n:Nat} {f:Fl} {h' r:List Nat} (h:FBd i f) (hr:∀ x ∈ r,x<256) (hn:i+8+r.length<=1048576):FBd (i+8+r.length) (Fl.body f k n h' r (i+8)).f:=by
 have hd:=DO (n:=0) (k:=k) (d:=r.take n) h (fun x hx=>hr x (List.mem_of_mem_take hx)) (by rw[List.length_take];omega);have hd2:FBd (i+8+r.length) (f.data k (r.take n) (i+8)):=hd.mono (by rw[List.length_take];omega);unfold Fl.body;split
 ·exact hd2
 ·split
  ·exact hd2
  ·split
   ·exact yw hd2 (by rw[List.length_take];omega)
   ·exact yw hd2 (by rw[List.length_take];omega)
theorem IN {i k n:Nat} {f:Fl} {h' r:List Nat} (h:FBd i f) (hr:∀ x ∈ r,x<256) (hn:i+8+r.length<=1048576) (ht:(Fl.body f k n h' r (i+8)).took≠0):FBd (i+(Fl.body f k n h' r (i+8)).took) (Fl.body f k n h' r (i+8)).f/\(Fl.body f k n h' r (i+8)).took<=8+r.length/\(Fl.body f k n h' r (i+8)).err=0:=by
 have hd:=DO (n:=0) (k:=k) (d:=r.take n) h (fun x hx=>hr x (List.mem_of_mem_take hx)) (by rw[List.length_take];omega);unfold Fl.body at ht ⊢;by_cases c1:r.length<n+4
 ·rw[if_pos c1] at ht;exact absurd rfl ht
 rw[if_neg c1] at ht ⊢
 split at ht
 ·exact absurd rfl ht
 ·rename_i c2
  rw[if_neg c2]
  split at ht
  ·exact absurd rfl ht
  ·rename_i c3
   rw[if_neg c3];refine ⟨yw (hd.mono ?_) (by rw[List.length_take];omega),?_,rfl⟩
   ·rw[List.length_take];show _<=i+(8+n+4);omega
   ·show 8+n+4<=_;omega
theorem IJ {i:Nat} {f:Fl} {l:List Nat} {dn:Bool} (h:FBd i f) (hl:∀ x ∈ l,x<256) (hn:i+l.length<=1048576):FBd (i+l.length) (f.chunk l i dn).f/\((f.chunk l i dn).took≠0->FBd (i+(f.chunk l i dn).took) (f.chunk l i dn).f/\(f.chunk l i dn).took<=l.length/\(f.chunk l i dn).err=0):=by
 have h0:FBd (i+l.length) f:=h.mono (by omega);unfold Fl.chunk;by_cases c1:l.length<4
 ·rw[if_pos c1];exact ⟨h0,fun q=>absurd rfl q⟩
 rw[if_neg c1];by_cases c2:2147483648<=n4 (l.getD 0 0) (l.getD 1 0) (l.getD 2 0) (l.getD 3 0)
 ·rw[if_pos c2];exact ⟨h0,fun q=>absurd rfl q⟩
 rw[if_neg c2];by_cases c3:l.length<8
 ·rw[if_pos c3];exact ⟨h0,fun q=>absurd rfl q⟩
 rw[if_neg c3];generalize n4 (l.getD 4 0) (l.getD 5 0) (l.getD 6 0) (l.getD 7 0)=k;generalize n4 (l.getD 0 0) (l.getD 1 0) (l.getD 2 0) (l.getD 3 0)=n;by_cases c4:f.begE k n dn≠0
 ·rw[if_pos c4];exact ⟨h0,fun q=>absurd rfl q⟩
 rw[if_neg c4];have hb:FBd i (f.begF k):=h.same (xz f k);have hr:∀ x ∈ l.drop 8,x<256:=fun x hx=>hl x (List.mem_of_mem_drop hx)
 have hlen:(l.drop 8).length=l.length - 8:=List.length_drop;refine ⟨?_,fun q => ?_⟩
 ·have:=KN (k:=k) (n:=n) (h':=l.take 8) hb hr (by rw[hlen];omega)
  exact this.mono (by rw[hlen];omega)
 ·have:=IN (k:=k) (n:=n) (h':=l.take 8) hb hr (by rw[hlen];omega) q
  rw[hlen] at this;exact ⟨this.1,by omega,this.2.2⟩
theorem cD (t:ByteArray) (i j:Nat):((af t).drop i).getD j 0=gb t (i+j):=by
 unfold gb;rw[List.getD_eq_getElem?_getD,List.getElem?_drop,List.getD_eq_getElem?_getD]
theorem x9 (t:ByteArray) (i:Nat) (h:i+4<=t.size):n4 (gb t i) (gb t (i+1)) (gb t (i+2)) (gb t (i+3))=dg (seg t i 4):=(LB t i h).symm
theorem pY (t:ByteArray) (a b:Nat):af (t.extract a b)=seg t a (b - a):=by
 unfold af seg af;rw[<- List.map_drop,<- List.map_take]
 congr 1
 rw[ByteArray.data_extract,Array.toList_extract,List.extract_eq_take_drop]
theorem size_extract (t:ByteArray) (a b:Nat) (h1:a<=b) (h2:b<=t.size):(t.extract a b).size=b - a:=by
 rw[ByteArray.size_extract];omega
theorem AC (t:ByteArray) (i j n:Nat):(((af t).drop i).drop j).take n=seg t (i+j) n:=by unfold seg;rw[List.drop_drop]
theorem Lr (t:ByteArray) (i:Nat) (h:i+8<=t.size):ty (t.extract (i+4) (i+8))=n4 (((af t).drop i).getD 4 0) (((af t).drop i).getD 5 0) (((af t).drop i).getD 6 0) (((af t).drop i).getD 7 0):=by
 unfold ty;rw[pY,show i+8 - (i+4)=4 by omega,<- x9 t (i+4) (by omega),cD,cD,cD,cD]
theorem JA (t:ByteArray) (i n:Nat) (h:i+8+n<=t.size):(((af t).drop i).take 8).drop 4++(((af t).drop i).drop 8).take n=seg t (i+4) (4+n):=by
 unfold seg;rw[List.drop_take,List.drop_drop,List.drop_drop,List.take_add,List.drop_drop]
theorem JJ (t:ByteArray) (i n:Nat) (h:i<=t.size) (hn:t.size<=i+n):seg t i n=seg t i (t.size - i):=by
 unfold seg;have hl:((af t).drop i).length=t.size - i:=by rw[List.length_drop,av]
 rw[List.take_of_length_le (by omega),List.take_of_length_le (by omega)]
theorem x7 {W:World} {N:Nat} {ov:Value} {out:List One} (ho:W.ownsRow N 148 2 ov out.length (gy out)):ZAt W ov out:=by
 rcases ho.2 with ⟨hv,h0⟩ | ⟨g,cap,cur,hv,hg,r⟩
 ·refine ⟨⟨none,0,by rw[hv,h0]⟩,?_⟩
  intro p c _ i hi;omega
 ·refine ⟨⟨_,_,hv⟩,?_⟩
  intro p c hp i hi;rw[hv] at hp
  injection hp with hp _ _
  have hob:ov.ownBlock=some g:=by rw[hv];rfl
  have h1:=ho.cells hob (i*2) _ (rK out i hi).1;have h2:=ho.cells hob (i*2+1) _ (rK out i hi).2;have e1:(Addr.add ⟨g,0,none⟩ (i*2))=⟨g,i*2,none⟩:=by simp [Addr.add];intro h;omega
  have e2:(Addr.add ⟨g,0,none⟩ (i*2+1))=⟨g,i*2+1,none⟩:=by simp [Addr.add]
  rw[e1] at h1;rw[e2] at h2;exact ⟨g,hp.symm,h1,h2⟩
theorem aq.readable {w:World} {b:Nat} {f:Fl} {er at':Nat} {pv cv zv iv:Value} (h:aq w b f er at' pv cv zv iv):∀ g,ae zv=some g->g<w.heap.size:=fun g hg=>by
 rw[ch zv h.z] at hg;exact (h.z.lt g hg).2
theorem Lg {w:World} {b:Nat} {f:Fl} {er at':Nat} {pv cv zv iv:Value} (h:aq w b f er at' pv cv zv iv) (hg:good f.z):∃ dn,yR f.z dn:=by
 obtain ⟨e,w',fr,⟨_,ov,out,dn,sm,er,at'',en,hrp⟩,_⟩:=vL zv f.z w (x7 h.z) hg h.readable [];exact ⟨dn,out,sm,er,at'',en,hrp.st⟩
theorem FJ {f:Fl} {k n:Nat} (h:k≠aJ):({ f with over:=true }:Fl).begE k n true=f.begE k n true:=by
 unfold Fl.begE;simp only [Bool.not_true,Bool.and_false,if_neg h]
theorem ui {u3 u4 u5 u6 u7 u8 u9 rS vh tP ux uv se u16 si rR oY oX oW oV oU oT oS oR oQ oP oO oN oM u32 oL oK oJ oI oH oG oF oE oD oC oB oA oz oy ox ow ou ot oq oo om oj oi oh og oe od ob oa nZ nY u64 pS pR qn qm ql qk qj qi qh qg qf qe qd qc qb qa qt qq qp rE rD rC rB rA rz ry ru rq rp rm rk rj rh ra qZ fc ey ew ev eu ej eh ed dZ dY dX dW dV dU dT dS dR dQ dP dO dN dM dL dK dJ dI dH dG dF dE dD dC dB dA dz dy dx dw du dt fq fp gm iu ir ik ij ig ie ib gZ gY gX gW gV gU gT gS gR gQ gP gO gN gM gK gJ gI gH gG gF gE gB gA kL kK kJ kI kG kF kE kD kC kB ky kv ku kj kf ke j9 j8 j7 j6 j5 j4 jZ jY jX jW jV jU jT jS jR jQ jP jO jN jM jL jK jJ jI jH jG jF jE jD jC jB gj gi gh gg gf gd ga fZ fY fX:Value} (P:Ending->World->Prop) (b:Nat) (f:Fl) (e a:Nat) (pv cv zv iv:Value) (k:ByteArray) (n:Nat) (dn:Bool) (w:World) (h:aq w b f e a pv cv zv iv) (hk:k.size=4) (hn:n<2147483648) (hK:kindOk f.hd.K) (hD:f.hd.D<=16) (hPN:f.pal.length<=1048576) (hI:f.ids<=1048576) (ha:sF k=true) (hf:f.first=true) (hd:(f.ov (ty k) && !dn)=false)
  (HP:Hid (P (.returned (.int .i64 (f.begE (ty k) n dn:Int))) w)) :
  Code.wp Tryz.prog CN (bodyPost Tryz.prog Tryz.f99 P) ⟨#[.pointer (some ⟨b,0,none⟩),.string k,.int .i64 (n:Int),u3,u4,u5,u6,u7,u8,u9,rS,vh,tP,ux,uv,se,u16,si,rR,oY,oX,oW,oV,oU,oT,oS,oR,oQ,oP,oO,oN,oM,u32,oL,oK,oJ,oI,oH,oG,oF,oE,oD,oC,oB,oA,oz,oy,ox,ow,ou,ot,oq,oo,om,oj,oi,oh,og,oe,od,ob,oa,nZ,nY,u64,pS,pR,qn,qm,ql,qk,qj,qi,qh,qg,qf,qe,qd,qc,qb,qa,qt,qq,qp,rE,rD,rC,rB,rA,rz,ry,ru,rq,rp,rm,rk,rj,rh,ra,qZ,fc,ey,ew,ev,eu,ej,eh,ed,dZ,dY,dX,dW,dV,dU,dT,dS,dR,dQ,dP,dO,dN,dM,dL,dK,dJ,dI,dH,dG,dF,dE,dD,dC,dB,dA,dz,dy,dx,dw,du,dt,fq,fp,gm,iu,ir,ik,ij,ig,ie,ib,gZ,gY,gX,gW,gV,gU,gT,gS,gR,gQ,gP,gO,gN,gM,gK,gJ,gI,gH,gG,gF,gE,gB,gA,kL,kK,kJ,kI,kG,kF,kE,kD,kC,kB,ky,kv,ku,kj,kf,ke,j9,j8,j7,j6,j5,j4,jZ,jY,jX,jW,jV,jU,jT,jS,jR,jQ,jP,jO,jN,jM,jL,jK,jJ,jI,jH,jG,jF,jE,jD,jC,jB,gj,gi,gh,gg,gf,gd,ga,fZ,fY,fX],[]⟩ w:=by
 obtain ⟨pa,pc,rfl⟩:=h.pal.form;obtain ⟨xs,hx⟩:=h.ids;obtain ⟨ia,ic,rfl⟩:=ao hx;have c3:w.cell? ⟨b,3,none⟩=some (.int .i64 (f.hd.D:Int)):=h.cell 3 (by omega);have c4:w.cell? ⟨b,4,none⟩=some (.int .i64 (f.hd.K:Int)):=h.cell 4 (by omega);have c6:w.cell? ⟨b,6,none⟩=some (.bool f.hasPal):=h.cell 6 (by omega);have c7:w.cell? ⟨b,7,none⟩=some (.bool f.hasClear):=h.cell 7 (by omega);have c8:w.cell? ⟨b,8,none⟩=some (.slice pa f.pal.length pc):=h.cell 8 (by omega);have c11:w.cell? ⟨b,11,none⟩=some (.slice ia f.ids ic):=h.cell 11 (by omega);have c12:w.cell? ⟨b,12,none⟩=some (.bool f.over):=h.cell 12 (by omega);have tb:=xG k hk;have t1:=xH k hk;have t2:=C7 k hk;have t3:=CZ k hk;have t4:=xI k hk;have t5:=C8 k hk;have hg:pX (ty k / 16777216 % 256)=pX (gb k 0):=by
  rw[Gd k hk];have h0:=fJ k 0;have h1:=fJ k 1;have h2:=fJ k 2;have h3:=fJ k 3
  congr 1
  omega
 obtain ⟨V,hV⟩:∃ V,V=f.begE (ty k) n dn:=⟨_,rfl⟩;rw[<- hV] at HP;have hq:=hV;unfold Fl.begE at hq;rw[tb,if_neg (by rw[ha];decide),if_neg (by rw[hf];decide),if_neg (by rw[hd];decide),hg] at hq;by_cases e1:ty k=aY
 ·rw[if_pos e1] at hq
  rw[decide_eq_true e1] at t1;rw[decide_eq_false (by rw[e1];decide)] at t2 t3 t4 t5;exact KI P b k n w hk hn _ _ _ _ _ _ _ pa ia pc ic hD hPN hI hK c11 c12 c4 c3 c6 c7 c8 t1 t2 t3 t4 t5 V hq HP
 rw[if_neg e1] at hq;rw[decide_eq_false e1] at t1;by_cases e2:ty k=cj
 ·rw[if_pos e2] at hq
  rw[decide_eq_true e2] at t2;rw[decide_eq_false (by rw[e2];decide)] at t3 t4 t5;exact KH P b k n w hk hn _ _ _ _ _ _ _ pa ia pc ic hD hPN hI hK c11 c12 c4 c3 c6 c7 c8 t1 t2 t3 t4 t5 V hq HP
 rw[if_neg e2] at hq;rw[decide_eq_false e2] at t2;by_cases e3:ty k=bY
 ·rw[if_pos e3] at hq
  rw[decide_eq_true e3] at t3;rw[decide_eq_false (by rw[e3];decide)] at t4 t5;exact KG P b k n w hk hn _ _ _ _ _ _ _ pa ia pc ic hD hPN hI hK c11 c12 c4 c3 c6 c7 c8 t1 t2 t3 t4 t5 V hq HP
 rw[if_neg e3] at hq;rw[decide_eq_false e3] at t3;by_cases e4:ty k=aJ
 ·rw[if_pos e4] at hq
  rw[decide_eq_true e4] at t4;rw[decide_eq_false (by rw[e4];decide)] at t5;exact KL P b k n w hk hn _ _ _ _ _ _ _ pa ia pc ic hD hPN hI hK c11 c12 c4 c3 c6 c7 c8 t1 t2 t3 t4 t5 V hq HP
 rw[if_neg e4] at hq;rw[decide_eq_false e4] at t4;by_cases e5:ty k=cS
 ·rw[if_pos e5] at hq
  rw[decide_eq_true e5] at t5;exact KJ P b k n w hk hn _ _ _ _ _ _ _ pa ia pc ic hD hPN hI hK c11 c12 c4 c3 c6 c7 c8 t1 t2 t3 t4 t5 V hq HP
 rw[if_neg e5] at hq;rw[decide_eq_false e5] at t5;exact KM P b k n w hk hn _ _ _ _ _ _ _ pa ia pc ic hD hPN hI hK c11 c12 c4 c3 c6 c7 c8 t1 t2 t3 t4 t5 V hq HP
def yV (w w':World) (b:Nat) (f:Fl) (e a:Nat) (pv cv zv iv:Value) (k n:Nat) (r:Ending):Prop:=∃ dn g,(f.ov k=true->yR f.z dn)/\r = .returned (.int .i64 (f.begE k n dn:Int))/\aq w' b g e a pv cv zv iv/\fo f g/\(f.begE k n dn=0->g=f.begF k)/\Below b w w'
theorem KT (b:Nat) (k:ByteArray) (n:Nat) (w:World) (hk:k.size=4) (ha:sF k=false) :
  Calls Tryz.prog 99 #[.pointer (some ⟨b,0,none⟩),.string k,.int .i64 (n:Int)] w fun r w'=>r = .returned (.int .i64 ((3:Nat):Int))/\w'=w:=by
 go_enter Tryz.func99,Tryz.ntmps99;go_wp2_with (go_at_call 130;refine (fi _ _ hk).mono ?_;rintro r w' ⟨rfl,rfl⟩)
 go_ret;exact ⟨rfl,rfl⟩
theorem Fz (b:Nat) (f:Fl) (e a:Nat) (pv cv zv iv:Value) (k:ByteArray) (n:Nat) (w:World) (h:aq w b f e a pv cv zv iv) (hk:k.size=4) (hn:n<2147483648) (hK:kindOk f.hd.K) (hD:f.hd.D<=16) (hPN:f.pal.length<=1048576) (hI:f.ids<=1048576) (hg:good f.z) (hf:f.first=true) (ha:sF k=true) :
  Calls Tryz.prog 99 #[.pointer (some ⟨b,0,none⟩),.string k,.int .i64 (n:Int)] w fun r w'=>yV w w' b f e a pv cv zv iv (ty k) n r:=by
 have HX:Hid (aq w b f e a pv cv zv iv):=h;have c13:w.cell? ⟨b,13,none⟩=some (.bool f.first):=h.cell 13 (by omega);rw[hf] at c13;obtain ⟨xs,hx⟩:=h.ids;obtain ⟨ia,ic,hiv⟩:=ao hx;have c11:w.cell? ⟨b,11,none⟩=some (.slice ia f.ids ic):=by rw[<- hiv];exact h.cell 11 (by omega)
 have c12:w.cell? ⟨b,12,none⟩=some (.bool f.over):=h.cell 12 (by omega);have t4:=xI k hk;have hlt:=h.lt;have hfz:=h.fz;obtain ⟨I,hIe⟩:∃ I,I=f.ids:=⟨_,rfl⟩;obtain ⟨ovv,hov⟩:∃ o,o=f.over:=⟨_,rfl⟩;rw[<- hIe] at c11;rw[<- hov] at c12;have hI2:I<=1048576:=by omega
 have HA:Hid (sF k=true):=ha;have HF1:Hid (f.first=true):=hf;have HKK:Hid (kindOk f.hd.K):=hK;have FL:Hid (∀ W,Calls Tryz.prog 130 #[.string k] W fun e w'=>e = .returned (.bool true)/\w'=W):=fun W=>by
  have:=fi k W hk
  rw[ha] at this;exact this
 have HBF:Hid (f.begF (ty k)=if f.ov (ty k)=true then { f with over:=true } else f):=by
  show f.begF (ty k)=_
  unfold Fl.begF;rw[if_neg (by rw[hf];decide)]
 by_cases q:f.ov (ty k)=true
 ·-- the first chunk behind the IDATs
  have q':=q;unfold Fl.ov at q';simp only [Bool.and_eq_true,decide_eq_true_eq,Bool.not_eq_true'] at q';obtain ⟨⟨q1,q2⟩,q3⟩:=q';rw[decide_eq_false q2] at t4;rw[<- hov] at q3;subst q3;have ii:(0:Int)<(I:Int):=by omega
  obtain ⟨zp,zc,hzv⟩:=ao h.z;have c10:(w.setCell ⟨b,12,none⟩ (.bool true)).cell? ⟨b,10,none⟩=some (.slice zp f.z.length zc):=by
   rw[aa _ _ _ _ _ (by omega),<- hzv];exact h.cell 10 (by omega)
  have hX2:aq (w.setCell ⟨b,12,none⟩ (.bool true)) b { f with over:=true } e a pv cv zv iv:=h.setOver;have HX2:Hid _:=hX2;have HR:Hid (Calls Tryz.prog 41 #[.slice zp f.z.length zc] (w.setCell ⟨b,12,none⟩ (.bool true)) fun r w'=>r = .returned (.pointer (some ⟨(w.setCell ⟨b,12,none⟩ (.bool true)).heap.size,0,none⟩))/\K7 (w.setCell ⟨b,12,none⟩ (.bool true)) w' f.z (w.setCell ⟨b,12,none⟩ (.bool true)).heap.size):=by
   have:=vL zv f.z _ (x7 hX2.z) hg hX2.readable
   rw[hzv] at this;exact this
  have HB1:Hid (Below b w (w.setCell ⟨b,12,none⟩ (.bool true))):=(Below.refl b w).setCell (p:=⟨b,12,none⟩) (Nat.le_refl b) (.bool true);have HQ:Hid (f.ov (ty k)=true):=q;have HQ2:Hid (ty k≠aJ):=q2;obtain ⟨ZL,hZL⟩:∃ ZL,ZL=f.z.length:=⟨_,rfl⟩;rw[<- hZL] at c10 HR;obtain ⟨w1,hw1⟩:∃ w1,w1=w.setCell ⟨b,12,none⟩ (.bool true):=⟨_,rfl⟩;have HW1:Hid (w.setCell ⟨b,12,none⟩ (.bool true)=w1):=hw1.symm;clear q q1 q2 hx hiv hzv hX2 hIe hov ha hf hK hg h hZL hw1;go_enter Tryz.func99,Tryz.ntmps99;go_wp2_with fail;refine (FL.out _).mono ?_;rintro r w' ⟨rfl,hw⟩;subst w';go_wp2_with fail;refine HR.out.mono ?_;rintro r w2 ⟨rfl,ov,out,dn,sm,ser,sat,sen,hrp⟩;have s3:=hrp.sc.c3;rw[show (w.setCell ⟨b,12,none⟩ (.bool true)).heap.size=w.heap.size by simp [World.setCell]] at s3;have hX3:=HX2.out.kept hrp.kept;have HX3:Hid (aq w2 b { f with over:=true } e a pv cv zv iv):=hX3;have hbs:b<=(w.setCell ⟨b,12,none⟩ (.bool true)).heap.size:=by simpa [World.setCell] using Nat.le_of_lt hlt
  have HB2:Hid (Below b w w2):=HB1.out.trans (hrp.kept.mono hbs);have HRD:Hid (yR f.z dn):=⟨out,sm,ser,sat,sen,hrp.st⟩;clear hX3 hrp c10 c11 c12 c13;cases dn
  ·have HE:Hid (f.begE (ty k) n false=21):=by
    show f.begE (ty k) n false=21
    unfold Fl.begE;rw[if_neg (by rw[xG k hk,HA.out];decide),if_neg (by rw[HF1.out];decide),if_pos (by rw[HQ.out];decide)]
   go_wp2;try go_ret
   refine ⟨false,{ f with over:=true },fun _=>HRD.out,?_,HX3.out,⟨true,f.first,rfl⟩,fun z => ?_,HB2.out⟩
   ·rw[HE.out];rfl
   ·rw[HE.out] at z;cases z
  ·have HPP:Hid (yV w w2 b f e a pv cv zv iv (ty k) n (.returned (.int .i64 ((({ f with over:=true }:Fl).begE (ty k) n true:Nat):Int)))):=by
    refine ⟨true,{ f with over:=true },fun _=>HRD.out,?_,HX3.out,⟨true,f.first,rfl⟩,fun _ => ?_,HB2.out⟩
    ·rw[FJ HQ2.out]
    ·rw[HBF.out,if_pos HQ.out]
   go_upto_if 58 with fail
   repeat (first | exact wp_mono (ui (fun r w'=>yV w w' b f e a pv cv zv iv (ty k) n r) b { f with over:=true } e a pv cv zv iv k n true w2 HX3.out hk hn HKK.out hD hPN hI HA.out HF1.out (by simp) HPP) (fun e a w hq=>hq) | go_step)
 ·have q0:f.ov (ty k)=false:=by cases hh:f.ov (ty k);rfl;exact absurd hh q
  have HQ:Hid (f.ov (ty k)=false):=q0;have HPP:Hid (yV w w b f e a pv cv zv iv (ty k) n (.returned (.int .i64 (f.begE (ty k) n true:Int)))) :=
   ⟨true,f,(fun z=>by rw[HQ.out] at z;cases z),rfl,HX.out,fo.refl f,(fun _=>by rw[HBF.out,if_neg (by rw[HQ.out];decide)]),Below.refl _ _⟩
  have key:(I=0)\/(0<I/\ty k=aJ)\/(0<I/\ty k≠aJ/\ovv=true):=by
   unfold Fl.ov at q0;rw[<- hIe,<- hov] at q0;by_cases i0:0<I
   ·by_cases i1:ty k=aJ
    ·exact Or.inr (Or.inl ⟨i0,i1⟩)
    ·right;right
     rw[decide_eq_true i0,decide_eq_true i1] at q0;refine ⟨i0,i1,?_⟩;cases ovv
     ·simp at q0
     ·rfl
   ·exact Or.inl (by omega)
  clear q q0 hx hiv hIe hov ha hf hK hg h;rcases key with i0 | ⟨i0,i1⟩ | ⟨i0,i1,i2⟩
  ·subst i0
   clear t4;go_enter Tryz.func99,Tryz.ntmps99;go_wp2_with fail;refine (FL.out _).mono ?_;rintro r w' ⟨rfl,hw⟩;subst w';go_upto_if 45 with fail
   repeat (first | exact wp_mono (ui (fun r w''=>yV w w'' b f e a pv cv zv iv (ty k) n r) b f e a pv cv zv iv k n true w HX.out hk hn HKK.out hD hPN hI HA.out HF1.out (by simp) HPP) (fun e a w hq=>hq) | go_step)
  ·rw[decide_eq_true i1] at t4
   have ii:(0:Int)<(I:Int):=by omega
   clear i1;go_enter Tryz.func99,Tryz.ntmps99;go_wp2_with fail;refine (FL.out _).mono ?_;rintro r w' ⟨rfl,hw⟩;subst w';go_upto_if 45 with fail
   repeat (first | exact wp_mono (ui (fun r w''=>yV w w'' b f e a pv cv zv iv (ty k) n r) b f e a pv cv zv iv k n true w HX.out hk hn HKK.out hD hPN hI HA.out HF1.out (by simp) HPP) (fun e a w hq=>hq) | go_step)
  ·rw[decide_eq_false i1] at t4
   have ii:(0:Int)<(I:Int):=by omega
   subst i2;clear i1;go_enter Tryz.func99,Tryz.ntmps99;go_wp2_with fail;refine (FL.out _).mono ?_;rintro r w' ⟨rfl,hw⟩;subst w';go_upto_if 45 with fail
   repeat (first | exact wp_mono (ui (fun r w''=>yV w w'' b f e a pv cv zv iv (ty k) n r) b f e a pv cv zv iv k n true w HX.out hk hn HKK.out hD hPN hI HA.out HF1.out (by simp) HPP) (fun e a w hq=>hq) | go_step)
theorem CM (b:Nat) (f:Fl) (e a i:Nat) (pv cv zv iv:Value) (k:ByteArray) (n:Nat) (w:World) (h:aq w b f e a pv cv zv iv) (hk:k.size=4) (hn:n<2147483648) (ho:FOk f) (hb:FBd i f) (hi:i<=1048576) :
  Calls Tryz.prog 99 #[.pointer (some ⟨b,0,none⟩),.string k,.int .i64 (n:Int)] w fun r w'=>yV w w' b f e a pv cv zv iv (ty k) n r:=by
 have hg:=hb.good hi;obtain ⟨dn,hdn⟩:=Lg h hg;by_cases ha:sF k=true
 ·cases hf:f.first
  ·refine (yL b f e a pv cv zv iv k n dn w h hk hf).mono ?_
   rintro r w' ⟨rfl,h1,h2⟩;have hbl:=h.lt;refine ⟨dn,_,fun _=>hdn,rfl,h1,?_,fun z => ?_,⟨h2.os,h2.tape,h2.output,h2.size,fun j hj=>h2.block j (by omega) (by omega)⟩⟩
   ·split
    ·exact ⟨f.over,true,rfl⟩
    ·exact fo.refl f
   ·rw[if_pos z];unfold Fl.begF;rw[if_pos hf]
  ·have hh:=(ho.on hf).2
   have hD16:f.hd.D<=16:=by have:=hh.D;unfold okD at this;omega
   exact Fz b f e a pv cv zv iv k n w h hk hn hh.K hD16 hb.pal (Nat.le_trans hb.ids hi) hg hf ha
 ·have ha':sF k=false:=by cases hh:sF k;rfl;exact absurd hh ha
  refine (KT b k n w hk ha').mono ?_;rintro r w' ⟨rfl,rfl⟩;have he:f.begE (ty k) n dn=3:=by unfold Fl.begE;rw[xG k hk,if_pos ha']
  exact ⟨dn,f,fun _=>hdn,by rw[he],h,fo.refl f,(fun z=>by rw[he] at z;cases z),Below.refl _ _⟩
theorem aq.setZ {W W2:World} {b:Nat} {f:Fl} {er at':Nat} {pv cv zv iv zv':Value} {x:One} (h:aq W b f er at' pv cv zv iv) (hF:Fr (fun g=>zv.ownBlock=some g) W W2) (ho:W2.ownsRow (b+1) 148 2 zv' (f.z.length+1) (gy f.z++[.int .i64 (x.1:Int),.int .i64 (x.2:Int)])) (hn:∀ g,zv'.ownBlock=some g->zv.ownBlock=some g\/W.heap.size<=g) :
  aq (W2.setCell ⟨b,10,none⟩ zv') b { f with z:=f.z++[x] } er at' pv cv zv' iv:=by
 have hb:=h.lt;have hnb:¬ zv.ownBlock=some b:=fun e=>by have:=(h.z.lt b e).1;omega
 have F:Fr1 b W2 (W2.setCell ⟨b,10,none⟩ zv'):=(Fr1.refl _ _).set _ _;obtain ⟨xs,hx⟩:=h.ids;have hx2:=aQ hx hF (fun g hg e=>h.dis g e hg);have c2:∀ j,W2.cell? ⟨b,j,none⟩=W.cell? ⟨b,j,none⟩:=fun j=>hF.cell hb hnb
 refine ⟨fun j hj => ?_,fun j=>(World.frozen?_setCell _ _ _ _).trans ((hF.frozen hb hnb).trans (h.fz j)),(h.pal.fr hF (fun g hg=>(h.pb g hg).2.1)).fr F (fun g hg e=>by have:=(h.pb g hg).1;omega),(h.clr.fr hF (fun g hg=>(h.cb g hg).2.1)).fr F (fun g hg e=>by have:=(h.cb g hg).1;omega),?_,⟨xs,aQ hx2 F (fun g hg e=>by have:=(hx.lt g hg).1;omega)⟩,fun g hg=>⟨(h.pb g hg).1,fun e => ?_,(h.pb g hg).2.2⟩,fun g hg=>⟨(h.cb g hg).1,fun e => ?_,(h.cb g hg).2.2⟩,fun g hg e => ?_,fun g hg => ?_,fun g hg => ?_⟩
 ·by_cases e:j=10
  ·subst e;exact aj ((c2 10).trans (h.cell 10 hj)) _
  ·rw[aa _ _ _ _ _ (fun q=>e q.symm),c2 j,h.cell j hj]
   congr 1
   revert e
   exact bO (P:=fun j=>j≠10->flV f er at' pv cv zv iv j=flV { f with z:=f.z++[x] } er at' pv cv zv' iv j) ⟨fun _=>rfl,fun _=>rfl,fun _=>rfl,fun _=>rfl,fun _=>rfl,fun _=>rfl,fun _=>rfl,fun _=>rfl,fun _=>rfl,fun _=>rfl,fun q=>absurd rfl q,fun _=>rfl,fun _=>rfl,fun _=>rfl,fun _=>rfl,fun _=>rfl,fun _=>rfl⟩ j hj
 ·show (W2.setCell ⟨b,10,none⟩ zv').ownsRow (b+1) _ 2 zv' (f.z++[x]).length (gy (f.z++[x]))
  rw[vP,List.length_append];exact aQ ho F (fun g hg e=>by have:=(ho.lt g hg).1;omega)
 ·rcases hn g e with q | q
  ·exact (h.pb g hg).2.1 q
  ·have:=h.plt g hg;omega
 ·rcases hn g e with q | q
  ·exact (h.cb g hg).2.1 q
  ·have:=h.clt g hg;omega
 ·rcases hn g hg with q | q
  ·exact h.dis g q e
  ·have:=(hx.lt g e).2;omega
 ·have:=h.plt g hg;have:=hF.size;simp [World.setCell];omega
 ·have:=h.clt g hg;have:=hF.size;simp [World.setCell];omega
theorem aq.setIds {W W2:World} {b:Nat} {f:Fl} {er at':Nat} {pv cv zv iv iv':Value} {xs':List Value} (h:aq W b f er at' pv cv zv iv) (hF:Fr (fun g=>iv.ownBlock=some g) W W2) (ho:W2.ownsRow (b+1) 3 1 iv' (f.ids+1) xs') (hn:∀ g,iv'.ownBlock=some g->iv.ownBlock=some g\/W.heap.size<=g) :
  aq (W2.setCell ⟨b,11,none⟩ iv') b { f with ids:=f.ids+1 } er at' pv cv zv iv':=by
 have hb:=h.lt;obtain ⟨xs,hx⟩:=h.ids;have hnb:¬ iv.ownBlock=some b:=fun e=>by have:=(hx.lt b e).1;omega
 have F:Fr1 b W2 (W2.setCell ⟨b,11,none⟩ iv'):=(Fr1.refl _ _).set _ _;have hz2:=aQ h.z hF (fun g hg e=>h.dis g hg e);have c2:∀ j,W2.cell? ⟨b,j,none⟩=W.cell? ⟨b,j,none⟩:=fun j=>hF.cell hb hnb
 refine ⟨fun j hj => ?_,fun j=>(World.frozen?_setCell _ _ _ _).trans ((hF.frozen hb hnb).trans (h.fz j)),(h.pal.fr hF (fun g hg=>(h.pb g hg).2.2)).fr F (fun g hg e=>by have:=(h.pb g hg).1;omega),(h.clr.fr hF (fun g hg=>(h.cb g hg).2.2)).fr F (fun g hg e=>by have:=(h.cb g hg).1;omega),aQ hz2 F (fun g hg e=>by have:=(h.z.lt g hg).1;omega),⟨xs',aQ ho F (fun g hg e=>by have:=(ho.lt g hg).1;omega)⟩,fun g hg=>⟨(h.pb g hg).1,(h.pb g hg).2.1,fun e => ?_⟩,fun g hg=>⟨(h.cb g hg).1,(h.cb g hg).2.1,fun e => ?_⟩,fun g hg e => ?_,fun g hg => ?_,fun g hg => ?_⟩
 ·by_cases e:j=11
  ·subst e;exact aj ((c2 11).trans (h.cell 11 hj)) _
  ·rw[aa _ _ _ _ _ (fun q=>e q.symm),c2 j,h.cell j hj]
   congr 1
   revert e
   exact bO (P:=fun j=>j≠11->flV f er at' pv cv zv iv j=flV { f with ids:=f.ids+1 } er at' pv cv zv iv' j) ⟨fun _=>rfl,fun _=>rfl,fun _=>rfl,fun _=>rfl,fun _=>rfl,fun _=>rfl,fun _=>rfl,fun _=>rfl,fun _=>rfl,fun _=>rfl,fun _=>rfl,fun q=>absurd rfl q,fun _=>rfl,fun _=>rfl,fun _=>rfl,fun _=>rfl,fun _=>rfl⟩ j hj
 ·rcases hn g e with q | q
  ·exact (h.pb g hg).2.2 q
  ·have:=h.plt g hg;omega
 ·rcases hn g e with q | q
  ·exact (h.cb g hg).2.2 q
  ·have:=h.clt g hg;omega
 ·rcases hn g e with q | q
  ·exact h.dis g hg q
  ·have:=(h.z.lt g hg).2;omega
 ·have:=h.plt g hg;have:=hF.size;simp [World.setCell];omega
 ·have:=h.clt g hg;have:=hF.size;simp [World.setCell];omega
theorem MR {w:World} {ops:Array Oper} {o:Oper} {a:Act} {K:Act->World->Prop} {Q:Exit->Act->World->Prop} {E:Prop} (hgd:o.guard=none) (s x:Operand)
  (hop:o.op=Op.call { callee:=Callee.builtin Builtin.append,args:=#[s,x],argTypes:=#[85,85] })
  (N:Nat) (v:Value) (n:Nat) (xs:List Value) (hs:a.eval s=v) (hown:w.ownsRow N 148 2 v n xs)
  (g c:Nat) (news:List Value) (hx:a.eval x = .slice (some ⟨g,0,none⟩) 1 c) (hn:news.length=2) (hc:∀ j u,news[j]? = some u->w.cell? ⟨g,j,none⟩=some u) (h1:∀ u ∈ news,u.oneCell'=true) (hb:n+1<=100000000) (hbase:N<=w.heap.size)
  (hK:∀ g' cap w',w'.ownsRow N 148 2 (.slice (some ⟨g',0,none⟩) (n+1) cap) (n+1) (xs++news)->Fr (fun k=>v.ownBlock=some k) w w'->(v.ownBlock=some g'\/w.heap.size<=g')->K (a.put o.dst (.slice (some ⟨g',0,none⟩) (n+1) cap)) w') :
  if Region.wanted o (yielded ops a.tmps)=true then Oper.wp Tryz.prog o a w K Q else E:=by
 obtain ⟨i0,hi,hz0,hz1,hz2⟩:=info_parts Dw;refine step_append_lies w hgd s x 85 hop N 148 i0 (.agg #[.int .i64 0,.int .i64 0]) 2 16 Tryz.underlying85 hi hz0 hz1 hz2 rfl (by omega) v n xs hs hown ⟨g,0,none⟩ 1 c news hx (by rw[hn]) ?_ h1 (by omega) (by unfold maxLen;omega) (by omega) hbase w.heap.size rfl ?_
 ·intro j u hj
  have e:(⟨g,0,none⟩:Addr).add j=⟨g,j,none⟩:=by unfold Addr.add;split<;>simp_all
  rw[e];exact hc j u hj
 ·intro g' cap w' h1 h2 h3 h4
  exact hK g' cap w' h1 ⟨h2.os,h2.tape,h2.output,h2.size,fun k hk hn=>h2.block k hk (fun e=>hn e.symm)⟩ (h3.imp id (fun e=>by omega))
noncomputable def NY:Code:=(Tryz.f58.body.bind (fD 0)).getD .skip
theorem Mt {K:Act->World->Prop} {P:Ending->World->Prop} {u2 u3 u4 u5 u6 u7 u8 u9 rS vh uv se u16 si rR oY oX oW oV oU oT oS oR oQ oP oO oN oM u32 oL oK oJ oI oH oG oF oE oD oC oB oA oz oy ox ow ou ot oq oo om oj oi oh og oe od ob oa nZ nY u64 pS pR qn qm ql qk qj qi qh qg qf qe qd qc qb qa qt qq qp rE rD rC rB rA rz ry ru rq rp rm rk rj rh ra qZ fc ey ew ev eu ej eh ed dZ dY dX dW dV dU dT dS dR dQ dP dO dN dM dL dK dJ dI dH dG dF dE dD dC dB dA dz dy dx dw du dt fq fp:Value} (b i HV:Nat) (t:ByteArray) (f:Fl) (pv cv zv iv:Value) (w:World) (h:Hid (aq w b f 0 0 pv cv zv iv)) (hHV:HV<=t.size) (hi:i<=HV) (hs:t.size<=1048576) (hzl:f.z.length<=1048576)
  (hQ:Hid (∀ vf Lf Le Ld zG zF zE zD zC zy zx zw zu zt zq zo zm zk zj zi qx W' zv',aq W' b { f with z:=f.z++plc (seg t i (HV - i)) i } 0 0 pv cv zv' iv->Below b w W'->K ⟨#[.pointer (some ⟨b,0,none⟩),.string t,u2,u3,u4,u5,u6,u7,u8,u9,rS,vh,.int .i64 (HV:Int),vf,uv,se,u16,si,rR,oY,oX,oW,oV,oU,oT,oS,oR,oQ,oP,oO,oN,oM,u32,oL,oK,oJ,oI,oH,oG,oF,oE,oD,oC,oB,oA,oz,oy,ox,ow,ou,ot,oq,oo,om,oj,oi,oh,og,oe,od,ob,oa,nZ,nY,u64,pS,pR,qn,qm,ql,qk,qj,qi,qh,qg,qf,qe,qd,qc,qb,qa,Lf,Le,Ld,zG,zF,zE,zD,zC,zy,zx,zw,zu,zt,zq,zo,zm,zk,zj,zi,qx,ey,ew,ev,eu,ej,eh,ed,dZ,dY,dX,dW,dV,dU,dT,dS,dR,dQ,dP,dO,dN,dM,dL,dK,dJ,dI,dH,dG,dF,dE,dD,dC,dB,dA,dz,dy,dx,dw,du,dt,fq,fp],[]⟩ W')) :
  Code.wp Tryz.prog NY (Exit.then K (bodyPost Tryz.prog Tryz.f58 P)) ⟨#[.pointer (some ⟨b,0,none⟩),.string t,u2,u3,u4,u5,u6,u7,u8,u9,rS,vh,.int .i64 (HV:Int),.int .i64 (i:Int),uv,se,u16,si,rR,oY,oX,oW,oV,oU,oT,oS,oR,oQ,oP,oO,oN,oM,u32,oL,oK,oJ,oI,oH,oG,oF,oE,oD,oC,oB,oA,oz,oy,ox,ow,ou,ot,oq,oo,om,oj,oi,oh,og,oe,od,ob,oa,nZ,nY,u64,pS,pR,qn,qm,ql,qk,qj,qi,qh,qg,qf,qe,qd,qc,qb,qa,qt,qq,qp,rE,rD,rC,rB,rA,rz,ry,ru,rq,rp,rm,rk,rj,rh,ra,qZ,fc,ey,ew,ev,eu,ej,eh,ed,dZ,dY,dX,dW,dV,dU,dT,dS,dR,dQ,dP,dO,dN,dM,dL,dK,dJ,dI,dH,dG,dF,dE,dD,dC,dB,dA,dz,dy,dx,dw,du,dt,fq,fp],[]⟩ w:=by
 conv=>arg 2;whnf
 have hblt:=h.out.lt;go_wp2_with fail;go_loopg [13] (HV - i) (fun m vf W=>∃ (k:Nat) (zv':Value),i<=k/\k<=HV/\vf = .int .i64 (k:Int)/\m=HV - k/\aq W b { f with z:=f.z++plc (seg t i (k - i)) i } 0 0 pv cv zv' iv/\Below b w W)
 case atStart=>exact ⟨i,zv,Nat.le_refl _,hi,rfl,rfl,by rw[Nat.sub_self,show plc (seg t i 0) i=[] from rfl,List.append_nil];exact h.out,Below.refl _ _⟩
 case round=>
  obtain ⟨k,zv',k1,k2,rfl,hm,hX,hB⟩:=hrel;have HM:Hid _:=hm;have HX:Hid _:=hX;have HB:Hid _:=hB;clear hm hB;by_cases c:k<HV
  ·have hci:(k:Int)<(HV:Int):=by omega
   have hkt:k<t.size:=by omega
   have hkti:(k:Int)<(t.size:Int):=by omega
   have hk0:(0:Int)<=(k:Int):=by omega
   obtain ⟨zp,zc,hzv⟩:=ao hX.z;have hzn:(f.z++plc (seg t i (k - i)) i).length<=2097152:=by
    rw[List.length_append,tW,seg_length t i (k - i) (by omega)];omega
   obtain ⟨ZL,hZL⟩:∃ ZL,ZL=(f.z++plc (seg t i (k - i)) i).length:=⟨_,rfl⟩;have c10:wr.cell? ⟨b,10,none⟩=some (.slice zp ZL zc):=by rw[hZL,<- hzv];exact hX.cell 10 (by omega)
   have hOW:=hX.z;have hbl:b<wr.heap.size:=hX.lt;have hnb:¬ zv'.ownBlock=some b:=fun e=>by have:=(hX.z.lt b e).1;omega
   have hfz:=hX.fz;have HSN:Hid (plc (seg t i (k+1 - i)) i=plc (seg t i (k - i)) i++[(t[k].toNat,k)]):=by
    show plc (seg t i (k+1 - i)) i=_
    rw[show k+1 - i=(k - i)+1 by omega,kN t i (k - i) (by omega),Ae,seg_length t i (k - i) (by omega)];simp only [show i+(k - i)=k by omega]
   obtain ⟨X,hXX⟩:∃ X,X=t[k].toNat:=⟨_,rfl⟩;have hX256:X<256:=by rw[hXX];exact t[k].toNat_lt
   rw[<- hXX] at HSN;have wv:IntKind.i64.wrap (X:Int)=(X:Int):=by rw[IntKind.wrap_i64];omega
   have wk:IntKind.i64.wrap (k:Int)=(k:Int):=by rw[IntKind.wrap_i64];omega
   have hXi:(t[k].toNat:Int)=(X:Int):=by rw[hXX]
   have hZ1:ZL+1<=100000000:=by omega
   have HOW:Hid (wr.ownsRow (b+1) 148 2 (.slice zp ZL zc) ZL (gy (f.z++plc (seg t i (k - i)) i))):=by rw[hZL,<- hzv];exact hOW
   have HZV:Hid (zv' = .slice zp ZL zc):=by rw[hZL];exact hzv
   rw[hzv,<- hZL] at hnb;have HZL:Hid _:=hZL;have HC:Hid (∀ (E:TypeId) (j:Nat) (u:Value),[Value.int .i64 (X:Int),.int .i64 (k:Int)][j]? = some u->(wr.alloc (Obj.cells #[Value.int .i64 (X:Int),.int .i64 (k:Int)] E)).cell? ⟨wr.heap.size,j,none⟩=some u):=fun E j u hj=>by rw[World.cell?_alloc_at _ _ _ _ rfl];simpa using hj
   have HO1:Hid (∀ u ∈ [Value.int .i64 (X:Int),.int .i64 (k:Int)],u.oneCell'=true):=by
    intro u hu;simp only [List.mem_cons,List.not_mem_nil,or_false] at hu;rcases hu with rfl | rfl<;>rfl
   obtain ⟨XS,hXS⟩:∃ XS,XS=gy (f.z++plc (seg t i (k - i)) i):=⟨_,rfl⟩;rw[<- hXS] at HOW;have HXS:Hid (XS=gy (f.z++plc (seg t i (k - i)) i)):=hXS;clear hXS;clear hzv hZL hOW hX hXX hzn;go_upto_region 21 with fail
   go_region_law ((refine MR (by rfl) _ _ (by rfl) (b+1) (.slice zp ZL zc) ZL XS (by rfl) (by exact cC HOW.out (Kept.drewN ((Below.refl _ _).alloc (Nat.le_refl _) _) 1)) wr.heap.size 1 [Value.int .i64 (X:Int),.int .i64 (k:Int)] (by rfl) rfl (by intro j u hj;exact HC.out _ j u hj) HO1.out hZ1 (by simp;omega) ?_;intro g' cap w20 ho2 hf2 hn2;have fk:Fr (fun k=>(Value.slice zp ZL zc).ownBlock=some k) wr w20:=(((Fr.refl _ wr).alloc _).drewN 1).trans hf2;have k10:=(fk.cell (k:=10) hbl hnb).trans c10;have g10:=(fk.frozen (k:=10) hbl hnb).trans (hfz 10)))
   all_goals
    have hnew:∀ g,(Value.slice (some ⟨g',0,none⟩) (ZL+1) cap).ownBlock=some g->zv'.ownBlock=some g\/wr.heap.size<=g:=fun g hg=>by
     have e:g'=g:=by injection hg
     subst e;rw[HZV.out];rcases hn2 with q | q
     ·exact Or.inl q
     ·exact Or.inr (by simp at q;omega)
    rw[<- HZV.out] at fk;rw[HZL.out] at ho2 hnew;rw[HXS.out] at ho2;have hFX:=HX.out.setZ (x:=(X,k)) fk ho2 hnew;have hBL:Below b w (w20.setCell ⟨b,10,none⟩ (.slice (some ⟨g',0,none⟩) (ZL+1) cap)):=by
     have h1:Below b wr w20:=⟨fk.os,fk.tape,fk.output,fk.size,fun j hj=>fk.block j (by omega) (fun e=>by have:=(HX.out.z.lt j e).1;omega)⟩;exact (HB.out.trans h1).setCell (p:=⟨b,10,none⟩) (Nat.le_refl b) _
    rw[<- HZL.out] at hFX;have HFX:Hid _:=hFX;have HBL:Hid _:=hBL;clear hnew fk ho2 hn2 hf2 hFX hBL k10 g10;go_wp2_with fail;go_roundg (HV - (k+1))
    case measure=>have:=HM.out;omega
    refine ⟨k+1,.slice (some ⟨g',0,none⟩) (ZL+1) cap,by omega,by omega,by go_num,rfl,?_,HBL.out⟩;have q:=HFX.out;rw[HSN.out,<- List.append_assoc];exact q
  ·have e:k=HV:=by omega
   subst e;have hci:¬ (k:Int)<(k:Int):=by omega
   go_wp2_with fail;exact hQ.out _ _ _ _ _ _ _ _ _ _ _ _ _ _ _ _ _ _ _ _ _ _ _ HX.out HB.out
noncomputable def NH:Code:=(Tryz.f42.body.bind (fD 1)).getD .skip
theorem Nn {Q:Exit->Act->World->Prop} {u2 u3 u4 u5 u8 vh tP ux uv se u16 si rR oY oX oW oV oU oT oS oR oQ oP oO oN oM u32 oL oK oJ oI oH oG oF oE oD oC oB oA oz oy ox ow ou ot oq oo om oj oi oh og oe od ob oa nZ nY u64 pS pR qn qm ql qk qj qi qh qg qf qe qd qc qb qa qt qq qp rE rD rC rB rA rz ry ru rq rp rm rk rj rh ra qZ fc ey ew ev eu ej eh ed dZ dY dX dW dV dU dT dS dR dQ dP dO dN dM dL dK dJ dI dH dG dF dE dD dC dB dA dz dy dx dw du dt fq fp gm iu ir ik ij ig ie ib gZ gY gX gW gV gU gT gS gR gQ gP gO gN gM gK gJ gI gH gG gF gE gB gA kL kK kJ kI kG kF kE kD kC kB ky kv ku kj kf ke j9 j8 j7 j6 j5 j4 jZ jY jX jW jV jU jT jS jR jQ jP jO jN jM jL jK jJ jI jH jG jF jE jD jC jB gj gi gh gg gf gd ga fZ fY fX tO tN tM tL tK tJ tI tH tG tF nT nR nQ nP nO nM nL nJ nI nH nG nF nE nD nB nA nz ny nv nu nt nr np nk nj ni nh ng nc na m9 m8 m7 mZ mY mX mW mV mU mT mS mR mQ mP mO mN mM mL mK mJ mI mH:Value} (fb sb mb gz gr co cr palN ST k prev:Nat) (h:Hd) (out:List One) (rows pre rs:List (Nat × Nat)) (p n:Nat) (lv fv:Value) (ls:List Ln) (up:Nat->Nat) (w3 w:World)
  (HE:Hid (OfE w3 fb sb mb gz gr co cr palN ST h out rows)) (HL:Hid (OfL h (palN / 3) out rows w3 w mb k lv fv ls pre ((p,n)::rs) prev up)) (hlt:Hid (aH h pre<out.length))
  (hQn:Hid (∀ v4 zH xE vf vw va vv uu uP zG zF zE zD zC zy zx zw zu zt zq zo zm zk zj zi qx tE tD tC tB tA tz tx tu tt ts tr tq tp tn tm tj th tg tf tc s9 s8 sZ sY sX sW sV sU sT sS sR sQ sP sO sM sL sK sJ sI pG pF pE mu mr mq mo mn mm ml mj mi mh mg lZ lY lX lW lV lU lT lS lR lQ lP lO lN lM lL lK lJ lI lH jA jz jy jx jw jv ju jt js jr jq jo jn jm jl jk jj ji jh jg jf je jd jc jb ja iZ iY iX iW iV iU iT iS iR iQ iP iO iN iM iL iK iJ iI iH iG iF pD pC pB pA pz pq pn pj pg pe pd o9 o8 o7 o6 o5 o4 o3 o0 oZ W' lv' fv' ls' prev' up',OfL h (palN / 3) out rows w3 W' mb (k+1) lv' fv' ls' (pre++[(p,n)]) rs prev' up'->Q .normal ⟨#[.pointer (some ⟨fb,0,none⟩),.pointer (some ⟨sb,0,none⟩),u2,u3,v4,u5,.pointer (some ⟨mb,0,none⟩),.slice (some ⟨gr,0,none⟩) rows.length cr,u8,.int .i64 (ST:Int),.int .i64 (k:Int),zH,xE,vf,vw,va,vv,uu,uP,oY,oX,oW,oV,oU,oT,oS,oR,oQ,oP,oO,oN,oM,u32,oL,oK,oJ,oI,oH,oG,oF,oE,oD,oC,oB,oA,oz,oy,ox,ow,ou,ot,oq,oo,om,oj,oi,oh,og,oe,od,ob,oa,nZ,nY,u64,pS,pR,qn,qm,ql,qk,qj,qi,qh,qg,qf,qe,qd,qc,qb,qa,qt,qq,qp,zG,zF,zE,zD,zC,zy,zx,zw,zu,zt,zq,zo,zm,zk,zj,zi,qx,tE,tD,tC,tB,tA,tz,tx,tu,tt,ts,tr,tq,tp,tn,tm,tj,th,tg,tf,tc,s9,s8,sZ,sY,sX,sW,sV,sU,sT,sS,sR,sQ,sP,sO,sM,sL,sK,sJ,sI,pG,pF,pE,mu,mr,mq,mo,mn,mm,ml,mj,mi,mh,mg,lZ,lY,lX,lW,lV,lU,lT,lS,lR,lQ,lP,lO,lN,lM,lL,lK,lJ,lI,lH,jA,jz,jy,jx,jw,jv,ju,jt,js,jr,jq,jo,jn,jm,jl,jk,jj,ji,jh,jg,jf,je,jd,jc,jb,ja,iZ,iY,iX,iW,iV,iU,iT,iS,iR,iQ,iP,iO,iN,iM,iL,iK,iJ,iI,iH,iG,iF,pD,pC,pB,pA,pz,pq,pn,pj,pg,pe,pd,o9,o8,o7,o6,o5,o4,o3,o0,oZ,nT,nR,nQ,nP,nO,nM,nL,nJ,nI,nH,nG,nF,nE,nD,nB,nA,nz,ny,nv,nu,nt,nr,np,nk,nj,ni,nh,ng,nc,na,m9,m8,m7,mZ,mY,mX,mW,mV,mU,mT,mS,mR,mQ,mP,mO,mN,mM,mL,mK,mJ,mI,mH],[]⟩ W'))
  (hQb:Hid (∀ v4 zH xE vf vw va vv uu uP zG zF zE zD zC zy zx zw zu zt zq zo zm zk zj zi qx tE tD tC tB tA tz tx tu tt ts tr tq tp tn tm tj th tg tf tc s9 s8 sZ sY sX sW sV sU sT sS sR sQ sP sO sM sL sK sJ sI pG pF pE mu mr mq mo mn mm ml mj mi mh mg lZ lY lX lW lV lU lT lS lR lQ lP lO lN lM lL lK lJ lI lH jA jz jy jx jw jv ju jt js jr jq jo jn jm jl jk jj ji jh jg jf je jd jc jb ja iZ iY iX iW iV iU iT iS iR iQ iP iO iN iM iL iK iJ iI iH iG iF pD pC pB pA pz pq pn pj pg pe pd o9 o8 o7 o6 o5 o4 o3 o0 oZ W' im,OfZ h (palN / 3) out rows w3 W' mb ls im->Q (.exit 0) ⟨#[.pointer (some ⟨fb,0,none⟩),.pointer (some ⟨sb,0,none⟩),u2,u3,v4,u5,.pointer (some ⟨mb,0,none⟩),.slice (some ⟨gr,0,none⟩) rows.length cr,u8,.int .i64 (ST:Int),.int .i64 (k:Int),zH,xE,vf,vw,va,vv,uu,uP,oY,oX,oW,oV,oU,oT,oS,oR,oQ,oP,oO,oN,oM,u32,oL,oK,oJ,oI,oH,oG,oF,oE,oD,oC,oB,oA,oz,oy,ox,ow,ou,ot,oq,oo,om,oj,oi,oh,og,oe,od,ob,oa,nZ,nY,u64,pS,pR,qn,qm,ql,qk,qj,qi,qh,qg,qf,qe,qd,qc,qb,qa,qt,qq,qp,zG,zF,zE,zD,zC,zy,zx,zw,zu,zt,zq,zo,zm,zk,zj,zi,qx,tE,tD,tC,tB,tA,tz,tx,tu,tt,ts,tr,tq,tp,tn,tm,tj,th,tg,tf,tc,s9,s8,sZ,sY,sX,sW,sV,sU,sT,sS,sR,sQ,sP,sO,sM,sL,sK,sJ,sI,pG,pF,pE,mu,mr,mq,mo,mn,mm,ml,mj,mi,mh,mg,lZ,lY,lX,lW,lV,lU,lT,lS,lR,lQ,lP,lO,lN,lM,lL,lK,lJ,lI,lH,jA,jz,jy,jx,jw,jv,ju,jt,js,jr,jq,jo,jn,jm,jl,jk,jj,ji,jh,jg,jf,je,jd,jc,jb,ja,iZ,iY,iX,iW,iV,iU,iT,iS,iR,iQ,iP,iO,iN,iM,iL,iK,iJ,iI,iH,iG,iF,pD,pC,pB,pA,pz,pq,pn,pj,pg,pe,pd,o9,o8,o7,o6,o5,o4,o3,o0,oZ,nT,nR,nQ,nP,nO,nM,nL,nJ,nI,nH,nG,nF,nE,nD,nB,nA,nz,ny,nv,nu,nt,nr,np,nk,nj,ni,nh,ng,nc,na,m9,m8,m7,mZ,mY,mX,mW,mV,mU,mT,mS,mR,mQ,mP,mO,mN,mM,mL,mK,mJ,mI,mH],[]⟩ W'))
  (hQr:Hid (∀ zH xE vf vw va vv uu uP zG zF zE zD zC zy zx zw zu zt zq zo zm zk zj zi qx tE tD tC tB tA tz tx tu tt ts tr tq tp tn tm tj th tg tf tc s9 s8 sZ sY sX sW sV sU sT sS sR sQ sP sO sM sL sK sJ sI pG pF pE mu mr mq mo mn mm ml mj mi mh mg lZ lY lX lW lV lU lT lS lR lQ lP lO lN lM lL lK lJ lI lH jA jz jy jx jw jv ju jt js jr jq jo jn jm jl jk jj ji jh jg jf je jd jc jb ja iZ iY iX iW iV iU iT iS iR iQ iP iO iN iM iL iK iJ iI iH iG iF pD pC pB pA pz pq pn pj pg pe pd o9 o8 o7 o6 o5 o4 o3 o0 oZ W',OfR h (palN / 3) out rows w3 W' mb->Q .ret ⟨#[.pointer (some ⟨fb,0,none⟩),.pointer (some ⟨sb,0,none⟩),u2,u3,.pointer (some ⟨mb,0,none⟩),u5,.pointer (some ⟨mb,0,none⟩),.slice (some ⟨gr,0,none⟩) rows.length cr,u8,.int .i64 (ST:Int),.int .i64 (k:Int),zH,xE,vf,vw,va,vv,uu,uP,oY,oX,oW,oV,oU,oT,oS,oR,oQ,oP,oO,oN,oM,u32,oL,oK,oJ,oI,oH,oG,oF,oE,oD,oC,oB,oA,oz,oy,ox,ow,ou,ot,oq,oo,om,oj,oi,oh,og,oe,od,ob,oa,nZ,nY,u64,pS,pR,qn,qm,ql,qk,qj,qi,qh,qg,qf,qe,qd,qc,qb,qa,qt,qq,qp,zG,zF,zE,zD,zC,zy,zx,zw,zu,zt,zq,zo,zm,zk,zj,zi,qx,tE,tD,tC,tB,tA,tz,tx,tu,tt,ts,tr,tq,tp,tn,tm,tj,th,tg,tf,tc,s9,s8,sZ,sY,sX,sW,sV,sU,sT,sS,sR,sQ,sP,sO,sM,sL,sK,sJ,sI,pG,pF,pE,mu,mr,mq,mo,mn,mm,ml,mj,mi,mh,mg,lZ,lY,lX,lW,lV,lU,lT,lS,lR,lQ,lP,lO,lN,lM,lL,lK,lJ,lI,lH,jA,jz,jy,jx,jw,jv,ju,jt,js,jr,jq,jo,jn,jm,jl,jk,jj,ji,jh,jg,jf,je,jd,jc,jb,ja,iZ,iY,iX,iW,iV,iU,iT,iS,iR,iQ,iP,iO,iN,iM,iL,iK,iJ,iI,iH,iG,iF,pD,pC,pB,pA,pz,pq,pn,pj,pg,pe,pd,o9,o8,o7,o6,o5,o4,o3,o0,oZ,nT,nR,nQ,nP,nO,nM,nL,nJ,nI,nH,nG,nF,nE,nD,nB,nA,nz,ny,nv,nu,nt,nr,np,nk,nj,ni,nh,ng,nc,na,m9,m8,m7,mZ,mY,mX,mW,mV,mU,mT,mS,mR,mQ,mP,mO,mN,mM,mL,mK,mJ,mI,mH],[]⟩ W')) :
  Code.wp Tryz.prog NH Q ⟨#[.pointer (some ⟨fb,0,none⟩),.pointer (some ⟨sb,0,none⟩),u2,u3,u4,u5,.pointer (some ⟨mb,0,none⟩),.slice (some ⟨gr,0,none⟩) rows.length cr,u8,.int .i64 (ST:Int),.int .i64 (k:Int),vh,tP,ux,uv,se,u16,si,rR,oY,oX,oW,oV,oU,oT,oS,oR,oQ,oP,oO,oN,oM,u32,oL,oK,oJ,oI,oH,oG,oF,oE,oD,oC,oB,oA,oz,oy,ox,ow,ou,ot,oq,oo,om,oj,oi,oh,og,oe,od,ob,oa,nZ,nY,u64,pS,pR,qn,qm,ql,qk,qj,qi,qh,qg,qf,qe,qd,qc,qb,qa,qt,qq,qp,rE,rD,rC,rB,rA,rz,ry,ru,rq,rp,rm,rk,rj,rh,ra,qZ,fc,ey,ew,ev,eu,ej,eh,ed,dZ,dY,dX,dW,dV,dU,dT,dS,dR,dQ,dP,dO,dN,dM,dL,dK,dJ,dI,dH,dG,dF,dE,dD,dC,dB,dA,dz,dy,dx,dw,du,dt,fq,fp,gm,iu,ir,ik,ij,ig,ie,ib,gZ,gY,gX,gW,gV,gU,gT,gS,gR,gQ,gP,gO,gN,gM,gK,gJ,gI,gH,gG,gF,gE,gB,gA,kL,kK,kJ,kI,kG,kF,kE,kD,kC,kB,ky,kv,ku,kj,kf,ke,j9,j8,j7,j6,j5,j4,jZ,jY,jX,jW,jV,jU,jT,jS,jR,jQ,jP,jO,jN,jM,jL,jK,jJ,jI,jH,jG,jF,jE,jD,jC,jB,gj,gi,gh,gg,gf,gd,ga,fZ,fY,fX,tO,tN,tM,tL,tK,tJ,tI,tH,tG,tF,nT,nR,nQ,nP,nO,nM,nL,nJ,nI,nH,nG,nF,nE,nD,nB,nA,nz,ny,nv,nu,nt,nr,np,nk,nj,ni,nh,ng,nc,na,m9,m8,m7,mZ,mY,mX,mW,mV,mU,mT,mS,mR,mQ,mP,mO,mN,mM,mL,mK,mJ,mI,mH],[]⟩ w:=by
 conv=>arg 2;whnf
 have hF:=HL.out.img.fr;obtain ⟨hnx,hpL,hcol,hlin,hprev⟩:=vG HL.out.pos;have hkl:=HL.out.len;have hsl:rows.length=k+(rs.length+1):=by rw[HL.out.split,List.length_append,hkl];rfl
 have hOW:=aQ HE.out.rw hF (fun g hg e=>by have:=(HE.out.rw.lt g hg).1;omega);have hrk:rows[k]? = some (p,n):=by rw[HL.out.split,List.getElem?_append_right (by omega),hkl,Nat.sub_self];rfl
 have htk:rows.take k=pre:=by rw[HL.out.split,<- hkl];simp
 have hrc:=vI h rows 0 k p n hrk;rw[Nat.zero_add,htk] at hrc;have hrx:∀ j u,(kO h rows 0)[k*5+j]? = some u->w.cell? ⟨gr,k*5+j,none⟩=some u:=fun j u hu=>by
  have:=hOW.cells rfl (k*5+j) u hu
  have e:(Addr.add ⟨gr,0,none⟩ (k*5+j))=⟨gr,k*5+j,none⟩:=by simp [Addr.add];omega
  rw[e] at this;exact this
 have r0:=hrx 0 _ hrc.1;rw[Nat.add_zero] at r0;have r1:=hrx 1 _ hrc.2.1;have r2:=hrx 2 _ hrc.2.2.1;have r3:=hrx 3 _ hrc.2.2.2.1;have r4:=hrx 4 _ hrc.2.2.2.2;have htot:=HE.out.tot;have hsp:aH h rows=aH h pre+(1+aL h p+aH h rs):=by rw[HL.out.split,pH,aH]
 obtain ⟨FR,hFR⟩:∃ FR,FR=aH h pre:=⟨_,rfl⟩;obtain ⟨SZ,hSZ⟩:∃ SZ,SZ=aL h p:=⟨_,rfl⟩;obtain ⟨CL,hCL⟩:∃ CL,CL=bX h p:=⟨_,rfl⟩;have hcl16:CL<=16:=by rw[hCL];exact fM (ff _ _).2.1 HE.out.W
 rw[<- hFR] at r2 hsp;rw[<- hCL] at r3;rw[<- hSZ] at r4 hsp;have hlt':=hlt.out;rw[<- hFR] at hlt';have b1:SZ<=40000:=by omega
 have b1':SZ<=1000:=by
  have hD16:h.D<=16:=by have:=HE.out.D;unfold okD at this;omega
  have h1:bX h p*bG h<=16*64:=Nat.mul_le_mul (by rw[<- hCL];exact hcl16) (Nat.mul_le_mul (nV _) hD16);rw[hSZ];unfold aL;omega
 have b2:FR<=40000:=by omega
 have hn16:n<=16:=by
  have:fF h p<=16:=fM (ff _ _).2.2.2.2.2.1 HE.out.H
  omega
 have hk1:(k:Int)<(rows.length:Int):=by omega
 have hk2:(0:Int)<=(k:Int):=by omega
 have HFR:Hid (FR=aH h pre):=hFR;have HSZ:Hid (SZ=aL h p):=hSZ;have HCL:Hid (CL=bX h p):=hCL;have s0:w.cell? ⟨sb,0,none⟩=some (.slice (some ⟨gz,0,none⟩) out.length co):=(hF.cell (World.block_lt_of_cell? _ _ HE.out.s0) HE.out.n2).trans HE.out.s0;have HZ:=HE.out.z.fr hF (fun g hg e=>by injection hg with hg;simp at hg;have:=HE.out.n3;omega);obtain ⟨g,hg,z0,z1⟩:=HZ.cells _ _ rfl FR (by omega)
 injection hg with hg
 injection hg with hg
 subst hg;obtain ⟨t,ht⟩:∃ t,t=vAt out FR:=⟨_,rfl⟩;obtain ⟨A,hA⟩:∃ A,A=pAt out FR:=⟨_,rfl⟩;rw[<- ht] at z0;rw[<- hA] at z1;have HT:Hid _:=ht;have HA:Hid _:=hA;have HS:Hid (rows.length=k+(rs.length+1)):=hsl;have HTS:Hid (aH h rows=FR+(1+SZ+aH h rs)):=hsp;have ol:=HE.out.ol;have hFRl:(FR:Int)<(out.length:Int):=by omega
 have hFRn:(0:Int)<=(FR:Int):=by omega
 have hcolc:0<bX h p:=hcol;have hprevc:=hprev;rw[hCL.symm] at hcolc;clear hrx hrc hOW htk hrk hFR hSZ hCL hsl ht hA htot hsp HZ hnx hprev hlin hcol hpL hkl hF hlt';have hrl:=HE.out.rl;generalize rows.length=RL at *;have hbits:1<=SZ:=by
  have h1:=HE.out.bits;have h2:1<=CL*bG h:=Nat.mul_le_mul (show 1<=CL by omega) h1;have h3:=HSZ.out;unfold aL at h3;rw[<- HCL.out] at h3;omega
 clear hcolc;have C0:Hid (∀ W,W=w.alloc (.cells #[.int .i64 (p:Int),.int .i64 (n:Int),.int .i64 (FR:Int),.int .i64 (CL:Int),.int .i64 (SZ:Int)] 146)->Kept w W/\W.cell? ⟨w.heap.size,1,none⟩=some (.int .i64 (n:Int))/\W.cell? ⟨w.heap.size,2,none⟩=some (.int .i64 (FR:Int))/\W.cell? ⟨w.heap.size,3,none⟩=some (.int .i64 (CL:Int))/\W.cell? ⟨w.heap.size,4,none⟩=some (.int .i64 (SZ:Int))):=fun W e=>by
  rw[e];refine ⟨Below.alloc (Below.refl _ _) (Nat.le_refl _) _,?_,?_,?_,?_⟩<;>exact (World.cell?_alloc_at _ _ _ _ rfl).trans rfl
 go_upto_region 10 with fail
 generalize hw0:w.alloc (.cells #[.int .i64 (p:Int),.int .i64 (n:Int),.int .i64 (FR:Int),.int .i64 (CL:Int),.int .i64 (SZ:Int)] 146)=w0 at *;obtain ⟨hk0,y1,y2,y3,y4⟩:=C0.out w0 rfl;have K0:Hid (Kept w w0):=hk0;obtain ⟨rb,hrb⟩:∃ rb,rb=w.heap.size:=⟨_,rfl⟩;rw[<- hrb] at y1 y2 y3 y4 ⊢;have HRB:Hid (rb=w.heap.size):=hrb;have hrb0:rb<w0.heap.size:=World.block_lt_of_cell? _ _ y1;have lsb:sb<w.heap.size:=World.block_lt_of_cell? _ _ s0;have lgz:gz<w.heap.size:=World.block_lt_of_cell? _ _ z0;have x0:=(hk0.cell (p:=⟨sb,0,none⟩) lsb).trans s0;have xz0:=(hk0.cell (p:=⟨gz,FR*2,none⟩) lgz).trans z0;have HZ1:Hid (∀ W,Kept w W->W.cell? ⟨gz,FR*2+1,none⟩=some (.int .i64 (A:Int))/\W.cell? ⟨sb,0,none⟩=some (.slice (some ⟨gz,0,none⟩) out.length co)):=fun W k=>⟨(k.cell (p:=⟨gz,FR*2+1,none⟩) lgz).trans z1,(k.cell (p:=⟨sb,0,none⟩) lsb).trans s0⟩
 have HR:Hid (∀ W,Kept w0 W->W.cell? ⟨rb,1,none⟩=some (.int .i64 (n:Int))/\W.cell? ⟨rb,2,none⟩=some (.int .i64 (FR:Int))/\W.cell? ⟨rb,3,none⟩=some (.int .i64 (CL:Int))/\W.cell? ⟨rb,4,none⟩=some (.int .i64 (SZ:Int))):=fun W k=>⟨(k.cell (p:=⟨rb,1,none⟩) hrb0).trans y1,(k.cell (p:=⟨rb,2,none⟩) hrb0).trans y2,(k.cell (p:=⟨rb,3,none⟩) hrb0).trans y3,(k.cell (p:=⟨rb,4,none⟩) hrb0).trans y4⟩
 clear C0 r0 r1 r2 r3 r4 s0 z0 z1 hk0 hw0 hrb y1 y3 y4;go_quiet (fail);obtain ⟨w2,hw2⟩:∃ w2,w2=w0.drewN nq:=⟨_,rfl⟩;rw[<- hw2];have K2:Hid (Kept w0 w2):=by rw[hw2];exact (Kept.refl _).drewN nq
 clear hw2 x0 xz0 y2;obtain ⟨y1,y2,y3,y4⟩:=HR.out w2 K2.out;obtain ⟨xz1,x0⟩:=HZ1.out w2 (K0.out.trans K2.out);have HI:Hid (gv w3 w2 mb lv fv ls):=HL.out.img.kept (K0.out.trans K2.out);have m5:=HI.out.c5;have m6:=HI.out.c6;have mf:=HI.out.fz;have n2:=HE.out.n2;have n3:=HE.out.n3;have n4:rb≠mb:=by
  have h1:=HI.out.lt;have h2:=HL.out.img.fr.size
  have:=HRB.out
  omega
 by_cases c4:4<t
 ·have ci:(4:Int)<(t:Int):=by omega
  have k0:=(ax (b:=mb) w2 5 0 (.int .i64 15) n2).trans x0;have k2:=(ax (b:=mb) w2 5 2 (.int .i64 15) n4).trans y2;have kz:=(ax (b:=mb) w2 5 (FR*2+1) (.int .i64 15) n3).trans xz1;have k6:(w2.setCell ⟨mb,5,none⟩ (.int .i64 15)).cell? ⟨mb,6,none⟩=some (.int .i64 0):=(aa _ _ _ _ _ (by omega)).trans m6;have HB:Hid (4<t):=c4;clear c4 y1 y3 y4;go_wp2_with fail;go_region_held3 (fun W=>W.cell? ⟨sb,0,none⟩=some (.slice (some ⟨gz,0,none⟩) out.length co)/\W.cell? ⟨rb,2,none⟩=some (.int .i64 (FR:Int))/\W.cell? ⟨gz,FR*2+1,none⟩=some (.int .i64 (A:Int))) (first | exact ⟨k0,k2,kz⟩ | exact ⟨(ax _ _ _ _ (by omega)).trans k0,(ax _ _ _ _ (by omega)).trans k2,(ax _ _ _ _ (by omega)).trans kz⟩ | go_keep) (fail)
  go_wp2_with fail;refine hQr.out _ _ _ _ _ _ _ _ _ _ _ _ _ _ _ _ _ _ _ _ _ _ _ _ _ _ _ _ _ _ _ _ _ _ _ _ _ _ _ _ _ _ _ _ _ _ _ _ _ _ _ _ _ _ _ _ _ _ _ _ _ _ _ _ _ _ _ _ _ _ _ _ _ _ _ _ _ _ _ _ _ _ _ _ _ _ _ _ _ _ _ _ _ _ _ _ _ _ _ _ _ _ _ _ _ _ _ _ _ _ _ _ _ _ _ _ _ _ _ _ _ _ _ _ _ _ _ _ _ _ _ _ _ _ _ _ _ _ _ _ _ _ _ _ _ _ _ _ _ _ _ _ _ _ _ _ _ _ _ _ _ _ _ _ _ ⟨ls,15,A,?_,((HI.out.fin.set5 15).set6 A).kept ((Kept.refl _).drewN 1),HL.out.sz⟩;have q:=HL.out.eq;have hh:=hlt.out;rw[fU out _ hh,aN,if_pos (by show 4<vAt out (aH h pre);rw[<- HFR.out,<- HT.out];exact HB.out)] at q;rw[q,HA.out,HFR.out];show ImR.bad (ls.map Ln.x++[]) 15 _=_
  rw[List.append_nil]
 ·have ci:¬ (4:Int)<(t:Int):=by omega
  have hFS:Hid _:=c4;clear c4;obtain ⟨PS,hPS⟩:∃ PS,PS=FR+SZ:=⟨_,rfl⟩;have HPS:Hid _:=hPS;by_cases c5:out.length<=FR+SZ
  ·have ci5:(out.length:Int)<=(FR:Int)+(SZ:Int):=by omega
   have HB:Hid _:=c5;clear c5 hPS;go_wp2_with fail;go_quiet (fail);go_wp2_with fail;obtain ⟨im,him⟩:=HL.out.cut (w2.drewN nq) (HI.out.kept ((Kept.refl _).drewN nq)).fin (Or.inr ⟨hlt.out,by rw[<- HFR.out,<- HT.out];exact Nat.le_of_not_lt hFS.out,by rw[<- HFR.out,<- HSZ.out];exact HB.out⟩);exact hQb.out _ _ _ _ _ _ _ _ _ _ _ _ _ _ _ _ _ _ _ _ _ _ _ _ _ _ _ _ _ _ _ _ _ _ _ _ _ _ _ _ _ _ _ _ _ _ _ _ _ _ _ _ _ _ _ _ _ _ _ _ _ _ _ _ _ _ _ _ _ _ _ _ _ _ _ _ _ _ _ _ _ _ _ _ _ _ _ _ _ _ _ _ _ _ _ _ _ _ _ _ _ _ _ _ _ _ _ _ _ _ _ _ _ _ _ _ _ _ _ _ _ _ _ _ _ _ _ _ _ _ _ _ _ _ _ _ _ _ _ _ _ _ _ _ _ _ _ _ _ _ _ _ _ _ _ _ _ _ _ _ _ _ _ _ _ _ im him
  ·have ci5:¬ (out.length:Int)<=(FR:Int)+(SZ:Int):=by omega
   have HB:Hid (FR+SZ<out.length):=by show _<_;omega
   clear c5 hPS;go_wp2_with fail;go_quiet (fail);obtain ⟨w4,hw4⟩:∃ w4,w4=w2.drewN nq:=⟨_,rfl⟩;rw[<- hw4];have K4:Hid (Kept w2 w4):=by rw[hw4];exact (Kept.refl _).drewN nq
   clear hw4 x0 xz1 y1 y2 y3 y4 m5 m6 mf;have K04:Hid (Kept w0 w4):=K2.out.trans K4.out;obtain ⟨y1,y2,y3,y4⟩:=HR.out w4 K04.out;have HI4:Hid (gv w3 w4 mb lv fv ls):=HI.out.kept K4.out;have hmk:=vY w4 SZ (by omega);obtain ⟨w5,hw5⟩:∃ w5,w5=w4.alloc (.cells (madeCells #[Value.int .i64 0] SZ) 3):=⟨_,rfl⟩;rw[<- hw5] at hmk;have K5:Hid (Kept w4 w5):=by rw[hw5];exact Below.alloc (Below.refl _ _) (Nat.le_refl _) _
   have L5:Hid (fC w5 w4.heap.size SZ (fun _=>0)):=by rw[hw5];exact Dp w4 SZ
   have s5:Hid (w5.heap.size=w4.heap.size+1):=by show _=_;rw[hw5];simp
   clear hw5;have K05:Hid (Kept w0 w5):=K04.out.trans K5.out;obtain ⟨y1',y2',y3',y4'⟩:=HR.out w5 K05.out;have HI5:Hid (gv w3 w5 mb lv fv ls):=HI4.out.kept K5.out;have c3:=HI5.out.c3;have hll:=HL.out.lenl;have hlast:=HL.out.last;have HP:Hid (0<n->prev=SZ):=fun q=>by show _=_;rw[HSZ.out];exact hprevc q
   clear hprevc;go_upto_if 131 with fail
   go_cut [13] from 132 to 139 (fun vf W=>∃ gu cu,vf = .slice (some ⟨gu,0,none⟩) SZ cu/\fC W gu SZ (if n=0 then fun _=>0 else up)/\gu<w5.heap.size/\W=w5)
   case first=>
    by_cases cn:n=0
    ·subst cn
     go_wp2_with fail;go_meet
     case rel=>exact ⟨w4.heap.size,SZ,rfl,L5.out,by rw[s5.out];omega,rfl⟩
    ·have hn0:(0:Int)<(n:Int):=by omega
     have hpv:=HP.out (by omega);obtain ⟨a,ha,hk0',han,hax⟩:=hlast (by omega);obtain ⟨k',hk'⟩:∃ k',k'=k - 1:=⟨_,rfl⟩;have kn:(0:Int)<=(k':Int):=by omega
     have ki:(k:Int) - 1=(k':Int):=by omega
     have kl:(k':Int)<(k:Int):=by omega
     have hown:=HI5.out.own;rcases hown.2 with ⟨hv,h0⟩ | ⟨gl,cap,cur,hv,hgl,rr⟩
     ·exfalso;omega
     ·have hlc:=hown.cells (show lv.ownBlock=some gl by rw[hv];rfl) k' (lnV a) (by rw[List.getElem?_map];rw[<- hk'] at ha;rw[ha];rfl)
      have e:(Addr.add ⟨gl,0,none⟩ k')=⟨gl,k',none⟩:=by simp [Addr.add];omega
      rw[e] at hlc;rw[hv] at c3;rw[hll] at c3;unfold lnV at hlc;have hln:=(HI5.out.ln a (List.mem_of_getElem? ha));have HRE:Hid (fC w5 a.g SZ (if n=0 then fun _=>0 else up)/\a.g<w5.heap.size):=by
       rw[if_neg cn,<- hax,<- hpv,<- han];exact ⟨hln.1,hln.2.2.1⟩
      rw[han,hpv] at hlc;have Hk':Hid _:=hk';clear hln hown rr hgl ha hax han hpv hlast hk' hv;go_wp2_with fail;go_meet
      case rel=>exact ⟨a.g,SZ,rfl,HRE.out.1,HRE.out.2,rfl⟩
   case rest=>
    obtain ⟨gu,cu,rfl,hU,hgu,rfl⟩:=hcut;have HU:Hid _:=hU;have ht4:t<=4:=Nat.le_of_not_lt hFS.out;go_step;refine Mq fb sb mb gz gr co cr palN ST k prev h out rows pre rs p n lv fv ls up w3 w wc rb gu cu t FR SZ CL HE HL hlt HI5 n4 y2' y3' y4' HU hgu HFR HSZ HCL HT ht4 HB b1' b2 hcl16 hbits ?_ ?_
    ·intro v4 vw va vv uu uP pG pF pE mu mr mq mo mn mm ml mj mi mh mg lZ lY lX lW lV lU lT lS lR lQ lP lO lN lM lL lK lJ lI lH jA jz jy jx jw jv ju jt js jr jq jo jn jm jl jk jj ji jh jg jf je jd jc jb ja iZ iY iX iW iV iU iT iS iR iQ iP iO iN iM iL iK iJ iI iH iG iF pD pC pB pA pz pq pn pj pg pe pd o9 o8 o7 o6 o5 o4 o3 o0 oZ W' lv' fv' ls' prev' up' hn'
     exact hQn.out _ _ _ _ _ _ _ _ _ _ _ _ _ _ _ _ _ _ _ _ _ _ _ _ _ _ _ _ _ _ _ _ _ _ _ _ _ _ _ _ _ _ _ _ _ _ _ _ _ _ _ _ _ _ _ _ _ _ _ _ _ _ _ _ _ _ _ _ _ _ _ _ _ _ _ _ _ _ _ _ _ _ _ _ _ _ _ _ _ _ _ _ _ _ _ _ _ _ _ _ _ _ _ _ _ _ _ _ _ _ _ _ _ _ _ _ _ _ _ _ _ _ _ _ _ _ _ _ _ _ _ _ _ _ _ _ _ _ _ _ _ _ _ _ _ _ _ _ _ _ _ _ _ _ _ _ _ _ _ _ _ _ _ _ _ _ _ _ _ _ _ hn'
    ·intro vw va vv uu uP pG pF pE mu mr mq mo mn mm ml mj mi mh mg lZ lY lX lW lV lU lT lS lR lQ lP lO lN lM lL lK lJ lI lH jA jz jy jx jw jv ju jt js jr jq jo jn jm jl jk jj ji jh jg jf je jd jc jb ja iZ iY iX iW iV iU iT iS iR iQ iP iO iN iM iL iK iJ iI iH iG iF pD pC pB pA pz pq pn pj pg pe pd o9 o8 o7 o6 o5 o4 o3 o0 oZ W' hr'
     exact hQr.out _ _ _ _ _ _ _ _ _ _ _ _ _ _ _ _ _ _ _ _ _ _ _ _ _ _ _ _ _ _ _ _ _ _ _ _ _ _ _ _ _ _ _ _ _ _ _ _ _ _ _ _ _ _ _ _ _ _ _ _ _ _ _ _ _ _ _ _ _ _ _ _ _ _ _ _ _ _ _ _ _ _ _ _ _ _ _ _ _ _ _ _ _ _ _ _ _ _ _ _ _ _ _ _ _ _ _ _ _ _ _ _ _ _ _ _ _ _ _ _ _ _ _ _ _ _ _ _ _ _ _ _ _ _ _ _ _ _ _ _ _ _ _ _ _ _ _ _ _ _ _ _ _ _ _ _ _ _ _ _ _ _ _ _ _ hr'
