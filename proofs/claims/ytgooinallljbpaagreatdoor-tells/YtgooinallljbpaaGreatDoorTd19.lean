import Derived.Test.YtgooinallljbpaaGreatDoorTd18
set_option maxRecDepth 100000
set_option maxHeartbeats 6400000
namespace Px
def dt (l:List One):Prop:=∀ x ∈ l,x.1<256/\x.2<=1048576
theorem sM {l:List One} (h:dt l) {v p:Nat} (hv:v<256) (hp:p<=1048576):dt (l++[(v,p)]):=by
 intro x hx;rcases List.mem_append.1 hx with hx | hx
 ·exact h x hx
 ·simp at hx;subst hx;exact ⟨hv,hp⟩
theorem xy {l:List One} (h:dt l) (i:Nat):vAt l i<256:=by
 unfold vAt;rw[List.getD_eq_getElem?_getD];cases e:l[i]? with
 | none=>simp
 | some x=>exact (h x (List.mem_of_getElem? e)).1
theorem CG {p back:Nat} (hp:p<=1048576) (n:Nat) {l:List One} (h:dt l):dt (aT p back n l):=by
 induction n generalizing l with
 | zero=>exact h
 | succ n ih=>exact ih (sM h (xy h _) hp)
theorem lJ {s s':St} {k:Bool} (h:s.endBlock = .ok s' k):s'.out=s.out:=by
 unfold St.endBlock at h
 split at h<;>(cases h;rfl)
theorem eU {s s':St} {p:Ph} {k:Bool} (h:s.to p = .ok s' k):s'.out=s.out:=by
 unfold St.to at h;cases h;rfl
theorem ui {s s':St} {nl nd:Nat} {sl out:List Nat} {k:Bool} (h:s.lens nl nd sl out = .ok s' k):s'.out=s.out:=by
 unfold St.lens at h
 split at h
 ·exact eU h
 ·split at h
  ·cases h
  ·exact eU h
theorem xp {s s':St} {lit dist:List Nat} {len back p:Nat} {k:Bool} (h:s.copy lit dist len back p = .ok s' k) (hp:p<=1048576) (hs:dt s.out):dt s'.out:=by
 unfold St.copy at h
 split at h
 ·cases h
 ·cases h;exact CG hp _ hs
theorem BR {s s':St} {n v p:Nat} {k:Bool} (h:bF s v p = .ok s' k) (hi:item s.ph = .num n) (hv:v<2^n) (hp:p<=1048576) (hs:dt s.out):dt s'.out:=by
 unfold bF at h
 split at h
 ·split at h
  ·cases h
  ·cases h;exact hs
 ·simp only at h
  split at h
  ·cases h;exact hs
  ·split at h
   ·rw[eU h];exact hs
   ·split at h
    ·rw[eU h];exact hs
    ·cases h
 ·split at h
  ·cases h
  ·split at h
   ·rw[lJ h];exact hs
   ·rw[eU h];exact hs
 ·rename_i hph
  have hn:n=8:=by rw[hph] at hi;cases hi;rfl
  subst hn;have hg:dt (s.give v p).out:=sM hs hv hp
  split at h
  ·rw[lJ h];exact hg
  ·rw[eU h];exact hg
 ·split at h
  ·cases h
  ·rw[eU h];exact hs
 ·split at h
  ·rw[eU h];exact hs
  ·split at h
   ·cases h
   ·rw[eU h];exact hs
 ·simp only at h
  split at h
  ·split at h
   ·cases h
   ·rw[ui h];exact hs
  ·split at h
   ·cases h
   ·rw[ui h];exact hs
 ·rw[eU h];exact hs
 ·exact xp h hp hs
 ·split at h
  ·cases h
  ·rw[eU h];exact hs
 ·cases h
theorem BQ {s s':St} {c p:Nat} {k:Bool} (h:cZ s c p = .ok s' k) (hp:p<=1048576) (hs:dt s.out):dt s'.out:=by
 unfold cZ at h
 split at h
 ·split at h
  ·rw[ui h];exact hs
  ·split at h
   ·cases h
   ·rw[eU h];exact hs
 ·split at h
  ·rename_i hc
   rw[eU h];exact sM hs hc hp
  ·split at h
   ·rw[lJ h];exact hs
   ·split at h
    ·cases h
    ·split at h
     ·rw[eU h];exact hs
     ·rw[eU h];exact hs
 ·split at h
  ·cases h
  ·split at h
   ·exact xp h hp hs
   ·rw[eU h];exact hs
 ·cases h
theorem Run.good {z:List One} (hz:good z) {a0 a:Nat} {s0 s:St} (h:Run z a0 s0 a s) (hs:dt s0.out):dt s.out:=by
 refine Run.ind (P:=fun _ s=>dt s.out) hs (fun _ k ih => ?_) h;rcases k with ⟨n,k',hi,hn,hr,rfl⟩ | ⟨l,c,n,k',hi,hg,hr,rfl⟩
 ·exact BR hr hi (bO _ _ _) (GQ hz _) ih
 ·exact BQ hr (GQ hz _) ih
def fR (l:List One):Nat->Nat × Nat
 | 0=>(1,0)
 | i+1=>(((fR l i).1+vAt l i) % 65521,((fR l i).2+((fR l i).1+vAt l i) % 65521) % 65521)
theorem CM (l:List One) (i:Nat) (h:i<=l.length):fR l i=(l.take i).foldl (fun (a:Nat × Nat) x=>((a.1+x.1) % 65521,(a.2+(a.1+x.1) % 65521) % 65521)) (1,0):=by
 induction i with
 | zero=>rfl
 | succ i ih=>
  rw[fR,ih (by omega),List.take_succ_eq_append_getElem (by omega),List.foldl_append];have e:vAt l i=(l[i]'(by omega)).1:=by unfold vAt;rw[List.getD_eq_getElem?_getD,List.getElem?_eq_getElem (by omega)];rfl
  rw[e];rfl
theorem Av (l:List One) (p:Nat × Nat):(l.foldl (fun (a:Nat × Nat) x=>((a.1+x.1) % 65521,(a.2+(a.1+x.1) % 65521) % 65521)) p).1=l.foldl (fun a x=>(a+x.1) % 65521) p.1:=by
 induction l generalizing p with
 | nil=>rfl
 | cons x r ih=>rw[List.foldl_cons,List.foldl_cons,ih]
theorem xD (l:List One):fR l l.length=(bx l,bJ l):=by
 have h:=CM l l.length (Nat.le_refl _);rw[List.take_length] at h;have h1:=Av l (1,0);rw[h];refine Prod.ext ?_ rfl;exact h1
def be4 (z:List One) (a:Nat):Nat->Nat
 | 0=>0
 | i+1=>256*be4 z a i+ab z (a+8*i) 8
theorem IY (z:List One) (a:Nat):gG (ab z a 32)=be4 z a 4:=by
 have e1:ab z a 32=ab z a 8+2^8*ab z (a+8) 24:=dg z a 8 24;have e2:ab z (a+8) 24=ab z (a+8) 8+2^8*ab z (a+16) 16:=dg z (a+8) 8 16;have e3:ab z (a+16) 16=ab z (a+16) 8+2^8*ab z (a+24) 8:=dg z (a+16) 8 8;have l0:=bO z a 8;have l1:=bO z (a+8) 8;have l2:=bO z (a+16) 8;have l3:=bO z (a+24) 8;have q:be4 z a 4=256*(256*(256*(256*0+ab z a 8)+ab z (a+8) 8)+ab z (a+16) 8)+ab z (a+24) 8:=rfl;rw[q];have hV:ab z a 32=ab z a 8+256*ab z (a+8) 8+65536*ab z (a+16) 8+16777216*ab z (a+24) 8:=by omega
 clear e1 e2 e3 q;generalize ab z a 32=V at *;generalize ab z a 8=b0 at *;generalize ab z (a+8) 8=b1 at *;generalize ab z (a+16) 8=b2 at *;generalize ab z (a+24) 8=b3 at *;have m0:V % 256=b0:=by omega
 have m1:V / 256 % 256=b1:=by omega
 have m2:V / 65536 % 256=b2:=by omega
 have m3:V / 16777216 % 256=b3:=by omega
 unfold gG;rw[m0,m1,m2,m3];omega
theorem AY (l:List One) (i:Nat):(fR l i).1<65521/\(fR l i).2<65521:=by
 cases i with
 | zero=>exact ⟨show 1<65521 by decide,show 0<65521 by decide⟩
 | succ i=>exact ⟨Nat.mod_lt _ (by decide),Nat.mod_lt _ (by decide)⟩
end Px
namespace Go.Proofs.YtgooinallljbpaaGreatDoor
open Go.RowKit
set_option linter.unusedSimpArgs false
set_option linter.unusedVariables false
structure SC (W:World) (s:Nat) (dn sm:Bool) (er at' en:Nat):Prop where
 c3:W.cell? ⟨s,3,none⟩=some (.bool dn)
 c4:W.cell? ⟨s,4,none⟩=some (.bool sm)
 c5:W.cell? ⟨s,5,none⟩=some (.int .i64 (er:Int))
 c6:W.cell? ⟨s,6,none⟩=some (.int .i64 (at':Int))
 c7:W.cell? ⟨s,7,none⟩=some (.int .i64 (en:Int))
theorem SC.same {W W':World} {s:Nat} {dn sm:Bool} {er at' en:Nat} (h:SC W s dn sm er at' en) (e:W'.heap[s]? = W.heap[s]?):SC W' s dn sm er at' en:=by
 have hc:∀ k,W'.cell? ⟨s,k,none⟩=W.cell? ⟨s,k,none⟩:=fun k=>World.cell?_of_block (w:=W) e
 exact ⟨(hc 3).trans h.c3,(hc 4).trans h.c4,(hc 5).trans h.c5,(hc 6).trans h.c6,(hc 7).trans h.c7⟩
theorem SC.lt {W:World} {s:Nat} {dn sm:Bool} {er at' en:Nat} (h:SC W s dn sm er at' en):s<W.heap.size:=World.block_lt_of_cell? _ _ h.c3
theorem SC.set {W:World} {s:Nat} {dn sm:Bool} {er at' en:Nat} (h:SC W s dn sm er at' en) (d2 m2:Bool):SC ((W.setCell ⟨s,3,none⟩ (.bool d2)).setCell ⟨s,4,none⟩ (.bool m2)) s d2 m2 er at' en:=by
 have q4:(W.setCell ⟨s,3,none⟩ (.bool d2)).cell? ⟨s,4,none⟩=some (.bool sm):=by rw[aa _ _ _ _ _ (by omega)];exact h.c4
 refine ⟨?_,aj q4 _,?_,?_,?_⟩
 ·rw[aa _ _ _ _ _ (by omega)];exact aj h.c3 _
 ·rw[aa _ _ _ _ _ (by omega),aa _ _ _ _ _ (by omega)];exact h.c5
 ·rw[aa _ _ _ _ _ (by omega),aa _ _ _ _ _ (by omega)];exact h.c6
 ·rw[aa _ _ _ _ _ (by omega),aa _ _ _ _ _ (by omega)];exact h.c7
theorem SC.setEnd {W:World} {s:Nat} {dn sm:Bool} {er at' en:Nat} (h:SC W s dn sm er at' en) (e2:Nat):SC (W.setCell ⟨s,7,none⟩ (.int .i64 (e2:Int))) s dn sm er at' e2:=by
 refine ⟨?_,?_,?_,?_,aj h.c7 _⟩
 ·rw[aa _ _ _ _ _ (by omega)];exact h.c3
 ·rw[aa _ _ _ _ _ (by omega)];exact h.c4
 ·rw[aa _ _ _ _ _ (by omega)];exact h.c5
 ·rw[aa _ _ _ _ _ (by omega)];exact h.c6
theorem SC.setErr {W:World} {s:Nat} {dn sm:Bool} {er at' en:Nat} (h:SC W s dn sm er at' en) (e2:Nat):SC (W.setCell ⟨s,5,none⟩ (.int .i64 (e2:Int))) s dn sm e2 at' en:=by
 refine ⟨?_,?_,aj h.c5 _,?_,?_⟩
 ·rw[aa _ _ _ _ _ (by omega)];exact h.c3
 ·rw[aa _ _ _ _ _ (by omega)];exact h.c4
 ·rw[aa _ _ _ _ _ (by omega)];exact h.c6
 ·rw[aa _ _ _ _ _ (by omega)];exact h.c7
theorem SC.setAt {W:World} {s:Nat} {dn sm:Bool} {er at' en:Nat} (h:SC W s dn sm er at' en) (e2:Nat):SC (W.setCell ⟨s,6,none⟩ (.int .i64 (e2:Int))) s dn sm er e2 en:=by
 refine ⟨?_,?_,?_,aj h.c6 _,?_⟩
 ·rw[aa _ _ _ _ _ (by omega)];exact h.c3
 ·rw[aa _ _ _ _ _ (by omega)];exact h.c4
 ·rw[aa _ _ _ _ _ (by omega)];exact h.c5
 ·rw[aa _ _ _ _ _ (by omega)];exact h.c7
theorem OAt.set {W:World} {s N:Nat} {ov:Value} {out:List Px.One} (h:OAt W s N ov out) (hs:s<N) (j:Nat) (hj:j≠0) (u:Value):OAt (W.setCell ⟨s,j,none⟩ u) s N ov out:=
 ⟨by rw[aa _ _ _ _ _ hj];exact h.c0,fun k=>by rw[World.frozen?_setCell];exact h.fz k,ownsRow_setCell_below h.own (show s<N from hs) _⟩
theorem OAt.kept {W W':World} {s N:Nat} {ov:Value} {out:List Px.One} (h:OAt W s N ov out) (k:Kept W W'):OAt W' s N ov out:=h.fr (S:=fun _=>False) (Fr.of_kept k) (fun e=>e) (fun _ _ e=>e)
theorem SC.kept {W W':World} {s:Nat} {dn sm:Bool} {er at' en:Nat} (h:SC W s dn sm er at' en) (k:Kept W W'):SC W' s dn sm er at' en:=h.same (k.block s h.lt)
structure yP (w:World) (b s N:Nat) (v ov:Value) (z out:List Px.One) (A:Nat) (W:World) (t':Px.Bt) (dn sm:Bool) (er at' en:Nat):Prop where
 bat:BAt W b v t'
 oat:OAt W s N ov out
 sc:SC W s dn sm er at' en
 fr:Fr (fun g=>g=b\/g=s) w W
 st:(¬ A+32<=8*z.length/\t'=⟨8*z.length,true,0⟩/\dn=false/\sm=false/\er=0/\at'=0/\en=0) \/
  (A+32<=8*z.length/\Px.gG (Px.ab z A 32)≠65536*Px.bJ out+Px.bx out/\t'=⟨A+32,false,19⟩/\dn=true/\sm=false/\er=0/\at'=0/\en=Px.ay z (A+32)) \/
  (A+32<=8*z.length/\Px.gG (Px.ab z A 32)=65536*Px.bJ out+Px.bx out/\t'=⟨A+32,false,0⟩/\dn=true/\sm=true/\en=Px.ay z (A+32)/\er=(if A+32<8*z.length then 20 else 0)/\at'=(if A+32<8*z.length then Px.pAt z ((A+32) / 8) else 0))
def No (w:World) (b s N:Nat) (v ov:Value) (z out:List Px.One) (A:Nat) (W:World):Prop:=∃ t' dn sm er at' en,yP w b s N v ov z out A W t' dn sm er at' en
theorem JF (b s N:Nat) (v ov:Value) (z out:List Px.One) (a0:Nat) (w:World) (h:BAt w b v ⟨a0,false,0⟩) (hz:ZAt w v z) (hg:Px.good z) (ha:a0<=8*z.length) (hO:OAt w s N ov out) (hSC:SC w s false false 0 0 0) (hby:Px.dt out) (hol:out.length<4294967296)
  (hbN:b<N) (hsN:s<N) (hsb:s≠b) (hv:∀ g,ae v=some g->g≠b/\g≠s) (A:Nat) (hA0:Px.up8 a0=A) :
  Calls Tryz.prog 67 #[.pointer (some ⟨s,0,none⟩),.pointer (some ⟨b,0,none⟩)] w fun r w'=>r = .returned (.tuple #[])/\No w b s N v ov z out A w':=by
 have hz2:=hg.2.1;have hA:=Px.xG ha;rw[hA0] at hA;have HA0:Hid (Px.up8 a0=A):=hA0;clear hA0;have hvb:∀ g,ae v=some g->g≠b:=fun g hg=>(hv g hg).1
 have hob:∀ g,ov.ownBlock=some g->g≠b:=fun g hg=>by have:=(hO.own.lt g hg).1;omega
 go_enter Tryz.func67,Tryz.ntmps67;go_wp2_with fail;refine (xC b v _ w h (by show a0<=_;omega)).mono ?_;rintro r w1 ⟨rfl,hb1,hw1⟩;have hb1':BAt w1 b v ⟨A,false,0⟩:=by rw[<- HA0.out];exact hb1
 clear hb1;go_wp2;go_loopw [4,5] (fun u j W=>∃ (x i:Nat) (t:Px.Bt),u = .int .i64 (x:Int)/\j = .int .i64 (i:Int)/\i<=4/\x<256^i/\BAt W b v t/\t.a<=8*z.length/\Fr1 b w W/\((t=⟨A+8*i,false,0⟩/\x=Px.be4 z A i)\/(¬ A+32<=8*z.length/\t=⟨8*z.length,true,0⟩))) (fun _ j _=>4 - (intOf j).toNat)
 case atStart=>exact ⟨0,0,_,rfl,rfl,by omega,by simp,hb1',hA,hw1,Or.inl ⟨rfl,rfl⟩⟩
 case round=>
  obtain ⟨x,i,t,rfl,rfl,hi,hx,hb,hta,hw,hst⟩:=hrel;have HST:Hid ((t=⟨A+8*i,false,0⟩/\x=Px.be4 z A i)\/(¬ A+32<=8*z.length/\t=⟨8*z.length,true,0⟩)):=hst;clear hst;by_cases hi4:i<4
  ·have hx24:x<16777216:=by
    have:=Nat.pow_le_pow_right (n:=256) (by omega) (show i<=3 by omega)
    omega
   have NU:Hid (Calls Tryz.prog 59 #[.pointer (some ⟨b,0,none⟩),.int .i64 8] wr fun r w'=>∃ x:Nat,r = .returned (.int .i64 (x:Int))/\x<2^8/\(t.cut=false->t.a+8<=8*z.length->x=Px.ab z t.a 8)/\BAt w' b v (t.num z 8)/\Fr1 b wr w'):=lI b v z t 8 wr hb (hz.fr hw hvb) hvb hg hta (by omega);go_wp2_with fail;refine NU.out.mono ?_;rintro r w2 ⟨y,rfl,hy,hy2,hb2,hw2⟩;have HY2:Hid (t.cut=false->t.a+8<=8*z.length->y=Px.ab z t.a 8):=hy2;have hy256:y<256:=hy;clear hy2;go_wp2;refine ⟨⟨256*x+y,i+1,t.num z 8,by go_num,by go_num,by omega,by rw[Nat.pow_succ];omega,hb2,J4 8 hta,hw.trans hw2,?_⟩,by simp [intOf];omega⟩;rcases HST.out with ⟨rfl,hxe⟩ | ⟨hno,rfl⟩
   ·by_cases hfit:A+8*i+8<=8*z.length
    ·left
     refine ⟨by rw[Px.cA hfit,show A+8*i+8=A+8*(i+1) from by omega],?_⟩;rw[HY2.out rfl hfit,hxe];rfl
    ·right
     exact ⟨by omega,Px.cM (by omega)⟩
   ·right
    exact ⟨hno,Px.kV rfl⟩
  ·have hie:i=4:=by omega
   subst hie;have hO1:OAt wr s N ov out:=hO.fr hw hsb hob;have hSC1:SC wr s false false 0 0 0:=hSC.same (hw.block s hSC.lt hsb);rcases HST.out with ⟨rfl,hxe⟩ | ⟨hno,rfl⟩
   ·have hc2:wr.cell? ⟨b,2,none⟩=some (.bool false):=hb.c2
    have hfit:A+32<=8*z.length:=hta;have hx32:x<4294967296:=by simpa using hx
    have HXE:Hid (x=Px.gG (Px.ab z A 32)):=by show _=_;rw[Px.IY];exact hxe
    have HB:Hid (BAt wr b v ⟨A+32,false,0⟩):=hb;have hf:=hO1.fz;have c3:=hSC1.c3;have c4:=hSC1.c4;have c5:=hSC1.c5;have c6:=hSC1.c6;have c7:=hSC1.c7;have hzo:=hO1.zat;obtain ⟨p,c,rfl⟩:=aq hO1.own;have c0:=hO1.c0;have HZ:Hid (∀ i,i<out.length->∃ g,p=some ⟨g,0,none⟩/\wr.cell? ⟨g,i*2,none⟩=some (.int .i64 (Px.vAt out i:Int))):=fun i hi=>by obtain ⟨g,h1,h2,_⟩:=hzo.cells p c rfl i hi;exact ⟨g,h1,h2⟩
    clear HST hxe hzo
    rename World=>W3
    go_wp2;go_loopw [7,8,9] (fun lo hi j W=>∃ i:Nat,i<=out.length/\lo = .int .i64 ((Px.fR out i).1:Int)/\hi = .int .i64 ((Px.fR out i).2:Int)/\j = .int .i64 (i:Int)/\Kept W3 W) (fun _ _ j _=>out.length - (intOf j).toNat)
    case atStart=>exact ⟨0,by omega,rfl,rfl,rfl,Kept.refl _⟩
    case round=>
     obtain ⟨i,hio,rfl,rfl,rfl,hK⟩:=hrel;have hlt1:=Px.AY out i;have hs3:=hSC1.lt;have d0:wr.cell? ⟨s,0,none⟩=_:=(hK.cell (p:=⟨s,0,none⟩) hs3).trans c0;by_cases hil:i<out.length
     ·obtain ⟨g,rfl,hvi⟩:=HZ.out i hil
      have hvi':wr.cell? ⟨g,i*2,none⟩=_:=(hK.cell (p:=⟨g,i*2,none⟩) (World.block_lt_of_cell? _ _ hvi)).trans hvi;have hV:=Px.xy hby i;have HN:Hid (Px.fR out (i+1)=(((Px.fR out i).1+Px.vAt out i) % 65521,((Px.fR out i).2+((Px.fR out i).1+Px.vAt out i) % 65521) % 65521)):=rfl;generalize Px.vAt out i=V at *;generalize (Px.fR out i).1=L1 at *;generalize (Px.fR out i).2=L2 at *;have hl1:=hlt1.1;have hl2:=hlt1.2;clear hlt1 hvi;go_wp2;refine ⟨⟨i+1,by omega,aV ?_,aV ?_,by go_num,hK⟩,by simp [intOf];omega⟩
      ·rw[HN.out];show _=(((L1+V) % 65521:Nat):Int);omega
      ·rw[HN.out];show _=(((L2+(L1+V) % 65521) % 65521:Nat):Int);omega
     ·have hie:i=out.length:=by omega
      have hall:=Px.xD out;have HL1:Hid ((Px.fR out i).1=Px.bx out):=by show _=_;rw[hie,hall]
      have HL2:Hid ((Px.fR out i).2=Px.bJ out):=by show _=_;rw[hie,hall]
      have hl1:=hlt1.1;have hl2:=hlt1.2;generalize (Px.fR out i).1=L1 at *;generalize (Px.fR out i).2=L2 at *;have dc:∀ j,wr.cell? ⟨s,j,none⟩=W3.cell? ⟨s,j,none⟩:=fun j=>hK.cell (p:=⟨s,j,none⟩) hs3
      have d3:=(dc 3).trans c3;have d4:=(dc 4).trans c4;have d5:=(dc 5).trans c5;have d6:=(dc 6).trans c6;have d7:=(dc 7).trans c7;have hf':∀ k,wr.frozen? ⟨s,k,none⟩=false:=fun k=>(hK.frozen (p:=⟨s,k,none⟩) hs3).trans (hf k)
      clear hall hie hlt1 dc c3 c4 c5 c6 c7 hf c0;have hgei:(out.length:Int)<=(i:Int):=by omega
      have hOr:OAt wr s N (.slice p out.length c) out:=hO1.kept hK;have hSCr:SC wr s false false 0 0 0:=hSC1.kept hK;have hbr:BAt wr b v ⟨A+32,false,0⟩:=HB.out.kept hK;have hFr:Fr (fun g=>g=b\/g=s) w wr:=(hw.mono (fun i _ e=>Or.inl e)).kept hK;have hv':∀ g,ae v=some g->¬ (g=b\/g=s):=fun g hg e=>by
       obtain ⟨h1,h2⟩:=hv g hg;rcases e with e | e
       ·exact h1 e
       ·exact h2 e
      have pre:∀ (d2 m2:Bool),(SC ((wr.setCell ⟨s,3,none⟩ (.bool d2)).setCell ⟨s,4,none⟩ (.bool m2)) s d2 m2 0 0 0)/\OAt ((wr.setCell ⟨s,3,none⟩ (.bool d2)).setCell ⟨s,4,none⟩ (.bool m2)) s N (.slice p out.length c) out/\BAt ((wr.setCell ⟨s,3,none⟩ (.bool d2)).setCell ⟨s,4,none⟩ (.bool m2)) b v ⟨A+32,false,0⟩/\Fr (fun g=>g=b\/g=s) w ((wr.setCell ⟨s,3,none⟩ (.bool d2)).setCell ⟨s,4,none⟩ (.bool m2)):=by
       intro d2 m2;have h1:Fr1 s wr ((wr.setCell ⟨s,3,none⟩ (.bool d2)).setCell ⟨s,4,none⟩ (.bool m2)):=((Fr1.refl _ _).set _ _).set _ _;exact ⟨hSCr.set d2 m2,(hOr.set hsN 3 (by omega) _).set hsN 4 (by omega) _,hbr.fr h1 (fun e=>hsb e.symm),hFr.trans' h1 (fun i _ e=>Or.inr e)⟩
      have PRE:Hid _:=pre;clear pre hOr hSCr hbr hFr hO1 hSC1 HB hSC;by_cases hsum:x=65536*L2+L1
      ·have gsum:((x:Int) == 65536*(L2:Int)+(L1:Int))=true:=by rw[beq_iff_eq];omega
       have HSUM:Hid (Px.gG (Px.ab z A 32)=65536*Px.bJ out+Px.bx out):=by show _=_;rw[<- HXE.out,<- HL1.out,<- HL2.out];exact hsum
       clear hsum;go_wp2_with fail;obtain ⟨hS4,hO4,hb4,hF4⟩:=PRE.out true true;generalize (wr.setCell ⟨s,3,none⟩ (.bool true)).setCell ⟨s,4,none⟩ (.bool true)=W4 at *;refine (fW b v z ⟨A+32,false,0⟩ W4 hb4 (hz.fr hF4 hv') hg (by show 0<A+32;omega) hfit).mono ?_;rintro r w5 ⟨rfl,hk5⟩;have hS5:=hS4.kept hk5;have hb5:=hb4.kept hk5;have hO5:=hO4.kept hk5;have hF5:Fr (fun g=>g=b\/g=s) w w5:=hF4.kept hk5;rw[show Px.pAt z ((({ a:=A+32,cut:=false,err:=0 }:Px.Bt).a - 1) / 8)=Px.ay z (A+32) from rfl];generalize hPE:Px.ay z (A+32)=P at *;have HPE:Hid (P=Px.ay z (A+32)):=hPE.symm;clear hPE;have d4:=hS5.c4;have d5:=hS5.c5;have d6:=hS5.c6;have d7:=hS5.c7;have hf5:=hO5.fz;have e0:=hb5.c0;have e1:w5.cell? ⟨b,1,none⟩=some (.int .i64 ((A+32:Nat):Int)):=hb5.c1;have hz5:=hz.fr hF5 hv';have H5:Hid (SC w5 s true true 0 0 0/\BAt w5 b v ⟨A+32,false,0⟩/\OAt w5 s N (.slice p out.length c) out/\Fr (fun g=>g=b\/g=s) w w5/\ZAt w5 v z):=⟨hS5,hb5,hO5,hF5,hz5⟩;obtain ⟨vp,vc,rfl⟩:=hz5.form;clear hS4 hO4 hb4 hF4 hk5 hS5 hb5 hO5 hF5 hz5 PRE;go_wp2;obtain ⟨hS5,hb5,hO5,hF5,hz5⟩:=H5.out;have h7:Fr1 s w5 (w5.setCell ⟨s,7,none⟩ (.int .i64 (P:Int))):=(Fr1.refl _ _).set _ _;have hS6:=hS5.setEnd P;have hO6:=hO5.set hsN 7 (by omega) (.int .i64 (P:Int));have hb6:=hb5.fr h7 (fun e=>hsb e.symm);have hz6:=hz5.fr h7 (fun g hg=>(hv g hg).2);have hF6:Fr (fun g=>g=b\/g=s) w (w5.setCell ⟨s,7,none⟩ (.int .i64 (P:Int))):=hF5.trans' h7 (fun i _ e=>Or.inr e);generalize w5.setCell ⟨s,7,none⟩ (.int .i64 (P:Int))=W6 at *;have e0:=hb6.c0;have e1:W6.cell? ⟨b,1,none⟩=some (.int .i64 ((A+32:Nat):Int)):=hb6.c1;have d5:=hS6.c5;have d6:=hS6.c6;have hf6:=hO6.fz;have H6:Hid (SC W6 s true true 0 0 P/\BAt W6 b (.slice vp z.length vc) ⟨A+32,false,0⟩/\OAt W6 s N (.slice p out.length c) out/\Fr (fun g=>g=b\/g=s) w W6):=⟨hS6,hb6,hO6,hF6⟩;clear hS5 hb5 hO5 hF5 hz5 hS6 hb6 hO6 hF6 h7 H5;by_cases hmore:A+32<8*z.length
       ·obtain ⟨g,rfl,_,hpz⟩:=hz6.cells vp vc rfl ((A+32) / 8) (by omega)
        have HPP:Hid (∀ (W:World),True):=fun _=>trivial
        generalize hPX:Px.pAt z ((A+32) / 8)=PX at *;have HPX:Hid (Px.pAt z ((A+32) / 8)=PX):=hPX;clear hPX hz6;go_quiet (fail);have H7:Hid (SC (W6.drewN nq) s true true 0 0 P/\BAt (W6.drewN nq) b (.slice (some ⟨g,0,none⟩) z.length vc) ⟨A+32,false,0⟩/\OAt (W6.drewN nq) s N (.slice p out.length c) out/\Fr (fun g=>g=b\/g=s) w (W6.drewN nq)):=by
         obtain ⟨hS6,hb6,hO6,hF6⟩:=H6.out;exact ⟨hS6.kept ((Kept.refl _).drewN _),hb6.drewN _,hO6.kept ((Kept.refl _).drewN _),hF6.drewN _⟩
        have e0':(W6.drewN nq).cell? ⟨b,0,none⟩=_:=e0;have e1':(W6.drewN nq).cell? ⟨b,1,none⟩=_:=e1;have d5':(W6.drewN nq).cell? ⟨s,5,none⟩=_:=d5;have d6':(W6.drewN nq).cell? ⟨s,6,none⟩=_:=d6;have hf7:∀ k,(W6.drewN nq).frozen? ⟨s,k,none⟩=false:=hf6;have hpz':(W6.drewN nq).cell? ⟨g,(A+32) / 8*2+1,none⟩=_:=hpz;generalize W6.drewN nq=W7 at *;clear e0 e1 d5 d6 hf6 hpz H6;go_wp2;obtain ⟨hS7,hb7,hO7,hF7⟩:=H7.out;have h5:Fr1 s W7 (W7.setCell ⟨s,5,none⟩ (.int .i64 20)):=(Fr1.refl _ _).set _ _;have hgs:g≠s:=(hv g rfl).2;have hS8:SC (W7.setCell ⟨s,5,none⟩ (.int .i64 20)) s true true 20 0 P:=hS7.setErr 20;have hO8:=hO7.set hsN 5 (by omega) (.int .i64 20);have hb8:=hb7.fr h5 (fun e=>hsb e.symm);have hF8:Fr (fun g=>g=b\/g=s) w (W7.setCell ⟨s,5,none⟩ (.int .i64 20)):=hF7.trans' h5 (fun i _ e=>Or.inr e);have hp8:(W7.setCell ⟨s,5,none⟩ (.int .i64 20)).cell? ⟨g,(A+32) / 8*2+1,none⟩=some (.int .i64 (PX:Int)):=(h5.cell (World.block_lt_of_cell? _ _ hpz') hgs).trans hpz';generalize W7.setCell ⟨s,5,none⟩ (.int .i64 20)=W8 at *;have e0:=hb8.c0;have e1:W8.cell? ⟨b,1,none⟩=some (.int .i64 ((A+32:Nat):Int)):=hb8.c1;have d6:=hS8.c6;have hf8:=hO8.fz 6;have H8:Hid (SC W8 s true true 20 0 P/\BAt W8 b (.slice (some ⟨g,0,none⟩) z.length vc) ⟨A+32,false,0⟩/\OAt W8 s N (.slice p out.length c) out/\Fr (fun g=>g=b\/g=s) w W8):=⟨hS8,hb8,hO8,hF8⟩;have hi1:((A+32:Nat):Int) / 8<(z.length:Int):=by omega
        have hi0:(0:Int)<=((A+32:Nat):Int) / 8:=by omega
        obtain ⟨A4,hA4⟩:∃ A4:Nat,A4=A+32:=⟨_,rfl⟩;rw[<- hA4] at e1 hi1 hi0 hp8;have hin:A4 / 8<z.length:=by omega
        have hm1:A4<8*z.length:=by omega
        have hm2:A4<z.length*8:=by omega
        have hm3:(A4:Int)<(z.length:Int)*8:=by omega
        have hm4:(A4:Int)<8*(z.length:Int):=by omega
        have hdv:((A4 / 8:Nat):Int)<(z.length:Int):=by omega
        clear hS7 hb7 hO7 hF7 h5 hS8 hb8 hO8 hF8 H7 e0' e1' d5' d6' hf7 hpz' hv hvb hob hv' hA4 hz h hO HZ hK hw1 hb1' hw hb hta;go_region
        go_wp2;go_end0
        obtain ⟨hS8,hb8,hO8,hF8⟩:=H8.out;have h6:Fr1 s W8 (W8.setCell ⟨s,6,none⟩ (.int .i64 (PX:Int))):=(Fr1.refl _ _).set _ _;have hd:Kept (W8.setCell ⟨s,6,none⟩ (.int .i64 (PX:Int))) (W8.setCell ⟨s,6,none⟩ (.int .i64 (PX:Int))).drew:=⟨rfl,rfl,rfl,Nat.le_refl _,fun _ _=>rfl⟩;have hF9:Fr (fun g=>g=b\/g=s) w (W8.setCell ⟨s,6,none⟩ (.int .i64 (PX:Int))):=hF8.trans' h6 (fun i _ e=>Or.inr e);refine ⟨rfl,⟨A+32,false,0⟩,true,true,20,PX,P,(hb8.fr h6 (fun e=>hsb e.symm)).kept hd,(hO8.set hsN 6 (by omega) _).kept hd,(hS8.setAt PX).kept hd,hF9.kept hd,Or.inr (Or.inr ⟨hfit,HSUM.out,rfl,rfl,rfl,HPE.out,by rw[if_pos hmore],by rw[if_pos hmore];exact HPX.out.symm⟩)⟩
       ·go_quiet (fail)
        go_wp2;go_end0
        obtain ⟨hS6,hb6,hO6,hF6⟩:=H6.out;refine ⟨rfl,⟨A+32,false,0⟩,true,true,0,0,P,hb6.drewN _,hO6.kept ((Kept.refl _).drewN _),hS6.kept ((Kept.refl _).drewN _),hF6.drewN _,Or.inr (Or.inr ⟨hfit,HSUM.out,rfl,rfl,rfl,HPE.out,by rw[if_neg hmore],by rw[if_neg hmore]⟩)⟩
      ·have gsum:((x:Int) == 65536*(L2:Int)+(L1:Int))=false:=by rw[beq_eq_false_iff_ne];omega
       have HSUM:Hid (Px.gG (Px.ab z A 32)≠65536*Px.bJ out+Px.bx out):=by show _≠_;rw[<- HXE.out,<- HL1.out,<- HL2.out];exact hsum
       have FA:Hid (∀ W,BAt W b v ⟨A+32,false,0⟩->Calls Tryz.prog 60 #[.pointer (some ⟨b,0,none⟩),.int .i64 19] W fun r w'=>r = .returned (.tuple #[])/\BAt w' b v ⟨A+32,false,19⟩/\Fr1 b W w'):=fun W hW=>cV b v _ 19 W hW rfl rfl
       clear hsum;go_wp2_with fail;obtain ⟨hS4,hO4,hb4,hF4⟩:=PRE.out true false;generalize (wr.setCell ⟨s,3,none⟩ (.bool true)).setCell ⟨s,4,none⟩ (.bool false)=W4 at *;refine (fW b v z ⟨A+32,false,0⟩ W4 hb4 (hz.fr hF4 hv') hg (by show 0<A+32;omega) hfit).mono ?_;rintro r w5 ⟨rfl,hk5⟩;have hS5:=hS4.kept hk5;have hb5:=hb4.kept hk5;have hO5:=hO4.kept hk5;have hF5:Fr (fun g=>g=b\/g=s) w w5:=hF4.kept hk5;rw[show Px.pAt z ((({ a:=A+32,cut:=false,err:=0 }:Px.Bt).a - 1) / 8)=Px.ay z (A+32) from rfl];generalize hPE:Px.ay z (A+32)=P at *;have HPE:Hid (P=Px.ay z (A+32)):=hPE.symm;clear hPE;have d4:=hS5.c4;have d7:=hS5.c7;have hf5:=hO5.fz;have H5:Hid (SC w5 s true false 0 0 0/\BAt w5 b v ⟨A+32,false,0⟩/\OAt w5 s N (.slice p out.length c) out/\Fr (fun g=>g=b\/g=s) w w5):=⟨hS5,hb5,hO5,hF5⟩;clear hS4 hO4 hb4 hF4 hk5 hS5 hb5 hO5 hF5 PRE;go_wp2_with fail;obtain ⟨hS5,hb5,hO5,hF5⟩:=H5.out;have h7:Fr1 s w5 (w5.setCell ⟨s,7,none⟩ (.int .i64 (P:Int))):=(Fr1.refl _ _).set _ _;have hS6:=hS5.setEnd P;have hO6:=hO5.set hsN 7 (by omega) (.int .i64 (P:Int));have hb6:=hb5.fr h7 (fun e=>hsb e.symm);have hF6:Fr (fun g=>g=b\/g=s) w (w5.setCell ⟨s,7,none⟩ (.int .i64 (P:Int))):=hF5.trans' h7 (fun i _ e=>Or.inr e);generalize w5.setCell ⟨s,7,none⟩ (.int .i64 (P:Int))=W6 at *;refine (FA.out _ hb6).mono ?_;rintro r w7 ⟨rfl,hb7,hw7⟩;have hP:Hid (yP w b s N v (.slice p out.length c) z out A w7 ⟨A+32,false,19⟩ true false 0 0 P) :=
        ⟨hb7,hO6.fr hw7 hsb hob,hS6.same (hw7.block s hS6.lt hsb),hF6.trans' hw7 (fun i _ e=>Or.inl e),Or.inr (Or.inl ⟨hfit,HSUM.out,rfl,rfl,rfl,rfl,rfl,HPE.out⟩)⟩
       clear hS5 hb5 hO5 hF5 hS6 hO6 hb6 hF6 h7;go_wp2
       (try simp only [Exit.inBlock,Exit.then]);refine bodyPost_ret (results_none rfl _ _ _) rfl ?_
       exact ⟨rfl,_,_,_,_,_,_,hP.out⟩
   ·have c2:wr.cell? ⟨b,2,none⟩=some (.bool true):=hb.c2
    have hP:Hid (yP w b s N v ov z out A wr ⟨8*z.length,true,0⟩ false false 0 0 0):=⟨hb,hO1,hSC1,hw.mono (fun i _ e=>Or.inl e),Or.inl ⟨hno,rfl,rfl,rfl,rfl,rfl,rfl⟩⟩;clear HST hno;go_wp2
    (try simp only [Exit.inBlock,Exit.then]);refine bodyPost_ret (results_none rfl _ _ _) rfl ?_
    exact ⟨rfl,_,_,_,_,_,_,hP.out⟩
end Go.Proofs.YtgooinallljbpaaGreatDoor
namespace Px
theorem M6 (z:List One) (a:Nat):ab z a 16=ab z a 8+256*ab z (a+8) 8:=dg z a 8 8
def fp (c f:Nat):Prop:=c % 16≠8\/7<c / 16\/(256*c+f) % 31≠0\/f / 32 % 2=1
theorem As (z:List One) (s:St) (hs:s.ph = .head) (p:Nat):bF s (ab z 0 16) p=if ab z 0 8 % 16≠8\/7<ab z 0 8 / 16\/(256*ab z 0 8+ab z 8 8) % 31≠0\/ab z 8 8 / 32 % 2=1 then .err 10 else .ok { s with ph := .block,window:=2^(8+ab z 0 8 / 16) } false:=by
 have e:ab z 0 16=ab z 0 8+256*ab z 8 8:=by have:=M6 z 0;rw[Nat.zero_add] at this;exact this
 have l1:=bO z 0 8;have l2:=bO z 8 8;have q1:ab z 0 16 % 256=ab z 0 8:=by omega
 have q2:ab z 0 16 / 256=ab z 8 8:=by omega
 unfold bF;rw[hs];simp only
 rw[q1,q2]
theorem DD {z:List One} (hb:16<=8*z.length) (h:¬ fp (ab z 0 8) (ab z 8 8)):Run z 0 St.start 16 { St.start with ph := .block,window:=2^(8+ab z 0 8 / 16) }:=by
 refine .one (.num (a:=0) (k:=false) (n:=16) rfl (by omega) ?_);show bF St.start (ab z 0 16) _=_
 unfold fp at h;rw[As z St.start rfl,if_neg h]
theorem Ev {z:List One} (hb:16<=8*z.length) (h:fp (ab z 0 8) (ab z 8 8)):Stop z 0 St.start [] ⟨16,false,10⟩:=by
 refine .err 0 _ 10 16 (.refl _ _) ?_ rfl (by decide) hb;refine Fails.num (a:=0) (n:=16) rfl (by omega) ?_;show bF St.start (ab z 0 16) _=_
 unfold fp at h;rw[As z St.start rfl,if_pos h]
theorem Ij {z:List One} (hb:¬ 16<=8*z.length):Stop z 0 St.start [] ⟨8*z.length,true,0⟩ :=
 .cut 0 _ (.refl _ _) (.num (n:=16) rfl (by omega)) rfl
theorem ND (z:List One) (a:Nat):ab z a 3=aZ z a+2*ab z (a+1) 2:=by
 have:=dg z a 1 2
 have e:ab z a 1=aZ z a:=by show 0+aZ z (a+0)*2^0=_;simp
 rw[e] at this;exact this
abbrev blS (s:St) (out:List One):St:={ s with ph := .block,out:=out }
theorem rV (z:List One) (s:St) (out:List One) (a p:Nat):bF (blS s out) (ab z a 3) p =
  if ab z (a+1) 2=0 then .ok { s with ph := .ssize,last:=decide (aZ z a=1),out:=out } true
  else if ab z (a+1) 2=1 then .ok { s with ph := .sym aO bW,last:=decide (aZ z a=1),out:=out } false
  else if ab z (a+1) 2=2 then .ok { s with ph := .counts,last:=decide (aZ z a=1),out:=out } false else .err 11:=by
 have e:=ND z a;have l1:=pT z a;have q1:ab z a 3 % 2=aZ z a:=by omega
 have q2:ab z a 3 / 2=ab z (a+1) 2:=by omega
 unfold bF;simp only
 rw[q1,q2];rfl
theorem yJ {z:List One} {a0:Nat} {s0:St} {a:Nat} {s:St} {out:List One} (h:Run z a0 s0 a (blS s out)) (hb:a+3<=8*z.length) (ht:ab z (a+1) 2=0):Run z a0 s0 (up8 (a+3)) { s with ph := .ssize,last:=decide (aZ z a=1),out:=out }:=by
 have hr:=rV z s out a (ay z (a+3));rw[if_pos ht] at hr;exact .tail h (.num (k:=true) (n:=3) rfl hb hr)
theorem AR {z:List One} {a0:Nat} {s0:St} {a:Nat} {s:St} {out:List One} (h:Run z a0 s0 a (blS s out)) (hb:a+3<=8*z.length) (ht:ab z (a+1) 2=1):Run z a0 s0 (a+3) { s with ph := .sym aO bW,last:=decide (aZ z a=1),out:=out }:=by
 have hr:=rV z s out a (ay z (a+3));rw[if_neg (by omega),if_pos ht] at hr;exact .tail h (.num (k:=false) (n:=3) rfl hb hr)
theorem Fv {z:List One} {a0:Nat} {s0:St} {a:Nat} {s:St} {out:List One} (h:Run z a0 s0 a (blS s out)) (hb:a+3<=8*z.length) (ht:ab z (a+1) 2=2):Run z a0 s0 (a+3) { s with ph := .counts,last:=decide (aZ z a=1),out:=out }:=by
 have hr:=rV z s out a (ay z (a+3));rw[if_neg (by omega),if_neg (by omega),if_pos ht] at hr;exact .tail h (.num (k:=false) (n:=3) rfl hb hr)
theorem Fx {z:List One} {a0:Nat} {s0:St} {a:Nat} {s:St} {out:List One} (h:Run z a0 s0 a (blS s out)) (hb:a+3<=8*z.length) (h0:ab z (a+1) 2≠0) (h1:ab z (a+1) 2≠1) (h2:ab z (a+1) 2≠2):Stop z a0 s0 out ⟨a+3,false,11⟩:=by
 have hr:=rV z s out a (ay z (a+3));rw[if_neg h0,if_neg h1,if_neg h2] at hr;exact .err a _ 11 _ h (.num (n:=3) rfl hb hr) rfl (by decide) hb
theorem Fw {z:List One} {a0:Nat} {s0:St} {a:Nat} {s:St} {out:List One} (h:Run z a0 s0 a (blS s out)) (hb:¬ a+3<=8*z.length):Stop z a0 s0 out ⟨8*z.length,true,0⟩ :=
 .cut a _ h (.num (n:=3) rfl (by omega)) rfl
theorem EM {z:List One} {a0:Nat} {s0:St} {a:Nat} {s:St} {out o:List One} (h:Ends z a0 s0 a (ebS s out) o) (hl:s.last=false):Run z a0 s0 a (blS s out):=by
 have e:ebS s out = .ok (blS s out) false:=by
  unfold ebS St.endBlock;show (if s.last=true then _ else _)=_
  rw[if_neg (by rw[hl];decide)]
 rw[e] at h;exact h.ok
theorem EO {z:List One} {a0:Nat} {s0:St} {a:Nat} {s:St} {out o:List One} (h:Ends z a0 s0 a (ebS s out) o) (hl:s.last=true):Run z a0 s0 (up8 a) { s with ph := .sum,out:=out }:=by
 have e:ebS s out = .ok { s with ph := .sum,out:=out } true:=by
  unfold ebS St.endBlock;show (if s.last=true then _ else _)=_
  rw[if_pos hl]
 rw[e] at h;exact h.ok
theorem JC {z:List One} {a0:Nat} {s0:St} {a:Nat} {s:St} {out:List One} (h:Run z a0 s0 a { s with ph := .sum,out:=out }) (hb:a+32<=8*z.length) (hs:gG (ab z a 32)=65536*bJ out+bx out):Run z a0 s0 (a+32) { s with ph := .fin,out:=out }:=by
 refine .tail h (.num (k:=false) (n:=32) rfl hb ?_);show (if gG (ab z a 32)≠65536*bJ out+bx out then _ else _)=_
 rw[if_neg (by rw[hs];simp)];rfl
theorem JE {z:List One} {a:Nat} {s:St} {out:List One} (hb:a+32<=8*z.length) (hs:gG (ab z a 32)≠65536*bJ out+bx out):Fails z a { s with ph := .sum,out:=out } 19 (a+32):=by
 refine Fails.num (n:=32) rfl hb ?_;show (if gG (ab z a 32)≠65536*bJ out+bx out then _ else _)=_
 rw[if_pos hs]
theorem JD {z:List One} {a0:Nat} {s0:St} {a:Nat} {s:St} {out:List One} (h:Run z a0 s0 a { s with ph := .sum,out:=out }) (hb:¬ a+32<=8*z.length):Stop z a0 s0 out ⟨8*z.length,true,0⟩ :=
 .cut a _ h (.num (n:=32) rfl (by omega)) rfl
end Px
namespace Go.Proofs.YtgooinallljbpaaGreatDoor
open Go.RowKit
set_option linter.unusedSimpArgs false
set_option linter.unusedVariables false
theorem Et:(Tryz.prog.info? 134).map (fun i=>(i.zero,i.size,i.bytes))=some (some (.agg #[.int .i64 0,.int .i64 0,.bool false,.slice none 0 0,.slice none 0 0,.slice none 0 0]),6,96):=by kernel_rfl
structure RI (w W:World) (s b N:Nat) (ov bv:Value) (out:List Px.One) (nb win:Nat):Prop where
 oat:OAt W s N ov out
 sc:SC W s false false 0 0 0
 c1:W.cell? ⟨s,1,none⟩=some bv
 c2:W.cell? ⟨s,2,none⟩=some (.int .i64 (win:Int))
 own:∃ ys,W.ownsRow N 134 6 bv nb ys
 dis:∀ g,bv.ownBlock=some g->ov.ownBlock≠some g
 kept:Kept w W
theorem RI.b {w W W':World} {s b N:Nat} {ov bv:Value} {out:List Px.One} {nb win:Nat} (h:RI w W s b N ov bv out nb win) (hbw:w.heap.size<=b) (hsb:s≠b) (hbN:b<N) (k:Fr1 b W W'):RI w W' s b N ov bv out nb win:=by
 have hs:=h.sc.lt;refine ⟨h.oat.fr k hsb (fun g hg e=>by have:=(h.oat.own.lt g hg).1;omega),h.sc.same (k.block s hs hsb),(k.cell hs hsb).trans h.c1,(k.cell hs hsb).trans h.c2,?_,h.dis,Fr.to_kept h.kept k (fun i hi e=>by omega)⟩;obtain ⟨ys,hy⟩:=h.own;exact ⟨ys,aQ hy k (fun g hg e=>by have:=(hy.lt g hg).1;omega)⟩
theorem RI.kept' {w W W':World} {s b N:Nat} {ov bv:Value} {out:List Px.One} {nb win:Nat} (h:RI w W s b N ov bv out nb win) (k:Kept W W'):RI w W' s b N ov bv out nb win:=by
 have hs:=h.sc.lt;obtain ⟨ys,hy⟩:=h.own;exact ⟨h.oat.kept k,h.sc.kept k,(k.cell (p:=⟨s,1,none⟩) hs).trans h.c1,(k.cell (p:=⟨s,2,none⟩) hs).trans h.c2,⟨ys,cC hy k⟩,h.dis,h.kept.trans k⟩
theorem SC.two {W:World} {s:Nat} {dn sm:Bool} {er at' en:Nat} (h:SC W s dn sm er at' en) (j:Nat) (hj:j<3) (u:Value):SC (W.setCell ⟨s,j,none⟩ u) s dn sm er at' en:=
 ⟨by rw[aa _ _ _ _ _ (by omega)];exact h.c3,by rw[aa _ _ _ _ _ (by omega)];exact h.c4,by rw[aa _ _ _ _ _ (by omega)];exact h.c5,by rw[aa _ _ _ _ _ (by omega)];exact h.c6,by rw[aa _ _ _ _ _ (by omega)];exact h.c7⟩
structure lB (w W:World) (z:List Px.One) (s:Nat) (ov:Value) (out:List Px.One) (dn sm:Bool) (er at' en:Nat):Prop where
 oat:OAt W s (s+2) ov out
 sc:SC W s dn sm er at' en
 kept:Kept w W
 by':Px.dt out
 len:out.length<=258*(8*z.length)
 st:(∃ t,Px.Stop z 0 Px.St.start out t/\dn=false/\sm=false/\en=0/\er=t.err/\at'=(if t.err=0 then 0 else Px.ay z t.a)) \/
  (∃ a s1,Px.Run z 0 Px.St.start a s1/\s1.ph = .sum/\s1.out=out/\Px.Fails z a s1 19 (a+32)/\dn=true/\sm=false/\er=19/\at'=Px.ay z (a+32)/\en=Px.ay z (a+32)) \/
  (∃ a s1,Px.Run z 0 Px.St.start a s1/\s1.ph = .fin/\s1.out=out/\a<=8*z.length/\dn=true/\sm=true/\en=Px.ay z a/\er=(if a<8*z.length then 20 else 0)/\at'=(if a<8*z.length then Px.pAt z (a / 8) else 0))
def K8 (w W:World) (z:List Px.One) (s:Nat):Prop:=∃ ov out dn sm er at' en,lB w W z s ov out dn sm er at' en
abbrev S0c:Array Value:=#[.slice none 0 0,.slice none 0 0,.int .i64 0,.bool false,.bool false,.int .i64 0,.int .i64 0,.int .i64 0]
theorem zY (w:World) (v:Value):RI w ((w.alloc (.cells S0c 109)).alloc (.cells #[v,.int .i64 0,.bool false,.int .i64 0] 129)) w.heap.size (w.heap.size+1) (w.heap.size+2) (.slice none 0 0) (.slice none 0 0) [] 0 0/\BAt ((w.alloc (.cells S0c 109)).alloc (.cells #[v,.int .i64 0,.bool false,.int .i64 0] 129)) (w.heap.size+1) v ⟨0,false,0⟩:=by
 have c:∀ k u,S0c[k]? = some u->((w.alloc (.cells S0c 109)).alloc (.cells #[v,.int .i64 0,.bool false,.int .i64 0] 129)).cell? ⟨w.heap.size,k,none⟩=some u:=by
  intro k u hk;rw[World.cell?_alloc_past _ _ _ (by simp)];rw[World.cell?_alloc_at _ _ _ _ rfl];exact hk
 have e:w.heap.size+1=(w.alloc (.cells S0c 109)).heap.size:=by simp
 refine ⟨⟨⟨c 0 _ rfl,?_,World.ownsRow_nil _ _ _ _⟩,⟨c 3 _ rfl,c 4 _ rfl,c 5 _ rfl,c 6 _ rfl,c 7 _ rfl⟩,c 1 _ rfl,c 2 _ rfl,⟨[],World.ownsRow_nil _ _ _ _⟩,(fun g hg=>by cases hg),((Below.refl _ _).alloc (Nat.le_refl _) _).alloc (by simp) _⟩,?_⟩
 ·intro k
  rw[World.frozen?_alloc_past _ _ _ (by simp)];exact World.frozen?_alloc_at _ _ _ _ rfl
 ·exact ⟨by rw[World.cell?_alloc_at _ _ _ _ e];rfl,by rw[World.cell?_alloc_at _ _ _ _ e];rfl,by rw[World.cell?_alloc_at _ _ _ _ e];rfl,by rw[World.cell?_alloc_at _ _ _ _ e];rfl,fun k=>World.frozen?_alloc_at _ _ _ _ e⟩
theorem zZ (v:Value) (z:List Px.One) (w:World) (hz:ZAt w v z) (hg:Px.good z) (hvw:∀ g,ae v=some g->g<w.heap.size) (hoff:16<=8*z.length->Px.fp (Px.ab z 0 8) (Px.ab z 8 8)) :
  Calls Tryz.prog 41 #[v] w fun r w'=>r = .returned (.pointer (some ⟨w.heap.size,0,none⟩))/\K8 w w' z w.heap.size:=by
 have hz2:=hg.2.1;have ST:=zY w v;obtain ⟨vp,vc,rfl⟩:=hz.form;have HST:Hid _:=ST;clear ST;go_enter Tryz.func41,Tryz.ntmps41;go_wp2_with fail;obtain ⟨hR1,hb1⟩:=HST.out;have hszN:w.heap.size+2<=((w.alloc (.cells S0c 109)).alloc (.cells #[.slice vp z.length vc,.int .i64 0,.bool false,.int .i64 0] 129)).heap.size:=by simp
 generalize (w.alloc (.cells S0c 109)).alloc (.cells #[.slice vp z.length vc,.int .i64 0,.bool false,.int .i64 0] 129)=w1 at *;have hvb:∀ g,ae (.slice vp z.length vc)=some g->g≠w.heap.size+1:=fun g hg=>by have:=hvw g hg;omega
 have hz1:ZAt w1 (.slice vp z.length vc) z:=hz.fr (S:=fun _=>False) (Fr.of_kept hR1.kept) (fun _ _ e=>e);refine (lI (w.heap.size+1) _ z _ 8 w1 hb1 hz1 hvb hg (by show 0<=_;omega) (by omega)).mono ?_;rintro r w2 ⟨c,rfl,hc,hc2,hb2,hw2⟩;have hR2:=hR1.b (by omega) (by omega) (by omega) hw2;have hz2':=hz1.fr hw2 hvb;go_wp2_with fail;refine (lI (w.heap.size+1) _ z _ 8 w2 hb2 hz2' hvb hg (J4 8 (by show 0<=_;omega)) (by omega)).mono ?_;rintro r w3 ⟨f,rfl,hf,hf2,hb3,hw3⟩;have hR3:=hR2.b (by omega) (by omega) (by omega) hw3;have hz3:=hz2'.fr hw3 hvb;have HC2:Hid _:=hc2;have HF2:Hid _:=hf2;clear hc2 hf2;have hc256:c<256:=hc;have hf256:f<256:=hf;by_cases h16:16<=8*z.length
 ·have e3:(((⟨0,false,0⟩:Px.Bt).num z 8).num z 8)=⟨16,false,0⟩:=by
   rw[Px.cA (show 0+8<=8*z.length by omega),Px.cA (show 0+8+8<=8*z.length by omega)]
  have e2:((⟨0,false,0⟩:Px.Bt).num z 8)=⟨8,false,0⟩:=Px.cA (show 0+8<=8*z.length by omega);rw[e3] at hb3;have q1:c=Px.ab z 0 8:=HC2.out (by simp) (by show 0+8<=_;omega);have q2:f=Px.ab z 8 8:=by
   have:=HF2.out
   rw[e2] at this;exact this (by simp) (by show 8+8<=_;omega)
  have k2:w3.cell? ⟨w.heap.size+1,2,none⟩=some (.bool false):=hb3.c2;have FA:Hid (Calls Tryz.prog 60 #[.pointer (some ⟨w.heap.size+1,0,none⟩),.int .i64 10] w3 fun r w'=>r = .returned (.tuple #[])/\BAt w' (w.heap.size+1) (.slice vp z.length vc) ⟨16,false,10⟩/\Fr1 (w.heap.size+1) w3 w'):=cV _ _ _ 10 w3 hb3 rfl rfl;have ONF:Hid (∀ W,BAt W (w.heap.size+1) (.slice vp z.length vc) ⟨16,false,10⟩->Calls Tryz.prog 61 #[.pointer (some ⟨w.heap.size+1,0,none⟩)] W fun r w'=>r = .returned (.bool false)/\w'=W):=fun W hW=>a9 _ _ _ W hW
  have HEQ:Hid (Px.fp c f):=by show Px.fp c f;rw[q1,q2];exact hoff h16
  have HBAD:Hid (Px.fp c f->Px.Stop z 0 Px.St.start [] ⟨16,false,10⟩):=fun h=>Px.Ev h16 (by rw[<- q1,<- q2];exact h)
  have HOK:Hid (¬ Px.fp c f->Px.Run z 0 Px.St.start 16 { Px.St.start with ph := .block,window:=2^(8+c / 16) }):=fun h=>by rw[q1] at h ⊢;exact Px.DD h16 (by rw[<- q2];exact h)
  clear e2 e3 q1 q2 hR1 hR2 hb1 hb2 hz1 hz2' hw2 hw3 HST HC2 HF2;by_cases p1:c % 16≠8
  ·have g1:((c:Int) % 16 != 8)=true:=by rw[bne_iff_ne];omega
   have hstop:Hid (Px.Stop z 0 Px.St.start [] ⟨16,false,10⟩):=HBAD.out (Or.inl p1);clear p1 HBAD HOK;go_wp2_with fail;refine FA.out.mono ?_;rintro r wf ⟨rfl,hbf,hwf⟩;have hRf:=hR3.b (by omega) (by omega) (by omega) hwf;have s2:=hRf.c2;have hfs:=hRf.oat.fz;have HRf:Hid _:=hRf;clear hR3 hRf;go_wp2_with fail;have hRf:=HRf.out;have hlt4:Fr1 w.heap.size wf (wf.setCell ⟨w.heap.size,2,none⟩ (.int .i64 (wrap64 (2^(8+c / 16))))):=(Fr1.refl _ _).set _ _;have hS4:=hRf.sc.two 2 (by omega) (.int .i64 (wrap64 (2^(8+c / 16))));have hO4:=hRf.oat.set (by omega) 2 (by omega) (.int .i64 (wrap64 (2^(8+c / 16))));have hb4:=hbf.fr hlt4 (by omega);have hz4:=(hz3.fr hwf hvb).fr hlt4 (fun g hg e=>by have:=hvw g hg;omega);have hK4:Kept w (wf.setCell ⟨w.heap.size,2,none⟩ (.int .i64 (wrap64 (2^(8+c / 16))))):=Fr.to_kept hRf.kept hlt4 (fun i hi e=>by omega);generalize wf.setCell ⟨w.heap.size,2,none⟩ (.int .i64 (wrap64 (2^(8+c / 16))))=W4 at *;have k3':W4.cell? ⟨w.heap.size+1,3,none⟩=some (.int .i64 10):=hb4.c3;have d5:=hS4.c5;have d6:=hS4.c6;have hf4:=hO4.fz;have HE:Hid (∀ W,BAt W (w.heap.size+1) (.slice vp z.length vc) ⟨16,false,10⟩->ZAt W (.slice vp z.length vc) z->Calls Tryz.prog 68 #[.pointer (some ⟨w.heap.size+1,0,none⟩)] W fun r w'=>r = .returned (.int .i64 (Px.ay z 16:Int))/\Kept W w'):=fun W h1 h2=>fW _ _ z ⟨16,false,10⟩ W h1 h2 hg (by show 0<16;omega) h16
   have HZ4:Hid (ZAt W4 (.slice vp z.length vc) z):=hz4;have H4:Hid (OAt W4 w.heap.size (w.heap.size+2) (.slice none 0 0) []/\SC W4 w.heap.size false false 0 0 0/\Kept w W4):=⟨hO4,hS4,hK4⟩;clear hS4 hO4 hK4 hlt4 hRf HRf hbf hz4 s2 hfs hwf FA;go_loopw [7] (fun u W=>u = .bool false/\W=W4) (fun _ _=>0)
   case atStart=>exact ⟨rfl,rfl⟩
   case round=>
    obtain ⟨rfl,rfl⟩:=hrel;go_wp2_with fail;refine (ONF.out _ hb4).mono ?_;rintro r w5 ⟨rfl,rfl⟩;go_wp2_with fail;refine (ONF.out _ hb4).mono ?_;rintro r w5 ⟨rfl,rfl⟩;go_wp2_with fail;obtain ⟨hO4,hS4,hK4⟩:=H4.out;have h5:Fr1 w.heap.size w5 (w5.setCell ⟨w.heap.size,5,none⟩ (.int .i64 10)):=(Fr1.refl _ _).set _ _;have hS6:SC (w5.setCell ⟨w.heap.size,5,none⟩ (.int .i64 10)) w.heap.size false false 10 0 0:=hS4.setErr 10;have hO6:=hO4.set (by omega) 5 (by omega) (.int .i64 10);have hb6:=hb4.fr h5 (by omega);have hz6:=HZ4.out.fr h5 (fun g hg e=>by have:=hvw g hg;omega);have hK6:Kept w (w5.setCell ⟨w.heap.size,5,none⟩ (.int .i64 10)):=Fr.to_kept hK4 h5 (fun i hi e=>by omega);generalize w5.setCell ⟨w.heap.size,5,none⟩ (.int .i64 10)=W6 at *;refine (HE.out _ hb6 hz6).mono ?_;rintro r w7 ⟨rfl,hk7⟩;have hS7:=hS6.kept hk7;have hO7:=hO6.kept hk7;have d6':=hS7.c6;have hf7:=hO7.fz 6;have h8:Fr1 w.heap.size w7 (w7.setCell ⟨w.heap.size,6,none⟩ (.int .i64 (Px.ay z 16:Int))):=(Fr1.refl _ _).set _ _;have hP:Hid (lB w (w7.setCell ⟨w.heap.size,6,none⟩ (.int .i64 (Px.ay z 16:Int))) z w.heap.size (.slice none 0 0) [] false false 10 (Px.ay z 16) 0) :=
     ⟨hO7.set (by omega) 6 (by omega) _,hS7.setAt _,Fr.to_kept (hK6.trans hk7) h8 (fun i hi e=>by omega),(fun x hx=>by cases hx),by simp,Or.inl ⟨_,hstop.out,rfl,rfl,rfl,rfl,rfl⟩⟩
    clear hS7 hO7 h8 hS6 hO6 hb6 hz6 hK6 h5 hO4 hS4 hK4;go_wp2;go_ret;exact ⟨rfl,_,_,_,_,_,_,_,hP.out⟩
  ·have g1:((c:Int) % 16 != 8)=false:=by rw[bne_eq_false_iff_eq];omega
   by_cases p2:7<c / 16
   ·have g2:(7:Int)<(c:Int) / 16:=by omega
    have hstop:Hid (Px.Stop z 0 Px.St.start [] ⟨16,false,10⟩):=HBAD.out (Or.inr (Or.inl p2));clear p1 p2 HBAD HOK;go_wp2_with fail;refine FA.out.mono ?_;rintro r wf ⟨rfl,hbf,hwf⟩;have hRf:=hR3.b (by omega) (by omega) (by omega) hwf;have s2:=hRf.c2;have hfs:=hRf.oat.fz;have HRf:Hid _:=hRf;clear hR3 hRf;go_wp2_with fail;have hRf:=HRf.out;have hlt4:Fr1 w.heap.size wf (wf.setCell ⟨w.heap.size,2,none⟩ (.int .i64 (wrap64 (2^(8+c / 16))))):=(Fr1.refl _ _).set _ _;have hS4:=hRf.sc.two 2 (by omega) (.int .i64 (wrap64 (2^(8+c / 16))));have hO4:=hRf.oat.set (by omega) 2 (by omega) (.int .i64 (wrap64 (2^(8+c / 16))));have hb4:=hbf.fr hlt4 (by omega);have hz4:=(hz3.fr hwf hvb).fr hlt4 (fun g hg e=>by have:=hvw g hg;omega);have hK4:Kept w (wf.setCell ⟨w.heap.size,2,none⟩ (.int .i64 (wrap64 (2^(8+c / 16))))):=Fr.to_kept hRf.kept hlt4 (fun i hi e=>by omega);generalize wf.setCell ⟨w.heap.size,2,none⟩ (.int .i64 (wrap64 (2^(8+c / 16))))=W4 at *;have k3':W4.cell? ⟨w.heap.size+1,3,none⟩=some (.int .i64 10):=hb4.c3;have d5:=hS4.c5;have d6:=hS4.c6;have hf4:=hO4.fz;have HE:Hid (∀ W,BAt W (w.heap.size+1) (.slice vp z.length vc) ⟨16,false,10⟩->ZAt W (.slice vp z.length vc) z->Calls Tryz.prog 68 #[.pointer (some ⟨w.heap.size+1,0,none⟩)] W fun r w'=>r = .returned (.int .i64 (Px.ay z 16:Int))/\Kept W w'):=fun W h1 h2=>fW _ _ z ⟨16,false,10⟩ W h1 h2 hg (by show 0<16;omega) h16
    have HZ4:Hid (ZAt W4 (.slice vp z.length vc) z):=hz4;have H4:Hid (OAt W4 w.heap.size (w.heap.size+2) (.slice none 0 0) []/\SC W4 w.heap.size false false 0 0 0/\Kept w W4):=⟨hO4,hS4,hK4⟩;clear hS4 hO4 hK4 hlt4 hRf HRf hbf hz4 s2 hfs hwf FA;go_loopw [7] (fun u W=>u = .bool false/\W=W4) (fun _ _=>0)
    case atStart=>exact ⟨rfl,rfl⟩
    case round=>
     obtain ⟨rfl,rfl⟩:=hrel;go_wp2_with fail;refine (ONF.out _ hb4).mono ?_;rintro r w5 ⟨rfl,rfl⟩;go_wp2_with fail;refine (ONF.out _ hb4).mono ?_;rintro r w5 ⟨rfl,rfl⟩;go_wp2_with fail;obtain ⟨hO4,hS4,hK4⟩:=H4.out;have h5:Fr1 w.heap.size w5 (w5.setCell ⟨w.heap.size,5,none⟩ (.int .i64 10)):=(Fr1.refl _ _).set _ _;have hS6:SC (w5.setCell ⟨w.heap.size,5,none⟩ (.int .i64 10)) w.heap.size false false 10 0 0:=hS4.setErr 10;have hO6:=hO4.set (by omega) 5 (by omega) (.int .i64 10);have hb6:=hb4.fr h5 (by omega);have hz6:=HZ4.out.fr h5 (fun g hg e=>by have:=hvw g hg;omega);have hK6:Kept w (w5.setCell ⟨w.heap.size,5,none⟩ (.int .i64 10)):=Fr.to_kept hK4 h5 (fun i hi e=>by omega);generalize w5.setCell ⟨w.heap.size,5,none⟩ (.int .i64 10)=W6 at *;refine (HE.out _ hb6 hz6).mono ?_;rintro r w7 ⟨rfl,hk7⟩;have hS7:=hS6.kept hk7;have hO7:=hO6.kept hk7;have d6':=hS7.c6;have hf7:=hO7.fz 6;have h8:Fr1 w.heap.size w7 (w7.setCell ⟨w.heap.size,6,none⟩ (.int .i64 (Px.ay z 16:Int))):=(Fr1.refl _ _).set _ _;have hP:Hid (lB w (w7.setCell ⟨w.heap.size,6,none⟩ (.int .i64 (Px.ay z 16:Int))) z w.heap.size (.slice none 0 0) [] false false 10 (Px.ay z 16) 0) :=
      ⟨hO7.set (by omega) 6 (by omega) _,hS7.setAt _,Fr.to_kept (hK6.trans hk7) h8 (fun i hi e=>by omega),(fun x hx=>by cases hx),by simp,Or.inl ⟨_,hstop.out,rfl,rfl,rfl,rfl,rfl⟩⟩
     clear hS7 hO7 h8 hS6 hO6 hb6 hz6 hK6 h5 hO4 hS4 hK4;go_wp2;go_ret;exact ⟨rfl,_,_,_,_,_,_,_,hP.out⟩
   ·have g2:(c:Int) / 16<=7:=by omega
    by_cases p3:(256*c+f) % 31≠0
    ·have g3:((256*(c:Int)+(f:Int)) % 31 != 0)=true:=by rw[bne_iff_ne];omega
     have hstop:Hid (Px.Stop z 0 Px.St.start [] ⟨16,false,10⟩):=HBAD.out (Or.inr (Or.inr (Or.inl p3)));clear p1 p2 p3 HBAD HOK;go_wp2_with fail;refine FA.out.mono ?_;rintro r wf ⟨rfl,hbf,hwf⟩;have hRf:=hR3.b (by omega) (by omega) (by omega) hwf;have s2:=hRf.c2;have hfs:=hRf.oat.fz;have HRf:Hid _:=hRf;clear hR3 hRf;go_wp2_with fail;have hRf:=HRf.out;have hlt4:Fr1 w.heap.size wf (wf.setCell ⟨w.heap.size,2,none⟩ (.int .i64 (wrap64 (2^(8+c / 16))))):=(Fr1.refl _ _).set _ _;have hS4:=hRf.sc.two 2 (by omega) (.int .i64 (wrap64 (2^(8+c / 16))));have hO4:=hRf.oat.set (by omega) 2 (by omega) (.int .i64 (wrap64 (2^(8+c / 16))));have hb4:=hbf.fr hlt4 (by omega);have hz4:=(hz3.fr hwf hvb).fr hlt4 (fun g hg e=>by have:=hvw g hg;omega);have hK4:Kept w (wf.setCell ⟨w.heap.size,2,none⟩ (.int .i64 (wrap64 (2^(8+c / 16))))):=Fr.to_kept hRf.kept hlt4 (fun i hi e=>by omega);generalize wf.setCell ⟨w.heap.size,2,none⟩ (.int .i64 (wrap64 (2^(8+c / 16))))=W4 at *;have k3':W4.cell? ⟨w.heap.size+1,3,none⟩=some (.int .i64 10):=hb4.c3;have d5:=hS4.c5;have d6:=hS4.c6;have hf4:=hO4.fz;have HE:Hid (∀ W,BAt W (w.heap.size+1) (.slice vp z.length vc) ⟨16,false,10⟩->ZAt W (.slice vp z.length vc) z->Calls Tryz.prog 68 #[.pointer (some ⟨w.heap.size+1,0,none⟩)] W fun r w'=>r = .returned (.int .i64 (Px.ay z 16:Int))/\Kept W w'):=fun W h1 h2=>fW _ _ z ⟨16,false,10⟩ W h1 h2 hg (by show 0<16;omega) h16
     have HZ4:Hid (ZAt W4 (.slice vp z.length vc) z):=hz4;have H4:Hid (OAt W4 w.heap.size (w.heap.size+2) (.slice none 0 0) []/\SC W4 w.heap.size false false 0 0 0/\Kept w W4):=⟨hO4,hS4,hK4⟩;clear hS4 hO4 hK4 hlt4 hRf HRf hbf hz4 s2 hfs hwf FA;go_loopw [7] (fun u W=>u = .bool false/\W=W4) (fun _ _=>0)
     case atStart=>exact ⟨rfl,rfl⟩
     case round=>
      obtain ⟨rfl,rfl⟩:=hrel;go_wp2_with fail;refine (ONF.out _ hb4).mono ?_;rintro r w5 ⟨rfl,rfl⟩;go_wp2_with fail;refine (ONF.out _ hb4).mono ?_;rintro r w5 ⟨rfl,rfl⟩;go_wp2_with fail;obtain ⟨hO4,hS4,hK4⟩:=H4.out;have h5:Fr1 w.heap.size w5 (w5.setCell ⟨w.heap.size,5,none⟩ (.int .i64 10)):=(Fr1.refl _ _).set _ _;have hS6:SC (w5.setCell ⟨w.heap.size,5,none⟩ (.int .i64 10)) w.heap.size false false 10 0 0:=hS4.setErr 10;have hO6:=hO4.set (by omega) 5 (by omega) (.int .i64 10);have hb6:=hb4.fr h5 (by omega);have hz6:=HZ4.out.fr h5 (fun g hg e=>by have:=hvw g hg;omega);have hK6:Kept w (w5.setCell ⟨w.heap.size,5,none⟩ (.int .i64 10)):=Fr.to_kept hK4 h5 (fun i hi e=>by omega);generalize w5.setCell ⟨w.heap.size,5,none⟩ (.int .i64 10)=W6 at *;refine (HE.out _ hb6 hz6).mono ?_;rintro r w7 ⟨rfl,hk7⟩;have hS7:=hS6.kept hk7;have hO7:=hO6.kept hk7;have d6':=hS7.c6;have hf7:=hO7.fz 6;have h8:Fr1 w.heap.size w7 (w7.setCell ⟨w.heap.size,6,none⟩ (.int .i64 (Px.ay z 16:Int))):=(Fr1.refl _ _).set _ _;have hP:Hid (lB w (w7.setCell ⟨w.heap.size,6,none⟩ (.int .i64 (Px.ay z 16:Int))) z w.heap.size (.slice none 0 0) [] false false 10 (Px.ay z 16) 0) :=
       ⟨hO7.set (by omega) 6 (by omega) _,hS7.setAt _,Fr.to_kept (hK6.trans hk7) h8 (fun i hi e=>by omega),(fun x hx=>by cases hx),by simp,Or.inl ⟨_,hstop.out,rfl,rfl,rfl,rfl,rfl⟩⟩
      clear hS7 hO7 h8 hS6 hO6 hb6 hz6 hK6 h5 hO4 hS4 hK4;go_wp2;go_ret;exact ⟨rfl,_,_,_,_,_,_,_,hP.out⟩
    ·have g3:((256*(c:Int)+(f:Int)) % 31 != 0)=false:=by rw[bne_eq_false_iff_eq];omega
     by_cases p4:f / 32 % 2=1
     ·have g4:((f:Int) / 32 % 2 == 1)=true:=by rw[beq_iff_eq];omega
      have hstop:Hid (Px.Stop z 0 Px.St.start [] ⟨16,false,10⟩):=HBAD.out (Or.inr (Or.inr (Or.inr p4)));clear p1 p2 p3 p4 HBAD HOK;go_wp2_with fail;refine FA.out.mono ?_;rintro r wf ⟨rfl,hbf,hwf⟩;have hRf:=hR3.b (by omega) (by omega) (by omega) hwf;have s2:=hRf.c2;have hfs:=hRf.oat.fz;have HRf:Hid _:=hRf;clear hR3 hRf;go_wp2_with fail;have hRf:=HRf.out;have hlt4:Fr1 w.heap.size wf (wf.setCell ⟨w.heap.size,2,none⟩ (.int .i64 (wrap64 (2^(8+c / 16))))):=(Fr1.refl _ _).set _ _;have hS4:=hRf.sc.two 2 (by omega) (.int .i64 (wrap64 (2^(8+c / 16))));have hO4:=hRf.oat.set (by omega) 2 (by omega) (.int .i64 (wrap64 (2^(8+c / 16))));have hb4:=hbf.fr hlt4 (by omega);have hz4:=(hz3.fr hwf hvb).fr hlt4 (fun g hg e=>by have:=hvw g hg;omega);have hK4:Kept w (wf.setCell ⟨w.heap.size,2,none⟩ (.int .i64 (wrap64 (2^(8+c / 16))))):=Fr.to_kept hRf.kept hlt4 (fun i hi e=>by omega);generalize wf.setCell ⟨w.heap.size,2,none⟩ (.int .i64 (wrap64 (2^(8+c / 16))))=W4 at *;have k3':W4.cell? ⟨w.heap.size+1,3,none⟩=some (.int .i64 10):=hb4.c3;have d5:=hS4.c5;have d6:=hS4.c6;have hf4:=hO4.fz;have HE:Hid (∀ W,BAt W (w.heap.size+1) (.slice vp z.length vc) ⟨16,false,10⟩->ZAt W (.slice vp z.length vc) z->Calls Tryz.prog 68 #[.pointer (some ⟨w.heap.size+1,0,none⟩)] W fun r w'=>r = .returned (.int .i64 (Px.ay z 16:Int))/\Kept W w'):=fun W h1 h2=>fW _ _ z ⟨16,false,10⟩ W h1 h2 hg (by show 0<16;omega) h16
      have HZ4:Hid (ZAt W4 (.slice vp z.length vc) z):=hz4;have H4:Hid (OAt W4 w.heap.size (w.heap.size+2) (.slice none 0 0) []/\SC W4 w.heap.size false false 0 0 0/\Kept w W4):=⟨hO4,hS4,hK4⟩;clear hS4 hO4 hK4 hlt4 hRf HRf hbf hz4 s2 hfs hwf FA;go_loopw [7] (fun u W=>u = .bool false/\W=W4) (fun _ _=>0)
      case atStart=>exact ⟨rfl,rfl⟩
      case round=>
       obtain ⟨rfl,rfl⟩:=hrel;go_wp2_with fail;refine (ONF.out _ hb4).mono ?_;rintro r w5 ⟨rfl,rfl⟩;go_wp2_with fail;refine (ONF.out _ hb4).mono ?_;rintro r w5 ⟨rfl,rfl⟩;go_wp2_with fail;obtain ⟨hO4,hS4,hK4⟩:=H4.out;have h5:Fr1 w.heap.size w5 (w5.setCell ⟨w.heap.size,5,none⟩ (.int .i64 10)):=(Fr1.refl _ _).set _ _;have hS6:SC (w5.setCell ⟨w.heap.size,5,none⟩ (.int .i64 10)) w.heap.size false false 10 0 0:=hS4.setErr 10;have hO6:=hO4.set (by omega) 5 (by omega) (.int .i64 10);have hb6:=hb4.fr h5 (by omega);have hz6:=HZ4.out.fr h5 (fun g hg e=>by have:=hvw g hg;omega);have hK6:Kept w (w5.setCell ⟨w.heap.size,5,none⟩ (.int .i64 10)):=Fr.to_kept hK4 h5 (fun i hi e=>by omega);generalize w5.setCell ⟨w.heap.size,5,none⟩ (.int .i64 10)=W6 at *;refine (HE.out _ hb6 hz6).mono ?_;rintro r w7 ⟨rfl,hk7⟩;have hS7:=hS6.kept hk7;have hO7:=hO6.kept hk7;have d6':=hS7.c6;have hf7:=hO7.fz 6;have h8:Fr1 w.heap.size w7 (w7.setCell ⟨w.heap.size,6,none⟩ (.int .i64 (Px.ay z 16:Int))):=(Fr1.refl _ _).set _ _;have hP:Hid (lB w (w7.setCell ⟨w.heap.size,6,none⟩ (.int .i64 (Px.ay z 16:Int))) z w.heap.size (.slice none 0 0) [] false false 10 (Px.ay z 16) 0) :=
        ⟨hO7.set (by omega) 6 (by omega) _,hS7.setAt _,Fr.to_kept (hK6.trans hk7) h8 (fun i hi e=>by omega),(fun x hx=>by cases hx),by simp,Or.inl ⟨_,hstop.out,rfl,rfl,rfl,rfl,rfl⟩⟩
       clear hS7 hO7 h8 hS6 hO6 hb6 hz6 hK6 h5 hO4 hS4 hK4;go_wp2;go_ret;exact ⟨rfl,_,_,_,_,_,_,_,hP.out⟩
     ·exfalso
      have:=HEQ.out
      unfold Px.fp at this;omega
 ·have e3:(((⟨0,false,0⟩:Px.Bt).num z 8).num z 8)=⟨8*z.length,true,0⟩:=by
   by_cases h8:0+8<=8*z.length
   ·rw[Px.cA h8,Px.cM (by omega)]
   ·rw[Px.cM (by omega),Px.kV rfl]
  rw[e3] at hb3;have hstop:Hid (Px.Stop z 0 Px.St.start [] ⟨8*z.length,true,0⟩):=Px.Ij h16;have k2:w3.cell? ⟨w.heap.size+1,2,none⟩=some (.bool true):=hb3.c2;have k3:w3.cell? ⟨w.heap.size+1,3,none⟩=some (.int .i64 0):=hb3.c3;have s2:=hR3.c2;have hfs:=hR3.oat.fz;have ONF:Hid (∀ W,BAt W (w.heap.size+1) (.slice vp z.length vc) ⟨8*z.length,true,0⟩->Calls Tryz.prog 61 #[.pointer (some ⟨w.heap.size+1,0,none⟩)] W fun r w'=>r = .returned (.bool false)/\w'=W):=fun W hW=>a9 _ _ _ W hW
  clear e3 hR1 hR2 hb1 hb2 hz1 hz2' hw2 hw3 HST HC2 HF2;go_wp2_with fail;have hlt4:Fr1 w.heap.size w3 (w3.setCell ⟨w.heap.size,2,none⟩ (.int .i64 (wrap64 (2^(8+c / 16))))):=(Fr1.refl _ _).set _ _;have hS4:=hR3.sc.two 2 (by omega) (.int .i64 (wrap64 (2^(8+c / 16))));have hO4:=hR3.oat.set (by omega) 2 (by omega) (.int .i64 (wrap64 (2^(8+c / 16))));have hb4:=hb3.fr hlt4 (by omega);have hK4:Kept w (w3.setCell ⟨w.heap.size,2,none⟩ (.int .i64 (wrap64 (2^(8+c / 16))))):=Fr.to_kept hR3.kept hlt4 (fun i hi e=>by omega);generalize w3.setCell ⟨w.heap.size,2,none⟩ (.int .i64 (wrap64 (2^(8+c / 16))))=W4 at *;have hP:Hid (lB w W4 z w.heap.size (.slice none 0 0) [] false false 0 0 0):=⟨hO4,hS4,hK4,(fun x hx=>by cases hx),by simp,Or.inl ⟨_,hstop.out,rfl,rfl,rfl,rfl,rfl⟩⟩;have k3':W4.cell? ⟨w.heap.size+1,3,none⟩=some (.int .i64 0):=hb4.c3;clear hS4 hO4 hK4 hlt4 hR3 hb3 hz3 k2 k3 s2 hfs;go_loopw [7] (fun u W=>u = .bool false/\W=W4) (fun _ _=>0)
  case atStart=>exact ⟨rfl,rfl⟩
  case round=>
   obtain ⟨rfl,rfl⟩:=hrel;go_wp2_with fail;refine (ONF.out _ hb4).mono ?_;rintro r w5 ⟨rfl,rfl⟩;go_wp2_with fail;refine (ONF.out _ hb4).mono ?_;rintro r w5 ⟨rfl,rfl⟩;go_wp2;go_ret;exact ⟨rfl,_,_,_,_,_,_,_,hP.out⟩
