import Derived.Test.YthniahejjamhgaaGreatDoorRoK1
import Derived.Test.YthniahejjamhgaaGreatDoorRoZ8
import Derived.Test.YthniahejjamhgaaGreatDoorRoZ5
import Derived.Test.YthniahejjamhgaaGreatDoorRoV1
set_option maxRecDepth 100000
set_option maxHeartbeats 6400000
namespace Go.Proofs.YthniahejjamhgaaGreatDoor
open Go.RowKit Px
set_option linter.unusedSimpArgs false
set_option linter.unusedVariables false
structure PEnv (h:Hd) (C b:Nat) (rv:Nat->Nat->Nat) (F:Nat->Nat):Prop where
 W1:1<=h.W
 W2:h.W<=16
 H1:1<=h.H
 H2:h.H<=16
 lg:legal h.K h.D
 L:h.L=0
 c256:C<=256
 eb:b=(h.W*bitsP h+7) / 8
 lt:∀ k i,rv k i<256
 f4:∀ k,F k<=4
 col:h.K=3->∀ k i,k<h.H->i<h.W->bitsO (rv k (i*h.D / 8)) (i*h.D % 8) h.D<C
def upv (rv:Nat->Nat->Nat) (k:Nat):Nat->Nat:=match k with
 | 0=>fun _=>0
 | k+1=>rv k
theorem chn_chan {K D:Nat} (h:legal K D):chn K=chan K:=by
 rcases h.k with rfl | rfl | rfl | rfl | rfl<;>rfl
theorem bitsP_bd {h:Hd} (hk:legal h.K h.D):1<=bitsP h/\bitsP h<=64:=by
 unfold bitsP;rw[chn_chan hk];have h1:=chan_le (K:=h.K);have h2:=hk.d;have h3:chan h.K*h.D<=4*16:=Nat.mul_le_mul h1.2 (by omega);have h4:1*1<=chan h.K*h.D:=Nat.mul_le_mul h1.1 (by omega);omega
theorem PEnv.fit {h:Hd} {C b:Nat} {rv:Nat->Nat->Nat} {F:Nat->Nat} (e:PEnv h C b rv F):h.W*bitsP h<=1024/\1<=h.W*bitsP h:=by
 have hb:=bitsP_bd e.lg;have h3:h.W*bitsP h<=16*64:=Nat.mul_le_mul e.W2 hb.2;have h4:1*1<=h.W*bitsP h:=Nat.mul_le_mul e.W1 hb.1;omega
theorem PEnv.b128 {h:Hd} {C b:Nat} {rv:Nat->Nat->Nat} {F:Nat->Nat} (e:PEnv h C b rv F):1<=b/\b<=128:=by
 have:=e.fit;have:=e.eb;omega
structure RwS (h:Hd) (C b:Nat) (rv:Nat->Nat->Nat) (F:Nat->Nat) (r:Rw) (k m:Nat):Prop where
 hd:r.hd=h
 colours:r.colours=C
 pass:r.pass=0
 line:r.line=k
 columns:r.columns=h.W
 lines:r.lines=h.H
 size:r.size=b
 taken:r.taken=m
 filter:1<=m->r.filter=F k
 f256:r.filter<256
 row:∀ i,i+1<m->r.row i=rv k i
 row256:∀ i,r.row i<256
 above:∀ i,i<b->r.above i=upv rv k i
 abv256:∀ i,r.above i<256
 known:∀ x y,x<16->r.known (y*16+x)=decide (y<k/\x<h.W)
 smp:∀ j,r.smp j<65536
theorem RwS.good {h:Hd} {C b:Nat} {rv:Nat->Nat->Nat} {F:Nat->Nat} {r:Rw} {k m:Nat} (e:PEnv h C b rv F) (s:RwS h C b rv F r k m) (hk:k<h.H) (hm:m<=b):RwGood r:=by
 have hb:=e.b128;have hf:=e.fit;have hK:=e.lg.k6;have hW:=e.W2;have hH:=e.H2;have hL:=e.L;have hC:=e.c256;have ps:r.ps=⟨0,1,1,0,1,1⟩:=by unfold Rw.ps psOf;rw[s.hd,hL,if_neg (by omega)]
 refine ⟨⟨⟨by rw[s.hd];exact hW,by rw[s.hd];exact hH,by rw[s.hd];exact hK.2,by rw[s.hd];exact hK.1,by rw[s.hd];omega,s.f256,s.row256,s.abv256⟩,by rw[s.hd];exact e.lg.d,by rw[s.columns];exact hW,by rw[s.lines];exact hH,by rw[s.line];omega,by rw[s.columns,s.hd];exact hf.1,by rw[s.size];exact hb.2,by rw[s.taken];omega,by rw[s.pass];omega,by rw[s.pass];omega,by rw[s.colours];exact hC⟩,by rw[s.taken];omega,fun _=>⟨fun i hi => ?_,?_⟩⟩
 ·unfold Rw.px;rw[ps];rw[s.columns] at hi;show 0+i*1<16;omega
 ·unfold Rw.py;rw[ps,s.line];show 0+k*1<16;omega
theorem wthn01 (n:Nat) (h:1<=n):wthn 0 1 n=n:=by unfold wthn;rw[if_neg (by omega),Nat.div_one];omega
theorem start_rs {h:Hd} {C b:Nat} {rv:Nat->Nat->Nat} {F:Nat->Nat} (e:PEnv h C b rv F):RwS h C b rv F (Rw.start h C) 0 0:=by
 have hL:=e.L;obtain ⟨q,hq⟩:∃ q,q=({ rw0 h C with pass:=0 }:Rw):=⟨_,rfl⟩;have q1:q.hd=h:=by rw[hq];rfl
 have q2:q.pass=0:=by rw[hq]
 have ps:q.ps=⟨0,1,1,0,1,1⟩:=by unfold Rw.ps psOf;rw[q1,hL,if_neg (by omega)]
 have es:npSet q={ q with columns:=h.W,lines:=h.H }:=by
  have c1:wthn q.ps.cf q.ps.cs q.hd.W=h.W:=by rw[ps,q1];exact wthn01 _ e.W1
  have c2:wthn q.ps.rf q.ps.rs q.hd.H=h.H:=by rw[ps,q1];exact wthn01 _ e.H1
  unfold npSet;rw[c1,c2]
 have en:npGo 8 q={ q with columns:=h.W,lines:=h.H }:=by
  show (if q.pass<(cntP q.hd.L:Int) then (if 0<(npSet q).columns/\0<(npSet q).lines then npSet q else npGo 7 { npSet q with pass:=q.pass+1 }) else q)=_
  rw[if_pos (by rw[q1,q2,hL];decide),es,if_pos ⟨by show 0<h.W;exact e.W1,by show 0<h.H;exact e.H1⟩]
 have e1:Rw.start h C=npEnd { q with columns:=h.W,lines:=h.H }:=by
  rw[<- en,hq];rfl
 rw[e1];unfold npEnd;refine ⟨q1,by rw[hq];rfl,q2,rfl,rfl,rfl,?_,by rw[hq];rfl,fun q=>by omega,by rw[hq];show 0<256;omega,fun i q=>by omega,fun i=>by rw[hq];show 0<256;omega,fun i _=>rfl,fun i=>by show 0<256;omega,fun x y _ => ?_,fun j=>by rw[hq];show 0<65536;omega⟩
 ·show (h.W*bitsP q.hd+7) / 8=b;rw[q1];exact e.eb.symm
 ·show q.known _=_
  rw[hq,decide_eq_false (by omega)];rfl
theorem notWhole {h:Hd} {C b:Nat} {rv:Nat->Nat->Nat} {F:Nat->Nat} {r:Rw} {k m:Nat} (e:PEnv h C b rv F) (s:RwS h C b rv F r k m):wholeP r=false:=by
 unfold wholeP;rw[s.hd,s.pass,e.L];decide
theorem take_f {h:Hd} {C b:Nat} {rv:Nat->Nat->Nat} {F:Nat->Nat} {r:Rw} {k:Nat} (e:PEnv h C b rv F) (s:RwS h C b rv F r k 0):∃ r',r.take (F k)=(r',0)/\RwS h C b rv F r' k 1:=by
 have hF:=e.f4 k;refine ⟨{ r with taken:=1,filter:=F k },?_,⟨s.hd,s.colours,s.pass,s.line,s.columns,s.lines,s.size,rfl,fun _=>rfl,by show F k<256;omega,fun i q=>by omega,s.row256,s.above,s.abv256,s.known,s.smp⟩⟩;unfold Rw.take;rw[notWhole e s,if_neg (by decide),if_pos s.taken];unfold Rw.takeF;rw[if_neg (by omega)]
theorem stp_eq {h:Hd} (hk:legal h.K h.D):stepP h=stpB h.K h.D:=by
 unfold stepP stpB bitsP;rw[chn_chan hk]
 split<;>omega
theorem stp_pos {h:Hd}:1<=stepP h:=by unfold stepP;omega
theorem undo_rv {h:Hd} {C b:Nat} {rv:Nat->Nat->Nat} {F:Nat->Nat} {r:Rw} {k m:Nat} (e:PEnv h C b rv F) (s:RwS h C b rv F r k m) (h1:1<=m) (hm:m<=b):undo r (m - 1) ((rv k (m - 1)+256 - gssB h.K h.D (F k) (rv k) (upv rv k) (m - 1)) % 256)=rv k (m - 1):=by
 have hp:=stp_pos (h:=h);have hu:∀ j,upv rv k j<256:=fun j=>by
  cases k with
  | zero=>show 0<256;omega
  | succ k=>exact e.lt k j
 have eg:gss r.filter (leftP r (m - 1)) (r.above (m - 1)) (cornP r (m - 1))=gssB h.K h.D (F k) (rv k) (upv rv k) (m - 1):=by
  unfold gssB leftP cornP;rw[s.filter h1,s.above _ (by omega),s.hd,<- stp_eq e.lg];by_cases q:stepP h<=m - 1
  ·rw[if_pos q,if_pos q,if_pos q,if_pos q,s.row _ (by omega),s.above _ (by omega)]
  ·rw[if_neg q,if_neg q,if_neg q,if_neg q]
 unfold undo;rw[eg];exact out_undo _ _ (e.lt _ _) (gssB_lt (e.lt k) hu)
theorem take_m {h:Hd} {C b:Nat} {rv:Nat->Nat->Nat} {F:Nat->Nat} {r:Rw} {k m:Nat} (e:PEnv h C b rv F) (s:RwS h C b rv F r k m) (h1:1<=m) (hm:m<b):∃ r',r.take ((rv k (m - 1)+256 - gssB h.K h.D (F k) (rv k) (upv rv k) (m - 1)) % 256)=(r',0)/\RwS h C b rv F r' k (m+1):=by
 have hu:=undo_rv e s h1 (by omega);generalize (rv k (m - 1)+256 - gssB h.K h.D (F k) (rv k) (upv rv k) (m - 1)) % 256=x at *;refine ⟨({ r with taken:=r.taken+1 }:Rw).lay (r.taken - 1) x,?_,?_⟩
 ·unfold Rw.take
  rw[notWhole e s,if_neg (by decide),if_neg (by rw[s.taken];omega),if_pos (by rw[s.taken,s.size];omega)]
 ·have hu2:undo { r with taken:=r.taken+1 } (r.taken - 1) x=rv k (m - 1):=by rw[s.taken];exact hu
  unfold Rw.lay;rw[hu2,s.taken];refine ⟨s.hd,s.colours,s.pass,s.line,s.columns,s.lines,s.size,rfl,fun _=>s.filter h1,s.f256,fun i q => ?_,fun i => ?_,s.above,s.abv256,s.known,s.smp⟩
  ·show upd r.row (m - 1) (rv k (m - 1)) i=_
   by_cases hi:i=m - 1
   ·rw[hi,upd_same]
   ·rw[upd_ne _ _ _ hi];exact s.row i (by omega)
  ·show upd r.row (m - 1) (rv k (m - 1)) i<256
   by_cases hi:i=m - 1
   ·rw[hi,upd_same];exact e.lt _ _
   ·rw[upd_ne _ _ _ hi];exact s.row256 i
theorem layPx_known (r:Rw) (y0:Nat) (hpt:∀ i,i<16->r.pt i=y0*16+i):∀ m,m<=16->∀ x y,x<16->(layPx r m).known (y*16+x)=(if y=y0/\x<m then true else r.known (y*16+x))
 | 0,_,x,y,hx=>by rw[if_neg (by omega)];rfl
 | m+1,hm,x,y,hx=>by
  have ih:=layPx_known r y0 hpt m (by omega) x y hx;show upd (laySm (layPx r m) (r.pt m) _ _).known (r.pt m) true (y*16+x)=_
  rw[laySm_known,hpt m (by omega)];by_cases q:y*16+x=y0*16+m
  ·rw[q,upd_same,if_pos (by omega)]
  ·rw[upd_ne _ _ _ q,ih]
   by_cases q2:y=y0/\x<m
   ·rw[if_pos q2,if_pos (by omega)]
   ·rw[if_neg q2,if_neg (by omega)]
theorem laySm_smp (q:Rw) (a:Nat) (f:Nat->Nat) (hf:∀ k,f k<65536) (hq:∀ j,q.smp j<65536):∀ k j,(laySm q a f k).smp j<65536
 | 0,j=>hq j
 | k+1,j=>by
  show upd (laySm q a f k).smp (4*a+k) (f k) j<65536
  by_cases h:j=4*a+k
  ·rw[h,upd_same];exact hf k
  ·rw[upd_ne _ _ _ h];exact laySm_smp q a f hf hq k j
theorem layPx_smp (r:Rw) (hk:RwOk r) (hq:∀ j,r.smp j<65536):∀ m j,(layPx r m).smp j<65536
 | 0,j=>hq j
 | m+1,j=>laySm_smp (layPx r m) _ _ (fun _=>smpO_lt hk _) (layPx_smp r hk hq m) _ j
structure RwK (h:Hd) (r:Rw) (k:Nat):Prop where
 known:∀ x y,x<16->r.known (y*16+x)=decide (y<k/\x<h.W)
 smp:∀ j,r.smp j<65536
theorem next_keeps (r:Rw):r.next.known=r.known/\r.next.smp=r.smp:=by
 have key:∀ (n:Nat) (q:Rw),(npGo n q).known=q.known/\(npGo n q).smp=q.smp:=by
  intro n
  induction n with
  | zero=>exact fun q=>⟨rfl,rfl⟩
  | succ n ih=>
   intro q;unfold npGo;split
   ·split
    ·exact ⟨rfl,rfl⟩
    ·exact ih _
   ·exact ⟨rfl,rfl⟩
 exact key 8 _
theorem take_e {h:Hd} {C b:Nat} {rv:Nat->Nat->Nat} {F:Nat->Nat} {r:Rw} {k:Nat} (e:PEnv h C b rv F) (s:RwS h C b rv F r k b) (hk:k<h.H):∃ r',r.take ((rv k (b - 1)+256 - gssB h.K h.D (F k) (rv k) (upv rv k) (b - 1)) % 256)=(r',0)/\(k+1<h.H->RwS h C b rv F r' (k+1) 0)/\RwK h r' (k+1):=by
 have hb:=e.b128;have hW2:=e.W2;have hL:=e.L;have hu:=undo_rv e s hb.1 (Nat.le_refl _);generalize (rv k (b - 1)+256 - gssB h.K h.D (F k) (rv k) (upv rv k) (b - 1)) % 256=x at *;obtain ⟨q,hq⟩:∃ q,q=({ r with taken:=r.taken+1 }:Rw).lay (r.taken - 1) x:=⟨_,rfl⟩;have et:r.take x=q.endRow:=by
  unfold Rw.take;rw[notWhole e s,if_neg (by decide),if_neg (by rw[s.taken];omega),if_neg (by rw[s.taken,s.size];omega),hq]
 have hu2:undo { r with taken:=r.taken+1 } (r.taken - 1) x=rv k (b - 1):=by rw[s.taken];exact hu
 have eq:q={ r with taken:=b+1,row:=upd r.row (b - 1) (rv k (b - 1)) }:=by
  rw[hq];unfold Rw.lay;rw[hu2,s.taken]
 have qr:∀ i,i<b->q.row i=rv k i:=fun i hi=>by
  rw[eq];show upd r.row (b - 1) (rv k (b - 1)) i=_
  by_cases h2:i=b - 1
  ·rw[h2,upd_same]
  ·rw[upd_ne _ _ _ h2];exact s.row i (by omega)
 have qr2:∀ i,q.row i<256:=fun i=>by
  rw[eq];show upd r.row (b - 1) (rv k (b - 1)) i<256
  by_cases h2:i=b - 1
  ·rw[h2,upd_same];exact e.lt _ _
  ·rw[upd_ne _ _ _ h2];exact s.row256 i
 have q1:q.hd=h:=by rw[eq];exact s.hd
 have q2:q.columns=h.W:=by rw[eq];exact s.columns
 have q3:q.colours=C:=by rw[eq];exact s.colours
 have q4:q.line=k:=by rw[eq];exact s.line
 have q5:q.lines=h.H:=by rw[eq];exact s.lines
 have q6:q.pass=0:=by rw[eq];exact s.pass
 have q7:q.size=b:=by rw[eq];exact s.size
 have q8:q.filter<256:=by rw[eq];exact s.f256
 have hK:=e.lg.k6;have qok:RwOk q:=⟨by rw[q1];exact hW2,by rw[q1];exact e.H2,by rw[q1];exact hK.2,by rw[q1];exact hK.1,by rw[q1];omega,q8,qr2,by rw[eq];exact s.abv256⟩;have nb:q.bad=false:=by
  unfold Rw.bad;by_cases h3:h.K=3
  ·have:hasC q=true:=hasC_true (fun i hi=>by
    rw[q2] at hi;have hD:h.D=1\/h.D=2\/h.D=4\/h.D=8:=by have:=e.lg;unfold legal at this;omega
    have hbp:bitsP h=h.D:=by unfold bitsP;rw[h3];show 1*h.D=h.D;omega
    have hib:i*h.D / 8<b:=by
     have:=e.eb
     rw[hbp] at this;have hm:(i+1)*h.D<=h.W*h.D:=Nat.mul_le_mul_right _ hi;rw[Nat.add_mul,Nat.one_mul] at hm;omega
    unfold smpO;rw[q1,q3,if_pos (by omega),qr _ hib];exact e.col h3 k i hk hi)
   rw[this];simp
  ·rw[q1,decide_eq_false h3];rfl
 have ps:q.ps=⟨0,1,1,0,1,1⟩:=by unfold Rw.ps psOf;rw[q1,hL,if_neg (by omega)]
 have pt:∀ i,i<16->q.pt i=k*16+i:=fun i _=>by
  unfold Rw.pt Rw.py Rw.px;rw[ps,q4];show (0+k*1)*16+(0+i*1)=_;omega
 have kn:∀ x y,x<16->q.laid.known (y*16+x)=decide (y<k+1/\x<h.W):=fun x y hx=>by
  show (layPx q q.columns).known _=_
  rw[q2,layPx_known q k pt h.W hW2 x y hx];by_cases h2:y=k/\x<h.W
  ·rw[if_pos h2,decide_eq_true (by omega)]
  ·rw[if_neg h2]
   have:q.known (y*16+x)=decide (y<k/\x<h.W):=by rw[eq];exact s.known x y hx
   rw[this];by_cases h4:y<k/\x<h.W
   ·rw[decide_eq_true h4,decide_eq_true (by omega)]
   ·rw[decide_eq_false h4,decide_eq_false (by omega)]
 have sm:∀ j,q.laid.smp j<65536:=fun j=>by
  show (layPx q q.columns).smp j<65536
  exact layPx_smp q qok (fun j=>by rw[eq];exact s.smp j) _ j
 have er:q.endRow=(if q.lines<=q.line+1 then q.laid.next else q.laid,0):=by
  unfold Rw.endRow;rw[nb,if_neg (by decide)]
 rw[et,er];refine ⟨_,rfl,fun h2 => ?_,?_⟩
 ·rw[if_neg (by rw[q4,q5];omega)]
  obtain ⟨l1,l2,l3,l4,l5,l6,l7,l8,l9,l10,l11⟩:=layPx_same q q.columns;refine ⟨by show (layPx q q.columns).hd=h;rw[l1];exact q1,by show (layPx q q.columns).colours=C;rw[l2];exact q3,by show (layPx q q.columns).pass=0;rw[l3];exact q6,by show q.line+1=k+1;rw[q4],by show (layPx q q.columns).columns=h.W;rw[l5];exact q2,by show (layPx q q.columns).lines=h.H;rw[l6];exact q5,by show (layPx q q.columns).size=b;rw[l7];exact q7,rfl,fun q=>by omega,by show (layPx q q.columns).filter<256;rw[l9];exact q8,fun i q=>by omega,fun i=>by show (layPx q q.columns).row i<256;rw[l10];exact qr2 i,fun i hi => ?_,fun i=>by show (layPx q q.columns).row i<256;rw[l10];exact qr2 i,kn,sm⟩;show (layPx q q.columns).row i=rv k i
  rw[l10];exact qr i hi
 ·by_cases h2:q.lines<=q.line+1
  ·rw[if_pos h2]
   obtain ⟨n1,n2⟩:=next_keeps q.laid;exact ⟨fun x y hx=>by rw[n1];exact kn x y hx,fun j=>by rw[n2];exact sm j⟩
  ·rw[if_neg h2];exact ⟨kn,sm⟩
theorem note_idat {t:Rd} (h:t.ctype=idat) (h2:t.sd=false):t.note={ t with sd:=true,st:=St.start,rw:=Rw.start t.hd t.tl.colours }:=by
 have e:t.note1={ t with sd:=true,st:=St.start,rw:=Rw.start t.hd t.tl.colours }:=by
  unfold Rd.note1;rw[if_neg (by rw[h];decide),if_neg (by rw[h];decide),if_pos h];unfold Rd.begin;rw[h2,if_neg (by decide)]
 unfold Rd.note;rw[e];unfold Rd.note2;rw[if_neg (by show ¬ (true && decide (t.ctype≠idat))=true;rw[h];decide)]
theorem idat_go {s:Rd} {h:Hd} {sp sc:Bool} {C N:Nat} (b:Bnd s h sp sc C) (hW:1<=h.W) (hK:h.K=3->sp=true) (hN:0<N) (hN2:N<100000):∃ a,Rn s (beN N++beN idat) a/\DatAt a St.start (Rw.start h C) h 0 N:=by
 obtain ⟨t,ht⟩:∃ t,t=tyS (lnS s N) idat (crcL crcStart (beN idat)):=⟨_,rfl⟩;have t1:t.hd=h:=by rw[ht];exact b.hd
 have t2:t.sd=false:=by rw[ht];exact b.sd
 have t3:t.sp=sp:=by rw[ht];exact b.sp
 have t5:t.ctype=idat:=by rw[ht];rfl
 have t6:t.length=N:=by rw[ht];rfl
 have t7:t.tl.colours=C:=by rw[ht];exact b.col
 have t8:t.dov=false:=by rw[ht];exact b.dov
 have hS:crcL crcStart (beN idat)<4294967296:=crcL_lt _ _ crcStart_lt (beN_lt _);have t9:t.sum<4294967296:=by rw[ht];exact hS
 have ti:RdInv t:=by rw[ht];exact ⟨⟨b.inv.hd.W,b.inv.hd.H,b.inv.hd.D,b.inv.hd.K,b.inv.hd.L⟩,b.inv.raw,b.inv.clear,b.inv.colours⟩
 have o:=open_go (T:=idat) (n:=N) (a:={ t with sd:=true,st:=St.start,rw:=Rw.start t.hd t.tl.colours }) b (by omega) (by decide) (by
  rw[<- ht];unfold Rd.checkType;rw[if_neg (by rw[t5];decide),if_neg (by rw[t1];omega),if_neg (by unfold Rd.short;rw[t5];simp)];unfold Rd.checkKind;rw[if_neg (by rw[t5];decide),if_neg (by rw[t5];decide),if_neg (by rw[t5];decide),if_pos t5];unfold Rd.checkData;rw[t8,t3,t1,if_neg];intro q;by_cases k3:h.K=3
  ·rw[hK k3] at q;simp at q
  ·rw[decide_eq_false k3] at q;simp at q) (by rw[<- ht];exact note_idat t5 t2) t6 (by omega)
 refine ⟨_,o,rfl,t5,⟨⟨ti.hd.W,ti.hd.H,ti.hd.D,ti.hd.K,ti.hd.L⟩,ti.raw,ti.clear,ti.colours⟩,t9,rfl,t6,rfl,?_,t1⟩;show Rw.start t.hd t.tl.colours=_
 rw[t1,t7]
def stHead (n:Nat):List Nat:=[8,29,1,n % 256,n / 256 % 256,(4294967295 - n) % 256,(4294967295 - n) / 256 % 256]
theorem head_go {a:Rd} {r:Rw} {h:Hd} {n N:Nat} (d:DatAt a St.start r h 0 N) (h0:0<n) (hn:n<=65535) (hN:7<N) (hN2:N<100000):∃ s' st,Rn a (stHead n) s'/\DatAt s' st r h 7 N/\StD st 0 n:=by
 obtain ⟨a1,g1,d1⟩:=dat_step d (takeA r) (okA r) (by decide) (by decide) (by omega) (by omega) hN2;obtain ⟨a2,g2,d2⟩:=dat_step d1 (takeBq r) (okB r) (by decide) (by decide) (by omega) (by omega) hN2;obtain ⟨a3,g3,d3⟩:=dat_step d2 (takeC r) (okC r) (by decide) (by decide) (by omega) (by omega) hN2;obtain ⟨s1,s2,s3,s4,t1,t2,t3,t4,o1,o2,o3,o4,p1,p2,p3,hd⟩:=size_go r n h0 hn;obtain ⟨a4,g4,d4⟩:=dat_step d3 t1 o1 (by decide) (by omega) (by omega) (by omega) hN2;obtain ⟨a5,g5,d5⟩:=dat_step d4 t2 o2 (by omega) (by omega) (by omega) (by omega) hN2;obtain ⟨a6,g6,d6⟩:=dat_step d5 t3 o3 (by omega) (by omega) (by omega) (by omega) hN2;obtain ⟨a7,g7,d7⟩:=dat_step d6 t4 o4 (by omega) (by have:=(hd.p3 h0).1;omega) (by omega) (by omega) hN2;exact ⟨a7,s4,g1.append (g2.append (g3.append (g4.append (g5.append (g6.append g7))))),d7,hd⟩
def byt (h:Hd) (rv:Nat->Nat->Nat) (F:Nat->Nat) (k m:Nat):Nat:=if m=0 then F k else (rv k (m - 1)+256 - gssB h.K h.D (F k) (rv k) (upv rv k) (m - 1)) % 256
structure FlS (h:Hd) (C b:Nat) (rv:Nat->Nat->Nat) (F:Nat->Nat) (s:Rd) (k m:Nat):Prop where
 ex:∃ st r,DatAt s st r h (7+(k*(1+b)+m)) (h.H*(1+b)+11)/\StD st (k*(1+b)+m) (h.H*(1+b))/\(k<h.H->RwS h C b rv F r k m)/\RwK h r k
theorem FlS.step {h:Hd} {C b:Nat} {rv:Nat->Nat->Nat} {F:Nat->Nat} {s:Rd} {k m:Nat} (e:PEnv h C b rv F) (q:FlS h C b rv F s k m) (hk:k<h.H) (hm:m<=b):∃ s',Rn s [byt h rv F k m] s'/\FlS h C b rv F s' (if m=b then k+1 else k) (if m=b then 0 else m+1):=by
 obtain ⟨st,r,d,hs,hr,hkn⟩:=q.ex;have hr:=hr hk;have hb:=e.b128;have hF:=e.f4 k;have hH:=e.H2;have h1:(k+1)*(1+b)<=h.H*(1+b):=Nat.mul_le_mul_right _ hk;have h2:h.H*(1+b)<=16*129:=Nat.mul_le_mul hH (by omega);rw[Nat.add_mul,Nat.one_mul] at h1;have hx:byt h rv F k m<256:=by unfold byt;split<;>omega
 have key:∃ r',r.take (byt h rv F k m)=(r',0)/\((if m=b then k+1 else k)<h.H->RwS h C b rv F r' (if m=b then k+1 else k) (if m=b then 0 else m+1))/\RwK h r' (if m=b then k+1 else k):=by
  by_cases e0:m=0
  ·subst e0
   obtain ⟨r',t,hr'⟩:=take_f e hr;refine ⟨r',by unfold byt;rw[if_pos rfl];exact t,fun _ => ?_,?_⟩
   ·rw[if_neg (by omega),if_neg (by omega)];exact hr'
   ·rw[if_neg (by omega)];exact ⟨hr'.known,hr'.smp⟩
  ·by_cases eb:m=b
   ·subst eb
    obtain ⟨r',t,hr',hk'⟩:=take_e e hr hk;refine ⟨r',by unfold byt;rw[if_neg e0];exact t,fun q => ?_,?_⟩
    ·rw[if_pos rfl,if_pos rfl];rw[if_pos rfl] at q;exact hr' q
    ·rw[if_pos rfl];exact hk'
   ·obtain ⟨r',t,hr'⟩:=take_m e hr (by omega) (by omega)
    refine ⟨r',by unfold byt;rw[if_neg e0];exact t,fun _ => ?_,?_⟩
    ·rw[if_neg eb,if_neg eb];exact hr'
    ·rw[if_neg eb];exact ⟨hr'.known,hr'.smp⟩
 obtain ⟨r',t,k1,k2⟩:=key;obtain ⟨bo,st',tb,hs'⟩:=data_step hs (by omega) (by omega) hx t (hr.good e hk hm);have p3:=(hs.p3 (by omega)).1;have p4:st'.part≠10:=by
  rcases Nat.lt_or_ge (k*(1+b)+m+1) (h.H*(1+b)) with q | q
  ·have:=(hs'.p3 q).1;omega
  ·have:=hs'.p9 (by omega);omega
 obtain ⟨s',g,d'⟩:=dat_step d tb bo (by omega) p4 hx (by omega) (by omega);refine ⟨s',g,⟨st',r',?_,?_,k1,k2⟩⟩
 ·have:7+(k*(1+b)+m)+1=7+((if m=b then k+1 else k)*(1+b)+(if m=b then 0 else m+1)):=by
   split
   ·rw[Nat.add_mul,Nat.one_mul];omega
   ·omega
  rw[<- this];exact d'
 ·have:k*(1+b)+m+1=((if m=b then k+1 else k)*(1+b)+(if m=b then 0 else m+1)):=by
   split
   ·rw[Nat.add_mul,Nat.one_mul];omega
   ·omega
  rw[<- this];exact hs'
def seg (h:Hd) (rv:Nat->Nat->Nat) (F:Nat->Nat) (k j:Nat):List Nat:=(List.range j).map (byt h rv F k)
theorem FlS.go_seg {h:Hd} {C b:Nat} {rv:Nat->Nat->Nat} {F:Nat->Nat} {s:Rd} {k:Nat} (e:PEnv h C b rv F) (q:FlS h C b rv F s k 0) (hk:k<h.H):∀ j,j<=b->∃ s',Rn s (seg h rv F k j) s'/\FlS h C b rv F s' k j
 | 0,_=>⟨s,rfl,q⟩
 | j+1,hj=>by
  obtain ⟨s1,g1,f1⟩:=FlS.go_seg e q hk j (by omega);obtain ⟨s2,g2,f2⟩:=f1.step e hk (by omega);rw[if_neg (by omega),if_neg (by omega)] at f2;refine ⟨s2,?_,f2⟩;unfold seg;rw[List.range_succ,List.map_append];exact g1.append g2
theorem getD_or {l:List Int} {P:Int->Prop} (h:∀ y ∈ l,P y) (h0:P 0) (i:Nat):P (l.getD i 0):=by
 by_cases hi:i<l.length
 ·exact h _ (getD_mem hi)
 ·rw[List.getD_eq_getElem?_getD,List.getElem?_eq_none (by omega)];exact h0
theorem per_of {D:Nat} (hd:D=1\/D=2\/D=4\/D=8):∃ per,D=1/\per=8\/D=2/\per=4\/D=4/\per=2\/D=8/\per=1:=by
 rcases hd with rfl | rfl | rfl | rfl
 ·exact ⟨8,by omega⟩
 ·exact ⟨4,by omega⟩
 ·exact ⟨2,by omega⟩
 ·exact ⟨1,by omega⟩
theorem rowAt_lt (W K D:Nat) (pix:List Int) (hW:1<=W) (hk:legal K D) (hb:∀ y ∈ pix,0<=y/\y<((2^D:Nat):Int)) (k i:Nat):rowAtB W K D 0 1 0 1 pix k i<256:=by
 rw[rowAt_flat W K D k pix hW];by_cases hD:D=16
 ·subst hD
  rw[layK_16];have hg:=getD_or (P:=fun y=>0<=y/\y<((2^16:Nat):Int)) hb (by omega) (k*(W*chan K)+i / 2);split
  ·split<;>omega
  ·omega
 ·obtain ⟨per,hp⟩:=per_of (D:=D) (by have:=hk.d;omega)
  rw[layK_8 D per hp pix _ hb]
  have:=rowSm_lt D (W*chan K) (k*(W*chan K)) (per*i) pix hb per
  have e:D*per=8:=by rcases hp with ⟨rfl,rfl⟩ | ⟨rfl,rfl⟩ | ⟨rfl,rfl⟩ | ⟨rfl,rfl⟩<;>rfl
  rw[e] at this;exact this
theorem rowSm_dig (D n T j0:Nat) (pix:List Int) (h:∀ y ∈ pix,0<=y/\y<((2^D:Nat):Int)):∀ (m q:Nat),q<m->rowSm D n T j0 pix m / 2^(D*(m - 1 - q)) % 2^D=(if j0+q<n then (pix.getD (T+(j0+q)) 0).toNat else 0)
 | 0,q,hq=>by omega
 | m+1,q,hq=>by
  have h2:0<2^D:=Nat.two_pow_pos D;have dl:(if j0+m<n then (pix.getD (T+(j0+m)) 0).toNat else 0)<2^D:=by
   split
   ·have:=getD_or (P:=fun y=>0<=y/\y<((2^D:Nat):Int)) h (by omega) (T+(j0+m));omega
   ·exact h2
  show (rowSm D n T j0 pix m*2^D+(if j0+m<n then (pix.getD (T+(j0+m)) 0).toNat else 0)) / 2^(D*(m+1 - 1 - q)) % 2^D=_
  by_cases e:q=m
  ·subst e
   rw[show q+1 - 1 - q=0 from by omega,Nat.mul_zero,Nat.pow_zero,Nat.div_one,Nat.mul_comm,Nat.mul_add_mod,Nat.mod_eq_of_lt dl]
  ·rw[show m+1 - 1 - q=(m - 1 - q)+1 from by omega,Nat.mul_add,Nat.mul_one,Nat.add_comm (D*(m - 1 - q)) D,Nat.pow_add,<- Nat.div_div_eq_div_mul,Nat.mul_comm (rowSm D n T j0 pix m),Nat.mul_add_div h2,Nat.div_eq_of_lt dl,Nat.add_zero]
   exact rowSm_dig D n T j0 pix h m q (by omega)
theorem col_ok (W K D C:Nat) (pix:List Int) (hW:1<=W) (h3:K=3) (hd:D=1\/D=2\/D=4\/D=8) (hb:∀ y ∈ pix,0<=y/\y<((2^D:Nat):Int)) (hC:∀ y ∈ pix,0<=y/\y<(C:Int)) (k i:Nat) (hi:i<W) (hin:k*W+i<pix.length):bitsO (rowAtB W K D 0 1 0 1 pix k (i*D / 8)) (i*D % 8) D<C:=by
 obtain ⟨per,hp⟩:=per_of hd;obtain ⟨e1,e2,e3,_⟩:=lay_at D per i hp;have c1:chan K=1:=by rw[h3];rfl
 have p1:1<=per:=by omega
 have hq:i % per<per:=Nat.mod_lt _ p1;rw[rowAt_flat W K D k pix hW,layK_8 D per hp pix _ hb];unfold bitsO;rw[e2,e1,rowSm_dig D (W*chan K) (k*(W*chan K)) (per*(i / per)) pix hb per (i % per) hq,<- e3,if_pos (by rw[c1];omega),c1,Nat.mul_one]
 have:=hC _ (getD_mem hin)
 omega
def preN (W H D K:Nat) (pal clr:List Int) (n:Nat):List Nat:=
 nl signI++(chN ihdr (hdN W H D K 0)++(nl (palB pal)++(nl (clrB K clr)++(beN (n+11)++beN idat++stHead n))))
def tailN (adlr crc:Nat):List Nat:=beN adlr++(beN crc++nl (chB iend []))
theorem file_nl (W H D K:Nat) (pal clr rl:List Int):∃ a c,nl (fileB W H D K 0 0 pal clr rl)=preN W H D K pal clr rl.length++(nl rl++tailN a c):=by
 have ez:nl (zStream 0 rl)=stHead rl.length++(nl rl++beN (adlL 1 rl)):=by
  unfold zStream;rw[nl_app,nl_app,nl_be];have e1:nl (stB 1 rl)=[1,rl.length % 256,rl.length / 256 % 256,(4294967295 - rl.length) % 256,(4294967295 - rl.length) / 256 % 256]++nl rl:=rfl;have e2:nl [((8+16*0:Nat):Int),(zFlg 0:Int)]=[8,29]:=by decide
  rw[e1,e2];unfold stHead;simp only [List.cons_append,List.nil_append]
 refine ⟨adlL 1 rl,crcEnd (crcL crcStart (beN idat++(stHead rl.length++(nl rl++beN (adlL 1 rl))))),?_⟩;unfold fileB preN tailN;rw[nl_app,nl_app,nl_app,nl_app,nl_app,nl_ch,nl_ch idat,nl_hd];unfold chN;rw[nl_len,zStream_len,ez];simp only [List.append_assoc]
theorem two_get:∀ (l:List Int) (i:Nat),i<l.length->(nl (twoB l)).getD (2*i) 0=(l.getD i 0 / 256).toNat/\(nl (twoB l)).getD (2*i+1) 0=(l.getD i 0 % 256).toNat
 | [],i,h=>by simp at h
 | x::l,0,_=>⟨rfl,rfl⟩
 | x::l,i+1,h=>by
  have ih:=two_get l i (by simpa using h);have e:nl (twoB (x::l))=(x / 256).toNat::(x % 256).toNat::nl (twoB l):=rfl;rw[e,show 2*(i+1)=2*i+1+1 from by omega,List.getD_cons_succ,List.getD_cons_succ,List.getD_cons_succ,List.getD_cons_succ,List.getD_cons_succ];exact ih
theorem two_ok {l:List Int} (h:∀ y ∈ l,0<=y/\y<65536):isBytes (twoB l):=by
 intro y hy;unfold twoB at hy;rw[List.mem_flatMap] at hy;obtain ⟨x,hx,hy⟩:=hy
 have:=h x hx
 simp only [List.mem_cons,List.not_mem_nil,or_false] at hy;omega
def colN (K:Nat) (pal:List Int):Nat:=if K=3 then pal.length / 3 else 0
def szB (W K D:Nat):Nat:=(W*(chan K*D)+7) / 8
def filN (fl:List Int) (k:Nat):Nat:=(fl.getD (k % fl.length) 0).toNat
theorem pix_lt {W H K D:Nat} {pal clr pix:List Int} (ok:OkIm W H K D pal clr pix):∀ y ∈ pix,0<=y/\y<((2^D:Nat):Int):=by
 intro y hy
 have:=ok.pixB y hy
 by_cases h3:K=3
 ·rw[if_pos h3] at this
  obtain ⟨n,a,b,c⟩:=ok.pal3 h3;omega
 ·rw[if_neg h3] at this;exact this
theorem env_of {W H K D:Nat} {pal clr pix fl:List Int} (ok:OkIm W H K D pal clr pix) (hf:∀ y ∈ fl,0<=y/\y<=4):PEnv ⟨W,H,D,K,0⟩ (colN K pal) (szB W K D) (rowAtB W K D 0 1 0 1 pix) (filN fl):=by
 have hp:=pix_lt ok;refine ⟨ok.w1,ok.w2,ok.h1,ok.h2,ok.lg,rfl,?_,?_,rowAt_lt W K D pix ok.w1 ok.lg hp,fun k => ?_,fun h3 k i hk hi => ?_⟩
 ·unfold colN
  split
  ·rename_i h3
   obtain ⟨n,a,b,c⟩:=ok.pal3 h3;have hd:D=1\/D=2\/D=4\/D=8:=by have:=ok.lg;unfold legal at this;omega
   have:=pow8_le hd
   omega
  ·omega
 ·show szB W K D=(W*(chn K*D)+7) / 8
  unfold szB;rw[chn_chan ok.lg]
 ·have:=getD_or (P:=fun y=>0<=y/\y<=4) hf (by omega) (k % fl.length)
  unfold filN;omega
 ·replace h3:K=3:=h3
  have hd:D=1\/D=2\/D=4\/D=8:=by have:=ok.lg;unfold legal at this;omega
  have hL:=ok.pixL;have c1:chan K=1:=by rw[h3];rfl
  rw[c1,Nat.mul_one] at hL;replace hk:k<H:=hk;replace hi:i<W:=hi;refine col_ok W K D (colN K pal) pix ok.w1 h3 hd hp (fun y hy => ?_) k i hi ?_
  ·have:=ok.pixB y hy
   unfold colN;exact (by rw[if_pos h3] at this ⊢;exact this)
  ·have:=Nat.mul_le_mul_right W (show k+1<=H from hk)
   rw[Nat.add_mul,Nat.one_mul] at this;rw[hL,Nat.mul_comm W H];omega
theorem pre_go {W H K D:Nat} {pal clr pix fl:List Int} (ok:OkIm W H K D pal clr pix) (hf:∀ y ∈ fl,0<=y/\y<=4):∃ s,Rn rd0 (preN W H D K pal clr (H*(1+szB W K D))) s/\FlS ⟨W,H,D,K,0⟩ (colN K pal) (szB W K D) (rowAtB W K D 0 1 0 1 pix) (filN fl) s 0 0:=by
 have e:=env_of ok hf;have hb:=e.b128;have hH:=ok.h2;have hH1:=ok.h1;have h2:H*(1+szB W K D)<=16*129:=Nat.mul_le_mul hH (by omega);have h3:1*1<=H*(1+szB W K D):=Nat.mul_le_mul hH1 (by omega);obtain ⟨n,hn⟩:∃ n,n=H*(1+szB W K D):=⟨_,rfl⟩;rw[<- hn] at h2 h3 ⊢;obtain ⟨s1,g1,b1⟩:=ihdr_go (L:=0) ok.w1 ok.w2 ok.h1 ok.h2 (by omega) ok.lg;have p:∃ s2,Rn s1 (nl (palB pal)) s2/\Bnd s2 ⟨W,H,D,K,0⟩ (decide (K=3)) false (colN K pal):=by
  by_cases k3:K=3
  ·obtain ⟨m,a1,a2,a3⟩:=ok.pal3 k3
   have hd:D=1\/D=2\/D=4\/D=8:=by have:=ok.lg;unfold legal at this;omega
   have:=pow8_le hd
   obtain ⟨s2,g2,b2⟩:=plte_go (l:=nl pal) (n:=m) b1 ok.w1 k3 (by rw[nl_len];exact a2) a1 (by omega) a3 (nl_lt ok.palB);refine ⟨s2,?_,?_⟩
   ·unfold palB;rw[if_neg (by omega),nl_ch];exact g2
   ·rw[decide_eq_true k3]
    unfold colN;rw[if_pos k3,show pal.length / 3=m from by omega];exact b2
  ·have:=ok.palN k3
   subst this;refine ⟨s1,rfl,?_⟩;rw[decide_eq_false k3];unfold colN;rw[if_neg k3];exact b1
 obtain ⟨s2,g2,b2⟩:=p;have c:∃ s3 sc,Rn s2 (nl (clrB K clr)) s3/\Bnd s3 ⟨W,H,D,K,0⟩ (decide (K=3)) sc (colN K pal):=by
  rcases ok.clr with h0 | ⟨k02,l2,y2⟩ | ⟨k3,l1,l2,y2⟩
  ·subst h0
   exact ⟨s2,_,rfl,b2⟩
  ·have hc:=chan_le (K:=K)
   have hp:=pow_le ok.lg.d;have hcc:chn K=chan K:=chn_chan ok.lg;have hcl:∀ i,i<chn K->(nl (twoB clr)).getD (2*i) 0*256+(nl (twoB clr)).getD (2*i+1) 0<2^D:=fun i hi=>by
    rw[hcc] at hi;obtain ⟨t1,t2⟩:=two_get clr i (by omega)
    have:=y2 _ (getD_mem (show i<clr.length by omega))
    rw[t1,t2];omega
   obtain ⟨s3,g3,b3⟩:=trns_go (l:=nl (twoB clr)) (n:=2*chan K) b2 ok.w1 (by rw[nl_len,twoB_len,l2]) (by omega) (by omega) (nl_lt (two_ok (fun y hy=>by have:=y2 y hy;omega))) (Or.inl ⟨k02,by show 2*chan K=2*chn K;rw[hcc],hcl⟩);refine ⟨s3,_,?_,b3⟩;unfold clrB;rw[if_neg (by omega),if_neg (by omega),nl_ch];exact g3
  ·obtain ⟨m,a1,a2,a3⟩:=ok.pal3 k3
   have hd:D=1\/D=2\/D=4\/D=8:=by have:=ok.lg;unfold legal at this;omega
   have:=pow8_le hd
   obtain ⟨s3,g3,b3⟩:=trns_go (l:=nl clr) (n:=clr.length) b2 ok.w1 (nl_len _) l1 (by omega) (nl_lt y2) (Or.inr ⟨k3,decide_eq_true k3,by unfold colN;rw[if_pos k3];exact l2⟩);refine ⟨s3,_,?_,b3⟩;unfold clrB;rw[if_neg (by omega),if_pos (by omega),nl_ch];exact g3
 obtain ⟨s3,sc,g3,b3⟩:=c;obtain ⟨s4,g4,d4⟩:=idat_go (N:=n+11) b3 ok.w1 (fun k3=>decide_eq_true k3) (by omega) (by omega);obtain ⟨s5,st,g5,d5,t5⟩:=head_go (n:=n) d4 (by omega) (by omega) (by omega) (by omega);refine ⟨s5,?_,⟨st,_,?_,?_,fun _=>start_rs e,?_⟩⟩
 ·unfold preN
  exact sign_go.append (g1.append (g2.append (g3.append (g4.append g5))))
 ·rw[Nat.zero_mul];show DatAt s5 st _ _ 7 (H*(1+szB W K D)+11);rw[<- hn];exact d5
 ·rw[Nat.zero_mul];show StD st 0 (H*(1+szB W K D));rw[<- hn];exact t5
 ·have s:=start_rs e
  exact ⟨s.known,s.smp⟩
theorem pre_len {W H K D:Nat} {pal clr pix:List Int} (ok:OkIm W H K D pal clr pix) (n:Nat):(preN W H D K pal clr n).length<=1700:=by
 have hpal:pal.length<=768:=by
  by_cases k3:K=3
  ·obtain ⟨m,a1,a2,a3⟩:=ok.pal3 k3
   have hd:D=1\/D=2\/D=4\/D=8:=by have:=ok.lg;unfold legal at this;omega
   have:=pow8_le hd
   omega
  ·rw[ok.palN k3];simp
 have hclr:clr.length<=256:=by
  have hc:=chan_le (K:=K);rcases ok.clr with h0 | ⟨k02,l2,y2⟩ | ⟨k3,l1,l2,y2⟩
  ·rw[h0];simp
  ·omega
  ·omega
 have e1:(nl (palB pal)).length<=780:=by
  rw[nl_len];unfold palB;split
  ·simp
  ·rw[chB_len];omega
 have e2:(nl (clrB K clr)).length<=524:=by
  rw[nl_len];unfold clrB;split
  ·simp
  ·rw[chB_len]
   split
   ·omega
   ·rw[twoB_len];omega
 unfold preN;rw[List.length_append,List.length_append,List.length_append,List.length_append,List.length_append,List.length_append,nl_len];show 8+(25+(_+(_+(4+4+7))))<=1700
 omega
structure DcS (h:Hd) (C b:Nat) (rv:Nat->Nat->Nat) (F:Nat->Nat) (d:Dc) (k m:Nat):Prop where
 fl:FlS h C b rv F d.file k m
 err:d.err=0
 cnt:d.count<=1700+(k*(1+b)+m)
theorem seg_len (h:Hd) (rv:Nat->Nat->Nat) (F:Nat->Nat) (k j:Nat):(seg h rv F k j).length=j:=by unfold seg;rw[List.length_map,List.length_range]
theorem DcS.start {W H K D:Nat} {pal clr pix fl:List Int} (ok:OkIm W H K D pal clr pix) (hf:∀ y ∈ fl,0<=y/\y<=4):FeedOk dc0 (preN W H D K pal clr (H*(1+szB W K D)))/\DcS ⟨W,H,D,K,0⟩ (colN K pal) (szB W K D) (rowAtB W K D 0 1 0 1 pix) (filN fl) (dc0.feed (preN W H D K pal clr (H*(1+szB W K D)))) 0 0:=by
 obtain ⟨s,g,f⟩:=pre_go (fl:=fl) ok hf;have hl:=pre_len ok (H*(1+szB W K D));refine ⟨Rn.ok (d:=dc0) g rfl (by show 0+_<=4294967296;omega),?_⟩;rw[Rn.feed (d:=dc0) g rfl];exact ⟨f,rfl,by show 0+(preN W H D K pal clr (H*(1+szB W K D))).length<=_;omega⟩
theorem DcS.small {h:Hd} {C b:Nat} {rv:Nat->Nat->Nat} {F:Nat->Nat} {k m:Nat} (e:PEnv h C b rv F) (hk:k<h.H) (hm:m<=b):k*(1+b)+m<=2064:=by
 have hb:=e.b128;have h1:(k+1)*(1+b)<=h.H*(1+b):=Nat.mul_le_mul_right _ hk;have h2:h.H*(1+b)<=16*129:=Nat.mul_le_mul e.H2 (by omega);rw[Nat.add_mul,Nat.one_mul] at h1;omega
theorem DcS.seg {h:Hd} {C b:Nat} {rv:Nat->Nat->Nat} {F:Nat->Nat} {d:Dc} {k:Nat} (e:PEnv h C b rv F) (q:DcS h C b rv F d k 0) (hk:k<h.H):FeedOk d (seg h rv F k b)/\DcS h C b rv F (d.feed (seg h rv F k b)) k b:=by
 obtain ⟨s,g,f⟩:=q.fl.go_seg e hk b (Nat.le_refl _);have hs:=DcS.small (m:=b) e hk (Nat.le_refl _);have hc:=q.cnt;have hl:=seg_len h rv F k b;refine ⟨Rn.ok g q.err (by omega),?_⟩;rw[Rn.feed g q.err];exact ⟨f,rfl,by show d.count+_<=_;omega⟩
theorem DcS.last {h:Hd} {C b:Nat} {rv:Nat->Nat->Nat} {F:Nat->Nat} {d:Dc} {k:Nat} (e:PEnv h C b rv F) (q:DcS h C b rv F d k b) (hk:k<h.H):FeedOk d [byt h rv F k b]/\DcS h C b rv F (d.feed [byt h rv F k b]) (k+1) 0:=by
 obtain ⟨s,g,f⟩:=q.fl.step e hk (Nat.le_refl _);rw[if_pos rfl,if_pos rfl] at f;have hs:=DcS.small (m:=b) e hk (Nat.le_refl _);have hc:=q.cnt;refine ⟨Rn.ok g q.err (by show d.count+1<=_;omega),?_⟩;rw[Rn.feed g q.err];refine ⟨f,rfl,?_⟩;show d.count+1<=1700+((k+1)*(1+b)+0)
 rw[Nat.add_mul,Nat.one_mul];omega
theorem DcS.hd {h:Hd} {C b:Nat} {rv:Nat->Nat->Nat} {F:Nat->Nat} {d:Dc} {k m:Nat} (q:DcS h C b rv F d k m):d.file.hd=h:=by
 obtain ⟨st,r,dd,_⟩:=q.fl.ex;exact dd.hd
theorem DcS.known {h:Hd} {C b:Nat} {rv:Nat->Nat->Nat} {F:Nat->Nat} {d:Dc} {k m:Nat} (e:PEnv h C b rv F) (q:DcS h C b rv F d k m) (j:Nat):d.file.rw.known (j / h.W*16+j % h.W)=decide (j<k*h.W):=by
 obtain ⟨st,r,dd,_,_,hk⟩:=q.fl.ex;have h1:=e.W1;have h2:=e.W2;have hx:j % h.W<h.W:=Nat.mod_lt _ h1;rw[dd.rw,hk.known _ _ (by omega)]
 have:=Nat.div_lt_iff_lt_mul (x:=j) (y:=k) h1
 by_cases hj:j<k*h.W
 ·rw[decide_eq_true hj,decide_eq_true ⟨this.2 hj,hx⟩]
 ·rw[decide_eq_false hj,decide_eq_false (fun q=>hj (this.1 q.1))]
theorem DcS.smp {h:Hd} {C b:Nat} {rv:Nat->Nat->Nat} {F:Nat->Nat} {d:Dc} {k m:Nat} (q:DcS h C b rv F d k m) (j:Nat):d.file.rw.smp j<65536:=by
 obtain ⟨st,r,dd,_,_,hk⟩:=q.fl.ex;rw[dd.rw];exact hk.smp j
theorem DcS.clear {h:Hd} {C b:Nat} {rv:Nat->Nat->Nat} {F:Nat->Nat} {d:Dc} {k m:Nat} (q:DcS h C b rv F d k m) (j:Nat):d.file.tl.clear j<256:=by
 obtain ⟨st,r,dd,_⟩:=q.fl.ex;exact dd.inv.clear j
theorem upv_abv (W K D:Nat) (pix:List Int) (k:Nat):upv (rowAtB W K D 0 1 0 1 pix) k=abvAtB W K D 0 1 0 1 pix k:=by
 cases k with
 | zero=>rfl
 | succ k=>rfl
theorem rowB_nl (W H K D:Nat) (pix fl:List Int) (b k:Nat):nl (rowB K D (filN fl k) b (rowAtB W K D 0 1 0 1 pix k) (abvAtB W K D 0 1 0 1 pix k))=(List.range (b+1)).map (byt ⟨W,H,D,K,0⟩ (rowAtB W K D 0 1 0 1 pix) (filN fl) k):=by
 rw[List.range_succ_eq_map,List.map_cons,List.map_map];show ((filN fl k:Nat):Int).toNat::nl ((List.range b).map _)=_
 unfold nl;rw[List.map_map];refine congr (congrArg List.cons rfl) (List.map_congr_left (fun i _ => ?_));show (((rowAtB W K D 0 1 0 1 pix k i+256 - gssB K D (filN fl k) (rowAtB W K D 0 1 0 1 pix k) (abvAtB W K D 0 1 0 1 pix k) i) % 256:Nat):Int).toNat=byt _ _ _ k (i+1)
 unfold byt;rw[if_neg (by omega),upv_abv];rfl
theorem pass_drop (W H0 K D:Nat) (pix fl:List Int) (hW:1<=W) (k:Nat):∀ H,k<H->∃ rest,(nl (passB W K D 0 1 0 1 pix fl 0 H)).drop (k*(1+szB W K D))=(List.range (szB W K D+1)).map (byt ⟨W,H0,D,K,0⟩ (rowAtB W K D 0 1 0 1 pix) (filN fl) k)++rest
 | 0,h=>by omega
 | H+1,h=>by
  have e:passB W K D 0 1 0 1 pix fl 0 (H+1)=passB W K D 0 1 0 1 pix fl 0 H++rowB K D (filN fl H) (szB W K D) (rowAtB W K D 0 1 0 1 pix H) (abvAtB W K D 0 1 0 1 pix H):=by
   show passB W K D 0 1 0 1 pix fl 0 H++rowB K D (fl.getD ((0+H) % fl.length) 0).toNat ((within 0 1 W*(chan K*D)+7) / 8) (rowAtB W K D 0 1 0 1 pix H) (abvAtB W K D 0 1 0 1 pix H)=_
   rw[within01 W hW,Nat.zero_add];rfl
  have el:(nl (passB W K D 0 1 0 1 pix fl 0 H)).length=H*(1+szB W K D):=by
   rw[nl_len,passB_len,within01 W hW];rfl
  rw[e,nl_app];by_cases hk:k=H
  ·subst hk
   refine ⟨[],?_⟩;rw[<- el,List.drop_left,rowB_nl W H0,List.append_nil]
  ·obtain ⟨rest,hr⟩:=pass_drop W H0 K D pix fl hW k H (by omega)
   have hle:k*(1+szB W K D)<=(nl (passB W K D 0 1 0 1 pix fl 0 H)).length:=by
    rw[el];exact Nat.mul_le_mul_right _ (by omega)
   rw[List.drop_append_of_le_length hle,hr,List.append_assoc];exact ⟨_,rfl⟩
theorem piece {pre tail rl rest:List Nat} {x b:Nat} {f:Nat->Nat} (h:rl.drop x=(List.range (b+1)).map f++rest) (hx:x<=rl.length):((pre++(rl++tail)).drop (pre.length+x)).take b=(List.range b).map f/\((pre++(rl++tail)).drop (pre.length+x+b)).take 1=[f b]:=by
 have e:(pre++(rl++tail)).drop (pre.length+x)=(List.range b).map f++([f b]++(rest++tail)):=by
  rw[<- List.drop_drop,List.drop_left,List.drop_append_of_le_length hx,h,List.range_succ,List.map_append];simp only [List.map_cons,List.map_nil,List.append_assoc]
 have el:((List.range b).map f).length=b:=by rw[List.length_map,List.length_range]
 constructor
 ·rw[e,List.take_append_of_le_length (by omega),List.take_of_length_le (by omega)]
 ·rw[<- List.drop_drop,e,List.drop_append_of_le_length (by omega),List.drop_of_length_le (by omega)]
  rfl
theorem file_pieces {W H K D:Nat} {pal clr pix fl:List Int} (ok:OkIm W H K D pal clr pix):∃ L0:Nat,(nl (fileB W H D K 0 0 pal clr (passB W K D 0 1 0 1 pix fl 0 H))).length=L0+H*(1+szB W K D)+20/\(nl (fileB W H D K 0 0 pal clr (passB W K D 0 1 0 1 pix fl 0 H))).take L0=preN W H D K pal clr (H*(1+szB W K D))/\((nl (fileB W H D K 0 0 pal clr (passB W K D 0 1 0 1 pix fl 0 H))).drop L0).take (H*(1+szB W K D))=nl (passB W K D 0 1 0 1 pix fl 0 H)/\(∀ k,k<H->((nl (fileB W H D K 0 0 pal clr (passB W K D 0 1 0 1 pix fl 0 H))).drop (L0+k*(1+szB W K D))).take (szB W K D)=seg ⟨W,H,D,K,0⟩ (rowAtB W K D 0 1 0 1 pix) (filN fl) k (szB W K D)/\((nl (fileB W H D K 0 0 pal clr (passB W K D 0 1 0 1 pix fl 0 H))).drop (L0+k*(1+szB W K D)+szB W K D)).take 1=[byt ⟨W,H,D,K,0⟩ (rowAtB W K D 0 1 0 1 pix) (filN fl) k (szB W K D)])/\L0<=1700:=by
 obtain ⟨rl,hrl⟩:∃ rl,rl=passB W K D 0 1 0 1 pix fl 0 H:=⟨_,rfl⟩;have el:rl.length=H*(1+szB W K D):=by rw[hrl,passB_len,within01 W ok.w1];rfl
 obtain ⟨a,c,e⟩:=file_nl W H D K pal clr rl;rw[<- hrl,e,el];have et:(tailN a c).length=20:=rfl;have en:(nl rl).length=H*(1+szB W K D):=by rw[nl_len,el]
 refine ⟨(preN W H D K pal clr (H*(1+szB W K D))).length,?_,List.take_left,?_,fun k hk => ?_,pre_len ok _⟩
 ·rw[List.length_append,List.length_append,et,en];omega
 ·rw[List.drop_left,<- en,List.take_left]
 ·obtain ⟨rest,hr⟩:=pass_drop W H K D pix fl ok.w1 k H hk
  rw[<- hrl] at hr;exact piece hr (by rw[en];exact Nat.mul_le_mul_right _ (by omega))
theorem chB_ok (T:Nat) {l:List Int} (h:isBytes l):isBytes (chB T l):=by
 unfold chB;exact (beB_ok _).app ((beB_ok _).app (h.app (beB_ok _)))
theorem cast_byte (n:Nat):0<=((n % 256:Nat):Int)/\((n % 256:Nat):Int)<256:=by omega
theorem rowB_ok (K D f size:Nat) (row abv:Nat->Nat) (hf:f<=4):isBytes (rowB K D f size row abv):=by
 intro y hy;unfold rowB at hy;rcases List.mem_cons.1 hy with h | h
 ·subst h;omega
 ·rw[List.mem_map] at h
  obtain ⟨i,_,rfl⟩:=h;exact cast_byte _
theorem passB_ok (W K D:Nat) (pix fl:List Int) (hf:∀ y ∈ fl,0<=y/\y<=4):∀ H,isBytes (passB W K D 0 1 0 1 pix fl 0 H)
 | 0=>isBytes.nil
 | H+1=>by
  refine (passB_ok W K D pix fl hf H).app (rowB_ok _ _ _ _ _ _ ?_)
  have:=getD_or (P:=fun y=>0<=y/\y<=4) hf (by omega) ((0+H) % fl.length)
  omega
theorem stB_ok (M:Nat) (hM:M<256) {l:List Int} (h:isBytes l):isBytes (stB M l):=by
 intro y hy;unfold stB at hy;simp only [List.mem_cons] at hy;rcases hy with rfl | rfl | rfl | rfl | rfl | hy
 ·omega
 ·exact cast_byte _
 ·exact cast_byte _
 ·exact cast_byte _
 ·exact cast_byte _
 ·exact h y hy
theorem zStream_ok {l:List Int} (h:isBytes l):isBytes (zStream 0 l):=by
 unfold zStream;refine (isBytes.app (isBytes.app ?_ (stB_ok 1 (by omega) h)) (beB_ok _));intro y hy;simp only [List.mem_cons,List.not_mem_nil,or_false] at hy;rcases hy with rfl | rfl
 ·decide
 ·decide
theorem fileB_ok {W H K D:Nat} {pal clr pix fl:List Int} (ok:OkIm W H K D pal clr pix) (hf:∀ y ∈ fl,0<=y/\y<=4):isBytes (fileB W H D K 0 0 pal clr (passB W K D 0 1 0 1 pix fl 0 H)):=by
 have hK:=ok.lg.k6;have e1:isBytes (palB pal):=by
  unfold palB;split
  ·exact isBytes.nil
  ·exact chB_ok _ ok.palB
 have e2:isBytes (clrB K clr):=by
  unfold clrB;split
  ·exact isBytes.nil
  ·rename_i hc
   apply chB_ok;rcases ok.clr with h0 | ⟨k02,l2,y2⟩ | ⟨k3,l1,l2,y2⟩
   ·rw[h0] at hc;simp at hc
   ·have hp:=pow_le ok.lg.d
    rw[if_neg (by omega)];exact two_ok (fun y hy=>by have:=y2 y hy;omega)
   ·rw[if_pos (by omega)];exact y2
 unfold fileB;exact ((((signI_ok.app (chB_ok _ (hdI_ok _ _ _ _ _ ok.w2 ok.h2 hK.2 hK.1 (by omega)))).app e1).app e2).app (chB_ok _ (zStream_ok (passB_ok W K D pix fl hf H)))).app (chB_ok _ isBytes.nil)
theorem bsOf_str {l:List Int} (h:isBytes l):bsOf (strOfNums l)=nl l:=by
 unfold bsOf nl;rw[strOfNums_data,List.map_map];apply List.map_congr_left;intro x hx
 have:=h x hx
 show (UInt8.ofNat x.toNat).toNat=x.toNat
 exact UInt8.toNat_ofNat_of_lt' (show x.toNat<256 by omega)
theorem bsOf_extract (t:ByteArray) (a b:Nat):bsOf (t.extract a b)=((bsOf t).drop a).take (b - a):=by
 unfold bsOf;rw[ByteArray.data_extract,Array.toList_extract,List.extract_eq_take_drop,List.map_take,List.map_drop]
structure Pcs (W H K D:Nat) (pal clr pix fl:List Int) (t:ByteArray) (L0:Nat):Prop where
 size:t.size=L0+H*(1+szB W K D)+20
 small:L0<=1700
 head:bsOf (t.extract 0 L0)=preN W H D K pal clr (H*(1+szB W K D))
 seg:∀ k,k<H->bsOf (t.extract (L0+k*(1+szB W K D)) (L0+k*(1+szB W K D)+szB W K D))=seg ⟨W,H,D,K,0⟩ (rowAtB W K D 0 1 0 1 pix) (filN fl) k (szB W K D)
 last:∀ k,k<H->bsOf (t.extract (L0+k*(1+szB W K D)+szB W K D) (L0+k*(1+szB W K D)+szB W K D+1))=[byt ⟨W,H,D,K,0⟩ (rowAtB W K D 0 1 0 1 pix) (filN fl) k (szB W K D)]
 rows:∀ k m,k<H->m<=szB W K D->∃ h:k*(1+szB W K D)+m<(t.extract L0 t.size).size,((t.extract L0 t.size)[k*(1+szB W K D)+m]'h).toNat=byt ⟨W,H,D,K,0⟩ (rowAtB W K D 0 1 0 1 pix) (filN fl) k m
theorem pcs_of {W H K D:Nat} {pal clr pix fl:List Int} (ok:OkIm W H K D pal clr pix) (hf:∀ y ∈ fl,0<=y/\y<=4):∃ L0,Pcs W H K D pal clr pix fl (strOfNums (fileB W H D K 0 0 pal clr (passB W K D 0 1 0 1 pix fl 0 H))) L0:=by
 obtain ⟨L0,h1,h2,h3,h4,h5⟩:=file_pieces (fl:=fl) ok;have hb:=bsOf_str (fileB_ok ok hf);generalize strOfNums (fileB W H D K 0 0 pal clr (passB W K D 0 1 0 1 pix fl 0 H))=t at *;rw[<- hb] at h1 h2 h3 h4;rw[bsOf_length] at h1;refine ⟨L0,h1,h5,?_,fun k hk => ?_,fun k hk => ?_,fun k m hk hm => ?_⟩
 ·rw[bsOf_extract,List.drop_zero,Nat.sub_zero];exact h2
 ·rw[bsOf_extract,show L0+k*(1+szB W K D)+szB W K D - (L0+k*(1+szB W K D))=szB W K D from by omega]
  exact (h4 k hk).1
 ·rw[bsOf_extract,show L0+k*(1+szB W K D)+szB W K D+1 - (L0+k*(1+szB W K D)+szB W K D)=1 from by omega]
  exact (h4 k hk).2
 ·have hle:(k+1)*(1+szB W K D)<=H*(1+szB W K D):=Nat.mul_le_mul_right _ hk
  rw[Nat.add_mul,Nat.one_mul] at hle;have hsz:(t.extract L0 t.size).size=t.size - L0:=by rw[ByteArray.size_extract];omega
  have hlt:k*(1+szB W K D)+m<(t.extract L0 t.size).size:=by rw[hsz];omega
  refine ⟨hlt,?_⟩;rw[<- bsOf_get _ _ hlt];obtain ⟨rest,hr⟩:=pass_drop W H K D pix fl ok.w1 k H hk;have e:(bsOf (t.extract L0 t.size))[k*(1+szB W K D)+m]? = some (byt ⟨W,H,D,K,0⟩ (rowAtB W K D 0 1 0 1 pix) (filN fl) k m):=by
   have e1:(bsOf (t.extract L0 t.size)).take (H*(1+szB W K D))=nl (passB W K D 0 1 0 1 pix fl 0 H):=by
    rw[bsOf_extract,List.take_take,Nat.min_eq_left (by omega)];exact h3
   have e2:(bsOf (t.extract L0 t.size))[k*(1+szB W K D)+m]? = (nl (passB W K D 0 1 0 1 pix fl 0 H))[k*(1+szB W K D)+m]?:=by
    rw[<- e1,List.getElem?_take,if_pos (by omega)]
   have e3:((nl (passB W K D 0 1 0 1 pix fl 0 H)).drop (k*(1+szB W K D)))[m]? = (nl (passB W K D 0 1 0 1 pix fl 0 H))[k*(1+szB W K D)+m]? := List.getElem?_drop;rw[e2,<- e3,hr,List.getElem?_append_left (by rw[List.length_map,List.length_range];omega),List.getElem?_map,List.getElem?_range (by omega)];rfl
  exact Option.some.inj ((List.getElem?_eq_getElem _).symm.trans e)
theorem krow_any (x wd H K D k i S:Nat) (xp:Option Addr) (xc:Nat) (pix:List Int) (w:World) (hk:legal K D) (c0:w.cell? ⟨x,0,none⟩=some (.int .i64 (wd:Int))) (c2:w.cell? ⟨x,2,none⟩=some (.int .i64 (K:Int))) (c3:w.cell? ⟨x,3,none⟩=some (.int .i64 (D:Int))) (c6:w.cell? ⟨x,6,none⟩=some (.slice xp pix.length xc)) (lx:LAt w .i64 (.slice xp pix.length xc) pix) (h0:1<=wd) (h1:wd<=16) (h2:H<=16) (hkH:k<H) (hi:i<szB wd K D) (hpL:pix.length=wd*H*chan K) (hb:∀ y ∈ pix,0<=y/\y<((2^D:Nat):Int)) :
  Calls Tryz.prog 25 #[.pointer (some ⟨x,0,none⟩),.int .i64 (k:Int),.int .i64 (i:Int)] w (fun r w'=>r = .returned (.int .i64 (rowAtB wd K D 0 1 0 1 pix k i:Int))/\w'=w) /\
  Calls Tryz.prog 25 #[.pointer (some ⟨x,0,none⟩),.int .i64 (k:Int),.int .i64 ((i:Int) - (S:Int))] w (fun r w'=>r = .returned (.int .i64 (((if S<=i then rowAtB wd K D 0 1 0 1 pix k (i - S) else 0:Nat)):Int))/\w'=w) /\
  Calls Tryz.prog 25 #[.pointer (some ⟨x,0,none⟩),.int .i64 ((k:Int) - 1),.int .i64 (i:Int)] w (fun r w'=>r = .returned (.int .i64 (upv (rowAtB wd K D 0 1 0 1 pix) k i:Int))/\w'=w) /\
  Calls Tryz.prog 25 #[.pointer (some ⟨x,0,none⟩),.int .i64 ((k:Int) - 1),.int .i64 ((i:Int) - (S:Int))] w (fun r w'=>r = .returned (.int .i64 (((if S<=i then upv (rowAtB wd K D 0 1 0 1 pix) k (i - S) else 0:Nat)):Int))/\w'=w):=by
 have F:∀ k' i':Nat,k'<H->i'<szB wd K D->Calls Tryz.prog 25 #[.pointer (some ⟨x,0,none⟩),.int .i64 (k':Int),.int .i64 (i':Int)] w (fun r w'=>r = .returned (.int .i64 (rowAtB wd K D 0 1 0 1 pix k' i':Int))/\w'=w):=fun k' i' a b=>krow_x x wd H K D k' i' xp xc pix w hk c0 c2 c3 c6 lx h0 h1 h2 a b hpL hb
 refine ⟨F k i hkH hi,?_,?_,?_⟩
 ·by_cases q:S<=i
  ·rw[if_pos q]
   have:=F k (i - S) hkH (by omega)
   rw[show ((i - S:Nat):Int)=(i:Int) - (S:Int) from by omega] at this;exact this
  ·rw[if_neg q]
   exact krow_off _ _ _ w (Or.inr (by omega))
 ·cases k with
  | zero=>exact krow_off _ _ _ w (Or.inl (by omega))
  | succ k=>
   have:=F k i (by omega) hi
   rw[show ((k:Nat):Int)=((k+1:Nat):Int) - 1 from by omega] at this;exact this
 ·by_cases q:S<=i
  ·rw[if_pos q]
   cases k with
   | zero=>exact krow_off _ _ _ w (Or.inl (by omega))
   | succ k=>
    have:=F k (i - S) (by omega) (by omega)
    rw[show ((k:Nat):Int)=((k+1:Nat):Int) - 1 from by omega,show ((i - S:Nat):Int)=(i:Int) - (S:Int) from by omega] at this;exact this
  ·rw[if_neg q]
   exact krow_off _ _ _ w (Or.inr (by omega))
theorem kfilters_x (x wd H K D b:Nat) (xp fp:Option Addr) (xc fc:Nat) (pal clr pix fl:List Int) (t:ByteArray) (w:World) (ok:OkIm wd H K D pal clr pix) (c0:w.cell? ⟨x,0,none⟩=some (.int .i64 (wd:Int))) (c1:w.cell? ⟨x,1,none⟩=some (.int .i64 (H:Int))) (c2:w.cell? ⟨x,2,none⟩=some (.int .i64 (K:Int))) (c3:w.cell? ⟨x,3,none⟩=some (.int .i64 (D:Int))) (c6:w.cell? ⟨x,6,none⟩=some (.slice xp pix.length xc)) (c8:w.cell? ⟨x,8,none⟩=some (.slice fp fl.length fc)) (lx:LAt w .i64 (.slice xp pix.length xc) pix) (lf:LAt w .i64 (.slice fp fl.length fc) fl) (f0:0<fl.length) (f1:fl.length<=64) (fb:∀ y ∈ fl,0<=y/\y<=4) (hb:b=szB wd K D)
  (ht:∀ k m,k<H->m<=b->∃ h:k*(1+b)+m<t.size,(t[k*(1+b)+m]'h).toNat=byt ⟨wd,H,D,K,0⟩ (rowAtB wd K D 0 1 0 1 pix) (filN fl) k m) :
  Calls Tryz.prog 14 #[.pointer (some ⟨x,0,none⟩),.string t,.int .i64 (b:Int)] w fun r w'=>r = .returned (.bool true)/\Kept w w':=by
 have he:=env_of ok fb;have hb1:=he.b128;rw[<- hb] at hb1;obtain ⟨hb1,hb2⟩:=hb1;have hlg:=ok.lg;have hH2:=ok.h2;have hxs:x<w.heap.size:=World.block_lt_of_cell? _ _ c0;have HC:Hid (∀ W,Kept w W->W.cell? ⟨x,0,none⟩=some (.int .i64 (wd:Int))/\W.cell? ⟨x,1,none⟩=some (.int .i64 (H:Int))/\W.cell? ⟨x,2,none⟩=some (.int .i64 (K:Int))/\W.cell? ⟨x,3,none⟩=some (.int .i64 (D:Int))/\W.cell? ⟨x,6,none⟩=some (.slice xp pix.length xc)/\W.cell? ⟨x,8,none⟩=some (.slice fp fl.length fc)):=fun W k=>⟨(k.cell (p:=⟨x,0,none⟩) hxs).trans c0,(k.cell (p:=⟨x,1,none⟩) hxs).trans c1,(k.cell (p:=⟨x,2,none⟩) hxs).trans c2,(k.cell (p:=⟨x,3,none⟩) hxs).trans c3,(k.cell (p:=⟨x,6,none⟩) hxs).trans c6,(k.cell (p:=⟨x,8,none⟩) hxs).trans c8⟩
 have HR:Hid (∀ (W:World) (k i S:Nat),Kept w W->k<H->i<b ->
  Calls Tryz.prog 25 #[.pointer (some ⟨x,0,none⟩),.int .i64 (k:Int),.int .i64 (i:Int)] W (fun r w'=>r = .returned (.int .i64 (rowAtB wd K D 0 1 0 1 pix k i:Int))/\w'=W) /\
  Calls Tryz.prog 25 #[.pointer (some ⟨x,0,none⟩),.int .i64 (k:Int),.int .i64 ((i:Int) - (S:Int))] W (fun r w'=>r = .returned (.int .i64 (((if S<=i then rowAtB wd K D 0 1 0 1 pix k (i - S) else 0:Nat)):Int))/\w'=W) /\
  Calls Tryz.prog 25 #[.pointer (some ⟨x,0,none⟩),.int .i64 ((k:Int) - 1),.int .i64 (i:Int)] W (fun r w'=>r = .returned (.int .i64 (upv (rowAtB wd K D 0 1 0 1 pix) k i:Int))/\w'=W) /\
  Calls Tryz.prog 25 #[.pointer (some ⟨x,0,none⟩),.int .i64 ((k:Int) - 1),.int .i64 ((i:Int) - (S:Int))] W (fun r w'=>r = .returned (.int .i64 (((if S<=i then upv (rowAtB wd K D 0 1 0 1 pix) k (i - S) else 0:Nat)):Int))/\w'=W)):=fun W k i S kw a1 a2=>by
   obtain ⟨z0,z1,z2,z3,z6,z8⟩:=HC.out W kw;exact krow_any x wd H K D k i S xp xc pix W hlg z0 z2 z3 z6 (lx.kept kw) ok.w1 ok.w2 hH2 a1 (by omega) ok.pixL (pix_lt ok)
 have HLf:Hid (∀ W,Kept w W->LAt W .i64 (.slice fp fl.length fc) fl):=fun W k=>lf.kept k
 have HT:Hid (∀ k m,k<H->m<=b->∃ h:k*(1+b)+m<t.size,(t[k*(1+b)+m]'h).toNat=byt ⟨wd,H,D,K,0⟩ (rowAtB wd K D 0 1 0 1 pix) (filN fl) k m):=ht;have HG:Hid (∀ k i,∃ X L U C G B:Nat,X=rowAtB wd K D 0 1 0 1 pix k i/\L=(if stpB K D<=i then rowAtB wd K D 0 1 0 1 pix k (i - stpB K D) else 0)/\U=upv (rowAtB wd K D 0 1 0 1 pix) k i/\C=(if stpB K D<=i then upv (rowAtB wd K D 0 1 0 1 pix) k (i - stpB K D) else 0)/\G=gss (filN fl k) L U C/\B=byt ⟨wd,H,D,K,0⟩ (rowAtB wd K D 0 1 0 1 pix) (filN fl) k (i+1)/\L<256/\U<256/\C<256/\G<256/\X<256/\B<256/\(B+G) % 256=X):=fun k i=>by
   have hu:∀ j,upv (rowAtB wd K D 0 1 0 1 pix) k j<256:=fun j=>by
    cases k with
    | zero=>show 0<256;omega
    | succ k=>exact he.lt k j
   have hL:(if stpB K D<=i then rowAtB wd K D 0 1 0 1 pix k (i - stpB K D) else 0)<256:=by split;exact he.lt _ _;omega
   have hC:(if stpB K D<=i then upv (rowAtB wd K D 0 1 0 1 pix) k (i - stpB K D) else 0)<256:=by split;exact hu _;omega
   have hG:=gss_lt (f:=filN fl k) hL (hu i) hC;refine ⟨_,_,_,_,_,_,rfl,rfl,rfl,rfl,rfl,rfl,hL,hu i,hC,hG,he.lt k i,?_,?_⟩
   ·unfold byt;rw[if_neg (by omega)];omega
   ·unfold byt;rw[if_neg (by omega)]
    exact out_undo _ _ (he.lt k i) hG
 have HF:Hid (∀ k,filN fl k<=4):=he.f4;have HFv:Hid (∀ k,fl.getD (k % fl.length) 0=(filN fl k:Int)):=fun k=>by
  have:=getD_or (P:=fun y=>0<=y/\y<=4) fb (by omega) (k % fl.length)
  unfold filN;omega
 have FC:Hid (Calls Tryz.prog 13 #[.int .i64 (K:Int)] w fun r w'=>r = .returned (.int .i64 (chan K:Int))/\w'=w):=channels_any K w hlg.k;have HB0:Hid (∀ k m,k<H->m=0->byt ⟨wd,H,D,K,0⟩ (rowAtB wd K D 0 1 0 1 pix) (filN fl) k m=filN fl k):=fun k m _ e=>by unfold byt;rw[if_pos e]
 have hA:∀ k,k<H->k*(1+b)<=2064:=fun k hk=>Nat.le_trans (Nat.mul_le_mul (show k<=16 by omega) (show 1+b<=129 by omega)) (by decide)
 replace hA:Hid _:=hA;obtain ⟨S,hS⟩:∃ S,S=stpB K D:=⟨_,rfl⟩;rw[<- hS] at HG;have hd:=hlg.d;have hCh:=@chan_le K;have hE:chan K*D<=64:=Nat.le_trans (Nat.mul_le_mul hCh.2 (show D<=16 by omega)) (by decide);have eE:(chan K:Int)*(D:Int)=((chan K*D:Nat):Int):=by simp
 have hSe:S=if 1<chan K*D / 8 then chan K*D / 8 else 1:=hS
 generalize chan K*D=E at *;generalize chan K=C at *;obtain ⟨G8,hG8⟩:∃ G,G=E / 8:=⟨_,rfl⟩;have eG:(E:Int) / 8=(G8:Int):=by omega
 rw[<- hG8] at hSe;have hG8b:G8<=8:=by omega
 have hS8:1<=S/\S<=8:=by rw[hSe];split<;>omega
 obtain ⟨hS1,hS8⟩:=hS8;have HS0:Hid (G8=0->S=1):=fun q=>by rw[hSe,if_neg (by omega)]
 have HS2:Hid (G8≠0->S=G8):=fun q=>by rw[hSe];split<;>omega
 generalize rowAtB wd K D 0 1 0 1 pix=rv at *;generalize upv rv=uv at *;generalize filN fl=F at *;generalize byt ⟨wd,H,D,K,0⟩ rv F=BT at *;clear he hlg hb ht lx lf ok hS hSe hG8 hd hCh fb;go_enter Tryz.func14,Tryz.ntmps14;go_wp2_with fail;refine FC.out.mono ?_;rintro r w1 ⟨rfl,hw1⟩;subst w1;go_upto_if 33 with fail
 go_cut [8] from 18 (fun v W=>v = .int .i64 (S:Int)/\W=w)
 case first=>
  by_cases hz:G8=0
  ·have e1:=HS0.out hz
   have hz':((G8:Int) == 0)=true:=by rw[beq_iff_eq];omega
   replace hz:Hid _:=hz;replace e1:Hid _:=e1;go_wp2_with fail;go_meet
   case rel=>exact ⟨by rw[e1.out];rfl,rfl⟩
  ·have e1:=HS2.out hz
   have hz':((G8:Int) == 0)=false:=by rw[beq_eq_false_iff_ne];omega
   replace hz:Hid _:=hz;replace e1:Hid _:=e1;go_wp2_with fail;go_meet
   case rel=>exact ⟨by rw[e1.out],rfl⟩
 case rest=>
  obtain ⟨hcv,hcw⟩:=hcut;subst hcv;subst wc;clear c0 c1 c2 c3 c6 c8 eE eG hE hG8b HS0 HS2 FC;go_wp2_with fail;go_loopw [9] (fun v W'=>∃ k:Nat,k<=H/\v = .int .i64 (k:Int)/\Kept w W') (fun v _=>H - (intOf v).toNat)
  case atStart=>exact ⟨0,by omega,rfl,Kept.refl _⟩
  case round=>
   obtain ⟨k,hkH,rfl,hkw⟩:=hrel;obtain ⟨z0,z1,z2,z3,z6,z8⟩:=HC.out wr hkw;have HK:Hid (Kept w wr):=hkw;clear hkw;by_cases hlt:k<H
   ·have hlt':(k:Int)<(H:Int):=by omega
    have hAk:=hA.out k hlt;obtain ⟨hi0,hf0⟩:=HT.out k 0 hlt (by omega);rw[HB0.out k 0 hlt rfl] at hf0;have HTk:Hid (∀ m,m<=b->∃ h:k*(1+b)+m<t.size,(t[k*(1+b)+m]'h).toNat=BT k m):=fun m hm=>HT.out k m hlt hm
    have eA:(k:Int)*(1+(b:Int))=((k*(1+b):Nat):Int):=by simp
    obtain ⟨Fk,hFk⟩:∃ f,f=F k:=⟨_,rfl⟩;have hF4:=HF.out k;have hj:k % fl.length<fl.length:=Nat.mod_lt _ f0;obtain ⟨g,o,rfl,hcl⟩:=(HLf.out wr HK.out).cellAt _ hj;rw[HFv.out k] at hcl;have ej:(k:Int).tmod (fl.length:Int)=((k % fl.length:Nat):Int):=by rw[Int.tmod_eq_emod_of_nonneg (by omega)];simp
    rw[<- hFk] at hf0 hF4 hcl;replace hFk:Hid _:=hFk;generalize k*(1+b)=A at *;have hA0:A<t.size:=hi0;have hA1:(A:Int)<(t.size:Int):=by omega
    have tA:t[A].toNat=Fk:=hf0;clear hi0 hf0;generalize k % fl.length=J at *;have hj':(J:Int)<(fl.length:Int):=by omega
    have hj0:(0:Int)<=(J:Int):=by omega
    have hfl0:((fl.length:Int) == 0)=false:=by rw[beq_eq_false_iff_ne];omega
    go_wp2_with fail;go_quiet (fail);have HK2:Hid (Kept w (wr.drewN nq)):=HK.out.trans ((Kept.refl _).drewN nq);clear HK z0 z1 z2 z3 z6 z8 hcl;generalize wr.drewN nq=w2 at *;go_wp2_with fail;go_loopw [12] (fun v W'=>∃ i:Nat,i<=b/\v = .int .i64 (i:Int)/\W'=w2) (fun v _=>b - (intOf v).toNat)
    case atStart=>exact ⟨0,by omega,rfl,rfl⟩
    case round=>
     obtain ⟨i,hib,rfl,hwr⟩:=hrel;subst hwr;by_cases hlt2:i<b
     ·have hlt2':(i:Int)<(b:Int):=by omega
      obtain ⟨X,L,U,Q,G,B,eX,eL,eU,eQ,eG,eB,bL,bU,bQ,bG,bX,bB,hm⟩:=HG.out k i;obtain ⟨R1,R2,R3,R4⟩:=HR.out wr k i S HK2.out hlt hlt2;rw[<- eX] at R1;rw[<- eL] at R2;rw[<- eU] at R3;rw[<- eQ] at R4;rw[<- hFk.out] at eG;have FT:Hid (∀ W:World,Calls Tryz.prog 26 #[.int .i64 (Fk:Int),.int .i64 (L:Int),.int .i64 (U:Int),.int .i64 (Q:Int)] W fun r w'=>r = .returned (.int .i64 (G:Int))/\w'=W):=fun W=>by rw[eG];exact ktaken_x Fk L U Q W hF4 bL bU bQ
      replace R1:Hid _:=R1;replace R2:Hid _:=R2;replace R3:Hid _:=R3;replace R4:Hid _:=R4;obtain ⟨hi1,hf1⟩:=HTk.out (i+1) (by omega);rw[<- eB] at hf1;clear eX eL eU eQ eG eB;obtain ⟨J1,hJ1⟩:∃ J1,J1=A+(i+1):=⟨_,rfl⟩;have eJ1:(A:Int)+1+(i:Int)=(J1:Int):=by omega
      have hJs:J1<t.size:=by rw[hJ1];exact hi1
      have hJs':(J1:Int)<(t.size:Int):=by omega
      have tJ:t[J1].toNat=B:=by subst hJ1;exact hf1
      replace hJ1:Hid _:=hJ1;clear hi1 hf1;have em:((B:Int)+(G:Int)).tmod 256=(X:Int):=by rw[Int.tmod_eq_emod_of_nonneg (by omega)];omega
      replace hm:Hid _:=hm;go_wp2_with fail;refine Calls.mono R1.out ?_;rintro r w3 ⟨rfl,hw3⟩;subst w3;go_wp2_with fail;refine Calls.mono R2.out ?_;rintro r w3 ⟨rfl,hw3⟩;subst w3;go_wp2_with fail;refine Calls.mono R3.out ?_;rintro r w3 ⟨rfl,hw3⟩;subst w3;go_wp2_with fail;refine Calls.mono R4.out ?_;rintro r w3 ⟨rfl,hw3⟩;subst w3;go_wp2_with fail;refine (FT.out _).mono ?_;rintro r w3 ⟨rfl,hw3⟩;subst w3;go_wp2;exact ⟨⟨i+1,by omega,by go_num,by first | rfl | trivial⟩,by simp [intOf];omega⟩
     ·have hlt2':¬ (i:Int)<(b:Int):=by omega
      go_wp2;exact ⟨⟨k+1,by omega,by go_num,HK2.out⟩,by simp [intOf];omega⟩
   ·have hlt':¬ (k:Int)<(H:Int):=by omega
    go_wp2;go_ret;exact ⟨rfl,HK.out⟩
