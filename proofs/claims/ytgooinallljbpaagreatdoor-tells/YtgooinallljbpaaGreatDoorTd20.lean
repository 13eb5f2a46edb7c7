import Derived.Test.YtgooinallljbpaaGreatDoorTd19
import Derived.Deep.AppendLies
import Derived.Deep.RegionLaw
import Derived.Deep.CutBlock
import Derived.Deep.CutRange
set_option maxRecDepth 100000
set_option maxHeartbeats 6400000
namespace Go.Proofs.YtgooinallljbpaaGreatDoor
open Go.RowKit
set_option linter.unusedSimpArgs false
set_option linter.unusedVariables false
abbrev K0c (t:Nat) (l:Bool):Array Value:=#[.int .i64 (t:Int),.int .i64 0,.bool l,.slice none 0 0,.slice none 0 0,.slice none 0 0]
theorem LI {w W:World} {s b N:Nat} {v ov bv:Value} {out:List Px.One} {nb win:Nat} (h:RI w W s b N ov bv out nb win) (hb:b<W.heap.size) (hbN:b<N) (hsN:s<N) (hN:N<=W.heap.size) (hsb:s≠b) (hNw:w.heap.size<=s/\w.heap.size<=b) (hv:∀ g,ae v=some g->g<w.heap.size) (t:Nat) (l:Bool) :
  Base (W.alloc (.cells (K0c t l) 134)) b s W.heap.size N v ov/\Env (W.alloc (.cells (K0c t l) 134)) (W.alloc (.cells (K0c t l) 134)) b s W.heap.size N ov ov out 0/\(W.alloc (.cells (K0c t l) 134)).cell? ⟨W.heap.size,3,none⟩=some (.slice none 0 0)/\RI w (W.alloc (.cells (K0c t l) 134)) s b N ov bv out nb win/\(∀ j,(W.alloc (.cells (K0c t l) 134)).cell? ⟨W.heap.size,j,none⟩=(K0c t l)[j]?):=by
 have hs:=h.sc.lt;have hk:Kept W (W.alloc (.cells (K0c t l) 134)):=(Below.refl _ _).alloc (Nat.le_refl _) _;have hc:∀ j,(W.alloc (.cells (K0c t l) 134)).cell? ⟨W.heap.size,j,none⟩=(K0c t l)[j]? := fun j=>by rw[World.cell?_alloc_at _ _ _ _ rfl]
 have hlt:W.heap.size<(W.alloc (.cells (K0c t l) 134)).heap.size:=by simp
 have hW:=h.kept.size;refine ⟨⟨fun g hg => ?_,hbN,hsN,Nat.le_trans hN (Nat.le_of_lt hlt),hlt,hsb,by omega,by omega,fun e => ?_⟩,⟨h.oat.kept hk,fun _ _=>rfl,⟨⟨0,hc 1⟩,fun j=>World.frozen?_alloc_at _ _ _ _ rfl⟩,fun _ _ _=>rfl,⟨_,[],hc 3,World.ownsRow_nil _ _ _ _,(fun g hg=>by cases hg)⟩,Fr.refl _ _,fun g hg=>Or.inl hg⟩,hc 3,h.kept' hk,hc⟩
 ·have:=hv g hg
  refine ⟨by omega,by omega,by omega,fun e => ?_,by omega⟩
  have:=(h.oat.own.lt g e).1
  omega
 ·have:=(h.oat.own.lt _ e).2
  omega
theorem Mf {w W1 W2:World} {s b k N:Nat} {v ov ov' bv:Value} {out out':List Px.One} {nb win m:Nat} (h:RI w W1 s b N ov bv out nb win) (B:Base W1 b s k N v ov) (E:Env W1 W2 b s k N ov ov' out' m) (hNw:w.heap.size<=s/\w.heap.size<=b/\w.heap.size<=k) (hkb:bv.ownBlock≠some k):RI w W2 s b N ov' bv out' nb win:=by
 have hs:=h.sc.lt;obtain ⟨ys,hy⟩:=h.own;have hbs:∀ g,bv.ownBlock=some g->¬ (g=b\/g=s\/g=k\/ov.ownBlock=some g):=by
  intro g hg;have h1:=(hy.lt g hg).1
  have:=B.bN
  have:=B.sN
  rintro (e | e | e | e)
  ·omega
  ·omega
  ·exact hkb (by rw[hg,e])
  ·exact h.dis g hg e
 refine ⟨E.oat,⟨(E.sc 3 (by omega)).trans h.sc.c3,(E.sc 4 (by omega)).trans h.sc.c4,(E.sc 5 (by omega)).trans h.sc.c5,(E.sc 6 (by omega)).trans h.sc.c6,(E.sc 7 (by omega)).trans h.sc.c7⟩,(E.sc 1 (by omega)).trans h.c1,(E.sc 2 (by omega)).trans h.c2,⟨ys,aQ hy E.fr hbs⟩,?_,Fr.to_kept h.kept E.fr (fun i hi e => ?_)⟩
 ·intro g hg e
  rcases E.blk g e with q | q
  ·exact h.dis g hg q
  ·have:=(hy.lt g hg).2;omega
 ·rcases e with e | e | e | e
  ·omega
  ·omega
  ·omega
  ·have:=(h.oat.own.lt i e).1
   have:=B.sN
   omega
theorem RI.win' {w W:World} {s b N:Nat} {ov bv:Value} {out:List Px.One} {nb win:Nat} (h:RI w W s b N ov bv out nb win) (hsN:s<N) (hNw:w.heap.size<=s) (n:Nat):RI w (W.setCell ⟨s,2,none⟩ (.int .i64 (n:Int))) s b N ov bv out nb n:=by
 obtain ⟨ys,hy⟩:=h.own;refine ⟨h.oat.set hsN 2 (by omega) _,h.sc.two 2 (by omega) _,?_,aj h.c2 _,⟨ys,ownsRow_setCell_below hy (show s<N from hsN) _⟩,h.dis,h.kept.setCell hNw _⟩;rw[aa _ _ _ _ _ (by omega)];exact h.c1
end Go.Proofs.YtgooinallljbpaaGreatDoor
namespace Px
theorem Af (k:Bool) (a:Nat):a<=su k a:=by unfold su up8;split<;>omega
theorem Step.le {z:List One} {a b:Nat} {s t:St} (h:Step z a s b t):a<=b:=by
 cases h using Px.Step.cs with
 | num hi hn hr=>rename_i n _;have:=Af ‹Bool› (a+n);omega
 | sym hi hg hr=>rename_i l c n _;have:=Af ‹Bool› (a+n);omega
theorem Run.le {z:List One} {a b:Nat} {s t:St} (h:Run z a s b t):a<=b:=by
 induction h using Px.Run.cs with
 | refl=>exact Nat.le_refl _
 | tail _ k ih=>exact Nat.le_trans ih k.le
theorem Ends.le {z:List One} {a0 a:Nat} {s0:St} {r:Res} {o:List One} (h:Ends z a0 s0 a r o):a0<=a:=by
 obtain ⟨a1,s1,hr,_,⟨n,_,rfl,_,_⟩ | ⟨l,c,n,_,_,rfl,_⟩⟩:=h
 ·have:=hr.le;omega
 ·have:=hr.le;omega
theorem Fails.le {z:List One} {a b e:Nat} {s:St} (h:Fails z a s e b):a<=b:=by cases h using Fails.cs<;>omega
theorem Stop.le {z:List One} {a0:Nat} {s0:St} {o:List One} {t:Bt} (h:Stop z a0 s0 o t) (h0:a0<=8*z.length):a0<=t.a/\t.a<=8*z.length:=by
 cases h using Px.Stop.cs with
 | cut=>exact ⟨h0,Nat.le_refl _⟩
 | err a1 s1 e a h c ho he ha=>have:=h.le;have:=c.le;exact ⟨by show a0<=a;omega,ha⟩
end Px
namespace Go.Proofs.YtgooinallljbpaaGreatDoor
open Go.RowKit
set_option linter.unusedSimpArgs false
set_option linter.unusedVariables false
def BE (z:List Px.One) (l:Bool) (win:Nat) (t:Px.Bt) (out:List Px.One):Prop:=
 (l=false/\t=⟨t.a,false,0⟩/\t.a<=8*z.length/\∃ s1:Px.St,s1.window=win/\Px.Run z 0 Px.St.start t.a (Px.blS s1 out)) \/
 (l=true/\t=⟨t.a,false,0⟩/\t.a<=8*z.length/\∃ s1:Px.St,s1.window=win/\Px.Run z 0 Px.St.start (Px.up8 t.a) { s1 with ph := .sum,out:=out }) \/
 Px.Stop z 0 Px.St.start out t
theorem IN {t:Px.Bt} (h1:t.cut=false) (h2:t.err=0):t=⟨t.a,false,0⟩:=by cases t;simp only at h1 h2;rw[h1,h2]
theorem KP {z:List Px.One} {a0:Nat} {s0 st:Px.St} {out':List Px.One} {t':Px.Bt} (r:Px.Run z 0 Px.St.start a0 s0) (h:(t'.cut=false/\t'.err=0/\t'.a<=8*z.length/\∃ o,Px.Ends z a0 s0 t'.a (Px.ebS st out') o)\/Px.Stop z a0 s0 out' t'):BE z st.last st.window t' out':=by
 rcases h with ⟨h1,h2,h3,o,he⟩ | h
 ·have he':=Px.Ends.after r he
  cases hl:st.last with
  | false=>exact Or.inl ⟨rfl,IN h1 h2,h3,st,rfl,Px.EM he' hl⟩
  | true=>exact Or.inr (Or.inl ⟨rfl,IN h1 h2,h3,st,rfl,Px.EO he' hl⟩)
 ·exact Or.inr (Or.inr (h.after r))
structure RL (w W:World) (z:List Px.One) (v:Value) (win:Nat) (l:Bool) (t:Px.Bt) (ov bv:Value) (out:List Px.One) (nb:Nat):Prop where
 ri:RI w W w.heap.size (w.heap.size+1) (w.heap.size+2) ov bv out nb win
 bat:BAt W (w.heap.size+1) v t
 zat:ZAt W v z
 sz:w.heap.size+2<=W.heap.size
 len:out.length<=258*t.a
 nb:nb<=t.a
 be:BE z l win t out
 a16:16<=t.a
def uv (z:List Px.One) (t:Px.Bt):Nat:=if t.on=true then 8*z.length - t.a+1 else 0
theorem SP.less {z:List Px.One} {a a0:Nat} {s0 st:Px.St} {out':List Px.One} {t':Px.Bt} (ha:a<a0) (h:(t'.cut=false/\t'.err=0/\t'.a<=8*z.length/\∃ o,Px.Ends z a0 s0 t'.a (Px.ebS st out') o)\/Px.Stop z a0 s0 out' t'):uv z t'<8*z.length - a+1:=by
 unfold uv;rcases h with ⟨h1,h2,h3,o,he⟩ | h
 ·have:=he.le
  rw[if_pos (by unfold Px.Bt.on;rw[h1,h2];rfl)];omega
 ·rw[h.off,if_neg (by decide)]
  omega
theorem BE.off {z:List Px.One} {l:Bool} {win:Nat} {t:Px.Bt} {out:List Px.One} (h:BE z l win t out) (ho:t.on=false):Px.Stop z 0 Px.St.start out t:=by
 rcases h with ⟨_,e,_⟩ | ⟨_,e,_⟩ | h
 ·rw[e] at ho;exact absurd ho (by unfold Px.Bt.on;simp)
 ·rw[e] at ho;exact absurd ho (by unfold Px.Bt.on;simp)
 ·exact h
theorem BE.on0 {z:List Px.One} {win:Nat} {t:Px.Bt} {out:List Px.One} (h:BE z false win t out) (ho:t.on=true):t=⟨t.a,false,0⟩/\t.a<=8*z.length/\∃ s1:Px.St,s1.window=win/\Px.Run z 0 Px.St.start t.a (Px.blS s1 out):=by
 rcases h with ⟨_,e,h1,h2⟩ | ⟨e,_⟩ | h
 ·exact ⟨e,h1,h2⟩
 ·cases e
 ·rw[h.off] at ho;cases ho
theorem BE.on1 {z:List Px.One} {win:Nat} {t:Px.Bt} {out:List Px.One} (h:BE z true win t out) (ho:t.on=true):t=⟨t.a,false,0⟩/\t.a<=8*z.length/\∃ s1:Px.St,s1.window=win/\Px.Run z 0 Px.St.start (Px.up8 t.a) { s1 with ph := .sum,out:=out }:=by
 rcases h with ⟨e,_⟩ | ⟨_,e,h1,h2⟩ | h
 ·cases e
 ·exact ⟨e,h1,h2⟩
 ·rw[h.off] at ho;cases ho
structure SwR (w W:World) (z:List Px.One) (v:Value) (k win nb a:Nat) (l:Bool) (bv ov:Value) (out:List Px.One) (t:Px.Bt):Prop where
 ri:RI w W w.heap.size (w.heap.size+1) (w.heap.size+2) ov bv out nb win
 bat:BAt W (w.heap.size+1) v t
 zat:ZAt W v z
 sz:w.heap.size+2<=W.heap.size
 len:out.length<=258*t.a
 ge:a+3<=t.a
 be:BE z l win t out
 left:uv z t<8*z.length - a+1
 klt:k<W.heap.size
 kbv:bv.ownBlock≠some k
 c0:∃ x:Int,W.cell? ⟨k,0,none⟩=some (.int .i64 x)
 c1:∃ x:Int,W.cell? ⟨k,1,none⟩=some (.int .i64 x)
 c2:∃ x:Bool,W.cell? ⟨k,2,none⟩=some (.bool x)
 c3:∃ p n c,W.cell? ⟨k,3,none⟩=some (.slice p n c)
 c4:∃ p n c,W.cell? ⟨k,4,none⟩=some (.slice p n c)
 c5:∃ p n c,W.cell? ⟨k,5,none⟩=some (.slice p n c)
theorem swr {w W0 W:World} {z:List Px.One} {v ov ov' bv:Value} {k win nb a a0 m:Nat} {l:Bool} {out out':List Px.One} {s0 st:Px.St} {t':Px.Bt} (R:RI w W0 w.heap.size (w.heap.size+1) (w.heap.size+2) ov bv out nb win) (B:Base W0 (w.heap.size+1) w.heap.size k (w.heap.size+2) v ov) (S:ux W0 (w.heap.size+1) w.heap.size k (w.heap.size+2) v ov z a0 s0 st W ov' out' t') (hz:ZAt W0 v z) (hk:w.heap.size<=k) (hkb:bv.ownBlock≠some k) (r:Px.Run z 0 Px.St.start a0 s0) (ha:a+3<=a0) (ha0:a0<=8*z.length) (hl:st.last=l) (hw:st.window=win) (c0:∃ x:Int,W0.cell? ⟨k,0,none⟩=some (.int .i64 x)) (c2:∃ x:Bool,W0.cell? ⟨k,2,none⟩=some (.bool x)) (c4:∃ p n c,W0.cell? ⟨k,4,none⟩=some (.slice p n c)) (c5:∃ p n c,W0.cell? ⟨k,5,none⟩=some (.slice p n c)):SwR w W z v k win nb a l bv ov' out' t':=by
 obtain ⟨m',E⟩:=S.env;have hge:a0<=t'.a:=by
  rcases S.st with ⟨_,_,_,o,he⟩ | h
  ·exact he.le
  ·exact (h.le ha0).1
 obtain ⟨tv,xs,t1,t2,_⟩:=E.kt;obtain ⟨p3,n3,q3,e3⟩:∃ p n c,tv = .slice p n c:=by
  rcases t2.2 with ⟨e,_⟩ | ⟨g,cap,cur,e,_⟩
  ·exact ⟨_,_,_,e⟩
  ·exact ⟨_,_,_,e⟩
 have hk4:=E.kc;have be:=KP r S.st;rw[hl,hw] at be;refine ⟨Mf R B E ⟨Nat.le_refl _,by omega,hk⟩ hkb,S.bat,hz.fr E.fr (fun g hg e => ?_),Nat.le_trans B.N E.fr.size,S.len,by omega,be,SP.less (by omega) S.st,Nat.lt_of_lt_of_le B.kw E.fr.size,hkb,?_,E.kat.c1,?_,⟨p3,n3,q3,by rw[t1,e3]⟩,?_,?_⟩
 ·have q:=B.vz g hg
  rcases e with e | e | e | e
  ·exact q.1 e
  ·exact q.2.1 e
  ·exact q.2.2.1 e
  ·exact q.2.2.2.1 e
 ·rw[hk4 0 (by omega) (by omega)];exact c0
 ·rw[hk4 2 (by omega) (by omega)];exact c2
 ·rw[hk4 4 (by omega) (by omega)];exact c4
 ·rw[hk4 5 (by omega) (by omega)];exact c5
theorem Iq {W:World} {b s k N:Nat} {ov:Value} {out:List Px.One} (h:OAt W s N ov out) (hk:KAt W k) (h3:W.cell? ⟨k,3,none⟩=some (.slice none 0 0)):Env W W b s k N ov ov out 0:=
 ⟨h,fun _ _=>rfl,hk,fun _ _ _=>rfl,⟨_,[],h3,World.ownsRow_nil _ _ _ _,(fun g hg=>by cases hg)⟩,Fr.refl _ _,fun g hg=>Or.inl hg⟩
theorem yj {W:World} {v:Value} {l:List Nat} {g:Nat} (h:IAt W v l) (hl:0<l.length) (hg:ae v=some g):g<W.heap.size:=by
 obtain ⟨p,c,e⟩:=h.form;obtain ⟨g',o,hp,hc⟩:=h.cells p c e 0 hl;rw[e,hp] at hg
 have:g'=g:=Option.some.inj hg
 rw[<- this];exact World.block_lt_of_cell? _ _ hc
theorem yt:Px.bD Px.aO:=⟨by decide +kernel,by decide +kernel⟩
theorem wO:Px.bD Px.bW:=⟨by decide +kernel,by decide +kernel⟩
theorem xu {w W:World} {z:List Px.One} {v ov bv lv dv:Value} {k win nb a a1:Nat} {l:Bool} {out:List Px.One} {st:Px.St} {lit dist:List Nat} (R:RI w W w.heap.size (w.heap.size+1) (w.heap.size+2) ov bv out nb win) (hb:BAt W (w.heap.size+1) v ⟨a1,false,0⟩) (hz:ZAt W v z) (hg:Px.good z) (B:Base W (w.heap.size+1) w.heap.size k (w.heap.size+2) v ov) (hK:KAt W k) (h3:W.cell? ⟨k,3,none⟩=some (.slice none 0 0)) (c0:∃ x:Int,W.cell? ⟨k,0,none⟩=some (.int .i64 x)) (c2:∃ x:Bool,W.cell? ⟨k,2,none⟩=some (.bool x)) (c4:∃ p n c,W.cell? ⟨k,4,none⟩=some (.slice p n c)) (c5:∃ p n c,W.cell? ⟨k,5,none⟩=some (.slice p n c)) (hl:IAt W lv lit) (hd:IAt W dv dist) (hls:Px.bD lit) (hds:Px.bD dist)
  (hlb:∀ g,ae lv=some g->g≠w.heap.size+1/\g≠w.heap.size/\g≠k/\ov.ownBlock≠some g/\g<W.heap.size) (hdb:∀ g,ae dv=some g->g≠w.heap.size+1/\g≠w.heap.size/\g≠k/\ov.ownBlock≠some g/\g<W.heap.size) (run:Px.Run z 0 Px.St.start a1 (Px.syS st lit dist st.out)) (ha:a+3<=a1) (ha1:a1<=8*z.length) (ho:st.out=out) (hlast:st.last=l) (hw:st.window=win) (hwb:win<=32768) (hol:out.length<=258*a1) (hkw:w.heap.size<=k) (hkb:bv.ownBlock≠some k) :
  Calls Tryz.prog 65 #[.pointer (some ⟨w.heap.size,0,none⟩),.pointer (some ⟨w.heap.size+1,0,none⟩),.pointer (some ⟨k,0,none⟩),lv,dv] W fun r w'=>r = .returned (.tuple #[])/\∃ ov' out' t',SwR w w' z v k win nb a l bv ov' out' t':=by
 refine (E6 (w.heap.size+1) w.heap.size k (w.heap.size+2) v ov lv dv z a1 st lit dist W hb hz hg ha1 B (by rw[ho];exact Iq R.oat hK h3) h3 (by rw[hw];exact R.c2) (by rw[hw];exact hwb) (by rw[ho];exact hol) hl hd hls hds hlb hdb).mono ?_;rintro r w' ⟨ov',out',t',rfl,hS⟩;exact ⟨rfl,ov',out',t',swr (m:=0) R B hS hz hkw hkb run ha ha1 hlast hw c0 c2 c4 c5⟩
theorem RI.k {w W W':World} {s b N k:Nat} {ov bv:Value} {out:List Px.One} {nb win:Nat} (h:RI w W s b N ov bv out nb win) (hk:w.heap.size<=k) (hsk:s≠k) (ho:ov.ownBlock≠some k) (hv:bv.ownBlock≠some k) (q:Fr1 k W W'):RI w W' s b N ov bv out nb win:=by
 have hs:=h.sc.lt;refine ⟨h.oat.fr q hsk (fun g hg e=>by have:g=k:=e;rw[this] at hg;exact ho hg),h.sc.same (q.block s hs hsk),(q.cell hs hsk).trans h.c1,(q.cell hs hsk).trans h.c2,?_,h.dis,Fr.to_kept h.kept q (fun i hi e=>by have:i=k:=e;omega)⟩;obtain ⟨ys,hy⟩:=h.own;exact ⟨ys,aQ hy q (fun g hg e=>by have:g=k:=e;rw[this] at hg;exact hv hg)⟩
theorem wY {z:List Px.One} {o:List Px.One} {t:Px.Bt} (hg:Px.good z) (h:Px.Stop z 0 Px.St.start o t):Px.dt o:=by
 cases h using Px.Stop.cs with
 | cut a1 s1 h c ho=>rw[<- ho];exact h.good hg (fun x hx=>by cases hx)
 | err a1 s1 e a h c ho he ha=>rw[<- ho];exact h.good hg (fun x hx=>by cases hx)
theorem MS {w:World} {ops:Array Oper} {o:Oper} {a:Act} {K:Act->World->Prop} {Q:Exit->Act->World->Prop} {E:Prop} (hgd:o.guard=none) (s x:Operand)
  (hop:o.op=Op.call { callee:=Callee.builtin Builtin.append,args:=#[s,x],argTypes:=#[107,107] })
  (N:Nat) (v:Value) (n:Nat) (xs:List Value) (hs:a.eval s=v) (hown:w.ownsRow N 134 6 v n xs)
  (g c:Nat) (news:List Value) (hx:a.eval x = .slice (some ⟨g,0,none⟩) 1 c) (hn:news.length=6) (hc:∀ j u,news[j]? = some u->w.cell? ⟨g,j,none⟩=some u) (h1:∀ u ∈ news,u.oneCell'=true) (hb:n+1<=100000000) (hbase:N<=w.heap.size)
  (hK:∀ g' cap w',w'.ownsRow N 134 6 (.slice (some ⟨g',0,none⟩) (n+1) cap) (n+1) (xs++news)->Fr (fun k=>v.ownBlock=some k) w w'->(v.ownBlock=some g'\/w.heap.size<=g')->K (a.put o.dst (.slice (some ⟨g',0,none⟩) (n+1) cap)) w') :
  if Region.wanted o (yielded ops a.tmps)=true then Oper.wp Tryz.prog o a w K Q else E:=by
 obtain ⟨i0,hi,hz0,hz1,hz2⟩:=info_parts Et;refine step_append_lies w hgd s x 107 hop N 134 i0 (.agg #[.int .i64 0,.int .i64 0,.bool false,.slice none 0 0,.slice none 0 0,.slice none 0 0]) 6 96 Tryz.underlying107 hi hz0 hz1 hz2 rfl (by omega) v n xs hs hown ⟨g,0,none⟩ 1 c news hx (by rw[hn]) ?_ h1 (by omega) (by unfold maxLen;omega) (by omega) hbase w.heap.size rfl ?_
 ·intro j u hj
  have e:(⟨g,0,none⟩:Addr).add j=⟨g,j,none⟩:=by unfold Addr.add;split<;>simp_all
  rw[e];exact hc j u hj
 ·intro g' cap w' h1 h2 h3 h4
  exact hK g' cap w' h1 ⟨h2.os,h2.tape,h2.output,h2.size,fun k hk hn=>h2.block k hk (fun e=>hn e.symm)⟩ (match h3 with|.inl a=>.inl a|.inr e=>.inr (by omega))
theorem RI.blkF {w W W2:World} {s b N:Nat} {ov bv bv':Value} {out:List Px.One} {nb nb' win:Nat} {ys':List Value} (h:RI w W s b N ov bv out nb win) (hsN:s<N) (hNw:w.heap.size<=s) (hF:Fr (fun g=>bv.ownBlock=some g) W W2) (ho:W2.ownsRow N 134 6 bv' nb' ys') (hn:∀ g,bv'.ownBlock=some g->bv.ownBlock=some g\/W.heap.size<=g):RI w (W2.setCell ⟨s,1,none⟩ bv') s b N ov bv' out nb' win:=by
 have hs:=h.sc.lt;obtain ⟨ys,hy⟩:=h.own;have hnS:¬ bv.ownBlock=some s:=fun e=>by have:=(hy.lt s e).1;omega
 have hO2:OAt W2 s N ov out:=h.oat.fr hF hnS (fun g hg' e=>h.dis g e hg');have hS2:SC W2 s false false 0 0 0:=h.sc.same (hF.block s hs hnS);have hF2:Fr (fun g=>g=s\/bv.ownBlock=some g) W (W2.setCell ⟨s,1,none⟩ bv'):=by
  have hm:Fr (fun g=>g=s\/bv.ownBlock=some g) W W2:=hF.mono (fun i _ e=>Or.inr e);exact hm.setCell (Or.inl (Or.inl rfl)) _ _
 refine ⟨hO2.set hsN 1 (by omega) _,hS2.two 1 (by omega) _,aj ((hF.cell hs hnS).trans h.c1) _,?_,⟨ys',ownsRow_setCell_below ho (show s<N from hsN) _⟩,?_,Fr.to_kept h.kept hF2 (fun i hi e => ?_)⟩
 ·rw[aa _ _ _ _ _ (by omega),hF.cell hs hnS];exact h.c2
 ·intro g hg' e
  rcases hn g hg' with q | q
  ·exact h.dis g q e
  ·have:=(h.oat.own.lt g e).2;omega
 ·rcases e with e | e
  ·omega
  ·have:=(hy.lt i e).1;omega
theorem JO (v:Value) (z:List Px.One) (w:World) (hz:ZAt w v z) (hg:Px.good z) (hvw:∀ g,ae v=some g->g<w.heap.size) (h16:16<=8*z.length) (hon:¬ Px.fp (Px.ab z 0 8) (Px.ab z 8 8)) :
  Calls Tryz.prog 41 #[v] w fun r w'=>r = .returned (.pointer (some ⟨w.heap.size,0,none⟩))/\K8 w w' z w.heap.size:=by
 have hz2:=hg.2.1;have ST:=zY w v;obtain ⟨vp,vc,rfl⟩:=hz.form;have HST:Hid _:=ST;clear ST;go_enter Tryz.func41,Tryz.ntmps41;go_wp2_with fail;obtain ⟨hR1,hb1⟩:=HST.out;have hszN:w.heap.size+2<=((w.alloc (.cells S0c 109)).alloc (.cells #[.slice vp z.length vc,.int .i64 0,.bool false,.int .i64 0] 129)).heap.size:=by simp
 generalize (w.alloc (.cells S0c 109)).alloc (.cells #[.slice vp z.length vc,.int .i64 0,.bool false,.int .i64 0] 129)=w1 at *;have hvb:∀ g,ae (.slice vp z.length vc)=some g->g≠w.heap.size+1:=fun g hg=>by have:=hvw g hg;omega
 have hz1:ZAt w1 (.slice vp z.length vc) z:=hz.fr (S:=fun _=>False) (Fr.of_kept hR1.kept) (fun _ _ e=>e);refine (lI (w.heap.size+1) _ z _ 8 w1 hb1 hz1 hvb hg (by show 0<=_;omega) (by omega)).mono ?_;rintro r w2 ⟨c,rfl,hc,hc2,hb2,hw2⟩;have hR2:=hR1.b (by omega) (by omega) (by omega) hw2;have hz2':=hz1.fr hw2 hvb;go_wp2_with fail;refine (lI (w.heap.size+1) _ z _ 8 w2 hb2 hz2' hvb hg (J4 8 (by show 0<=_;omega)) (by omega)).mono ?_;rintro r w3 ⟨f,rfl,hf,hf2,hb3,hw3⟩;have hR3:=hR2.b (by omega) (by omega) (by omega) hw3;have hz3:=hz2'.fr hw3 hvb;have HC2:Hid _:=hc2;have HF2:Hid _:=hf2;clear hc2 hf2;have hc256:c<256:=hc;have hf256:f<256:=hf;have e3:(((⟨0,false,0⟩:Px.Bt).num z 8).num z 8)=⟨16,false,0⟩:=by
  rw[Px.cA (show 0+8<=8*z.length by omega),Px.cA (show 0+8+8<=8*z.length by omega)]
 have e2:((⟨0,false,0⟩:Px.Bt).num z 8)=⟨8,false,0⟩:=Px.cA (show 0+8<=8*z.length by omega);rw[e3] at hb3;have q1:c=Px.ab z 0 8:=HC2.out (by simp) (by show 0+8<=_;omega);have q2:f=Px.ab z 8 8:=by
  have:=HF2.out
  rw[e2] at this;exact this (by simp) (by show 8+8<=_;omega)
 have k2:w3.cell? ⟨w.heap.size+1,2,none⟩=some (.bool false):=hb3.c2;have HRUN:Hid (Px.Run z 0 Px.St.start 16 { Px.St.start with ph := .block,window:=2^(8+c / 16) }):=by
  rw[q1];exact Px.DD h16 hon
 rw[<- q1,<- q2] at hon;unfold Px.fp at hon;have g1:((c:Int) % 16 != 8)=false:=by rw[bne_eq_false_iff_eq];omega
 have g2:(c:Int) / 16<=7:=by omega
 have g3:((256*(c:Int)+(f:Int)) % 31 != 0)=false:=by rw[bne_eq_false_iff_eq];omega
 have g4:((f:Int) / 32 % 2 == 1)=false:=by rw[beq_eq_false_iff_ne];omega
 have hc16:c / 16<=7:=by omega
 have s2:=hR3.c2;have hfs:=hR3.oat.fz;have HR3:Hid _:=hR3;clear e2 e3 q1 q2 hR1 hR2 hb1 hb2 hz1 hz2' hw2 hw3 HST HC2 HF2 hon hR3;have hwin:wrap64 (2^(8+c / 16))=((2^(8+c / 16):Nat):Int):=by
  have hp:2^(8+c / 16)<=2^15:=Nat.pow_le_pow_right (by omega) (by omega);have e:(2:Int)^(8+c / 16)=((2^(8+c / 16):Nat):Int):=by simp
  rw[e];generalize 2^(8+c / 16)=m at *;exact bB _ (by omega) (by omega)
 have hw15:2^(8+c / 16)<=32768:=Nat.pow_le_pow_right (n:=2) (by omega) (by omega:8+c / 16<=15);have hO4:Hid (RI w (w3.setCell ⟨w.heap.size,2,none⟩ (.int .i64 ((2:Int)^(8+c / 16)))) w.heap.size (w.heap.size+1) (w.heap.size+2) (.slice none 0 0) (.slice none 0 0) [] 0 (2^(8+c / 16))):=by
  have e:(2:Int)^(8+c / 16)=((2^(8+c / 16):Nat):Int):=by simp
  rw[e];exact HR3.out.win' (by omega) (Nat.le_refl _) _
 go_upto_block 0 with fail
 have hlt4:Fr1 w.heap.size w3 (w3.setCell ⟨w.heap.size,2,none⟩ (.int .i64 ((2:Int)^(8+c / 16)))):=(Fr1.refl _ _).set _ _;have hRL:RL w (w3.setCell ⟨w.heap.size,2,none⟩ (.int .i64 ((2:Int)^(8+c / 16)))) z (.slice vp z.length vc) (2^(8+c / 16)) false ⟨16,false,0⟩ (.slice none 0 0) (.slice none 0 0) [] 0:=
  ⟨hO4.out,hb3.fr hlt4 (by omega),hz3.fr hlt4 (fun g hg e=>by have:=hvw g hg;omega),by have:=hO4.out.kept.size;have:=hlt4.size;have:=hb3.lt;omega,by simp,by simp,Or.inl ⟨rfl,rfl,h16,{ Px.St.start with ph := .block,window:=2^(8+c / 16) },rfl,HRUN.out⟩,Nat.le_refl _⟩
 generalize w3.setCell ⟨w.heap.size,2,none⟩ (.int .i64 ((2:Int)^(8+c / 16)))=W4 at *;generalize 2^(8+c / 16)=win at *;have HL:Hid _:=hRL;have ON:Hid (∀ W t,BAt W (w.heap.size+1) (.slice vp z.length vc) t->Calls Tryz.prog 61 #[.pointer (some ⟨w.heap.size+1,0,none⟩)] W fun r w'=>r = .returned (.bool t.on)/\w'=W):=fun W t hW=>a9 _ _ _ W hW
 clear hRL hlt4 hO4 HR3 s2 hfs k2 hb3 hz3 HRUN g1 g2 g3 g4 hwin;go_cut [7,8,9,10,11,12,13,14] from 15 (fun v7 v8 v9 Gb zF xF vm vD W=>∃ l t ov bv out nb,RL w W z (.slice vp z.length vc) win l t ov bv out nb/\(t.on=false\/l=true))
 case first=>
  go_wp2_with fail;go_loopg [7,8,9,10,11,12,13,14] (uv z ⟨16,false,0⟩) (fun m v7 v8 v9 Gb zF xF vm vD W=>∃ l t ov bv out nb,v7 = .bool l/\m=uv z t/\RL w W z (.slice vp z.length vc) win l t ov bv out nb)
  case atStart=>exact ⟨false,_,_,_,_,_,rfl,rfl,HL.out⟩
  case round=>
   obtain ⟨l,t,ov,bv,out,nb,rfl,hm,hL⟩:=hrel;have HM:Hid _:=hm;have F1:Hid (Calls Tryz.prog 61 #[.pointer (some ⟨w.heap.size+1,0,none⟩)] wr fun r w'=>r = .returned (.bool t.on)/\w'=wr):=ON.out wr t hL.bat;have H1:Hid (RL w wr z (.slice vp z.length vc) win l t ov bv out nb):=hL;clear HL hL hm;cases ho:t.on with
   | false=>
    rw[ho] at F1;go_wp2_with fail;refine F1.out.mono ?_;rintro r w5 ⟨rfl,hw5⟩;subst w5;go_wp2_with fail;go_meet
    case rel=>exact ⟨l,t,ov,bv,out,nb,H1.out,Or.inl ho⟩
   | true=>
    rw[ho] at F1;cases l with
    | true=>
     go_wp2_with fail;refine F1.out.mono ?_;rintro r w5 ⟨rfl,hw5⟩;subst w5;go_wp2_with fail;go_meet
     case rel=>exact ⟨true,t,ov,bv,out,nb,H1.out,Or.inr rfl⟩
    | false=>
     obtain ⟨te,ta,s1,hs1,hrun⟩:=H1.out.be.on0 ho;obtain ⟨a,ea⟩:∃ a,a=t.a:=⟨_,rfl⟩;rw[<- ea] at te ta hrun;subst te;have HRN:Hid (Px.Run z 0 Px.St.start a (Px.blS s1 out)):=hrun;clear hrun ea ho;by_cases h3:a+3<=8*z.length
     ·have FB:Hid (Calls Tryz.prog 62 #[.pointer (some ⟨w.heap.size+1,0,none⟩)] wr fun r w'=>r = .returned (.int .i64 (Px.aZ z a:Int))/\BAt w' (w.heap.size+1) (.slice vp z.length vc) ⟨a+1,false,0⟩/\Fr1 (w.heap.size+1) wr w'):=vB (w.heap.size+1) (.slice vp z.length vc) z ⟨a,false,0⟩ wr H1.out.bat H1.out.zat hg (by show a+1<=_;omega)
      go_wp2_with fail;refine F1.out.mono ?_;rintro r w5 ⟨rfl,hw5⟩;subst w5;go_wp2_with fail;refine FB.out.mono ?_;rintro r w6 ⟨rfl,hb6,hf6⟩;have hz6:=H1.out.zat.fr hf6 hvb;have FN:Hid (Calls Tryz.prog 59 #[.pointer (some ⟨w.heap.size+1,0,none⟩),.int .i64 ((2:Nat):Int)] w6 fun r w'=>r = .returned (.int .i64 (Px.ab z (a+1) 2:Int))/\BAt w' (w.heap.size+1) (.slice vp z.length vc) ⟨a+3,false,0⟩/\Fr1 (w.heap.size+1) w6 w'):=by
       refine (lI (w.heap.size+1) _ z _ 2 w6 hb6 hz6 hvb hg (by show a+1<=_;omega) (by omega)).mono ?_;rintro r w' ⟨x,rfl,_,h2,h3',h4⟩;rw[h2 rfl (by show a+1+2<=_;omega)];rw[Px.cA (show a+1+2<=8*z.length by omega)] at h3';exact ⟨rfl,h3',h4⟩
      have HF6:Hid (Fr1 (w.heap.size+1) wr w6):=hf6;clear hb6 hf6 hz6 FB F1;go_wp2_with fail;refine FN.out.mono ?_;rintro r w7 ⟨rfl,hb7,hf7⟩;have H7:Hid (Fr1 (w.heap.size+1) wr w7):=HF6.out.trans hf7;have B7:Hid (BAt w7 (w.heap.size+1) (.slice vp z.length vc) ⟨a+3,false,0⟩):=hb7;have F2:Hid (Calls Tryz.prog 61 #[.pointer (some ⟨w.heap.size+1,0,none⟩)] w7 fun r w'=>r = .returned (.bool true)/\w'=w7):=ON.out w7 ⟨a+3,false,0⟩ hb7;clear hb7 hf7 FN HF6;go_wp2_with fail;refine F2.out.mono ?_;rintro r w8 ⟨rfl,hw8⟩;subst w8;obtain ⟨κ,hκ⟩:∃ κ,κ=Px.ab z (a+1) 2:=⟨_,rfl⟩;obtain ⟨LL,hLL⟩:∃ LL:Bool,LL=(((Px.aZ z a:Nat):Int) == 1):=⟨_,rfl⟩;rw[<- hκ];have hRI:RI w w7 w.heap.size (w.heap.size+1) (w.heap.size+2) ov bv out nb win:=H1.out.ri.b (by omega) (by omega) (by omega) H7.out;have hsz7:w.heap.size+2<=w7.heap.size:=by have:=H1.out.sz;have:=H7.out.size;omega
      have hEN:Hid _:=LI (v := .slice vp z.length vc) hRI (by omega) (by omega) (by omega) hsz7 (by omega) ⟨Nat.le_refl _,by omega⟩ hvw κ LL;have hKLL:Hid (LL=decide (Px.aZ z a=1)):=by show LL=_;rw[hLL,Bool.eq_iff_iff,beq_iff_eq,decide_eq_true_iff];omega
      have Z7:Hid (ZAt w7 (.slice vp z.length vc) z):=H1.out.zat.fr H7.out hvb;clear hRI F2;go_upto_region 15 with fail
      rw[<- hLL];have Hκ:Hid (κ=Px.ab z (a+1) 2):=hκ;have HLL:Hid (LL=(((Px.aZ z a:Nat):Int) == 1)):=hLL;rw[<- hκ];clear hκ hLL;generalize hW8:w7.alloc (.cells (K0c κ LL) 134)=w8 at *;obtain ⟨hBs,hEn,hk3,hR8,hcl⟩:=hEN.out;have hK8:Kept w7 w8:=by rw[<- hW8];exact (Below.refl _ _).alloc (Nat.le_refl _) _
      have hb8:BAt w8 (w.heap.size+1) (.slice vp z.length vc) ⟨a+3,false,0⟩:=B7.out.same (hK8.block _ (by omega));have hz8:ZAt w8 (.slice vp z.length vc) z:=Z7.out.fr (S:=fun _=>False) (Fr.of_kept hK8) (fun _ _ e=>e);obtain ⟨st,hst⟩:∃ st:Px.St,st={ s1 with last:=decide (Px.aZ z a=1),out:=out }:=⟨_,rfl⟩;have st1:st.out=out:=by rw[hst]
      have st2:st.last=LL:=by rw[hst];exact hKLL.out.symm
      have st3:st.window=win:=by rw[hst];exact hs1
      have hnb:Hid (bv.ownBlock≠some w7.heap.size):=fun e=>by obtain ⟨ys,hy⟩:=H1.out.ri.own;have:=(hy.lt _ e).2;have:=H7.out.size;omega
      have hol:out.length<=258*(a+3):=by have:=H1.out.len;replace this:out.length<=258*a:=this;omega
      have hu:a+3<=Px.up8 (a+3):=by unfold Px.up8;omega
      have hu2:=Px.xG h3;have c0:∃ x:Int,w8.cell? ⟨w7.heap.size,0,none⟩=some (.int .i64 x):=⟨_,hcl 0⟩;have c2:∃ x:Bool,w8.cell? ⟨w7.heap.size,2,none⟩=some (.bool x):=⟨_,hcl 2⟩;have c4:∃ p n c,w8.cell? ⟨w7.heap.size,4,none⟩=some (.slice p n c):=⟨_,_,_,hcl 4⟩;have c5:∃ p n c,w8.cell? ⟨w7.heap.size,5,none⟩=some (.slice p n c):=⟨_,_,_,hcl 5⟩;have hsk:w.heap.size<=w7.heap.size:=by omega
      have FST:Hid (κ=0->Calls Tryz.prog 63 #[.pointer (some ⟨w.heap.size,0,none⟩),.pointer (some ⟨w.heap.size+1,0,none⟩),.pointer (some ⟨w7.heap.size,0,none⟩)] w8 fun r w'=>r = .returned (.tuple #[])/\∃ ov' out' t',SwR w w' z (.slice vp z.length vc) w7.heap.size win nb a LL bv ov' out' t'):=fun e0=>by
       refine (zP (w.heap.size+1) w.heap.size w7.heap.size (w.heap.size+2) (.slice vp z.length vc) ov z (a+3) st w8 hb8 hz8 hg h3 hBs (by rw[st1];exact hEn) (by rw[st1];exact hol)).mono ?_;rintro r w' ⟨ov',out',t',rfl,hS⟩;have rn:Px.Run z 0 Px.St.start (Px.up8 (a+3)) (Px.ssS st):=by rw[hst];have q:=Px.yJ (s:=s1) (out:=out) HRN.out h3 (by rw[<- Hκ.out];exact e0);exact q
       exact ⟨rfl,ov',out',t',swr (m:=0) hR8 hBs hS hz8 hsk hnb.out rn hu hu2 st2 st3 c0 c2 c4 c5⟩
      have FFL:Hid (κ≠0->κ≠1->κ≠2->Calls Tryz.prog 60 #[.pointer (some ⟨w.heap.size+1,0,none⟩),.int .i64 11] w8 fun r w'=>r = .returned (.tuple #[])/\∃ ov' out' t',SwR w w' z (.slice vp z.length vc) w7.heap.size win nb a LL bv ov' out' t'):=fun e0 e1 e2=>by
       refine (cV (w.heap.size+1) (.slice vp z.length vc) ⟨a+3,false,0⟩ 11 w8 hb8 rfl rfl).mono ?_;rintro r w' ⟨rfl,hb9,hf9⟩;have hstop:Px.Stop z 0 Px.St.start out ⟨a+3,false,11⟩:=Px.Fx HRN.out h3 (by rw[<- Hκ.out];exact e0) (by rw[<- Hκ.out];exact e1) (by rw[<- Hκ.out];exact e2);have hkk:w7.heap.size<w8.heap.size:=hBs.kw;have hc9:∀ j,w'.cell? ⟨w7.heap.size,j,none⟩=w8.cell? ⟨w7.heap.size,j,none⟩:=fun j=>hf9.cell hkk (fun e=>by have:w7.heap.size=w.heap.size+1:=e;omega)
       refine ⟨rfl,ov,out,_,hR8.b (by omega) (by omega) (by omega) hf9,hb9,hz8.fr hf9 hvb,by have:=hf9.size;omega,hol,Nat.le_refl _,Or.inr (Or.inr hstop),?_,Nat.lt_of_lt_of_le hkk hf9.size,hnb.out,⟨_,(hc9 0).trans (hcl 0)⟩,⟨_,(hc9 1).trans (hcl 1)⟩,⟨_,(hc9 2).trans (hcl 2)⟩,⟨_,_,_,(hc9 3).trans (hcl 3)⟩,⟨_,_,_,(hc9 4).trans (hcl 4)⟩,⟨_,_,_,(hc9 5).trans (hcl 5)⟩⟩;unfold uv;rw[hstop.off,if_neg (by decide)];omega
      have HB8:Hid (BAt w8 (w.heap.size+1) (.slice vp z.length vc) ⟨a+3,false,0⟩):=hb8;have HZ8:Hid (ZAt w8 (.slice vp z.length vc) z):=hz8;have HBS:Hid (Base w8 (w.heap.size+1) w.heap.size w7.heap.size (w.heap.size+2) (.slice vp z.length vc) ov):=hBs;have HR8:Hid (RI w w8 w.heap.size (w.heap.size+1) (w.heap.size+2) ov bv out nb win):=hR8;have HCL:Hid (∀ j,w8.cell? ⟨w7.heap.size,j,none⟩=(K0c κ LL)[j]?):=hcl;have HKA:Hid (KAt w8 w7.heap.size):=hEn.kat;have HK3:Hid (w8.cell? ⟨w7.heap.size,3,none⟩=some (.slice none 0 0)):=hk3;have hk78:w7.heap.size<w8.heap.size:=hBs.kw;have HOL:Hid (out.length<=258*(a+3)):=hol;have HST3:Hid (st.out=out/\st.last=LL/\st.window=win):=⟨st1,st2,st3⟩;have HRD:Hid (κ=1->Px.Run z 0 Px.St.start (a+3) (Px.syS st Px.aO Px.bW st.out)):=fun e1=>by rw[hst];have q:=Px.AR (s:=s1) (out:=out) HRN.out h3 (by rw[<- Hκ.out];exact e1);exact q
      have HRY:Hid (κ=2->Px.Run z 0 Px.St.start (a+3) (Px.coS st)):=fun e1=>by rw[hst];have q:=Px.Fv (s:=s1) (out:=out) HRN.out h3 (by rw[<- Hκ.out];exact e1);exact q
      clear hb8 hz8 hBs hEn hR8 hcl hk3 c0 c2 c4 c5 st1 st2 st3 hst hEN hW8 hK8 hs1;go_upto_block 2 with fail
      go_cut [11,12,13,14] from 63 to 130 (fun zF xF vm vD W=>∃ ov' out' t',SwR w W z (.slice vp z.length vc) w7.heap.size win nb a LL bv ov' out' t')
      case first=>
       by_cases k0:κ=0
       ·have k0':((κ:Int) == 0)=true:=by rw[beq_iff_eq];omega
        have Fd:=FST.out k0;replace Fd:Hid _:=Fd;clear k0;go_wp2_with fail;refine Calls.mono Fd.out ?_;rintro r w9 ⟨rfl,hs9⟩;go_wp2_with fail;go_meet
        case rel=>exact hs9
       have k0':((κ:Int) == 0)=false:=by rw[beq_eq_false_iff_ne];omega
       by_cases k1:κ=1
       ·have k1':((κ:Int) == 1)=true:=by rw[beq_iff_eq];omega
        have FX:Hid _:=EC w8;have RN1:Hid _:=HRD.out k1;clear k1 k0;go_wp2_with fail;refine Calls.mono FX.out ?_;rintro r w9 ⟨lv,dv,rfl,hI1,hI2,hg1,hg2,hK9⟩;have hnew:∀ g,w8.heap.size<=g->g<w9.heap.size->g≠w.heap.size+1/\g≠w.heap.size/\g≠w7.heap.size/\ov.ownBlock≠some g/\g<w9.heap.size:=fun g h1 h2=>⟨by omega,by omega,by omega,fun e=>by have:=(HR8.out.oat.own.lt g e).2;omega,h2⟩
        have cK:∀ j,w9.cell? ⟨w7.heap.size,j,none⟩=(K0c κ LL)[j]? := fun j=>(hK9.cell (p:=⟨w7.heap.size,j,none⟩) hk78).trans (HCL.out j)
        have FC:Hid _:=xu (l:=LL) (a:=a) (a1:=a+3) (st:=st) (HR8.out.kept' hK9) (HB8.out.same (hK9.block _ (by omega))) (HZ8.out.fr (S:=fun _=>False) (Fr.of_kept hK9) (fun _ _ e=>e)) hg (HBS.out.kept hK9) (HKA.out.same (hK9.block _ hk78)) (cK 3) ⟨_,cK 0⟩ ⟨_,cK 2⟩ ⟨_,_,_,cK 4⟩ ⟨_,_,_,cK 5⟩ hI1 hI2 yt wO (fun g e=>hnew g (hg1 g e) (yj hI1 (by decide +kernel) e)) (fun g e=>hnew g (hg2 g e) (yj hI2 (by decide +kernel) e)) RN1.out (Nat.le_refl _) h3 HST3.out.1 HST3.out.2.1 HST3.out.2.2 hw15 HOL.out hsk hnb.out;clear hI1 hI2 hg1 hg2 hnew cK FX RN1;go_wp2_with fail;refine Calls.mono FC.out ?_;rintro r w10 ⟨rfl,hs10⟩;go_wp2_with fail;go_meet
        case rel=>exact hs10
       have k1':((κ:Int) == 1)=false:=by rw[beq_eq_false_iff_ne];omega
       by_cases k2:κ=2
       ·have k2':((κ:Int) == 2)=true:=by rw[beq_iff_eq];omega
        have FX:Hid _:=Ay (w.heap.size+1) (.slice vp z.length vc) z (a+3) st w8 HB8.out HZ8.out hvb hg h3;have RN2:Hid _:=HRY.out k2;clear k0 k1 k2;go_wp2_with fail;refine Calls.mono FX.out ?_;rintro r w9 ⟨lv,dv,t9,rfl,hD⟩;obtain ⟨p4,n4,c4,rfl⟩:=hD.lf;obtain ⟨p5,n5,c5,rfl⟩:=hD.df;have hne:¬ w7.heap.size=w.heap.size+1:=by omega
        have cK:∀ j,w9.cell? ⟨w7.heap.size,j,none⟩=(K0c κ LL)[j]? := fun j=>(hD.fr.cell hk78 hne).trans (HCL.out j)
        have hKA9:KAt w9 w7.heap.size:=HKA.out.same (hD.fr.block _ hk78 hne);have e4:w9.cell? ⟨w7.heap.size,4,none⟩=some (.slice none 0 0):=cK 4;have e5:w9.cell? ⟨w7.heap.size,5,none⟩=some (.slice none 0 0):=cK 5;have hfz:=hKA9.fz;have HD9:Hid _:=hD;have CK:Hid (∀ j,w9.cell? ⟨w7.heap.size,j,none⟩=(K0c κ LL)[j]?):=cK;have HK9:Hid (KAt w9 w7.heap.size):=hKA9;clear hD cK hKA9;go_wp2_with fail;have HF:Fr1 w7.heap.size w9 ((w9.setCell ⟨w7.heap.size,4,none⟩ (.slice p4 n4 c4)).setCell ⟨w7.heap.size,5,none⟩ (.slice p5 n5 c5)):=Fr1.set (Fr1.set (Fr.refl _ _) _ _) _ _;have x4:((w9.setCell ⟨w7.heap.size,4,none⟩ (.slice p4 n4 c4)).setCell ⟨w7.heap.size,5,none⟩ (.slice p5 n5 c5)).cell? ⟨w7.heap.size,4,none⟩=some (.slice p4 n4 c4):=(aa _ _ _ _ _ (by omega)).trans (aj e4 _);have x5:((w9.setCell ⟨w7.heap.size,4,none⟩ (.slice p4 n4 c4)).setCell ⟨w7.heap.size,5,none⟩ (.slice p5 n5 c5)).cell? ⟨w7.heap.size,5,none⟩=some (.slice p5 n5 c5):=aj ((aa _ _ _ _ _ (by omega)).trans e5) _;have xo:Hid (∀ j,j≠4->j≠5->((w9.setCell ⟨w7.heap.size,4,none⟩ (.slice p4 n4 c4)).setCell ⟨w7.heap.size,5,none⟩ (.slice p5 n5 c5)).cell? ⟨w7.heap.size,j,none⟩=(K0c κ LL)[j]?):=fun j h4 h5=>(aa _ _ _ _ _ (by omega)).trans ((aa _ _ _ _ _ (by omega)).trans (CK.out j))
        have xf:Hid (∀ j,((w9.setCell ⟨w7.heap.size,4,none⟩ (.slice p4 n4 c4)).setCell ⟨w7.heap.size,5,none⟩ (.slice p5 n5 c5)).frozen? ⟨w7.heap.size,j,none⟩=false):=fun j=>by rw[World.frozen?_setCell,World.frozen?_setCell];exact hfz j
        generalize (w9.setCell ⟨w7.heap.size,4,none⟩ (.slice p4 n4 c4)).setCell ⟨w7.heap.size,5,none⟩ (.slice p5 n5 c5)=w11 at *;have hD:=HD9.out;have hsz11:=HF.size;have hsz9:=hD.fr.size;have hb11:BAt w11 (w.heap.size+1) (.slice vp z.length vc) t9:=hD.bat.fr HF (by omega);have hz11:ZAt w11 (.slice vp z.length vc) z:=(HZ8.out.fr hD.fr hvb).fr HF (fun g hg e=>by have:=hvw g hg;have e':g=w7.heap.size:=e;omega);have hR11:RI w w11 w.heap.size (w.heap.size+1) (w.heap.size+2) ov bv out nb win:=(HR8.out.b (by omega) (by omega) (by omega) hD.fr).k hsk (by omega) HBS.out.ko hnb.out HF;have F3:=ON.out w11 t9 hb11;cases hon:t9.on with
        | false=>
         rw[hon] at F3;have hstop:Px.Stop z (a+3) (Px.coS st) out t9:=by
          rcases hD.st with ⟨q1,q2,_⟩ | q
          ·exfalso;unfold Px.Bt.on at hon;rw[q1,q2] at hon;exact absurd hon (by decide)
          ·rw[HST3.out.1] at q;exact q
         have hle:=hstop.le h3;have hSW:Hid (SwR w w11 z (.slice vp z.length vc) w7.heap.size win nb a LL bv ov out t9):=⟨hR11,hb11,hz11,by omega,by have:=HOL.out;omega,hle.1,Or.inr (Or.inr (hstop.after RN2.out)),by unfold uv;rw[hon,if_neg (by decide)];omega,by omega,hnb.out,⟨_,xo.out 0 (by omega) (by omega)⟩,⟨_,xo.out 1 (by omega) (by omega)⟩,⟨_,xo.out 2 (by omega) (by omega)⟩,⟨_,_,_,xo.out 3 (by omega) (by omega)⟩,⟨_,_,_,x4⟩,⟨_,_,_,x5⟩⟩;replace F3:Hid _:=F3;clear hb11 hz11 hR11 hD HF x4 x5 e4 e5 hfz hstop;refine Calls.mono F3.out ?_;rintro r w12 ⟨rfl,hw12⟩;subst w12;go_wp2_with fail;go_meet
         case rel=>exact ⟨_,_,_,hSW.out⟩
        | true=>
         rw[hon] at F3;obtain ⟨q1,q2,q3,lit,dist,hI1,hI2,hs4,hs5,hg1,hg2,hrn,hl0,hd0⟩:t9.cut=false/\t9.err=0/\t9.a<=8*z.length/\∃ lit dist,IAt w9 (.slice p4 n4 c4) lit/\IAt w9 (.slice p5 n5 c5) dist/\Px.bD lit/\Px.bD dist/\(∀ g,ae (.slice p4 n4 c4)=some g->w8.heap.size<=g)/\(∀ g,ae (.slice p5 n5 c5)=some g->w8.heap.size<=g)/\Px.Run z (a+3) (Px.coS st) t9.a { st with ph := .sym lit dist }/\0<lit.length/\0<dist.length:=by
          rcases hD.st with q | q
          ·exact q
          ·rw[q.off] at hon;cases hon
         have hte:=IN q1 q2;have hnew:∀ g,w8.heap.size<=g->g<w9.heap.size->g≠w.heap.size+1/\g≠w.heap.size/\g≠w7.heap.size/\ov.ownBlock≠some g/\g<w11.heap.size:=fun g h1 h2=>⟨by omega,by omega,by omega,fun e=>by have:=(HR8.out.oat.own.lt g e).2;omega,by omega⟩
         have hle:=hrn.le;have nk4:∀ g,ae (.slice p4 n4 c4)=some g->¬ g=w7.heap.size:=fun g e q=>by have:=hg1 g e;omega
         have nk5:∀ g,ae (.slice p5 n5 c5)=some g->¬ g=w7.heap.size:=fun g e q=>by have:=hg2 g e;omega
         have hB9:Base w11 (w.heap.size+1) w.heap.size w7.heap.size (w.heap.size+2) (.slice vp z.length vc) ov:=by
          obtain ⟨b1,b2,b3,b4,b5,b6,b7,b8,b9⟩:=HBS.out;exact ⟨fun g e=>by obtain ⟨d1,d2,d3,d4,d5⟩:=b1 g e;exact ⟨d1,d2,d3,d4,by omega⟩,b2,b3,by omega,by omega,b6,b7,b8,b9⟩
         have FC:Hid _:=xu (l:=LL) (a:=a) (a1:=t9.a) (st:=st) hR11 (by rw[<- hte];exact hb11) hz11 hg hB9 ⟨⟨_,xo.out 1 (by omega) (by omega)⟩,xf.out⟩ (xo.out 3 (by omega) (by omega)) ⟨_,xo.out 0 (by omega) (by omega)⟩ ⟨_,xo.out 2 (by omega) (by omega)⟩ ⟨_,_,_,x4⟩ ⟨_,_,_,x5⟩ (hI1.fr HF nk4) (hI2.fr HF nk5) hs4 hs5 (fun g e=>hnew g (hg1 g e) (yj hI1 hl0 e)) (fun g e=>hnew g (hg2 g e) (yj hI2 hd0 e)) (Px.Run.trans RN2.out hrn) hle q3 HST3.out.1 HST3.out.2.1 HST3.out.2.2 hw15 (by have:=HOL.out;omega) hsk hnb.out;replace F3:Hid _:=F3;clear hb11 hz11 hR11 hD HF e4 e5 hfz hI1 hI2 hnew hg1 hg2 hB9 hrn nk4 nk5 q1 q2 q3 hte hs4 hs5 hl0 hd0 hle;refine Calls.mono F3.out ?_;rintro r w12 ⟨rfl,hw12⟩;subst w12;go_wp2_with fail;refine Calls.mono FC.out ?_;rintro r w13 ⟨rfl,hs13⟩;go_wp2_with fail;go_meet
         case rel=>exact hs13
       have k2':((κ:Int) == 2)=false:=by rw[beq_eq_false_iff_ne];omega
       have FF:=FFL.out k0 k1 k2;replace FF:Hid _:=FF;clear k0 k1 k2;go_wp2_with fail;refine Calls.mono FF.out ?_;rintro r w9 ⟨rfl,hs9⟩;go_wp2_with fail;go_meet
       case rel=>exact hs9
      case rest=>
       obtain ⟨ov',out',t',hs9⟩:=hcut;obtain ⟨u0,y0⟩:=hs9.c0;obtain ⟨u1,y1⟩:=hs9.c1;obtain ⟨u2,y2⟩:=hs9.c2;obtain ⟨p3,n3,q3,y3⟩:=hs9.c3;obtain ⟨p4,n4,q4,y4⟩:=hs9.c4;obtain ⟨p5,n5,q5,y5⟩:=hs9.c5;obtain ⟨ys,hown⟩:=hs9.ri.own;obtain ⟨pb,nn,cb,hbv⟩:∃ p n c,bv = .slice p n c:=by
        rcases hown.2 with ⟨e,_⟩ | ⟨g,cap,cur,e,_⟩
        ·exact ⟨_,_,_,e⟩
        ·exact ⟨_,_,_,e⟩
       have s1c:wc.cell? ⟨w.heap.size,1,none⟩=some bv:=hs9.ri.c1;have s1f:=hs9.ri.oat.fz 1;have hslt:w.heap.size<wc.heap.size:=hs9.ri.sc.lt;have hnS:¬ bv.ownBlock=some w.heap.size:=fun e=>by have:=(hown.lt _ e).1;omega
       have HOW:Hid (wc.ownsRow (w.heap.size+2) 134 6 bv nb ys):=hown;have H9:Hid _:=hs9;have hszc:=hs9.sz;have hnb1:nb+1<=100000000:=by have:=H1.out.nb;replace this:nb<=a:=this;omega
       rw[hbv] at s1c hnS HOW H9;clear hs9 hown hbv;have HC:Hid (∀ (E:TypeId) (j:Nat) (u:Value),[Value.int .i64 u0,.int .i64 u1,.bool u2,.slice p3 n3 q3,.slice p4 n4 q4,.slice p5 n5 q5][j]? = some u->(wc.alloc (Obj.cells #[Value.int .i64 u0,.int .i64 u1,.bool u2,.slice p3 n3 q3,.slice p4 n4 q4,.slice p5 n5 q5] E)).cell? ⟨wc.heap.size,j,none⟩=some u):=fun E j u hj=>by rw[World.cell?_alloc_at _ _ _ _ rfl];simpa using hj
       have HO1:Hid (∀ u ∈ [Value.int .i64 u0,.int .i64 u1,.bool u2,.slice p3 n3 q3,.slice p4 n4 q4,.slice p5 n5 q5],u.oneCell'=true):=by
        intro u hu;simp only [List.mem_cons,List.not_mem_nil,or_false] at hu;rcases hu with rfl | rfl | rfl | rfl | rfl | rfl<;>rfl
       go_upto_region 28 with fail
       go_region_law ((refine MS (by rfl) _ _ (by rfl) (w.heap.size+2) (.slice pb nn cb) nb ys (by rfl) (by exact cC HOW.out (Kept.drewN ((Below.refl _ _).alloc (Nat.le_refl _) _) 1)) wc.heap.size 1 [Value.int .i64 u0,.int .i64 u1,.bool u2,.slice p3 n3 q3,.slice p4 n4 q4,.slice p5 n5 q5] (by rfl) rfl (by intro j u hj;exact HC.out _ j u hj) HO1.out hnb1 (by simp;omega) ?_;intro g' cap w20 ho2 hf2 hn2;have fk:Fr (fun k=>(Value.slice pb nn cb).ownBlock=some k) wc w20:=(((Fr.refl _ wc).alloc _).drewN 1).trans hf2;have k1:=(fk.cell (k:=1) hslt hnS).trans s1c;have g1:=(fk.frozen (k:=1) hslt hnS).trans s1f))
       all_goals
        have q9:=H9.out;have hnew:∀ g,(Value.slice (some ⟨g',0,none⟩) (nb+1) cap).ownBlock=some g->(Value.slice pb nn cb).ownBlock=some g\/wc.heap.size<=g:=fun g hg=>by
         have e:g'=g:=by injection hg
         subst e;rcases hn2 with q | q
         ·exact Or.inl q
         ·exact Or.inr (by simp at q;omega)
        have RI2:=q9.ri.blkF (by omega) (Nat.le_refl _) fk ho2 hnew;have nown:∀ g,g<w.heap.size+2->¬ (Value.slice pb nn cb).ownBlock=some g:=fun g h e=>by have:=(HOW.out.lt _ e).1;omega
        have fs:Fr1 w.heap.size w20 (w20.setCell ⟨w.heap.size,1,none⟩ (.slice (some ⟨g',0,none⟩) (nb+1) cap)):=(Fr1.refl _ _).set _ _;have hbat:BAt (w20.setCell ⟨w.heap.size,1,none⟩ (.slice (some ⟨g',0,none⟩) (nb+1) cap)) (w.heap.size+1) (.slice vp z.length vc) t':=(q9.bat.same (fk.block _ (by omega) (nown _ (by omega)))).fr fs (by omega);have hzat:ZAt (w20.setCell ⟨w.heap.size,1,none⟩ (.slice (some ⟨g',0,none⟩) (nb+1) cap)) (.slice vp z.length vc) z:=(q9.zat.fr fk (fun g hg=>nown g (by have:=hvw g hg;omega))).fr fs (fun g hg e=>by have:=hvw g hg;omega);have hRL:Hid (RL w (w20.setCell ⟨w.heap.size,1,none⟩ (.slice (some ⟨g',0,none⟩) (nb+1) cap)) z (.slice vp z.length vc) win LL t' ov' (.slice (some ⟨g',0,none⟩) (nb+1) cap) out' (nb+1)):=⟨RI2,hbat,hzat,by have:=fk.size;have:=fs.size;omega,q9.len,by have:=q9.ge;have:=H1.out.nb;replace this:nb<=a:=this;omega,q9.be,by have:=q9.ge;have:=H1.out.a16;replace this:16<=a:=this;omega⟩;have hlf:=q9.left;replace hlf:Hid _:=hlf;clear q9 RI2 hbat hzat fs nown hnew fk ho2 hf2 hn2 k1 g1 HC HO1 HOW H9 s1c s1f;go_wp2_with fail;go_roundg (uv z t')
        case measure=>
         rw[HM.out];refine Nat.lt_of_lt_of_le hlf.out ?_;unfold uv;rw[if_pos (by unfold Px.Bt.on;rfl)];exact Nat.le_refl _
        case rel=>exact ⟨LL,t',ov',_,out',nb+1,rfl,rfl,hRL.out⟩
     ·have FB:Hid (Calls Tryz.prog 62 #[.pointer (some ⟨w.heap.size+1,0,none⟩)] wr fun r w'=>∃ x:Nat,r = .returned (.int .i64 (x:Int))/\∃ t1:Px.Bt,BAt w' (w.heap.size+1) (.slice vp z.length vc) t1/\Fr1 (w.heap.size+1) wr w'/\t1.a<=8*z.length/\t1.num z 2=⟨8*z.length,true,0⟩):=by
       by_cases h1:a+1<=8*z.length
       ·refine (vB (w.heap.size+1) (.slice vp z.length vc) z ⟨a,false,0⟩ wr H1.out.bat H1.out.zat hg h1).mono ?_
        rintro r w' ⟨rfl,q1,q2⟩;exact ⟨_,rfl,⟨a+1,false,0⟩,q1,q2,h1,Px.cM (by omega)⟩
       ·refine (yK (w.heap.size+1) (.slice vp z.length vc) z ⟨a,false,0⟩ wr H1.out.bat H1.out.zat hg (by show a=8*z.length;omega)).mono ?_
        rintro r w' ⟨rfl,q1,q2⟩;refine ⟨0,rfl,⟨a,true,0⟩,q1,q2,ta,?_⟩;rw[Px.kV rfl];rw[show a=8*z.length by omega]
      have HST:Hid (Px.Stop z 0 Px.St.start out ⟨8*z.length,true,0⟩):=Px.Fw HRN.out h3;go_wp2_with fail;refine F1.out.mono ?_;rintro r w5 ⟨rfl,hw5⟩;subst w5;go_wp2_with fail;refine FB.out.mono ?_;rintro r w6 ⟨x,rfl,t1,hb6,hf6,ht6,hn6⟩;have hz6:=H1.out.zat.fr hf6 hvb;have FN:Hid (Calls Tryz.prog 59 #[.pointer (some ⟨w.heap.size+1,0,none⟩),.int .i64 ((2:Nat):Int)] w6 fun r w'=>∃ y:Nat,r = .returned (.int .i64 (y:Int))/\BAt w' (w.heap.size+1) (.slice vp z.length vc) ⟨8*z.length,true,0⟩/\Fr1 (w.heap.size+1) w6 w'):=by
       refine (lI (w.heap.size+1) _ z _ 2 w6 hb6 hz6 hvb hg ht6 (by omega)).mono ?_;rintro r w' ⟨x,rfl,_,_,h3',h4⟩;rw[hn6] at h3';exact ⟨_,rfl,h3',h4⟩
      have HF6:Hid (Fr1 (w.heap.size+1) wr w6):=hf6;clear hb6 hf6 hz6 FB F1 ht6 hn6;go_wp2_with fail;refine FN.out.mono ?_;rintro r w7 ⟨y,rfl,hb7,hf7⟩;have H7:Hid (Fr1 (w.heap.size+1) wr w7):=HF6.out.trans hf7;have B7:Hid (BAt w7 (w.heap.size+1) (.slice vp z.length vc) ⟨8*z.length,true,0⟩):=hb7;have F2:Hid (Calls Tryz.prog 61 #[.pointer (some ⟨w.heap.size+1,0,none⟩)] w7 fun r w'=>r = .returned (.bool false)/\w'=w7):=ON.out w7 ⟨8*z.length,true,0⟩ hb7;clear hb7 hf7 FN HF6;go_wp2_with fail;refine F2.out.mono ?_;rintro r w8 ⟨rfl,hw8⟩;subst w8;go_wp2_with fail;go_meet
      case rel=>
       have q:=H1.out;exact ⟨false,⟨8*z.length,true,0⟩,ov,bv,out,nb,⟨q.ri.b (by omega) (by omega) (by omega) H7.out,B7.out,q.zat.fr H7.out hvb,by have:=q.sz;have:=H7.out.size;omega,by have:=q.len;show out.length<=258*(8*z.length);replace this:out.length<=258*a:=this;omega,by have:=q.nb;show nb<=8*z.length;replace this:nb<=a:=this;omega,Or.inr (Or.inr HST.out),h16⟩,Or.inl rfl⟩
 case rest=>
  obtain ⟨l,t,ov,bv,out,nb,hL,hof⟩:=hcut;have F1:=ON.out wc t hL.bat;cases ho:t.on with
  | false=>
   rw[ho] at F1;replace F1:Hid _:=F1;have hstop:=hL.be.off ho;have hle:=hstop.le (Nat.zero_le _);have hlen:out.length<=258*(8*z.length):=by have:=hL.len;omega
   have k3:wc.cell? ⟨w.heap.size+1,3,none⟩=some (.int .i64 (t.err:Int)):=hL.bat.c3;by_cases he:t.err=0
   ·have hP:Hid (lB w wc z w.heap.size ov out false false 0 0 0):=⟨hL.ri.oat,hL.ri.sc,hL.ri.kept,wY hg hstop,hlen,Or.inl ⟨t,hstop,rfl,rfl,rfl,he.symm,by rw[if_pos he]⟩⟩
    rw[he] at k3;clear hstop hL he HL;go_wp2_with fail;refine Calls.mono F1.out ?_;rintro r w5 ⟨rfl,hw5⟩;subst w5;go_wp2;go_ret;exact ⟨rfl,_,_,_,_,_,_,_,hP.out⟩
   ·have he':((t.err:Int) != 0)=true:=by rw[bne_iff_ne];omega
    have c5:=hL.ri.sc.c5;have c6:=hL.ri.sc.c6;have hfz:=hL.ri.oat.fz;have a0:=hL.a16;have H0:Hid _:=hL;have HS:Hid (Px.Stop z 0 Px.St.start out t):=hstop;clear hL hstop HL;go_wp2_with fail;refine Calls.mono F1.out ?_;rintro r w5 ⟨rfl,hw5⟩;subst w5;go_wp2_with fail;have hL:=H0.out;have h5:Fr1 w.heap.size wc (wc.setCell ⟨w.heap.size,5,none⟩ (.int .i64 (t.err:Int))):=(Fr1.refl _ _).set _ _;have hS6:SC (wc.setCell ⟨w.heap.size,5,none⟩ (.int .i64 (t.err:Int))) w.heap.size false false t.err 0 0:=hL.ri.sc.setErr t.err;have hO6:=hL.ri.oat.set (by omega) 5 (by omega) (.int .i64 (t.err:Int));have hb6:=hL.bat.fr h5 (by omega);have hz6:=hL.zat.fr h5 (fun g hg e=>by have:=hvw g hg;omega);have hK6:Kept w (wc.setCell ⟨w.heap.size,5,none⟩ (.int .i64 (t.err:Int))):=Fr.to_kept hL.ri.kept h5 (fun i hi e=>by omega);generalize wc.setCell ⟨w.heap.size,5,none⟩ (.int .i64 (t.err:Int))=W6 at *;refine (fW _ _ z t W6 hb6 hz6 hg (by omega) hle.2).mono ?_;rintro r w7 ⟨rfl,hk7⟩;have hS7:=hS6.kept hk7;have hO7:=hO6.kept hk7;have d6':=hS7.c6;have hf7:=hO7.fz 6;have h8:Fr1 w.heap.size w7 (w7.setCell ⟨w.heap.size,6,none⟩ (.int .i64 (Px.ay z t.a:Int))):=(Fr1.refl _ _).set _ _;have hP:Hid (lB w (w7.setCell ⟨w.heap.size,6,none⟩ (.int .i64 (Px.ay z t.a:Int))) z w.heap.size ov out false false t.err (Px.ay z t.a) 0) :=
     ⟨hO7.set (by omega) 6 (by omega) _,hS7.setAt _,Fr.to_kept (hK6.trans hk7) h8 (fun i hi e=>by omega),wY hg HS.out,hlen,Or.inl ⟨_,HS.out,rfl,rfl,rfl,rfl,by rw[if_neg he]⟩⟩
    clear hS7 hO7 h8 hS6 hO6 hb6 hz6 hK6 h5 hL;unfold Px.ay at hP;go_wp2;go_ret;exact ⟨rfl,_,_,_,_,_,_,_,hP.out⟩
  | true=>
   have hl:l=true:=by
    rcases hof with q | q
    ·rw[q] at ho;cases ho
    ·exact q
   subst hl;rw[ho] at F1;replace F1:Hid _:=F1;obtain ⟨te,ta,s1,hs1,hrun⟩:=hL.be.on1 ho;obtain ⟨a,ea⟩:∃ a,a=t.a:=⟨_,rfl⟩;rw[<- ea] at te ta hrun;subst te;obtain ⟨A,hA⟩:∃ A,Px.up8 a=A:=⟨_,rfl⟩;rw[hA] at hrun;have hby:Px.dt out:=hrun.good hg (fun x hx=>by cases hx);have hlen:out.length<=258*(8*z.length):=by have:=hL.len;replace this:out.length<=258*a:=this;omega
   have hAle:A<=8*z.length:=by rw[<- hA];exact Px.xG ta
   have Fd:Hid _:=JF (w.heap.size+1) w.heap.size (w.heap.size+2) (.slice vp z.length vc) ov z out a wc hL.bat hL.zat hg ta hL.ri.oat hL.ri.sc hby (by omega) (by omega) (by omega) (by omega) (fun g hg=>⟨hvb g hg,by have:=hvw g hg;omega⟩) A hA;have HRN:Hid (Px.Run z 0 Px.St.start A { s1 with ph := .sum,out:=out }):=hrun;have HK:Hid (Kept w wc):=hL.ri.kept;have HZ:Hid (ZAt wc (.slice vp z.length vc) z):=hL.zat;clear hL hrun ea ho hof HL;go_wp2_with fail;refine Calls.mono F1.out ?_;rintro r w5 ⟨rfl,hw5⟩;subst w5;go_wp2_with fail;refine Calls.mono Fd.out ?_;rintro r w6 ⟨rfl,t',dn,sm,er,at',en,hp⟩;have hK6:Hid (Kept w w6):=Fr.to_kept HK.out hp.fr (fun i hi e=>by rcases e with e | e<;>omega);have k3:=hp.bat.c3;have HP:Hid _:=hp;rcases hp.st with ⟨hc,rfl,rfl,rfl,rfl,rfl,rfl⟩ | ⟨hc,hbad,rfl,rfl,rfl,rfl,rfl,rfl⟩ | ⟨hc,hok,rfl,rfl,rfl,rfl,rfl,rfl⟩
   ·have hR:Hid (lB w w6 z w.heap.size ov out false false 0 0 0):=⟨hp.oat,hp.sc,hK6.out,hby,hlen,Or.inl ⟨_,Px.JD HRN.out hc,rfl,rfl,rfl,rfl,rfl⟩⟩
    replace k3:w6.cell? ⟨w.heap.size+1,3,none⟩=some (.int .i64 0):=k3;clear hp HP Fd F1;go_wp2;go_ret;exact ⟨rfl,_,_,_,_,_,_,_,hR.out⟩
   ·replace k3:w6.cell? ⟨w.heap.size+1,3,none⟩=some (.int .i64 19):=k3
    have c5:=hp.sc.c5;have c6:=hp.sc.c6;have hfz:=hp.oat.fz;clear hp Fd F1;go_wp2_with fail;have hp:=HP.out;have h5:Fr1 w.heap.size w6 (w6.setCell ⟨w.heap.size,5,none⟩ (.int .i64 19)):=(Fr1.refl _ _).set _ _;have hS6:SC (w6.setCell ⟨w.heap.size,5,none⟩ (.int .i64 19)) w.heap.size true false 19 0 (Px.ay z (A+32)):=hp.sc.setErr 19;have hO6:=hp.oat.set (by omega) 5 (by omega) (.int .i64 19);have hb6:=hp.bat.fr h5 (by omega);have hz6:=(HZ.out.fr hp.fr (fun g hg e=>by have:=hvw g hg;rcases e with e | e<;>omega)).fr h5 (fun g hg e=>by have:=hvw g hg;omega);have hK7:Kept w (w6.setCell ⟨w.heap.size,5,none⟩ (.int .i64 19)):=Fr.to_kept hK6.out h5 (fun i hi e=>by omega);generalize w6.setCell ⟨w.heap.size,5,none⟩ (.int .i64 19)=W6 at *;refine (fW _ _ z ⟨A+32,false,19⟩ W6 hb6 hz6 hg (by show 0<A+32;omega) hc).mono ?_;rintro r w7 ⟨rfl,hk7⟩;have hS7:=hS6.kept hk7;have hO7:=hO6.kept hk7;have d6':=hS7.c6;have hf7:=hO7.fz 6;have h8:Fr1 w.heap.size w7 (w7.setCell ⟨w.heap.size,6,none⟩ (.int .i64 (Px.ay z (A+32):Int))):=(Fr1.refl _ _).set _ _;have hP:Hid (lB w (w7.setCell ⟨w.heap.size,6,none⟩ (.int .i64 (Px.ay z (A+32):Int))) z w.heap.size ov out true false 19 (Px.ay z (A+32)) (Px.ay z (A+32))) :=
     ⟨hO7.set (by omega) 6 (by omega) _,hS7.setAt _,Fr.to_kept (hK7.trans hk7) h8 (fun i hi e=>by omega),hby,hlen,Or.inr (Or.inl ⟨A,_,HRN.out,rfl,rfl,Px.JE hc hbad,rfl,rfl,rfl,rfl,rfl⟩)⟩
    clear hS7 hO7 h8 hS6 hO6 hb6 hz6 hK7 h5 hp HP;unfold Px.ay at hP;go_wp2;go_ret;exact ⟨rfl,_,_,_,_,_,_,_,hP.out⟩
   ·have hR:Hid (lB w w6 z w.heap.size ov out true true (if A+32<8*z.length then 20 else 0) (if A+32<8*z.length then Px.pAt z ((A+32) / 8) else 0) (Px.ay z (A+32))):=⟨hp.oat,hp.sc,hK6.out,hby,hlen,Or.inr (Or.inr ⟨A+32,_,Px.JC HRN.out hc hok,rfl,rfl,hc,rfl,rfl,rfl,rfl,rfl⟩)⟩
    replace k3:w6.cell? ⟨w.heap.size+1,3,none⟩=some (.int .i64 0):=k3;clear hp HP Fd F1;go_wp2;go_ret;exact ⟨rfl,_,_,_,_,_,_,_,hR.out⟩
theorem vQ (v:Value) (z:List Px.One) (w:World) (hz:ZAt w v z) (hg:Px.good z) (hvw:∀ g,ae v=some g->g<w.heap.size) :
  Calls Tryz.prog 41 #[v] w fun r w'=>r = .returned (.pointer (some ⟨w.heap.size,0,none⟩))/\K8 w w' z w.heap.size:=by
 by_cases h16:16<=8*z.length
 ·by_cases hb:Px.fp (Px.ab z 0 8) (Px.ab z 8 8)
  ·exact zZ v z w hz hg hvw (fun _=>hb)
  ·exact JO v z w hz hg hvw h16 hb
 ·exact zZ v z w hz hg hvw (fun h=>absurd h h16)
