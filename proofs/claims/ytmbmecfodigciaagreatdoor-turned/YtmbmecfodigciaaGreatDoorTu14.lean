import Derived.Test.YtmbmecfodigciaaGreatDoorTu13
import Derived.Test.YtmbmecfodigciaaGreatDoorTu01
import Derived.OpenShut
import Derived.Deep.AppendLies
import Derived.Deep.RegionLaw
import Derived.Test.YtmbmecfodigciaaGreatDoorTu03
import Derived.Deep.RegionHeld3
import Derived.Test.YtmbmecfodigciaaGreatDoorTu10
set_option maxRecDepth 100000
set_option maxHeartbeats 6400000
namespace Go.Proofs.YtmbmecfodigciaaGreatDoor
open Go.RowKit Px
set_option linter.unusedSimpArgs false
set_option linter.unusedVariables false
def Rn:Rd->List Nat->Rd->Prop
 | s,[],s'=>s=s'
 | s,x::l,s'=>TakeOk s x/\(s.take x).2=0/\Rn (s.take x).1 l s'
theorem Rn.append:∀ {l m:List Nat} {s a b:Rd},Rn s l a->Rn a m b->Rn s (l++m) b
 | [],m,s,a,b,h,k=>by cases h;exact k
 | x::l,m,s,a,b,h,k=>⟨h.1,h.2.1,Rn.append h.2.2 k⟩
theorem Rn.one {s a:Rd} {x:Nat} (h:TakeOk s x) (e:s.take x=(a,0)):Rn s [x] a:=⟨h,by rw[e],by rw[e];rfl⟩
theorem Rn.cons {s a b:Rd} {x:Nat} {l:List Nat} (h:TakeOk s x) (e:s.take x=(a,0)) (k:Rn a l b):Rn s (x::l) b:=⟨h,by rw[e],by rw[e];exact k⟩
theorem one_of {d:Dc} {x:Nat} (h0:d.err=0) (h:(d.file.take x).2=0):d.one x={ d with file:=(d.file.take x).1,count:=d.count+1 }:=by
 unfold Dc.one;rw[if_neg (fun q=>q h0),if_neg (fun q=>q h)]
theorem Rn.feed:∀ {l:List Nat} {d:Dc} {b:Rd},Rn d.file l b->d.err=0->d.feed l=⟨b,d.count+l.length,0,d.at1⟩
 | [],d,b,h,h0=>by
  have e:d.file=b:=h
  show d=_
  rw[<- e]
  show d=⟨d.file,d.count,0,d.at1⟩
  rw[<- h0]
 | x::l,d,b,h,h0=>by
  show (d.one x).feed l=_
  rw[one_of h0 h.2.1]
  rw[Rn.feed (d:={ d with file:=(d.file.take x).1,count:=d.count+1 }) h.2.2 h0]
  show (⟨b,d.count+1+l.length,0,d.at1⟩:Dc)=_
  rw[List.length_cons,show d.count+1+l.length=d.count+(l.length+1) from by omega]
theorem Rn.take:∀ {l:List Nat} {s b:Rd},Rn s l b->∀ (k x:Nat),l[k]? = some x->∃ a,Rn s (l.take k) a/\TakeOk a x
 | [],s,b,h,k,x,e=>by simp at e
 | y::l,s,b,h,0,x,e=>by
  simp at e;subst e
  exact ⟨s,rfl,h.1⟩
 | y::l,s,b,h,k+1,x,e=>by
  obtain ⟨a,h1,h2⟩:=Rn.take h.2.2 k x (by simpa using e)
  exact ⟨a,⟨h.1,h.2.1,h1⟩,h2⟩
theorem Rn.ok {l:List Nat} {d:Dc} {b:Rd} (h:Rn d.file l b) (h0:d.err=0) (hc:d.count+l.length<=4294967296):FeedOk d l:=by
 intro k x e _
 obtain ⟨a,h1,h2⟩:=h.take k x e
 rw[h1.feed h0]
 refine ⟨h2,?_⟩
 show d.count+(l.take k).length<=4294967296
 rw[List.length_take];omega
structure RdInv (s:Rd):Prop where
 hd:RdHd s
 raw:∀ i,s.raw i<256
 clear:∀ j,s.tl.clear j<256
 colours:s.tl.colours<=256
def rdS (k:Nat):Rd:={ rd0 with taken:=k }
theorem hd0_ok:RdHd rd0:=⟨by decide,by decide,by decide,by decide,by decide⟩
theorem rdS_ok (k x:Nat) (hk:k<8):TakeOk (rdS k) x:=
 ⟨by show 0<=5;omega,fun _=>by show k<1000;omega,fun h=>by exfalso;revert h;show ¬ (0=1\/0=2\/0=4);omega,by show 0<4294967296;omega,fun h=>by exfalso;revert h;show ¬ (0=2);omega,⟨hd0_ok.W,hd0_ok.H,hd0_ok.D,hd0_ok.K,hd0_ok.L⟩,fun h=>by exfalso;revert h;show ¬ (0=3);omega,fun h=>by exfalso;revert h;show ¬ (0=3);omega,fun _=>by show 0<256;omega,fun _=>by show 0<256;omega⟩
theorem sign_go:Rn rd0 [137,80,78,71,13,10,26,10] { rd0 with part:=1 }:=by
 refine Rn.cons (a:=rdS 1) (rdS_ok 0 _ (by omega)) rfl ?_
 refine Rn.cons (a:=rdS 2) (rdS_ok 1 _ (by omega)) rfl ?_
 refine Rn.cons (a:=rdS 3) (rdS_ok 2 _ (by omega)) rfl ?_
 refine Rn.cons (a:=rdS 4) (rdS_ok 3 _ (by omega)) rfl ?_
 refine Rn.cons (a:=rdS 5) (rdS_ok 4 _ (by omega)) rfl ?_
 refine Rn.cons (a:=rdS 6) (rdS_ok 5 _ (by omega)) rfl ?_
 refine Rn.cons (a:=rdS 7) (rdS_ok 6 _ (by omega)) rfl ?_
 exact Rn.one (rdS_ok 7 _ (by omega)) rfl
def beN (n:Nat):List Nat:=[n / 16777216 % 256,n / 65536 % 256,n / 256 % 256,n % 256]
theorem be_num (n:Nat) (h:n<4294967296):((n / 16777216 % 256*256+n / 65536 % 256)*256+n / 256 % 256)*256+n % 256=n:=by omega
theorem num0 {m a b c d n:Nat} (hN:m=0) (e:((a*256+b)*256+c)*256+d=n):((((m*256+a)*256+b)*256+c)*256+d)=n:=by subst hN;rw[Nat.zero_mul,Nat.zero_add];exact e
theorem ok14 {s:Rd} {x:Nat} (h:RdInv s) (hp:s.part=1\/s.part=4) (ht:s.taken<1000) (hn:s.number<16777216) (hs:s.sum<4294967296):TakeOk s x:=
 ⟨by omega,fun _=>ht,fun _=>hn,hs,fun q=>by omega,h.hd,fun q=>by omega,fun q=>by omega,h.raw,h.clear⟩
theorem ok2 {s:Rd} {x:Nat} (h:RdInv s) (hp:s.part=2) (ht:s.taken<1000) (hn:s.number<16777216) (hs:s.sum<4294967296) (hx:x<256) (hl:s.length<2147483648):TakeOk s x:=
 ⟨by omega,fun _=>ht,fun _=>hn,hs,fun _=>⟨h.colours,h.hd.K,h.hd.D,hl,by show s.number*256+x<4294967296;omega⟩,h.hd,fun q=>by omega,fun q=>by omega,h.raw,h.clear⟩
theorem take1 {s:Rd} (h:s.part=1) (x:Nat):s.take x=s.takeLength x:=by unfold Rd.take;rw[if_neg (by omega),if_pos h]
theorem take2 {s:Rd} (h:s.part=2) (x:Nat):s.take x=s.takeType x:=by unfold Rd.take;rw[if_neg (by omega),if_neg (by omega),if_pos h]
theorem take3 {s:Rd} (h:s.part=3) (x:Nat):s.take x=s.takeData x:=by unfold Rd.take;rw[if_neg (by omega),if_neg (by omega),if_neg (by omega),if_pos h]
theorem take4 {s:Rd} (h:s.part=4) (x:Nat):s.take x=s.takeSum x:=by unfold Rd.take;rw[if_neg (by omega),if_neg (by omega),if_neg (by omega),if_neg (by omega),if_pos h]
theorem RdInv.num {s:Rd} (h:RdInv s) (x:Nat):RdInv (s.num x):=⟨⟨h.hd.W,h.hd.H,h.hd.D,h.hd.K,h.hd.L⟩,h.raw,h.clear,h.colours⟩
theorem RdInv.seen {s:Rd} (h:RdInv s) (x:Nat):RdInv (s.seen x):=⟨⟨h.hd.W,h.hd.H,h.hd.D,h.hd.K,h.hd.L⟩,h.raw,h.clear,h.colours⟩
def lnS (s:Rd) (n:Nat):Rd:={ s with part:=2,taken:=0,number:=0,length:=n,sum:=crcStart }
theorem len_go {s:Rd} {n:Nat} (h:RdInv s) (hp:s.part=1) (ht:s.taken=0) (hN:s.number=0) (hs:s.sum<4294967296) (hn:n<2147483648):Rn s (beN n) (lnS s n):=by
 have e:=be_num n (by omega)
 have a0:n / 16777216 % 256<256:=by omega
 have a1:n / 65536 % 256<256:=by omega
 have a2:n / 256 % 256<256:=by omega
 have a3:n % 256<256:=by omega
 unfold beN
 generalize n / 16777216 % 256=a at *
 generalize n / 65536 % 256=b at *
 generalize n / 256 % 256=c at *
 generalize n % 256=d at *
 refine Rn.cons (a:=s.num a) (ok14 h (Or.inl hp) (by omega) (by omega) hs) ?_ ?_
 ·rw[take1 hp];unfold Rd.takeLength;rw[if_pos (by omega)]
 refine Rn.cons (a:=(s.num a).num b) (ok14 (h.num a) (Or.inl hp) (by show s.taken+1<1000;omega) (by show s.number*256+a<16777216;omega) hs) ?_ ?_
 ·rw[take1 (s:=s.num a) hp];unfold Rd.takeLength;rw[if_pos (by show s.taken+1+1≠4;omega)]
 refine Rn.cons (a:=((s.num a).num b).num c) (ok14 ((h.num a).num b) (Or.inl hp) (by show s.taken+1+1<1000;omega) (by show (s.number*256+a)*256+b<16777216;omega) hs) ?_ ?_
 ·rw[take1 (s:=(s.num a).num b) hp];unfold Rd.takeLength;rw[if_pos (by show s.taken+1+1+1≠4;omega)]
 refine Rn.one (ok14 (((h.num a).num b).num c) (Or.inl hp) (by show s.taken+1+1+1<1000;omega) (by show ((s.number*256+a)*256+b)*256+c<16777216;omega) hs) ?_
 rw[take1 (s:=((s.num a).num b).num c) hp]
 have e2:(((s.num a).num b).num c).number*256+d=n:=num0 hN e
 unfold Rd.takeLength
 rw[if_neg (by show ¬ (s.taken+1+1+1+1≠4);omega),e2,if_neg (by omega)]
 rfl
def tyS (s:Rd) (T S:Nat):Rd:={ s with sum:=S,number:=T,taken:=4,ctype:=T }
theorem ty_go {s:Rd} {T:Nat} (h:RdInv s) (hp:s.part=2) (ht:s.taken=0) (hN:s.number=0) (hs:s.sum<4294967296) (hT:T<4294967296) (hl:s.length<2147483648) (hc:(tyS s T (crcL s.sum (beN T))).checkType=0):Rn s (beN T) ((tyS s T (crcL s.sum (beN T))).note.enter (if (tyS s T (crcL s.sum (beN T))).note.length=0 then 4 else 3)):=by
 have e:=be_num T (by omega)
 have a0:T / 16777216 % 256<256:=by omega
 have a1:T / 65536 % 256<256:=by omega
 have a2:T / 256 % 256<256:=by omega
 have a3:T % 256<256:=by omega
 unfold beN at *
 generalize T / 16777216 % 256=a at *
 generalize T / 65536 % 256=b at *
 generalize T / 256 % 256=c at *
 generalize T % 256=d at *
 have s1:crcAdd s.sum a<4294967296:=crcAdd_lt _ _ hs a0
 have s2:crcAdd (crcAdd s.sum a) b<4294967296:=crcAdd_lt _ _ s1 a1
 have s3:crcAdd (crcAdd (crcAdd s.sum a) b) c<4294967296:=crcAdd_lt _ _ s2 a2
 refine Rn.cons (a:=s.seen a) (ok2 h hp (by omega) (by omega) hs a0 hl) ?_ ?_
 ·rw[take2 hp];unfold Rd.takeType;rw[if_pos (by omega)]
 refine Rn.cons (a:=(s.seen a).seen b) (ok2 (h.seen a) hp (by show s.taken+1<1000;omega) (by show s.number*256+a<16777216;omega) s1 a1 hl) ?_ ?_
 ·rw[take2 (s:=s.seen a) hp];unfold Rd.takeType;rw[if_pos (by show s.taken+1+1≠4;omega)]
 refine Rn.cons (a:=((s.seen a).seen b).seen c) (ok2 ((h.seen a).seen b) hp (by show s.taken+1+1<1000;omega) (by show (s.number*256+a)*256+b<16777216;omega) s2 a2 hl) ?_ ?_
 ·rw[take2 (s:=(s.seen a).seen b) hp];unfold Rd.takeType;rw[if_pos (by show s.taken+1+1+1≠4;omega)]
 refine Rn.one (ok2 (((h.seen a).seen b).seen c) hp (by show s.taken+1+1+1<1000;omega) (by show ((s.number*256+a)*256+b)*256+c<16777216;omega) s3 a3 hl) ?_
 rw[take2 (s:=((s.seen a).seen b).seen c) hp]
 have e2:((((s.number*256+a)*256+b)*256+c)*256+d)=T:=num0 hN e
 have et:(((s.seen a).seen b).seen c).typed d=tyS s T (crcL s.sum [a,b,c,d]):=by
  show ({ s with sum:=crcL s.sum [a,b,c,d],number:=((((s.number*256+a)*256+b)*256+c)*256+d),taken:=s.taken+1+1+1+1,ctype:=((((s.number*256+a)*256+b)*256+c)*256+d) }:Rd)=_
  rw[e2,ht];rfl
 unfold Rd.takeType
 rw[if_neg (by show ¬ (s.taken+1+1+1+1≠4);omega),et,if_neg (fun q=>q hc)]
 split
 ·rfl
 ·rfl
theorem num4_go {s:Rd} {n:Nat} (h:RdInv s) (hp:s.part=4) (ht:s.taken=0) (hN:s.number=0) (hs:s.sum<4294967296) (hn:n<4294967296) (he:n=crcEnd s.sum) {a':Rd} (ha:({ s with taken:=4,number:=n }:Rd).accept=(a',0)) (hi:a'.ctype≠iend):Rn s (beN n) (a'.enter 1):=by
 have e:=be_num n (by omega)
 have a0:n / 16777216 % 256<256:=by omega
 have a1:n / 65536 % 256<256:=by omega
 have a2:n / 256 % 256<256:=by omega
 have a3:n % 256<256:=by omega
 unfold beN
 generalize n / 16777216 % 256=a at *
 generalize n / 65536 % 256=b at *
 generalize n / 256 % 256=c at *
 generalize n % 256=d at *
 refine Rn.cons (a:=s.num a) (ok14 h (Or.inr hp) (by omega) (by omega) hs) ?_ ?_
 ·rw[take4 hp];unfold Rd.takeSum;rw[if_pos (by omega)]
 refine Rn.cons (a:=(s.num a).num b) (ok14 (h.num a) (Or.inr hp) (by show s.taken+1<1000;omega) (by show s.number*256+a<16777216;omega) hs) ?_ ?_
 ·rw[take4 (s:=s.num a) hp];unfold Rd.takeSum;rw[if_pos (by show s.taken+1+1≠4;omega)]
 refine Rn.cons (a:=((s.num a).num b).num c) (ok14 ((h.num a).num b) (Or.inr hp) (by show s.taken+1+1<1000;omega) (by show (s.number*256+a)*256+b<16777216;omega) hs) ?_ ?_
 ·rw[take4 (s:=(s.num a).num b) hp];unfold Rd.takeSum;rw[if_pos (by show s.taken+1+1+1≠4;omega)]
 refine Rn.one (ok14 (((h.num a).num b).num c) (Or.inr hp) (by show s.taken+1+1+1<1000;omega) (by show ((s.number*256+a)*256+b)*256+c<16777216;omega) hs) ?_
 rw[take4 (s:=((s.num a).num b).num c) hp]
 have e2:(((s.num a).num b).num c).number*256+d=n:=num0 hN e
 have en:(((s.num a).num b).num c).num d={ s with taken:=4,number:=n }:=by
  show ({ s with number:=(((s.num a).num b).num c).number*256+d,taken:=s.taken+1+1+1+1 }:Rd)=_
  rw[e2,ht]
 unfold Rd.takeSum
 rw[if_neg (by show ¬ (s.taken+1+1+1+1≠4);omega),e2,if_neg (by show ¬ (n≠crcEnd s.sum);exact fun q=>q he),en,ha,if_neg (fun q=>q rfl),if_neg hi]
theorem plain_go' (n:Nat) (l:List Nat) (hl:l.length=n) (st:Nat->Rd) (h:∀ k,k<n->TakeOk (st k) (l.getD k 0)/\(st k).take (l.getD k 0)=(if k+1=n then (st n).enter 4 else st (k+1),0)):∀ (m k:Nat),k+m+1=n->Rn (st k) (l.drop k) ((st n).enter 4)
 | 0,k,hk=>by
  obtain ⟨h1,h2⟩:=h k (by omega)
  rw[if_pos (by omega)] at h2
  rw[List.drop_eq_getElem_cons (by omega),List.drop_eq_nil_of_le (by omega)]
  rw[List.getD_eq_getElem?_getD,List.getElem?_eq_getElem (by omega)] at h1 h2
  exact Rn.one h1 h2
 | m+1,k,hk=>by
  obtain ⟨h1,h2⟩:=h k (by omega)
  rw[if_neg (by omega)] at h2
  rw[List.drop_eq_getElem_cons (by omega)]
  rw[List.getD_eq_getElem?_getD,List.getElem?_eq_getElem (by omega)] at h1 h2
  exact Rn.cons h1 h2 (plain_go' n l hl st h m (k+1) (by omega))
theorem plain_go (n:Nat) (l:List Nat) (hl:l.length=n) (hn:0<n) (st:Nat->Rd) (h:∀ k,k<n->TakeOk (st k) (l.getD k 0)/\(st k).take (l.getD k 0)=(if k+1=n then (st n).enter 4 else st (k+1),0)):Rn (st 0) l ((st n).enter 4):=by
 have:=plain_go' n l hl st h (n - 1) 0 (by omega)
 rwa [List.drop_zero] at this
def upN (f:Nat->Nat) (l:List Nat) (k:Nat):Nat->Nat:=fun i=>if i<k then l.getD i 0 else f i
theorem upN_zero (f:Nat->Nat) (l:List Nat):upN f l 0=f:=by funext i;unfold upN;rw[if_neg (by omega)]
theorem upN_upd (f:Nat->Nat) (l:List Nat) (k:Nat):upd (upN f l k) k (l.getD k 0)=upN f l (k+1):=by
 funext i
 unfold upN upd
 by_cases h:i=k
 ·subst h;rw[if_pos rfl,if_pos (by omega)]
 ·rw[if_neg h]
  show (if i<k then l.getD i 0 else f i)=_
  by_cases h2:i<k
  ·rw[if_pos h2,if_pos (by omega)]
  ·rw[if_neg h2,if_neg (by omega)]
theorem upN_lt {f:Nat->Nat} {l:List Nat} {k m:Nat} (h:∀ i,f i<m) (h2:∀ x ∈ l,x<m) (hm:0<m) (i:Nat):upN f l k i<m:=by
 unfold upN
 split
 ·rw[List.getD_eq_getElem?_getD]
  by_cases hi:i<l.length
  ·rw[List.getElem?_eq_getElem hi];exact h2 _ (List.getElem_mem hi)
  ·rw[List.getElem?_eq_none (by omega)];exact hm
 ·exact h i
theorem crcL_snoc (s:Nat) (l:List Nat) (x:Nat):crcL s (l++[x])=crcAdd (crcL s l) x:=by unfold crcL;rw[List.foldl_append];rfl
theorem crcL_app (s:Nat) (l m:List Nat):crcL s (l++m)=crcL (crcL s l) m:=by unfold crcL;rw[List.foldl_append]
theorem crcL_take (s:Nat) (l:List Nat) (k:Nat) (hk:k<l.length):crcL s (l.take (k+1))=crcAdd (crcL s (l.take k)) (l.getD k 0):=by
 rw[List.take_succ_eq_append_getElem hk,crcL_snoc,List.getD_eq_getElem?_getD,List.getElem?_eq_getElem hk];rfl
theorem crcL_lt (s:Nat) (l:List Nat) (h:s<4294967296) (hb:∀ x ∈ l,x<256):crcL s l<4294967296:=by
 unfold crcL
 induction l generalizing s with
 | nil=>exact h
 | cons x l ih=>exact ih _ (crcAdd_lt _ _ h (hb x (by simp))) (fun y hy=>hb y (by simp [hy]))
theorem take_lt {l:List Nat} (h:∀ x ∈ l,x<256) (k:Nat):∀ x ∈ l.take k,x<256:=fun x hx=>h x (List.mem_of_mem_take hx)
theorem keep_raw {s:Rd} {x:Nat} (h:s.ctype=ihdr):s.keep x=({ s with raw:=upd s.raw s.taken x },0):=by unfold Rd.keep;rw[if_pos h]
theorem keep_pal {s:Rd} {x:Nat} (h:s.ctype=plte):s.keep x=({ s with tl:={ s.tl with pal:=upd s.tl.pal s.taken x } },0):=by unfold Rd.keep;rw[if_neg (by rw[h];decide),if_pos h]
theorem keep_clr {s:Rd} {x:Nat} (h:s.ctype=trns):s.keep x=({ s with tl:={ s.tl with clear:=upd s.tl.clear s.taken x } },0):=by unfold Rd.keep;rw[if_neg (by rw[h];decide),if_neg (by rw[h];decide),if_pos h]
theorem keep_idat {s:Rd} {x:Nat} (h:s.ctype=idat):s.keep x=s.takeStream x:=by unfold Rd.keep;rw[if_neg (by rw[h];decide),if_neg (by rw[h];decide),if_neg (by rw[h];decide),if_pos h]
def rawS (s:Rd) (l:List Nat) (k:Nat):Rd:={ s with taken:=k,sum:=crcL s.sum (l.take k),raw:=upN s.raw l k }
theorem raw_go {s:Rd} {l:List Nat} (h:RdInv s) (hp:s.part=3) (ht:s.taken=0) (hc:s.ctype=ihdr) (hl:l.length=13) (hs:s.length=13) (hb:∀ x ∈ l,x<256) (hsum:s.sum<4294967296):Rn s l ((rawS s l 13).enter 4):=by
 have e0:rawS s l 0=s:=by
  have q:({ s with taken:=0 }:Rd)=s:=by rw[<- ht]
  unfold rawS;rw[upN_zero];exact q
 have key:=plain_go 13 l hl (by omega) (rawS s l) (fun k hk => ?_)
 ·rwa [e0] at key
 ·refine ⟨⟨by show s.part<=5;omega,fun q=>absurd hp q,fun q=>by replace q:s.part=1\/s.part=2\/s.part=4:=q;omega,crcL_lt _ _ hsum (take_lt hb k),fun q=>by replace q:s.part=2:=q;omega,⟨h.hd.W,h.hd.H,h.hd.D,h.hd.K,h.hd.L⟩,fun _ => ?_,fun _ => ?_,fun i=>upN_lt h.raw hb (by omega) i,h.clear⟩,?_⟩
  ·refine ⟨fun _=>by show k<13;omega,fun q => ?_,fun q => ?_,fun q _ => ?_⟩
   all_goals (replace q:s.ctype=_:=q;rw[hc] at q;exact absurd q (by decide))
  ·rw[keep_raw (s:=(rawS s l k).summed (l.getD k 0)) hc];show k<2147483648;omega
  ·rw[take3 (s:=rawS s l k) hp]
   have ek:((rawS s l k).summed (l.getD k 0)).keep (l.getD k 0)=({ s with taken:=k,sum:=crcL s.sum (l.take (k+1)),raw:=upN s.raw l (k+1) },0):=by
    rw[keep_raw (s:=(rawS s l k).summed (l.getD k 0)) hc,crcL_take _ _ _ (by omega),<- upN_upd];rfl
   unfold Rd.takeData
   rw[ek,if_neg (fun q=>q rfl)]
   unfold Rd.dataEnd
   by_cases e:k+1=13
   ·rw[if_pos (show k+1=s.length from by omega),if_pos e]
    have:k=12:=by omega
    subst this;rfl
   ·rw[if_neg (show ¬ k+1=s.length from by omega),if_neg e];rfl
def palS (s:Rd) (l:List Nat) (k:Nat):Rd:={ s with taken:=k,sum:=crcL s.sum (l.take k),tl:={ s.tl with pal:=upN s.tl.pal l k } }
theorem pal_go {s:Rd} {l:List Nat} {n:Nat} (h:RdInv s) (hp:s.part=3) (ht:s.taken=0) (hc:s.ctype=plte) (hn0:0<n) (hn:n<=768) (hl:l.length=n) (hs:s.length=n) (hb:∀ x ∈ l,x<256) (hsum:s.sum<4294967296):Rn s l ((palS s l n).enter 4):=by
 have e0:palS s l 0=s:=by
  have q:({ s with taken:=0 }:Rd)=s:=by rw[<- ht]
  unfold palS;rw[upN_zero];exact q
 have key:=plain_go n l hl hn0 (palS s l) (fun k hk => ?_)
 ·rwa [e0] at key
 ·refine ⟨⟨by show s.part<=5;omega,fun q=>absurd hp q,fun q=>by replace q:s.part=1\/s.part=2\/s.part=4:=q;omega,crcL_lt _ _ hsum (take_lt hb k),fun q=>by replace q:s.part=2:=q;omega,⟨h.hd.W,h.hd.H,h.hd.D,h.hd.K,h.hd.L⟩,fun _ => ?_,fun _ => ?_,h.raw,h.clear⟩,?_⟩
  ·refine ⟨fun q => ?_,fun _=>by show k<768;omega,fun q => ?_,fun q _ => ?_⟩
   all_goals (replace q:s.ctype=_:=q;rw[hc] at q;exact absurd q (by decide))
  ·rw[keep_pal (s:=(palS s l k).summed (l.getD k 0)) hc];show k<2147483648;omega
  ·rw[take3 (s:=palS s l k) hp]
   have ek:((palS s l k).summed (l.getD k 0)).keep (l.getD k 0)=({ s with taken:=k,sum:=crcL s.sum (l.take (k+1)),tl:={ s.tl with pal:=upN s.tl.pal l (k+1) } },0):=by
    rw[keep_pal (s:=(palS s l k).summed (l.getD k 0)) hc,crcL_take _ _ _ (by omega),<- upN_upd];rfl
   unfold Rd.takeData
   rw[ek,if_neg (fun q=>q rfl)]
   unfold Rd.dataEnd
   by_cases e:k+1=n
   ·rw[if_pos (show k+1=s.length from by omega),if_pos e]
    subst e;rfl
   ·rw[if_neg (show ¬ k+1=s.length from by omega),if_neg e];rfl
def clrS (s:Rd) (l:List Nat) (k:Nat):Rd:={ s with taken:=k,sum:=crcL s.sum (l.take k),tl:={ s.tl with clear:=upN s.tl.clear l k } }
theorem clr_go {s:Rd} {l:List Nat} {n:Nat} (h:RdInv s) (hp:s.part=3) (ht:s.taken=0) (hc:s.ctype=trns) (hn0:0<n) (hn:n<=256) (hl:l.length=n) (hs:s.length=n) (hb:∀ x ∈ l,x<256) (hsum:s.sum<4294967296):Rn s l ((clrS s l n).enter 4):=by
 have e0:clrS s l 0=s:=by
  have q:({ s with taken:=0 }:Rd)=s:=by rw[<- ht]
  unfold clrS;rw[upN_zero];exact q
 have key:=plain_go n l hl hn0 (clrS s l) (fun k hk => ?_)
 ·rwa [e0] at key
 ·refine ⟨⟨by show s.part<=5;omega,fun q=>absurd hp q,fun q=>by replace q:s.part=1\/s.part=2\/s.part=4:=q;omega,crcL_lt _ _ hsum (take_lt hb k),fun q=>by replace q:s.part=2:=q;omega,⟨h.hd.W,h.hd.H,h.hd.D,h.hd.K,h.hd.L⟩,fun _ => ?_,fun _ => ?_,h.raw,fun j=>upN_lt h.clear hb (by omega) j⟩,?_⟩
  ·refine ⟨fun q => ?_,fun q => ?_,fun _=>by show k<256;omega,fun q _ => ?_⟩
   all_goals (replace q:s.ctype=_:=q;rw[hc] at q;exact absurd q (by decide))
  ·rw[keep_clr (s:=(clrS s l k).summed (l.getD k 0)) hc];show k<2147483648;omega
  ·rw[take3 (s:=clrS s l k) hp]
   have ek:((clrS s l k).summed (l.getD k 0)).keep (l.getD k 0)=({ s with taken:=k,sum:=crcL s.sum (l.take (k+1)),tl:={ s.tl with clear:=upN s.tl.clear l (k+1) } },0):=by
    rw[keep_clr (s:=(clrS s l k).summed (l.getD k 0)) hc,crcL_take _ _ _ (by omega),<- upN_upd];rfl
   unfold Rd.takeData
   rw[ek,if_neg (fun q=>q rfl)]
   unfold Rd.dataEnd
   by_cases e:k+1=n
   ·rw[if_pos (show k+1=s.length from by omega),if_pos e]
    subst e;rfl
   ·rw[if_neg (show ¬ k+1=s.length from by omega),if_neg e];rfl
end Go.Proofs.YtmbmecfodigciaaGreatDoor
namespace Go.Proofs.YtmbmecfodigciaaGreatDoor
open Go.RowKit
set_option linter.unusedSimpArgs false
set_option linter.unusedVariables false
theorem infoU8:(Tryz.prog.info? 5).map (fun i=>(i.zero,i.size,i.bytes))=some (some (.int .u8 0),1,1):=by kernel_rfl
def isBytes (l:List Int):Prop:=∀ x ∈ l,0<=x/\x<256
theorem isBytes.nil:isBytes []:=fun _ h=>by simp at h
theorem isBytes.app {l m:List Int} (h:isBytes l) (k:isBytes m):isBytes (l++m):=by
 intro y hy;simp at hy;rcases hy with hy | hy
 ·exact h y hy
 ·exact k y hy
def u8s (l:List Int):List Value:=l.map (Value.int .u8)
def Own8 (w:World) (N:Nat) (v:Value) (n:Nat):Prop:=∃ l:List Int,l.length=n/\isBytes l/\w.ownsRow N 5 1 v n (u8s l)
abbrev FrN (x N:Nat):World->World->Prop:=Fr (fun g=>g=x\/N<=g)
def szOf (W:World) (x:Nat):Nat:=match W.cell? ⟨x,2,none⟩ with | some (.int _ v)=>v.toNat | _=>0
end Go.Proofs.YtmbmecfodigciaaGreatDoor
namespace Go.Proofs.YtmbmecfodigciaaGreatDoor
open Go.RowKit Px
set_option linter.unusedSimpArgs false
set_option linter.unusedVariables false
def OwnB (w:World) (N:Nat) (v:Value) (l:List Int):Prop:=isBytes l/\w.ownsRow N 5 1 v l.length (u8s l)
theorem OwnB.own8 {w:World} {N:Nat} {v:Value} {l:List Int} (h:OwnB w N v l):Own8 w N v l.length:=⟨l,rfl,h.1,h.2⟩
theorem OwnB.slice {w:World} {N:Nat} {v:Value} {l:List Int} (h:OwnB w N v l):∃ p c,v = .slice p l.length c:=own_slice h.2
theorem OwnB.kept {w W:World} {N:Nat} {v:Value} {l:List Int} (h:OwnB w N v l) (k:Kept w W):OwnB W N v l:=⟨h.1,own_kept h.2 k⟩
theorem OwnB.alloc {w:World} {N:Nat} {v:Value} {l:List Int} (h:OwnB w N v l) (o:Obj):OwnB (w.alloc o) N v l:=h.kept ((Below.refl _ _).alloc (Nat.le_refl _) o)
theorem OwnB.drewN {w:World} {N:Nat} {v:Value} {l:List Int} (h:OwnB w N v l) (k:Nat):OwnB (w.drewN k) N v l:=h.kept ((Kept.refl _).drewN k)
theorem OwnB.set {w:World} {N:Nat} {v:Value} {l:List Int} (h:OwnB w N v l) {b:Nat} (hb:b<N) (k:Nat) (u:Value):OwnB (w.setCell ⟨b,k,none⟩ u) N v l:=⟨h.1,ownsRow_setCell_below h.2 hb _⟩
theorem OwnB.ge {w:World} {N:Nat} {v:Value} {l:List Int} (h:OwnB w N v l):∀ k,v.ownBlock=some k->N<=k:=fun k hk=>(h.2.lt k hk).1
theorem OwnB.nil (w:World) (N:Nat):OwnB w N (.slice none 0 0) []:=⟨isBytes.nil,World.ownsRow_nil _ _ _ _⟩
theorem OwnB.lat {w:World} {N:Nat} {v:Value} {l:List Int} (h:OwnB w N v l):LAt w .u8 v l:=own_lat h.2
theorem OwnB.base {w:World} {N M:Nat} {v:Value} {l:List Int} (h:OwnB w N v l) (hb:M<=N):OwnB w M v l:=⟨h.1,own_base h.2 hb⟩
theorem stepB {w:World} {ops:Array Oper} {o:Oper} {a:Act} {K:Act->World->Prop} {Q:Exit->Act->World->Prop} {E:Prop} (hgd:o.guard=none) (s x:Operand)
  (hop:o.op=Op.call { callee:=Callee.builtin Builtin.append,args:=#[s,x],argTypes:=#[56,56] })
  (N:Nat) (v:Value) (l:List Int) (hs:a.eval s=v) (hown:OwnB w N v l)
  (g:Nat) (m c:Nat) (es:List Int) (hx:a.eval x = .slice (some ⟨g,0,none⟩) m c) (hm:m=es.length) (h0:0<m) (hE:isBytes es) (hc:∀ j,j<m->w.cell? ⟨g,j,none⟩=some (.int .u8 (es.getD j 0))) (hb:l.length+m<=1099511627776) (hbase:N<=w.heap.size)
  (hK:∀ g' cap w',OwnB w' N (.slice (some ⟨g',0,none⟩) (l.length+m) cap) (l++es)->Fr (fun k=>v.ownBlock=some k) w w'->K (a.put o.dst (.slice (some ⟨g',0,none⟩) (l.length+m) cap)) w') :
  if Region.wanted o (yielded ops a.tmps)=true then Oper.wp Tryz.prog o a w K Q else E:=by
 obtain ⟨hB,ho⟩:=hown
 subst hm
 obtain ⟨i0,hi,hz0,hz1,hz2⟩:=info_parts' infoU8
 refine step_append_lies w hgd s x 56 hop N 5 i0 (.int .u8 0) 1 1 Tryz.underlying56 hi hz0 hz1 hz2 rfl (by omega) v l.length (u8s l) hs ho ⟨g,0,none⟩ es.length c (u8s es) hx (by simp [u8s]) ?_ ?_ h0 (by unfold maxLen;omega) (by omega) hbase w.heap.size rfl ?_
 ·intro j u hj
  have hlt:j<es.length:=by
   have:=(List.getElem?_eq_some_iff.1 hj).1
   simpa [u8s] using this
  have e:(Addr.add ⟨g,0,none⟩ j)=⟨g,j,none⟩:=by unfold Addr.add;split<;>simp_all
  rw[e,hc j hlt]
  simp [u8s,List.getElem?_map,List.getElem?_eq_getElem hlt] at hj
  rw[<- hj]
  simp [List.getD_eq_getElem?_getD,List.getElem?_eq_getElem hlt]
 ·intro u hu;simp [u8s] at hu;obtain ⟨y,_,rfl⟩:=hu;rfl
 ·intro g' cap w' h1 h2 h3 h4
  refine hK g' cap w' ⟨hB.app hE,by simpa [u8s] using h1⟩ ⟨h2.os,h2.tape,h2.output,h2.size,fun k hk hn=>h2.block k hk (fun e=>hn e.symm)⟩
theorem stepB_1 {w:World} {ops:Array Oper} {o:Oper} {a:Act} {K:Act->World->Prop} {Q:Exit->Act->World->Prop} {E:Prop} (hgd:o.guard=none) (s x:Operand)
  (hop:o.op=Op.call { callee:=Callee.builtin Builtin.append,args:=#[s,x],argTypes:=#[56,56] })
  (N:Nat) (v:Value) (l:List Int) (hs:a.eval s=v) (hown:OwnB w N v l)
  (g:Nat) (c:Nat) (e:Int) (hx:a.eval x = .slice (some ⟨g,0,none⟩) 1 c) (he0:0<=e) (he1:e<256) (hc:w.cell? ⟨g,0,none⟩=some (.int .u8 e)) (hb:l.length+1<=1099511627776) (hbase:N<=w.heap.size)
  (hK:∀ g' cap w',OwnB w' N (.slice (some ⟨g',0,none⟩) (l.length+1) cap) (l++[e])->Fr (fun k=>v.ownBlock=some k) w w'->K (a.put o.dst (.slice (some ⟨g',0,none⟩) (l.length+1) cap)) w') :
  if Region.wanted o (yielded ops a.tmps)=true then Oper.wp Tryz.prog o a w K Q else E:=
 stepB hgd s x hop N v l hs hown g 1 c [e] hx rfl (by omega) (fun y hy=>by simp at hy;subst hy;exact ⟨he0,he1⟩) (fun j hj=>match j,hj with | 0,_=>hc) hb hbase hK
def leB:Nat->Nat->List Int
 | 0,_=>[]
 | k+1,r=>((r % 256:Nat):Int)::leB k (r / 256)
theorem leB_len:∀ (k r:Nat),(leB k r).length=k
 | 0,_=>rfl
 | k+1,r=>congrArg (·+1) (leB_len k (r / 256))
theorem leB_snoc:∀ (k r:Nat),leB (k+1) r=leB k r++[((r / 256^k % 256:Nat):Int)]
 | 0,r=>by show [((r % 256:Nat):Int)]=[((r / 256^0 % 256:Nat):Int)];rw[Nat.pow_zero,Nat.div_one]
 | k+1,r=>by
  show ((r % 256:Nat):Int)::leB (k+1) (r / 256)=(((r % 256:Nat):Int)::leB k (r / 256))++_
  rw[leB_snoc k (r / 256),List.cons_append,Nat.div_div_eq_div_mul,show 256*256^k=256^(k+1) from by rw[Nat.pow_succ,Nat.mul_comm]]
structure BitB (W:World) (x N:Nat) (l:List Int) (r m:Nat):Prop where
 lt:x<N
 size:N<=W.heap.size
 fz:∀ k,W.frozen? ⟨x,k,none⟩=false
 out:∃ ov,W.cell? ⟨x,0,none⟩=some ov/\OwnB W N ov l
 rest:W.cell? ⟨x,1,none⟩=some (.int .u32 (r:Int))
 sz:W.cell? ⟨x,2,none⟩=some (.int .u64 (m:Int))
theorem u32_or_shl (a g t:Nat) (ha:a<2^g) (h:a+t*2^g<4294967296):bits .or .u32 (a:Int) ((t*2^g:Nat):Int)=((a+t*2^g:Nat):Int):=by
 rw[u32_or_nat _ _ (by omega) (by omega)]
 have:=Nat.shiftLeft_add_eq_or_of_lt (b:=a) (i:=g) ha t
 rw[Nat.shiftLeft_eq] at this
 rw[Nat.or_comm,<- this,Nat.add_comm]
def putR (r m n s:Nat):Nat:=r+n % 2^s*2^m
theorem putR_lt {r m n s:Nat} (hr:r<2^m):putR r m n s<2^(m+s):=by
 unfold putR
 have h1:n % 2^s<2^s:=Nat.mod_lt _ (Nat.two_pow_pos s)
 have h2:(n % 2^s+1)*2^m<=2^s*2^m:=Nat.mul_le_mul_right _ h1
 rw[Nat.add_mul,Nat.one_mul] at h2
 rw[Nat.pow_add,Nat.mul_comm (2^m)]
 omega
theorem pow24 {k:Nat} (h:k<=23):2^k<=8388608:=Nat.le_trans (Nat.pow_le_pow_right (by omega) h) (by decide)
theorem number_b (x N:Nat) (l:List Int) (r m n s:Nat) (w:World) (h:BitB w x N l r m) (hr:r<2^m) (hm7:m<=7) (hs:s<=16) (hn1:n<4294967296) (hl:l.length<=1073741824) :
  Calls Tryz.prog 133 #[.pointer (some ⟨x,0,none⟩),.int .u32 (n:Int),.int .u64 (s:Int)] w fun e w'=>e = .returned (.tuple #[])/\BitB w' x N (l++leB ((m+s) / 8) (putR r m n s)) (putR r m n s / 256^((m+s) / 8)) ((m+s) % 8)/\FrN x N w w'/\(∀ j,3<=j->w'.cell? ⟨x,j,none⟩=w.cell? ⟨x,j,none⟩):=by
 obtain ⟨hlt,hsz,hfz,⟨ov,h0,hown⟩,h1,h2⟩:=h
 obtain ⟨p,c,rfl⟩:=hown.slice
 have hfa:=hfz 0
 have hfb:=hfz 1
 have hfc:=hfz 2
 have HO:Hid (OwnB w N (.slice p l.length c) l):=hown
 have hpR:=putR_lt (n:=n) (s:=s) hr
 have hp24:=pow24 (k:=m+s) (by omega)
 obtain ⟨PR,hPR⟩:∃ PR,PR=putR r m n s:=⟨_,rfl⟩
 have HR:Hid (∀ q:Int,q=bits BinOp.or IntKind.u32 (r:Int) (bits BinOp.and IntKind.u32 (n:Int) ((2^s - 1) % 4294967296)*2^m % 4294967296)->q=(PR:Int)):=fun q hq=>by
  have hp:=pow24 (k:=s) (by omega)
  have hs1:1<=2^s:=Nat.one_le_two_pow
  have e1:((2:Int)^s - 1) % 4294967296=((2^s - 1:Nat):Int):=by
   have:(2:Int)^s=((2^s:Nat):Int):=by simp
   rw[this];omega
  have hnm:n % 2^s*2^m<=putR r m n s:=by unfold putR;omega
  have e2:((n % 2^s:Nat):Int)*2^m % 4294967296=((n % 2^s*2^m:Nat):Int):=by
   have:((n % 2^s:Nat):Int)*2^m=((n % 2^s*2^m:Nat):Int):=by simp
   rw[this]
   obtain ⟨Z,hZ⟩:∃ Z,Z=n % 2^s*2^m:=⟨_,rfl⟩
   rw[<- hZ] at hnm ⊢
   omega
  rw[hq,e1,u32_and_mask n s hn1 (by omega),e2,u32_or_shl r m _ hr (by show putR r m n s<_;omega),hPR]
  rfl
 rw[<- hPR] at hpR ⊢
 have hPRb:PR<8388608:=by omega
 clear hown hPR hpR hp24
 obtain ⟨MS,hMS⟩:∃ MS,MS=m+s:=⟨_,rfl⟩
 have eMS:(m:Int)+(s:Int)=(MS:Int):=by omega
 have hMS23:MS<=23:=by omega
 rw[<- hMS]
 clear hMS
 go_enter Tryz.func133,Tryz.ntmps133
 go_wp2
 go_region
 rw[HR.out _ rfl]
 have hD:((w.setCell { block:=x,off:=1 } (Value.int IntKind.u32 (PR:Int))).drew)=((w.setCell { block:=x,off:=1 } (Value.int IntKind.u32 (PR:Int))).drewN 1):=rfl
 rw[hD]
 clear hD
 have a0:((w.setCell ⟨x,1,none⟩ (Value.int IntKind.u32 (PR:Int))).drewN 1).cell? ⟨x,0,none⟩=some (Value.slice p l.length c):=(cell_set_other _ _ _ _ _ (by omega)).trans h0
 have a1:((w.setCell ⟨x,1,none⟩ (Value.int IntKind.u32 (PR:Int))).drewN 1).cell? ⟨x,1,none⟩=some (Value.int IntKind.u32 (PR:Int)):=cell_set_same h1 _
 have a2:((w.setCell ⟨x,1,none⟩ (Value.int IntKind.u32 (PR:Int))).drewN 1).cell? ⟨x,2,none⟩=some (Value.int IntKind.u64 (m:Int)):=(cell_set_other _ _ _ _ _ (by omega)).trans h2
 have af:∀ k,((w.setCell ⟨x,1,none⟩ (Value.int IntKind.u32 (PR:Int))).drewN 1).frozen? ⟨x,k,none⟩=false:=fun k=>by show (w.setCell _ _).frozen? _=false;rw[World.frozen?_setCell];exact hfz k
 have HO1:Hid (OwnB ((w.setCell ⟨x,1,none⟩ (Value.int IntKind.u32 (PR:Int))).drewN 1) N (.slice p l.length c) l):=(HO.out.set hlt _ _).drewN _
 have HF1:Hid (FrN x N w ((w.setCell ⟨x,1,none⟩ (Value.int IntKind.u32 (PR:Int))).drewN 1)):=((Fr.refl _ _).setCell (Or.inl (Or.inl rfl)) _ _).drewN _
 have HJ1:Hid (∀ j,3<=j->((w.setCell ⟨x,1,none⟩ (Value.int IntKind.u32 (PR:Int))).drewN 1).cell? ⟨x,j,none⟩=w.cell? ⟨x,j,none⟩):=fun j hj=>cell_set_other _ _ _ _ _ (by omega)
 generalize (w.setCell ⟨x,1,none⟩ (Value.int IntKind.u32 (PR:Int))).drewN 1=w1 at *
 clear h0 h1 h2 hfa hfb hfc
 have hfa:=af 0
 have hfb:=af 1
 have hfc:=af 2
 go_wp2
 generalize ((2:Int)^s % 4294967296 - 1) % 4294967296=Z1
 go_loopw [] (fun W=>∃ k q:Nat,∃ ov:Value,8*q+k=MS/\W.cell? ⟨x,2,none⟩=some (.int .u64 (k:Int))/\W.cell? ⟨x,0,none⟩=some ov/\OwnB W N ov (l++leB q PR)/\W.cell? ⟨x,1,none⟩=some (.int .u32 ((PR / 256^q:Nat):Int))/\(∀ k,W.frozen? ⟨x,k,none⟩=false)/\FrN x N w W/\(∀ j,3<=j->W.cell? ⟨x,j,none⟩=w.cell? ⟨x,j,none⟩)) (fun W=>szOf W x)
 case atStart=>
  refine ⟨MS,0,_,by omega,?_,(cell_set_other _ _ _ _ _ (by omega)).trans a0,?_,?_,?_,HF1.out.setCell (Or.inl (Or.inl rfl)) _ _,?_⟩
  ·exact cell_set_same a2 _
  ·rw[show leB 0 PR=[] from rfl,List.append_nil];exact HO1.out.set hlt _ _
  ·rw[Nat.pow_zero,Nat.div_one];exact (cell_set_other _ _ _ _ _ (by omega)).trans a1
  ·intro k;rw[World.frozen?_setCell];exact af k
  ·intro j hj;rw[cell_set_other _ _ _ _ _ (by omega)];exact HJ1.out j hj
 case round=>
  obtain ⟨k,q,ov,he,c2,c0,ho,c1,ff,hF,hJ⟩:=hrel
  obtain ⟨p2,cc,rfl⟩:=ho.slice
  have f0:=ff 0
  have f1:=ff 1
  have f2:=ff 2
  have hN:N<=wr.heap.size:=Nat.le_trans hsz hF.size
  have HF:Hid (FrN x N w wr):=hF
  have HJ:Hid (∀ j,3<=j->wr.cell? ⟨x,j,none⟩=w.cell? ⟨x,j,none⟩):=hJ
  obtain ⟨LL,hLL⟩:∃ LL,LL=l++leB q PR:=⟨_,rfl⟩
  have hLLl:LL.length=l.length+q:=by rw[hLL,List.length_append,leB_len]
  rw[<- hLL] at ho c0
  have HO2:Hid (OwnB wr N (.slice p2 LL.length cc) LL):=ho
  replace ff:Hid (∀ k,wr.frozen? ⟨x,k,none⟩=false):=ff
  obtain ⟨RQ,hRQ⟩:∃ RQ,RQ=PR / 256^q:=⟨_,rfl⟩
  have hRQb:RQ<=PR:=by rw[hRQ];exact Nat.div_le_self _ _
  rw[<- hRQ] at c1
  obtain ⟨QL,hQL⟩:∃ QL,QL=LL.length:=⟨_,rfl⟩
  rw[<- hQL] at HO2 c0
  have hQLb:QL<=1073741824+3:=by omega
  have hLLb:LL.length<=1073741824+3:=by omega
  replace hLLl:Hid _:=hLLl
  clear ho hF hJ af HO HO1 HF1 HJ1
  by_cases hge:8<=k
  ·have hge':(8:Int)<=(k:Int):=by omega
   have e8:IntKind.u8.wrap (RQ:Int)=((RQ % 256:Nat):Int):=u8_wrap RQ
   have e0:0<=IntKind.u8.wrap (RQ:Int):=by rw[e8];omega
   have e1:IntKind.u8.wrap (RQ:Int)<256:=by rw[e8];omega
   have HLq:Hid (LL++[IntKind.u8.wrap (RQ:Int)]=l++leB (q+1) PR):=by
    show LL++[IntKind.u8.wrap (RQ:Int)]=l++leB (q+1) PR
    rw[e8,hLL,leB_snoc,hRQ,List.append_assoc]
   have HRq:Hid (RQ / 256=PR / 256^(q+1)):=by
    show RQ / 256=PR / 256^(q+1)
    rw[hRQ,Nat.div_div_eq_div_mul,Nat.pow_succ]
   have hne:¬ (Value.slice p2 QL cc).ownBlock=some x:=fun e=>by have:=HO2.out.ge x e;omega
   have hxs:x<wr.heap.size:=by omega
   have HQ:Hid (QL=LL.length):=hQL
   have HO2':Hid (OwnB wr N (.slice p2 QL cc) LL):=HO2.out
   clear e8 hLL hRQ hQL
   go_wp2
   go_region_law ((refine stepB_1 (by rfl) _ _ (by rfl) N (.slice p2 QL cc) LL (by rfl) (by first | exact HO2.out.alloc _ | exact (HO2.out.drewN _).alloc _ | exact (HO2.out.alloc _).drewN _) wr.heap.size 1 (IntKind.u8.wrap (RQ:Int)) (by rfl) e0 e1 (by simp) (by omega) (by simp;omega) ?_;intro g' cap w2 ho2 hf2;have fk:Fr (fun k=>(Value.slice p2 QL cc).ownBlock=some k) wr w2:=(((Fr.refl _ wr).drewN 1).alloc _).trans hf2;have k0:=(fk.cell (k:=0) hxs hne).trans c0;have k1:=(fk.cell (k:=1) hxs hne).trans c1;have k2:=(fk.cell (k:=2) hxs hne).trans c2;have g0:=(fk.frozen (k:=0) hxs hne).trans f0;have g1:=(fk.frozen (k:=1) hxs hne).trans f1;have g2:=(fk.frozen (k:=2) hxs hne).trans f2))
   all_goals
    have HO3:Hid (OwnB (w2.setCell ⟨x,0,none⟩ (Value.slice (some ⟨g',0,none⟩) (LL.length+1) cap)) N (Value.slice (some ⟨g',0,none⟩) (LL.length+1) cap) (l++leB (q+1) PR)):=by rw[<- HLq.out];exact ho2.set hlt _ _
    have HF3:Hid (FrN x N w (w2.setCell ⟨x,0,none⟩ (Value.slice (some ⟨g',0,none⟩) (LL.length+1) cap))):=(HF.out.trans' fk (fun i _ e=>Or.inr (HO2.out.ge i e))).setCell (Or.inl (Or.inl rfl)) _ _
    have HJ3:Hid (∀ j,3<=j->(w2.setCell ⟨x,0,none⟩ (Value.slice (some ⟨g',0,none⟩) (LL.length+1) cap)).cell? ⟨x,j,none⟩=w.cell? ⟨x,j,none⟩):=fun j hj=>(cell_set_other _ _ _ _ _ (by omega)).trans ((fk.cell hxs hne).trans (HJ.out j hj))
    have HG3:Hid (∀ k,(w2.setCell ⟨x,0,none⟩ (Value.slice (some ⟨g',0,none⟩) (LL.length+1) cap)).frozen? ⟨x,k,none⟩=false):=fun k=>by rw[World.frozen?_setCell];exact (fk.frozen hxs hne).trans (ff.out k)
    have m0:=cell_set_same k0 (Value.slice (some ⟨g',0,none⟩) (LL.length+1) cap)
    have m1:=(cell_set_other w2 x 0 1 (Value.slice (some ⟨g',0,none⟩) (LL.length+1) cap) (by omega)).trans k1
    have m2:=(cell_set_other w2 x 0 2 (Value.slice (some ⟨g',0,none⟩) (LL.length+1) cap) (by omega)).trans k2
    have hsz':szOf wr x=k:=by unfold szOf;rw[c2];simp
    generalize w2.setCell ⟨x,0,none⟩ (Value.slice (some ⟨g',0,none⟩) (LL.length+1) cap)=w3 at *
    have n0:=HG3.out 0
    have n1:=HG3.out 1
    have n2:=HG3.out 2
    clear fk hf2 ho2 HO2 HO2' HF HJ k0 k1 k2 g0 g1 g2 c0 c1 c2 f0 f1 f2
    go_wp2
    refine ⟨⟨k - 8,q+1,_,by omega,?_,(cell_set_other _ _ _ _ _ (by omega)).trans ((cell_set_other _ _ _ _ _ (by omega)).trans m0),(HO3.out.set hlt _ _).set hlt _ _,?_,?_,(HF3.out.setCell (Or.inl (Or.inl rfl)) _ _).setCell (Or.inl (Or.inl rfl)) _ _,?_⟩,?_⟩
    ·rw[cell_set_same ((cell_set_other _ _ _ _ _ (by omega)).trans m2)]
     exact congrArg some (val_int (by omega))
    ·rw[cell_set_other _ _ _ _ _ (by omega),cell_set_same m1]
     exact congrArg some (val_int (by rw[<- HRq.out];omega))
    ·intro k;rw[World.frozen?_setCell,World.frozen?_setCell];exact HG3.out k
    ·intro j hj;rw[cell_set_other _ _ _ _ _ (by omega),cell_set_other _ _ _ _ _ (by omega)];exact HJ3.out j hj
    ·rw[hsz']
     unfold szOf
     rw[cell_set_same ((cell_set_other _ _ _ _ _ (by omega)).trans m2)]
     show ((k:Int) - 8).toNat<k
     omega
  ·have hge':¬ (8:Int)<=(k:Int):=by omega
   have HL:Hid (LL=l++leB q PR):=hLL
   have HRQ:Hid (RQ=PR / 256^q):=hRQ
   clear hLL hRQ hQL
   go_wp2
   go_end0
   have hq:MS / 8=q:=by omega
   have hk:MS % 8=k:=by omega
   rw[hq,hk,<- HRQ.out,<- HL.out]
   exact ⟨rfl,⟨hlt,hN,ff.out,⟨_,c0,HO2.out⟩,c1,c2⟩,HF.out,HJ.out⟩
structure WroteB (x N:Nat) (l:List Int) (r m:Nat) (w w':World):Prop where
 bits:BitB w' x N l r m
 fr:FrN x N w w'
 far:∀ j,3<=j->w'.cell? ⟨x,j,none⟩=w.cell? ⟨x,j,none⟩
theorem WroteB.refl {x N:Nat} {l:List Int} {r m:Nat} {w:World} (h:BitB w x N l r m):WroteB x N l r m w w:=⟨h,Fr.refl _ _,fun _ _=>rfl⟩
theorem WroteB.trans {x N:Nat} {l l':List Int} {r m r' m':Nat} {a b c:World} (h:WroteB x N l r m a b) (k:WroteB x N l' r' m' b c):WroteB x N l' r' m' a c:=⟨k.bits,h.fr.trans k.fr,fun j hj=>(k.far j hj).trans (h.far j hj)⟩
theorem BitB.kept {x N:Nat} {l:List Int} {r m:Nat} {w w':World} (h:BitB w x N l r m) (k:Kept w w'):BitB w' x N l r m:=by
 have hx:x<w.heap.size:=Nat.lt_of_lt_of_le h.lt h.size
 obtain ⟨ov,h0,ho⟩:=h.out
 exact ⟨h.lt,Nat.le_trans h.size k.size,fun j=>(k.frozen (p:=⟨x,j,none⟩) hx).trans (h.fz j),⟨ov,(k.cell (p:=⟨x,0,none⟩) hx).trans h0,ho.kept k⟩,(k.cell (p:=⟨x,1,none⟩) hx).trans h.rest,(k.cell (p:=⟨x,2,none⟩) hx).trans h.sz⟩
theorem WroteB.kept {x N:Nat} {l:List Int} {r m:Nat} {a b c:World} (h:WroteB x N l r m a b) (k:Kept b c):WroteB x N l r m a c:=by
 have hx:x<b.heap.size:=Nat.lt_of_lt_of_le h.bits.lt h.bits.size
 exact ⟨h.bits.kept k,h.fr.kept k,fun j hj=>(k.cell (p:=⟨x,j,none⟩) hx).trans (h.far j hj)⟩
theorem number_wb (x N:Nat) (l:List Int) (r m n s:Nat) (l':List Int) (r' m':Nat) (w:World) (h:BitB w x N l r m) (hr:r<2^m) (hm7:m<=7) (hs:s<=16) (hn1:n<4294967296) (hl:l.length<=1073741824) (e1:l'=l++leB ((m+s) / 8) (putR r m n s)) (e2:r'=putR r m n s / 256^((m+s) / 8)) (e3:m'=(m+s) % 8) :
  Calls Tryz.prog 133 #[.pointer (some ⟨x,0,none⟩),.int .u32 (n:Int),.int .u64 (s:Int)] w fun e w'=>e = .returned (.tuple #[])/\WroteB x N l' r' m' w w':=by
 subst e1;subst e2;subst e3
 exact (number_b x N l r m n s w h hr hm7 hs hn1 hl).mono (fun e w' ⟨q1,q2,q3,q4⟩=>⟨q1,q2,q3,q4⟩)
theorem byte_b (x N:Nat) (l:List Int) (n:Nat) (w:World) (h:BitB w x N l 0 0) (hn1:n<4294967296) (hl:l.length<=1073741824) :
  Calls Tryz.prog 133 #[.pointer (some ⟨x,0,none⟩),.int .u32 (n:Int),.int .u64 8] w fun e w'=>e = .returned (.tuple #[])/\WroteB x N (l++[((n % 256:Nat):Int)]) 0 0 w w':=by
 refine number_wb x N l 0 0 n 8 _ 0 0 w h (by omega) (by omega) (by omega) hn1 hl ?_ ?_ rfl
 ·show _=l++[(((0+n % 256*1) % 256:Nat):Int)]
  rw[Nat.zero_add,Nat.mul_one,Nat.mod_mod]
 ·show 0=(0+n % 256*1) / 256
  omega
def zFlg (v:Nat):Nat:=(31 - 256*(8+16*v) % 31) % 31
theorem head_b (x N v:Nat) (l:List Int) (w:World) (h:BitB w x N l 0 0) (hv:v<=7) (hl:l.length<=1000000) :
  Calls Tryz.prog 99 #[.pointer (some ⟨x,0,none⟩),.int .i64 (v:Int)] w fun e w'=>e = .returned (.tuple #[])/\WroteB x N (l++[((8+16*v:Nat):Int),(zFlg v:Int)]) 0 0 w w':=by
 have F1:Hid (∀ n:Nat,n<4294967296->Calls Tryz.prog 133 #[.pointer (some ⟨x,0,none⟩),.int .u32 (n:Int),.int .u64 8] w fun e w'=>e = .returned (.tuple #[])/\WroteB x N (l++[((n % 256:Nat):Int)]) 0 0 w w'):=fun n hn=>byte_b x N l n w h hn (by omega)
 have F2:Hid (∀ (W:World) (l1:List Int) (n:Nat),n<4294967296->l1.length<=1000001->BitB W x N l1 0 0->Calls Tryz.prog 133 #[.pointer (some ⟨x,0,none⟩),.int .u32 (n:Int),.int .u64 8] W fun e w'=>e = .returned (.tuple #[])/\WroteB x N (l1++[((n % 256:Nat):Int)]) 0 0 W w'):=fun W l1 n hn hl1 hb=>byte_b x N l1 n W hb hn (by omega)
 clear h
 have hv':v=0\/v=1\/v=2\/v=3\/v=4\/v=5\/v=6\/v=7:=by omega
 rcases hv' with rfl | rfl | rfl | rfl | rfl | rfl | rfl | rfl
 ·clear hv
  have e1:(zFlg 0:Int)=29:=by decide
  have e2:((8+16*0:Nat):Int)=8:=by decide
  rw[e1,e2]
  clear e1 e2
  have G1:=F1.out 8 (by decide)
  have G2:=fun W l1=>F2.out W l1 29 (by decide)
  replace G1:Hid (Calls Tryz.prog 133 #[.pointer (some ⟨x,0,none⟩),.int .u32 8,.int .u64 8] w fun e w'=>e = .returned (.tuple #[])/\WroteB x N (l++[8]) 0 0 w w'):=G1
  replace G2:Hid (∀ (W:World) (l1:List Int),l1.length<=1000001->BitB W x N l1 0 0->Calls Tryz.prog 133 #[.pointer (some ⟨x,0,none⟩),.int .u32 29,.int .u64 8] W fun e w'=>e = .returned (.tuple #[])/\WroteB x N (l1++[29]) 0 0 W w'):=G2
  clear F1 F2
  go_enter Tryz.func99,Tryz.ntmps99
  go_wp2_with fail
  refine G1.out.mono ?_
  rintro e w1 ⟨rfl,hw1⟩
  go_wp2_with fail
  refine (G2.out _ _ (by simp;omega) hw1.bits).mono ?_
  rintro e w2 ⟨rfl,hw2⟩
  go_wp2
  go_end0
  refine ⟨rfl,?_⟩
  have:=hw1.trans hw2
  rw[List.append_assoc] at this
  exact this
 ·clear hv
  have e1:(zFlg 1:Int)=25:=by decide
  have e2:((8+16*1:Nat):Int)=24:=by decide
  rw[e1,e2]
  clear e1 e2
  have G1:=F1.out 24 (by decide)
  have G2:=fun W l1=>F2.out W l1 25 (by decide)
  replace G1:Hid (Calls Tryz.prog 133 #[.pointer (some ⟨x,0,none⟩),.int .u32 24,.int .u64 8] w fun e w'=>e = .returned (.tuple #[])/\WroteB x N (l++[24]) 0 0 w w'):=G1
  replace G2:Hid (∀ (W:World) (l1:List Int),l1.length<=1000001->BitB W x N l1 0 0->Calls Tryz.prog 133 #[.pointer (some ⟨x,0,none⟩),.int .u32 25,.int .u64 8] W fun e w'=>e = .returned (.tuple #[])/\WroteB x N (l1++[25]) 0 0 W w'):=G2
  clear F1 F2
  go_enter Tryz.func99,Tryz.ntmps99
  go_wp2_with fail
  refine G1.out.mono ?_
  rintro e w1 ⟨rfl,hw1⟩
  go_wp2_with fail
  refine (G2.out _ _ (by simp;omega) hw1.bits).mono ?_
  rintro e w2 ⟨rfl,hw2⟩
  go_wp2
  go_end0
  refine ⟨rfl,?_⟩
  have:=hw1.trans hw2
  rw[List.append_assoc] at this
  exact this
 ·clear hv
  have e1:(zFlg 2:Int)=21:=by decide
  have e2:((8+16*2:Nat):Int)=40:=by decide
  rw[e1,e2]
  clear e1 e2
  have G1:=F1.out 40 (by decide)
  have G2:=fun W l1=>F2.out W l1 21 (by decide)
  replace G1:Hid (Calls Tryz.prog 133 #[.pointer (some ⟨x,0,none⟩),.int .u32 40,.int .u64 8] w fun e w'=>e = .returned (.tuple #[])/\WroteB x N (l++[40]) 0 0 w w'):=G1
  replace G2:Hid (∀ (W:World) (l1:List Int),l1.length<=1000001->BitB W x N l1 0 0->Calls Tryz.prog 133 #[.pointer (some ⟨x,0,none⟩),.int .u32 21,.int .u64 8] W fun e w'=>e = .returned (.tuple #[])/\WroteB x N (l1++[21]) 0 0 W w'):=G2
  clear F1 F2
  go_enter Tryz.func99,Tryz.ntmps99
  go_wp2_with fail
  refine G1.out.mono ?_
  rintro e w1 ⟨rfl,hw1⟩
  go_wp2_with fail
  refine (G2.out _ _ (by simp;omega) hw1.bits).mono ?_
  rintro e w2 ⟨rfl,hw2⟩
  go_wp2
  go_end0
  refine ⟨rfl,?_⟩
  have:=hw1.trans hw2
  rw[List.append_assoc] at this
  exact this
 ·clear hv
  have e1:(zFlg 3:Int)=17:=by decide
  have e2:((8+16*3:Nat):Int)=56:=by decide
  rw[e1,e2]
  clear e1 e2
  have G1:=F1.out 56 (by decide)
  have G2:=fun W l1=>F2.out W l1 17 (by decide)
  replace G1:Hid (Calls Tryz.prog 133 #[.pointer (some ⟨x,0,none⟩),.int .u32 56,.int .u64 8] w fun e w'=>e = .returned (.tuple #[])/\WroteB x N (l++[56]) 0 0 w w'):=G1
  replace G2:Hid (∀ (W:World) (l1:List Int),l1.length<=1000001->BitB W x N l1 0 0->Calls Tryz.prog 133 #[.pointer (some ⟨x,0,none⟩),.int .u32 17,.int .u64 8] W fun e w'=>e = .returned (.tuple #[])/\WroteB x N (l1++[17]) 0 0 W w'):=G2
  clear F1 F2
  go_enter Tryz.func99,Tryz.ntmps99
  go_wp2_with fail
  refine G1.out.mono ?_
  rintro e w1 ⟨rfl,hw1⟩
  go_wp2_with fail
  refine (G2.out _ _ (by simp;omega) hw1.bits).mono ?_
  rintro e w2 ⟨rfl,hw2⟩
  go_wp2
  go_end0
  refine ⟨rfl,?_⟩
  have:=hw1.trans hw2
  rw[List.append_assoc] at this
  exact this
 ·clear hv
  have e1:(zFlg 4:Int)=13:=by decide
  have e2:((8+16*4:Nat):Int)=72:=by decide
  rw[e1,e2]
  clear e1 e2
  have G1:=F1.out 72 (by decide)
  have G2:=fun W l1=>F2.out W l1 13 (by decide)
  replace G1:Hid (Calls Tryz.prog 133 #[.pointer (some ⟨x,0,none⟩),.int .u32 72,.int .u64 8] w fun e w'=>e = .returned (.tuple #[])/\WroteB x N (l++[72]) 0 0 w w'):=G1
  replace G2:Hid (∀ (W:World) (l1:List Int),l1.length<=1000001->BitB W x N l1 0 0->Calls Tryz.prog 133 #[.pointer (some ⟨x,0,none⟩),.int .u32 13,.int .u64 8] W fun e w'=>e = .returned (.tuple #[])/\WroteB x N (l1++[13]) 0 0 W w'):=G2
  clear F1 F2
  go_enter Tryz.func99,Tryz.ntmps99
  go_wp2_with fail
  refine G1.out.mono ?_
  rintro e w1 ⟨rfl,hw1⟩
  go_wp2_with fail
  refine (G2.out _ _ (by simp;omega) hw1.bits).mono ?_
  rintro e w2 ⟨rfl,hw2⟩
  go_wp2
  go_end0
  refine ⟨rfl,?_⟩
  have:=hw1.trans hw2
  rw[List.append_assoc] at this
  exact this
 ·clear hv
  have e1:(zFlg 5:Int)=9:=by decide
  have e2:((8+16*5:Nat):Int)=88:=by decide
  rw[e1,e2]
  clear e1 e2
  have G1:=F1.out 88 (by decide)
  have G2:=fun W l1=>F2.out W l1 9 (by decide)
  replace G1:Hid (Calls Tryz.prog 133 #[.pointer (some ⟨x,0,none⟩),.int .u32 88,.int .u64 8] w fun e w'=>e = .returned (.tuple #[])/\WroteB x N (l++[88]) 0 0 w w'):=G1
  replace G2:Hid (∀ (W:World) (l1:List Int),l1.length<=1000001->BitB W x N l1 0 0->Calls Tryz.prog 133 #[.pointer (some ⟨x,0,none⟩),.int .u32 9,.int .u64 8] W fun e w'=>e = .returned (.tuple #[])/\WroteB x N (l1++[9]) 0 0 W w'):=G2
  clear F1 F2
  go_enter Tryz.func99,Tryz.ntmps99
  go_wp2_with fail
  refine G1.out.mono ?_
  rintro e w1 ⟨rfl,hw1⟩
  go_wp2_with fail
  refine (G2.out _ _ (by simp;omega) hw1.bits).mono ?_
  rintro e w2 ⟨rfl,hw2⟩
  go_wp2
  go_end0
  refine ⟨rfl,?_⟩
  have:=hw1.trans hw2
  rw[List.append_assoc] at this
  exact this
 ·clear hv
  have e1:(zFlg 6:Int)=5:=by decide
  have e2:((8+16*6:Nat):Int)=104:=by decide
  rw[e1,e2]
  clear e1 e2
  have G1:=F1.out 104 (by decide)
  have G2:=fun W l1=>F2.out W l1 5 (by decide)
  replace G1:Hid (Calls Tryz.prog 133 #[.pointer (some ⟨x,0,none⟩),.int .u32 104,.int .u64 8] w fun e w'=>e = .returned (.tuple #[])/\WroteB x N (l++[104]) 0 0 w w'):=G1
  replace G2:Hid (∀ (W:World) (l1:List Int),l1.length<=1000001->BitB W x N l1 0 0->Calls Tryz.prog 133 #[.pointer (some ⟨x,0,none⟩),.int .u32 5,.int .u64 8] W fun e w'=>e = .returned (.tuple #[])/\WroteB x N (l1++[5]) 0 0 W w'):=G2
  clear F1 F2
  go_enter Tryz.func99,Tryz.ntmps99
  go_wp2_with fail
  refine G1.out.mono ?_
  rintro e w1 ⟨rfl,hw1⟩
  go_wp2_with fail
  refine (G2.out _ _ (by simp;omega) hw1.bits).mono ?_
  rintro e w2 ⟨rfl,hw2⟩
  go_wp2
  go_end0
  refine ⟨rfl,?_⟩
  have:=hw1.trans hw2
  rw[List.append_assoc] at this
  exact this
 ·clear hv
  have e1:(zFlg 7:Int)=1:=by decide
  have e2:((8+16*7:Nat):Int)=120:=by decide
  rw[e1,e2]
  clear e1 e2
  have G1:=F1.out 120 (by decide)
  have G2:=fun W l1=>F2.out W l1 1 (by decide)
  replace G1:Hid (Calls Tryz.prog 133 #[.pointer (some ⟨x,0,none⟩),.int .u32 120,.int .u64 8] w fun e w'=>e = .returned (.tuple #[])/\WroteB x N (l++[120]) 0 0 w w'):=G1
  replace G2:Hid (∀ (W:World) (l1:List Int),l1.length<=1000001->BitB W x N l1 0 0->Calls Tryz.prog 133 #[.pointer (some ⟨x,0,none⟩),.int .u32 1,.int .u64 8] W fun e w'=>e = .returned (.tuple #[])/\WroteB x N (l1++[1]) 0 0 W w'):=G2
  clear F1 F2
  go_enter Tryz.func99,Tryz.ntmps99
  go_wp2_with fail
  refine G1.out.mono ?_
  rintro e w1 ⟨rfl,hw1⟩
  go_wp2_with fail
  refine (G2.out _ _ (by simp;omega) hw1.bits).mono ?_
  rintro e w2 ⟨rfl,hw2⟩
  go_wp2
  go_end0
  refine ⟨rfl,?_⟩
  have:=hw1.trans hw2
  rw[List.append_assoc] at this
  exact this
theorem u32_not (n:Nat) (h:n<4294967296):bits BinOp.xor IntKind.u32 IntKind.u32.max (n:Int)=((4294967295 - n:Nat):Int):=by
 rw[show IntKind.u32.max=((4294967295:Nat):Int) from rfl,u32_xor_nat 4294967295 n (by omega) h]
 have:4294967295 ^^^ n=4294967295 - n:=by
  have e:(BitVec.allOnes 32 ^^^ BitVec.ofNat 32 n).toNat=(~~~ BitVec.ofNat 32 n).toNat:=by rw[BitVec.allOnes_xor]
  rw[BitVec.toNat_xor,BitVec.toNat_not,BitVec.toNat_allOnes,BitVec.toNat_ofNat,Nat.mod_eq_of_lt (by omega)] at e
  exact e
 rw[this]
end Go.Proofs.YtmbmecfodigciaaGreatDoor
namespace Px
def adlL (s:Nat) (l:List Int):Nat:=l.foldl (fun s x=>adl s x.toNat) s
theorem adlL_lt (s:Nat) (l:List Int) (h:s<4294967296):adlL s l<4294967296:=by
 unfold adlL
 induction l generalizing s with
 | nil=>exact h
 | cons x l ih=>exact ih _ (adl_lt _ _)
end Px
namespace Go.Proofs.YtmbmecfodigciaaGreatDoor
open Go.RowKit Px
set_option linter.unusedSimpArgs false
set_option linter.unusedVariables false
def beB (n:Nat):List Int:=[((n / 16777216 % 256:Nat):Int),((n / 65536 % 256:Nat):Int),((n / 256 % 256:Nat):Int),((n % 256:Nat):Int)]
theorem sum_b (x N:Nat) (l:List Int) (v:Value) (d:List Int) (w:World) (h:BitB w x N l 0 0) (hl:LAt w .u8 v d) (hB:isBytes d) (hn:d.length<=65535) (hll:l.length<=100000) :
  Calls Tryz.prog 103 #[.pointer (some ⟨x,0,none⟩),v] w fun e w'=>e = .returned (.tuple #[])/\WroteB x N (l++beB (adlL 1 d)) 0 0 w w':=by
 obtain ⟨p,c,rfl⟩:=hl.form
 have F5:Hid (∀ (W:World) (l1:List Int) (n:Nat),n<4294967296->l1.length<=1000000->BitB W x N l1 0 0->Calls Tryz.prog 133 #[.pointer (some ⟨x,0,none⟩),.int .u32 (n:Int),.int .u64 8] W fun e w'=>e = .returned (.tuple #[])/\WroteB x N (l1++[((n % 256:Nat):Int)]) 0 0 W w'):=fun W l1 n hn hl1 hb=>byte_b x N l1 n W hb hn (by omega)
 have HL:Hid (LAt w .u8 (.slice p d.length c) d):=hl
 have HB:Hid (isBytes d):=hB
 have H0:Hid (BitB w x N l 0 0):=h
 clear h hl hB
 go_enter Tryz.func103,Tryz.ntmps103
 go_wp2_with fail
 go_loopg [4,5] d.length (fun m u v W=>∃ k:Nat,m=d.length - k/\k<=d.length/\v = .int .i64 (k:Int)/\u = .int .u32 (adlL 1 (d.take k):Int)/\Kept w W)
 case atStart=>exact ⟨0,by omega,by omega,rfl,rfl,Kept.refl _⟩
 case round=>
  obtain ⟨k,hgk,hk,rfl,rfl,hK⟩:=hrel
  replace hgk:Hid _:=hgk
  have hq1:adlL 1 (d.take k)<4294967296:=adlL_lt _ _ (by omega)
  by_cases hlt:k<d.length
  ·obtain ⟨g,o,rfl,hc⟩:=(HL.out.kept hK).cellAt k hlt
   have hb:=HB.out _ (getD_mem hlt)
   obtain ⟨B,hBB⟩:∃ B:Nat,d.getD k 0=(B:Int):=⟨(d.getD k 0).toNat,by omega⟩
   have HTk:Hid (adlL 1 (d.take (k+1))=adl (adlL 1 (d.take k)) B):=by
    show adlL 1 (d.take (k+1))=_
    have hg:d[k]=(B:Int):=by rw[<- hBB,List.getD_eq_getElem?_getD,List.getElem?_eq_getElem hlt];rfl
    rw[List.take_succ_eq_append_getElem hlt,hg]
    unfold adlL
    rw[List.foldl_append]
    rfl
   rw[hBB] at hc hb
   have hb1:B<256:=by omega
   clear hb hBB
   have hlt':(k:Int)<(d.length:Int):=by omega
   have hk0:(0:Int)<=(k:Int):=by omega
   obtain ⟨q,hq⟩:∃ q,q=adlL 1 (d.take k):=⟨_,rfl⟩
   rw[<- hq] at HTk hq1 ⊢
   clear hq
   have FA:Hid (∀ W,Calls Tryz.prog 136 #[.int .u32 (q:Int),.int .u8 (B:Int)] W fun e w'=>e = .returned (.int .u32 (adl q B:Int))/\w'=W):=fun W=>adler_x q B W hq1 hb1
   replace hK:Hid (Kept w wr):=hK
   go_wp2_with fail
   refine (FA.out _).mono ?_
   rintro e w5 ⟨rfl,hw5⟩
   subst w5
   go_wp2_with fail
   go_roundg (d.length - (k+1))
   case measure=>rw[hgk.out];omega
   case rel=>exact ⟨k+1,rfl,by omega,by go_num,by rw[HTk.out],hK.out⟩
  ·replace hK:Hid (Kept w wr):=hK
   have hke:k=d.length:=by omega
   have hlt':¬ (k:Int)<(d.length:Int):=by omega
   have HA:Hid (adlL 1 (d.take k)=adlL 1 d):=by show adlL 1 (d.take k)=adlL 1 d;rw[hke,List.take_length]
   obtain ⟨q,hq⟩:∃ q,q=adlL 1 (d.take k):=⟨_,rfl⟩
   rw[<- hq] at HA hq1 ⊢
   clear hq
   replace hke:Hid _:=hke
   have H1:Hid (WroteB x N l 0 0 w wr):=(WroteB.refl H0.out).kept hK.out
   clear hK
   have e24:(q:Int) / 16777216=((q / 16777216:Nat):Int):=by omega
   have e16:(q:Int) / 65536=((q / 65536:Nat):Int):=by omega
   have e8:(q:Int) / 256=((q / 256:Nat):Int):=by omega
   obtain ⟨q3,hq3⟩:∃ q3,q3=q / 16777216:=⟨_,rfl⟩
   obtain ⟨q2,hq2⟩:∃ q2,q2=q / 65536:=⟨_,rfl⟩
   obtain ⟨qq,hqq⟩:∃ qq,qq=q / 256:=⟨_,rfl⟩
   rw[<- hq3] at e24
   rw[<- hq2] at e16
   rw[<- hqq] at e8
   have HBe:Hid (l++beB (adlL 1 d)=l++[((q3 % 256:Nat):Int)]++[((q2 % 256:Nat):Int)]++[((qq % 256:Nat):Int)]++[((q % 256:Nat):Int)]):=by
    show l++beB (adlL 1 d)=_
    rw[<- HA.out,hq3,hq2,hqq]
    simp [beB]
   have h3:q3<4294967296:=by omega
   have h2:q2<4294967296:=by omega
   have h1':qq<4294967296:=by omega
   clear hq3 hq2 hqq
   go_wp2_with fail
   go_loopg [6] 4 (fun m v W=>(m=4/\v = .int .i64 32/\WroteB x N l 0 0 w W)\/(m=3/\v = .int .i64 24/\WroteB x N (l++[((q3 % 256:Nat):Int)]) 0 0 w W)\/(m=2/\v = .int .i64 16/\WroteB x N (l++[((q3 % 256:Nat):Int)]++[((q2 % 256:Nat):Int)]) 0 0 w W)\/(m=1/\v = .int .i64 8/\WroteB x N (l++[((q3 % 256:Nat):Int)]++[((q2 % 256:Nat):Int)]++[((qq % 256:Nat):Int)]) 0 0 w W)\/(m=0/\v = .int .i64 0/\WroteB x N (l++[((q3 % 256:Nat):Int)]++[((q2 % 256:Nat):Int)]++[((qq % 256:Nat):Int)]++[((q % 256:Nat):Int)]) 0 0 w W))
   case atStart=>exact Or.inl ⟨rfl,rfl,H1.out⟩
   case round=>
    rcases hrel with ⟨hm,rfl,hW⟩ | ⟨hm,rfl,hW⟩ | ⟨hm,rfl,hW⟩ | ⟨hm,rfl,hW⟩ | ⟨hm,rfl,hW⟩
    ·have FF:Hid (Calls Tryz.prog 133 #[.pointer (some ⟨x,0,none⟩),.int .u32 (q3:Int),.int .u64 8] wr fun e w'=>e = .returned (.tuple #[])/\WroteB x N (l++[((q3 % 256:Nat):Int)]) 0 0 wr w'):=F5.out wr _ q3 h3 (by first | omega | (simp;omega)) hW.bits
     replace hW:Hid (WroteB x N (l) 0 0 w wr):=hW
     replace hm:Hid _:=hm
     go_wp2_with fail
     refine FF.out.mono ?_
     rintro e w6 ⟨rfl,hw6⟩
     replace hw6:Hid (WroteB x N (l++[((q3 % 256:Nat):Int)]) 0 0 w w6):=hW.out.trans hw6
     go_wp2_with fail
     go_roundg 3
     case measure=>rw[hm.out];omega
     case rel=>exact Or.inr (Or.inl ⟨rfl,by first | rfl | go_num,hw6.out⟩)
    ·have FF:Hid (Calls Tryz.prog 133 #[.pointer (some ⟨x,0,none⟩),.int .u32 (q2:Int),.int .u64 8] wr fun e w'=>e = .returned (.tuple #[])/\WroteB x N (l++[((q3 % 256:Nat):Int)]++[((q2 % 256:Nat):Int)]) 0 0 wr w'):=F5.out wr _ q2 h2 (by first | omega | (simp;omega)) hW.bits
     replace hW:Hid (WroteB x N (l++[((q3 % 256:Nat):Int)]) 0 0 w wr):=hW
     replace hm:Hid _:=hm
     go_wp2_with fail
     refine FF.out.mono ?_
     rintro e w6 ⟨rfl,hw6⟩
     replace hw6:Hid (WroteB x N (l++[((q3 % 256:Nat):Int)]++[((q2 % 256:Nat):Int)]) 0 0 w w6):=hW.out.trans hw6
     go_wp2_with fail
     go_roundg 2
     case measure=>rw[hm.out];omega
     case rel=>exact Or.inr (Or.inr (Or.inl ⟨rfl,by first | rfl | go_num,hw6.out⟩))
    ·have FF:Hid (Calls Tryz.prog 133 #[.pointer (some ⟨x,0,none⟩),.int .u32 (qq:Int),.int .u64 8] wr fun e w'=>e = .returned (.tuple #[])/\WroteB x N (l++[((q3 % 256:Nat):Int)]++[((q2 % 256:Nat):Int)]++[((qq % 256:Nat):Int)]) 0 0 wr w'):=F5.out wr _ qq h1' (by first | omega | (simp;omega)) hW.bits
     replace hW:Hid (WroteB x N (l++[((q3 % 256:Nat):Int)]++[((q2 % 256:Nat):Int)]) 0 0 w wr):=hW
     replace hm:Hid _:=hm
     go_wp2_with fail
     refine FF.out.mono ?_
     rintro e w6 ⟨rfl,hw6⟩
     replace hw6:Hid (WroteB x N (l++[((q3 % 256:Nat):Int)]++[((q2 % 256:Nat):Int)]++[((qq % 256:Nat):Int)]) 0 0 w w6):=hW.out.trans hw6
     go_wp2_with fail
     go_roundg 1
     case measure=>rw[hm.out];omega
     case rel=>exact Or.inr (Or.inr (Or.inr (Or.inl ⟨rfl,by first | rfl | go_num,hw6.out⟩)))
    ·have FF:Hid (Calls Tryz.prog 133 #[.pointer (some ⟨x,0,none⟩),.int .u32 (q:Int),.int .u64 8] wr fun e w'=>e = .returned (.tuple #[])/\WroteB x N (l++[((q3 % 256:Nat):Int)]++[((q2 % 256:Nat):Int)]++[((qq % 256:Nat):Int)]++[((q % 256:Nat):Int)]) 0 0 wr w'):=F5.out wr _ q hq1 (by first | omega | (simp;omega)) hW.bits
     replace hW:Hid (WroteB x N (l++[((q3 % 256:Nat):Int)]++[((q2 % 256:Nat):Int)]++[((qq % 256:Nat):Int)]) 0 0 w wr):=hW
     replace hm:Hid _:=hm
     go_wp2_with fail
     refine FF.out.mono ?_
     rintro e w6 ⟨rfl,hw6⟩
     replace hw6:Hid (WroteB x N (l++[((q3 % 256:Nat):Int)]++[((q2 % 256:Nat):Int)]++[((qq % 256:Nat):Int)]++[((q % 256:Nat):Int)]) 0 0 w w6):=hW.out.trans hw6
     go_wp2_with fail
     go_roundg 0
     case measure=>rw[hm.out];omega
     case rel=>exact Or.inr (Or.inr (Or.inr (Or.inr ⟨rfl,by first | rfl | go_num,hw6.out⟩)))
    ·replace hW:Hid (WroteB x N (l++[((q3 % 256:Nat):Int)]++[((q2 % 256:Nat):Int)]++[((qq % 256:Nat):Int)]++[((q % 256:Nat):Int)]) 0 0 w wr):=hW
     replace hm:Hid _:=hm
     go_wp2_with fail
     go_end0
     rw[HBe.out]
     exact ⟨rfl,hW.out⟩
end Go.Proofs.YtmbmecfodigciaaGreatDoor
namespace Go.Proofs.YtmbmecfodigciaaGreatDoor
open Go.RowKit
set_option linter.unusedSimpArgs false
set_option linter.unusedVariables false
end Go.Proofs.YtmbmecfodigciaaGreatDoor
namespace Px
def crcI (s:Nat) (l:List Int):Nat:=l.foldl (fun s x=>crcAdd s x.toNat) s
theorem crcI_snoc (s:Nat) (l:List Int) (b:Nat):crcI s (l++[(b:Int)])=crcAdd (crcI s l) b:=by unfold crcI;rw[List.foldl_append];rfl
end Px
namespace Go.Proofs.YtmbmecfodigciaaGreatDoor
open Go.RowKit Px
set_option linter.unusedSimpArgs false
set_option linter.unusedVariables false
theorem OwnB.slice' {w:World} {N:Nat} {v:Value} {l:List Int} (h:OwnB w N v l) {n:Nat} (e:l.length=n):∃ p c,v = .slice p n c:=by subst e;exact h.slice
theorem appendB' (w:World) {ops:Array Oper} {rest:List Oper} {o:Oper} {a:Act} {Q:Exit->Act->World->Prop}
  (hg:o.guard=none) (s x:Operand) (hop:o.op=Op.call { callee:=Callee.builtin Builtin.append,args:=#[s,x],argTypes:=#[56,56] })
  (N:Nat) (v:Value) (L:List Int) (hs:a.eval s=v) (hown:OwnB w N v L)
  (g o':Nat) (m c:Nat) (es:List Int) (hx:a.eval x = .slice (some ⟨g,o',none⟩) m c) (hm:m=es.length) (h0:0<m) (hE:isBytes es) (hc:∀ j,j<m->w.cell? ⟨g,o'+j,none⟩=some (.int .u8 (es.getD j 0))) (hb:L.length+m<=1099511627776) (hbase:N<=w.heap.size)
  (hK:∀ v' w',OwnB w' N v' (L++es)->Fr (fun k=>v.ownBlock=some k) w w'->(∀ k,v'.ownBlock=some k->v.ownBlock=some k\/w.heap.size<=k)->wpList Tryz.prog ops Q rest (a.put o.dst v') w') :
  wpList Tryz.prog ops Q (o::rest) a w:=by
 obtain ⟨hB,ho⟩:=hown
 subst hm
 refine append_own w 56 56 5 1 1 (.int .u8 0) Tryz.underlying56 infoU8 rfl (by omega) hg s x hop N v L.length (u8s L) hs ho ⟨g,o',none⟩ es.length c (u8s es) hx (by simp [u8s]) h0 ?_ ?_ (by unfold maxLen;omega) (by omega) hbase ?_ rfl
 ·intro j u hj
  have hlt:j<es.length:=by
   have:=(List.getElem?_eq_some_iff.1 hj).1
   simpa [u8s] using this
  rw[Addr.add_mid,hc j hlt]
  simp [u8s,List.getElem?_map,List.getElem?_eq_getElem hlt] at hj
  rw[<- hj]
  simp [List.getD_eq_getElem?_getD,List.getElem?_eq_getElem hlt]
 ·intro u hu;simp [u8s] at hu;obtain ⟨y,_,rfl⟩:=hu;rfl
 ·intro v' w' h1 h2 h3
  exact hK v' w' ⟨hB.app hE,by simpa [u8s] using h1⟩ ⟨h2.os,h2.tape,h2.output,h2.size,fun k hk hn=>h2.block k hk (fun e=>hn e.symm)⟩ h3
theorem appendBA (w:World) {ops:Array Oper} {rest:List Oper} {o:Oper} {a:Act} {Q:Exit->Act->World->Prop}
  (hg:o.guard=none) (s x:Operand) (hop:o.op=Op.call { callee:=Callee.builtin Builtin.append,args:=#[s,x],argTypes:=#[56,56] })
  (N:Nat) (v:Value) (L:List Int) (hs:a.eval s=v) (hown:OwnB w N v L) (h0:0<L.length)
  (p:Option Addr) (c:Nat) (l:List Int) (hx:a.eval x = .slice p l.length c) (hl:LAt w .u8 (.slice p l.length c) l) (hE:isBytes l) (hpc:p=none->c=0) (hb:L.length+l.length<=1099511627776) (hbase:N<=w.heap.size)
  (hK:∀ v' w',OwnB w' N v' (L++l)->Fr (fun k=>v.ownBlock=some k) w w'->(∀ k,v'.ownBlock=some k->v.ownBlock=some k\/w.heap.size<=k)->wpList Tryz.prog ops Q rest (a.put o.dst v') w') :
  wpList Tryz.prog ops Q (o::rest) a w:=by
 by_cases hl0:l.length=0
 ·obtain ⟨hxb,ho⟩:=hown
  have ho':=ho
  rcases ho.2 with ⟨hv,hz⟩ | ⟨g,cap,cur,hv,hgb,hh,hnc,hcm,hcs,htk⟩
  ·omega
  ·subst hv
   have hle:l=[]:=List.eq_nil_of_length_eq_zero hl0
   obtain ⟨i0,hi,hz0,hz1,hz2⟩:=info_parts' infoU8
   refine wpList_append_fits_any w hg s x 56 hop N 5 i0 1 Tryz.underlying56 hi hz1 g L.length cap (u8s L) hs ho' p l.length c [] hx (by simp [hl0]) (fun e=>⟨hl0,hpc e⟩) (fun ad _ j u hj=>by simp at hj) (fun u hu=>by simp at hu) (by omega) ?_
   intro w' h1 h2
   refine hK _ w' ?_ ⟨h2.os,h2.tape,h2.output,h2.size,fun k hk hn=>h2.block k hk (fun e=>hn e.symm)⟩ (fun k hk=>Or.inl hk)
   rw[hle,List.append_nil]
   refine ⟨hxb,?_⟩
   simpa [hl0] using h1
 ·obtain ⟨g,o',c',e,hc⟩:=hl.addr (by omega)
  injection e with e _ _
  subst e
  exact appendB' w hg s x hop N v L hs hown g o' l.length c l hx rfl (by omega) hE hc hb hbase hK
structure WrB (W:World) (x N:Nat) (L:List Int) (S:Nat->Prop):Prop where
 lt:x<N
 size:N<=W.heap.size
 fz:∀ k,W.frozen? ⟨x,k,none⟩=false
 sx:S x
 new:∀ g,W.heap.size<=g->S g
 out:∃ ov,W.cell? ⟨x,0,none⟩=some ov/\OwnB W N ov L/\∀ g,ov.ownBlock=some g->S g
theorem WrB.kept {W W':World} {x N:Nat} {L:List Int} {S:Nat->Prop} (h:WrB W x N L S) (k:Kept W W'):WrB W' x N L S:=by
 obtain ⟨h1,h2,h3,sx,nw,ov,h4,h5,h6⟩:=h
 have hx:x<W.heap.size:=by omega
 exact ⟨h1,Nat.le_trans h2 k.size,fun j=>(k.frozen (p:=⟨x,j,none⟩) hx).trans (h3 j),sx,fun g hg=>nw g (Nat.le_trans k.size hg),ov,(k.cell (p:=⟨x,0,none⟩) hx).trans h4,h5.kept k,h6⟩
theorem WrB.turn {W:World} {x N:Nat} {L:List Int} {S S':Nat->Prop} (h:WrB W x N L S) (hS:∀ g,g<W.heap.size->S g->S' g) (hn:∀ g,W.heap.size<=g->S' g):WrB W x N L S':=by
 obtain ⟨h1,h2,h3,sx,nw,ov,h4,h5,h6⟩:=h
 exact ⟨h1,h2,h3,hS x (by omega) sx,hn,ov,h4,h5,fun g hg=>hS g (h5.2.lt g hg).2 (h6 g hg)⟩
structure PutB (x N:Nat) (L:List Int) (S:Nat->Prop) (w w':World):Prop where
 at':WrB w' x N L S
 fr:Fr S w w'
theorem PutB.trans {x N:Nat} {L M:List Int} {S:Nat->Prop} {a b c:World} (h:PutB x N L S a b) (k:PutB x N M S b c):PutB x N M S a c:=⟨k.at',h.fr.trans k.fr⟩
theorem PutB.refl {x N:Nat} {L:List Int} {S:Nat->Prop} {a:World} (h:WrB a x N L S):PutB x N L S a a:=⟨h,Fr.refl _ _⟩
theorem PutB.kept {x N:Nat} {L:List Int} {S:Nat->Prop} {a b c:World} (h:PutB x N L S a b) (k:Kept b c):PutB x N L S a c:=⟨h.at'.kept k,h.fr.kept k⟩
theorem beB_int (n:Nat) (h:n<4294967296):[(n:Int) / 16777216,(n:Int) / 65536 % 256,(n:Int) / 256 % 256,(n:Int) % 256]=beB n:=by
 unfold beB
 rw[show (n:Int) / 16777216=((n / 16777216 % 256:Nat):Int) from by omega,show (n:Int) / 65536 % 256=((n / 65536 % 256:Nat):Int) from by omega,show (n:Int) / 256 % 256=((n / 256 % 256:Nat):Int) from by omega,show (n:Int) % 256=((n % 256:Nat):Int) from by omega]
theorem beB_len (n:Nat):(beB n).length=4:=rfl
theorem beB_ok (n:Nat):isBytes (beB n):=by
 intro y hy
 unfold beB at hy
 simp only [List.mem_cons,List.not_mem_nil,or_false] at hy
 rcases hy with rfl | rfl | rfl | rfl<;>omega
theorem num4_b (x N n:Nat) (L:List Int) (w:World) (S:Nat->Prop) (h:WrB w x N L S) (hn1:n<4294967296) (hm:L.length<=1000000000) :
  Calls Tryz.prog 137 #[.pointer (some ⟨x,0,none⟩),.int .u32 (n:Int)] w fun r w'=>r = .returned (.tuple #[])/\PutB x N (L++beB n) S w w':=by
 obtain ⟨hlt,hsz,hfz,hSx,hSn,ov,h0,hown,hSo⟩:=h
 obtain ⟨m,hmL⟩:∃ m,L.length=m:=⟨_,rfl⟩
 obtain ⟨p,c,rfl⟩:=hown.slice' hmL
 rw[hmL] at hm
 have hfa:=hfz 0
 have HO:Hid (OwnB w N (.slice p m c) L):=hown
 replace hfz:Hid (∀ k,w.frozen? ⟨x,k,none⟩=false):=hfz
 have hne:¬ (Value.slice p m c).ownBlock=some x:=fun e=>by have:=HO.out.ge x e;omega
 have hxs:x<w.heap.size:=by omega
 replace hSo:Hid _:=hSo
 replace hSn:Hid (∀ g,w.heap.size<=g->S g):=hSn
 have HML:Hid (L.length=m):=hmL
 have hML4:Hid ((L++beB n).length=m+4):=by show (L++beB n).length=m+4;rw[List.length_append,hmL,beB_len]
 have hbnd:Hid (L.length+4<=1099511627776):=by show L.length+4<=1099511627776;omega
 clear hown hmL
 go_enter Tryz.func137,Tryz.ntmps137
 have EB:Hid _:=beB_int n hn1
 have HE:Hid (isBytes [(n:Int) / 16777216,(n:Int) / 65536 % 256,(n:Int) / 256 % 256,(n:Int) % 256]):=by rw[EB.out];exact beB_ok n
 have HC:Hid (∀ j,j<4->(w.alloc (Obj.cells #[Value.int IntKind.u8 ((n:Int) / 16777216),Value.int IntKind.u8 ((n:Int) / 65536 % 256),Value.int IntKind.u8 ((n:Int) / 256 % 256),Value.int IntKind.u8 ((n:Int) % 256)] 5)).cell? ⟨w.heap.size,0+j,none⟩=some (.int .u8 ([(n:Int) / 16777216,(n:Int) / 65536 % 256,(n:Int) / 256 % 256,(n:Int) % 256].getD j 0))):=by
  intro j hj
  rw[Nat.zero_add]
  rw[World.cell?_alloc_at _ _ _ _ rfl]
  have:j=0\/j=1\/j=2\/j=3:=by omega
  rcases this with rfl | rfl | rfl | rfl<;>rfl
 go_wp2_with (at_builtin;refine appendB' _ rfl _ _ rfl N (.slice p m c) L rfl (HO.out.alloc _) w.heap.size 0 4 4 [(n:Int) / 16777216,(n:Int) / 65536 % 256,(n:Int) / 256 % 256,(n:Int) % 256] rfl rfl (by omega) HE.out HC.out hbnd.out (by simp;omega) ?_)
 intro v' w2 ho2 hf2 hn2
 rw[EB.out] at ho2
 obtain ⟨p',c',rfl⟩:=ho2.slice' hML4.out
 have fk:Fr (fun k=>(Value.slice p m c).ownBlock=some k) w w2:=((Fr.refl _ w).alloc _).trans hf2
 have k0:=(fk.cell (k:=0) hxs hne).trans h0
 have g0:=(fk.frozen (k:=0) hxs hne).trans hfa
 have HO2:Hid (OwnB w2 N (.slice p' (m+4) c') (L++beB n)):=ho2
 have HF2:Hid (Fr S w w2):=fk.mono (fun i _ e=>hSo.out i e)
 have HN2:Hid (∀ k,(Value.slice p' (m+4) c').ownBlock=some k->S k):=fun k hk=>by
  rcases hn2 k hk with h | h
  ·exact hSo.out k h
  ·exact hSn.out k (by first | omega | (simp at h;omega))
 have HG2:Hid (∀ k,w2.frozen? ⟨x,k,none⟩=false):=fun k=>(fk.frozen hxs hne).trans (hfz.out k)
 clear hf2 ho2 fk hn2
 go_wp2
 go_end0
 have hse:(w2.setCell ⟨x,0,none⟩ (Value.slice p' (m+4) c')).heap.size=w2.heap.size:=by simp [World.setCell]
 exact ⟨rfl,⟨hlt,by rw[hse];exact Nat.le_trans hsz HF2.out.size,fun k=>by rw[World.frozen?_setCell];exact HG2.out k,hSx,fun g hg=>hSn.out g (by rw[hse] at hg;have:=HF2.out.size;omega),⟨_,cell_set_same k0 _,HO2.out.set hlt _ _,HN2.out⟩⟩,HF2.out.setCell (Or.inl hSx) _ _⟩
