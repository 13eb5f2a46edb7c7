import Derived.Test.YthniahejjamhgaaGreatDoorRoV1
import Derived.Test.YthniahejjamhgaaGreatDoorRoY11
import Derived.Test.YthniahejjamhgaaGreatDoorRoC1
namespace Go.Proofs.YthniahejjamhgaaGreatDoor
open Go.RowKit Px
set_option linter.unusedSimpArgs false
set_option linter.unusedVariables false
def Rn:Rd->List Nat->Rd->Prop
 | s,[],s'=>s=s'
 | s,x::l,s'=>TakeOk s x/\(s.take x).2=0/\Rn (s.take x).1 l s'
theorem Rn.append:∀ {l m:List Nat} {s a b:Rd},Rn s l a->Rn a m b->Rn s (l++m) b
 | [],m,s,a,b,h,k=>by cases h;exact k
 | x::l,m,s,a,b,h,k=>⟨h.1,h.2.1,Rn.append h.2.2 k⟩
theorem Rn.one {s a:Rd} {x:Nat} (h:TakeOk s x) (e:s.take x=(a,0)):Rn s [x] a:=⟨h,by rw[e],by rw[e];rfl⟩
theorem Rn.cons {s a b:Rd} {x:Nat} {l:List Nat} (h:TakeOk s x) (e:s.take x=(a,0)) (k:Rn a l b):Rn s (x::l) b:=⟨h,by rw[e],by rw[e];exact k⟩
theorem one_of {d:Dc} {x:Nat} (h0:d.err=0) (h:(d.file.take x).2=0):d.one x={ d with file:=(d.file.take x).1,count:=d.count+1 }:=by
 unfold Dc.one;rw[if_neg (fun q=>q h0),if_neg (fun q=>q h)]
theorem Rn.feed:∀ {l:List Nat} {d:Dc} {b:Rd},Rn d.file l b->d.err=0->d.feed l=⟨b,d.count+l.length,0,d.at1⟩
 | [],d,b,h,h0=>by
  have e:d.file=b:=h;show d=_
  rw[<- e];show d=⟨d.file,d.count,0,d.at1⟩
  rw[<- h0]
 | x::l,d,b,h,h0=>by
  show (d.one x).feed l=_
  rw[one_of h0 h.2.1];rw[Rn.feed (d:={ d with file:=(d.file.take x).1,count:=d.count+1 }) h.2.2 h0];show (⟨b,d.count+1+l.length,0,d.at1⟩:Dc)=_
  rw[List.length_cons,show d.count+1+l.length=d.count+(l.length+1) from by omega]
theorem Rn.take:∀ {l:List Nat} {s b:Rd},Rn s l b->∀ (k x:Nat),l[k]? = some x->∃ a,Rn s (l.take k) a/\TakeOk a x
 | [],s,b,h,k,x,e=>by simp at e
 | y::l,s,b,h,0,x,e=>by
  simp at e;subst e;exact ⟨s,rfl,h.1⟩
 | y::l,s,b,h,k+1,x,e=>by
  obtain ⟨a,h1,h2⟩:=Rn.take h.2.2 k x (by simpa using e);exact ⟨a,⟨h.1,h.2.1,h1⟩,h2⟩
theorem Rn.ok {l:List Nat} {d:Dc} {b:Rd} (h:Rn d.file l b) (h0:d.err=0) (hc:d.count+l.length<=4294967296):FeedOk d l:=by
 intro k x e _;obtain ⟨a,h1,h2⟩:=h.take k x e;rw[h1.feed h0];refine ⟨h2,?_⟩;show d.count+(l.take k).length<=4294967296
 rw[List.length_take];omega
structure RdInv (s:Rd):Prop where
 hd:RdHd s
 raw:∀ i,s.raw i<256
 clear:∀ j,s.tl.clear j<256
 colours:s.tl.colours<=256
def rdS (k:Nat):Rd:={ rd0 with taken:=k }
theorem hd0_ok:RdHd rd0:=⟨by decide,by decide,by decide,by decide,by decide⟩
theorem rdS_ok (k x:Nat) (hk:k<8):TakeOk (rdS k) x:=
 ⟨by show 0<=5;omega,fun _=>by show k<1000;omega,fun h=>by exfalso;revert h;show ¬ (0=1\/0=2\/0=4);omega,by show 0<4294967296;omega,fun h=>by exfalso;revert h;show ¬ (0=2);omega,⟨hd0_ok.W,hd0_ok.H,hd0_ok.D,hd0_ok.K,hd0_ok.L⟩,fun h=>by exfalso;revert h;show ¬ (0=3);omega,fun h=>by exfalso;revert h;show ¬ (0=3);omega,fun _=>by show 0<256;omega,fun _=>by show 0<256;omega⟩
theorem sign_go:Rn rd0 [137,80,78,71,13,10,26,10] { rd0 with part:=1 }:=by
 refine Rn.cons (a:=rdS 1) (rdS_ok 0 _ (by omega)) rfl ?_;refine Rn.cons (a:=rdS 2) (rdS_ok 1 _ (by omega)) rfl ?_;refine Rn.cons (a:=rdS 3) (rdS_ok 2 _ (by omega)) rfl ?_;refine Rn.cons (a:=rdS 4) (rdS_ok 3 _ (by omega)) rfl ?_;refine Rn.cons (a:=rdS 5) (rdS_ok 4 _ (by omega)) rfl ?_;refine Rn.cons (a:=rdS 6) (rdS_ok 5 _ (by omega)) rfl ?_;refine Rn.cons (a:=rdS 7) (rdS_ok 6 _ (by omega)) rfl ?_;exact Rn.one (rdS_ok 7 _ (by omega)) rfl
def beN (n:Nat):List Nat:=[n / 16777216 % 256,n / 65536 % 256,n / 256 % 256,n % 256]
theorem be_num (n:Nat) (h:n<4294967296):((n / 16777216 % 256*256+n / 65536 % 256)*256+n / 256 % 256)*256+n % 256=n:=by omega
theorem num0 {m a b c d n:Nat} (hN:m=0) (e:((a*256+b)*256+c)*256+d=n):((((m*256+a)*256+b)*256+c)*256+d)=n:=by subst hN;rw[Nat.zero_mul,Nat.zero_add];exact e
theorem ok14 {s:Rd} {x:Nat} (h:RdInv s) (hp:s.part=1\/s.part=4) (ht:s.taken<1000) (hn:s.number<16777216) (hs:s.sum<4294967296):TakeOk s x:=
 ⟨by omega,fun _=>ht,fun _=>hn,hs,fun q=>by omega,h.hd,fun q=>by omega,fun q=>by omega,h.raw,h.clear⟩
theorem ok2 {s:Rd} {x:Nat} (h:RdInv s) (hp:s.part=2) (ht:s.taken<1000) (hn:s.number<16777216) (hs:s.sum<4294967296) (hx:x<256) (hl:s.length<2147483648):TakeOk s x:=
 ⟨by omega,fun _=>ht,fun _=>hn,hs,fun _=>⟨h.colours,h.hd.K,h.hd.D,hl,by show s.number*256+x<4294967296;omega⟩,h.hd,fun q=>by omega,fun q=>by omega,h.raw,h.clear⟩
theorem take1 {s:Rd} (h:s.part=1) (x:Nat):s.take x=s.takeLength x:=by unfold Rd.take;rw[if_neg (by omega),if_pos h]
theorem take2 {s:Rd} (h:s.part=2) (x:Nat):s.take x=s.takeType x:=by unfold Rd.take;rw[if_neg (by omega),if_neg (by omega),if_pos h]
theorem take3 {s:Rd} (h:s.part=3) (x:Nat):s.take x=s.takeData x:=by unfold Rd.take;rw[if_neg (by omega),if_neg (by omega),if_neg (by omega),if_pos h]
theorem take4 {s:Rd} (h:s.part=4) (x:Nat):s.take x=s.takeSum x:=by unfold Rd.take;rw[if_neg (by omega),if_neg (by omega),if_neg (by omega),if_neg (by omega),if_pos h]
theorem RdInv.num {s:Rd} (h:RdInv s) (x:Nat):RdInv (s.num x):=⟨⟨h.hd.W,h.hd.H,h.hd.D,h.hd.K,h.hd.L⟩,h.raw,h.clear,h.colours⟩
theorem RdInv.seen {s:Rd} (h:RdInv s) (x:Nat):RdInv (s.seen x):=⟨⟨h.hd.W,h.hd.H,h.hd.D,h.hd.K,h.hd.L⟩,h.raw,h.clear,h.colours⟩
def lnS (s:Rd) (n:Nat):Rd:={ s with part:=2,taken:=0,number:=0,length:=n,sum:=crcStart }
theorem len_go {s:Rd} {n:Nat} (h:RdInv s) (hp:s.part=1) (ht:s.taken=0) (hN:s.number=0) (hs:s.sum<4294967296) (hn:n<2147483648):Rn s (beN n) (lnS s n):=by
 have e:=be_num n (by omega);have a0:n / 16777216 % 256<256:=by omega
 have a1:n / 65536 % 256<256:=by omega
 have a2:n / 256 % 256<256:=by omega
 have a3:n % 256<256:=by omega
 unfold beN;generalize n / 16777216 % 256=a at *;generalize n / 65536 % 256=b at *;generalize n / 256 % 256=c at *;generalize n % 256=d at *;refine Rn.cons (a:=s.num a) (ok14 h (Or.inl hp) (by omega) (by omega) hs) ?_ ?_
 ·rw[take1 hp];unfold Rd.takeLength;rw[if_pos (by omega)]
 refine Rn.cons (a:=(s.num a).num b) (ok14 (h.num a) (Or.inl hp) (by show s.taken+1<1000;omega) (by show s.number*256+a<16777216;omega) hs) ?_ ?_
 ·rw[take1 (s:=s.num a) hp];unfold Rd.takeLength;rw[if_pos (by show s.taken+1+1≠4;omega)]
 refine Rn.cons (a:=((s.num a).num b).num c) (ok14 ((h.num a).num b) (Or.inl hp) (by show s.taken+1+1<1000;omega) (by show (s.number*256+a)*256+b<16777216;omega) hs) ?_ ?_
 ·rw[take1 (s:=(s.num a).num b) hp];unfold Rd.takeLength;rw[if_pos (by show s.taken+1+1+1≠4;omega)]
 refine Rn.one (ok14 (((h.num a).num b).num c) (Or.inl hp) (by show s.taken+1+1+1<1000;omega) (by show ((s.number*256+a)*256+b)*256+c<16777216;omega) hs) ?_;rw[take1 (s:=((s.num a).num b).num c) hp];have e2:(((s.num a).num b).num c).number*256+d=n:=num0 hN e;unfold Rd.takeLength;rw[if_neg (by show ¬ (s.taken+1+1+1+1≠4);omega),e2,if_neg (by omega)];rfl
def tyS (s:Rd) (T S:Nat):Rd:={ s with sum:=S,number:=T,taken:=4,ctype:=T }
theorem ty_go {s:Rd} {T:Nat} (h:RdInv s) (hp:s.part=2) (ht:s.taken=0) (hN:s.number=0) (hs:s.sum<4294967296) (hT:T<4294967296) (hl:s.length<2147483648) (hc:(tyS s T (crcL s.sum (beN T))).checkType=0):Rn s (beN T) ((tyS s T (crcL s.sum (beN T))).note.enter (if (tyS s T (crcL s.sum (beN T))).note.length=0 then 4 else 3)):=by
 have e:=be_num T (by omega);have a0:T / 16777216 % 256<256:=by omega
 have a1:T / 65536 % 256<256:=by omega
 have a2:T / 256 % 256<256:=by omega
 have a3:T % 256<256:=by omega
 unfold beN at *;generalize T / 16777216 % 256=a at *;generalize T / 65536 % 256=b at *;generalize T / 256 % 256=c at *;generalize T % 256=d at *;have s1:crcAdd s.sum a<4294967296:=crcAdd_lt _ _ hs a0;have s2:crcAdd (crcAdd s.sum a) b<4294967296:=crcAdd_lt _ _ s1 a1;have s3:crcAdd (crcAdd (crcAdd s.sum a) b) c<4294967296:=crcAdd_lt _ _ s2 a2;refine Rn.cons (a:=s.seen a) (ok2 h hp (by omega) (by omega) hs a0 hl) ?_ ?_
 ·rw[take2 hp];unfold Rd.takeType;rw[if_pos (by omega)]
 refine Rn.cons (a:=(s.seen a).seen b) (ok2 (h.seen a) hp (by show s.taken+1<1000;omega) (by show s.number*256+a<16777216;omega) s1 a1 hl) ?_ ?_
 ·rw[take2 (s:=s.seen a) hp];unfold Rd.takeType;rw[if_pos (by show s.taken+1+1≠4;omega)]
 refine Rn.cons (a:=((s.seen a).seen b).seen c) (ok2 ((h.seen a).seen b) hp (by show s.taken+1+1<1000;omega) (by show (s.number*256+a)*256+b<16777216;omega) s2 a2 hl) ?_ ?_
 ·rw[take2 (s:=(s.seen a).seen b) hp];unfold Rd.takeType;rw[if_pos (by show s.taken+1+1+1≠4;omega)]
 refine Rn.one (ok2 (((h.seen a).seen b).seen c) hp (by show s.taken+1+1+1<1000;omega) (by show ((s.number*256+a)*256+b)*256+c<16777216;omega) s3 a3 hl) ?_;rw[take2 (s:=((s.seen a).seen b).seen c) hp];have e2:((((s.number*256+a)*256+b)*256+c)*256+d)=T:=num0 hN e;have et:(((s.seen a).seen b).seen c).typed d=tyS s T (crcL s.sum [a,b,c,d]):=by
  show ({ s with sum:=crcL s.sum [a,b,c,d],number:=((((s.number*256+a)*256+b)*256+c)*256+d),taken:=s.taken+1+1+1+1,ctype:=((((s.number*256+a)*256+b)*256+c)*256+d) }:Rd)=_
  rw[e2,ht];rfl
 unfold Rd.takeType;rw[if_neg (by show ¬ (s.taken+1+1+1+1≠4);omega),et,if_neg (fun q=>q hc)];split
 ·rfl
 ·rfl
theorem num4_go {s:Rd} {n:Nat} (h:RdInv s) (hp:s.part=4) (ht:s.taken=0) (hN:s.number=0) (hs:s.sum<4294967296) (hn:n<4294967296) (he:n=crcEnd s.sum) {a':Rd} (ha:({ s with taken:=4,number:=n }:Rd).accept=(a',0)) (hi:a'.ctype≠iend):Rn s (beN n) (a'.enter 1):=by
 have e:=be_num n (by omega);have a0:n / 16777216 % 256<256:=by omega
 have a1:n / 65536 % 256<256:=by omega
 have a2:n / 256 % 256<256:=by omega
 have a3:n % 256<256:=by omega
 unfold beN;generalize n / 16777216 % 256=a at *;generalize n / 65536 % 256=b at *;generalize n / 256 % 256=c at *;generalize n % 256=d at *;refine Rn.cons (a:=s.num a) (ok14 h (Or.inr hp) (by omega) (by omega) hs) ?_ ?_
 ·rw[take4 hp];unfold Rd.takeSum;rw[if_pos (by omega)]
 refine Rn.cons (a:=(s.num a).num b) (ok14 (h.num a) (Or.inr hp) (by show s.taken+1<1000;omega) (by show s.number*256+a<16777216;omega) hs) ?_ ?_
 ·rw[take4 (s:=s.num a) hp];unfold Rd.takeSum;rw[if_pos (by show s.taken+1+1≠4;omega)]
 refine Rn.cons (a:=((s.num a).num b).num c) (ok14 ((h.num a).num b) (Or.inr hp) (by show s.taken+1+1<1000;omega) (by show (s.number*256+a)*256+b<16777216;omega) hs) ?_ ?_
 ·rw[take4 (s:=(s.num a).num b) hp];unfold Rd.takeSum;rw[if_pos (by show s.taken+1+1+1≠4;omega)]
 refine Rn.one (ok14 (((h.num a).num b).num c) (Or.inr hp) (by show s.taken+1+1+1<1000;omega) (by show ((s.number*256+a)*256+b)*256+c<16777216;omega) hs) ?_;rw[take4 (s:=((s.num a).num b).num c) hp];have e2:(((s.num a).num b).num c).number*256+d=n:=num0 hN e;have en:(((s.num a).num b).num c).num d={ s with taken:=4,number:=n }:=by
  show ({ s with number:=(((s.num a).num b).num c).number*256+d,taken:=s.taken+1+1+1+1 }:Rd)=_
  rw[e2,ht]
 unfold Rd.takeSum;rw[if_neg (by show ¬ (s.taken+1+1+1+1≠4);omega),e2,if_neg (by show ¬ (n≠crcEnd s.sum);exact fun q=>q he),en,ha,if_neg (fun q=>q rfl),if_neg hi]
theorem plain_go' (n:Nat) (l:List Nat) (hl:l.length=n) (st:Nat->Rd) (h:∀ k,k<n->TakeOk (st k) (l.getD k 0)/\(st k).take (l.getD k 0)=(if k+1=n then (st n).enter 4 else st (k+1),0)):∀ (m k:Nat),k+m+1=n->Rn (st k) (l.drop k) ((st n).enter 4)
 | 0,k,hk=>by
  obtain ⟨h1,h2⟩:=h k (by omega);rw[if_pos (by omega)] at h2;rw[List.drop_eq_getElem_cons (by omega),List.drop_eq_nil_of_le (by omega)];rw[List.getD_eq_getElem?_getD,List.getElem?_eq_getElem (by omega)] at h1 h2;exact Rn.one h1 h2
 | m+1,k,hk=>by
  obtain ⟨h1,h2⟩:=h k (by omega);rw[if_neg (by omega)] at h2;rw[List.drop_eq_getElem_cons (by omega)];rw[List.getD_eq_getElem?_getD,List.getElem?_eq_getElem (by omega)] at h1 h2;exact Rn.cons h1 h2 (plain_go' n l hl st h m (k+1) (by omega))
theorem plain_go (n:Nat) (l:List Nat) (hl:l.length=n) (hn:0<n) (st:Nat->Rd) (h:∀ k,k<n->TakeOk (st k) (l.getD k 0)/\(st k).take (l.getD k 0)=(if k+1=n then (st n).enter 4 else st (k+1),0)):Rn (st 0) l ((st n).enter 4):=by
 have:=plain_go' n l hl st h (n - 1) 0 (by omega)
 rwa [List.drop_zero] at this
def upN (f:Nat->Nat) (l:List Nat) (k:Nat):Nat->Nat:=fun i=>if i<k then l.getD i 0 else f i
theorem upN_zero (f:Nat->Nat) (l:List Nat):upN f l 0=f:=by funext i;unfold upN;rw[if_neg (by omega)]
theorem upN_upd (f:Nat->Nat) (l:List Nat) (k:Nat):upd (upN f l k) k (l.getD k 0)=upN f l (k+1):=by
 funext i
 unfold upN upd;by_cases h:i=k
 ·subst h;rw[if_pos rfl,if_pos (by omega)]
 ·rw[if_neg h]
  show (if i<k then l.getD i 0 else f i)=_
  by_cases h2:i<k
  ·rw[if_pos h2,if_pos (by omega)]
  ·rw[if_neg h2,if_neg (by omega)]
theorem upN_lt {f:Nat->Nat} {l:List Nat} {k m:Nat} (h:∀ i,f i<m) (h2:∀ x ∈ l,x<m) (hm:0<m) (i:Nat):upN f l k i<m:=by
 unfold upN;split
 ·rw[List.getD_eq_getElem?_getD]
  by_cases hi:i<l.length
  ·rw[List.getElem?_eq_getElem hi];exact h2 _ (List.getElem_mem hi)
  ·rw[List.getElem?_eq_none (by omega)];exact hm
 ·exact h i
theorem crcL_snoc (s:Nat) (l:List Nat) (x:Nat):crcL s (l++[x])=crcAdd (crcL s l) x:=by unfold crcL;rw[List.foldl_append];rfl
theorem crcL_app (s:Nat) (l m:List Nat):crcL s (l++m)=crcL (crcL s l) m:=by unfold crcL;rw[List.foldl_append]
theorem crcL_take (s:Nat) (l:List Nat) (k:Nat) (hk:k<l.length):crcL s (l.take (k+1))=crcAdd (crcL s (l.take k)) (l.getD k 0):=by
 rw[List.take_succ_eq_append_getElem hk,crcL_snoc,List.getD_eq_getElem?_getD,List.getElem?_eq_getElem hk];rfl
theorem crcL_lt (s:Nat) (l:List Nat) (h:s<4294967296) (hb:∀ x ∈ l,x<256):crcL s l<4294967296:=by
 unfold crcL
 induction l generalizing s with
 | nil=>exact h
 | cons x l ih=>exact ih _ (crcAdd_lt _ _ h (hb x (by simp))) (fun y hy=>hb y (by simp [hy]))
theorem take_lt {l:List Nat} (h:∀ x ∈ l,x<256) (k:Nat):∀ x ∈ l.take k,x<256:=fun x hx=>h x (List.mem_of_mem_take hx)
theorem keep_raw {s:Rd} {x:Nat} (h:s.ctype=ihdr):s.keep x=({ s with raw:=upd s.raw s.taken x },0):=by unfold Rd.keep;rw[if_pos h]
theorem keep_pal {s:Rd} {x:Nat} (h:s.ctype=plte):s.keep x=({ s with tl:={ s.tl with pal:=upd s.tl.pal s.taken x } },0):=by unfold Rd.keep;rw[if_neg (by rw[h];decide),if_pos h]
theorem keep_clr {s:Rd} {x:Nat} (h:s.ctype=trns):s.keep x=({ s with tl:={ s.tl with clear:=upd s.tl.clear s.taken x } },0):=by unfold Rd.keep;rw[if_neg (by rw[h];decide),if_neg (by rw[h];decide),if_pos h]
theorem keep_idat {s:Rd} {x:Nat} (h:s.ctype=idat):s.keep x=s.takeStream x:=by unfold Rd.keep;rw[if_neg (by rw[h];decide),if_neg (by rw[h];decide),if_neg (by rw[h];decide),if_pos h]
def rawS (s:Rd) (l:List Nat) (k:Nat):Rd:={ s with taken:=k,sum:=crcL s.sum (l.take k),raw:=upN s.raw l k }
theorem raw_go {s:Rd} {l:List Nat} (h:RdInv s) (hp:s.part=3) (ht:s.taken=0) (hc:s.ctype=ihdr) (hl:l.length=13) (hs:s.length=13) (hb:∀ x ∈ l,x<256) (hsum:s.sum<4294967296):Rn s l ((rawS s l 13).enter 4):=by
 have e0:rawS s l 0=s:=by
  have q:({ s with taken:=0 }:Rd)=s:=by rw[<- ht]
  unfold rawS;rw[upN_zero];exact q
 have key:=plain_go 13 l hl (by omega) (rawS s l) (fun k hk => ?_)
 ·rwa [e0] at key
 ·refine ⟨⟨by show s.part<=5;omega,fun q=>absurd hp q,fun q=>by replace q:s.part=1\/s.part=2\/s.part=4:=q;omega,crcL_lt _ _ hsum (take_lt hb k),fun q=>by replace q:s.part=2:=q;omega,⟨h.hd.W,h.hd.H,h.hd.D,h.hd.K,h.hd.L⟩,fun _ => ?_,fun _ => ?_,fun i=>upN_lt h.raw hb (by omega) i,h.clear⟩,?_⟩
  ·refine ⟨fun _=>by show k<13;omega,fun q => ?_,fun q => ?_,fun q => ?_,fun q => ?_⟩
   all_goals (replace q:s.ctype=_:=q;rw[hc] at q;exact absurd q (by decide))
  ·rw[keep_raw (s:=(rawS s l k).summed (l.getD k 0)) hc];show k<2147483648;omega
  ·rw[take3 (s:=rawS s l k) hp]
   have ek:((rawS s l k).summed (l.getD k 0)).keep (l.getD k 0)=({ s with taken:=k,sum:=crcL s.sum (l.take (k+1)),raw:=upN s.raw l (k+1) },0):=by
    rw[keep_raw (s:=(rawS s l k).summed (l.getD k 0)) hc,crcL_take _ _ _ (by omega),<- upN_upd];rfl
   unfold Rd.takeData;rw[ek,if_neg (fun q=>q rfl)];unfold Rd.dataEnd;by_cases e:k+1=13
   ·rw[if_pos (show k+1=s.length from by omega),if_pos e]
    have:k=12:=by omega
    subst this;rfl
   ·rw[if_neg (show ¬ k+1=s.length from by omega),if_neg e];rfl
def palS (s:Rd) (l:List Nat) (k:Nat):Rd:={ s with taken:=k,sum:=crcL s.sum (l.take k),tl:={ s.tl with pal:=upN s.tl.pal l k } }
theorem pal_go {s:Rd} {l:List Nat} {n:Nat} (h:RdInv s) (hp:s.part=3) (ht:s.taken=0) (hc:s.ctype=plte) (hn0:0<n) (hn:n<=768) (hl:l.length=n) (hs:s.length=n) (hb:∀ x ∈ l,x<256) (hsum:s.sum<4294967296):Rn s l ((palS s l n).enter 4):=by
 have e0:palS s l 0=s:=by
  have q:({ s with taken:=0 }:Rd)=s:=by rw[<- ht]
  unfold palS;rw[upN_zero];exact q
 have key:=plain_go n l hl hn0 (palS s l) (fun k hk => ?_)
 ·rwa [e0] at key
 ·refine ⟨⟨by show s.part<=5;omega,fun q=>absurd hp q,fun q=>by replace q:s.part=1\/s.part=2\/s.part=4:=q;omega,crcL_lt _ _ hsum (take_lt hb k),fun q=>by replace q:s.part=2:=q;omega,⟨h.hd.W,h.hd.H,h.hd.D,h.hd.K,h.hd.L⟩,fun _ => ?_,fun _ => ?_,h.raw,h.clear⟩,?_⟩
  ·refine ⟨fun q => ?_,fun _=>by show k<768;omega,fun q => ?_,fun q => ?_,fun q => ?_⟩
   all_goals (replace q:s.ctype=_:=q;rw[hc] at q;exact absurd q (by decide))
  ·rw[keep_pal (s:=(palS s l k).summed (l.getD k 0)) hc];show k<2147483648;omega
  ·rw[take3 (s:=palS s l k) hp]
   have ek:((palS s l k).summed (l.getD k 0)).keep (l.getD k 0)=({ s with taken:=k,sum:=crcL s.sum (l.take (k+1)),tl:={ s.tl with pal:=upN s.tl.pal l (k+1) } },0):=by
    rw[keep_pal (s:=(palS s l k).summed (l.getD k 0)) hc,crcL_take _ _ _ (by omega),<- upN_upd];rfl
   unfold Rd.takeData;rw[ek,if_neg (fun q=>q rfl)];unfold Rd.dataEnd;by_cases e:k+1=n
   ·rw[if_pos (show k+1=s.length from by omega),if_pos e]
    subst e;rfl
   ·rw[if_neg (show ¬ k+1=s.length from by omega),if_neg e];rfl
def clrS (s:Rd) (l:List Nat) (k:Nat):Rd:={ s with taken:=k,sum:=crcL s.sum (l.take k),tl:={ s.tl with clear:=upN s.tl.clear l k } }
theorem clr_go {s:Rd} {l:List Nat} {n:Nat} (h:RdInv s) (hp:s.part=3) (ht:s.taken=0) (hc:s.ctype=trns) (hn0:0<n) (hn:n<=256) (hl:l.length=n) (hs:s.length=n) (hb:∀ x ∈ l,x<256) (hsum:s.sum<4294967296):Rn s l ((clrS s l n).enter 4):=by
 have e0:clrS s l 0=s:=by
  have q:({ s with taken:=0 }:Rd)=s:=by rw[<- ht]
  unfold clrS;rw[upN_zero];exact q
 have key:=plain_go n l hl hn0 (clrS s l) (fun k hk => ?_)
 ·rwa [e0] at key
 ·refine ⟨⟨by show s.part<=5;omega,fun q=>absurd hp q,fun q=>by replace q:s.part=1\/s.part=2\/s.part=4:=q;omega,crcL_lt _ _ hsum (take_lt hb k),fun q=>by replace q:s.part=2:=q;omega,⟨h.hd.W,h.hd.H,h.hd.D,h.hd.K,h.hd.L⟩,fun _ => ?_,fun _ => ?_,h.raw,fun j=>upN_lt h.clear hb (by omega) j⟩,?_⟩
  ·refine ⟨fun q => ?_,fun q => ?_,fun _=>by show k<256;omega,fun q => ?_,fun q => ?_⟩
   all_goals (replace q:s.ctype=_:=q;rw[hc] at q;exact absurd q (by decide))
  ·rw[keep_clr (s:=(clrS s l k).summed (l.getD k 0)) hc];show k<2147483648;omega
  ·rw[take3 (s:=clrS s l k) hp]
   have ek:((clrS s l k).summed (l.getD k 0)).keep (l.getD k 0)=({ s with taken:=k,sum:=crcL s.sum (l.take (k+1)),tl:={ s.tl with clear:=upN s.tl.clear l (k+1) } },0):=by
    rw[keep_clr (s:=(clrS s l k).summed (l.getD k 0)) hc,crcL_take _ _ _ (by omega),<- upN_upd];rfl
   unfold Rd.takeData;rw[ek,if_neg (fun q=>q rfl)];unfold Rd.dataEnd;by_cases e:k+1=n
   ·rw[if_pos (show k+1=s.length from by omega),if_pos e]
    subst e;rfl
   ·rw[if_neg (show ¬ k+1=s.length from by omega),if_neg e];rfl
def nl (l:List Int):List Nat:=l.map Int.toNat
theorem nl_app (a b:List Int):nl (a++b)=nl a++nl b:=List.map_append
theorem nl_len (a:List Int):(nl a).length=a.length:=List.length_map ..
theorem nl_be (n:Nat):nl (beB n)=beN n:=rfl
theorem crcI_nl (s:Nat) (l:List Int):crcI s l=crcL s (nl l):=by unfold crcI crcL nl;rw[List.foldl_map]
theorem nl_lt {l:List Int} (h:isBytes l):∀ x ∈ nl l,x<256:=by
 intro x hx;unfold nl at hx;rw[List.mem_map] at hx;obtain ⟨y,hy,rfl⟩:=hx
 have:=h y hy
 omega
def chN (T:Nat) (l:List Nat):List Nat:=beN l.length++(beN T++(l++beN (crcEnd (crcL crcStart (beN T++l)))))
theorem nl_ch (T:Nat) (l:List Int):nl (chB T l)=chN T (nl l):=by
 unfold chB chN;rw[nl_app,nl_app,nl_app,nl_be,nl_be,nl_be,nl_len,crcI_nl,nl_app,nl_be]
theorem beN_lt (n:Nat):∀ x ∈ beN n,x<256:=by
 intro x hx;simp only [beN,List.mem_cons,List.not_mem_nil,or_false] at hx;omega
theorem crcStart_lt:crcStart<4294967296:=by decide
theorem crcEnd_lt (s:Nat) (h:s<4294967296):crcEnd s<4294967296:=Nat.xor_lt_two_pow (n:=32) (by omega) (by decide)
structure Bnd (s:Rd) (h:Hd) (sp sc:Bool) (C:Nat):Prop where
 part:s.part=1
 taken:s.taken=0
 number:s.number=0
 sum:s.sum<4294967296
 inv:RdInv s
 hd:s.hd=h
 sp:s.sp=sp
 sc:s.sc=sc
 sd:s.sd=false
 dov:s.dov=false
 col:s.tl.colours=C
theorem rd1_bnd:Bnd { rd0 with part:=1 } hd0 false false 0:=
 ⟨rfl,rfl,rfl,by decide,⟨⟨hd0_ok.W,hd0_ok.H,hd0_ok.D,hd0_ok.K,hd0_ok.L⟩,fun _=>by show 0<256;omega,fun _=>by show 0<256;omega,by decide⟩,rfl,rfl,rfl,rfl,rfl,rfl⟩
theorem Bnd.ln {s:Rd} {h:Hd} {sp sc:Bool} {C:Nat} (b:Bnd s h sp sc C) (n:Nat):RdInv (lnS s n):=⟨⟨b.inv.hd.W,b.inv.hd.H,b.inv.hd.D,b.inv.hd.K,b.inv.hd.L⟩,b.inv.raw,b.inv.clear,b.inv.colours⟩
theorem open_go {s:Rd} {h:Hd} {sp sc:Bool} {C T n:Nat} (b:Bnd s h sp sc C) (hn:n<2147483648) (hT:T<4294967296) {a:Rd} (hc:(tyS (lnS s n) T (crcL crcStart (beN T))).checkType=0) (ha:(tyS (lnS s n) T (crcL crcStart (beN T))).note=a) (hl:a.length=n) (h0:n≠0):Rn s (beN n++beN T) (a.enter 3):=by
 refine Rn.append (len_go b.inv b.part b.taken b.number b.sum hn) ?_;have k:=ty_go (s:=lnS s n) (T:=T) (b.ln n) rfl rfl rfl crcStart_lt hT hn hc;replace k:Rn (lnS s n) (beN T) ((tyS (lnS s n) T (crcL crcStart (beN T))).note.enter (if (tyS (lnS s n) T (crcL crcStart (beN T))).note.length=0 then 4 else 3)):=k;rw[ha,hl,if_neg h0] at k;exact k
theorem close_go {s a q a':Rd} {T n:Nat} {l:List Nat} (o:Rn s (beN n++beN T) (a.enter 3)) (hn:l.length=n) (g:Rn (a.enter 3) l q) (hs:q.sum=crcL crcStart (beN T++l)) (hb:∀ x ∈ l,x<256) (iq:RdInv q) (h1:q.part=4) (h2:q.taken=0) (h3:q.number=0) (ha:({ q with taken:=4,number:=crcEnd q.sum }:Rd).accept=(a',0)) (hi:a'.ctype≠iend):Rn s (chN T l) (a'.enter 1)/\q.sum<4294967296:=by
 have hql:q.sum<4294967296:=by
  rw[hs];exact crcL_lt _ _ crcStart_lt (fun x hx=>by rcases List.mem_append.1 hx with h | h;exact beN_lt _ x h;exact hb x h)
 have n4:=num4_go (s:=q) (n:=crcEnd q.sum) (a':=a') iq h1 h2 h3 hql (crcEnd_lt _ hql) rfl ha hi;refine ⟨?_,hql⟩;unfold chN;rw[hn,<- List.append_assoc,<- hs];exact o.append (g.append n4)
theorem legB_of {K D:Nat} (h:legal K D):legB K D=true:=by
 unfold legal at h;unfold legB;rcases h with ⟨rfl,h⟩ | ⟨rfl,h⟩ | ⟨h,h2⟩
 ·rw[if_pos rfl];exact decide_eq_true h
 ·rw[if_neg (by omega),if_pos rfl];exact decide_eq_true h
 ·rw[if_neg (by omega),if_neg (by omega),if_pos h];exact decide_eq_true h2
def hdN (W H D K L:Nat):List Nat:=[0,0,0,W,0,0,0,H,D,K,0,0,L]
theorem nl_hd (W H D K L:Nat):nl (hdI W H D K L)=hdN W H D K L:=rfl
theorem headOf_hd (W H D K L:Nat) (f:Nat->Nat) (hW1:1<=W) (hW:W<=16) (hH1:1<=H) (hH:H<=16) (hL:L<=1) (hk:legal K D) (hf:∀ i,i<13->f i=(hdN W H D K L).getD i 0):headOf f=(0,⟨W,H,D,K,L⟩):=by
 have f0:f 0=0:=hf 0 (by omega);have f1:f 1=0:=hf 1 (by omega);have f2:f 2=0:=hf 2 (by omega);have f3:f 3=W:=hf 3 (by omega);have f4:f 4=0:=hf 4 (by omega);have f5:f 5=0:=hf 5 (by omega);have f6:f 6=0:=hf 6 (by omega);have f7:f 7=H:=hf 7 (by omega);have f8:f 8=D:=hf 8 (by omega);have f9:f 9=K:=hf 9 (by omega);have f10:f 10=0:=hf 10 (by omega);have f11:f 11=0:=hf 11 (by omega);have f12:f 12=L:=hf 12 (by omega);have ew:wN f=W:=by unfold wN;rw[f0,f1,f2,f3];omega
 have eh:hN f=H:=by unfold hN;rw[f4,f5,f6,f7];omega
 rw[headOf_eq,ew,eh,f8,f9,f10,f11,f12,legB_of hk,if_neg,if_neg (by omega),if_neg (by omega)];intro q;rcases q with q | q | q | q | q
 ·omega
 ·omega
 ·omega
 ·omega
 ·cases q
theorem ihdr_go {W H D K L:Nat} (hW1:1<=W) (hW:W<=16) (hH1:1<=H) (hH:H<=16) (hL:L<=1) (hk:legal K D):∃ s',Rn { rd0 with part:=1 } (chN ihdr (hdN W H D K L)) s'/\Bnd s' ⟨W,H,D,K,L⟩ false false 0:=by
 have hK:=hk.k6;have hbs:∀ x ∈ hdN W H D K L,x<256:=by
  intro x hx;simp only [hdN,List.mem_cons,List.not_mem_nil,or_false] at hx;omega
 obtain ⟨a,ha⟩:∃ a,a=tyS (lnS { rd0 with part:=1 } 13) ihdr (crcL crcStart (beN ihdr)):=⟨_,rfl⟩;have hS:crcL crcStart (beN ihdr)<4294967296:=crcL_lt _ _ crcStart_lt (beN_lt _);have o:=open_go (T:=ihdr) (n:=13) (a:=a) rd1_bnd (by omega) (by decide) (by rw[<- ha,ha];rfl) (by rw[<- ha,ha];rfl) (by rw[ha];rfl) (by omega);have ia:RdInv (a.enter 3):=by rw[ha];exact ⟨⟨hd0_ok.W,hd0_ok.H,hd0_ok.D,hd0_ok.K,hd0_ok.L⟩,fun _=>by show 0<256;omega,fun _=>by show 0<256;omega,by show 0<=256;omega⟩
 have c:(a.enter 3).ctype=ihdr:=by rw[ha];rfl
 have g:=raw_go (s:=a.enter 3) (l:=hdN W H D K L) ia rfl rfl c rfl (by rw[ha];rfl) hbs (by rw[ha];exact hS);have es:(a.enter 3).sum=crcL crcStart (beN ihdr):=by rw[ha];rfl
 obtain ⟨q,hq⟩:∃ q,q=(rawS (a.enter 3) (hdN W H D K L) 13).enter 4:=⟨_,rfl⟩;have eq1:q.sum=crcL crcStart (beN ihdr++hdN W H D K L):=by
  rw[hq,crcL_app,<- es];rfl
 rw[<- hq] at g;have iq:RdInv q:=by rw[hq];exact ⟨⟨ia.hd.W,ia.hd.H,ia.hd.D,ia.hd.K,ia.hd.L⟩,fun i=>upN_lt ia.raw hbs (by omega) i,ia.clear,ia.colours⟩
 have e4:headOf q.raw=(0,⟨W,H,D,K,L⟩):=by
  refine headOf_hd W H D K L _ hW1 hW hH1 hH hL hk (fun i hi => ?_);rw[hq];show upN _ _ 13 i=_
  unfold upN;rw[if_pos hi]
 obtain ⟨n4,hql⟩:=close_go (a':={ ({ q with taken:=4,number:=crcEnd q.sum }:Rd) with hd:=⟨W,H,D,K,L⟩ }) o rfl g eq1 hbs iq (by rw[hq];rfl) (by rw[hq];rfl) (by rw[hq];rfl) (by
  unfold Rd.accept;rw[if_pos (by rw[hq];exact c)];unfold Rd.acceptHead;show (if (headOf q.raw).1≠0 then _ else _)=_
  rw[e4,if_neg (fun q=>q rfl)]) (by
  show q.ctype≠iend
  rw[hq];show (a.enter 3).ctype≠iend;rw[c];decide)
 refine ⟨_,n4,⟨rfl,rfl,rfl,hql,⟨⟨hW,hH,hK.2,hK.1,hL⟩,iq.raw,iq.clear,iq.colours⟩,rfl,?_,?_,?_,?_,?_⟩⟩
 ·show q.sp=false;rw[hq,ha];rfl
 ·show q.sc=false;rw[hq,ha];rfl
 ·show q.sd=false;rw[hq,ha];rfl
 ·show q.dov=false;rw[hq,ha];rfl
 ·show q.tl.colours=0;rw[hq,ha];rfl
theorem plte_go {s:Rd} {h:Hd} {n:Nat} {l:List Nat} (b:Bnd s h false false 0) (hW:1<=h.W) (hK:h.K=3) (hl:l.length=3*n) (hn:1<=n) (hn2:n<=256) (hn3:n<=2^h.D) (hbs:∀ x ∈ l,x<256):∃ s',Rn s (chN plte l) s'/\Bnd s' h true false n:=by
 obtain ⟨t,ht⟩:∃ t,t=tyS (lnS s (3*n)) plte (crcL crcStart (beN plte)):=⟨_,rfl⟩;obtain ⟨a,ha⟩:∃ a,a=({ t with sp:=true,tl:={ t.tl with colours:=n } }:Rd):=⟨_,rfl⟩;have hS:crcL crcStart (beN plte)<4294967296:=crcL_lt _ _ crcStart_lt (beN_lt _);have t1:t.hd=h:=by rw[ht];exact b.hd
 have t2:t.sd=false:=by rw[ht];exact b.sd
 have t3:t.sp=false:=by rw[ht];exact b.sp
 have t4:t.sc=false:=by rw[ht];exact b.sc
 have t5:t.ctype=plte:=by rw[ht];rfl
 have t6:t.length=3*n:=by rw[ht];rfl
 have o:=open_go (T:=plte) (n:=3*n) (a:=a) b (by omega) (by decide) (by
  rw[<- ht];unfold Rd.checkType;rw[if_neg (by rw[t5];decide),if_neg (by rw[t1];omega),if_neg (by unfold Rd.short;rw[t2];simp)];unfold Rd.checkKind;rw[if_neg (by rw[t5];decide),if_pos t5];unfold Rd.checkPalette;rw[t2,t3,t4,if_neg (by decide),if_neg (by rw[t1];omega),if_neg (by rw[t6];omega),if_neg (by rw[t1,t6];omega)]) (by
  rw[<- ht,ha];unfold Rd.note Rd.note1 Rd.note2;rw[if_pos t5];rw[if_neg (by show ¬ (t.sd && _)=true;rw[t2];simp),t6,show 3*n / 3=n from by omega]) (by rw[ha];exact t6) (by omega)
 have ia:RdInv (a.enter 3):=by rw[ha,ht];exact ⟨⟨b.inv.hd.W,b.inv.hd.H,b.inv.hd.D,b.inv.hd.K,b.inv.hd.L⟩,b.inv.raw,b.inv.clear,hn2⟩
 have c:(a.enter 3).ctype=plte:=by rw[ha];exact t5
 have g:=pal_go (s:=a.enter 3) (l:=l) (n:=3*n) ia rfl rfl c (by omega) (by omega) hl (by rw[ha];exact t6) hbs (by rw[ha,ht];exact hS);have es:(a.enter 3).sum=crcL crcStart (beN plte):=by rw[ha,ht];rfl
 obtain ⟨q,hq⟩:∃ q,q=(palS (a.enter 3) l (3*n)).enter 4:=⟨_,rfl⟩;have eq1:q.sum=crcL crcStart (beN plte++l):=by
  rw[hq,crcL_app,<- es];show crcL _ (l.take (3*n))=_
  rw[List.take_of_length_le (by omega)]
 rw[<- hq] at g;have iq:RdInv q:=by rw[hq];exact ⟨⟨ia.hd.W,ia.hd.H,ia.hd.D,ia.hd.K,ia.hd.L⟩,ia.raw,ia.clear,ia.colours⟩
 have cq:q.ctype=plte:=by rw[hq];exact c
 obtain ⟨n4,hql⟩:=close_go (a':=({ q with taken:=4,number:=crcEnd q.sum }:Rd)) o hl g eq1 hbs iq (by rw[hq];rfl) (by rw[hq];rfl) (by rw[hq];rfl) (by
  unfold Rd.accept;rw[if_neg (by show ¬ q.ctype=ihdr;rw[cq];decide),if_neg (by show ¬ q.ctype=trns;rw[cq];decide)]) (by
  show q.ctype≠iend
  rw[cq];decide)
 refine ⟨_,n4,⟨rfl,rfl,rfl,hql,⟨⟨iq.hd.W,iq.hd.H,iq.hd.D,iq.hd.K,iq.hd.L⟩,iq.raw,iq.clear,iq.colours⟩,?_,?_,?_,?_,?_,?_⟩⟩
 ·show q.hd=h;rw[hq,ha];exact t1
 ·show q.sp=true;rw[hq,ha];rfl
 ·show q.sc=false;rw[hq,ha];exact t4
 ·show q.sd=false;rw[hq,ha];exact t2
 ·show q.dov=false;rw[hq,ha,ht];exact b.dov
 ·show q.tl.colours=n;rw[hq,ha];rfl
theorem note_trns {t:Rd} (h:t.ctype=trns) (h2:t.sd=false):t.note={ t with sc:=true,tl:={ t.tl with clears:=t.length } }:=by
 have e:t.note1={ t with sc:=true,tl:={ t.tl with clears:=t.length } }:=by unfold Rd.note1;rw[if_neg (by rw[h];decide),if_pos h]
 unfold Rd.note;rw[e];unfold Rd.note2;rw[if_neg (by show ¬ (t.sd && _)=true;rw[h2];simp)]
theorem trns_go {s:Rd} {h:Hd} {n C:Nat} {sp:Bool} {l:List Nat} (b:Bnd s h sp false C) (hW:1<=h.W) (hl:l.length=n) (hn:1<=n) (hn2:n<=256) (hbs:∀ x ∈ l,x<256) (hK:((h.K=0\/h.K=2)/\n=2*chn h.K/\∀ i,i<chn h.K->l.getD (2*i) 0*256+l.getD (2*i+1) 0<2^h.D)\/(h.K=3/\sp=true/\n<=C)):∃ s',Rn s (chN trns l) s'/\Bnd s' h sp true C:=by
 obtain ⟨t,ht⟩:∃ t,t=tyS (lnS s n) trns (crcL crcStart (beN trns)):=⟨_,rfl⟩;obtain ⟨a,ha⟩:∃ a,a=({ t with sc:=true,tl:={ t.tl with clears:=n } }:Rd):=⟨_,rfl⟩;have hS:crcL crcStart (beN trns)<4294967296:=crcL_lt _ _ crcStart_lt (beN_lt _);have t1:t.hd=h:=by rw[ht];exact b.hd
 have t2:t.sd=false:=by rw[ht];exact b.sd
 have t3:t.sp=sp:=by rw[ht];exact b.sp
 have t4:t.sc=false:=by rw[ht];exact b.sc
 have t5:t.ctype=trns:=by rw[ht];rfl
 have t6:t.length=n:=by rw[ht];rfl
 have t7:t.tl.colours=C:=by rw[ht];exact b.col
 have o:=open_go (T:=trns) (n:=n) (a:=a) b (by omega) (by decide) (by
  rw[<- ht];unfold Rd.checkType;rw[if_neg (by rw[t5];decide),if_neg (by rw[t1];omega),if_neg (by unfold Rd.short;rw[t2];simp)];unfold Rd.checkKind;rw[if_neg (by rw[t5];decide),if_neg (by rw[t5];decide),if_pos t5];unfold Rd.checkClear;rw[t2,t4,if_neg (by decide)];rcases hK with ⟨h1,h2,_⟩ | ⟨h1,h2,h3⟩
  ·rw[t1,if_pos h1,t6,if_neg (by omega)]
  ·rw[t1,if_neg (by omega),if_pos h1]
   unfold Rd.checkAlphas;rw[t3,h2,if_neg (by decide),t6,t7,if_neg (by omega)]) (by
  rw[<- ht,ha];rw[note_trns t5 t2,t6]) (by rw[ha];exact t6) (by omega)
 have ia:RdInv (a.enter 3):=by rw[ha,ht];exact ⟨⟨b.inv.hd.W,b.inv.hd.H,b.inv.hd.D,b.inv.hd.K,b.inv.hd.L⟩,b.inv.raw,b.inv.clear,b.inv.colours⟩
 have c:(a.enter 3).ctype=trns:=by rw[ha];exact t5
 have g:=clr_go (s:=a.enter 3) (l:=l) (n:=n) ia rfl rfl c (by omega) (by omega) hl (by rw[ha];exact t6) hbs (by rw[ha,ht];exact hS);have es:(a.enter 3).sum=crcL crcStart (beN trns):=by rw[ha,ht];rfl
 obtain ⟨q,hq⟩:∃ q,q=(clrS (a.enter 3) l n).enter 4:=⟨_,rfl⟩;have eq1:q.sum=crcL crcStart (beN trns++l):=by
  rw[hq,crcL_app,<- es];show crcL _ (l.take n)=_
  rw[List.take_of_length_le (by omega)]
 rw[<- hq] at g;have iq:RdInv q:=by rw[hq];exact ⟨⟨ia.hd.W,ia.hd.H,ia.hd.D,ia.hd.K,ia.hd.L⟩,ia.raw,fun j=>upN_lt ia.clear hbs (by omega) j,ia.colours⟩
 have cq:q.ctype=trns:=by rw[hq];exact c
 have hqh:q.hd=h:=by rw[hq,ha];exact t1
 obtain ⟨n4,hql⟩:=close_go (a':=({ q with taken:=4,number:=crcEnd q.sum }:Rd)) o hl g eq1 hbs iq (by rw[hq];rfl) (by rw[hq];rfl) (by rw[hq];rfl) (by
  unfold Rd.accept;rw[if_neg (by show ¬ q.ctype=ihdr;rw[cq];decide),if_pos (by show q.ctype=trns;exact cq)];have e0:({ q with taken:=4,number:=crcEnd q.sum }:Rd).acceptClear=0:=by
   unfold Rd.acceptClear;show (if q.hd.K=3 then 0 else _)=0
   rcases hK with ⟨h1,h2,h3⟩ | ⟨h1,h2,h3⟩
   ·rw[if_neg (by rw[hqh];omega),any_good _ (chn h.K) (by show chn q.hd.K<=_;rw[hqh];exact Nat.le_refl _) (fun j hj => ?_)]
    ·rfl
    ·unfold Rd.clearBad
     apply decide_eq_false;show ¬ 2^q.hd.D<=q.tl.clear (2*j)*256+q.tl.clear (2*j+1)
     have e1:q.tl.clear (2*j)=l.getD (2*j) 0:=by rw[hq];show upN _ l n (2*j)=_;unfold upN;rw[if_pos (by omega)]
     have e2:q.tl.clear (2*j+1)=l.getD (2*j+1) 0:=by rw[hq];show upN _ l n (2*j+1)=_;unfold upN;rw[if_pos (by omega)]
     have:=h3 j hj
     rw[e1,e2,hqh];omega
   ·rw[hqh,if_pos h1]
  rw[e0]) (by
  show q.ctype≠iend
  rw[cq];decide)
 refine ⟨_,n4,⟨rfl,rfl,rfl,hql,⟨⟨iq.hd.W,iq.hd.H,iq.hd.D,iq.hd.K,iq.hd.L⟩,iq.raw,iq.clear,iq.colours⟩,?_,?_,?_,?_,?_,?_⟩⟩
 ·exact hqh
 ·show q.sp=sp;rw[hq,ha];exact t3
 ·show q.sc=true;rw[hq,ha];rfl
 ·show q.sd=false;rw[hq,ha];exact t2
 ·show q.dov=false;rw[hq,ha,ht];exact b.dov
 ·show q.tl.colours=C;rw[hq,ha];exact t7
def St.adv (s:St) (k v:Nat):St:={ s with number:=s.number+v*2^s.got,got:=s.got+k }
theorem adv_one (s:St) (k x:Nat):(s.adv k (x % 2^k)).oneBit (x / 2^k % 2)=s.adv (k+1) (x % 2^(k+1)):=by
 have e:x % 2^(k+1)=x % 2^k+2^k*(x / 2^k % 2):=Nat.mod_pow_succ;unfold St.oneBit St.adv;have e2:s.number+x % 2^k*2^s.got+x / 2^k % 2*2^(s.got+k)=s.number+x % 2^(k+1)*2^s.got:=by
  rw[e,Nat.add_mul,Nat.pow_add,Nat.add_assoc]
  congr 2
  rw[Nat.mul_comm (2^k) (x / 2^k % 2),Nat.mul_assoc,Nat.mul_comm (2^k) (2^s.got)]
 show ({ s with number:=s.number+x % 2^k*2^s.got+x / 2^k % 2*2^(s.got+k),got:=s.got+k+1 }:St)=_
 rw[e2];rfl
theorem adv_zero (s:St) (x:Nat):s.adv 0 (x % 2^0)=s:=by
 unfold St.adv;rw[Nat.pow_zero,Nat.mod_one,Nat.zero_mul];rfl
theorem bit_early (s:St) (r:Rw) (k x:Nat) (hw:s.got+k+1<s.wanted):bitP (s.adv k (x % 2^k)) r (x / 2^k % 2)=(s.adv (k+1) (x % 2^(k+1)),r,0):=by
 unfold bitP;rw[if_pos (by show s.got+k+1<s.wanted;exact hw),adv_one]
theorem bits_pre (s:St) (r:Rw) (x:Nat) (h0:s.skip=false) (hw:s.got+8<=s.wanted):∀ k,k<=7->bitsGo 8 0 s r x=bitsGo (8 - k) k (s.adv k (x % 2^k)) r x
 | 0,_=>by rw[adv_zero]
 | k+1,hk=>by
  rw[bits_pre s r x h0 hw k (by omega)];rw[show 8 - k=(8 - (k+1))+1 from by omega];show (if (s.adv k (x % 2^k)).skip then _ else _)=_
  rw[if_neg (by show ¬ s.skip=true;rw[h0];decide),bit_early s r k x (by omega),if_pos rfl]
theorem byte8 (s:St) (r:Rw) (x:Nat) (h0:s.skip=false) (hw:s.got+8<=s.wanted) (hx:x<256):bitsGo 8 0 s r x=if s.got+8<s.wanted then (s.adv 8 x,r,0) else numP (s.adv 8 x) r (s.number+x*2^s.got):=by
 have e8:x % 2^(7+1)=x:=Nat.mod_eq_of_lt (by omega);rw[bits_pre s r x h0 hw 7 (by omega)];show (if (s.adv 7 (x % 2^7)).skip then _ else _)=_
 rw[if_neg (by show ¬ s.skip=true;rw[h0];decide)];by_cases h:s.got+8<s.wanted
 ·rw[bit_early s r 7 x (by omega),if_pos rfl,if_pos h,e8];rfl
 ·rw[if_neg h]
  have eb:bitP (s.adv 7 (x % 2^7)) r (x / 2^7 % 2)=numP (s.adv 8 x) r (s.number+x*2^s.got):=by
   have en:(s.adv 7 (x % 2^7)).number+x / 2^7 % 2*2^(s.adv 7 (x % 2^7)).got=s.number+x*2^s.got:=by
    have:=congrArg St.number (adv_one s 7 x)
    rw[e8] at this;exact this
   unfold bitP;rw[if_neg (by show ¬ s.got+7+1<s.wanted;omega),adv_one,e8,en]
  rw[eb];by_cases hz:(numP (s.adv 8 x) r (s.number+x*2^s.got)).2.2=0
  ·rw[if_pos hz]
   show ((numP (s.adv 8 x) r (s.number+x*2^s.got)).1,(numP (s.adv 8 x) r (s.number+x*2^s.got)).2.1,0)=_
   rw[<- hz]
  ·rw[if_neg hz]
theorem adv_lt {s:St} {k v:Nat} (h:s.number<2^s.got) (hv:v<2^k):(s.adv k v).number<2^(s.got+k):=by
 show s.number+v*2^s.got<_
 have:=Nat.mul_le_mul_right (2^s.got) (show v+1<=2^k from hv)
 rw[Nat.add_mul,Nat.one_mul,<- Nat.pow_add] at this;rw[Nat.add_comm s.got k];omega
theorem bits_ok (s:St) (r:Rw) (x:Nat) (h0:s.skip=false) (hw:s.got+8<=s.wanted) (hx:x<256) (hw2:s.wanted<=32) (hp:s.part<=3) (hn:s.number<2^s.got) (hN:s.got+8=s.wanted->NumOk (s.adv 8 x) r (s.number+x*2^s.got)):∀ m,m<=8->BitsOk m (8 - m) (s.adv (8 - m) (x % 2^(8 - m))) r x
 | 0,_=>trivial
 | m+1,hm=>by
  obtain ⟨k,hk⟩:∃ k,k=8 - (m+1):=⟨_,rfl⟩;rw[<- hk];have e8:x % 2^(7+1)=x:=Nat.mod_eq_of_lt (by omega);have ih:=bits_ok s r x h0 hw hx hw2 hp hn hN m (by omega);rw[show 8 - m=k+1 from by omega] at ih;refine Or.inr ⟨⟨hp,by show s.got+k<32;omega,hw2,adv_lt hn (Nat.mod_lt _ (Nat.two_pow_pos k)),by omega,fun q => ?_⟩,fun _ => ?_⟩
  ·replace q:¬ s.got+k+1<s.wanted:=q
   have k7:k=7:=by omega
   subst k7;have en:(s.adv 7 (x % 2^7)).number+x / 2^7 % 2*2^(s.adv 7 (x % 2^7)).got=s.number+x*2^s.got:=by
    have:=congrArg St.number (adv_one s 7 x)
    rw[e8] at this;exact this
   rw[adv_one,e8,en];exact hN (by omega)
  ·by_cases q:s.got+k+1<s.wanted
   ·rw[bit_early s r k x q];exact ih
   ·have:m=0:=by omega
    subst this;trivial
theorem bits_ok8 (s:St) (r:Rw) (x:Nat) (h0:s.skip=false) (hw:s.got+8<=s.wanted) (hx:x<256) (hw2:s.wanted<=32) (hp:s.part<=3) (hn:s.number<2^s.got) (hN:s.got+8=s.wanted->NumOk (s.adv 8 x) r (s.number+x*2^s.got)):BitsOk 8 0 s r x:=by
 have:=bits_ok s r x h0 hw hx hw2 hp hn hN 8 (by omega)
 rwa [Nat.sub_self,adv_zero] at this
structure DatAt (s:Rd) (st:St) (r:Rw) (h:Hd) (j N:Nat):Prop where
 part:s.part=3
 ctype:s.ctype=idat
 inv:RdInv s
 sum:s.sum<4294967296
 taken:s.taken=j
 length:s.length=N
 st:s.st=st
 rw:s.rw=r
 hd:s.hd=h
theorem dat_step {s:Rd} {st st':St} {r r':Rw} {h:Hd} {j N x:Nat} (d:DatAt s st r h j N) (ht:takeB st r x=(st',r',0)) (hb:BitsOk 8 0 { st with skip:=false } r x) (h1:st.part≠10) (h2:st'.part≠10) (hx:x<256) (hj:j+1<N) (hN:N<100000):∃ s',Rn s [x] s'/\DatAt s' st' r' h (j+1) N:=by
 have c2:(s.summed x).ctype=idat:=d.ctype;have hk:(s.summed x).keep x=({ s.summed x with st:=st',rw:=r' },0):=by
  rw[keep_idat c2];unfold Rd.takeStream;have e:takeB (s.summed x).st (s.summed x).rw x=(st',r',0):=by
   show takeB s.st s.rw x=_
   rw[d.st,d.rw,ht]
  have e2:(s.summed x).streamed x={ s.summed x with st:=st',rw:=r' }:=by
   unfold Rd.streamed;rw[e]
  rw[e,if_neg (fun q=>q rfl),if_neg (by rw[decide_eq_false h2];simp),e2]
 have ok:TakeOk s x:=by
  have:=d.part;have:=d.inv
  refine ⟨by omega,fun q=>absurd d.part q,fun q=>by omega,d.sum,fun q=>by omega,d.inv.hd,fun _ => ?_,fun _ => ?_,d.inv.raw,d.inv.clear⟩
  ·refine ⟨fun q => ?_,fun q => ?_,fun q => ?_,fun _ => ?_,fun _ => ?_⟩
   ·rw[c2] at q;exact absurd q (by decide)
   ·rw[c2] at q;exact absurd q (by decide)
   ·rw[c2] at q;exact absurd q (by decide)
   ·show s.st.part≠10;rw[d.st];exact h1
   ·show BitsOk 8 0 { s.st with skip:=false } s.rw x;rw[d.st,d.rw];exact hb
  ·rw[hk];show s.taken<2147483648;rw[d.taken];omega
 refine ⟨{ ({ s.summed x with st:=st',rw:=r' }:Rd) with taken:=s.taken+1 },Rn.one ok ?_,?_⟩
 ·rw[take3 d.part]
  unfold Rd.takeData;rw[hk,if_neg (fun q=>q rfl)];unfold Rd.dataEnd;rw[if_neg (by show ¬ s.taken+1=s.length;rw[d.taken,d.length];omega)];rfl
 ·exact ⟨d.part,d.ctype,⟨⟨d.inv.hd.W,d.inv.hd.H,d.inv.hd.D,d.inv.hd.K,d.inv.hd.L⟩,d.inv.raw,d.inv.clear,d.inv.colours⟩,crcAdd_lt _ _ d.sum hx,by show s.taken+1=_;rw[d.taken],d.length,rfl,rfl,d.hd⟩
def stA:St:={ St.start with skip:=false,number:=8,got:=8 }
def stBq:St:=({ stA with number:=7432,got:=16,window:=256 }:St).enter 1 3
def stC:St:=({ ({ stBq with number:=1,got:=3 }:St) with last:=true,skip:=true }:St).enter 2 32
theorem takeA (r:Rw):takeB St.start r 8=(stA,r,0):=by
 unfold takeB;rw[byte8 _ r 8 rfl (by decide) (by omega),if_pos (by decide)];rfl
theorem takeBq (r:Rw):takeB stA r 29=(stBq,r,0):=by
 unfold takeB;rw[byte8 _ r 29 rfl (by decide) (by omega),if_neg (by decide)];unfold numP;rw[if_pos (by decide)];have e:({ stA with skip:=false }:St).number+29*2^({ stA with skip:=false }:St).got=7432:=by decide
 rw[e];unfold St.takeHead;rw[if_pos (by decide)];rfl
def st1:St:={ stBq with skip:=false,number:=1,got:=1 }
def st2:St:={ stBq with skip:=false,number:=1,got:=2 }
theorem bt0 (r:Rw):bitP { stBq with skip:=false } r (1 / 2^0 % 2)=(st1,r,0):=by unfold bitP;rw[if_pos (by decide)];rfl
theorem bt1 (r:Rw):bitP st1 r (1 / 2^1 % 2)=(st2,r,0):=by unfold bitP;rw[if_pos (by decide)];rfl
theorem bt2 (r:Rw):bitP st2 r (1 / 2^2 % 2)=(stC,r,0):=by
 unfold bitP;rw[if_neg (by decide)];have e:st2.number+1 / 2^2 % 2*2^st2.got=1:=by decide
 rw[e];unfold numP;rw[if_neg (by decide),if_pos (by decide)];rfl
theorem takeC (r:Rw):takeB stBq r 1=(stC,r,0):=by
 unfold takeB;show (if ({ stBq with skip:=false }:St).skip then _ else if (bitP { stBq with skip:=false } r (1 / 2^0 % 2)).2.2=0 then bitsGo 7 1 (bitP { stBq with skip:=false } r (1 / 2^0 % 2)).1 (bitP { stBq with skip:=false } r (1 / 2^0 % 2)).2.1 1 else bitP { stBq with skip:=false } r (1 / 2^0 % 2))=_
 rw[if_neg (by decide),bt0,if_pos rfl];show (if st1.skip then _ else if (bitP st1 r (1 / 2^1 % 2)).2.2=0 then bitsGo 6 2 (bitP st1 r (1 / 2^1 % 2)).1 (bitP st1 r (1 / 2^1 % 2)).2.1 1 else bitP st1 r (1 / 2^1 % 2))=_
 rw[if_neg (by decide),bt1,if_pos rfl];show (if st2.skip then _ else if (bitP st2 r (1 / 2^2 % 2)).2.2=0 then bitsGo 5 3 (bitP st2 r (1 / 2^2 % 2)).1 (bitP st2 r (1 / 2^2 % 2)).2.1 1 else bitP st2 r (1 / 2^2 % 2))=_
 rw[if_neg (by decide),bt2,if_pos rfl];show (if stC.skip then _ else _)=_
 rw[if_pos (by decide)]
theorem okA (r:Rw):BitsOk 8 0 { St.start with skip:=false } r 8:=
 bits_ok8 _ r 8 rfl (by decide) (by omega) (by decide) (by decide) (by decide) (fun q=>absurd q (by decide))
theorem okB (r:Rw):BitsOk 8 0 { stA with skip:=false } r 29:=
 bits_ok8 _ r 29 rfl (by decide) (by omega) (by decide) (by decide) (by decide) (fun _=>⟨by decide,fun _=>by decide,fun q=>absurd q (by decide),fun q=>absurd q (by decide),by decide,fun q=>absurd q (by decide),fun q=>absurd q (by decide),fun q=>absurd q (by decide),by decide⟩)
theorem okC (r:Rw):BitsOk 8 0 { stBq with skip:=false } r 1:=by
 refine Or.inr ⟨⟨by decide,by decide,by decide,by decide,by decide,fun q=>absurd (show _ from by decide) q⟩,fun _ => ?_⟩;rw[bt0];show BitsOk 7 1 st1 r 1
 refine Or.inr ⟨⟨by decide,by decide,by decide,by decide,by decide,fun q=>absurd (show _ from by decide) q⟩,fun _ => ?_⟩;rw[bt1];show BitsOk 6 2 st2 r 1
 refine Or.inr ⟨⟨by decide,by decide,by decide,by decide,by decide,fun _=>⟨by decide,fun q=>absurd q (by decide),fun _=>by decide,fun q=>absurd q (by decide),by decide,fun q=>absurd q (by decide),fun q=>absurd q (by decide),fun q=>absurd q (by decide),by decide⟩⟩,fun _ => ?_⟩;rw[bt2];exact Or.inl rfl
structure StD (s:St) (k n:Nat):Prop where
 le:k<=n
 p3:k<n->s.part=3/\s.wanted=8
 p9:k=n->s.part=9
 got:s.got=0
 number:s.number=0
 left:s.left=n - k
 count:s.count=k
 last:s.last=true
 sum:s.sum<4294967296
theorem size_num (n:Nat) (h:n<=65535):(n % 256+n / 256 % 256*256+(4294967295 - n) % 256*65536+(4294967295 - n) / 256 % 256*16777216)=n+65536*(65535 - n):=by omega
def stN (k v:Nat):St:={ stC with skip:=false,number:=v,got:=k }
theorem size_go (r:Rw) (n:Nat) (h0:0<n) (h:n<=65535):∃ s1 s2 s3 s4,takeB stC r (n % 256)=(s1,r,0)/\takeB s1 r (n / 256 % 256)=(s2,r,0)/\takeB s2 r ((4294967295 - n) % 256)=(s3,r,0)/\takeB s3 r ((4294967295 - n) / 256 % 256)=(s4,r,0)/\BitsOk 8 0 { stC with skip:=false } r (n % 256)/\BitsOk 8 0 { s1 with skip:=false } r (n / 256 % 256)/\BitsOk 8 0 { s2 with skip:=false } r ((4294967295 - n) % 256)/\BitsOk 8 0 { s3 with skip:=false } r ((4294967295 - n) / 256 % 256)/\s1.part=2/\s2.part=2/\s3.part=2/\StD s4 0 n:=by
 have e:=size_num n h;have a0:n % 256<256:=by omega
 have a1:n / 256 % 256<256:=by omega
 have a2:(4294967295 - n) % 256<256:=by omega
 have a3:(4294967295 - n) / 256 % 256<256:=by omega
 generalize n % 256=a at *;generalize n / 256 % 256=b at *;generalize (4294967295 - n) % 256=c at *;generalize (4294967295 - n) / 256 % 256=d at *;have t1:takeB stC r a=(stN 8 a,r,0):=by
  unfold takeB;rw[byte8 _ r a rfl (by decide) a0,if_pos (by decide)];show (({ stC with skip:=false,number:=0+a*2^0,got:=8 }:St),r,0)=_
  rw[Nat.pow_zero,Nat.mul_one,Nat.zero_add];rfl
 have t2:takeB (stN 8 a) r b=(stN 16 (a+b*256),r,0):=by
  unfold takeB;rw[byte8 _ r b rfl (by show 8+8<=32;omega) a1,if_pos (by show 8+8<32;omega)];rfl
 have t3:takeB (stN 16 (a+b*256)) r c=(stN 24 (a+b*256+c*65536),r,0):=by
  unfold takeB;rw[byte8 _ r c rfl (by show 16+8<=32;omega) a2,if_pos (by show 16+8<32;omega)];rfl
 have v1:(n+65536*(65535 - n)) % 65536=n:=by omega
 have v2:(n+65536*(65535 - n)) / 65536=65535 - n:=by omega
 have t4:takeB (stN 24 (a+b*256+c*65536)) r d=(({ stN 32 (n+65536*(65535 - n)) with left:=n }:St).enter 3 8,r,0):=by
  unfold takeB;rw[byte8 _ r d rfl (by show 24+8<=32;omega) a3,if_neg (by show ¬ 24+8<32;omega)];show numP (stN 32 (a+b*256+c*65536+d*2^24)) r (a+b*256+c*65536+d*2^24)=_
  rw[show (2:Nat)^24=16777216 from by decide,e];show (((stN 32 (n+65536*(65535 - n))).takeSize (n+65536*(65535 - n))).1,r,((stN 32 (n+65536*(65535 - n))).takeSize (n+65536*(65535 - n))).2)=_
  unfold St.takeSize;rw[v1,v2,if_pos (by omega),if_neg (by omega)]
 refine ⟨_,_,_,_,t1,t2,t3,t4,?_,?_,?_,?_,rfl,rfl,rfl,?_⟩
 ·exact bits_ok8 _ r a rfl (by decide) a0 (by decide) (by decide) (by decide) (fun q=>absurd q (by decide))
 ·exact bits_ok8 _ r b rfl (by show 8+8<=32;omega) a1 (by show 32<=32;omega) (by show 2<=3;omega) (by show a<2^8;omega) (fun q=>absurd q (by show ¬ 8+8=32;omega))
 ·exact bits_ok8 _ r c rfl (by show 16+8<=32;omega) a2 (by show 32<=32;omega) (by show 2<=3;omega) (by show a+b*256<2^16;omega) (fun q=>absurd q (by show ¬ 16+8=32;omega))
 ·refine bits_ok8 _ r d rfl (by show 24+8<=32;omega) a3 (by show 32<=32;omega) (by show 2<=3;omega) (by show a+b*256+c*65536<2^24;omega) (fun _ => ?_)
  refine ⟨by show 2<=3;omega,fun q=>absurd q (by show ¬ 2=0;omega),fun q=>absurd q (by show ¬ 2=1;omega),fun q=>absurd q (by show ¬ 2=3;omega),?_,fun q=>absurd q (by show ¬ 2=3;omega),fun q=>absurd q (by show ¬ 2=3;omega),fun q=>absurd q (by show ¬ 2=3;omega),by show 1<4294967296;omega⟩;show a+b*256+c*65536+d*2^24<4294967296
  rw[show (2:Nat)^24=16777216 from by decide,e];omega
 ·exact ⟨by omega,fun _=>⟨rfl,rfl⟩,fun q=>by omega,rfl,rfl,rfl,rfl,rfl,by show 1<4294967296;omega⟩
theorem data_step {s:St} {r r':Rw} {k n x:Nat} (h:StD s k n) (hk:k<n) (hn:n<=2078) (hx:x<256) (hr:r.take x=(r',0)) (hg:RwGood r):BitsOk 8 0 { s with skip:=false } r x/\∃ s',takeB s r x=(s',r',0)/\StD s' (k+1) n:=by
 obtain ⟨p1,p2⟩:=h.p3 hk;have hgot:=h.got;have hnum:=h.number;have hlf:=h.left;have e0:({ s with skip:=false }:St).number+x*2^({ s with skip:=false }:St).got=x:=by
  show s.number+x*2^s.got=x
  rw[hgot,hnum,Nat.pow_zero,Nat.mul_one,Nat.zero_add]
 refine ⟨bits_ok8 _ r x rfl (by show s.got+8<=s.wanted;omega) hx (by show s.wanted<=32;omega) (by show s.part<=3;omega) (by show s.number<2^s.got;rw[hgot,hnum];decide) (fun _ => ?_),?_⟩
 ·rw[e0]
  exact ⟨by show s.part<=3;omega,fun q=>by replace q:s.part=0:=q;omega,fun q=>by replace q:s.part=1:=q;omega,fun _=>hx,by omega,fun _=>by show 1<=s.left;omega,fun _=>by show s.left<=65535;omega,fun _=>hg,h.sum⟩
 ·obtain ⟨q,hq⟩:∃ q,q=({ s with skip:=false }:St).adv 8 x:=⟨_,rfl⟩
  have c1:q.count=k:=by rw[hq];exact h.count
  have c2:q.left=n - k:=by rw[hq];exact hlf
  have c3:q.last=true:=by rw[hq];exact h.last
  have c4:q.part=3:=by rw[hq];exact p1
  have et:takeB s r x=((q.give x).oneLess,r',0):=by
   unfold takeB;rw[byte8 _ r x rfl (by show s.got+8<=s.wanted;omega) hx,if_neg (by show ¬ s.got+8<s.wanted;omega),e0,<- hq];unfold numP;rw[if_neg (by omega),if_neg (by omega),if_neg (by omega)];have eg:giveP q r x=(q.give x,r',0):=by
    unfold giveP;rw[hr,if_pos rfl,if_neg (by omega)]
   unfold storedP;rw[eg,if_pos rfl]
  refine ⟨_,et,?_⟩;unfold St.oneLess;by_cases hl:(q.give x).left - 1=0
  ·rw[if_pos hl]
   replace hl:q.left - 1=0:=hl;unfold St.endBlock;rw[if_pos (by show q.last=true;exact c3)];exact ⟨by omega,fun _=>by omega,fun _=>rfl,rfl,rfl,by show q.left - 1=_;omega,by show q.count+1=_;omega,c3,adl_lt _ _⟩
  ·rw[if_neg hl]
   replace hl:¬ q.left - 1=0:=hl;exact ⟨by omega,fun _=>⟨rfl,rfl⟩,fun _=>by omega,rfl,rfl,by show q.left - 1=_;omega,by show q.count+1=_;omega,c3,adl_lt _ _⟩
