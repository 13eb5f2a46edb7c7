import Derived.Test.YtgooinallljbpaaGreatDoorSh00
namespace Px
theorem um{l n v k}(h:dW l n v k)(b:¬fZ l n v k):dW l n v (k+1):=by
 intro a d;by_cases c:a=k
 .subst c;exact b
 .exact h a O
theorem rS{l n v k}:dP l n v (k+1)↔dP l n v k\/ur l n v k:=by
 constructor
 .rintro⟨b,c,a⟩
  by_cases d:b=k
  .subst d;exact R a
  .exact L ⟨b,O,a⟩
 .rintro(⟨b,c,a⟩|a)
  .exact⟨b,O,a⟩
  .exact⟨k,O,a⟩
end Px
/-
 Plain mathematics,no Go: the stream,read item by item (a number of some bits,or a code): what comes next,what an item leads to.
-/
namespace Px
def yj:List Nat:=[16,17,18,0,8,7,9,6,10,5,11,4,12,3,13,2,14,1,15]
def cY(told:List Nat):Nat->List Nat
 | 0=>List.replicate 19 0
 | k+1=>(cY told k).set (yj.getD k 0) (told.getD k 0)
def aR(told:List Nat):List Nat:=cY told told.length
def bc:List Nat:=(List.range 288).map λs=>if s<144 then 8 else if s<256 then 9 else if s<280 then 7 else 8
def bL:List Nat:=List.replicate 32 5
def aK(s:Nat):Nat:=if s-257=28 then 0 else if s-257<8 then 0 else(s-257)/4-1
def bD(s:Nat):Nat:=if s-257=28 then 258 else if s-257<8 then 3+(s-257) else 3+(4+(s-257)%4)*2^((s-257)/4-1)
def aI(s:Nat):Nat:=if s<4 then 0 else s/2-1
def bx(s:Nat):Nat:=if s<4 then 1+s else 1+(2+s%2)*2^(s/2-1)
abbrev Ph:Type:=Unit ⊕ Unit ⊕ Unit ⊕ Nat ⊕ Unit ⊕ (Nat×Nat×Nat×List Nat) ⊕ (Nat×Nat×List Nat×List Nat) ⊕ (Nat×Nat×List Nat×List Nat×Nat) ⊕ (List Nat×List Nat) ⊕ (List Nat×List Nat×Nat×Nat) ⊕ (List Nat×List Nat×Nat) ⊕ (List Nat×List Nat×Nat×Nat×Nat) ⊕ Unit ⊕ Unit
abbrev Ph.head:Ph := .inl ()
abbrev Ph.block:Ph := .inr (.inl ())
abbrev Ph.ssize:Ph := .inr (.inr (.inl ()))
abbrev Ph.stored(x0:Nat):Ph := .inr (.inr (.inr (.inl x0)))
abbrev Ph.counts:Ph := .inr (.inr (.inr (.inr (.inl ()))))
abbrev Ph.short(x0:Nat)(x1:Nat)(x2:Nat)(x3:List Nat):Ph := .inr (.inr (.inr (.inr (.inr (.inl (x0,x1,x2,x3))))))
abbrev Ph.clen(x0:Nat)(x1:Nat)(x2:List Nat)(x3:List Nat):Ph := .inr (.inr (.inr (.inr (.inr (.inr (.inl (x0,x1,x2,x3)))))))
abbrev Ph.rep(x0:Nat)(x1:Nat)(x2:List Nat)(x3:List Nat)(x4:Nat):Ph := .inr (.inr (.inr (.inr (.inr (.inr (.inr (.inl (x0,x1,x2,x3,x4))))))))
abbrev Ph.sym(x0:List Nat)(x1:List Nat):Ph := .inr (.inr (.inr (.inr (.inr (.inr (.inr (.inr (.inl (x0,x1)))))))))
abbrev Ph.lrest(x0:List Nat)(x1:List Nat)(x2:Nat)(x3:Nat):Ph := .inr (.inr (.inr (.inr (.inr (.inr (.inr (.inr (.inr (.inl (x0,x1,x2,x3))))))))))
abbrev Ph.dist(x0:List Nat)(x1:List Nat)(x2:Nat):Ph := .inr (.inr (.inr (.inr (.inr (.inr (.inr (.inr (.inr (.inr (.inl (x0,x1,x2)))))))))))
abbrev Ph.drest(x0:List Nat)(x1:List Nat)(x2:Nat)(x3:Nat)(x4:Nat):Ph := .inr (.inr (.inr (.inr (.inr (.inr (.inr (.inr (.inr (.inr (.inr (.inl (x0,x1,x2,x3,x4))))))))))))
abbrev Ph.sum:Ph := .inr (.inr (.inr (.inr (.inr (.inr (.inr (.inr (.inr (.inr (.inr (.inr (.inl ()))))))))))))
abbrev Ph.fin:Ph := .inr (.inr (.inr (.inr (.inr (.inr (.inr (.inr (.inr (.inr (.inr (.inr (.inr ()))))))))))))
theorem Ph.cs{motive:Ph->Prop}(head:motive (Ph.head))(block:motive (Ph.block))(ssize:motive (Ph.ssize))(stored:∀(x0:Nat),motive (Ph.stored x0))(counts:motive (Ph.counts))(short:∀(x0:Nat) (x1:Nat) (x2:Nat) (x3:List Nat),motive (Ph.short x0 x1 x2 x3))(clen:∀(x0:Nat) (x1:Nat) (x2:List Nat) (x3:List Nat),motive (Ph.clen x0 x1 x2 x3))(rep:∀(x0:Nat) (x1:Nat) (x2:List Nat) (x3:List Nat) (x4:Nat),motive (Ph.rep x0 x1 x2 x3 x4))(sym:∀(x0:List Nat) (x1:List Nat),motive (Ph.sym x0 x1))(lrest:∀(x0:List Nat) (x1:List Nat) (x2:Nat) (x3:Nat),motive (Ph.lrest x0 x1 x2 x3))(dist:∀(x0:List Nat) (x1:List Nat) (x2:Nat),motive (Ph.dist x0 x1 x2))(drest:∀(x0:List Nat) (x1:List Nat) (x2:Nat) (x3:Nat) (x4:Nat),motive (Ph.drest x0 x1 x2 x3 x4))(sum:motive (Ph.sum))(fin:motive (Ph.fin))(x:Ph):motive x:=
 match x with
 | .inl _=>head
 | .inr (.inl _)=>block
 | .inr (.inr (.inl _))=>ssize
 | .inr (.inr (.inr (.inl x0)))=>stored x0
 | .inr (.inr (.inr (.inr (.inl _))))=>counts
 | .inr (.inr (.inr (.inr (.inr (.inl (x0,x1,x2,x3))))))=>short x0 x1 x2 x3
 | .inr (.inr (.inr (.inr (.inr (.inr (.inl (x0,x1,x2,x3)))))))=>clen x0 x1 x2 x3
 | .inr (.inr (.inr (.inr (.inr (.inr (.inr (.inl (x0,x1,x2,x3,x4))))))))=>rep x0 x1 x2 x3 x4
 | .inr (.inr (.inr (.inr (.inr (.inr (.inr (.inr (.inl (x0,x1)))))))))=>sym x0 x1
 | .inr (.inr (.inr (.inr (.inr (.inr (.inr (.inr (.inr (.inl (x0,x1,x2,x3))))))))))=>lrest x0 x1 x2 x3
 | .inr (.inr (.inr (.inr (.inr (.inr (.inr (.inr (.inr (.inr (.inl (x0,x1,x2)))))))))))=>dist x0 x1 x2
 | .inr (.inr (.inr (.inr (.inr (.inr (.inr (.inr (.inr (.inr (.inr (.inl (x0,x1,x2,x3,x4))))))))))))=>drest x0 x1 x2 x3 x4
 | .inr (.inr (.inr (.inr (.inr (.inr (.inr (.inr (.inr (.inr (.inr (.inr (.inl _))))))))))))=>sum
 | .inr (.inr (.inr (.inr (.inr (.inr (.inr (.inr (.inr (.inr (.inr (.inr (.inr _))))))))))))=>fin
structure St where
 ph:Ph
 window:Nat
 last:Bool
 o:List One
def St.start:St:=⟨.head,0,false,[]⟩
abbrev Item:Type:=Nat ⊕ (List Nat) ⊕ Unit
abbrev Item.num(x0:Nat):Item := .inl x0
abbrev Item.code(x0:List Nat):Item := .inr (.inl x0)
abbrev Item.none:Item := .inr (.inr ())
theorem Item.cs{motive:Item->Prop}(num:∀(x0:Nat),motive (Item.num x0))(code:∀(x0:List Nat),motive (Item.code x0))(none:motive (Item.none))(x:Item):motive x:=
 match x with
 | .inl x0=>num x0
 | .inr (.inl x0)=>code x0
 | .inr (.inr _)=>none
def cd(s:Nat):Nat:=if s=16 then 2 else if s=17 then 3 else 7
def item:Ph->Item
 | .inl _ => .num 16
 | .inr (.inl _) => .num 3
 | .inr (.inr (.inl _)) => .num 32
 | .inr (.inr (.inr (.inl _))) => .num 8
 | .inr (.inr (.inr (.inr (.inl _)))) => .num 14
 | .inr (.inr (.inr (.inr (.inr (.inl (_,_,_,_)))))) => .num 3
 | .inr (.inr (.inr (.inr (.inr (.inr (.inl (_,_,sl,_))))))) => .code sl
 | .inr (.inr (.inr (.inr (.inr (.inr (.inr (.inl (_,_,_,_,s)))))))) => .num (cd s)
 | .inr (.inr (.inr (.inr (.inr (.inr (.inr (.inr (.inl (lit,_))))))))) => .code lit
 | .inr (.inr (.inr (.inr (.inr (.inr (.inr (.inr (.inr (.inl (_,_,_,bits)))))))))) => .num bits
 | .inr (.inr (.inr (.inr (.inr (.inr (.inr (.inr (.inr (.inr (.inl (_,dist,_))))))))))) => .code dist
 | .inr (.inr (.inr (.inr (.inr (.inr (.inr (.inr (.inr (.inr (.inr (.inl (_,_,_,_,bits)))))))))))) => .num bits
 | .inr (.inr (.inr (.inr (.inr (.inr (.inr (.inr (.inr (.inr (.inr (.inr (.inl _)))))))))))) => .num 32
 | .inr (.inr (.inr (.inr (.inr (.inr (.inr (.inr (.inr (.inr (.inr (.inr (.inr _)))))))))))) => .none
abbrev Res:Type:=Nat ⊕ (St×Bool)
abbrev Res.err(x0:Nat):Res := .inl x0
abbrev Res.ok(x0:St)(x1:Bool):Res := .inr (x0,x1)
theorem Res.cs{motive:Res->Prop}(err:∀(x0:Nat),motive (Res.err x0))(ok:∀(x0:St) (x1:Bool),motive (Res.ok x0 x1))(x:Res):motive x:=
 match x with
 | .inl x0=>err x0
 | .inr (x0,x1)=>ok x0 x1
def St.to(s:St)(p:Ph):Res := .ok {s with ph:=p} false
def St.endBlock(s:St):Res:=if s.last=true then .ok {s with ph := .sum} true else .ok {s with ph := .block} false
def St.give(s:St)(v p:Nat):St:={s with o:=s.o++[(v,p)]}
def aV(p back:Nat):Nat->List One->List One
 | 0,o=>o
 | n+1,o=>aV p back n (o++[(vAt o (o.length-back),p)])
def St.copy(s:St)(lit dist:List Nat)(len back p:Nat):Res:=
 if s.o.length<back\/s.window<back then .err 14 else .ok {s with ph := .sym lit dist,o:=aV p back len s.o} false
def St.lens(s:St)(nl nd:Nat)(sl out:List Nat):Res:=
 if out.length<nl+nd then s.to (.clen nl nd sl out)
 else if cS (out.take nl) true false=false\/cS (out.drop nl) true true=false\/out.getD 256 0=0 then .err 12
 else s.to (.sym (out.take nl) (out.drop nl))
def bn(l:List One):Nat:=l.foldl (λa x=>(a+x.1)%65521) 1
def bA(l:List One):Nat:=(l.foldl (λ(a:Nat×Nat) x=>((a.1+x.1)%65521,(a.2+(a.1+x.1)%65521)%65521)) (1,0)).2
def eB(v:Nat):Nat:=v%256*16777216+v/256%256*65536+v/65536%256*256+v/16777216%256
def br(s:St)(v p:Nat):Res:=
 match s.ph with
 | .inl _=>if v%256%16≠8\/7<v%256/16\/(256*(v%256)+v/256)%31≠0\/v/256/32%2=1 then .err 10 else .ok {s with ph := .block,window:=2^(8+v%256/16)} false
 | .inr (.inl _)=>
  let s1:={s with last:=decide (v%2=1)}
  if v/2=0 then .ok {s1 with ph := .ssize} true else if v/2=1 then s1.to (.sym bc bL) else if v/2=2 then s1.to .counts else .err 11
 | .inr (.inr (.inl _))=>if v%65536+v/65536≠65535 then .err 11 else if v%65536=0 then s.endBlock else s.to (.stored (v%65536))
 | .inr (.inr (.inr (.inl left)))=>if left<=1 then(s.give v p).endBlock else(s.give v p).to (.stored (left-1))
 | .inr (.inr (.inr (.inr (.inl _))))=>if 286<v%32+257\/30<v/32%32+1 then .err 12 else s.to (.short (v%32+257) (v/32%32+1) (v/1024+4) [])
 | .inr (.inr (.inr (.inr (.inr (.inl (nl,nd,ns,told))))))=>
  if told.length+1<ns then s.to (.short nl nd ns (told++[v]))
  else if cS (aR (told++[v])) false false=false then .err 12 else s.to (.clen nl nd (aR (told++[v])) [])
 | .inr (.inr (.inr (.inr (.inr (.inr (.inr (.inl (nl,nd,sl,out,c))))))))=>
  let k:=if c=18 then v+11 else v+3
  if nl+nd<out.length+k then .err 12 else s.lens nl nd sl (out++List.replicate k (if c=16 then out.getD (out.length-1) 0 else 0))
 | .inr (.inr (.inr (.inr (.inr (.inr (.inr (.inr (.inr (.inl (lit,dist,base,_))))))))))=>s.to (.dist lit dist (base+v))
 | .inr (.inr (.inr (.inr (.inr (.inr (.inr (.inr (.inr (.inr (.inr (.inl (lit,dist,len,base,_))))))))))))=>s.copy lit dist len (base+v) p
 | .inr (.inr (.inr (.inr (.inr (.inr (.inr (.inr (.inr (.inr (.inr (.inr (.inl _))))))))))))=>if eB v≠65536*bA s.o+bn s.o then .err 19 else s.to .fin
 | _ => .err 0
def cQ(s:St)(c p:Nat):Res:=
 match s.ph with
 | .inr (.inr (.inr (.inr (.inr (.inr (.inl (nl,nd,sl,out)))))))=>if c<16 then s.lens nl nd sl (out++[c]) else if c=16/\out=[] then .err 12 else s.to (.rep nl nd sl out c)
 | .inr (.inr (.inr (.inr (.inr (.inr (.inr (.inr (.inl (lit,dist)))))))))=>
  if c<256 then(s.give c p).to (.sym lit dist) else if c=256 then s.endBlock else if 285<c then .err 13
  else if aK c=0 then s.to (.dist lit dist (bD c)) else s.to (.lrest lit dist (bD c) (aK c))
 | .inr (.inr (.inr (.inr (.inr (.inr (.inr (.inr (.inr (.inr (.inl (lit,dist,len)))))))))))=>
  if 29<c then .err 13 else if aI c=0 then s.copy lit dist len (bx c) p else s.to (.drest lit dist len (bx c) (aI c))
 | _ => .err 0
def aB(z:List One)(a:Nat):Nat:=pAt z ((a-1)/8)
def nt(skip:Bool)(a:Nat):Nat:=if skip=true then up8 a else a
def bH(z:List One)(a:Nat)(l:List Nat)(c n:Nat):Prop:=
 1<=n/\a+n<=8*z.length/\cP z a l (n-1)/\c<l.length/\dW l n (msb z a n) c/\fZ l n (msb z a n) c
def ld(z:List One)(a:Nat)(l:List Nat)(n:Nat):Prop:=
 1<=n/\a+n<=8*z.length/\cP z a l (n-1)/\dW l n (msb z a n) l.length/\¬dP l n (msb z a n) l.length
def Step(z:List One)(a:Nat)(s:St)(b:Nat)(t:St):Prop:=
 (∃n k,item s.ph=.num n/\a+n<=8*z.length/\br s (ab z a n) (aB z (a+n))=.ok t k/\b=nt k (a+n)) \/
 (∃l c n k,item s.ph=.code l/\bH z a l c n/\cQ s c (aB z (a+n))=.ok t k/\b=nt k (a+n))
theorem Step.num{z a s n s' k}(b:item s.ph=.num n)(c:a+n<=8*z.length)(d:br s (ab z a n) (aB z (a+n))=.ok s' k):Step z a s (nt k (a+n)) s':=L ⟨n,k,b,c,d,rfl⟩
theorem Step.sym{z a s l c n s' k}(b:item s.ph=.code l)(d:bH z a l c n)(e:cQ s c (aB z (a+n))=.ok s' k):Step z a s (nt k (a+n)) s':=R ⟨l,c,n,k,b,d,e,rfl⟩
theorem Step.cs{z:List One}{a:Nat}{s:St}{motive:∀b t,Step z a s b t->Prop}(num:∀{n:Nat} {s':St} {k:Bool} (hi:item s.ph=.num n) (hn:a+n<=8*z.length) (hr:br s (ab z a n) (aB z (a+n))=.ok s' k),motive (nt k (a+n)) s' (Step.num hi hn hr))(sym:∀{l:List Nat} {c n:Nat} {s':St} {k:Bool} (hi:item s.ph=.code l) (hg:bH z a l c n) (hr:cQ s c (aB z (a+n))=.ok s' k),motive (nt k (a+n)) s' (Step.sym hi hg hr)){b:Nat}{t:St}(h:Step z a s b t):motive b t h:=by
 rcases h with⟨n,k,hi,hn,hr,rfl⟩|⟨l,c,n,k,hi,hg,hr,rfl⟩
 .exact num hi hn hr
 .exact sym hi hg hr
def OF(z:List One)(a:Nat)(s:St):Nat->Nat->St->Prop
 | 0,b,t=>b=a/\t=s
 | m+1,c,u=>∃b t,OF z a s m b t/\Step z b t c u
def Run(z:List One)(a:Nat)(s:St)(b:Nat)(t:St):Prop:=∃m,OF z a s m b t
theorem Run.refl{z}a s:Run z a s a s:=⟨0,rfl,rfl⟩
theorem Run.tail{z a s b t c u}(h:Run z a s b t)(k:Step z b t c u):Run z a s c u:=by
 obtain⟨d,h⟩:=h;exact⟨d+1,b,t,h,k⟩
theorem Run.cs{z:List One}{a:Nat}{s:St}{motive:∀b t,Run z a s b t->Prop}(refl:motive a s (Run.refl a s))(tail:∀{b:Nat} {t:St} {c:Nat} {u:St} (h:Run z a s b t) (k:Step z b t c u),motive b t h->motive c u (Run.tail h k)){b:Nat}{t:St}(h:Run z a s b t):motive b t h:=by
 obtain⟨m,q⟩:=h
 induction m generalizing b t with
 | zero=>obtain⟨rfl,rfl⟩:=q;exact refl
 | succ m ih=>
  obtain⟨b',t',h1,h2⟩:=q;exact tail ⟨m,h1⟩ h2 (ih h1)
theorem Run.ind{z a s}{P:Nat->St->Prop}(f:P a s)(g:∀{b t c u},Run z a s b t->Step z b t c u->P b t->P c u){b t}(h:Run z a s b t):P b t:=by
 obtain⟨d,h⟩:=h
 induction d generalizing b t with
 | zero=>obtain⟨rfl,rfl⟩:=h;exact f
 | succ d i=>
  obtain⟨k,l,e,j⟩:=h;exact g ⟨d,e⟩ j (i e)
theorem Run.trans{z a b c s t d}(h:Run z a s b t)(k:Run z b t c d):Run z a s c d:=
 Run.ind (P:=λc d=>Run z a s c d) h (λ_ e f=>f.tail e) k
theorem Run.one{z a b s t}(k:Step z a s b t):Run z a s b t := .tail (.refl _ _) k
def Fails(z:List One)(a:Nat)(s:St)(e b:Nat):Prop:=
 (∃n,item s.ph=.num n/\a+n<=8*z.length/\br s (ab z a n) (aB z (a+n))=.err e/\b=a+n) \/
 (∃l c n,item s.ph=.code l/\bH z a l c n/\cQ s c (aB z (a+n))=.err e/\b=a+n) \/
 (∃l n,item s.ph=.code l/\ld z a l n/\e=13/\b=a+n)
theorem Fails.num{z a s n e}(b:item s.ph=.num n)(c:a+n<=8*z.length)(d:br s (ab z a n) (aB z (a+n))=.err e):Fails z a s e (a+n):=L ⟨n,b,c,d,rfl⟩
theorem Fails.sym{z a s l c n e}(b:item s.ph=.code l)(d:bH z a l c n)(f:cQ s c (aB z (a+n))=.err e):Fails z a s e (a+n):=R (L ⟨l,c,n,b,d,f,rfl⟩)
theorem Fails.bad{z a s l n}(b:item s.ph=.code l)(c:ld z a l n):Fails z a s 13 (a+n):=R (R ⟨l,n,b,c,rfl,rfl⟩)
def gn(z:List One)(a:Nat)(s:St):Prop:=(∃n,item s.ph=.num n/\8*z.length<a+n)\/(∃l,item s.ph=.code l/\cP z a l (8*z.length-a))
theorem gn.num{z a s n}(b:item s.ph=.num n)(c:8*z.length<a+n):gn z a s:=L ⟨n,b,c⟩
theorem gn.sym{z a s l}(b:item s.ph=.code l)(c:cP z a l (8*z.length-a)):gn z a s:=R ⟨l,b,c⟩
theorem Fails.cs{z:List One}{a:Nat}{s:St}{motive:∀e b,Fails z a s e b->Prop}(num:∀{n e:Nat} (hi:item s.ph=.num n) (hn:a+n<=8*z.length) (hr:br s (ab z a n) (aB z (a+n))=.err e),motive e (a+n) (Fails.num hi hn hr))(sym:∀{l:List Nat} {c n e:Nat} (hi:item s.ph=.code l) (hg:bH z a l c n) (hr:cQ s c (aB z (a+n))=.err e),motive e (a+n) (Fails.sym hi hg hr))(bad:∀{l:List Nat} {n:Nat} (hi:item s.ph=.code l) (hg:ld z a l n),motive 13 (a+n) (Fails.bad hi hg)){e b:Nat}(h:Fails z a s e b):motive e b h:=by
 rcases h with⟨n,hi,hn,hr,rfl⟩|⟨l,c,n,hi,hg,hr,rfl⟩|⟨l,n,hi,hg,rfl,rfl⟩
 .exact num hi hn hr
 .exact sym hi hg hr
 .exact bad hi hg
theorem gn.cs{z:List One}{a:Nat}{s:St}{motive:gn z a s->Prop}(num:∀{n:Nat} (hi:item s.ph=.num n) (hn:8*z.length<a+n),motive (gn.num hi hn))(sym:∀{l:List Nat} (hi:item s.ph=.code l) (hg:cP z a l (8*z.length-a)),motive (gn.sym hi hg))(h:gn z a s):motive h:=by
 rcases h with⟨n,hi,hn⟩|⟨l,hi,hg⟩
 .exact num hi hn
 .exact sym hi hg
def Ends(z:List One)(a0:Nat)(s0:St)(a:Nat)(r:Res)(o:List One):Prop:=
 ∃a1 s1,Run z a0 s0 a1 s1/\s1.o=o/\((∃n,item s1.ph=.num n/\a1+n=a/\a<=8*z.length/\br s1 (ab z a1 n) (aB z a)=r)\/(∃l c n,item s1.ph=.code l/\bH z a1 l c n/\a1+n=a/\cQ s1 c (aB z a)=r))
theorem Ends.ok{z a0 a s0 s k o}(h:Ends z a0 s0 a (.ok s k) o):Run z a0 s0 (nt k a) s:=by
 obtain⟨i,j,d,_,⟨e,b,rfl,f,c⟩|⟨l,m,e,b,g,rfl,c⟩⟩:=h
 .exact .tail d (.num b f c)
 .exact .tail d (.sym b g c)
def Stop(z:List One)(a0:Nat)(s0:St)(o:List One)(t:Bt):Prop:=
 (∃a1 s1,Run z a0 s0 a1 s1/\gn z a1 s1/\s1.o=o/\t=⟨8*z.length,true,0⟩) \/
 (∃a1 s1 e a,Run z a0 s0 a1 s1/\Fails z a1 s1 e a/\s1.o=o/\e≠0/\a<=8*z.length/\t=⟨a,false,e⟩)
theorem Stop.cut{z a0 s0 o}a1 s1(h:Run z a0 s0 a1 s1)(c:gn z a1 s1)(a:s1.o=o):Stop z a0 s0 o ⟨8*z.length,true,0⟩:=L ⟨a1,s1,h,c,a,rfl⟩
theorem Stop.err{z a0 s0 o}a1 s1 e a(h:Run z a0 s0 a1 s1)(c:Fails z a1 s1 e a)(b:s1.o=o)(d:e≠0)(f:a<=8*z.length):Stop z a0 s0 o ⟨a,false,e⟩:=R ⟨a1,s1,e,a,h,c,b,d,f,rfl⟩
theorem Stop.cs{z:List One}{a0:Nat}{s0:St}{o:List One}{motive:∀t,Stop z a0 s0 o t->Prop}(cut:∀(a1:Nat) (s1:St) (h:Run z a0 s0 a1 s1) (c:gn z a1 s1) (ho:s1.o=o),motive ⟨8*z.length,true,0⟩ (Stop.cut a1 s1 h c ho))(err:∀(a1:Nat) (s1:St) (e a:Nat) (h:Run z a0 s0 a1 s1) (c:Fails z a1 s1 e a) (ho:s1.o=o) (he:e≠0) (ha:a<=8*z.length),motive ⟨a,false,e⟩ (Stop.err a1 s1 e a h c ho he ha)){t:Bt}(h:Stop z a0 s0 o t):motive t h:=by
 rcases h with⟨a1,s1,h,c,ho,rfl⟩|⟨a1,s1,e,a,h,c,ho,he,ha,rfl⟩
 .exact cut a1 s1 h c ho
 .exact err a1 s1 e a h c ho he ha
theorem Stop.off{z a0 s0 o t}(h:Stop z a0 s0 o t):t.on=false:=by
 rcases h with⟨_,_,_,_,_,rfl⟩|⟨_,_,b,_,_,_,_,a,_,rfl⟩
 .rfl
 .unfold Bt.on;simp[a]
theorem Stop.after{z a0 a s0 s o t}(r:Run z a0 s0 a s)(h:Stop z a s o t):Stop z a0 s0 o t:=by
 rcases h with⟨b,c,h,d,e,rfl⟩|⟨b,c,f,a,h,d,e,g,i,rfl⟩
 .exact .cut b c (r.trans h) d e
 .exact .err b c f a (r.trans h) d e g i
theorem Ends.stop{z a0 a e s0 o}(h:Ends z a0 s0 a (.err e) o)(d:e≠0)(f:a<=8*z.length):Stop z a0 s0 o ⟨a,false,e⟩:=by
 obtain⟨g,i,j,k,⟨l,b,rfl,m,c⟩|⟨p,q,l,b,n,rfl,c⟩⟩:=h
 .exact .err g i e _ j (.num b m c) k d f
 .exact .err g i e _ j (.sym b n c) k d f
theorem Ends.after{z a0 a1 a s0 s1 r o}(h:Run z a0 s0 a1 s1)(k:Ends z a1 s1 a r o):Ends z a0 s0 a r o:=by
 obtain⟨b,c,d,e,f⟩:=k;exact⟨b,c,h.trans d,e,f⟩
theorem Cp s(h:s<=29):aI s<=13:=by unfold aI;split<;>omega
theorem Cq s(h:s<=29):bx s<=24577:=by
 unfold bx;split
 .omega
 .have a:s/2-1<=13:=O
  have b:(2+s%2)*2^(s/2-1)<=3*2^13:=XF O (XH O a);omega
abbrev clS(s:St)(nl nd:Nat)(sl out:List Nat):St:={s with ph := .clen nl nd sl out}
def kK(z:List One)(a0:Nat)(s:St)(nl nd:Nat)(sl:List Nat)(a:Nat)(out:List Nat):Prop:=
 (out.length<nl+nd/\Run z a0 (clS s nl nd sl []) a (clS s nl nd sl out))\/(out.length=nl+nd/\Ends z a0 (clS s nl nd sl []) a (s.lens nl nd sl out) s.o)
theorem kK.of_ends{z a0 s nl nd sl a out}(h:Ends z a0 (clS s nl nd sl []) a (s.lens nl nd sl out) s.o)(e:out.length<=nl+nd):kK z a0 s nl nd sl a out:=by
 by_cases c:out.length=nl+nd
 .exact R ⟨c,h⟩
 .have b:out.length<nl+nd:=O
  refine L ⟨b,?_⟩;have d:s.lens nl nd sl out=.ok (clS s nl nd sl out) false:=by unfold St.lens;rw[I b];rfl
  rw[d] at h;exact h.ok
theorem kK.lit{z a0 s nl nd sl a out c n}(h:Run z a0 (clS s nl nd sl []) a (clS s nl nd sl out))(e:out.length<nl+nd)(b:bH z a sl c n)(d:c<16):kK z a0 s nl nd sl (a+n) (out++[c]):=by
 refine kK.of_ends ⟨a,_,h,rfl,R ⟨sl,c,n,rfl,b,rfl,?_⟩⟩ Xf;show(if c<16 then _ else _)=_
 rw[I d];rfl
theorem tZ{z a s nl nd sl out c n}(b:bH z a sl c n)(e:16<=c)(d:¬(c=16/\out=[])):Step z a (clS s nl nd sl out) (a+n) {s with ph := .rep nl nd sl out c}:=by
 refine Step.sym (k:=false) (s:=clS s nl nd sl out) (l:=sl) (c:=c) (n:=n) rfl b ?_;show(if c<16 then _ else if c=16/\out=[] then _ else _)=_
 rw[N,N d];rfl
def ud(c v:Nat):Nat:=if c=18 then v+11 else v+3
def KF(c:Nat)(out:List Nat):Nat:=if c=16 then out.getD (out.length-1) 0 else 0
theorem kK.rep{z a0 s nl nd sl a out c}(h:Run z a0 (clS s nl nd sl []) a {s with ph := .rep nl nd sl out c})(b:a+cd c<=8*z.length)(d:out.length+ud c (ab z a (cd c))<=nl+nd):kK z a0 s nl nd sl (a+cd c) (out++List.replicate (ud c (ab z a (cd c))) (KF c out)):=by
 refine kK.of_ends ⟨a,_,h,rfl,L ⟨cd c,rfl,rfl,b,?_⟩⟩ (by simp;exact d);show(if nl+nd<out.length+ud c _ then _ else _)=_
 rw[N];rfl
theorem yb{z a}{s:St}{nl nd sl out c}(b:a+cd c<=8*z.length)(d:nl+nd<out.length+ud c (ab z a (cd c))):Fails z a {s with ph := .rep nl nd sl out c} 12 (a+cd c):=by
 refine Fails.num rfl b ?_;show(if nl+nd<out.length+ud c _ then _ else _)=_
 rw[I d]
theorem Fg{z a s nl nd sl n}(b:bH z a sl 16 n):Fails z a (clS s nl nd sl []) 12 (a+n):=by
 refine Fails.sym rfl b ?_;simp[cQ]
theorem DC a(h:a<19):yj.getD a 0<19:=by
 have:(List.range 19).all (λa=>decide (yj.getD a 0<19))=true:=Xh
 exact Yr (Za.1 this a (Yi.2 h))
theorem lk told k:(cY told k).length=19:=by
 induction k with
 | zero=>simp[cY]
 | succ k a=>rw[cY,List.length_set];exact a
theorem BO told(h:∀b∈told,b<8)c:∀b∈cY told c,b<8:=by
 induction c with
 | zero=>intro b a;rw[cY] at a;rw[(Yt.1 a).2];omega
 | succ c d=>
  intro b a;rw[cY] at a;rcases List.mem_or_eq_of_mem_set a with a|a
  .exact d b a
  .subst a
   rw[G];cases e:told[c]? with
   | none=>simp
   | some f=>exact h f (X8 e)
theorem x7 told x a(c:a<=told.length):cY (told++[x]) a=cY told a:=by
 induction a with
 | zero=>rfl
 | succ a b=>
  rw[cY,cY,b O]
  congr 1
  rw[G,G,XV O]
theorem pN told x:aR (told++[x])=(aR told).set (yj.getD told.length 0) x:=by
 unfold aR;rw[Xv];show cY (told++[x]) (told.length+1)=_
 rw[cY,x7 told x _ (E _)]
 congr 1
 rw[G,XP (E _)];simp
theorem eD l(h:∀a∈l,a<8)(c:l.length=19):bS l:=⟨λa b=>by have:=h a b;omega,O⟩
abbrev shS(s:St)(nl nd ns:Nat)(told:List Nat):St:={s with ph := .short nl nd ns told}
abbrev coS(s:St):St:={s with ph := .counts}
theorem Aw{z a s}(b:a+14<=8*z.length)(f:¬286<ab z a 5+257)(g:¬30<ab z (a+5) 5+1):Step z a (coS s) (a+14) (shS s (ab z a 5+257) (ab z (a+5) 5+1) (ab z (a+10) 4+4) []):=by
 have h:ab z a 14=ab z a 5+32*ab z (a+5) 5+1024*ab z (a+10) 4:=by
  have i:ab z a 14=ab z a 5+2^5*ab z (a+5) 9:=cT z a 5 9;have j:ab z (a+5) 9=ab z (a+5) 5+2^5*ab z (a+10) 4:=cT z (a+5) 5 4;omega
 refine Step.num (k:=false) (n:=14) rfl b ?_;show(if 286<ab z a 14%32+257\/30<ab z a 14/32%32+1 then _ else _)=_
 have c:ab z a 14%32=ab z a 5:=O;have d:ab z a 14/32%32=ab z (a+5) 5:=O;have e:ab z a 14/1024=ab z (a+10) 4:=O;rw[c,d,e,N];rfl
theorem Ax{z a s}(b:a+14<=8*z.length)(h:286<ab z a 5+257\/30<ab z (a+5) 5+1):Fails z a (coS s) 12 (a+14):=by
 have e:ab z a 14=ab z a 5+32*ab z (a+5) 5+1024*ab z (a+10) 4:=by
  have f:ab z a 14=ab z a 5+2^5*ab z (a+5) 9:=cT z a 5 9;have g:ab z (a+5) 9=ab z (a+5) 5+2^5*ab z (a+10) 4:=cT z (a+5) 5 4;omega
 have i:=dF z a 5;have j:=dF z (a+5) 5;refine Fails.num (n:=14) rfl b ?_;show(if 286<ab z a 14%32+257\/30<ab z a 14/32%32+1 then _ else _)=_
 have c:ab z a 14%32=ab z a 5:=O;have d:ab z a 14/32%32=ab z (a+5) 5:=O;rw[c,d,I h]
def Gr(z:List One)(a0:Nat)(s:St)(nl nd ns:Nat)(a:Nat)(told:List Nat):Prop:=
 (told.length<ns/\Run z a0 (coS s) a (shS s nl nd ns told))\/(told.length=ns/\Ends z a0 (coS s) a (if cS (aR told) false false=false then .err 12 else s.to (.clen nl nd (aR told) [])) s.o)
theorem Gr.next{z a0 s nl nd ns a told}(h:Run z a0 (coS s) a (shS s nl nd ns told))(d:told.length<ns)(c:a+3<=8*z.length):Gr z a0 s nl nd ns (a+3) (told++[ab z a 3]):=by
 by_cases b:told.length+1<ns
 .refine L ⟨by simp;exact b,.tail h (.num (k:=false) (n:=3) rfl c ?_)⟩
  show(if told.length+1<ns then _ else _)=_
  rw[I b];rfl
 .refine R ⟨Xf,a,_,h,rfl,L ⟨3,rfl,rfl,c,?_⟩⟩
  show(if told.length+1<ns then _ else _)=_
  rw[N b];rfl
theorem K1{z a}(h:a+14<=8*z.length):(((⟨a,false,0⟩:Bt).num z 5).num z 5).num z 4=⟨a+14,false,0⟩/\((⟨a,false,0⟩:Bt).num z 5)=⟨a+5,false,0⟩/\(((⟨a,false,0⟩:Bt).num z 5).num z 5)=⟨a+10,false,0⟩:=by
 have b:((⟨a,false,0⟩:Bt).num z 5)=⟨a+5,false,0⟩:=by unfold Bt.num;rw[N Xi,I (by show a+5<=_;omega)]
 have c:((⟨a+5,false,0⟩:Bt).num z 5)=⟨a+10,false,0⟩:=by unfold Bt.num;rw[N Xi,I (by show a+5+5<=_;omega)]
 have d:((⟨a+10,false,0⟩:Bt).num z 4)=⟨a+14,false,0⟩:=by unfold Bt.num;rw[N Xi,I (by show a+10+4<=_;omega)]
 rw[b,c,d];exact⟨rfl,rfl,rfl⟩
theorem cy{z a n}(h:8*z.length<a+n):((⟨a,false,0⟩:Bt).num z n)=⟨8*z.length,true,0⟩:=by
 unfold Bt.num;rw[N Xi,N (by show ¬a+n<=_;omega)]
theorem bW{z a n}(h:a+n<=8*z.length):((⟨a,false,0⟩:Bt).num z n)=⟨a+n,false,0⟩:=by
 unfold Bt.num;rw[N Xi,I h]
theorem fY{z}{t:Bt}{n}(h:t.cut=true):t.num z n=t:=by unfold Bt.num;rw[I h]
theorem If{z a}(h:¬a+14<=8*z.length):(((⟨a,false,0⟩:Bt).num z 5).num z 5).num z 4=⟨8*z.length,true,0⟩:=by
 by_cases b:a+5<=8*z.length
 .rw[bW b]
  by_cases c:a+5+5<=8*z.length
  .rw[bW c,cy O]
  .rw[cy O,fY rfl]
 .rw[cy O,fY rfl,fY rfl]
abbrev ssS(s:St):St:={s with ph := .ssize}
def ebS(s:St)(out:List One):Res:=St.endBlock {s with o:=out}
def AT(z:List One)(a0:Nat)(s:St)(n i a:Nat)(out:List One):Prop:=
 (i<n/\Run z a0 (ssS s) a {s with ph := .stored (n-i),o:=out})\/(i=n/\∃o,Ends z a0 (ssS s) a (ebS s out) o)
theorem Mn z a:ab z a 32=ab z a 16+65536*ab z (a+16) 16:=cT z a 16 16
theorem AT.start{z a0 s}(c:a0+32<=8*z.length)(h:ab z a0 16+ab z (a0+16) 16=65535):AT z a0 s (ab z a0 16) 0 (a0+32) s.o:=by
 have f:=Mn z a0;have d:ab z a0 32%65536=ab z a0 16:=O;have e:ab z a0 32/65536=ab z (a0+16) 16:=O;have a:br (ssS s) (ab z a0 32) (aB z (a0+32))=if ab z a0 16=0 then ebS s s.o else(ssS s).to (.stored (ab z a0 16)):=by
  show(if ab z a0 32%65536+ab z a0 32/65536≠65535 then _ else if ab z a0 32%65536=0 then _ else _)=_
  rw[d,e,N];rfl
 by_cases b:ab z a0 16=0
 .rw[I b] at a
  exact R ⟨b.symm,s.o,a0,_,.refl _ _,rfl,L ⟨32,rfl,rfl,c,a⟩⟩
 .rw[N b] at a
  exact L ⟨O,.one (.num (k:=false) (n:=32) rfl c a)⟩
theorem BN{z a0 s}(a:a0+32<=8*z.length)(h:ab z a0 16+ab z (a0+16) 16≠65535):Fails z a0 (ssS s) 11 (a0+32):=by
 have d:=Mn z a0;have e:=dF z a0 16;have b:ab z a0 32%65536=ab z a0 16:=O;have c:ab z a0 32/65536=ab z (a0+16) 16:=O;refine Fails.num (n:=32) rfl a ?_;show(if ab z a0 32%65536+ab z a0 32/65536≠65535 then _ else if ab z a0 32%65536=0 then _ else _)=_
 rw[b,c,I h]
theorem AT.next{z a0 s n i a out}(h:Run z a0 (ssS s) a {s with ph := .stored (n-i),o:=out})(d:i<n)(b:a+8<=8*z.length):AT z a0 s n (i+1) (a+8) (out++[(ab z a 8,aB z (a+8))]):=by
 by_cases c:i+1=n
 .refine R ⟨c,out,a,_,h,rfl,L ⟨8,rfl,rfl,b,?_⟩⟩
  show(if n-i<=1 then _ else _)=_
  rw[I];rfl
 .refine L ⟨O,.tail h (.num (k:=false) (n:=8) rfl b ?_)⟩
  show(if n-i<=1 then _ else _)=_
  rw[N,show n-(i+1)=n-i-1 from O];rfl
theorem Bj{z:List One}{a}(h:a<=8*z.length):up8 a<=8*z.length:=by unfold up8;omega
theorem K9{z a}(h:a+32<=8*z.length):((⟨a,false,0⟩:Bt).num z 16)=⟨a+16,false,0⟩/\(((⟨a,false,0⟩:Bt).num z 16).num z 16)=⟨a+32,false,0⟩:=by
 have b:((⟨a,false,0⟩:Bt).num z 16)=⟨a+16,false,0⟩:=bW O;have c:((⟨a+16,false,0⟩:Bt).num z 16)=⟨a+32,false,0⟩:=bW O;rw[b,c];exact⟨rfl,rfl⟩
theorem Ig{z a}(h:¬a+32<=8*z.length):(((⟨a,false,0⟩:Bt).num z 16).num z 16)=⟨8*z.length,true,0⟩:=by
 by_cases b:a+16<=8*z.length
 .rw[bW b,cy O]
 .rw[cy O,fY rfl]
abbrev syS(s:St)(lit dist:List Nat)(out:List One):St:={s with ph := .sym lit dist,o:=out}
theorem Kh{z a s lit dist out c n}(b:bH z a lit c n)(d:c<256):Step z a (syS s lit dist out) (a+n) (syS s lit dist (out++[(c,aB z (a+n))])):=by
 refine Step.sym (k:=false) (l:=lit) rfl b ?_;show(if c<256 then _ else _)=_
 rw[I d];rfl
theorem Kj{z a0 s0 a s lit dist out c n}(h:Run z a0 s0 a (syS s lit dist out))(b:bH z a lit c n)(d:c=256):∃e,Ends z a0 s0 (a+n) (ebS s out) e:=by
 refine⟨out,a,_,h,rfl,R ⟨lit,c,n,rfl,b,rfl,?_⟩⟩;show(if c<256 then _ else if c=256 then _ else _)=_
 rw[N,I d];rfl
theorem Kk{z a s lit dist out c n}(b:bH z a lit c n)(d:285<c):Fails z a (syS s lit dist out) 13 (a+n):=by
 refine Fails.sym (l:=lit) rfl b ?_;show(if c<256 then _ else if c=256 then _ else if 285<c then _ else _)=_
 rw[N,N,I d]
theorem Ki{z a s lit dist out c n}(e:bH z a lit c n)(h:256<c)(i:c<=285)(f:a+n+aK c<=8*z.length):Run z a (syS s lit dist out) (a+n+aK c) {s with ph := .dist lit dist (bD c+ab z (a+n) (aK c)),o:=out}:=by
 have b:cQ (syS s lit dist out) c (aB z (a+n))=if aK c=0 then(syS s lit dist out).to (.dist lit dist (bD c)) else(syS s lit dist out).to (.lrest lit dist (bD c) (aK c)):=by
  show(if c<256 then _ else if c=256 then _ else if 285<c then _ else _)=_
  rw[N,N,N]
 by_cases d:aK c=0
 .rw[I d] at b
  have:=Step.sym (k:=false) (l:=lit) (s:=syS s lit dist out) rfl e b
  have g:ab z (a+n) 0=0:=rfl;rw[d,g,X5,X5];exact .one this
 .rw[N d] at b
  exact .tail (.one (Step.sym (k:=false) (l:=lit) (s:=syS s lit dist out) rfl e b)) (.num (k:=false) (n:=aK c) rfl f rfl)
theorem zu{z a0 s0 a s lit dist out c n}(h:Run z a0 s0 a (syS s lit dist out))(b:bH z a lit c n)(f:256<c)(g:c<=285)(i:¬a+n+aK c<=8*z.length):Stop z a0 s0 out ⟨8*z.length,true,0⟩:=by
 have d:cQ (syS s lit dist out) c (aB z (a+n))=if aK c=0 then(syS s lit dist out).to (.dist lit dist (bD c)) else(syS s lit dist out).to (.lrest lit dist (bD c) (aK c)):=by
  show(if c<256 then _ else if c=256 then _ else if 285<c then _ else _)=_
  rw[N,N,N]
 have e:¬aK c=0:=by have:=b.2.1;omega
 rw[N e] at d;exact .cut (a+n) _ (.tail h (Step.sym (k:=false) (l:=lit) (s:=syS s lit dist out) rfl b d)) (.num (n:=aK c) rfl O) rfl
theorem Jd{z a}{s:St}{lit dist out len d n}(b:bH z a dist d n)(c:29<d):Fails z a {s with ph := .dist lit dist len,o:=out} 13 (a+n):=by
 refine Fails.sym (l:=dist) rfl b ?_;show(if 29<d then _ else _)=_
 rw[I c]
theorem Fw{z a0 s0 a}{s:St}{lit dist out len d n}(h:Run z a0 s0 a {s with ph := .dist lit dist len,o:=out})(e:bH z a dist d n)(i:d<=29)(f:a+n+aI d<=8*z.length):Ends z a0 s0 (a+n+aI d) (St.copy {s with o:=out} lit dist len (bx d+ab z (a+n) (aI d)) (aB z (a+n+aI d))) out:=by
 have b:cQ {s with ph := .dist lit dist len,o:=out} d (aB z (a+n))=if aI d=0 then St.copy {s with ph := .dist lit dist len,o:=out} lit dist len (bx d) (aB z (a+n)) else St.to {s with ph := .dist lit dist len,o:=out} (.drest lit dist len (bx d) (aI d)):=by
  show(if 29<d then _ else _)=_
  rw[N]
 by_cases c:aI d=0
 .rw[I c] at b
  refine⟨a,_,h,rfl,R ⟨dist,d,n,rfl,e,O,?_⟩⟩;have g:ab z (a+n) 0=0:=rfl;rw[c,g,X5,X5,b];rfl
 .rw[N c] at b
  exact⟨a+n,_,.tail h (Step.sym (k:=false) (l:=dist) (s:={s with ph := .dist lit dist len,o:=out}) rfl e b),rfl,L ⟨aI d,rfl,rfl,f,rfl⟩⟩
theorem Jc{z a0 s0 a}{s:St}{lit dist out len d n}(h:Run z a0 s0 a {s with ph := .dist lit dist len,o:=out})(b:bH z a dist d n)(f:d<=29)(g:¬a+n+aI d<=8*z.length):Stop z a0 s0 out ⟨8*z.length,true,0⟩:=by
 have c:cQ {s with ph := .dist lit dist len,o:=out} d (aB z (a+n))=if aI d=0 then St.copy {s with ph := .dist lit dist len,o:=out} lit dist len (bx d) (aB z (a+n)) else St.to {s with ph := .dist lit dist len,o:=out} (.drest lit dist len (bx d) (aI d)):=by
  show(if 29<d then _ else _)=_
  rw[N]
 have e:¬aI d=0:=by have:=b.2.1;omega
 rw[N e] at c;exact .cut (a+n) _ (.tail h (Step.sym (k:=false) (l:=dist) (s:={s with ph := .dist lit dist len,o:=out}) rfl b c)) (.num (n:=aI d) rfl O) rfl
theorem yP p back n o:aV p back (n+1) o=aV p back n o++[(vAt (aV p back n o) ((aV p back n o).length-back),p)]:=by
 induction n generalizing o with
 | zero=>rfl
 | succ n a=>
  rw[aV,a];rfl
theorem lF p back n o:(aV p back n o).length=o.length+n:=by
 induction n generalizing o with
 | zero=>rfl
 | succ n a=>rw[aV,a];simp;omega
def dx(l:List One):Prop:=∀x∈l,x.1<256/\x.2<=1048576
theorem nS{l}(h:dx l){v p}(b:v<256)(c:p<=1048576):dx (l++[(v,p)]):=by
 intro d a;rcases XW.1 a with a|a
 .exact h d a
 .simp at a;subst a;exact⟨b,c⟩
theorem xh{l}(h:dx l)i:vAt l i<256:=by
 unfold vAt;rw[G];cases a:l[i]? with
 | none=>simp
 | some b=>exact(h b (X8 a)).1
theorem CH{p back}(a:p<=1048576)n{l}(h:dx l):dx (aV p back n l):=by
 induction n generalizing l with
 | zero=>exact h
 | succ n b=>exact b (nS h (xh h _) a)
theorem gD{s a:St}{k}(h:s.endBlock=.ok a k):a.o=s.o:=by
 unfold St.endBlock at h
 split at h<;>(cases h;rfl)
theorem de{s a:St}{p k}(h:s.to p=.ok a k):a.o=s.o:=by
 unfold St.to at h;cases h;rfl
theorem pW{s a:St}{nl nd sl out k}(h:s.lens nl nd sl out=.ok a k):a.o=s.o:=by
 unfold St.lens at h
 split at h
 .exact de h
 .split at h
  .cases h
  .exact de h
theorem wX{s a:St}{lit dist len back p k}(h:s.copy lit dist len back p=.ok a k)(b:p<=1048576)(c:dx s.o):dx a.o:=by
 unfold St.copy at h
 split at h
 .cases h
 .cases h;exact CH b _ c
theorem BZ{s s' n v p k}(h:br s v p=.ok s' k)(b:item s.ph=.num n)(e:v<2^n)(c:p<=1048576)(a:dx s.o):dx s'.o:=by
 unfold br at h
 split at h
 .split at h
  .cases h
  .cases h;exact a
 .simp only at h
  split at h
  .cases h;exact a
  .split at h
   .rw[de h];exact a
   .split at h
    .rw[de h];exact a
    .cases h
 .split at h
  .cases h
  .split at h
   .rw[gD h];exact a
   .rw[de h];exact a
 .rename_i f
  have g:n=8:=by rw[f] at b;cases b;rfl
  subst g;have d:dx (s.give v p).o:=nS a e c
  split at h
  .rw[gD h];exact d
  .rw[de h];exact d
 .split at h
  .cases h
  .rw[de h];exact a
 .split at h
  .rw[de h];exact a
  .split at h
   .cases h
   .rw[de h];exact a
 .simp only at h
  split at h
  .split at h
   .cases h
   .rw[pW h];exact a
  .split at h
   .cases h
   .rw[pW h];exact a
 .rw[de h];exact a
 .exact wX h c a
 .split at h
  .cases h
  .rw[de h];exact a
 .cases h
theorem BY{s s' c p k}(h:cQ s c p=.ok s' k)(b:p<=1048576)(a:dx s.o):dx s'.o:=by
 unfold cQ at h
 split at h
 .split at h
  .rw[pW h];exact a
  .split at h
   .cases h
   .rw[de h];exact a
 .split at h
  .rename_i d
   rw[de h];exact nS a d b
  .split at h
   .rw[gD h];exact a
   .split at h
    .cases h
    .split at h
     .rw[de h];exact a
     .rw[de h];exact a
 .split at h
  .cases h
  .split at h
   .exact wX h b a
   .rw[de h];exact a
 .cases h
theorem Run.good{z:List One}(hz:good z){a0 a:Nat}{s0 s:St}(h:Run z a0 s0 a s)(hs:dx s0.o):dx s.o:=by
 refine Run.ind (P:=λ_ s=>dx s.o) hs (λ_ k ih => ?_) h;rcases k with⟨n,k',hi,hn,hr,rfl⟩|⟨l,c,n,k',hi,hg,hr,rfl⟩
 .exact BZ hr hi (dF _ _ _) (Hz hz _) ih
 .exact BY hr (Hz hz _) ih
def eb(l:List One):Nat->Nat×Nat
 | 0=>(1,0)
 | i+1=>(((eb l i).1+vAt l i)%65521,((eb l i).2+((eb l i).1+vAt l i)%65521)%65521)
theorem CO l b(h:b<=l.length):eb l b=(l.take b).foldl (λ(a:Nat×Nat) c=>((a.1+c.1)%65521,(a.2+(a.1+c.1)%65521)%65521)) (1,0):=by
 induction b with
 | zero=>rfl
 | succ b d=>
  rw[eb,d O,XM O,Yk];have e:vAt l b=(l[b]' O).1:=by unfold vAt;rw[G,Xt O];rfl
  rw[e];rfl
theorem Ao(l:List One)p:(l.foldl (λ(a:Nat×Nat) x=>((a.1+x.1)%65521,(a.2+(a.1+x.1)%65521)%65521)) p).1=l.foldl (λa x=>(a+x.1)%65521) p.1:=by
 induction l generalizing p with
 | nil=>rfl
 | cons x c b=>rw[List.foldl_cons,List.foldl_cons,b]
theorem xm l:eb l l.length=(bn l,bA l):=by
 have a:=CO l l.length (E _);rw[List.take_length] at a;rw[a];refine Y7 ?_ rfl;exact(Ao l (1,0))
def be4(z:List One)(a:Nat):Nat->Nat
 | 0=>0
 | i+1=>256*be4 z a i+ab z (a+8*i) 8
theorem JL z a:eB (ab z a 32)=be4 z a 4:=by
 have d:ab z a 32=ab z a 8+2^8*ab z (a+8) 24:=cT z a 8 24;have e:ab z (a+8) 24=ab z (a+8) 8+2^8*ab z (a+16) 16:=cT z (a+8) 8 16;have f:ab z (a+16) 16=ab z (a+16) 8+2^8*ab z (a+24) 8:=cT z (a+16) 8 8;have o:=dF z a 8;have p:=dF z (a+8) 8;have q:=dF z (a+16) 8;have r:=dF z (a+24) 8;have c:be4 z a 4=256*(256*(256*(256*0+ab z a 8)+ab z (a+8) 8)+ab z (a+16) 8)+ab z (a+24) 8:=rfl;rw[c];have s:ab z a 32=ab z a 8+256*ab z (a+8) 8+65536*ab z (a+16) 8+16777216*ab z (a+24) 8:=O;clear d e f c;generalize ab z a 32=b at *;generalize ab z a 8=g at *;generalize ab z (a+8) 8=h at *;generalize ab z (a+16) 8=i at *;generalize ab z (a+24) 8=j at *;have k:b%256=g:=O;have l:b/256%256=h:=O;have m:b/65536%256=i:=O;have n:b/16777216%256=j:=O;unfold eB;rw[k,l,m,n];omega
theorem AS l i:(eb l i).1<65521/\(eb l i).2<65521:=by
 cases i with
 | zero=>exact⟨show 1<65521 from Xh,show 0<65521 from Xh⟩
 | succ i=>exact⟨YD _ Xh,YD _ Xh⟩
theorem Of z a:ab z a 16=ab z a 8+256*ab z (a+8) 8:=cT z a 8 8
def dM(c f:Nat):Prop:=c%16≠8\/7<c/16\/(256*c+f)%31≠0\/f/32%2=1
theorem Al z s(a:s.ph=.head)p:br s (ab z 0 16) p=if ab z 0 8%16≠8\/7<ab z 0 8/16\/(256*ab z 0 8+ab z 8 8)%31≠0\/ab z 8 8/32%2=1 then .err 10 else .ok {s with ph := .block,window:=2^(8+ab z 0 8/16)} false:=by
 have d:ab z 0 16=ab z 0 8+256*ab z 8 8:=by have:=Of z 0;rw[XD] at this;exact this
 have e:=dF z 0 8;have b:ab z 0 16%256=ab z 0 8:=O;have c:ab z 0 16/256=ab z 8 8:=O;unfold br;rw[a];simp only
 rw[b,c]
theorem Lm{z:List One}(b:16<=8*z.length)(h:¬dM (ab z 0 8) (ab z 8 8)):Run z 0 St.start 16 {St.start with ph := .block,window:=2^(8+ab z 0 8/16)}:=by
 refine .one (.num (a:=0) (k:=false) (n:=16) rfl O ?_);show br St.start (ab z 0 16) _=_
 unfold dM at h;rw[Al z St.start rfl,N h]
theorem E2{z}(b:16<=8*z.length)(h:dM (ab z 0 8) (ab z 8 8)):Stop z 0 St.start [] ⟨16,false,10⟩:=by
 refine .err 0 _ 10 16 (.refl _ _) ?_ rfl Xh b;refine Fails.num (a:=0) (n:=16) rfl O ?_;show br St.start (ab z 0 16) _=_
 unfold dM at h;rw[Al z St.start rfl,I h]
theorem IU{z}(a:¬16<=8*z.length):Stop z 0 St.start [] ⟨8*z.length,true,0⟩ :=
 .cut 0 _ (.refl _ _) (.num (n:=16) rfl O) rfl
theorem OU z a:ab z a 3=bs z a+2*ab z (a+1) 2:=by
 have:=cT z a 1 2
 have b:ab z a 1=bs z a:=by show 0+bs z (a+0)*2^0=_;simp
 rw[b] at this;exact this
abbrev blS(s:St)(out:List One):St:={s with ph := .block,o:=out}
theorem mi z s out a p:br (blS s out) (ab z a 3) p =
  if ab z (a+1) 2=0 then .ok {s with ph := .ssize,last:=decide (bs z a=1),o:=out} true
  else if ab z (a+1) 2=1 then .ok {s with ph := .sym bc bL,last:=decide (bs z a=1),o:=out} false
  else if ab z (a+1) 2=2 then .ok {s with ph := .counts,last:=decide (bs z a=1),o:=out} false else .err 11:=by
 have d:=OU z a;have e:=kI z a;have b:ab z a 3%2=bs z a:=O;have c:ab z a 3/2=ab z (a+1) 2:=O;unfold br;simp only
 rw[b,c];rfl
theorem yU{z a0 s0 a s out}(h:Run z a0 s0 a (blS s out))(c:a+3<=8*z.length)(d:ab z (a+1) 2=0):Run z a0 s0 (up8 (a+3)) {s with ph := .ssize,last:=decide (bs z a=1),o:=out}:=by
 have b:=mi z s out a (aB z (a+3));rw[I d] at b;exact .tail h (.num (k:=true) (n:=3) rfl c b)
theorem AL{z a0 s0 a s out}(h:Run z a0 s0 a (blS s out))(c:a+3<=8*z.length)(d:ab z (a+1) 2=1):Run z a0 s0 (a+3) {s with ph := .sym bc bL,last:=decide (bs z a=1),o:=out}:=by
 have b:=mi z s out a (aB z (a+3));rw[N,I d] at b;exact .tail h (.num (k:=false) (n:=3) rfl c b)
theorem Gj{z a0 s0 a s out}(h:Run z a0 s0 a (blS s out))(c:a+3<=8*z.length)(d:ab z (a+1) 2=2):Run z a0 s0 (a+3) {s with ph := .counts,last:=decide (bs z a=1),o:=out}:=by
 have b:=mi z s out a (aB z (a+3));rw[N,N,I d] at b;exact .tail h (.num (k:=false) (n:=3) rfl c b)
theorem Gl{z a0 s0 a s out}(h:Run z a0 s0 a (blS s out))(b:a+3<=8*z.length)(d:ab z (a+1) 2≠0)(e:ab z (a+1) 2≠1)(f:ab z (a+1) 2≠2):Stop z a0 s0 out ⟨a+3,false,11⟩:=by
 have c:=mi z s out a (aB z (a+3));rw[N d,N e,N f] at c;exact .err a _ 11 _ h (.num (n:=3) rfl b c) rfl Xh b
theorem Gk{z a0 s0 a s out}(h:Run z a0 s0 a (blS s out))(b:¬a+3<=8*z.length):Stop z a0 s0 out ⟨8*z.length,true,0⟩ :=
 .cut a _ h (.num (n:=3) rfl O) rfl
theorem Fp{z a0 s0 a s out o}(h:Ends z a0 s0 a (ebS s out) o)(b:s.last=false):Run z a0 s0 a (blS s out):=by
 have c:ebS s out=.ok (blS s out) false:=by
  unfold ebS St.endBlock;show(if s.last=true then _ else _)=_
  rw[N (by rw[b];decide)]
 rw[c] at h;exact h.ok
theorem Fq{z a0 s0 a s out o}(h:Ends z a0 s0 a (ebS s out) o)(b:s.last=true):Run z a0 s0 (up8 a) {s with ph := .sum,o:=out}:=by
 have c:ebS s out=.ok {s with ph := .sum,o:=out} true:=by
  unfold ebS St.endBlock;show(if s.last=true then _ else _)=_
  rw[I b]
 rw[c] at h;exact h.ok
theorem Km{z a0 s0 a}{s:St}{out}(h:Run z a0 s0 a {s with ph := .sum,o:=out})(b:a+32<=8*z.length)(c:eB (ab z a 32)=65536*bA out+bn out):Run z a0 s0 (a+32) {s with ph := .fin,o:=out}:=by
 refine .tail h (.num (k:=false) (n:=32) rfl b ?_);show(if eB (ab z a 32)≠65536*bA out+bn out then _ else _)=_
 rw[N (by rw[c];simp)];rfl
theorem Ko{z a}{s:St}{out}(b:a+32<=8*z.length)(c:eB (ab z a 32)≠65536*bA out+bn out):Fails z a {s with ph := .sum,o:=out} 19 (a+32):=by
 refine Fails.num (n:=32) rfl b ?_;show(if eB (ab z a 32)≠65536*bA out+bn out then _ else _)=_
 rw[I c]
theorem Kn{z a0 s0 a}{s:St}{out}(h:Run z a0 s0 a {s with ph := .sum,o:=out})(b:¬a+32<=8*z.length):Stop z a0 s0 out ⟨8*z.length,true,0⟩ :=
 .cut a _ h (.num (n:=32) rfl O) rfl
def bM(l:List Nat)(n:Nat):Nat->Nat
 | 0=>0
 | k+1=>bM l n k+if l.getD k 0=n then 1 else 0
def gL(l:List Nat)(n:Nat):Nat->Nat
 | 0=>0
 | k+1=>gL l n k+if 0<l.getD k 0/\l.getD k 0<n then 2^(n-l.getD k 0) else 0
def eL(l:List Nat)(n:Nat):Nat:=gL l n l.length+if n=0 then 0 else bM l n l.length
def xL(l:List Nat):Nat->Nat
 | 0=>0
 | 1=>0
 | n+2=>xL l (n+1)+bM l (n+1) l.length
theorem Lq l a:gL l 0 a=0:=by
 induction a with
 | zero=>rfl
 | succ a b=>rw[gL,b,N]
theorem M7 l a:gL l 1 a=0:=by
 induction a with
 | zero=>rfl
 | succ a b=>rw[gL,b,N]
theorem Lr l n k(e:1<=n):gL l (n+1) k=2*(gL l n k+bM l n k):=by
 induction k with
 | zero=>rfl
 | succ k c=>
  rw[gL,c,gL,bM];by_cases a:0<l.getD k 0
  .by_cases d:l.getD k 0<n
   .rw[I ⟨a,O⟩,I ⟨a,d⟩,N]
    have:n+1-l.getD k 0=(n-l.getD k 0)+1:=O
    rw[this,Ya];omega
   .by_cases b:l.getD k 0=n
    .rw[I ⟨a,O⟩,N,I b,b]
     have:n+1-n=1:=O
     rw[this];omega
    .rw[N,N,N b];omega
  .rw[N,N,N];omega
theorem yI l:eL l 0=0:=by unfold eL;rw[Lq,I rfl]
theorem M8 l n:gL l (n+1) l.length=2*eL l n:=by
 by_cases a:n=0
 .subst a;rw[M7,yI]
 .rw[Lr l n _ O];unfold eL;rw[N a]
theorem qd l n:eL l (n+1)=2*eL l n+bM l (n+1) l.length:=by
 conv=>lhs;unfold eL
 rw[N,M8]
theorem FV l s k(f:1<=l.getD s 0):gm l s k=gL l (l.getD s 0) k+bM l (l.getD s 0) (min k s):=by
 induction k with
 | zero=>rw[Nat.zero_min];rfl
 | succ k d=>
  rw[gm,d,gL];by_cases e:k<s
  .rw[Nat.min_eq_left O,Nat.min_eq_left O,bM]
   by_cases a:0<l.getD k 0
   .by_cases c:l.getD k 0<l.getD s 0
    .rw[I ⟨a,L c⟩,I ⟨a,c⟩,N];omega
    .by_cases b:l.getD k 0=l.getD s 0
     .rw[I ⟨a,R ⟨b,e⟩⟩,N,I b,b,YC];omega
     .rw[N,N,N b];omega
   .rw[N,N,N];omega
  .rw[Nat.min_eq_right O,Nat.min_eq_right O]
   by_cases a:0<l.getD k 0/\l.getD k 0<l.getD s 0
   .rw[I ⟨a.1,L a.2⟩,I a];omega
   .rw[N,N a];omega
theorem rG l s(b:s<l.length)(a:1<=l.getD s 0):codeOf l s=gL l (l.getD s 0) l.length+bM l (l.getD s 0) s:=by
 unfold codeOf;rw[FV l s _ a,Nat.min_eq_right O]
theorem FY l n{a b}(h:a<=b):bM l n a<=bM l n b:=by
 induction b with
 | zero=>
  have:a=0:=O
  subst this;exact E _
 | succ b c=>
  by_cases d:a=b+1
  .subst d;exact E _
  .have:=c O;rw[bM];omega
theorem mh l n{a b}(h:a<b)(c:l.getD a 0=n):bM l n a<bM l n b:=by
 have:=FY l n (show a+1<=b from O)
 rw[bM,I c] at this;omega
theorem AD l n{a b}(c:l.getD a 0=n)(d:l.getD b 0=n)(h:bM l n a=bM l n b):a=b:=by
 by_cases e:a<b
 .have:=mh l n e c;omega
 .by_cases f:b<a
  .have:=mh l n f d;omega
  .omega
theorem yQ l n:∀(k r:Nat),r<bM l n k->∃a,a<k/\l.getD a 0=n/\bM l n a=r
 | 0,r,b=>by simp[bM] at b
 | k+1,r,b=>by
  rw[bM] at b;by_cases d:r<bM l n k
  .obtain⟨a,g,e,f⟩:=yQ l n k r d
   exact⟨a,O,e,f⟩
  .by_cases c:l.getD k 0=n
   .rw[I c] at b
    exact⟨k,O,c,O⟩
   .rw[N c] at b;omega
theorem lX{l n v s}(c:s<l.length)(d:1<=n):fZ l n v s↔l.getD s 0=n/\v=gL l n l.length+bM l n s:=by
 unfold fZ
 constructor
 .rintro⟨a,b⟩
  refine⟨a,?_⟩;rw[rG l s c O,a] at b;exact b.symm
 .rintro⟨a,b⟩
  refine⟨a,?_⟩;rw[rG l s c O,a];exact b.symm
theorem DW{l n v s t}(d:s<l.length)(e:t<l.length)(a:1<=n)(b:fZ l n v s)(c:fZ l n v t):s=t:=by
 rw[lX d a] at b;rw[lX e a] at c;exact AD l n b.1 c.1 O
theorem M5{l n v s}(a:s<l.length)(b:1<=n)(h:fZ l n v s):dW l n v s:=λd e c=>by
 have:=DW a O b h c;omega
theorem D7 l n:∀a,eL l n*2^a<=eL l (n+a)
 | 0=>Xi
 | a+1=>by
  have:=D7 l n a
  rw[<-Yg,qd,Ya];rw[<-Y3];omega
theorem Ld{l n v}(q:eL l 15=32768)(x:n<15)(y:v<2^n)(r:eL l n<=v):dP l n v l.length:=by
 have s:∀a,(∀d,d<=a->eL l (n+d)<=v*2^d)\/∃b,n<b/\b<=n+a/\eL l (b-1)<=v*2^(b-1-n)/\v*2^(b-n)<eL l b:=by
  intro a
  induction a with
  | zero=>
   left
   intro d t
   have:d=0:=O
   subst this;simpa using r
  | succ a e=>
   rcases e with e|⟨b,f,i,j⟩
   .by_cases k:eL l (n+(a+1))<=v*2^(a+1)
    .left
     intro d t;by_cases g:d=a+1
     .subst g;exact k
     .exact e d O
    .right
     refine⟨n+(a+1),O,E _,?_,?_⟩
     .have:=e a (E _)
      have h:n+(a+1)-1=n+a:=O;have m:n+(a+1)-1-n=a:=O;rw[m,h];exact this
     .have m:n+(a+1)-n=a+1:=O
      rw[m];omega
   .exact R ⟨b,f,O,j⟩
 rcases s (15-n) with k|⟨b,z,A,u,o⟩
 .exfalso
  have:=k (15-n) (E _)
  have g:n+(15-n)=15:=O;rw[g,q] at this;have w:(v+1)*2^(15-n)<=2^n*2^(15-n):=XS _ O;rw[<-Nat.pow_add,g,YO] at w
  have:0<2^(15-n):=Nat.pow_pos O
  omega
 .obtain⟨c,rfl⟩:∃c,b=c+1:=⟨b-1,O⟩
  rw[qd] at o;simp only[YL] at u;have h:c+1-n=(c-n)+1:=O;rw[h,Ya,<-Y3] at o;obtain⟨p,f,i,j⟩:=yQ l (c+1) l.length (v*2^(c-n)*2-2*eL l c) O;refine⟨p,f,?_,?_⟩
  .rw[i];omega
  .rw[rG l p f O,i,j,M8]
   have:2*eL l c+(v*2^(c-n)*2-2*eL l c)=v*2^(c+1-n):=by rw[h,Ya,<-Y3];omega
   rw[this];exact Nat.mul_div_cancel _ (Nat.pow_pos O)
theorem z4{l n v}(h:∀a,a<l.length->l.getD a 0<=n):¬dP l n v l.length:=by
 rintro⟨a,b,c,_⟩
 have:=h a b;omega
end Px
