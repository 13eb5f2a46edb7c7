import Derived.Test.YtbedkdnphobmlaaGreatDoorProg
import Derived.WalkKit
import Derived.WalkSpells
import Derived.WalkLawsBesides
import Derived.Laws.BitsAllLaws
import Derived.BigQuiet
import Derived.Deep.QuietTactic
import Derived.Laws.IdiomCopy
import Derived.Deep.WholeRow
import Derived.Deep.RegionHeld3
import Derived.Test.YtbedkdnphobmlaaGreatDoorUaa00
set_option linter.all false
set_option maxRecDepth 100000
set_option maxHeartbeats 0
namespace Go.Proofs.YtbedkdnphobmlaaGreatDoor
open Go.RowKit Tryz
theorem bz{a b}(h:a=b):Ending.returned (.bool a)=.returned (.bool b):=by rw[h]
theorem an{k a b}(h:a=b):Ending.returned (.int k a)=.returned (.int k b):=by rw[h]
theorem bU{k a b}(h:a=b):Value.int k a=.int k b:=by rw[h]
theorem zD{a b}(h:a=b):Value.bool a=.bool b:=by rw[h]
abbrev Kept(w w':World):Prop:=Below w.heap.size w w'
theorem Kept.refl w:Kept w w:=Xs _ _
theorem Kept.trans{a b c}(h:Kept a b)(k:Kept b c):Kept a c:=Below.trans h (k.mono h.size)
theorem Kept.drewN{a w}(h:Kept a w)n:Kept a (w.drewN n):=below_drewN h n
theorem aa(w:World)b k j v(h:k≠j):(w.setCell ⟨b,k,none⟩ v).cell? ⟨b,j,none⟩=w.cell? ⟨b,j,none⟩ :=
 Yl _ _ _ _ (by intro a;apply h;injection a)
theorem af{w:World}{a u}(h:w.cell? a=some u)v:(w.setCell a v).cell? a=some v:=World.cell?_setCell_same _ _ _ h
structure Fr (S:Nat->Prop) (w w':World):Prop where
 os:w'.os=w.os
 tape:w'.tape=w.tape
 output:w'.output=w.output
 size:w.heap.size<=w'.heap.size
 block:∀k,k<w.heap.size->¬S k->w'.heap[k]? = w.heap[k]?
theorem Fr.refl(S:Nat->Prop)w:Fr S w w:=⟨rfl,rfl,rfl,E _,λ_ _ _=>rfl⟩
theorem Fr.trans{S:Nat->Prop}{x y z}(h:Fr S x y)(k:Fr S y z):Fr S x z:=
 ⟨k.os.trans h.os,k.tape.trans h.tape,k.output.trans h.output,Xz h.size k.size,λa b c=>(k.block a (Xq b h.size) c).trans (h.block a b c)⟩
theorem Fr.trans'{S T:Nat->Prop}{x y z}(h:Fr S x y)(k:Fr T y z)(d:∀a,a<x.heap.size->T a->S a):Fr S x z:=
 ⟨k.os.trans h.os,k.tape.trans h.tape,k.output.trans h.output,Xz h.size k.size,λa b c=>(k.block a (Xq b h.size) (λe=>c (d a b e))).trans (h.block a b c)⟩
theorem Fr.mono{S T:Nat->Prop}{x y}(h:Fr S x y)(c:∀a,a<x.heap.size->S a->T a):Fr T x y:=
 ⟨h.os,h.tape,h.output,h.size,λa b d=>h.block a b (λe=>d (c a b e))⟩
theorem Fr.of_kept{S:Nat->Prop}{x y}(k:Kept x y):Fr S x y:=⟨k.os,k.tape,k.output,k.size,λa b _=>k.block a b⟩
theorem Fr.kept{S:Nat->Prop}{x y z}(h:Fr S x y)(k:Kept y z):Fr S x z:=h.trans (Fr.of_kept k)
theorem Fr.setCell{S:Nat->Prop}{x y}(h:Fr S x y){b}(a:S b\/x.heap.size<=b)k v:Fr S x (y.setCell ⟨b,k,none⟩ v) :=
 ⟨h.os,h.tape,h.output,by simpa[World.setCell] using h.size,λe c d=>(Below.heap_setCell _ _ _ _ (by rintro rfl;rcases a with a|a;exact d a;exact absurd c (Nat.not_lt.2 a))).trans (h.block e c d)⟩
theorem Fr.drewN{S:Nat->Prop}{x y}(h:Fr S x y)n:Fr S x (y.drewN n):=h.kept ((Kept.refl _).drewN n)
theorem Fr.alloc{S:Nat->Prop}{x y}(h:Fr S x y)o:Fr S x (y.alloc o):=h.kept ((Xs _ _).alloc (E _) o)
theorem Fr.grown{S:Nat->Prop}{x y z}(h:Fr S x y){row}(a:y.grownBy z row)(g:∀b,row=some b->S b\/x.heap.size<=b):Fr S x z:=
 ⟨a.os.trans h.os,a.tape.trans h.tape,a.output.trans h.output,Xz h.size a.size,λc d e=>(a.block c (Xq d h.size) (λi=>by rcases g c i.symm with f|f;exact e f;omega)).trans (h.block c d e)⟩
theorem Fr.to_kept{S:Nat->Prop}{x y z}(h:Kept x y)(k:Fr S y z)(c:∀a,a<x.heap.size->¬S a):Kept x z:=
 ⟨k.os.trans h.os,k.tape.trans h.tape,k.output.trans h.output,Xz h.size k.size,λa b=>(k.block a (Xq b h.size) (c a b)).trans (h.block a b)⟩
theorem Fr.cell{S:Nat->Prop}{w w'}(h:Fr S w w'){c k}(a:c<w.heap.size)(b:¬S c):w'.cell? ⟨c,k,none⟩=w.cell? ⟨c,k,none⟩:=XK (w:=w) (h.block c a b)
theorem Fr.frozen{S:Nat->Prop}{w w'}(h:Fr S w w'){c k}(a:c<w.heap.size)(b:¬S c):w'.frozen? ⟨c,k,none⟩=w.frozen? ⟨c,k,none⟩:=X2 (w:=w) (h.block c a b)
abbrev Fr1(b:Nat):World->World->Prop:=Fr (λk=>k=b)
theorem Fr1.refl b w:Fr1 b w w:=Fr.refl _ _
theorem Fr1.set{b x y}(h:Fr1 b x y)k v:Fr1 b x (y.setCell ⟨b,k,none⟩ v):=Fr.setCell h (L rfl) k v
theorem Fr1.drewN{b x y}(h:Fr1 b x y)n:Fr1 b x (y.drewN n):=Fr.drewN h n
theorem gm(a:Nat)(b:a<4294967296):(BitVec.ofInt 64 (a:Int)).toNat=a:=by
 rw[XT,X0];exact X1 O
theorem ti(a b:Nat)(c:a<4294967296)(d:b<4294967296):bits .and .i64 (a:Int) (b:Int)=((a &&& b:Nat):Int):=by
 have e:a &&& b<2^32:=Nat.and_lt_two_pow _ O;show IntKind.i64.wrap ((BitVec.ofInt 64 (a:Int) &&& BitVec.ofInt 64 (b:Int)).toNat:Int)=_
 rw[Zn,gm a c,gm b d,XC];omega
theorem ie(a b:Nat)(c:a<4294967296)(d:b<4294967296):bits .xor .i64 (a:Int) (b:Int)=((a ^^^ b:Nat):Int):=by
 have e:a ^^^ b<2^32:=YY O O;show IntKind.i64.wrap ((BitVec.ofInt 64 (a:Int) ^^^ BitVec.ofInt 64 (b:Int)).toNat:Int)=_
 rw[BitVec.toNat_xor,gm a c,gm b d,XC];omega
def ai:Value->Option Nat
 | .slice (some a) _ _=>some a.block
 | _=>none
theorem info_parts'{P:Program}{E z s b}(h:(P.info? E).map (λi=>(i.zero,i.size,i.bytes))=some (some z,s,b)):∃i,P.info? E=some i/\i.zero=some z/\i.size=s/\i.bytes=b:=by
 cases a:P.info? E with
 | none=>simp[a] at h
 | some i=>simp[a] at h;exact⟨i,rfl,h.1,h.2.1,h.2.2⟩
theorem mS{w:World}{base base' e size v n xs}(h:w.ownsRow base e size v n xs)(j:base'<=base):w.ownsRow base' e size v n xs:=by
 obtain⟨b,a⟩:=h;refine⟨b,?_⟩;rcases a with a|⟨c,d,f,g,k,i⟩
 .exact L a
 .exact R ⟨c,d,f,g,O,i⟩
theorem bZ{w W base e size v n xs}(h:w.ownsRow base e size v n xs)(k:Kept w W):W.ownsRow base e size v n xs:=
 h.kept (row:=none) ⟨k.os,k.tape,k.output,k.size,λa b _=>k.block a b⟩ (by cases c:v.ownBlock;exact L rfl;exact R Xi)
theorem aW{w:World}{base e size v n xs}(h:w.ownsRow base e size v n xs):∃b c,v=.slice b n c:=by
 rcases h.2 with⟨a,d⟩|⟨f,g,i,a,j,k⟩
 .exact⟨none,0,by rw[a,d]⟩
 .exact⟨_,_,a⟩
theorem fA v{w:World}{base e size n xs}(h:w.ownsRow base e size v n xs):ai v=v.ownBlock:=by
 rcases h.2 with⟨a,b⟩|⟨c,d,f,a,g,i⟩<;>rw[a]<;>rfl
theorem bG w{ops rest o a}{q:Exit->Act->World->Prop}T T2 E size bytes zero(r:prog.underlying T=some (.slice E))(U:(prog.info? E).map (λi=>(i.zero,i.size,i.bytes))=some (some zero,size,bytes))(I:zero.cells.size=size)(J:0<size)(t:o.guard=none)s x(u:o.op=Op.call {callee:=Callee.builtin Builtin.append,args:=#[s,x],argTypes:=#[T,T2]})base v n xs(y:a.eval s=v)(k:w.ownsRow base E size v n xs)ad m c news(z:a.eval x=.slice (some ad) m c)(A:news.length=m*size)(a3:0<m)(B:∀j g,news[j]? = some g->w.cell? (ad.add j)=some g)(C:∀g∈news,g.oneCell'=true)(K:n+m<=maxLen)(h:(n+m)*bytes<=140737488355328)(V:base<=w.heap.size)(M:∀d b,b.ownsRow base E size d (n+m) (xs++news)->w.grownBy b v.ownBlock->(∀e,d.ownBlock=some e->v.ownBlock=some e\/w.heap.size<=e)->wpList prog ops q rest (a.put o.dst d) b)(W:T2=T):wpList prog ops q (o::rest) a w:=by
 subst W;obtain⟨D,F,N,G,P⟩:=info_parts' U;have Q:∀d b,b.ownsRow w.heap.size E size d (n+m) (xs++news)->w.grownBy b none->wpList prog ops q rest (a.put o.dst d) b:=by
  intro d b p f;refine M d b (mS p V) ⟨f.os,f.tape,f.output,f.size,λe l _=>f.block e l Xi⟩ (λe l=>R ((p.lt e l).1))
 rcases k.2 with⟨rfl,X⟩|⟨S,H,a4,rfl,a5,a6,a7,a8,a9,b0⟩
 .subst X
  have Y:=YX (by simpa using k.1);subst Y;exact wpList_append_grows w t s x T2 u E D zero size bytes r F N G P I J none 0 0 [] y (λ_=>⟨rfl,rfl⟩) Xi (λZ h=>by cases h) ad m c news z A B C O K h Q
 .by_cases a0:n+m<=H
  .refine wpList_append_fits w t s x T2 u base E D size r F G S n H xs y k ad m c news z A B C a0 ?_
   intro b p f;exact M _ b p f (λe l=>L l)
  .exact wpList_append_grows w t s x T2 u E D zero size bytes r F N G P I J (some ⟨S,0,none⟩) n H xs y (λa1=>by cases a1) k.1 (λZ h j g a2=>by cases h;exact k.cells rfl j g a2) ad m c news z A B C O K h Q
structure LAt (w:World) (k:IntKind) (v:Value) (l:List Int):Prop where
 form:∃p c,v=.slice p l.length c
 cells:∀p c,v=.slice p l.length c->∀i,i<l.length->∃g o,p=some ⟨g,o,none⟩/\w.cell? ⟨g,o+i,none⟩=some (.int k (l.getD i 0))
theorem LAt.fr{S:Nat->Prop}{w w' k v l}(h:LAt w k v l)(f:Fr S w w')(e:∀a,ai v=some a->¬S a):LAt w' k v l:=by
 refine⟨h.form,?_⟩;intro g i b j m;obtain⟨a,n,c,d⟩:=h.cells g i b j m;have o:ai v=some a:=by rw[b,c];rfl
 have p:=B _ _ d;exact⟨a,n,c,(f.cell p (e a o)).trans d⟩
theorem LAt.kept{w w' k v l}(h:LAt w k v l)(f:Kept w w'):LAt w' k v l:=h.fr (S:=λ_=>False) ⟨f.os,f.tape,f.output,f.size,λa b _=>f.block a b⟩ (λ_ _ h=>h)
theorem LAt.addr{w k v l}(h:LAt w k v l)(j:0<l.length):∃c d a,v=.slice (some ⟨c,d,none⟩) l.length a/\∀b,b<l.length->w.cell? ⟨c,d+b,none⟩=some (.int k (l.getD b 0)):=by
 obtain⟨f,a,e⟩:=h.form;obtain⟨c,d,g,_⟩:=h.cells f a e 0 j;refine⟨c,d,a,by rw[e,g],λb m => ?_⟩;obtain⟨r,s,i,n⟩:=h.cells f a e b m;rw[g] at i
 injection i with o
 injection o with p q
 subst p;subst q;exact n
theorem LAt.nil{w k p c}:LAt w k (.slice p 0 c) []:=⟨⟨p,c,rfl⟩,λ_ _ _ b a=>by simp at a⟩
theorem LAt.cellAt{w k p c l}(h:LAt w k (.slice p l.length c) l)i(d:i<l.length):∃a b,p=some ⟨a,b,none⟩/\w.cell? ⟨a,b+i,none⟩=some (.int k (l.getD i 0)):=h.cells p c rfl i d
theorem wR{w base E k v l}(h:w.ownsRow base E 1 v l.length (l.map (Value.int k))):LAt w k v l:=by
 rcases h.2 with⟨a,f⟩|⟨d,m,n,a,o,p⟩
 .refine⟨⟨none,0,by rw[a,f]⟩,?_⟩
  intro g i _ b e;omega
 .refine⟨⟨_,_,a⟩,?_⟩
  intro g i c b e;rw[a] at c
  injection c with c _ _
  refine⟨d,0,c.symm,?_⟩
  have:=h.cells (by rw[a];rfl) b (.int k (l.getD b 0)) (by simp[XQ,Xt e,G])
  have j:(Addr.add ⟨d,0,none⟩ b)=⟨d,0+b,none⟩:=by simp[Addr.add];intro h;exact h.symm
  rw[j] at this;exact this
theorem az{l:List Int}{i}(h:i<l.length):l.getD i 0∈l:=by simp[G,Xt h]
end Go.Proofs.YtbedkdnphobmlaaGreatDoor
namespace Px
def upd{A:Type}(f:Nat->A)(i:Nat)(v:A):Nat->A:=λj=>if j=i then v else f j
theorem upd_same{A}f i(v:A):upd f i v i=v:=I rfl
theorem upd_ne{A}f i(v:A){j:Nat}(h:j≠i):upd f i v j=f j:=N h
end Px
namespace Go.Proofs.YtbedkdnphobmlaaGreatDoor
open Go.RowKit Px Tryz
structure Pt where
 bits:Nat
 offset:Nat
 ahead:Nat
structure PtV (c:Nat->Value) (o:Nat) (s:Pt):Prop where
 bits:c (o)=.int .i64 (s.bits:Int)
 offset:c (o+1)=.int .i64 (s.offset:Int)
 ahead:c (o+2)=.int .i64 (s.ahead:Int)
theorem PtV.congr{c d o s}(h:PtV c o s)(e:∀a,o<=a->a<o+3->d a=c a):PtV d o s:=
 ⟨(e _ O O).trans h.bits,(e _ O O).trans h.offset,(e _ O O).trans h.ahead⟩
theorem un{c:Nat->Value}{i k:Nat}{v x:Value}(h:c i=x)(e:i≠k:=by omega):upd c k v i=x:=(upd_ne _ _ _ e).trans h
theorem uc{c:Nat->Value}{a b k:Nat}{v:Value}(e:∀d,a<=d->d<b->d≠k:=by omega):∀d,a<=d->d<b->upd c k v d=c d:=λd f g=>upd_ne _ _ _ (e d f g)
theorem PtV.set_bits{c o s}(h:PtV c o s)(v:Nat):PtV (upd c (o) (.int .i64 v)) o {s with bits:=v} :=
 ⟨upd_same _ _ _,un h.offset,un h.ahead⟩
theorem PtV.set_offset{c o s}(h:PtV c o s)(v:Nat):PtV (upd c (o+1) (.int .i64 v)) o {s with offset:=v} :=
 ⟨un h.bits,upd_same _ _ _,un h.ahead⟩
theorem PtV.set_ahead{c o s}(h:PtV c o s)(v:Nat):PtV (upd c (o+2) (.int .i64 v)) o {s with ahead:=v} :=
 ⟨un h.bits,un h.offset,upd_same _ _ _⟩
structure CS where
 count:Nat->Nat
 sym:Nat->Nat
 total:Nat
 longest:Nat
structure CSV (c:Nat->Value) (o:Nat) (s:CS):Prop where
 count:∀i,i<16->c (o+i)=.int .i64 (s.count i)
 sym:∀i,i<288->c (o+16+i)=.int .i64 (s.sym i)
 total:c (o+304)=.int .i64 (s.total:Int)
 longest:c (o+305)=.int .i64 (s.longest:Int)
theorem CSV.congr{c d o s}(h:CSV c o s)(e:∀a,o<=a->a<o+306->d a=c a):CSV d o s:=
 ⟨λa b=>(e _ O O).trans (h.count a b),λa b=>(e _ O O).trans (h.sym a b),(e _ O O).trans h.total,(e _ O O).trans h.longest⟩
theorem CSV.set_count{c o s}(h:CSV c o s)k(v:Nat)(e:k<16):CSV (upd c (o+k) (.int .i64 v)) o {s with count:=upd s.count k v} :=
 ⟨λa b=>by
  by_cases d:a=k
  .subst d;rw[upd_same];show _=Value.int .i64 ((upd s.count a v a:Nat):Int);rw[upd_same]
  .rw[upd_ne _ _ _ O];show _=Value.int .i64 ((upd s.count k v a:Nat):Int);rw[upd_ne _ _ _ d];exact h.count a b,λa b=>un (h.sym a b),un h.total,un h.longest⟩
theorem CSV.set_sym{c o s}(h:CSV c o s)k(v:Nat)(e:k<288):CSV (upd c (o+16+k) (.int .i64 v)) o {s with sym:=upd s.sym k v} :=
 ⟨λa b=>un (h.count a b),λa b=>by
  by_cases d:a=k
  .subst d;rw[upd_same];show _=Value.int .i64 ((upd s.sym a v a:Nat):Int);rw[upd_same]
  .rw[upd_ne _ _ _ O];show _=Value.int .i64 ((upd s.sym k v a:Nat):Int);rw[upd_ne _ _ _ d];exact h.sym a b,un h.total,un h.longest⟩
theorem CSV.set_total{c o s}(h:CSV c o s)(v:Nat):CSV (upd c (o+304) (.int .i64 v)) o {s with total:=v} :=
 ⟨λa b=>un (h.count a b),λa b=>un (h.sym a b),upd_same _ _ _,un h.longest⟩
theorem CSV.set_longest{c o s}(h:CSV c o s)(v:Nat):CSV (upd c (o+305) (.int .i64 v)) o {s with longest:=v} :=
 ⟨λa b=>un (h.count a b),λa b=>un (h.sym a b),un h.total,upd_same _ _ _⟩
structure Tb where
 literals:Nat
 distances:Nat
 shorts:Nat
 short:CS
 sl:Nat->Nat
 ls:Nat->Nat
 told:Nat
 rep:Int
structure TbV (c:Nat->Value) (o:Nat) (s:Tb):Prop where
 literals:c (o)=.int .i64 (s.literals:Int)
 distances:c (o+1)=.int .i64 (s.distances:Int)
 shorts:c (o+2)=.int .i64 (s.shorts:Int)
 short:CSV c (o+3) s.short
 sl:∀i,i<19->c (o+309+i)=.int .u8 (s.sl i)
 ls:∀i,i<316->c (o+328+i)=.int .u8 (s.ls i)
 told:c (o+644)=.int .i64 (s.told:Int)
 rep:c (o+645)=.int .i64 s.rep
theorem TbV.congr{c d o s}(h:TbV c o s)(e:∀a,o<=a->a<o+646->d a=c a):TbV d o s:=
 ⟨(e _ O O).trans h.literals,(e _ O O).trans h.distances,(e _ O O).trans h.shorts,h.short.congr (λa f g=>e a O O),λa b=>(e _ O O).trans (h.sl a b),λa b=>(e _ O O).trans (h.ls a b),(e _ O O).trans h.told,(e _ O O).trans h.rep⟩
theorem TbV.set_short{c d o s}(h:TbV c o s)v(f:CSV d (o+3) v)(e:∀a,¬(o+3<=a/\a<o+309)->d a=c a):TbV d o {s with short:=v} :=
 ⟨(e _ O).trans h.literals,(e _ O).trans h.distances,(e _ O).trans h.shorts,f,λa b=>(e _ O).trans (h.sl a b),λa b=>(e _ O).trans (h.ls a b),(e _ O).trans h.told,(e _ O).trans h.rep⟩
theorem TbV.set_sl{c o s}(h:TbV c o s)k(v:Nat)(e:k<19):TbV (upd c (o+309+k) (.int .u8 v)) o {s with sl:=upd s.sl k v} :=
 ⟨un h.literals,un h.distances,un h.shorts,h.short.congr uc,λa b=>by
  by_cases d:a=k
  .subst d;rw[upd_same];show _=Value.int .u8 ((upd s.sl a v a:Nat):Int);rw[upd_same]
  .rw[upd_ne _ _ _ O];show _=Value.int .u8 ((upd s.sl k v a:Nat):Int);rw[upd_ne _ _ _ d];exact h.sl a b,λa b=>un (h.ls a b),un h.told,un h.rep⟩
theorem TbV.set_ls{c o s}(h:TbV c o s)k(v:Nat)(e:k<316):TbV (upd c (o+328+k) (.int .u8 v)) o {s with ls:=upd s.ls k v} :=
 ⟨un h.literals,un h.distances,un h.shorts,h.short.congr uc,λa b=>un (h.sl a b),λa b=>by
  by_cases d:a=k
  .subst d;rw[upd_same];show _=Value.int .u8 ((upd s.ls a v a:Nat):Int);rw[upd_same]
  .rw[upd_ne _ _ _ O];show _=Value.int .u8 ((upd s.ls k v a:Nat):Int);rw[upd_ne _ _ _ d];exact h.ls a b,un h.told,un h.rep⟩
theorem TbV.set_told{c o s}(h:TbV c o s)(v:Nat):TbV (upd c (o+644) (.int .i64 v)) o {s with told:=v} :=
 ⟨un h.literals,un h.distances,un h.shorts,h.short.congr uc,λa b=>un (h.sl a b),λa b=>un (h.ls a b),upd_same _ _ _,un h.rep⟩
theorem TbV.set_rep{c o s}(h:TbV c o s)v:TbV (upd c (o+645) (.int .i64 v)) o {s with rep:=v} :=
 ⟨un h.literals,un h.distances,un h.shorts,h.short.congr uc,λa b=>un (h.sl a b),λa b=>un (h.ls a b),un h.told,upd_same _ _ _⟩
structure St where
 part:Nat
 number:Nat
 got:Nat
 wanted:Nat
 path:Pt
 skip:Bool
 window:Nat
 last:Bool
 left:Nat
 lit:CS
 dist:CS
 tb:Tb
 length:Nat
 base:Nat
 hist:Nat->Nat
 count:Nat
 sum:Nat
structure StV (c:Nat->Value) (o:Nat) (s:St):Prop where
 part:c (o)=.int .i64 (s.part:Int)
 number:c (o+1)=.int .u32 (s.number:Int)
 got:c (o+2)=.int .u64 (s.got:Int)
 wanted:c (o+3)=.int .u64 (s.wanted:Int)
 path:PtV c (o+4) s.path
 skip:c (o+7)=.bool s.skip
 window:c (o+8)=.int .i64 (s.window:Int)
 last:c (o+9)=.bool s.last
 left:c (o+10)=.int .i64 (s.left:Int)
 lit:CSV c (o+11) s.lit
 dist:CSV c (o+317) s.dist
 tb:TbV c (o+623) s.tb
 length:c (o+1269)=.int .i64 (s.length:Int)
 base:c (o+1270)=.int .i64 (s.base:Int)
 hist:∀i,i<2078->c (o+1271+i)=.int .u8 (s.hist i)
 count:c (o+3349)=.int .i64 (s.count:Int)
 sum:c (o+3350)=.int .u32 (s.sum:Int)
theorem StV.congr{c d o s}(h:StV c o s)(e:∀a,o<=a->a<o+3351->d a=c a):StV d o s:=
 ⟨(e _ O O).trans h.part,(e _ O O).trans h.number,(e _ O O).trans h.got,(e _ O O).trans h.wanted,h.path.congr (λa b f=>e a O O),(e _ O O).trans h.skip,(e _ O O).trans h.window,(e _ O O).trans h.last,(e _ O O).trans h.left,h.lit.congr (λa b f=>e a O O),h.dist.congr (λa b f=>e a O O),h.tb.congr (λa b f=>e a O O),(e _ O O).trans h.length,(e _ O O).trans h.base,λa g=>(e _ O O).trans (h.hist a g),(e _ O O).trans h.count,(e _ O O).trans h.sum⟩
theorem StV.set_part{c o s}(h:StV c o s)(v:Nat):StV (upd c (o) (.int .i64 v)) o {s with part:=v} :=
 ⟨upd_same _ _ _,un h.number,un h.got,un h.wanted,h.path.congr uc,un h.skip,un h.window,un h.last,un h.left,h.lit.congr uc,h.dist.congr uc,h.tb.congr uc,un h.length,un h.base,λa b=>un (h.hist a b),un h.count,un h.sum⟩
theorem StV.set_number{c o s}(h:StV c o s)(v:Nat):StV (upd c (o+1) (.int .u32 v)) o {s with number:=v} :=
 ⟨un h.part,upd_same _ _ _,un h.got,un h.wanted,h.path.congr uc,un h.skip,un h.window,un h.last,un h.left,h.lit.congr uc,h.dist.congr uc,h.tb.congr uc,un h.length,un h.base,λa b=>un (h.hist a b),un h.count,un h.sum⟩
theorem StV.set_got{c o s}(h:StV c o s)(v:Nat):StV (upd c (o+2) (.int .u64 v)) o {s with got:=v} :=
 ⟨un h.part,un h.number,upd_same _ _ _,un h.wanted,h.path.congr uc,un h.skip,un h.window,un h.last,un h.left,h.lit.congr uc,h.dist.congr uc,h.tb.congr uc,un h.length,un h.base,λa b=>un (h.hist a b),un h.count,un h.sum⟩
theorem StV.set_wanted{c o s}(h:StV c o s)(v:Nat):StV (upd c (o+3) (.int .u64 v)) o {s with wanted:=v} :=
 ⟨un h.part,un h.number,un h.got,upd_same _ _ _,h.path.congr uc,un h.skip,un h.window,un h.last,un h.left,h.lit.congr uc,h.dist.congr uc,h.tb.congr uc,un h.length,un h.base,λa b=>un (h.hist a b),un h.count,un h.sum⟩
theorem StV.set_path{c d o s}(h:StV c o s)v(g:PtV d (o+4) v)(e:∀a,¬(o+4<=a/\a<o+7)->d a=c a):StV d o {s with path:=v} :=
 ⟨(e _ O).trans h.part,(e _ O).trans h.number,(e _ O).trans h.got,(e _ O).trans h.wanted,g,(e _ O).trans h.skip,(e _ O).trans h.window,(e _ O).trans h.last,(e _ O).trans h.left,h.lit.congr (λa b f=>e _ O),h.dist.congr (λa b f=>e _ O),h.tb.congr (λa b f=>e _ O),(e _ O).trans h.length,(e _ O).trans h.base,λa i=>(e _ O).trans (h.hist a i),(e _ O).trans h.count,(e _ O).trans h.sum⟩
theorem StV.set_skip{c o s}(h:StV c o s)v:StV (upd c (o+7) (.bool v)) o {s with skip:=v} :=
 ⟨un h.part,un h.number,un h.got,un h.wanted,h.path.congr uc,upd_same _ _ _,un h.window,un h.last,un h.left,h.lit.congr uc,h.dist.congr uc,h.tb.congr uc,un h.length,un h.base,λa b=>un (h.hist a b),un h.count,un h.sum⟩
theorem StV.set_window{c o s}(h:StV c o s)(v:Nat):StV (upd c (o+8) (.int .i64 v)) o {s with window:=v} :=
 ⟨un h.part,un h.number,un h.got,un h.wanted,h.path.congr uc,un h.skip,upd_same _ _ _,un h.last,un h.left,h.lit.congr uc,h.dist.congr uc,h.tb.congr uc,un h.length,un h.base,λa b=>un (h.hist a b),un h.count,un h.sum⟩
theorem StV.set_last{c o s}(h:StV c o s)v:StV (upd c (o+9) (.bool v)) o {s with last:=v} :=
 ⟨un h.part,un h.number,un h.got,un h.wanted,h.path.congr uc,un h.skip,un h.window,upd_same _ _ _,un h.left,h.lit.congr uc,h.dist.congr uc,h.tb.congr uc,un h.length,un h.base,λa b=>un (h.hist a b),un h.count,un h.sum⟩
theorem StV.set_left{c o s}(h:StV c o s)(v:Nat):StV (upd c (o+10) (.int .i64 v)) o {s with left:=v} :=
 ⟨un h.part,un h.number,un h.got,un h.wanted,h.path.congr uc,un h.skip,un h.window,un h.last,upd_same _ _ _,h.lit.congr uc,h.dist.congr uc,h.tb.congr uc,un h.length,un h.base,λa b=>un (h.hist a b),un h.count,un h.sum⟩
theorem StV.set_lit{c d o s}(h:StV c o s)v(g:CSV d (o+11) v)(e:∀a,¬(o+11<=a/\a<o+317)->d a=c a):StV d o {s with lit:=v} :=
 ⟨(e _ O).trans h.part,(e _ O).trans h.number,(e _ O).trans h.got,(e _ O).trans h.wanted,h.path.congr (λa b f=>e _ O),(e _ O).trans h.skip,(e _ O).trans h.window,(e _ O).trans h.last,(e _ O).trans h.left,g,h.dist.congr (λa b f=>e _ O),h.tb.congr (λa b f=>e _ O),(e _ O).trans h.length,(e _ O).trans h.base,λa i=>(e _ O).trans (h.hist a i),(e _ O).trans h.count,(e _ O).trans h.sum⟩
theorem StV.set_dist{c d o s}(h:StV c o s)v(g:CSV d (o+317) v)(e:∀a,¬(o+317<=a/\a<o+623)->d a=c a):StV d o {s with dist:=v} :=
 ⟨(e _ O).trans h.part,(e _ O).trans h.number,(e _ O).trans h.got,(e _ O).trans h.wanted,h.path.congr (λa b f=>e _ O),(e _ O).trans h.skip,(e _ O).trans h.window,(e _ O).trans h.last,(e _ O).trans h.left,h.lit.congr (λa b f=>e _ O),g,h.tb.congr (λa b f=>e _ O),(e _ O).trans h.length,(e _ O).trans h.base,λa i=>(e _ O).trans (h.hist a i),(e _ O).trans h.count,(e _ O).trans h.sum⟩
theorem StV.set_length{c o s}(h:StV c o s)(v:Nat):StV (upd c (o+1269) (.int .i64 v)) o {s with length:=v} :=
 ⟨un h.part,un h.number,un h.got,un h.wanted,h.path.congr uc,un h.skip,un h.window,un h.last,un h.left,h.lit.congr uc,h.dist.congr uc,h.tb.congr uc,upd_same _ _ _,un h.base,λa b=>un (h.hist a b),un h.count,un h.sum⟩
theorem StV.set_base{c o s}(h:StV c o s)(v:Nat):StV (upd c (o+1270) (.int .i64 v)) o {s with base:=v} :=
 ⟨un h.part,un h.number,un h.got,un h.wanted,h.path.congr uc,un h.skip,un h.window,un h.last,un h.left,h.lit.congr uc,h.dist.congr uc,h.tb.congr uc,un h.length,upd_same _ _ _,λa b=>un (h.hist a b),un h.count,un h.sum⟩
theorem StV.set_hist{c o s}(h:StV c o s)k(v:Nat)(e:k<2078):StV (upd c (o+1271+k) (.int .u8 v)) o {s with hist:=upd s.hist k v} :=
 ⟨un h.part,un h.number,un h.got,un h.wanted,h.path.congr uc,un h.skip,un h.window,un h.last,un h.left,h.lit.congr uc,h.dist.congr uc,h.tb.congr uc,un h.length,un h.base,λa d=>by
  by_cases b:a=k
  .subst b;rw[upd_same];show _=Value.int .u8 ((upd s.hist a v a:Nat):Int);rw[upd_same]
  .rw[upd_ne _ _ _ O];show _=Value.int .u8 ((upd s.hist k v a:Nat):Int);rw[upd_ne _ _ _ b];exact h.hist a d,un h.count,un h.sum⟩
theorem StV.set_count{c o s}(h:StV c o s)(v:Nat):StV (upd c (o+3349) (.int .i64 v)) o {s with count:=v} :=
 ⟨un h.part,un h.number,un h.got,un h.wanted,h.path.congr uc,un h.skip,un h.window,un h.last,un h.left,h.lit.congr uc,h.dist.congr uc,h.tb.congr uc,un h.length,un h.base,λa b=>un (h.hist a b),upd_same _ _ _,un h.sum⟩
theorem StV.set_sum{c o s}(h:StV c o s)(v:Nat):StV (upd c (o+3350) (.int .u32 v)) o {s with sum:=v} :=
 ⟨un h.part,un h.number,un h.got,un h.wanted,h.path.congr uc,un h.skip,un h.window,un h.last,un h.left,h.lit.congr uc,h.dist.congr uc,h.tb.congr uc,un h.length,un h.base,λa b=>un (h.hist a b),un h.count,upd_same _ _ _⟩
structure Hd where
 W:Nat
 H:Nat
 D:Nat
 K:Nat
 L:Nat
structure HdV (c:Nat->Value) (o:Nat) (s:Hd):Prop where
 W:c (o)=.int .i64 (s.W:Int)
 H:c (o+1)=.int .i64 (s.H:Int)
 D:c (o+2)=.int .i64 (s.D:Int)
 K:c (o+3)=.int .i64 (s.K:Int)
 L:c (o+4)=.int .i64 (s.L:Int)
theorem HdV.congr{c d o s}(h:HdV c o s)(e:∀a,o<=a->a<o+5->d a=c a):HdV d o s:=
 ⟨(e _ O O).trans h.W,(e _ O O).trans h.H,(e _ O O).trans h.D,(e _ O O).trans h.K,(e _ O O).trans h.L⟩
theorem HdV.set_W{c o s}(h:HdV c o s)(v:Nat):HdV (upd c (o) (.int .i64 v)) o {s with W:=v} :=
 ⟨upd_same _ _ _,un h.H,un h.D,un h.K,un h.L⟩
theorem HdV.set_H{c o s}(h:HdV c o s)(v:Nat):HdV (upd c (o+1) (.int .i64 v)) o {s with H:=v} :=
 ⟨un h.W,upd_same _ _ _,un h.D,un h.K,un h.L⟩
theorem HdV.set_D{c o s}(h:HdV c o s)(v:Nat):HdV (upd c (o+2) (.int .i64 v)) o {s with D:=v} :=
 ⟨un h.W,un h.H,upd_same _ _ _,un h.K,un h.L⟩
theorem HdV.set_K{c o s}(h:HdV c o s)(v:Nat):HdV (upd c (o+3) (.int .i64 v)) o {s with K:=v} :=
 ⟨un h.W,un h.H,un h.D,upd_same _ _ _,un h.L⟩
theorem HdV.set_L{c o s}(h:HdV c o s)(v:Nat):HdV (upd c (o+4) (.int .i64 v)) o {s with L:=v} :=
 ⟨un h.W,un h.H,un h.D,un h.K,upd_same _ _ _⟩
structure Rw where
 hd:Hd
 colours:Nat
 pass:Int
 line:Nat
 columns:Nat
 lines:Nat
 size:Nat
 taken:Nat
 filter:Nat
 row:Nat->Nat
 above:Nat->Nat
 known:Nat->Bool
 smp:Nat->Nat
structure RwV (c:Nat->Value) (o:Nat) (s:Rw):Prop where
 hd:HdV c (o) s.hd
 colours:c (o+5)=.int .i64 (s.colours:Int)
 pass:c (o+6)=.int .i64 s.pass
 line:c (o+7)=.int .i64 (s.line:Int)
 columns:c (o+8)=.int .i64 (s.columns:Int)
 lines:c (o+9)=.int .i64 (s.lines:Int)
 size:c (o+10)=.int .i64 (s.size:Int)
 taken:c (o+11)=.int .i64 (s.taken:Int)
 filter:c (o+12)=.int .u8 (s.filter:Int)
 row:∀i,i<128->c (o+13+i)=.int .u8 (s.row i)
 above:∀i,i<128->c (o+141+i)=.int .u8 (s.above i)
 known:∀i,i<256->c (o+269+i)=.bool (s.known i)
 smp:∀i,i<1024->c (o+525+i)=.int .u16 (s.smp i)
theorem RwV.congr{c d o s}(h:RwV c o s)(e:∀a,o<=a->a<o+1549->d a=c a):RwV d o s:=
 ⟨h.hd.congr (λa f g=>e a O O),(e _ O O).trans h.colours,(e _ O O).trans h.pass,(e _ O O).trans h.line,(e _ O O).trans h.columns,(e _ O O).trans h.lines,(e _ O O).trans h.size,(e _ O O).trans h.taken,(e _ O O).trans h.filter,λa b=>(e _ O O).trans (h.row a b),λa b=>(e _ O O).trans (h.above a b),λa b=>(e _ O O).trans (h.known a b),λa b=>(e _ O O).trans (h.smp a b)⟩
theorem RwV.set_pass{c o s}(h:RwV c o s)v:RwV (upd c (o+6) (.int .i64 v)) o {s with pass:=v} :=
 ⟨h.hd.congr uc,un h.colours,upd_same _ _ _,un h.line,un h.columns,un h.lines,un h.size,un h.taken,un h.filter,λa b=>un (h.row a b),λa b=>un (h.above a b),λa b=>un (h.known a b),λa b=>un (h.smp a b)⟩
theorem RwV.set_line{c o s}(h:RwV c o s)(v:Nat):RwV (upd c (o+7) (.int .i64 v)) o {s with line:=v} :=
 ⟨h.hd.congr uc,un h.colours,un h.pass,upd_same _ _ _,un h.columns,un h.lines,un h.size,un h.taken,un h.filter,λa b=>un (h.row a b),λa b=>un (h.above a b),λa b=>un (h.known a b),λa b=>un (h.smp a b)⟩
theorem RwV.set_columns{c o s}(h:RwV c o s)(v:Nat):RwV (upd c (o+8) (.int .i64 v)) o {s with columns:=v} :=
 ⟨h.hd.congr uc,un h.colours,un h.pass,un h.line,upd_same _ _ _,un h.lines,un h.size,un h.taken,un h.filter,λa b=>un (h.row a b),λa b=>un (h.above a b),λa b=>un (h.known a b),λa b=>un (h.smp a b)⟩
theorem RwV.set_lines{c o s}(h:RwV c o s)(v:Nat):RwV (upd c (o+9) (.int .i64 v)) o {s with lines:=v} :=
 ⟨h.hd.congr uc,un h.colours,un h.pass,un h.line,un h.columns,upd_same _ _ _,un h.size,un h.taken,un h.filter,λa b=>un (h.row a b),λa b=>un (h.above a b),λa b=>un (h.known a b),λa b=>un (h.smp a b)⟩
theorem RwV.set_size{c o s}(h:RwV c o s)(v:Nat):RwV (upd c (o+10) (.int .i64 v)) o {s with size:=v} :=
 ⟨h.hd.congr uc,un h.colours,un h.pass,un h.line,un h.columns,un h.lines,upd_same _ _ _,un h.taken,un h.filter,λa b=>un (h.row a b),λa b=>un (h.above a b),λa b=>un (h.known a b),λa b=>un (h.smp a b)⟩
theorem RwV.set_taken{c o s}(h:RwV c o s)(v:Nat):RwV (upd c (o+11) (.int .i64 v)) o {s with taken:=v} :=
 ⟨h.hd.congr uc,un h.colours,un h.pass,un h.line,un h.columns,un h.lines,un h.size,upd_same _ _ _,un h.filter,λa b=>un (h.row a b),λa b=>un (h.above a b),λa b=>un (h.known a b),λa b=>un (h.smp a b)⟩
theorem RwV.set_filter{c o s}(h:RwV c o s)(v:Nat):RwV (upd c (o+12) (.int .u8 v)) o {s with filter:=v} :=
 ⟨h.hd.congr uc,un h.colours,un h.pass,un h.line,un h.columns,un h.lines,un h.size,un h.taken,upd_same _ _ _,λa b=>un (h.row a b),λa b=>un (h.above a b),λa b=>un (h.known a b),λa b=>un (h.smp a b)⟩
theorem RwV.set_row{c o s}(h:RwV c o s)k(v:Nat)(e:k<128):RwV (upd c (o+13+k) (.int .u8 v)) o {s with row:=upd s.row k v} :=
 ⟨h.hd.congr uc,un h.colours,un h.pass,un h.line,un h.columns,un h.lines,un h.size,un h.taken,un h.filter,λa b=>by
  by_cases d:a=k
  .subst d;rw[upd_same];show _=Value.int .u8 ((upd s.row a v a:Nat):Int);rw[upd_same]
  .rw[upd_ne _ _ _ O];show _=Value.int .u8 ((upd s.row k v a:Nat):Int);rw[upd_ne _ _ _ d];exact h.row a b,λa b=>un (h.above a b),λa b=>un (h.known a b),λa b=>un (h.smp a b)⟩
theorem RwV.all_above{c d o s}(h:RwV c o s)f(b:∀i,i<128->d (o+141+i)=.int .u8 (f i))(e:∀i,¬(o+141<=i/\i<o+269)->d i=c i):RwV d o {s with above:=f} :=
 ⟨h.hd.congr (λi g j=>e _ O),(e _ O).trans h.colours,(e _ O).trans h.pass,(e _ O).trans h.line,(e _ O).trans h.columns,(e _ O).trans h.lines,(e _ O).trans h.size,(e _ O).trans h.taken,(e _ O).trans h.filter,λi a=>(e _ O).trans (h.row i a),b,λi a=>(e _ O).trans (h.known i a),λi a=>(e _ O).trans (h.smp i a)⟩
theorem RwV.set_known{c o s}(h:RwV c o s)k v(e:k<256):RwV (upd c (o+269+k) (.bool v)) o {s with known:=upd s.known k v} :=
 ⟨h.hd.congr uc,un h.colours,un h.pass,un h.line,un h.columns,un h.lines,un h.size,un h.taken,un h.filter,λa b=>un (h.row a b),λa b=>un (h.above a b),λa b=>by
  by_cases d:a=k
  .subst d;rw[upd_same];show _=Value.bool (upd s.known a v a);rw[upd_same]
  .rw[upd_ne _ _ _ O];show _=Value.bool (upd s.known k v a);rw[upd_ne _ _ _ d];exact h.known a b,λa b=>un (h.smp a b)⟩
theorem RwV.set_smp{c o s}(h:RwV c o s)k(v:Nat)(e:k<1024):RwV (upd c (o+525+k) (.int .u16 v)) o {s with smp:=upd s.smp k v} :=
 ⟨h.hd.congr uc,un h.colours,un h.pass,un h.line,un h.columns,un h.lines,un h.size,un h.taken,un h.filter,λa b=>un (h.row a b),λa b=>un (h.above a b),λa b=>un (h.known a b),λa b=>by
  by_cases d:a=k
  .subst d;rw[upd_same];show _=Value.int .u16 ((upd s.smp a v a:Nat):Int);rw[upd_same]
  .rw[upd_ne _ _ _ O];show _=Value.int .u16 ((upd s.smp k v a:Nat):Int);rw[upd_ne _ _ _ d];exact h.smp a b⟩
structure Tl where
 pal:Nat->Nat
 clear:Nat->Nat
 colours:Nat
 clears:Nat
structure TlV (c:Nat->Value) (o:Nat) (s:Tl):Prop where
 pal:∀i,i<768->c (o+i)=.int .u8 (s.pal i)
 clear:∀i,i<256->c (o+768+i)=.int .u8 (s.clear i)
 colours:c (o+1024)=.int .i64 (s.colours:Int)
 clears:c (o+1025)=.int .i64 (s.clears:Int)
theorem TlV.congr{c d o s}(h:TlV c o s)(e:∀a,o<=a->a<o+1026->d a=c a):TlV d o s:=
 ⟨λa b=>(e _ O O).trans (h.pal a b),λa b=>(e _ O O).trans (h.clear a b),(e _ O O).trans h.colours,(e _ O O).trans h.clears⟩
theorem TlV.set_pal{c o s}(h:TlV c o s)k(v:Nat)(e:k<768):TlV (upd c (o+k) (.int .u8 v)) o {s with pal:=upd s.pal k v} :=
 ⟨λa b=>by
  by_cases d:a=k
  .subst d;rw[upd_same];show _=Value.int .u8 ((upd s.pal a v a:Nat):Int);rw[upd_same]
  .rw[upd_ne _ _ _ O];show _=Value.int .u8 ((upd s.pal k v a:Nat):Int);rw[upd_ne _ _ _ d];exact h.pal a b,λa b=>un (h.clear a b),un h.colours,un h.clears⟩
theorem TlV.set_clear{c o s}(h:TlV c o s)k(v:Nat)(e:k<256):TlV (upd c (o+768+k) (.int .u8 v)) o {s with clear:=upd s.clear k v} :=
 ⟨λa b=>un (h.pal a b),λa b=>by
  by_cases d:a=k
  .subst d;rw[upd_same];show _=Value.int .u8 ((upd s.clear a v a:Nat):Int);rw[upd_same]
  .rw[upd_ne _ _ _ O];show _=Value.int .u8 ((upd s.clear k v a:Nat):Int);rw[upd_ne _ _ _ d];exact h.clear a b,un h.colours,un h.clears⟩
theorem TlV.set_colours{c o s}(h:TlV c o s)(v:Nat):TlV (upd c (o+1024) (.int .i64 v)) o {s with colours:=v} :=
 ⟨λa b=>un (h.pal a b),λa b=>un (h.clear a b),upd_same _ _ _,un h.clears⟩
theorem TlV.set_clears{c o s}(h:TlV c o s)(v:Nat):TlV (upd c (o+1025) (.int .i64 v)) o {s with clears:=v} :=
 ⟨λa b=>un (h.pal a b),λa b=>un (h.clear a b),un h.colours,upd_same _ _ _⟩
structure Rd where
 part:Nat
 taken:Nat
 number:Nat
 length:Nat
 ctype:Nat
 sum:Nat
 hd:Hd
 raw:Nat->Nat
 tl:Tl
 st:St
 rw:Rw
 sp:Bool
 sc:Bool
 sd:Bool
 dov:Bool
structure RdV (c:Nat->Value) (o:Nat) (s:Rd):Prop where
 part:c (o)=.int .i64 (s.part:Int)
 taken:c (o+1)=.int .u32 (s.taken:Int)
 number:c (o+2)=.int .u32 (s.number:Int)
 length:c (o+3)=.int .u32 (s.length:Int)
 ctype:c (o+4)=.int .u32 (s.ctype:Int)
 sum:c (o+5)=.int .u32 (s.sum:Int)
 hd:HdV c (o+6) s.hd
 raw:∀i,i<13->c (o+11+i)=.int .u8 (s.raw i)
 tl:TlV c (o+24) s.tl
 st:StV c (o+1050) s.st
 rw:RwV c (o+4401) s.rw
 sp:c (o+5950)=.bool s.sp
 sc:c (o+5951)=.bool s.sc
 sd:c (o+5952)=.bool s.sd
 dov:c (o+5953)=.bool s.dov
theorem RdV.congr{c d o s}(h:RdV c o s)(e:∀a,o<=a->a<o+5954->d a=c a):RdV d o s:=
 ⟨(e _ O O).trans h.part,(e _ O O).trans h.taken,(e _ O O).trans h.number,(e _ O O).trans h.length,(e _ O O).trans h.ctype,(e _ O O).trans h.sum,h.hd.congr (λa b f=>e a O O),λa g=>(e _ O O).trans (h.raw a g),h.tl.congr (λa b f=>e a O O),h.st.congr (λa b f=>e a O O),h.rw.congr (λa b f=>e a O O),(e _ O O).trans h.sp,(e _ O O).trans h.sc,(e _ O O).trans h.sd,(e _ O O).trans h.dov⟩
theorem RdV.set_part{c o s}(h:RdV c o s)(v:Nat):RdV (upd c (o) (.int .i64 v)) o {s with part:=v} :=
 ⟨upd_same _ _ _,un h.taken,un h.number,un h.length,un h.ctype,un h.sum,h.hd.congr uc,λa b=>un (h.raw a b),h.tl.congr uc,h.st.congr uc,h.rw.congr uc,un h.sp,un h.sc,un h.sd,un h.dov⟩
theorem RdV.set_taken{c o s}(h:RdV c o s)(v:Nat):RdV (upd c (o+1) (.int .u32 v)) o {s with taken:=v} :=
 ⟨un h.part,upd_same _ _ _,un h.number,un h.length,un h.ctype,un h.sum,h.hd.congr uc,λa b=>un (h.raw a b),h.tl.congr uc,h.st.congr uc,h.rw.congr uc,un h.sp,un h.sc,un h.sd,un h.dov⟩
theorem RdV.set_number{c o s}(h:RdV c o s)(v:Nat):RdV (upd c (o+2) (.int .u32 v)) o {s with number:=v} :=
 ⟨un h.part,un h.taken,upd_same _ _ _,un h.length,un h.ctype,un h.sum,h.hd.congr uc,λa b=>un (h.raw a b),h.tl.congr uc,h.st.congr uc,h.rw.congr uc,un h.sp,un h.sc,un h.sd,un h.dov⟩
theorem RdV.set_length{c o s}(h:RdV c o s)(v:Nat):RdV (upd c (o+3) (.int .u32 v)) o {s with length:=v} :=
 ⟨un h.part,un h.taken,un h.number,upd_same _ _ _,un h.ctype,un h.sum,h.hd.congr uc,λa b=>un (h.raw a b),h.tl.congr uc,h.st.congr uc,h.rw.congr uc,un h.sp,un h.sc,un h.sd,un h.dov⟩
theorem RdV.set_ctype{c o s}(h:RdV c o s)(v:Nat):RdV (upd c (o+4) (.int .u32 v)) o {s with ctype:=v} :=
 ⟨un h.part,un h.taken,un h.number,un h.length,upd_same _ _ _,un h.sum,h.hd.congr uc,λa b=>un (h.raw a b),h.tl.congr uc,h.st.congr uc,h.rw.congr uc,un h.sp,un h.sc,un h.sd,un h.dov⟩
theorem RdV.set_sum{c o s}(h:RdV c o s)(v:Nat):RdV (upd c (o+5) (.int .u32 v)) o {s with sum:=v} :=
 ⟨un h.part,un h.taken,un h.number,un h.length,un h.ctype,upd_same _ _ _,h.hd.congr uc,λa b=>un (h.raw a b),h.tl.congr uc,h.st.congr uc,h.rw.congr uc,un h.sp,un h.sc,un h.sd,un h.dov⟩
theorem RdV.set_hd{c d o s}(h:RdV c o s)v(g:HdV d (o+6) v)(e:∀a,¬(o+6<=a/\a<o+11)->d a=c a):RdV d o {s with hd:=v} :=
 ⟨(e _ O).trans h.part,(e _ O).trans h.taken,(e _ O).trans h.number,(e _ O).trans h.length,(e _ O).trans h.ctype,(e _ O).trans h.sum,g,λa i=>(e _ O).trans (h.raw a i),h.tl.congr (λa b f=>e _ O),h.st.congr (λa b f=>e _ O),h.rw.congr (λa b f=>e _ O),(e _ O).trans h.sp,(e _ O).trans h.sc,(e _ O).trans h.sd,(e _ O).trans h.dov⟩
theorem RdV.set_raw{c o s}(h:RdV c o s)k(v:Nat)(e:k<13):RdV (upd c (o+11+k) (.int .u8 v)) o {s with raw:=upd s.raw k v} :=
 ⟨un h.part,un h.taken,un h.number,un h.length,un h.ctype,un h.sum,h.hd.congr uc,λa d=>by
  by_cases b:a=k
  .subst b;rw[upd_same];show _=Value.int .u8 ((upd s.raw a v a:Nat):Int);rw[upd_same]
  .rw[upd_ne _ _ _ O];show _=Value.int .u8 ((upd s.raw k v a:Nat):Int);rw[upd_ne _ _ _ b];exact h.raw a d,h.tl.congr uc,h.st.congr uc,h.rw.congr uc,un h.sp,un h.sc,un h.sd,un h.dov⟩
theorem RdV.set_tl{c d o s}(h:RdV c o s)v(g:TlV d (o+24) v)(e:∀a,¬(o+24<=a/\a<o+1050)->d a=c a):RdV d o {s with tl:=v} :=
 ⟨(e _ O).trans h.part,(e _ O).trans h.taken,(e _ O).trans h.number,(e _ O).trans h.length,(e _ O).trans h.ctype,(e _ O).trans h.sum,h.hd.congr (λa b f=>e _ O),λa i=>(e _ O).trans (h.raw a i),g,h.st.congr (λa b f=>e _ O),h.rw.congr (λa b f=>e _ O),(e _ O).trans h.sp,(e _ O).trans h.sc,(e _ O).trans h.sd,(e _ O).trans h.dov⟩
theorem RdV.set_st{c d o s}(h:RdV c o s)v(g:StV d (o+1050) v)(e:∀a,¬(o+1050<=a/\a<o+4401)->d a=c a):RdV d o {s with st:=v} :=
 ⟨(e _ O).trans h.part,(e _ O).trans h.taken,(e _ O).trans h.number,(e _ O).trans h.length,(e _ O).trans h.ctype,(e _ O).trans h.sum,h.hd.congr (λa b f=>e _ O),λa i=>(e _ O).trans (h.raw a i),h.tl.congr (λa b f=>e _ O),g,h.rw.congr (λa b f=>e _ O),(e _ O).trans h.sp,(e _ O).trans h.sc,(e _ O).trans h.sd,(e _ O).trans h.dov⟩
theorem RdV.set_rw{c d o s}(h:RdV c o s)v(g:RwV d (o+4401) v)(e:∀a,¬(o+4401<=a/\a<o+5950)->d a=c a):RdV d o {s with rw:=v} :=
 ⟨(e _ O).trans h.part,(e _ O).trans h.taken,(e _ O).trans h.number,(e _ O).trans h.length,(e _ O).trans h.ctype,(e _ O).trans h.sum,h.hd.congr (λa b f=>e _ O),λa i=>(e _ O).trans (h.raw a i),h.tl.congr (λa b f=>e _ O),h.st.congr (λa b f=>e _ O),g,(e _ O).trans h.sp,(e _ O).trans h.sc,(e _ O).trans h.sd,(e _ O).trans h.dov⟩
theorem RdV.set_sp{c o s}(h:RdV c o s)v:RdV (upd c (o+5950) (.bool v)) o {s with sp:=v} :=
 ⟨un h.part,un h.taken,un h.number,un h.length,un h.ctype,un h.sum,h.hd.congr uc,λa b=>un (h.raw a b),h.tl.congr uc,h.st.congr uc,h.rw.congr uc,upd_same _ _ _,un h.sc,un h.sd,un h.dov⟩
theorem RdV.set_sc{c o s}(h:RdV c o s)v:RdV (upd c (o+5951) (.bool v)) o {s with sc:=v} :=
 ⟨un h.part,un h.taken,un h.number,un h.length,un h.ctype,un h.sum,h.hd.congr uc,λa b=>un (h.raw a b),h.tl.congr uc,h.st.congr uc,h.rw.congr uc,un h.sp,upd_same _ _ _,un h.sd,un h.dov⟩
theorem RdV.set_sd{c o s}(h:RdV c o s)v:RdV (upd c (o+5952) (.bool v)) o {s with sd:=v} :=
 ⟨un h.part,un h.taken,un h.number,un h.length,un h.ctype,un h.sum,h.hd.congr uc,λa b=>un (h.raw a b),h.tl.congr uc,h.st.congr uc,h.rw.congr uc,un h.sp,un h.sc,upd_same _ _ _,un h.dov⟩
theorem RdV.set_dov{c o s}(h:RdV c o s)v:RdV (upd c (o+5953) (.bool v)) o {s with dov:=v} :=
 ⟨un h.part,un h.taken,un h.number,un h.length,un h.ctype,un h.sum,h.hd.congr uc,λa b=>un (h.raw a b),h.tl.congr uc,h.st.congr uc,h.rw.congr uc,un h.sp,un h.sc,un h.sd,upd_same _ _ _⟩
structure Dc where
 file:Rd
 count:Nat
 err:Nat
 at1:Nat
structure DcV (c:Nat->Value) (o:Nat) (s:Dc):Prop where
 file:RdV c (o) s.file
 count:c (o+5954)=.int .i64 (s.count:Int)
 err:c (o+5955)=.int .i64 (s.err:Int)
 at1:c (o+5956)=.int .i64 (s.at1:Int)
theorem DcV.set_file{c d o s}(h:DcV c o s)v(b:RdV d (o) v)(e:∀a,¬(o<=a/\a<o+5954)->d a=c a):DcV d o {s with file:=v} :=
 ⟨b,(e _ O).trans h.count,(e _ O).trans h.err,(e _ O).trans h.at1⟩
theorem DcV.set_count{c o s}(h:DcV c o s)(v:Nat):DcV (upd c (o+5954) (.int .i64 v)) o {s with count:=v} :=
 ⟨h.file.congr uc,upd_same _ _ _,un h.err,un h.at1⟩
theorem DcV.set_err{c o s}(h:DcV c o s)(v:Nat):DcV (upd c (o+5955) (.int .i64 v)) o {s with err:=v} :=
 ⟨h.file.congr uc,un h.count,upd_same _ _ _,un h.at1⟩
theorem DcV.set_at1{c o s}(h:DcV c o s)(v:Nat):DcV (upd c (o+5956) (.int .i64 v)) o {s with at1:=v} :=
 ⟨h.file.congr uc,un h.count,un h.err,upd_same _ _ _⟩
structure Blk (w:World) (b n:Nat) (c:Nat->Value):Prop where
 cell:∀i,i<n->w.cell? ⟨b,i,none⟩=some (c i)
 fz:∀i,w.frozen? ⟨b,i,none⟩=false
 lt:b<w.heap.size
theorem Blk.set{w b n c}(h:Blk w b n c){k}(g:k<n)v:Blk (w.setCell ⟨b,k,none⟩ v) b n (upd c k v) :=
 ⟨λa e=>by
  by_cases d:a=k
  .subst d;rw[upd_same];exact af (h.cell a e) _
  .rw[upd_ne _ _ _ d,aa _ _ _ _ _ (λf=>d f.symm)];exact h.cell a e,λa=>by rw[Xy];exact h.fz a,by simpa[World.setCell] using h.lt⟩
theorem Blk.kept{w w' b n c}(h:Blk w b n c)(k:Kept w w'):Blk w' b n c:=
 ⟨λa d=>(k.cell (p:=⟨b,a,none⟩) h.lt).trans (h.cell a d),λa=>(k.frozen (p:=⟨b,a,none⟩) h.lt).trans (h.fz a),Xq h.lt k.size⟩
theorem Blk.fr{S:Nat->Prop}{w w' b n c}(h:Blk w b n c)(k:Fr S w w')(d:¬S b):Blk w' b n c:=
 ⟨λa e=>(k.cell h.lt d).trans (h.cell a e),λa=>(k.frozen h.lt d).trans (h.fz a),Xq h.lt k.size⟩
end Go.Proofs.YtbedkdnphobmlaaGreatDoor
namespace Px
def dst(a b:Nat):Nat:=if a<b then b-a else a-b
def near(l u c:Nat):Nat:=if dst u c<=dst l c/\dst u c<=dst (l+u) (2*c) then l else if dst l c<=dst (l+u) (2*c) then u else c
def gss(f l u c:Nat):Nat:=if f=1 then l else if f=2 then u else if f=3 then(l+u)/2 else if f=4 then near l u c else 0
theorem Dm{l u c}(a:l<256)(b:u<256)(d:c<256):near l u c<256:=by unfold near;split<;>(try split)<;>assumption
theorem Bb{f l u c}(a:l<256)(b:u<256)(d:c<256):gss f l u c<256:=by
 unfold gss;split
 .exact a
 .split
  .exact b
  .split
   .omega
   .split
    .exact Dm a b d
    .omega
def chn(K:Nat):Nat:=if K=0 then 1 else if K=2 then 3 else if K=3 then 1 else if K=4 then 2 else if K=6 then 4 else 0
theorem gN K:chn K<=4:=by
 unfold chn
 (repeat' split)<;>omega
end Px
namespace Go.Proofs.YtbedkdnphobmlaaGreatDoor
open Go.RowKit Px Tryz
theorem If(a b:Nat)w(f:a<=1000)(g:b<=1000):Calls prog 217 #[.int .i64 a,.int .i64 b] w λd e=>d=.returned (.int .i64 (dst a b))/\e=w:=by
 unfold dst;by_cases c:a<b
 .rw[I c]
  go_enter func217,ntmps217;go_wp2;go_ret;exact⟨an O,rfl⟩
 .rw[N c]
  have h:¬(a:Int)<(b:Int):=O;go_enter func217,ntmps217;go_wp2;go_ret;exact⟨an O,rfl⟩
theorem Ht(l a c:Nat)w(A:l<256)(B:a<256)(C:c<256):Calls prog 191 #[.int .u8 l,.int .u8 a,.int .u8 c] w λb d=>b=.returned (.int .u8 (near l a c))/\d=w:=by
 have n:Z (∀(g h:Nat),g<=1000->h<=1000->Calls prog 217 #[.int .i64 g,.int .i64 h] w λb d=>b=.returned (.int .i64 (dst g h))/\d=w):=λg h i j=>If g h w i j
 unfold near;have v:dst a c<=1000:=by unfold dst;split<;>omega
 have x:dst l c<=1000:=by unfold dst;split<;>omega
 have y:dst (l+a) (2*c)<=1000:=by unfold dst;split<;>omega
 obtain⟨k,i⟩:∃m,m=dst a c:=⟨_,rfl⟩;obtain⟨e,j⟩:∃m,m=dst l c:=⟨_,rfl⟩;obtain⟨f,q⟩:∃m,m=dst (l+a) (2*c):=⟨_,rfl⟩;have r:Z (Calls prog 217 #[.int .i64 a,.int .i64 c] w λb d=>b=.returned (.int .i64 k)/\d=w):=by rw[i];exact n.o a c O O
 have s:Z (Calls prog 217 #[.int .i64 l,.int .i64 c] w λb d=>b=.returned (.int .i64 e)/\d=w):=by rw[j];exact n.o l c O O
 have t:Z (Calls prog 217 #[.int .i64 ((l+a:Nat):Int),.int .i64 ((2*c:Nat):Int)] w λb d=>b=.returned (.int .i64 f)/\d=w):=by rw[q];exact n.o (l+a) (2*c) O O
 rw[<-i] at v ⊢;rw[<-j] at x ⊢;rw[<-q] at y ⊢;clear n i j q;have o:(l:Int)+(a:Int)=((l+a:Nat):Int):=O;have p:2*(c:Int)=((2*c:Nat):Int):=O;replace o:Z _:=o;replace p:Z _:=p;go_enter func191,ntmps191;go_wp2_with fail;refine r.o.mono ?_;rintro b u ⟨rfl,rfl⟩;go_wp2_with fail;refine s.o.mono ?_;rintro b u ⟨rfl,rfl⟩;go_wp2_with fail;rw[o.o,p.o];refine t.o.mono ?_;rintro b u ⟨rfl,rfl⟩;clear r s t o p;by_cases D:k<=e
 .by_cases E:k<=f
  .go_wp2
   go_ret;exact⟨rfl,rfl⟩
  .have F:¬(k:Int)<=(f:Int):=O
   have z:¬(e:Int)<=(f:Int):=O;go_wp2;go_ret;exact⟨rfl,rfl⟩
 .have G:¬(k:Int)<=(e:Int):=O
  by_cases H:e<=f
  .go_wp2
   go_ret;exact⟨rfl,rfl⟩
  .have z:¬(e:Int)<=(f:Int):=O
   go_wp2;go_ret;exact⟨rfl,rfl⟩
theorem EU(f l b c:Nat)w(o:f<256)(i:l<256)(j:b<256)(k:c<256):Calls prog 171 #[.int .u8 f,.int .u8 l,.int .u8 b,.int .u8 c] w λg m=>g=.returned (.int .u8 (gss f l b c))/\m=w:=by
 have n:=U (Ht l b c w i j k);unfold gss;by_cases a:f=1
 .subst a
  rw[I rfl];go_enter func171,ntmps171;go_wp2;go_ret;exact⟨rfl,rfl⟩
 by_cases d:f=2
 .subst d
  rw[N a,I rfl];go_enter func171,ntmps171;go_wp2;go_ret;exact⟨rfl,rfl⟩
 by_cases e:f=3
 .subst e
  rw[N a,N d,I rfl];go_enter func171,ntmps171;go_wp2;go_ret;exact⟨an O,rfl⟩
 by_cases h:f=4
 .subst h
  rw[N a,N d,N e,I rfl];go_enter func171,ntmps171;go_wp2_with fail;refine n.o.mono ?_;rintro g p ⟨rfl,rfl⟩;go_wp2;go_ret;exact⟨rfl,rfl⟩
 rw[N a,N d,N e,N h];have q:((f:Int)==1)=false:=Xa;have r:((f:Int)==2)=false:=Xa;have s:((f:Int)==3)=false:=Xa;have t:((f:Int)==4)=false:=Xa;go_enter func171,ntmps171;go_wp2;go_ret;exact⟨rfl,rfl⟩
theorem fj(a:Nat)w(f:a<=255):Calls prog 93 #[.int .i64 a] w λb c=>b=.returned (.int .i64 (chn a))/\c=w:=by
 by_cases d:a=0\/a=2\/a=3\/a=4\/a=6
 .rcases d with rfl|rfl|rfl|rfl|rfl
  all_goals
   go_enter func93,ntmps93;go_wp2;go_ret;exact⟨rfl,rfl⟩
 .have e:chn a=0:=by unfold chn;rw[N,N,N,N,N]
  rw[e];have g:((a:Int)==0)=false:=Xa;have h:((a:Int)==2)=false:=Xa;have i:((a:Int)==3)=false:=Xa;have j:((a:Int)==4)=false:=Xa;have k:((a:Int)==6)=false:=Xa;go_enter func93,ntmps93;go_wp2;go_ret;exact⟨rfl,rfl⟩
