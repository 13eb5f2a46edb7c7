import Derived.Test.YtbedkdnphobmlaaGreatDoorProg
import Derived.Test.YtbedkdnphobmlaaGreatDoorUaa00
import Derived.Test.YtbedkdnphobmlaaGreatDoorUaa01
import Derived.Test.YtbedkdnphobmlaaGreatDoorUaa03
import Derived.Test.YtbedkdnphobmlaaGreatDoorUaa04
import Derived.Test.YtbedkdnphobmlaaGreatDoorUaa05
set_option linter.all false
set_option maxRecDepth 100000
set_option maxHeartbeats 0
namespace Go.Proofs.YtbedkdnphobmlaaGreatDoor
open Go.RowKit Px Tryz
def CS.symbol(s:CS)(i:Nat):Int:=if s.total<=i\/288<=i then -2 else(s.sym i:Int)
def CS.step(s:CS)(p:Pt)(t:Nat):Pt×Int:=
 if s.longest<p.bits+1\/15<p.bits+1 then(⟨p.bits+1,p.offset,p.ahead⟩,-2)
 else if 2*p.offset+t<s.count (p.bits+1) then(⟨p.bits+1,2*p.offset+t,p.ahead⟩,s.symbol (p.ahead+(2*p.offset+t)))
 else(⟨p.bits+1,2*p.offset+t-s.count (p.bits+1),p.ahead+s.count (p.bits+1)⟩,if p.bits+1=s.longest then -2 else -1)
structure gB (s:CS):Prop where
 count:∀i,i<16->s.count i<=288
 sym:∀i,i<288->s.sym i<288
 total:s.total<=288
 longest:s.longest<=15
structure Cd (p:Pt):Prop where
 bits:p.bits<=16
 offset:p.offset<=65535
 ahead:p.ahead<=5000
theorem za(b a n i:Nat)c s w(d:Blk w b n c)(e:CSV c a s)(m:a+306<=n)(f:gB s)(o:i<=1000000):Calls prog 201 #[.pointer (some ⟨b,a,none⟩),.int .i64 i] w λg h=>g=.returned (.int .i64 (s.symbol i))/\h=w:=by
 have p:=d.at (i:=a+304) O e.total;have q:(0:Int)<=(i:Int):=O;have r:¬(i:Int)<0:=O;unfold CS.symbol;have t:=f.total;by_cases j:s.total<=i
 .have k:(s.total:Int)<=(i:Int):=O
  rw[I (L j)];clear d e f;go_enter func201,ntmps201;go_wp2;go_ret;exact⟨rfl,rfl⟩
 .have k:¬(s.total:Int)<=(i:Int):=O
  have l:i<288:=O;have u:(i:Int)<288:=O;have v:¬(288:Int)<=(i:Int):=O;rw[N];have x:=d.at (i:=a+16+i) O (e.sym i l);clear d e f;go_enter func201,ntmps201;go_wp2;go_ret;exact⟨rfl,rfl⟩
theorem ri(b f q n t:Nat)c s p w(C:Blk w b n c)(a7:CSV c f s)(S:PtV c q p)(b9:f+306<=n)(d2:q+3<=f)(u:gB s)(c0:Cd p)(d3:t<=1):Calls prog 186 #[.pointer (some ⟨b,f,none⟩),.pointer (some ⟨b,q,none⟩),.int .i64 t] w λT D=>T=.returned (.int .i64 (s.step p t).2)/\∃U,Blk D b n U/\PtV U q (s.step p t).1/\FrC b q (q+3) c U/\Fr1 b w D:=by
 have m:=C.at (i:=q) om S.bits;have v:=C.fz;obtain⟨d4,d5,d6⟩:=c0;have d7:=u.longest;have h:Z (s.step p t=if s.longest<p.bits+1\/15<p.bits+1 then(⟨p.bits+1,p.offset,p.ahead⟩,-2) else if 2*p.offset+t<s.count (p.bits+1) then(⟨p.bits+1,2*p.offset+t,p.ahead⟩,s.symbol (p.ahead+(2*p.offset+t))) else(⟨p.bits+1,2*p.offset+t-s.count (p.bits+1),p.ahead+s.count (p.bits+1)⟩,if p.bits+1=s.longest then -2 else -1)):=rfl;obtain⟨a,V⟩:∃a,a=p.bits+1:=⟨_,rfl⟩;have c1:(p.bits:Int)+1=(a:Int):=om;have d8:1<=a:=om;have d9:a<=17:=om;rw[<-V] at h;replace V:Z _:=V;have x:Z (Blk (w.setCell ⟨b,q,none⟩ (.int .i64 a)) b n (upd c q (.int .i64 a))):=C.set om _;have W:Z (CSV (upd c q (.int .i64 a)) f s):=a7.congr (λa8 X a9=>upd_ne _ _ _ om);have y:Z _:=S.set_bits a;have Y:Z (Fr1 b w (w.setCell ⟨b,q,none⟩ (.int .i64 a))):=Fr1.set (Fr.refl _ _) _ _;have a0:Z (FrC b q (q+3) c (upd c q (.int .i64 a))):=FrC.upd _ om om;replace u:Z (gB s):=u;clear C a7 S;go_enter func186,ntmps186;go_upto_region 2 with fail
 generalize w.setCell ⟨b,q,none⟩ (.int .i64 a)=c2 at *;generalize upd c q (.int .i64 a)=z at *;clear m v c1;have m:=x.o.at (i:=q) om y.o.bits;have b0:=x.o.at (i:=f+305) om W.o.longest;have e0:¬(a:Int)<1:=om;by_cases E:s.longest<a\/15<a
 .have c3:(s.longest:Int)<(a:Int)\/(15:Int)<(a:Int):=om
  have o:Z (s.step p t=(⟨a,p.offset,p.ahead⟩,-2)):=by show s.step p t=_;rw[h.o,I E]
  by_cases X:s.longest<a
  .have b1:(s.longest:Int)<(a:Int):=om
   clear E c3;go_quiet (fail);go_wp2_with fail;go_ret;rw[o.o];exact⟨rfl,z,x.o.kept ((Kept.refl _).drewN _),y.o,a0.o,Y.o.kept ((Kept.refl _).drewN _)⟩
  .have b1:¬(s.longest:Int)<(a:Int):=om
   omega
 .have b1:¬(s.longest:Int)<(a:Int):=om
  have e1:¬(15:Int)<(a:Int):=om;go_quiet (fail);have G:Z _:=x.o.kept ((Kept.refl _).drewN nq);have b2:Z _:=Y.o.kept ((Kept.refl _).drewN nq);clear x Y m b0;generalize c2.drewN nq=H at *;have j:=G.o.at (i:=q+1) om y.o.offset;replace j:H.cell? ⟨b,q+1,none⟩=some (.int .i64 p.offset):=j;have v:=G.o.fz;obtain⟨O,a1⟩:∃O,O=2*p.offset+t:=⟨_,rfl⟩;have a2:2*(p.offset:Int)+(t:Int)=(O:Int):=om;have e2:O<=131071:=om;rw[<-a1] at h;replace a1:Z _:=a1;have A:Z (Blk (H.setCell ⟨b,q+1,none⟩ (.int .i64 O)) b n (upd z (q+1) (.int .i64 O))):=G.o.set om _;have J:Z (CSV (upd z (q+1) (.int .i64 O)) f s):=W.o.congr (λa8 X a9=>upd_ne _ _ _ om);have k:Z _:=y.o.set_offset O;have b3:Z (Fr1 b w (H.setCell ⟨b,q+1,none⟩ (.int .i64 O))):=Fr1.set b2.o _ _;have a3:Z (FrC b q (q+3) c (upd z (q+1) (.int .i64 O))):=a0.o.trans (FrC.upd _ om om);clear G b2 W y a0;go_upto_region 5 with fail
  generalize H.setCell ⟨b,q+1,none⟩ (.int .i64 O)=c4 at *;generalize upd z (q+1) (.int .i64 O)=r at *;clear j v a2;have m:=A.o.at (i:=q) om k.o.bits;have j:=A.o.at (i:=q+1) om k.o.offset;have b4:=A.o.at (i:=f+a) om (J.o.count a om);have e3:(0:Int)<=(a:Int):=om;have e4:(a:Int)<16:=om;obtain⟨g,K⟩:∃g,g=s.count a:=⟨_,rfl⟩;have e5:g<=288:=by rw[K];exact u.o.count a om
  rw[<-K] at h b4;replace K:Z _:=K;go_quiet (fail);have l:Z _:=A.o.kept ((Kept.refl _).drewN nq);have a4:Z _:=b3.o.kept ((Kept.refl _).drewN nq);clear A b3 m j b4;generalize c4.drewN nq=L at *;have j:=l.o.at (i:=q+1) om k.o.offset;have c5:=l.o.at (i:=q+2) om k.o.ahead;have v:=l.o.fz;by_cases b5:O<g
  .have c6:(O:Int)<(g:Int):=om
   have o:Z (s.step p t=(⟨a,O,p.ahead⟩,s.symbol (p.ahead+O))):=by show s.step p t=_;rw[h.o,N E,I b5]
   have c7:Z (∀B,Kept L B->Calls prog 201 #[.pointer (some ⟨b,f,none⟩),.int .i64 ((p.ahead:Int)+(O:Int))] B λT D=>T=.returned (.int .i64 (s.symbol (p.ahead+O)))/\D=B):=λB c8=>by
    have:=za b f n (p.ahead+O) r s B (l.o.kept c8) J.o b9 u.o om
    rw[show((p.ahead+O:Nat):Int)=(p.ahead:Int)+(O:Int) from om] at this;exact this
   generalize s.symbol (p.ahead+O)=e6 at *;go_wp2_with fail;go_quiet ((go_at_call 201;exact Xu (c7.o _ (by first|exact Kept.refl _|exact(Kept.refl _).drewN _))))
   go_wp2_with fail;go_ret;rw[o.o];exact⟨rfl,r,l.o.kept ((Kept.refl _).drewN _),k.o,a3.o,a4.o.kept ((Kept.refl _).drewN _)⟩
  .have c6:¬(O:Int)<(g:Int):=om
   obtain⟨d,M⟩:∃d,d=O-g:=⟨_,rfl⟩;obtain⟨e,P⟩:∃e,e=p.ahead+g:=⟨_,rfl⟩;have a2:(O:Int)-(g:Int)=(d:Int):=om;have c9:(p.ahead:Int)+(g:Int)=(e:Int):=om;rw[<-M,<-P] at h;have o:Z (s.step p t=(⟨a,d,e⟩,if a=s.longest then -2 else -1)):=by show s.step p t=_;rw[h.o,N E,N b5]
   replace M:Z _:=M;replace P:Z _:=P;have e7:d<=131071:=by have:=M.o;omega
   have e8:e<=6000:=by have:=P.o;omega
   have Q:Z (Blk ((L.setCell ⟨b,q+1,none⟩ (.int .i64 d)).setCell ⟨b,q+2,none⟩ (.int .i64 e)) b n (upd (upd r (q+1) (.int .i64 d)) (q+2) (.int .i64 e))):=(l.o.set om _).set om _;have d0:Z (CSV (upd (upd r (q+1) (.int .i64 d)) (q+2) (.int .i64 e)) f s):=J.o.congr (λa8 X a9=>by rw[upd_ne _ _ _ om,upd_ne _ _ _ om]);have a5:Z _:=(k.o.set_offset d).set_ahead e;have b6:Z (Fr1 b w ((L.setCell ⟨b,q+1,none⟩ (.int .i64 d)).setCell ⟨b,q+2,none⟩ (.int .i64 e))):=Fr1.set (Fr1.set a4.o _ _) _ _;have b7:Z (FrC b q (q+3) c (upd (upd r (q+1) (.int .i64 d)) (q+2) (.int .i64 e))):=(a3.o.trans (FrC.upd _ om om)).trans (FrC.upd _ om om);clear l a4 J k a3;go_upto_region 10 with fail
   generalize (L.setCell ⟨b,q+1,none⟩ (.int .i64 d)).setCell ⟨b,q+2,none⟩ (.int .i64 e)=e9 at *;generalize upd (upd r (q+1) (.int .i64 d)) (q+2) (.int .i64 e)=b8 at *;clear j c5 v a2 c9;have m:=Q.o.at (i:=q) om a5.o.bits;have b0:=Q.o.at (i:=f+305) om d0.o.longest;by_cases R:a=s.longest
   .have d1:((a:Int)==(s.longest:Int))=true:=by rw[XI];omega
    have a6:Z (s.step p t=(⟨a,d,e⟩,-2)):=by show s.step p t=_;rw[o.o,I R]
    replace R:Z _:=R;go_quiet (fail);go_wp2_with fail;go_ret;rw[a6.o];exact⟨rfl,b8,Q.o.kept ((Kept.refl _).drewN _),a5.o,b7.o,b6.o.kept ((Kept.refl _).drewN _)⟩
   .have d1:((a:Int)==(s.longest:Int))=false:=by rw[F];omega
    have a6:Z (s.step p t=(⟨a,d,e⟩,-1)):=by show s.step p t=_;rw[o.o,N R]
    go_quiet (fail);go_wp2_with fail;go_ret;rw[a6.o];exact⟨rfl,b8,Q.o.kept ((Kept.refl _).drewN _),a5.o,b7.o,b6.o.kept ((Kept.refl _).drewN _)⟩
theorem Blk.congr'{w b n c d}(h:Blk w b n c)(e:∀a,a<n->d a=c a):Blk w b n d:=⟨λa f=>by rw[e a f];exact h.cell a f,h.fz,h.lt⟩
def aq(i:Nat):Nat:=if i<144 then 8 else if i<256 then 9 else if i<280 then 7 else 8
def u8C(f:Nat->Nat)(k:Nat):Nat->Value:=λj => .int .u8 (((if j<k then f j else 0:Nat)):Int)
theorem wg f k j:u8C f (k+1) j=upd (u8C f k) k (.int .u8 (f k)) j:=by
 unfold u8C upd;by_cases a:j=k
 .subst a;rw[I rfl,I]
 .rw[N a]
  show Value.int .u8 (((if j<k+1 then f j else 0:Nat)):Int)=Value.int .u8 (((if j<k then f j else 0:Nat)):Int)
  by_cases b:j<k
  .rw[I b,I]
  .rw[N b,N]
theorem nm:zeroCells150=Array.replicate 288 (.int .u8 0):=Xk
theorem A4:(prog.info? 150).map (·.size)=some 288:=Xk
theorem qM:(gv:Array Value)=Array.replicate 32 (.int .u8 0):=rfl
theorem DF:(prog.info? 182).map (·.size)=some 32:=Xk
theorem iR(w:World)m v t f(a:v=.int .u8 0):Blk (w.alloc (Obj.cells (Array.replicate m v) t)) w.heap.size m (u8C f 0):=by
 refine(Blk.new w (Array.replicate m v) t m Xi).congr' (λc b => ?_);unfold u8C;rw[N,Ys,Zd,I b,a];rfl
theorem lD f n:∀a∈(List.range n).map (u8C f n),a.oneCell'=true:=by
 intro a b;rw[YP] at b;obtain⟨c,_,rfl⟩:=b;rfl
theorem tp w:Calls prog 134 #[] w λF G=>F=.returned (.agg ((List.range 288).map (u8C aq 288)).toArray)/\Kept w G:=by
 obtain⟨c,n⟩:∃c,c=(List.range 288).map (u8C aq 288):=⟨_,rfl⟩;rw[<-n];have H:Z _:=n;clear n;have t:Z (Blk ((w.alloc (Obj.cells zeroCells150 150)).alloc (Obj.cells zeroCells150 150)) (w.heap.size+1) 288 (u8C aq 0)):=by
  have:=iR (w.alloc (Obj.cells zeroCells150 150)) 288 (.int .u8 0) 150 aq rfl
  rw[<-nm] at this;have b:(w.alloc (Obj.cells zeroCells150 150)).heap.size=w.heap.size+1:=Xi;rw[b] at this;exact this
 have u:Z (((w.alloc (Obj.cells zeroCells150 150)).alloc (Obj.cells zeroCells150 150)).there w.heap.size 0 288):=by
  refine World.there_alloc ?_ _
  have:=(iR w 288 (.int .u8 0) 150 aq rfl).there (k:=0) (m:=288) O
  rw[<-nm] at this;exact this
 have x:Z (Kept w ((w.alloc (Obj.cells zeroCells150 150)).alloc (Obj.cells zeroCells150 150))):=((Xs _ _).alloc (E _) _).alloc Xi _;go_enter func134,ntmps134;go_wp2;generalize ((w.alloc (Obj.cells zeroCells150 150)).alloc (Obj.cells zeroCells150 150))=T at *;go_loopw [2] (λe o=>∃a:Nat,a<=288/\e=.int .i64 a/\Blk o (w.heap.size+1) 288 (u8C aq a)/\o.there w.heap.size 0 288/\Kept w o) (λe _=>288-(intOf e).toNat)
 case atStart=>exact⟨0,O,rfl,t.o,u.o,x.o⟩
 case round=>
  obtain⟨a,U,rfl,d,h,i⟩:=hrel;have J:=d.fz a;clear t u x;replace d:Z (Blk wr (w.heap.size+1) 288 (u8C aq a)):=d;replace h:Z (wr.there w.heap.size 0 288):=h;replace i:Z (Kept w wr):=i;by_cases y:a<288
  .have z:=d.o.cell a y
   obtain⟨A,z⟩:∃A,wr.cell? ⟨w.heap.size+1,a,none⟩=some A:=⟨_,z⟩;have V:(0:Int)<=(a:Int):=O;have K:(a:Int)<288:=O;have j:Z (∀f:Int,f=(aq a:Int)->(Blk (wr.setCell ⟨w.heap.size+1,a,none⟩ (.int .u8 f)) (w.heap.size+1) 288 (u8C aq (a+1))/\(wr.setCell ⟨w.heap.size+1,a,none⟩ (.int .u8 f)).there w.heap.size 0 288/\Kept w (wr.setCell ⟨w.heap.size+1,a,none⟩ (.int .u8 f)))):=λf L=>by
    subst L;exact⟨(d.o.set y _).congr' (λM _=>wg aq a M),bV h.o _ O,i.o.setCell Xi _⟩
   have P:a<144\/(144<=a/\a<256)\/(256<=a/\a<280)\/280<=a:=O;rcases P with B|⟨Q,p⟩|⟨Q,p⟩|B
   .have b:=j.o 8 (by unfold aq;rw[I B];rfl)
    replace b:Z _:=b;go_wp2;exact⟨⟨a+1,O,Xj,b.o⟩,Xb⟩
   .have b:=j.o 9 (by unfold aq;rw[N,I p];rfl)
    replace b:Z _:=b;go_wp2;exact⟨⟨a+1,O,Xj,b.o⟩,Xb⟩
   .have b:=j.o 7 (by unfold aq;rw[N,N,I p];rfl)
    replace b:Z _:=b;go_wp2;exact⟨⟨a+1,O,Xj,b.o⟩,Xb⟩
   .have b:=j.o 8 (by unfold aq;rw[N,N,N];rfl)
    replace b:Z _:=b;go_wp2;exact⟨⟨a+1,O,Xj,b.o⟩,Xb⟩
  .have q:a=288:=O
   have g:=H.o;have l:c.length=288:=by rw[g];exact bA _ 288
   have r:∀e∈c,e.oneCell'=true:=by rw[g];exact lD _ _
   have R:Z (wr.rangeAt (w.heap.size+1) 0 c):=by
    have:=d.o.range (k:=0) (m:=288) O
    rw[q] at this;show wr.rangeAt (w.heap.size+1) 0 c
    rw[g];rw[show(λC=>u8C aq 288 (0+C))=u8C aq 288 from funext (λC=>by rw[XD])] at this;exact this
   have K:¬(a:Int)<288:=O;have D:Z ((prog.info? 150).map (·.size)=some c.length):=by show _=_;rw[l];exact A4
   have s:wr.there w.heap.size 0 c.length:=by rw[l];exact h.o
   have W:(storeCells ⟨w.heap.size,0,none⟩ c).run prog wr=.ok () (wr.setCells w.heap.size 0 c):=aM s r;have S:Z _:=
    Yw _ _ _ _ c _ (XO _ _ _ _ s) underlying150 rfl D.o
   replace g:Z _:=g;replace l:Z _:=l;replace r:Z _:=r;replace q:Z _:=q;clear s d J;go_wp2;refine wp_load_mid 150 _ rfl (w.heap.size+1) 0 rfl c _ R.o underlying150 rfl D.o ?_;go_wp2;exact XA (v := .agg c.toArray) (ah rfl _ _ _ _ _ rfl S.o) rfl ⟨rfl,Kept.setCells (E _) _ _ i.o⟩
theorem pd w:Calls prog 135 #[] w λC D=>C=.returned (.agg ((List.range 32).map (u8C (λ_=>5) 32)).toArray)/\Kept w D:=by
 obtain⟨b,j⟩:∃b:Nat->Nat,b=λ_=>5:=⟨_,rfl⟩
 have F:Z (∀a,(b a:Int)=5):=λa=>by rw[j];rfl
 rw[<-j];clear j;obtain⟨c,l⟩:∃c,c=(List.range 32).map (u8C b 32):=⟨_,rfl⟩;rw[<-l];have G:Z _:=l;clear l;have s:Z (Blk ((w.alloc (Obj.cells gv 182)).alloc (Obj.cells gv 182)) (w.heap.size+1) 32 (u8C b 0)):=by
  have:=iR (w.alloc (Obj.cells gv 182)) 32 (.int .u8 0) 182 b rfl
  rw[<-qM] at this;have n:(w.alloc (Obj.cells gv 182)).heap.size=w.heap.size+1:=Xi;rw[n] at this;exact this
 have t:Z (((w.alloc (Obj.cells gv 182)).alloc (Obj.cells gv 182)).there w.heap.size 0 32):=by
  refine World.there_alloc ?_ _
  have:=(iR w 32 (.int .u8 0) 182 b rfl).there (k:=0) (m:=32) O
  rw[<-qM] at this;exact this
 have u:Z (Kept w ((w.alloc (Obj.cells gv 182)).alloc (Obj.cells gv 182))):=((Xs _ _).alloc (E _) _).alloc Xi _;go_enter func135,ntmps135;go_wp2;generalize ((w.alloc (Obj.cells gv 182)).alloc (Obj.cells gv 182))=M at *;go_loopw [2] (λe o=>∃a:Nat,a<=32/\e=.int .i64 a/\Blk o (w.heap.size+1) 32 (u8C b a)/\o.there w.heap.size 0 32/\Kept w o) (λe _=>32-(intOf e).toNat)
 case atStart=>exact⟨0,O,rfl,s.o,t.o,u.o⟩
 case round=>
  obtain⟨a,N,rfl,d,g,h⟩:=hrel;have H:=d.fz a;clear s t u;replace d:Z (Blk wr (w.heap.size+1) 32 (u8C b a)):=d;replace g:Z (wr.there w.heap.size 0 32):=g;replace h:Z (Kept w wr):=h;by_cases x:a<32
  .have y:=d.o.cell a x
   obtain⟨z,y⟩:∃z,wr.cell? ⟨w.heap.size+1,a,none⟩=some z:=⟨_,y⟩;have P:(0:Int)<=(a:Int):=O;have I:(a:Int)<32:=O;have n:Z (Blk (wr.setCell ⟨w.heap.size+1,a,none⟩ (.int .u8 5)) (w.heap.size+1) 32 (u8C b (a+1))/\(wr.setCell ⟨w.heap.size+1,a,none⟩ (.int .u8 5)).there w.heap.size 0 32/\Kept w (wr.setCell ⟨w.heap.size+1,a,none⟩ (.int .u8 5))):=⟨(d.o.set x _).congr' (λJ _=>by rw[wg b a J,F.o]),bV g.o _ O,h.o.setCell Xi _⟩;go_wp2;exact⟨⟨a+1,O,Xj,n.o⟩,Xb⟩
  .have p:a=32:=O
   have f:=G.o;have i:c.length=32:=by rw[f];exact bA _ 32
   have q:∀e∈c,e.oneCell'=true:=by rw[f];exact lD _ _
   have K:Z (wr.rangeAt (w.heap.size+1) 0 c):=by
    have:=d.o.range (k:=0) (m:=32) O
    rw[p] at this;show wr.rangeAt (w.heap.size+1) 0 c
    rw[f];rw[show(λA=>u8C b 32 (0+A))=u8C b 32 from funext (λA=>by rw[XD])] at this;exact this
   have I:¬(a:Int)<32:=O;have B:Z ((prog.info? 182).map (·.size)=some c.length):=by show _=_;rw[i];exact DF
   have r:wr.there w.heap.size 0 c.length:=by rw[i];exact g.o
   have Q:(storeCells ⟨w.heap.size,0,none⟩ c).run prog wr=.ok () (wr.setCells w.heap.size 0 c):=aM r q;have L:Z _:=
    Yw _ _ _ _ c _ (XO _ _ _ _ r) underlying182 rfl B.o
   replace f:Z _:=f;replace i:Z _:=i;replace q:Z _:=q;replace p:Z _:=p;clear r d H;go_upto_region 6 with fail
   go_step;refine wpList_load_mid rfl 182 _ rfl (w.heap.size+1) 0 rfl c _ K.o underlying182 rfl B.o ?_;go_wp2;exact XA (v := .agg c.toArray) (ah rfl _ _ _ _ _ rfl L.o) rfl ⟨rfl,Kept.setCells (E _) _ _ h.o⟩
def nC(h:Nat->Nat)(k:Nat):Nat->Value:=λj => .int .i64 (((if j<=k then h j else 0:Nat)):Int)
theorem Az h k j:nC h (k+1) j=upd (nC h k) (k+1) (.int .i64 (h (k+1):Int)) j:=by
 unfold nC upd;by_cases a:j=k+1
 .subst a;rw[I rfl,I]
 .rw[N a]
  show Value.int .i64 (((if j<=k+1 then h j else 0:Nat)):Int)=Value.int .i64 (((if j<=k then h j else 0:Nat)):Int)
  by_cases b:j<=k
  .rw[I b,I]
  .rw[N b,N]
def iC(h:Nat->Nat):Nat->Value:=λj => .int .i64 (h j)
theorem Ba h(k v:Nat):upd (iC h) k (.int .i64 v)=iC (upd h k v):=by
 funext a
 unfold iC upd
 split<;>rfl
theorem zz:(#[.int .i64 0,.int .i64 0,.int .i64 0,.int .i64 0,.int .i64 0,.int .i64 0,.int .i64 0,.int .i64 0,.int .i64 0,.int .i64 0,.int .i64 0,.int .i64 0,.int .i64 0,.int .i64 0,.int .i64 0,.int .i64 0]:Array Value)=Array.replicate 16 (.int .i64 0):=rfl
theorem G8 b g N C(f e:Nat->Nat)(l p:Nat->Nat->Nat)c s w(K:Blk w b 306 c)(a9:CSV c 0 s)(L:∀i,i<N->w.cell? ⟨g,i,none⟩=some (.int .u8 (f i)))(d5:g≠b)(d6:0<N)(g7:N<=288)(g8:N<=C)(y:gB s)(b0:e 0=0)(b1:e 1=0)(b2:∀k,1<=k->k<15->e (k+1)=e k+s.count k)(b3:∀k,e k<=5000)(b4:∀i,i<N->1<=f i/\f i<=15)(b5:∀q,q<16->l 0 q=e q)(b6:∀i,i<N->l (i+1)=upd (l i) (f i) (l i (f i)+1))(b7:∀i,i<N->l i (f i)<288)(b8:p 0=s.sym)(b9:∀i,i<N->p (i+1)=upd (p i) (l i (f i)) i):Calls prog 230 #[.pointer (some ⟨b,0,none⟩),.slice (some ⟨g,0,none⟩) N C] w λd7 c0=>d7=.returned (.tuple #[])/\∃m,Blk c0 b 306 m/\CSV m 0 {s with sym:=p N}/\Fr1 b w c0:=by
 have d8:=B _ _ (L 0 d6);have g9:=K.lt;have c1:Z (Blk (w.alloc (Obj.cells #[.int .i64 0,.int .i64 0,.int .i64 0,.int .i64 0,.int .i64 0,.int .i64 0,.int .i64 0,.int .i64 0,.int .i64 0,.int .i64 0,.int .i64 0,.int .i64 0,.int .i64 0,.int .i64 0,.int .i64 0,.int .i64 0] 79)) w.heap.size 16 (nC e 1)):=by
  show Blk _ _ _ _
  rw[zz];refine(Blk.new w (Array.replicate 16 (.int .i64 0)) 79 16 Xi).congr' (λi z => ?_);rw[Ys,Zd,I z];unfold nC;split
  .have:e i=0:=by
    rcases(show i=0\/i=1 from O) with rfl|rfl
    .exact b0
    .exact b1
   rw[this];rfl
  .rfl
 have G:Kept w (w.alloc (Obj.cells #[.int .i64 0,.int .i64 0,.int .i64 0,.int .i64 0,.int .i64 0,.int .i64 0,.int .i64 0,.int .i64 0,.int .i64 0,.int .i64 0,.int .i64 0,.int .i64 0,.int .i64 0,.int .i64 0,.int .i64 0,.int .i64 0] 79)):=Xw (Xs _ _) (E _) _;have c2:Z _:=K.kept G;have d9:Z (∀d,Fr1 b w d->∀i,i<N->d.cell? ⟨g,i,none⟩=some (.int .u8 (f i))):=λd e0 i z=>(e0.cell d8 d5).trans (L i z)
 have c3:Z _:=a9;have e1:Z _:=y;have e2:Z _:=b2;have e3:Z _:=b3;have e4:Z _:=b4;have e5:Z _:=b5;have e6:Z _:=b6;have e7:Z _:=b7;have e8:Z _:=b8;have e9:Z _:=b9;replace G:Z _:=G;clear K a9 L y b0 b1 b2 b3 b4 b5 b6 b7 b8 b9;go_enter func230,ntmps230;go_wp2_with fail;generalize w.alloc (Obj.cells #[.int .i64 0,.int .i64 0,.int .i64 0,.int .i64 0,.int .i64 0,.int .i64 0,.int .i64 0,.int .i64 0,.int .i64 0,.int .i64 0,.int .i64 0,.int .i64 0,.int .i64 0,.int .i64 0,.int .i64 0,.int .i64 0] 79)=h0 at *;obtain⟨c4,h1⟩:∃c4,c4=w.heap.size:=⟨_,rfl⟩;go_loopw [5] (λr d=>∃k:Nat,1<=k/\k<=15/\r=.int .i64 k/\Blk d w.heap.size 16 (nC e k)/\Blk d b 306 c/\Fr1 b w d) (λr _=>15-(intOf r).toNat)
 case atStart=>exact⟨1,O,O,rfl,c1.o,c2.o,(Fr.of_kept G)⟩
 case round=>
  obtain⟨k,f0,h2,rfl,c5,c6,c7⟩:=hrel;clear c1 c2;have u:Z _:=c5;have H:Z _:=c6;have M:Z _:=c7;clear c5 c6 c7;by_cases f1:k<15
  .have f2:(k:Int)<15:=O
   have P:wr.cell? ⟨w.heap.size,k,none⟩=some (.int .i64 (e k)):=by
    rw[u.o.cell k O];unfold nC;rw[I (E _)]
   have Q:wr.cell? ⟨b,k,none⟩=some (.int .i64 (s.count k)):=by
    have:=H.o.at (i:=0+k) O (c3.o.count k O)
    rwa [XD] at this
   obtain⟨j,c8⟩:∃j,j=k+1:=⟨_,rfl⟩;obtain⟨A,h3⟩:∃A,wr.cell? ⟨w.heap.size,j,none⟩=some A:=⟨_,u.o.cell j O⟩;have h4:=u.o.fz;have f3:=e3.o k;have f4:=e1.o.count k O;have T:Z _:=e2.o k f0 f1;obtain⟨o,U⟩:∃o,o=e k:=⟨_,rfl⟩;obtain⟨n,v⟩:∃n,n=s.count k:=⟨_,rfl⟩;rw[<-U] at P f3 T;rw[<-v] at Q f4 T;replace U:Z _:=U;replace v:Z _:=v;have f5:(0:Int)<=(k:Int):=O;have h5:(k:Int)<16:=O;have h6:(0:Int)<=(j:Int):=O;have h7:(j:Int)<16:=O;have f6:(k:Int)+1=(j:Int):=O;have h8:IntKind.i64.wrap ((k:Int)+1)=(j:Int):=by rw[f6,XC];omega
   obtain⟨x,c9⟩:∃x,x=o+n:=⟨_,rfl⟩;have f7:(o:Int)+(n:Int)=(x:Int):=O;have h9:IntKind.i64.wrap ((o:Int)+(n:Int))=(x:Int):=by rw[f7,XC];omega
   have i0:IntKind.i64.wrap (j:Int)=(j:Int):=Xd;have i1:IntKind.i64.wrap (x:Int)=(x:Int):=Xd;have f8:Z _:=c8;have f9:Z _:=c9;clear c8 c9;have V:b≠w.heap.size:=O;go_wp2_with fail;go_region_held3 (λd=>d.cell? ⟨w.heap.size,k,none⟩=some (.int .i64 o)/\d.cell? ⟨b,k,none⟩=some (.int .i64 n)) (first|exact⟨P,Q⟩|exact⟨(aa _ _ _ _ _ O).trans P,(aE _ _ _ _ O).trans Q⟩|go_keep) (fail)
   have W:Z (∀D:Int,D=(e (k+1):Int)->(Blk (wr.setCell ⟨w.heap.size,j,none⟩ (.int .i64 D)).drew w.heap.size 16 (nC e (k+1))/\Blk (wr.setCell ⟨w.heap.size,j,none⟩ (.int .i64 D)).drew b 306 c/\Fr1 b w (wr.setCell ⟨w.heap.size,j,none⟩ (.int .i64 D)).drew)):=λD g0=>by
    subst g0;rw[f8.o];have g1:Fr1 w.heap.size wr (wr.setCell ⟨w.heap.size,k+1,none⟩ (.int .i64 (e (k+1):Int))):=Fr1.set (Fr.refl _ _) _ _;exact⟨((u.o.set (k:=k+1) O _).congr' (λi _=>Az e k i)).kept ((Kept.refl _).drewN 1),(H.o.fr g1 V).kept ((Kept.refl _).drewN 1),Fr1.drewN (Fr.setCell (S:=λk=>k=b) M.o (R (E _)) _ _) 1⟩
   go_wp2;exact⟨⟨k+1,O,O,Xj,W.o _ (by have:=T.o;have:=f9.o;omega)⟩,Xb⟩
  .have f2:¬(k:Int)<15:=O
   have y:k=15:=O;have d0:Z (Blk wr w.heap.size 16 (iC (l 0))):=u.o.congr' (λi z=>by unfold iC nC;rw[y,I,e5.o i z]);have o:Z (CSV c 0 {s with sym:=p 0}):=by rw[e8.o];exact c3.o
   clear y u;go_wp2;go_loopw [6] (λr d=>∃i:Nat,i<=N/\r=.int .i64 i/\Blk d w.heap.size 16 (iC (l i))/\(∃m,Blk d b 306 m/\CSV m 0 {s with sym:=p i})/\Fr1 b w d) (λr _=>N-(intOf r).toNat)
   case atStart=>exact⟨0,O,rfl,d0.o,⟨c,H.o,o.o⟩,M.o⟩
   case round=>
    obtain⟨i,i2,rfl,X,⟨m,Y,v⟩,d1⟩:=hrel;clear d0 o H M;have d2:Z _:=X;have a0:Z _:=Y;have n:Z _:=v;have a1:Z _:=d1;have g2:=X.fz;have i3:=Y.fz;clear X Y v d1;by_cases F:i<N
    .have g3:(i:Int)<(N:Int):=O
     have i4:(i:Int)<288:=O;have d3:=e4.o i F;have g4:=d9.o wr a1.o i F;have a2:=e7.o i F;have J:Z _:=e6.o i F;have a3:Z _:=e9.o i F;obtain⟨h,a4⟩:∃h,h=f i:=⟨_,rfl⟩;rw[<-a4] at d3 g4 a2 J a3;replace a4:Z _:=a4;obtain⟨i5,i6⟩:=d3;have a5:wr.cell? ⟨w.heap.size,h,none⟩=some (.int .i64 (l i h)):=d2.o.cell h O;obtain⟨a,a6⟩:∃a,a=l i h:=⟨_,rfl⟩;rw[<-a6] at a5 a2 J a3;replace a6:Z _:=a6;obtain⟨A,i7⟩:∃A,wr.cell? ⟨b,16+a,none⟩=some A:=⟨_,a0.o.cell (16+a) O⟩;have f5:(0:Int)<=(i:Int):=O;have i8:(0:Int)<=(h:Int):=O;have i9:(h:Int)<=15:=O;have j0:(h:Int)<16:=O;have j1:(0:Int)<=(a:Int):=O;have j2:(a:Int)<288:=O;have V:b≠w.heap.size:=O;have g5:w.heap.size≠b:=O;obtain⟨t,a7⟩:∃t,t=a+1:=⟨_,rfl⟩;have j3:(a:Int)+1=(t:Int):=O;rw[<-a7] at J;replace a7:Z _:=a7;have W:Z (Blk ((wr.setCell ⟨b,16+a,none⟩ (.int .i64 i)).drew.setCell ⟨w.heap.size,h,none⟩ (.int .i64 t)) w.heap.size 16 (iC (l (i+1)))/\(∃m,Blk ((wr.setCell ⟨b,16+a,none⟩ (.int .i64 i)).drew.setCell ⟨w.heap.size,h,none⟩ (.int .i64 t)) b 306 m/\CSV m 0 {s with sym:=p (i+1)})/\Fr1 b w ((wr.setCell ⟨b,16+a,none⟩ (.int .i64 i)).drew.setCell ⟨w.heap.size,h,none⟩ (.int .i64 t))):=by
      have d4:Fr1 b wr (wr.setCell ⟨b,16+a,none⟩ (.int .i64 i)).drew:=Fr1.drewN (Fr1.set (Fr.refl _ _) _ _) 1;have g6:Fr1 w.heap.size (wr.setCell ⟨b,16+a,none⟩ (.int .i64 i)).drew ((wr.setCell ⟨b,16+a,none⟩ (.int .i64 i)).drew.setCell ⟨w.heap.size,h,none⟩ (.int .i64 t)):=Fr1.set (Fr.refl _ _) _ _;refine⟨?_,⟨upd m (16+a) (.int .i64 i),?_,?_⟩,?_⟩
      .rw[J.o,<-Ba]
       exact(d2.o.fr d4 g5).set O _
      .exact((a0.o.set (k:=16+a) O _).kept ((Kept.refl _).drewN 1)).fr g6 V
      .rw[a3.o]
       have:=n.o.set_sym a i a2
       rw[XD] at this;exact this
      .exact Fr.setCell (S:=λk=>k=b) (a1.o.trans d4) (R (E _)) _ _
     go_wp2_with fail;go_region_held3 (λd=>d.cell? ⟨w.heap.size,h,none⟩=some (.int .i64 a)) (first|exact a5|exact(aE _ _ _ _ O).trans a5|go_keep) (fail)
     have j4:∀q,(wr.setCell ⟨b,16+a,none⟩ (.int .i64 i)).drew.frozen? ⟨w.heap.size,q,none⟩=false:=λq=>(Xy _ _ _ _).trans (g2 q)
     generalize (wr.setCell ⟨b,16+a,none⟩ (.int .i64 i)).drew=j5 at *;go_wp2;exact⟨⟨i+1,O,Xj,W.o⟩,Xb⟩
    .have g3:¬(i:Int)<(N:Int):=O
     have a8:i=N:=O;rw[a8] at n;replace a8:Z _:=a8;go_wp2;go_end0
     exact⟨rfl,m,a0.o,n.o,a1.o⟩
def csC(s:CS):Nat->Value:=λj=>if j<16 then .int .i64 (s.count j) else if j<304 then .int .i64 (s.sym (j-16):Int) else if j=304 then .int .i64 (s.total:Int) else .int .i64 (s.longest:Int)
theorem BG s:CSV (csC s) 0 s:=by
 refine⟨λa b => ?_,λa b => ?_,?_,?_⟩
 .unfold csC;rw[XD,I b]
 .unfold csC;rw[N,I,show 0+16+a-16=a from O]
 .unfold csC;rw[N,N,I rfl]
 .unfold csC;rw[N,N,N]
theorem CSV.cells{c s}(h:CSV c 0 s)j(e:j<306):csC s j=c j:=by
 unfold csC;by_cases a:j<16
 .rw[I a];have:=h.count j a;rw[XD] at this;exact this.symm
 .rw[N a]
  by_cases d:j<304
  .rw[I d]
   have:=h.sym (j-16) O
   rw[show 0+16+(j-16)=j from O] at this;exact this.symm
  .rw[N d]
   by_cases b:j=304
   .rw[I b,b];have:=h.total;rw[XD] at this;exact this.symm
   .rw[N b,show j=305 from O];have:=h.longest;rw[XD] at this;exact this.symm
theorem gM s:∀a∈(List.range 306).map (csC s),a.oneCell'=true:=by
 intro a b;rw[YP] at b;obtain⟨c,_,rfl⟩:=b;unfold csC;split
 .rfl
 .split
  .rfl
  .split<;>rfl
theorem iF:zeroCells82=Array.replicate 306 (.int .i64 0):=Xk
theorem lL:(prog.info? 82).map (·.size)=some 306:=Xk
def oC:CS:=⟨λ_=>0,λ_=>0,0,0⟩
theorem BB j:csC oC j=.int .i64 0:=by
 unfold csC oC;split
 .rfl
 .split
  .rfl
  .split<;>rfl
theorem kT(w:World)t:Blk (w.alloc (Obj.cells (Array.replicate 306 (.int .i64 0)) t)) w.heap.size 306 (csC oC):=by
 refine(Blk.new w (Array.replicate 306 (.int .i64 0)) t 306 Xi).congr' (λb a => ?_);rw[BB,Ys,Zd,I a];rfl
structure Iv (N:Nat) (f:Nat->Nat) (cnt:Nat->Nat->Nat) (lg:Nat->Nat) (nx0:Nat->Nat) (nx sy:Nat->Nat->Nat):Prop where
 n0:0<N
 n1:N<=288
 fl:∀i,i<N->1<=f i/\f i<=15
 c0:cnt 0=λ_=>0
 c1:∀i,i<N->cnt (i+1)=upd (cnt i) (f i) (cnt i (f i)+1)
 cb:∀i j,i<=N->cnt i j<=288
 l0:lg 0=0
 l1:∀i,i<N->lg (i+1)=max (lg i) (f i)
 lb:∀i,lg i<=15
 x0:nx0 0=0
 x1:nx0 1=0
 x2:∀k,1<=k->k<15->nx0 (k+1)=nx0 k+cnt N k
 x3:∀k,nx0 k<=5000
 y0:∀j,j<16->nx 0 j=nx0 j
 y1:∀i,i<N->nx (i+1)=upd (nx i) (f i) (nx i (f i)+1)
 y2:∀i,i<N->nx i (f i)<288
 z0:sy 0=λ_=>0
 z1:∀i,i<N->sy (i+1)=upd (sy i) (nx i (f i)) i
theorem AK g N C f cnt lg nx0 nx sy w(R:∀i,i<N->w.cell? ⟨g,i,none⟩=some (.int .u8 (f i)))(c7:N<=C)(n:Iv N f cnt lg nx0 nx sy):Calls prog 223 #[.slice (some ⟨g,0,none⟩) N C] w λe G=>e=.returned (.agg ((List.range 306).map (csC ⟨cnt N,sy N,N,lg N⟩)).toArray)/\Kept w G:=by
 obtain⟨S,T⟩:∃c8,c8=(⟨cnt N,sy N,N,lg N⟩:CS):=⟨_,rfl⟩;obtain⟨h,H⟩:∃h,h=(List.range 306).map (csC ⟨cnt N,sy N,N,lg N⟩):=⟨_,rfl⟩;rw[<-H];rw[<-T] at H;have c9:Z _:=H;have d0:Z _:=T;clear H T;have d1:=B _ _ (R 0 n.n0);have a8:Z (Blk ((w.alloc (Obj.cells (Array.replicate 306 (.int .i64 0)) 82)).alloc (Obj.cells (Array.replicate 306 (.int .i64 0)) 82)) (w.heap.size+1) 306 (csC oC)):=by
  have:=kT (w.alloc (Obj.cells (Array.replicate 306 (.int .i64 0)) 82)) 82
  have e:(w.alloc (Obj.cells (Array.replicate 306 (.int .i64 0)) 82)).heap.size=w.heap.size+1:=Xi;rw[e] at this;exact this
 have a9:Z (((w.alloc (Obj.cells (Array.replicate 306 (.int .i64 0)) 82)).alloc (Obj.cells (Array.replicate 306 (.int .i64 0)) 82)).there w.heap.size 0 306):=World.there_alloc ((kT w 82).there O) _;have b0:Z (Kept w ((w.alloc (Obj.cells (Array.replicate 306 (.int .i64 0)) 82)).alloc (Obj.cells (Array.replicate 306 (.int .i64 0)) 82))):=((Xs _ _).alloc (E _) _).alloc Xi _;have b1:Z (CSV (csC oC) 0 ⟨cnt 0,λ_=>0,0,lg 0⟩):=by rw[n.c0,n.l0];exact BG oC
 have b2:Z (∀o,Kept w o->∀i,i<N->o.cell? ⟨g,i,none⟩=some (.int .u8 (f i))):=λo d2 i q=>(d2.cell (p:=⟨g,i,none⟩) d1).trans (R i q)
 have d3:=n.n0;have b3:=n.n1;have b:Z _:=n;clear R n;have d4:=iF;go_enter func223,ntmps223;go_wp2_with fail;try rw[iF]
 generalize ((w.alloc (Obj.cells (Array.replicate 306 (.int .i64 0)) 82)).alloc (Obj.cells (Array.replicate 306 (.int .i64 0)) 82))=e8 at *;clear d4;go_loopw [4] (λA o=>∃i:Nat,i<=N/\A=.int .i64 i/\(∃r,Blk o (w.heap.size+1) 306 r/\CSV r 0 ⟨cnt i,λ_=>0,i,lg i⟩)/\o.there w.heap.size 0 306/\Kept w o) (λA _=>N-(intOf A).toNat)
 case atStart=>exact⟨0,O,rfl,⟨_,a8.o,b1.o⟩,a9.o,b0.o⟩
 case round=>
  obtain⟨i,e9,rfl,⟨r,V,b4⟩,x,b5⟩:=hrel;have f0:=V.fz;have y:Z _:=V;have z:Z _:=b4;have W:=U x;have I:Z (Kept w wr):=b5;clear V b4 x b5 a8 a9 b0 b1;by_cases J:i<N
  .have d5:(i:Int)<(N:Int):=O
   have f1:(i:Int)<288:=O;have f2:(0:Int)<=(i:Int):=O;have b6:=b.o.fl i J;have d6:=b2.o wr I.o i J;have K:Z _:=b.o.c1 i J;have X:Z _:=b.o.l1 i J;have b7:=b.o.cb i (f i) O;have d7:=b.o.lb i;obtain⟨a,x⟩:∃a,a=f i:=⟨_,rfl⟩;rw[<-x] at b6 d6 K X b7;replace x:Z _:=x;obtain⟨f3,f4⟩:=b6;have d8:wr.cell? ⟨w.heap.size+1,a,none⟩=some (.int .i64 (cnt i a)):=by
    have:=y.o.at (i:=0+a) O (z.o.count a O)
    rwa [XD] at this
   have f5:=y.o.at (i:=304) O z.o.total;have d9:=y.o.at (i:=305) O z.o.longest;obtain⟨L,Y⟩:∃L,L=cnt i a:=⟨_,rfl⟩;rw[<-Y] at d8 K b7;replace Y:Z _:=Y;obtain⟨s,a0⟩:∃s,s=L+1:=⟨_,rfl⟩;have f6:(L:Int)+1=(s:Int):=O;rw[<-a0] at K;replace a0:Z _:=a0;obtain⟨t,a1⟩:∃t,t=i+1:=⟨_,rfl⟩;have f7:(i:Int)+1=(t:Int):=O;replace a1:Z _:=a1;obtain⟨j,a2⟩:∃j,j=lg i:=⟨_,rfl⟩;rw[<-a2] at d9 X d7;replace a2:Z _:=a2;have f8:(0:Int)<=(a:Int):=O;have f9:(a:Int)<=15:=O;have g0:(a:Int)<16:=O;have b8:Z (∀D:Int,D=((max j a:Nat):Int)->((∃r,Blk (((wr.setCell ⟨w.heap.size+1,a,none⟩ (.int .i64 s)).setCell ⟨w.heap.size+1,304,none⟩ (.int .i64 t)).setCell ⟨w.heap.size+1,305,none⟩ (.int .i64 D)) (w.heap.size+1) 306 r/\CSV r 0 ⟨cnt (i+1),λ_=>0,i+1,lg (i+1)⟩)/\(((wr.setCell ⟨w.heap.size+1,a,none⟩ (.int .i64 s)).setCell ⟨w.heap.size+1,304,none⟩ (.int .i64 t)).setCell ⟨w.heap.size+1,305,none⟩ (.int .i64 D)).there w.heap.size 0 306/\Kept w (((wr.setCell ⟨w.heap.size+1,a,none⟩ (.int .i64 s)).setCell ⟨w.heap.size+1,304,none⟩ (.int .i64 t)).setCell ⟨w.heap.size+1,305,none⟩ (.int .i64 D)))):=λD e0=>by
    subst e0;refine⟨⟨_,((y.o.set (k:=a) O _).set (k:=304) O _).set (k:=305) O _,?_⟩,bV (bV (bV W.o _ O) _ O) _ O,((I.o.setCell Xi _).setCell Xi _).setCell Xi _⟩;rw[K.o,X.o,<-a1.o];have b9:=z.o.set_count a s O;rw[XD] at b9;have c0:=b9.set_total t;rw[XD] at c0;have c1:=c0.set_longest (max j a);rw[XD] at c1;exact c1
   by_cases e1:a<=j
   .have e2:(a:Int)<=(j:Int):=O
    have e3:¬(j:Int)<(a:Int):=O;have e:=b8.o (j:Int) (by rw[Nat.max_eq_left e1]);replace e:Z _:=e;go_wp2
    all_goals exact⟨⟨i+1,O,Xj,e.o⟩,Xb⟩
   .have e2:¬(a:Int)<=(j:Int):=O
    have e3:(j:Int)<(a:Int):=O;have e:=b8.o (a:Int) (by rw[Nat.max_eq_right O]);replace e:Z _:=e;go_wp2
    all_goals exact⟨⟨i+1,O,Xj,e.o⟩,Xb⟩
  .have d5:¬(i:Int)<(N:Int):=O
   have a3:i=N:=O;rw[a3] at z;have e4:g≠w.heap.size+1:=O;have c2:Z (Calls prog 230 #[.pointer (some ⟨w.heap.size+1,0,none⟩),.slice (some ⟨g,0,none⟩) N C] wr λe G=>e=.returned (.tuple #[])/\∃c3,Blk G (w.heap.size+1) 306 c3/\CSV c3 0 ⟨cnt N,sy N,N,lg N⟩/\Fr1 (w.heap.size+1) wr G) :=
    G8 (w.heap.size+1) g N C f nx0 nx sy r ⟨cnt N,λ_=>0,N,lg N⟩ wr y.o z.o (b2.o wr I.o) e4 d3 b3 c7 ⟨λl M=>b.o.cb N l (E _),λl M=>by show 0<288;omega,b3,b.o.lb N⟩ b.o.x0 b.o.x1 b.o.x2 b.o.x3 b.o.fl b.o.y0 b.o.y1 b.o.y2 b.o.z0 b.o.z1
   have c4:=Xq (Nat.lt_succ_self _) (Yx y.o.lt);replace a3:Z _:=a3;go_wp2_with fail;refine c2.o.mono ?_;rintro e u ⟨rfl,g1,c5,a4,P⟩;have c6:u.there w.heap.size 0 306:=λl M=>⟨by rw[P.cell (c:=w.heap.size) c4 O];exact(W.o l M).1,by rw[P.frozen (c:=w.heap.size) c4 O];exact(W.o l M).2⟩
   have e5:Z (Kept w u):=Fr.to_kept I.o P (λi q e=>O);have a5:=d0.o;rw[<-a5] at a4;have F:=c9.o;have Q:h.length=306:=by rw[F];exact bA _ 306
   have a6:∀A∈h,A.oneCell'=true:=by rw[F];exact gM _
   have e6:Z (u.rangeAt (w.heap.size+1) 0 h):=by
    have:=(c5.congr' (d:=csC S) (λi q=>a4.cells i q)).range (k:=0) (m:=306) O
    show u.rangeAt (w.heap.size+1) 0 h
    rw[F];rw[show(λl=>csC S (0+l))=csC S from funext (λl=>by rw[XD])] at this;exact this
   have q:Z ((prog.info? 82).map (·.size)=some h.length):=by show _=_;rw[Q];exact lL
   have a7:u.there w.heap.size 0 h.length:=by rw[Q];exact c6
   have g2:(storeCells ⟨w.heap.size,0,none⟩ h).run prog u=.ok () (u.setCells w.heap.size 0 h):=aM a7 a6;have e7:Z _:=
    Yw _ _ _ _ h _ (XO _ _ _ _ a7) underlying82 rfl q.o
   replace F:Z _:=F;replace Q:Z _:=Q;replace a6:Z _:=a6;replace a5:Z _:=a5;clear a7 c6 c5 a4 P c2;go_wp2;refine wp_load_mid 82 _ rfl (w.heap.size+1) 0 rfl h _ e6.o underlying82 rfl q.o ?_;go_wp2;exact XA (v := .agg h.toArray) (ah rfl _ _ _ _ _ rfl e7.o) rfl ⟨rfl,Kept.setCells (E _) _ _ e5.o⟩
def cI(p:Nat):Nat:=if p<24 then 256+p else if p<168 then p-24 else if p<176 then 112+p else p-32
def kP(b:Nat):Nat:=if b=7 then 24 else if b=8 then 152 else if b=9 then 112 else 0
def iT:CS:=⟨kP,cI,288,9⟩
def iU:CS:=⟨λb=>if b=5 then 32 else 0,λp=>if p<32 then p else 0,32,5⟩
def cntF(i b:Nat):Nat:=if b=7 then min i 280-min i 256 else if b=8 then min i 144+(i-280) else if b=9 then min i 256-min i 144 else 0
def lgF(i:Nat):Nat:=if i=0 then 0 else if i<=144 then 8 else 9
def Ap(b:Nat):Nat:=if b<=7 then 0 else if b=8 then 24 else if b=9 then 176 else 288
def nxF(i b:Nat):Nat:=Ap b+cntF i b
def syF(i p:Nat):Nat:=if p<288/\cI p<i then cI p else 0
theorem en i:(i<144/\aq i=8)\/(144<=i/\i<256/\aq i=9)\/(256<=i/\i<280/\aq i=7)\/(280<=i/\aq i=8):=by
 unfold aq;by_cases a:i<144
 .rw[I a];omega
 .rw[N a]
  by_cases b:i<256
  .rw[I b];omega
  .rw[N b]
   by_cases c:i<280
   .rw[I c];omega
   .rw[N c];omega
theorem k7 i:cntF i 7=min i 280-min i 256:=rfl
theorem k8 i:cntF i 8=min i 144+(i-280):=rfl
theorem k9 i:cntF i 9=min i 256-min i 144:=rfl
theorem kx i b(a:b≠7)(c:b≠8)(d:b≠9):cntF i b=0:=by unfold cntF;rw[N a,N c,N d]
theorem BL i b:cntF (i+1) b=if b=aq i then cntF i b+1 else cntF i b:=by
 have g:=en i;generalize aq i=c at g;by_cases d:b=7
 .rw[d,k7 (i+1),k7 i]
  by_cases a:7=c
  .rw[I a];omega
  .rw[N a];omega
 .by_cases e:b=8
  .rw[e,k8 (i+1),k8 i]
   by_cases a:8=c
   .rw[I a];omega
   .rw[N a];omega
  .by_cases f:b=9
   .rw[f,k9 (i+1),k9 i]
    by_cases a:9=c
    .rw[I a];omega
    .rw[N a];omega
   .rw[kx _ _ d e f,kx _ _ d e f,N]
theorem H7:Iv 288 aq cntF lgF Ap nxF syF:=by
 have n:∀a,a<288->cntF (a+1)=upd (cntF a) (aq a) (cntF a (aq a)+1):=λa g=>by
  funext h
  show cntF (a+1) h=if h=aq a then cntF a (aq a)+1 else cntF a h
  rw[(BL a h)];split
  .rename_i e;rw[e]
  .rfl
 refine⟨O,O,λa _=>by rcases en a with⟨_,m⟩|⟨_,_,m⟩|⟨_,_,m⟩|⟨_,m⟩<;>omega,?_,n,λa r g => ?_,rfl,λa g => ?_,λa=>by unfold lgF;split;omega;split<;>omega,rfl,rfl,λc f d => ?_,λc=>by unfold Ap;split;omega;split;omega;split<;>omega,λr _ => ?_,λa g => ?_,λa g => ?_,?_,λa g => ?_⟩
 .funext h;unfold cntF;split;rfl;split;rfl;split<;>rfl
 .unfold cntF;split;omega;split;omega;split<;>omega
 .unfold lgF
  rcases en a with⟨f,d⟩|⟨f,i,d⟩|⟨f,i,d⟩|⟨f,d⟩
  all_goals
   rw[d,N];by_cases o:a=0
   .subst o;first|(exfalso;omega)|decide
   .rw[N o];split<;>split<;>omega
 .unfold Ap cntF
  rcases(by omega:c<7\/c=7\/c=8\/c=9\/9<c) with e|e|e|e|e
  .simp only[show ¬c=7 from O,show ¬c=8 from O,show ¬c=9 from O,show c+1<=7 from O,show c<=7 from O,if_true,if_false]
  .subst e;decide
  .subst e;decide
  .subst e;decide
  .simp only[show ¬c=7 from O,show ¬c=8 from O,show ¬c=9 from O,show ¬c+1<=7 from O,show ¬c<=7 from O,show ¬c+1=8 from O,show ¬c+1=9 from O,if_false]
 .unfold nxF cntF;split;omega;split;omega;split<;>omega
 .funext h
  unfold nxF;rw[n a g];unfold upd;split
  .rename_i e;subst e;omega
  .rfl
 .rcases en a with⟨f,d⟩|⟨f,i,d⟩|⟨f,i,d⟩|⟨f,d⟩
  .rw[d];show 24+(min a 144+(a-280))<288;omega
  .rw[d];show 176+(min a 256-min a 144)<288;omega
  .rw[d];show 0+(min a 280-min a 256)<288;omega
  .rw[d];show 24+(min a 144+(a-280))<288;omega
 .funext b;unfold syF;rw[N]
 .funext b
  show(if b<288/\cI b<a+1 then cI b else 0)=if b=nxF a (aq a) then a else(if b<288/\cI b<a then cI b else 0)
  have p:b=nxF a (aq a)↔b<288/\cI b=a:=by
   have t:(b<24/\cI b=256+b)\/(24<=b/\b<168/\cI b=b-24)\/(168<=b/\b<176/\cI b=112+b)\/(176<=b/\cI b=b-32):=by
    unfold cI;by_cases j:b<24
    .rw[I j];omega
    .rw[N j]
     by_cases k:b<168
     .rw[I k];omega
     .rw[N k]
      by_cases q:b<176
      .rw[I q];omega
      .rw[N q];omega
   rcases en a with⟨f,d⟩|⟨f,i,d⟩|⟨f,i,d⟩|⟨f,d⟩
   .rw[d,show nxF a 8=24+(min a 144+(a-280)) from rfl];omega
   .rw[d,show nxF a 9=176+(min a 256-min a 144) from rfl];omega
   .rw[d,show nxF a 7=0+(min a 280-min a 256) from rfl];omega
   .rw[d,show nxF a 8=24+(min a 144+(a-280)) from rfl];omega
  by_cases e:b=nxF a (aq a)
  .rw[I e]
   obtain⟨j,k⟩:=p.1 e;rw[I ⟨j,O⟩,k]
  .rw[N e]
   by_cases l:b<288/\cI b<a
   .rw[I l,I ⟨l.1,O⟩]
   .rw[N l,N (λc=>l ⟨c.1,by
     have:cI b≠a:=λs=>e (p.2 ⟨c.1,s⟩)
     omega⟩)]
theorem BE j(a:j<306):csC ⟨cntF 288,syF 288,288,lgF 288⟩ j=csC iT j:=by
 unfold csC;show(if j<16 then Value.int .i64 (cntF 288 j) else if j<304 then Value.int .i64 (syF 288 (j-16):Int) else if j=304 then Value.int .i64 ((288:Nat):Int) else Value.int .i64 (lgF 288))=(if j<16 then Value.int .i64 (kP j) else if j<304 then Value.int .i64 (cI (j-16):Int) else if j=304 then Value.int .i64 ((288:Nat):Int) else Value.int .i64 ((9:Nat):Int))
 split
 .have:cntF 288 j=kP j:=by unfold cntF kP;split;rfl;split;rfl;split<;>rfl
  rw[this]
 .split
  .have:syF 288 (j-16)=cI (j-16):=by
    unfold syF;rw[I ⟨O,by unfold cI;split;omega;split;omega;split<;>omega⟩]
   rw[this]
  .rfl
def jr(i b:Nat):Nat:=if b=5 then i else 0
def lgD(i:Nat):Nat:=if i=0 then 0 else 5
def yD(b:Nat):Nat:=if b<=5 then 0 else 32
def nxD(i b:Nat):Nat:=yD b+jr i b
def syD(i p:Nat):Nat:=if p<i then p else 0
def f5:Nat->Nat:=λ_=>5
theorem D5:Iv 32 f5 jr lgD yD nxD syD:=by
 refine⟨O,O,λa _=>by show 1<=5/\5<=15;omega,?_,λa e => ?_,λa g e => ?_,rfl,λa e => ?_,λa=>by unfold lgD;split<;>omega,rfl,rfl,λh i j => ?_,λh=>by unfold yD;split<;>omega,λg _ => ?_,λa e => ?_,λa e => ?_,?_,λa e => ?_⟩
 .funext c;unfold jr;split<;>rfl
 .funext c
  show(if c=5 then a+1 else 0)=if c=5 then jr a 5+1 else jr a c
  by_cases b:c=5
  .rw[I b,I b];rfl
  .rw[N b,N b];unfold jr;rw[N b]
 .unfold jr;split<;>omega
 .show(if a+1=0 then 0 else 5)=max (lgD a) 5
  unfold lgD;rw[N];split<;>omega
 .unfold yD jr
  split<;>split<;>(try split)<;>omega
 .unfold nxD jr;split<;>omega
 .funext c
  show yD c+(if c=5 then a+1 else 0)=if c=5 then nxD a 5+1 else nxD a c
  by_cases b:c=5
  .rw[I b,I b,b];show 0+(a+1)=0+a+1;omega
  .rw[N b,N b];unfold nxD jr;rw[N b]
 .show 0+a<288;omega
 .funext d;unfold syD;rw[N]
 .funext d
  show(if d<a+1 then d else 0)=if d=0+a then a else(if d<a then d else 0)
  by_cases b:d=a
  .rw[I,I,b]
  .rw[N (show ¬d=0+a from O)]
   by_cases f:d<a
   .rw[I f,I]
   .rw[N f,N]
theorem BF j(a:j<306):csC ⟨jr 32,syD 32,32,lgD 32⟩ j=csC iU j:=by
 unfold csC;rfl
theorem tq w:Calls prog 221 #[] w λn K=>n=.returned (.agg ((List.range 306).map (csC ⟨cntF 288,syF 288,288,lgF 288⟩)).toArray)/\Kept w K:=by
 obtain⟨c,o⟩:∃c,c=(List.range 306).map (csC ⟨cntF 288,syF 288,288,lgF 288⟩):=⟨_,rfl⟩;rw[<-o];have L:Z _:=o;clear o;have M:Z (Kept w (w.alloc (Obj.cells zeroCells82 82))):=Xw (Xs _ _) (E _) _;have z:Z ((w.alloc (Obj.cells zeroCells82 82)).there w.heap.size 0 306):=by
  have:=(kT w 82).there (k:=0) (m:=306) O
  rw[<-iF] at this;exact this
 have A:Z (w.heap.size<(w.alloc (Obj.cells zeroCells82 82)).heap.size):=by show _<_;simp
 go_enter func221,ntmps221;go_wp2_with fail;generalize w.alloc (Obj.cells zeroCells82 82)=B at *;refine(tp B).mono ?_;rintro n a ⟨rfl,q⟩;obtain⟨b,d⟩:∃b,b=(List.range 288).map (u8C aq 288):=⟨_,rfl⟩;have r:b.length=288:=by rw[d];exact bA _ 288
 have s:∀t∈b,t.oneCell'=true:=by rw[d];exact lD _ _
 have C:(a.alloc (Obj.cells zeroCells150 150)).there a.heap.size 0 288:=by
  have:=(iR a 288 (.int .u8 0) 150 aq rfl).there (k:=0) (m:=288) O
  first|exact this|(rw[<-nm] at this;exact this)
 have u:(a.alloc (Obj.cells zeroCells150 150)).there a.heap.size 0 b.length:=by rw[r];exact C
 have D:(storeCells ⟨a.heap.size,0,none⟩ b).run prog (a.alloc (Obj.cells zeroCells150 150))=.ok () ((a.alloc (Obj.cells zeroCells150 150)).setCells a.heap.size 0 b):=aM u s;have F:Kept a (a.alloc (Obj.cells zeroCells150 150)):=Xw (Xs _ _) (E _) _;have N:Z (Kept B ((a.alloc (Obj.cells zeroCells150 150)).setCells a.heap.size 0 b)):=Kept.setCells q.size _ _ (q.trans F);have P:Z (∀e,e<288->((a.alloc (Obj.cells zeroCells150 150)).setCells a.heap.size 0 b).cell? ⟨a.heap.size,e,none⟩=some (.int .u8 (aq e))):=λe g=>by
  have:=(XO (a.alloc (Obj.cells zeroCells150 150)) a.heap.size 0 b u) e (.int .u8 (aq e)) (by rw[d,cg _ 288 e g];unfold u8C;rw[I g])
  rw[XD] at this;exact this
 first|rw[<-d]|rw[show(List.map (u8C (λ_=>5) 32) (List.range 32))=b from d.symm]
 replace d:Z _:=d;replace r:Z _:=r;replace s:Z _:=s;clear C u F q;go_upto_region 2 with fail
 generalize (a.alloc (Obj.cells zeroCells150 150)).setCells a.heap.size 0 b=Q at *;clear D;have G:=U (AK a.heap.size 288 288 aq cntF lgF Ap nxF syF Q P.o (E _) H7);have f:=L.o;have h:c.length=306:=by rw[f];exact bA _ 306
 have x:∀t∈c,t.oneCell'=true:=by rw[f];exact gM _
 rw[<-f] at G;replace f:Z _:=f;replace h:Z _:=h;replace x:Z _:=x;go_wp2_with fail;refine G.o.mono ?_;rintro n i ⟨rfl,H⟩;have j:=N.o.trans H;have y:i.there w.heap.size 0 c.length:=by rw[h.o];exact λl J=>⟨by rw[j.cell (p:=⟨w.heap.size,0+l,none⟩) A.o];exact(z.o l J).1,by rw[j.frozen (p:=⟨w.heap.size,0+l,none⟩) A.o];exact(z.o l J).2⟩
 have D:(storeCells ⟨w.heap.size,0,none⟩ c).run prog i=.ok () (i.setCells w.heap.size 0 c):=aM y x.o;have g:Z ((prog.info? 82).map (·.size)=some c.length):=by show _=_;rw[h.o];exact lL
 have R:Z _:=
  Yw _ _ _ _ c _ (XO _ _ _ _ y) underlying82 rfl g.o
 have S:Z (Kept w (i.setCells w.heap.size 0 c)):=Kept.setCells (E _) _ _ (M.o.trans j);clear y H j;go_wp2;exact XA (v := .agg c.toArray) (ah rfl _ _ _ _ _ rfl R.o) rfl ⟨rfl,S.o⟩
theorem qY w:Calls prog 222 #[] w λn K=>n=.returned (.agg ((List.range 306).map (csC ⟨jr 32,syD 32,32,lgD 32⟩)).toArray)/\Kept w K:=by
 obtain⟨c,o⟩:∃c,c=(List.range 306).map (csC ⟨jr 32,syD 32,32,lgD 32⟩):=⟨_,rfl⟩;rw[<-o];have L:Z _:=o;clear o;have M:Z (Kept w (w.alloc (Obj.cells zeroCells82 82))):=Xw (Xs _ _) (E _) _;have z:Z ((w.alloc (Obj.cells zeroCells82 82)).there w.heap.size 0 306):=by
  have:=(kT w 82).there (k:=0) (m:=306) O
  rw[<-iF] at this;exact this
 have A:Z (w.heap.size<(w.alloc (Obj.cells zeroCells82 82)).heap.size):=by show _<_;simp
 go_enter func222,ntmps222;go_wp2_with fail;generalize w.alloc (Obj.cells zeroCells82 82)=B at *;refine(pd B).mono ?_;rintro n a ⟨rfl,q⟩;obtain⟨b,d⟩:∃b,b=(List.range 32).map (u8C f5 32):=⟨_,rfl⟩;have r:b.length=32:=by rw[d];exact bA _ 32
 have s:∀t∈b,t.oneCell'=true:=by rw[d];exact lD _ _
 have C:(a.alloc (Obj.cells gv 182)).there a.heap.size 0 32:=by
  have:=(iR a 32 (.int .u8 0) 182 f5 rfl).there (k:=0) (m:=32) O
  first|exact this|(rw[<-qM] at this;exact this)
 have u:(a.alloc (Obj.cells gv 182)).there a.heap.size 0 b.length:=by rw[r];exact C
 have D:(storeCells ⟨a.heap.size,0,none⟩ b).run prog (a.alloc (Obj.cells gv 182))=.ok () ((a.alloc (Obj.cells gv 182)).setCells a.heap.size 0 b):=aM u s;have F:Kept a (a.alloc (Obj.cells gv 182)):=Xw (Xs _ _) (E _) _;have N:Z (Kept B ((a.alloc (Obj.cells gv 182)).setCells a.heap.size 0 b)):=Kept.setCells q.size _ _ (q.trans F);have P:Z (∀e,e<32->((a.alloc (Obj.cells gv 182)).setCells a.heap.size 0 b).cell? ⟨a.heap.size,e,none⟩=some (.int .u8 (f5 e))):=λe g=>by
  have:=(XO (a.alloc (Obj.cells gv 182)) a.heap.size 0 b u) e (.int .u8 (f5 e)) (by rw[d,cg _ 32 e g];unfold u8C;rw[I g])
  rw[XD] at this;exact this
 first|rw[<-d]|rw[show(List.map (u8C (λ_=>5) 32) (List.range 32))=b from d.symm]
 replace d:Z _:=d;replace r:Z _:=r;replace s:Z _:=s;clear C u F q;go_upto_region 2 with fail
 generalize (a.alloc (Obj.cells gv 182)).setCells a.heap.size 0 b=Q at *;clear D;have G:=U (AK a.heap.size 32 32 f5 jr lgD yD nxD syD Q P.o (E _) D5);have f:=L.o;have h:c.length=306:=by rw[f];exact bA _ 306
 have x:∀t∈c,t.oneCell'=true:=by rw[f];exact gM _
 rw[<-f] at G;replace f:Z _:=f;replace h:Z _:=h;replace x:Z _:=x;go_wp2_with fail;refine G.o.mono ?_;rintro n i ⟨rfl,H⟩;have j:=N.o.trans H;have y:i.there w.heap.size 0 c.length:=by rw[h.o];exact λl J=>⟨by rw[j.cell (p:=⟨w.heap.size,0+l,none⟩) A.o];exact(z.o l J).1,by rw[j.frozen (p:=⟨w.heap.size,0+l,none⟩) A.o];exact(z.o l J).2⟩
 have D:(storeCells ⟨w.heap.size,0,none⟩ c).run prog i=.ok () (i.setCells w.heap.size 0 c):=aM y x.o;have g:Z ((prog.info? 82).map (·.size)=some c.length):=by show _=_;rw[h.o];exact lL
 have R:Z _:=
  Yw _ _ _ _ c _ (XO _ _ _ _ y) underlying82 rfl g.o
 have S:Z (Kept w (i.setCells w.heap.size 0 c)):=Kept.setCells (E _) _ _ (M.o.trans j);clear y H j;go_wp2;exact XA (v := .agg c.toArray) (ah rfl _ _ _ _ _ rfl R.o) rfl ⟨rfl,S.o⟩
