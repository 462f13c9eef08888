/-
  OWN TEXT: PlainP, PlainWo, PlainCv, PlainR6, PlainR7, PlainDo, PlainDw.
-/
import Derived.Test.YtmdnjgihooflfaaGreatDoorB12
namespace Go.Proofs.YtmdnjgihooflfaaGreatDoor
open Go.RowKit
open Go.Value (int)
open Go.IntKind (i64)
open Tryz
set_option maxHeartbeats 64000000
set_option maxRecDepth 100000
section
open Go.RowKit
variable{n k i:Nat}{x len hei:Int}{F:Nat->Int}
open Classical in
/-- The lane on which the car is zkl. -/
noncomputable def zbY (p:zH)(n:Nat)(S:Nat->Zp)(x len hei:Int):Option Nat:=if h:∃ k,zdc p n S x len hei k then some h.choose else none
theorem zgH {p:zH}{S:Nat->Zp}(h:zdc p n S x len hei k):zbY p n S x len hei=some k:=by
 have a:∃ k,_:=⟨k,h⟩;unfold zbY;rw[dif_pos a];obtain⟨_,_,_,_,_,_,h1⟩:=h;obtain⟨_,_,_,_,_,_,h2⟩:=a.choose_spec;rw[zex h2 h1]
theorem znj {p:zH}{S:Nat->Zp}(h:∀ k,¬ zdc p n S x len hei k):zbY p n S x len hei=none:=by
 unfold zbY;rw[dif_neg (λ⟨k,hk⟩=>h k hk)]
theorem zkk {p:zH}{S:Nat->Zp}(h:zbY p n S x len hei=some k):zdc p n S x len hei k:=by
 unfold zbY at h
 split at h
 ·rename_i he
  have:=he.choose_spec;simp only[Option.some.injEq] at h;rw[h] at this;exact this
 ·cases h
noncomputable def zgI (p:zH)(n:Nat)(S:Nat->Zp)(x len hei:Int):Bool:=(zbY p n S x len hei).isSome
noncomputable def zaC (p:zH)(n:Nat)(S:Nat->Zp)(x len hei:Int):Int:=((zbY p n S x len hei).getD 0:Nat)
noncomputable def zdR (p:zH)(n:Nat)(S:Nat->Zp)(x len hei:Int):Nat:=if (zbY p n S x len hei).isSome then n+1 else 0
noncomputable def zkl (p:zH)(n:Nat)(S:Nat->Zp)(x len hei:Int):Nat->Zp:=QI S n (λ_=>⟨x,zaC p n S x len hei,len,hei⟩)
def zgf (w':World)(base t:Nat)(p:zH)(n:Nat)(S:Nat->Zp)(x len hei:Int)(e:Ending):Prop :=
 ∃ v,e=.returned (.tuple #[v,(zaC p n S x len hei),.bool (zgI p n S x len hei)])/\w'.ownsRow base t 4 v (zdR p n S x len hei) (zy (zkl p n S x len hei) (zdR p n S x len hei))
theorem zcM {w:World}{base t:Nat}{p:zH}{S:Nat->Zp}(h:∀ k,¬ zdc p n S x len hei k):zgf w base t p n S x len hei (.returned (.tuple #[True,(),.bool false])):=by
 have:=znj h;refine⟨.slice none 0 0,?_,?_⟩
 ·unfold zaC zgI;rw[this];rfl
 ·unfold zdR;rw[this];exact⟨rfl,.inl ⟨rfl,rfl⟩⟩
theorem zkm {w:World}{base t:Nat}{p:zH}{S:Nat->Zp}{v:Value}(h:zdc p n S x len hei k)
  (a:w.ownsRow base t 4 v (n+1) (zy (QI S n (λ_=>⟨x,(k:Int),len,hei⟩)) (n+1))):zgf w base t p n S x len hei (.returned (.tuple #[v,(k:Int),.bool true])):=by
 have:=zgH h;refine⟨v,?_,?_⟩
 ·unfold zaC zgI;rw[this];rfl
 ·unfold zkl zaC zdR;rw[this];exact a
theorem zgJ {p:zH}{S:Nat->Zp}(hk:k<p.n):zmC p (qy p S n) ⟨x,(k:Int),len,hei⟩↔(In x 1 9999/\In len 1 2000/\In hei 1 500/\hei<=p.B k/\len<=QW p S n k):=by
 rw[zgC]
 constructor
 ·rintro⟨a,b,c,_,e,f⟩
  exact⟨a,b,c,e,f⟩
 ·rintro⟨a,b,c,e,f⟩
  exact⟨a,b,c,⟨by show _<=(k:Int);omega,by show(k:Int)<=_;omega⟩,e,f⟩
theorem znk {p:zH}{S:Nat->Zp}(i:zfj p n S)(q:n≠60)(m:¬ Has (Qc S) n x)(d:k<p.n)(l:zmC p (qy p S n) ⟨x,(k:Int),len,hei⟩)
  (g:∀ j,j<k->¬ zmC p (qy p S n) ⟨x,(j:Int),len,hei⟩):zdc p n S x len hei k:=by
 obtain⟨a,b,c,e,f⟩:=(zgJ d).1 l;exact⟨i,q,m,a,b,c,d,⟨e,f⟩,λj o h=>g j o ((zgJ (by omega)).2 ⟨a,b,c,h.1,h.2⟩)⟩
theorem zlT {p:zH}{S:Nat->Zp}(g:∀ j,j<p.n->¬ zmC p (qy p S n) ⟨x,(j:Int),len,hei⟩):∀ k,¬ zdc p n S x len hei k:=by
 rintro k ⟨_,_,_,a,b,c,d,⟨e,f⟩,_⟩;exact g k d ((zgJ d).2 ⟨a,b,c,e,f⟩)
theorem zhU {S S':Nat->Zp}(k i:Nat)(h:∀ j,j<i->S' j=S j):zkf S' k i=zkf S k i:=by
 induction i with
 | zero=>rfl
 | succ i ih =>
  unfold zkf;rw[ih (λj hj=>h j (by omega)),h i (by omega)]
theorem zhV {p:zH}{S S':Nat->Zp}(i:Nat)(h:∀ j,j<i->S' j=S j):QW p S' i=QW p S i:=by
 funext k
 unfold QW;rw[zhU k i h]
theorem zgK {a:Nat->Int}(h:∀ j,j<n->a j=F j):Has a n x↔Has F n x :=
 ⟨λ⟨j,hj,e⟩=>⟨j,hj,by rw[← h j hj];exact e⟩,λ⟨j,hj,e⟩=>⟨j,hj,by rw[h j hj];exact e⟩⟩
theorem zkn {S T:Nat->Zp}(h:i<n):QI S n T i=S i:=Jf h
theorem cat_n {S:Nat->Zp}{s:Zp}:QI S n (λ_=>s) n=s:=Je (by omega)
theorem znl {p:zH}{S:Nat->Zp}(h:zdc p n S x len hei k) :
  zfj p (n+1) (QI S n (λ_=>⟨x,(k:Int),len,hei⟩))/\Has (Qc (QI S n (λ_=>⟨x,(k:Int),len,hei⟩))) (n+1) x/\zaj (Qc (QI S n (λ_=>⟨x,(k:Int),len,hei⟩))) x (n+1)=n:=by
 obtain⟨g,hn,m,h1,h2,h3,hk,⟨o,q⟩,_⟩:=h;have l:∀ j,_->Qc (QI S n (λ_=>⟨x,(k:Int),len,hei⟩)) j=Qc S j:=λj d=>by unfold Qc;rw[zkn d]
 have f:Qc (QI S n (λ_=>⟨x,(k:Int),len,hei⟩)) n=x:=by unfold Qc;rw[cat_n]
 refine⟨⟨g.1,by have:=g.2.1;omega,λi hi=>?_⟩,⟨n,Nat.lt_succ_self _,f⟩,zfe (Nat.lt_succ_self _) f (λj d=>by rw[l j d];exact λe=>m ⟨j,d,e⟩)⟩
 by_cases e:i=n
 ·subst e
  rw[cat_n,zhV i (λj d=>zkn d)]
  refine⟨λc=>m ((zgK l).1 c),h1,h2,h3,⟨by show _<=(k:Int);omega,by show(k:Int)<=_;omega⟩,o,q⟩
 ·have hi':i<n:=by omega
  rw[zkn hi',zhV i (λj d=>zkn (by omega))]
  obtain⟨a,b⟩:=g.2.2 i hi';exact⟨λc=>a ((zgK (λj d=>l j (by omega))).1 c),b⟩
end
section
open Go.RowKit
variable{r i n:Nat}{x:Int}
theorem zcr {S:Nat->Zp}(h:i<r):Zx S r i=S i:=Jf h
theorem zdS {S:Nat->Zp}(h:r<=i):Zx S r i=S (i+1):=Je (by omega)
theorem zgL {S:Nat->Zp}(h:Has (Qc (Zx S r)) i x):Has (Qc S) (i+1) x:=by
 obtain⟨j,hj,e⟩:=h
 by_cases c:j<r
 ·exact⟨j,by omega,by rw[← e];unfold Qc;rw[zcr c]⟩
 ·exact⟨j+1,by omega,by rw[← e];unfold Qc;rw[zdS (by omega)]⟩
theorem zko (S:Nat->Zp)(r k i:Nat)(h:r<=i):zkf (Zx S r) k i+(if (S r).ln=(k:Int) then (S r).len else 0)=zkf S k (i+1):=by
 induction i with
 | zero =>
  have e:r=0:=by omega
  subst e
  rfl
 | succ i ih =>
  by_cases c:r=i+1
  ·subst c
   rw[zhU k _ (λj b=>zcr b)]
   rfl
  ·have a:=ih (by omega)
   rw[zkf,zdS (by omega:_)]
   rw[show zkf S k _=_+_ from rfl,← a]
   omega
theorem zkp {p:zH}{S:Nat->Zp}(h:zfj p (n+1) S)(hr:r<=n):zfj p n (Zx S r):=by
 obtain⟨m,hn,g,l⟩:=(QO p _ S).2 h;refine(QO p n _).1 ⟨m,by omega,λi hi=>?_,λk o=>?_⟩
 ·by_cases c:i<r
  ·obtain⟨h1,h2,h3,d,e⟩:=g i (by omega)
   unfold OkS;rw[zcr c];refine⟨h1,h2,h3,d,λf=>e ((zgK (λj hj=>?_)).1 f)⟩
   unfold Qc;rw[zcr (by omega)]
  ·obtain⟨h1,h2,h3,d,e⟩:=g (i+1) (by omega)
   unfold OkS;rw[zdS (by omega)]
   exact⟨h1,h2,h3,d,λf=>e (zgL f)⟩
 ·have a:=l k o
  have b:=zko S r k n hr;have c:=(g r (by omega)).2.2.1
  unfold In at c;unfold QW at a ⊢
  split at b <;> omega
theorem ziJ {S:Nat->Zp}(hr:r<=n)(b:(S r).who≠x):Has (Qc (Zx S r)) n x↔Has (Qc S) (n+1) x:=by
 refine⟨zgL,?_⟩;rintro⟨j,hj,e⟩
 by_cases c:j<r
 ·exact⟨j,by omega,by rw[← e];unfold Qc;rw[zcr c]⟩
 ·have a:j≠r:=λq=>b (by rw[← q];exact e)
  refine⟨j - 1,by omega,?_⟩
  rw[← e];unfold Qc;rw[zdS (by omega),show j - 1+1=j by omega]
end
section
open Go.RowKit
variable{o:Off}{k j n i:Nat}{x:Int}{F:Nat->Int}
theorem cover {P:Nat->Prop}{B:Nat->Int}(m:Nat):∀ (n:Nat)(F:Nat->Int),cnt P m=n->(∀ i,i<m->P i->Has F n (B i))->(∀ i,i<m->∀ j,j<i->B j≠B i)->∀ j,j<n->∃ i,i<m/\P i/\B i=F j:=by
 induction m with
 | zero=>intro n F h _ _ j f;rw[cnt] at h;omega
 | succ m ih =>
  intro n F h o l j f
  by_cases c:P m
  ·rw[Qy c] at h
   obtain⟨r,hr,p⟩:=o m (by omega) c
   obtain⟨n,rfl⟩:∃ n',n=n'+1:=⟨n - 1,by omega⟩
   have k:=ih n (Z7 F r) (by omega) (λi b a=>(zgz (by omega) (λe=>l m (by omega) i b (by rw[← e,p]))).2 (o i (by omega) a)) (λi b j f=>l i (by omega) j f)
   by_cases e:j=r
   ·exact⟨m,by omega,c,by rw[e,p]⟩
   ·by_cases d:j<r
    ·obtain⟨i,b,a,g⟩:=k j (by omega)
     exact⟨i,by omega,a,by rw[g,zay d]⟩
    ·obtain⟨i,b,a,g⟩:=k (j - 1) (by omega)
     exact⟨i,by omega,a,by rw[g,zbt (by omega),show j - 1+1=j by omega]⟩
  ·rw[zae c] at h
   obtain⟨i,b,a,g⟩:=ih n F h (λi b a=>o i (by omega) a) (λi b j f=>l i (by omega) j f) j f
   exact⟨i,by omega,a,g⟩
theorem Zk.whos (h:Zk o):∀ i,i<o.bkn->∀ j,j<i->(o.bk j).who≠(o.bk i).who:=λi a j b=>(h.2.2.2.2.1 i a).2.2.2.2.2.2.2.1 j b
theorem Zk.seat_of (h:Zk o)(d:k<o.san)(c:j<(o.ld k).sen):∃ i,i<o.bkn/\On o k i/\(o.bk i).who=((o.ld k).se j).who:=by
 obtain⟨l,_,_,a⟩:=h.2.2.2.2.2 k d;refine cover _ _ (zag _) a.symm (λi b f=>?_) h.whos j c
 obtain⟨q,g,e,_⟩:=(l i b f).1;exact⟨q,g,e⟩
theorem Zk.stay_of (h:Zk o)(f:k<o.san)(d:j<(o.ld k).stn):∃ i,i<o.bkn/\(On o k i/\0<(o.bk i).len)/\(o.bk i).who=((o.ld k).st j).who:=by
 obtain⟨l,b,_,_⟩:=h.2.2.2.2.2 k f;refine cover _ _ (Qc _) b.symm (λi c a=>?_) h.whos j d
 rcases (l i c a.1).2.1 with e|⟨q,g,e,_⟩
 ·have:=a.2;omega
 ·exact⟨q,g,e⟩
theorem Zk.room_of (h:Zk o)(f:k<o.san)(d:j<(o.ld k).ron):∃ i,i<o.bkn/\(On o k i/\0<(o.bk i).cl)/\(o.bk i).who=((o.ld k).ro j).who:=by
 obtain⟨l,_,b,_⟩:=h.2.2.2.2.2 k f;refine cover _ _ (ZV _) b.symm (λi c a=>?_) h.whos j d
 rcases (l i c a.1).2.2 with e|⟨q,g,e,_⟩
 ·have:=a.2;omega
 ·exact⟨q,g,e⟩
theorem Zk.fresh (h:Zk o)(f:∀ i,i<o.bkn->(o.bk i).who≠x)(d:k<o.san) :
  ¬ Has (zag (o.ld k).se) (o.ld k).sen x/\¬ Has (Qc (o.ld k).st) (o.ld k).stn x/\¬ Has (ZV (o.ld k).ro) (o.ld k).ron x:=by
 refine⟨?_,?_,?_⟩
 ·rintro⟨j,c,e⟩
  obtain⟨i,b,_,a⟩:=h.seat_of d c;exact f i b (a.trans e)
 ·rintro⟨j,c,e⟩
  obtain⟨i,b,_,a⟩:=h.stay_of d c;exact f i b (a.trans e)
 ·rintro⟨j,c,e⟩
  obtain⟨i,b,_,a⟩:=h.room_of d c;exact f i b (a.trans e)
theorem zcs (h:∀ i,i<n->¬ Has F i (F i))(f:Has F n x):∃ r,r<n/\F r=x/\∀ j,j<n->j≠r->F j≠x:=by
 obtain⟨r,hr,e⟩:=f;refine⟨r,hr,e,λj b d a=>?_⟩
 by_cases c:j<r
 ·exact h r hr ⟨j,c,by rw[a,e]⟩
 ·exact h j b ⟨r,by omega,by rw[e,a]⟩
theorem qm.seats_one {s:Zj}{x:zY}(h:qm s x):∀ i,i<x.sen->¬ Has (zag x.se) i (zag x.se i):=λi a=>(h.2.2.2.2.1 i a).2.1
theorem qm.stays_one {s:Zj}{x:zY}(h:qm s x):∀ i,i<x.stn->¬ Has (Qc x.st) i (Qc x.st i):=λi a=>(h.1.2.2.1 i a).2.2.2.2
theorem qm.rooms_one {s:Zj}{x:zY}(h:qm s x):∀ i,i<x.ron->¬ Has (ZV x.ro) i (ZV x.ro i):=λi a=>(h.2.1.2.2.1 i a).1.2.1
theorem Zk.here (h:Zk o)(d:k<o.san)(b:i<o.bkn)(f:On o k i) :
  Has (zag (o.ld k).se) (o.ld k).sen (o.bk i).who/\(0<(o.bk i).len->Has (Qc (o.ld k).st) (o.ld k).stn (o.bk i).who)/\(0<(o.bk i).cl->Has (ZV (o.ld k).ro) (o.ld k).ron (o.bk i).who):=by
 obtain⟨h1,h2,h3⟩:=(h.2.2.2.2.2 k d).1 i b f;refine⟨?_,λc=>?_,λc=>?_⟩
 ·obtain⟨q,a,e,_⟩:=h1
  exact⟨q,a,e⟩
 ·rcases h2 with e|⟨q,a,e,_⟩
  ·omega
  ·exact⟨q,a,e⟩
 ·rcases h3 with e|⟨q,a,e,_⟩
  ·omega
  ·exact⟨q,a,e⟩
end
section
open Go.RowKit
variable{i k n:Nat}
def zbE (p:zH)(F:Nat->Int)(r:qN):Prop :=
 In r.cab 0 ((p.n:Int) - 1)/\(r.all=true->F r.cab.toNat=p.B r.cab.toNat/\r.many=p.B r.cab.toNat)/\(r.all=false->In r.many 1 (F r.cab.toNat))
def Zl (p:zH)(S:Nat->qN)(i k:Nat):Int:=if k<p.n then Za p S i k else 0
theorem freeR_0 (p:zH)(S:Nat->qN)(k:Nat):Zl p S 0 k=zbJ p.n p.B 0 k:=by
 unfold Zl zbJ
 split
 ·rw[ziC]
 ·rfl
theorem zcN {p:zH}{S:Nat->qN}(h:k<p.n):Zl p S i k=Za p S i k:=Jf h
theorem znm (p:zH)(S:Nat->qN)(i l j:Nat)(a:l<p.n)(h:(S i).cab=(l:Int)):(if j=l then Zl p S i l - (S i).many else Zl p S i j)=Zl p S (i+1) j:=by
 by_cases e:j=l
 ·subst e;rw[Jf rfl,zcN a,zcN a,zdK p S i j h]
 ·rw[Je e]
  unfold Zl
  split
  ·rw[zgb p S i j (by rw[h];omega)]
  ·rfl
theorem zem {p:zH}{S:Nat->qN}{r:qN}:zbE p (Zl p S i) r↔zbE p (Za p S i) r:=by
 unfold zbE
 constructor
 ·rintro⟨h,h1,h2⟩
  have a:r.cab.toNat<p.n:=by unfold In at h;omega
  rw[zcN a] at h1 h2;exact⟨h,h1,h2⟩
 ·rintro⟨h,h1,h2⟩
  have a:r.cab.toNat<p.n:=by unfold In at h;omega
  rw[zcN a];exact⟨h,h1,h2⟩
def zkq (p:zH)(n:Nat)(S:Nat->qN):Prop :=
 zgt p/\n<=60/\∀ i,i<n->In (S i).who 1 9999/\¬ Has (ZV S) i (S i).who/\zbE p (Za p S i) (S i)
theorem zkr {S:Nat->qN}(h:∀ j,j<i->(S j).cab≠(k:Int)):zai S k i=0:=by
 induction i with
 | zero=>rfl
 | succ i ih=>unfold zai;rw[ih (λj hj=>h j (by omega)),Je (h i (by omega))];rfl
theorem left_le (p:zH)(S:Nat->qN)(k i:Nat)(h:∀ j,j<i->In (S j).many 1 4):Za p S i k<=p.B k:=by
 have:=zff p S k 0 i (Jq _) h;rw[ziC] at this;exact this
theorem zgM {p:zH}{S:Nat->qN}(m:zgt p)(u:∀ i,i<n->zbE p (Za p S i) (S i)):∀ i,i<=n->(∀ j,j<i->In (S j).many 1 4)/\∀ k,k<p.n->0<=Za p S i k:=by
 intro i
 induction i with
 | zero =>
  intro _;refine⟨λj s=>by omega,λk c=>?_⟩
  have:=(m.2 k c).2;unfold In at this;rw[ziC];omega
 | succ i ih =>
  intro hi;obtain⟨a,b⟩:=ih (by omega)
  obtain⟨h,h1,h2⟩:=u i (by omega)
  obtain⟨l,o⟩:∃ l:Nat,(S i).cab=l:=⟨(S i).cab.toNat,by unfold In at h;omega⟩
  have d:l<p.n:=by unfold In at h;omega
  have r:(S i).cab.toNat=l:=by omega
  rw[r] at h1 h2;have g:=(m.2 l d).2;have t:=left_le p S l i a;have f:=zdK p S i l o;have q:In (S i).many 1 4/\0<=Za p S (i+1) l:=by
   cases hall:(S i).all with
   | true =>
    have:=h1 hall;unfold In at g ⊢
    omega
   | false =>
    have:=h2 hall;unfold In at g this ⊢
    omega
  refine⟨λj s=>?_,λk c=>?_⟩
  ·by_cases e:j=i
   ·subst e;exact q.1
   ·exact a j (by omega)
  ·by_cases e:k=l
   ·subst e;exact q.2
   ·rw[zgb p S i k (by rw[o];omega)];exact b k c
theorem zgN {p:zH}{S:Nat->qN}(h:zkq p n S):Qr p n S:=by
 obtain⟨o,z,a⟩:=h;have st:=zgM o (λi b=>(a i b).2.2)
 refine⟨o,z,λi b=>⟨⟨(a i b).1,(a i b).2.1,(a i b).2.2.1,(st n (Jr _)).1 i b,λc=>((a i b).2.2.2.1 c).2⟩,λj hj v=>?_⟩,λk w=>(st n (Jr _)).2 k w⟩
 obtain⟨u,h1,h2⟩:=(a i b).2.2;obtain⟨_,q,B⟩:=(a j (by omega)).2.2
 obtain⟨l,x⟩:∃ l:Nat,(S i).cab=l:=⟨(S i).cab.toNat,by unfold In at u;omega⟩
 have s:(S i).cab.toNat=l:=by omega
 have r:=v.trans x;have e:(S j).cab.toNat=l:=by omega
 rw[s] at h1 h2;rw[e] at q B;have f:=(st n (Jr _)).1 j (by omega)
 have y:=left_le p S l j (λt A=>(st n (Jr _)).1 t (by omega))
 have m:=zdK p S j l r;have g:=zff p S l (j+1) i (by omega) (λt A=>(st n (Jr _)).1 t (by omega))
 unfold In at f;have d:(S i).all=false:=by
  cases c:(S i).all with
  | false=>rfl
  | true=>have:=(h1 c).1;omega
 refine⟨?_,d⟩
 cases c:(S j).all with
 | false=>rfl
 | true =>
  have:=q c;have h3:=h2 d;unfold In at h3
  omega
theorem zgO {p:zH}{S:Nat->qN}(h:Qr p n S):zkq p n S:=by
 have t:=h.manys;obtain⟨q,u,b,a⟩:=h;refine⟨q,u,λi r=>?_⟩
 obtain⟨⟨h1,h2,c,l,m⟩,o⟩:=b i r;refine⟨h1,h2,c,λk=>⟨?_,m k⟩,λ_=>⟨l.1,?_⟩⟩
 ·have:zai S (S i).cab.toNat i=0:=zkr (λj s e=>by
   have:=(o j s (by unfold In at c;omega)).2
   rw[k] at this;cases this)
  unfold Za;rw[this];omega
 ·have d:(S i).cab.toNat<p.n:=by unfold In at c;omega
  have g:=zdK p S i (S i).cab.toNat (by unfold In at c;omega)
  have f:=zff p S (S i).cab.toNat (i+1) n (by omega) t
  have:=a _ d
  omega
theorem zct {p:zH}{S:Nat->qN}:zkq p n S↔Qr p n S:=⟨zgN,zgO⟩
theorem zks {p:zH}{S:Nat->qN}(h:Qr p n S):n<=24:=by
 have u:=h.manys;obtain⟨r,hn,d,b⟩:=h;have a:∀ i,_->∃ l:Nat,(S i).cab=l/\l<p.n:=λi s=>by
  have q:=(d i s).1.2.2.1;exact⟨(S i).cab.toNat,by unfold In at q;omega,by unfold In at q;omega⟩
 have hp:=r.1;have f:∀ i,i<=n->(i:Int)<=zai S 0 i+zai S 1 i+zai S 2 i+zai S 3 i+zai S 4 i+zai S 5 i:=by
  intro i
  induction i with
  | zero=>intro _;simp[zai]
  | succ i ih =>
   intro s;have:=ih (by omega)
   obtain⟨l,g,o⟩:=a i (by omega)
   have h1:=(u i (by omega)).1
   have m:l=0∨l=1∨l=2∨l=3∨l=4∨l=5:=by omega
   unfold zai;rw[g]
   rcases m with rfl|rfl|rfl|rfl|rfl|rfl <;> simp <;> omega
 have c:∀ k,zai S k n<=4:=λk=>by
  by_cases hk:k<p.n
  ·have h1:=b k hk
   have h2:=(r.2 k hk).2;unfold In at h2;unfold Za at h1
   omega
  ·rw[zkr (λj t e=>by obtain⟨l,g,o⟩:=a j t;rw[g] at e;omega)];omega
 have:=f n (Jr _);have:=c 0;have:=c 1;have:=c 2;have:=c 3;have:=c 4;have:=c 5
 omega
end
section
open Go.RowKit
variable{n j k i:Nat}{x:Int}{F:Nat->Int}
theorem zcu {S:Nat->qN}{r:qN}(h:j<n):ZE S n (λ_=>r) j=S j:=by unfold ZE;rw[Jf h]
theorem zhW {S:Nat->qN}{r:qN}:ZE S n (λ_=>r) n=r:=by unfold ZE;rw[Je (Nat.lt_irrefl _)]
theorem used_cat {S:Nat->qN}{r:qN}:∀ i,i<=n->zai (ZE S n (λ_=>r)) k i=zai S k i:=by
 intro i
 induction i with
 | zero=>intro _;rfl
 | succ i ih =>
  intro hi;unfold zai;rw[ih (by omega),zcu (by omega)]
theorem zmG {p:zH}{S:Nat->qN}{r:qN}(h:i<=n):Za p (ZE S n (λ_=>r)) i k=Za p S i k:=by
 unfold Za;rw[used_cat i h]
theorem has_cat {S:Nat->qN}{r:qN}(h:i<=n):Has (ZV (ZE S n (λ_=>r))) i x↔Has (ZV S) i x:=by
 unfold Has ZV
 constructor
 ·rintro⟨j,a,e⟩;exact⟨j,a,by rw[zcu (by omega)] at e;exact e⟩
 ·rintro⟨j,a,e⟩;exact⟨j,a,by rw[zcu (by omega)];exact e⟩
theorem zfG {p:zH}{G:Nat->Int}{r:qN}(h:∀ k,F k=G k):zbE p F r->zbE p G r:=by
 unfold zbE;rw[h];exact λh=>h
theorem znn {p:zH}{S:Nat->qN}{r:qN}(h:Qr p n S)(m:In r.who 1 9999)(j:¬ Has (ZV S) n r.who)(l:zbE p (Za p S n) r):Qr p (n+1) (ZE S n (λ_=>r)):=by
 have hf:=zks h;obtain⟨g,_,d⟩:=zgO h;refine zgN ⟨g,by omega,λi hi=>?_⟩
 by_cases e:i=n
 ·subst e
  rw[zhW];exact⟨m,λq=>j ((has_cat (Jr _)).1 q),zfG (λk=>(zmG (Jr _)).symm) l⟩
 ·have f:i<n:=by omega
  rw[zcu f];obtain⟨a,b,c⟩:=d i f;exact⟨a,λq=>b ((has_cat (by omega)).1 q),zfG (λk=>(zmG (by omega)).symm) c⟩
end
section
open Go.RowKit
variable{r k n j:Nat}{len hei:Int}
def zY.noStay (x:zY)(r:Nat):zY:={ x with stn:=x.stn - 1,st:=Zx x.st r }
def zY.noRoom (x:zY)(r:Nat):zY:={ x with ron:=x.ron - 1,ro:=Z7 x.ro r }
def zY.noSeat (x:zY)(r:Nat):zY:={ x with sen:=x.sen - 1,se:=Z7 x.se r }
def zY.addStay (x:zY)(s:Zp):zY:={ x with stn:=x.stn+1,st:=QI x.st x.stn (λ_=>s) }
def zY.addRoom (x:zY)(s:qN):zY:={ x with ron:=x.ron+1,ro:=ZE x.ro x.ron (λ_=>s) }
def zY.addSeat (x:zY)(s:Qe):zY:={ x with sen:=x.sen+1,se:=zam x.se x.sen (λ_=>s) }
theorem qm.noStay {s:Zj}{x:zY}(h:qm s x)(hr:r<x.stn):qm s (x.noStay r):=by
 obtain⟨h1,h2,h3⟩:=h;refine⟨?_,h2,h3⟩
 show DeckS _ (x.stn - 1) (Zx _ r)
 have e:x.stn=x.stn - 1+1:=by omega
 rw[e] at h1;exact(QO _ _ _).2 (zkp ((QO _ _ _).1 h1) (by omega))
theorem qm.noRoom {s:Zj}{x:zY}(h:qm s x)(hr:r<x.ron):qm s (x.noRoom r):=by
 obtain⟨h1,h2,h3⟩:=h;refine⟨h1,?_,h3⟩
 show Qr _ (x.ron - 1) (Z7 _ r)
 have e:x.ron=x.ron - 1+1:=by omega
 rw[e] at h2;exact out_rooms h2 (by omega)
theorem qm.noSeat {s:Zj}{x:zY}(h:qm s x)(hr:r<x.sen):qm s (x.noSeat r):=by
 obtain⟨h1,h2,h3⟩:=h;refine⟨h1,h2,?_⟩
 show Qx _ (x.sen - 1) (Z7 _ r)
 have e:x.sen=x.sen - 1+1:=by omega
 rw[e] at h3;exact out_seats h3 (by omega)
theorem qm.addStay {s:Zj}{x:zY}{who:Int}(h:qm s x)(a:zdc s.la x.stn x.st who len hei k):qm s (x.addStay ⟨who,(k:Int),len,hei⟩) :=
 ⟨(QO _ _ _).2 (znl a).1,h.2.1,h.2.2⟩
theorem qm.addRoom {s:Zj}{x:zY}{r:qN}(h:qm s x)(c:In r.who 1 9999)(a:¬ Has (ZV x.ro) x.ron r.who)(b:zbE s.ca (Za s.ca x.ro x.ron) r):qm s (x.addRoom r) :=
 ⟨h.1,znn h.2.1 c a b,h.2.2⟩
theorem zcv {S:Nat->Qe}{r:Qe}(h:j<n):zam S n (λ_=>r) j=S j:=by unfold zam;rw[Jf h]
theorem zdT {S:Nat->Qe}{r:Qe}:zam S n (λ_=>r) n=r:=by unfold zam;rw[Je (Nat.lt_irrefl _)]
theorem zno {most:Int}{S:Nat->Qe}{r:Qe}(h:Qx most n S)(hn:n≠60)(q:In r.who 1 9999)(o:In r.many 1 20)(l:¬ Has (zag S) n r.who)(p:QN S n+r.many<=most):Qx most (n+1) (zam S n (λ_=>r)):=by
 obtain⟨k,h1,h2,h3⟩:=h;have g:∀ i,i<=n->∀ x,Has (zag (zam S n (λ_=>r))) i x->Has (zag S) i x:=by
  rintro i m x ⟨j,f,e⟩;refine⟨j,f,?_⟩;rw[← e];unfold zag;rw[zcv (by omega)]
 refine⟨k,by omega,λi m=>?_,?_⟩
 ·by_cases e:i=n
  ·subst e
   rw[zdT];exact⟨q,λc=>l (g i (Jr _) _ c),o⟩
  ·rw[zcv (by omega)]
   obtain⟨a,b,c⟩:=h2 i (by omega)
   exact⟨a,λd=>b (g i (by omega) _ d),c⟩
 ·rw[QN,zfi n (λj f=>zcv f),zdT]
  exact p
theorem qm.addSeat {s:Zj}{x:zY}{r:Qe}(h:qm s x)(c:x.sen≠60)(e:In r.who 1 9999)(b:In r.many 1 20)(a:¬ Has (zag x.se) x.sen r.who)(d:QN x.se x.sen+r.many<=s.most):qm s (x.addSeat r) :=
 ⟨h.1,h.2.1,zno h.2.2 c e b a d⟩
end
def zfn (x:zY)(res:Nat)(who:Int):Prop :=
 if res=0 then Has (Qc x.st) x.stn who else if res=1 then Has (ZV x.ro) x.ron who else Has (zag x.se) x.sen who
inductive zbO (s:Zj) (w:Wk) (x:zY):zY->Prop
 | noStay (r:Nat) (e:w.res=0) (g:w.goes=true) (h:r<x.stn) (q:(x.st r).who=w.who):zbO s w x (x.noStay r)
 | noRoom (r:Nat) (e:w.res=1) (g:w.goes=true) (h:r<x.ron) (q:(x.ro r).who=w.who):zbO s w x (x.noRoom r)
 | noSeat (r:Nat) (e:w.res=2) (g:w.goes=true) (h:r<x.sen) (q:(x.se r).who=w.who):zbO s w x (x.noSeat r)
 | addStay (k:Nat) (e:w.res=0) (g:w.goes=false) (h:zdc s.la x.stn x.st w.who w.p.len w.p.hei k):zbO s w x (x.addStay ⟨w.who,(k:Int),w.p.len,w.p.hei⟩)
 | addRoom (r:qN) (e:w.res=1) (g:w.goes=false) (q:r.who=w.who) (c:In r.who 1 9999) (a:¬ Has (ZV x.ro) x.ron r.who) (b:zbE s.ca (Za s.ca x.ro x.ron) r):zbO s w x (x.addRoom r)
 | addSeat (r:Qe) (e:w.res=2) (g:w.goes=false) (q:r.who=w.who) (hn:x.sen≠60) (c:In r.who 1 9999) (hm:In r.many 1 20) (a:¬ Has (zag x.se) x.sen r.who) (b:QN x.se x.sen+r.many<=s.most):zbO s w x (x.addSeat r)
theorem zbO.good {s:Zj}{w:Wk}{x b:zY}(h:zbO s w x b)(a:qm s x):qm s b:=by
 cases h with
 | noStay r e g h q=>exact a.noStay h
 | noRoom r e g h q=>exact a.noRoom h
 | noSeat r e g h q=>exact a.noSeat h
 | addStay k e g h=>exact a.addStay h
 | addRoom r e g q hw hh hs=>exact a.addRoom hw hh hs
 | addSeat r e g q hn hw hm hh hs=>exact a.addSeat hn hw hm hh hs
theorem ziK {F G:Nat->Int}{n:Nat}{x:Int}(h:∀ j,j<n->G j=F j)(b:G n≠x):Has G (n+1) x↔Has F n x:=by
 constructor
 ·rintro⟨j,a,e⟩
  by_cases c:j=n
  ·subst c;exact absurd e b
  ·exact⟨j,by omega,by rw[← h j (by omega)];exact e⟩
 ·rintro⟨j,a,e⟩
  exact⟨j,by omega,by rw[h j a];exact e⟩
theorem zbO.others {s:Zj}{w:Wk}{x i:zY}(h:zbO s w x i){res:Nat}{who:Int}(hr:res<3)(b:res≠w.res∨who≠w.who):zfn i res who↔zfn x res who:=by
 obtain rfl|rfl|rfl:res=0∨res=1∨res=2:=by omega
 all_goals
  cases h with
  | noStay r e g h q =>
   first
   | exact Iff.rfl
   | (have a:(x.st r).who≠who:=λc=>by rcases b with d | d;exact d e.symm;exact d (by rw[← c,q])
      have:=ziJ (n:=x.stn - 1) (by omega) a
      rw[show x.stn - 1+1=x.stn by omega] at this
      exact this)
  | noRoom r e g h q =>
   first
   | exact Iff.rfl
   | (have a:ZV _ r≠who:=λc=>by rcases b with d | d;exact d e.symm;exact d (by rw[← c];exact q)
      have:=zgz (n:=x.ron - 1) (by omega) a
      rw[show x.ron - 1+1=x.ron by omega,← ziD] at this
      exact this)
  | noSeat r e g h q =>
   first
   | exact Iff.rfl
   | (have a:zag _ r≠who:=λc=>by rcases b with d | d;exact d e.symm;exact d (by rw[← c];exact q)
      have:=zgz (n:=x.sen - 1) (by omega) a
      rw[show x.sen - 1+1=x.sen by omega,← ziE] at this
      exact this)
  | addStay k e g h =>
   first
   | exact Iff.rfl
   | (have a:w.who≠who:=λc=>by rcases b with d | d;exact d e.symm;exact d c.symm
      exact ziK (λj f=>by unfold Qc zY.addStay;dsimp only;rw[zkn f]) (by unfold Qc zY.addStay;dsimp only;rw[cat_n];exact a))
  | addRoom r e g q hw hh hs =>
   first
   | exact Iff.rfl
   | (have a:r.who≠who:=λc=>by rcases b with d | d;exact d e.symm;exact d (by rw[← c,q])
      exact ziK (λj f=>by unfold ZV zY.addRoom;dsimp only;rw[zcu f]) (by unfold ZV zY.addRoom;dsimp only;rw[zhW];exact a))
  | addSeat r e g q hn hw hm hh hs =>
   first
   | exact Iff.rfl
   | (have a:r.who≠who:=λc=>by rcases b with d | d;exact d e.symm;exact d (by rw[← c,q])
      exact ziK (λj f=>by unfold zag zY.addSeat;dsimp only;rw[zcv f]) (by unfold zag zY.addSeat;dsimp only;rw[zdT];exact a))
end Go.Proofs.YtmdnjgihooflfaaGreatDoor
