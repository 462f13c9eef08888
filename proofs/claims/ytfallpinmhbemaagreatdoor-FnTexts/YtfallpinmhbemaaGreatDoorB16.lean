/-
  OWN TEXT: PlainWr, PlainCv, PlainR6, PlainR7, PlainDo.
-/
import Derived.Test.YtfallpinmhbemaaGreatDoorB15
namespace Go.Proofs.YtfallpinmhbemaaGreatDoor
open Go.RowKit
open Go.Value (int)
open Go.IntKind (i64)
set_option maxHeartbeats 64000000
set_option maxRecDepth 100000
def Qf {α:Type}(S:Nat->α)(r:Nat)(i:Nat):α:=if i<r then S i else S (i+1)
theorem Qn {α:Type}{S:Nat->α}{r i:Nat}(h:i<r):Qf S r i=S i:=if_pos h
theorem QP {α:Type}{S:Nat->α}{r i:Nat}(h:r<=i):Qf S r i=S (i+1):=if_neg (by omega)
theorem zgU {F:Nat->Int}{r i:Nat}{x:Int}(h:Has (Qf F r) i x):Has F (i+1) x:=by
 obtain⟨j,hj,e⟩:=h
 by_cases c:j<r
 ·exact⟨j,by omega,by rw[← e,Qn c]⟩
 ·exact⟨j+1,by omega,by rw[← e,QP (by omega)]⟩
theorem zem {F:Nat->Int}{r i:Nat}{x:Int}(hi:i<=r)(h:Has (Qf F r) i x):Has F i x:=by
 obtain⟨j,a,e⟩:=h;exact⟨j,a,by rw[← e,Qn (by omega)]⟩
theorem zdk {F:Nat->Int}{n r:Nat}{x:Int}(hr:r<=n)(b:F r≠x):Has (Qf F r) n x↔Has F (n+1) x:=by
 refine⟨zgU,?_⟩;rintro⟨j,hj,e⟩
 by_cases c:j<r
 ·exact⟨j,by omega,by rw[← e,Qn c]⟩
 ·have a:j≠r:=fun q=>b (by rw[← q];exact e)
  exact⟨j - 1,by omega,by rw[← e,QP (by omega),show j - 1+1=j by omega]⟩
theorem zeP (S:Nat->ZF)(r:Nat):zaW (Qf S r)=Qf (zaW S) r:=by
 funext i
 unfold zaW Qf
 split <;> rfl
theorem zeQ (S:Nat->zaf)(r:Nat):zaU (Qf S r)=Qf (zaU S) r:=by
 funext i
 unfold zaU Qf
 split <;> rfl
theorem zgV {S a:Nat->ZF}(k i:Nat)(h:∀ j,j<i->a j=S j):ZZ a k i=ZZ S k i:=by
 induction i with
 | zero=>rfl
 | succ i ih =>
  unfold ZZ;rw[ih (fun j hj=>h j (by omega)),h i (by omega)]
theorem usedR_out (S:Nat->ZF)(r k i:Nat)(h:r<=i):ZZ (Qf S r) k i+(if (S r).cab=(k:Int) then (S r).many else 0)=ZZ S k (i+1):=by
 induction i with
 | zero =>
  have e:r=0:=by omega
  subst e
  rfl
 | succ i ih =>
  by_cases c:r=i+1
  ·subst c
   rw[zgV k (i+1) (fun j b=>Qn b)]
   rfl
  ·have a:=ih (by omega)
   rw[ZZ,QP (by omega:r<=i)]
   rw[show ZZ S k (i+1+1)=ZZ S k (i+1)+(if (S (i+1)).cab=(k:Int) then (S (i+1)).many else 0) from rfl,← a]
   omega
theorem out_rooms {p:qi}{n:Nat}{S:Nat->ZF}{r:Nat}(h:QL p (n+1) S)(x:r<=n):QL p n (Qf S r):=by
 obtain⟨v,hn,s,u⟩:=h;refine⟨v,by omega,fun i hi=>?_,fun k w=>?_⟩
 ·by_cases c:i<r
  ·obtain⟨⟨f,g,l,m,o⟩,e⟩:=s i (by omega)
   refine⟨?_,fun j t=>?_⟩
   ·unfold OkR0
    rw[Qn c,zeP];exact⟨f,fun q=>g (zem (by omega) q),l,m,o⟩
   ·unfold OkR2
    rw[Qn c,Qn (by omega)]
    exact e j t
  ·obtain⟨⟨f,g,l,m,o⟩,e⟩:=s (i+1) (by omega)
   refine⟨?_,fun j t=>?_⟩
   ·unfold OkR0
    rw[QP (by omega),zeP]
    exact⟨f,fun q=>g (zgU q),l,m,o⟩
   ·unfold OkR2
    rw[QP (by omega:r<=i)]
    by_cases d:j<r
    ·rw[Qn d];exact e j (by omega)
    ·rw[QP (by omega)];exact e (j+1) (by omega)
 ·have a:=u k w
  have b:=usedR_out S r k n x;have c:=(s r (by omega)).1.2.2.2.1
  unfold In at c;unfold qW at a ⊢
  split at b <;> omega
theorem zen {S a:Nat->zaf}(i:Nat)(h:∀ j,j<i->a j=S j):zbE a i=zbE S i:=by
 induction i with
 | zero=>rfl
 | succ i ih =>
  unfold zbE;rw[ih (fun j hj=>h j (by omega)),h i (by omega)]
theorem sits_out (S:Nat->zaf)(r i:Nat)(h:r<=i):zbE (Qf S r) i+(S r).many=zbE S (i+1):=by
 induction i with
 | zero =>
  have e:r=0:=by omega
  subst e
  rfl
 | succ i ih =>
  by_cases c:r=i+1
  ·subst c
   rw[zen (i+1) (fun j b=>Qn b)]
   rfl
  ·have a:=ih (by omega)
   rw[zbE,QP (by omega:r<=i)]
   rw[show zbE S (i+1+1)=zbE S (i+1)+(S (i+1)).many from rfl,← a]
   omega
theorem out_seats {most:Int}{n:Nat}{S:Nat->zaf}{r:Nat}(h:zbb most (n+1) S)(k:r<=n):zbb most n (Qf S r):=by
 obtain⟨j,hn,g,hf⟩:=h;refine⟨j,by omega,fun i hi=>?_,?_⟩
 ·by_cases c:i<r
  ·obtain⟨a,d,e⟩:=g i (by omega)
   rw[Qn c,zeQ];exact⟨a,fun f=>d (zem (by omega) f),e⟩
  ·obtain⟨a,d,e⟩:=g (i+1) (by omega)
   rw[QP (by omega),zeQ]
   exact⟨a,fun f=>d (zgU f),e⟩
 ·have b:=sits_out S r n k
  have c:=(g r (by omega)).2.2
  unfold In at c
  omega
theorem cover {P:Nat->Prop}{B:Nat->Int}(m:Nat):∀ (n:Nat)(F:Nat->Int),cnt P m=n->(∀ i,i<m->P i->Has F n (B i))->(∀ i,i<m->∀ j,j<i->B j≠B i)->∀ j,j<n->∃ i,i<m/\P i/\B i=F j:=by
 induction m with
 | zero=>intro n F h _ _ j f;rw[cnt] at h;omega
 | succ m ih =>
  intro n F h l hd j f
  by_cases c:P m
  ·rw[zag c] at h
   obtain⟨r,hr,o⟩:=l m (by omega) c
   obtain⟨n,rfl⟩:∃ n',n=n'+1:=⟨n - 1,by omega⟩
   have k:=ih n (Qf F r) (by omega) (fun i b a=>(zdk (by omega) (fun e=>hd m (by omega) i b (by rw[← e,o]))).2 (l i (by omega) a)) (fun i b j f=>hd i (by omega) j f)
   by_cases e:j=r
   ·exact⟨m,by omega,c,by rw[e,o]⟩
   ·by_cases d:j<r
    ·obtain⟨i,b,a,g⟩:=k j (by omega)
     exact⟨i,by omega,a,by rw[g,Qn d]⟩
    ·obtain⟨i,b,a,g⟩:=k (j - 1) (by omega)
     exact⟨i,by omega,a,by rw[g,QP (by omega),show j - 1+1=j by omega]⟩
  ·rw[zaQ c] at h
   obtain⟨i,b,a,g⟩:=ih n F h (fun i b a=>l i (by omega) a) (fun i b j f=>hd i (by omega) j f) j f
   exact⟨i,by omega,a,g⟩
theorem Zy.whos {o:Off}(h:Zy o):∀ i,i<o.bkn->∀ j,j<i->(o.bk j).who≠(o.bk i).who:=fun i a j b=>(h.2.2.2.2.1 i a).2.2.2.2.2.2.2.1 j b
theorem Zy.seat_of {o:Off}(h:Zy o){k:Nat}(d:k<o.san){j:Nat}(c:j<(o.ld k).sen):∃ i,i<o.bkn/\On o k i/\(o.bk i).who=((o.ld k).se j).who:=by
 obtain⟨l,_,_,a⟩:=h.2.2.2.2.2 k d;refine cover (P:=On o k) (B:=fun i=>(o.bk i).who) o.bkn _ (zaU (o.ld k).se) a.symm (fun i b f=>?_) h.whos j c
 obtain⟨q,g,e,_⟩:=(l i b f).1;exact⟨q,g,e⟩
theorem Zy.stay_of {o:Off}(h:Zy o){k:Nat}(f:k<o.san){j:Nat}(d:j<(o.ld k).stn):∃ i,i<o.bkn/\(On o k i/\0<(o.bk i).len)/\(o.bk i).who=((o.ld k).st j).who:=by
 obtain⟨l,b,_,_⟩:=h.2.2.2.2.2 k f;refine cover (P:=fun i=>On o k i/\0<(o.bk i).len) (B:=fun i=>(o.bk i).who) o.bkn _ (Q8 (o.ld k).st) b.symm (fun i c a=>?_) h.whos j d
 rcases (l i c a.1).2.1 with e|⟨q,g,e,_⟩
 ·have:=a.2;omega
 ·exact⟨q,g,e⟩
theorem Zy.room_of {o:Off}(h:Zy o){k:Nat}(f:k<o.san){j:Nat}(d:j<(o.ld k).ron):∃ i,i<o.bkn/\(On o k i/\0<(o.bk i).cl)/\(o.bk i).who=((o.ld k).ro j).who:=by
 obtain⟨l,_,b,_⟩:=h.2.2.2.2.2 k f;refine cover (P:=fun i=>On o k i/\0<(o.bk i).cl) (B:=fun i=>(o.bk i).who) o.bkn _ (zaW (o.ld k).ro) b.symm (fun i c a=>?_) h.whos j d
 rcases (l i c a.1).2.2 with e|⟨q,g,e,_⟩
 ·have:=a.2;omega
 ·exact⟨q,g,e⟩
theorem Zy.fresh {o:Off}(h:Zy o){x:Int}(f:∀ i,i<o.bkn->(o.bk i).who≠x){k:Nat}(d:k<o.san) :
  ¬ Has (zaU (o.ld k).se) (o.ld k).sen x/\¬ Has (Q8 (o.ld k).st) (o.ld k).stn x/\¬ Has (zaW (o.ld k).ro) (o.ld k).ron x:=by
 refine⟨?_,?_,?_⟩
 ·rintro⟨j,c,e⟩
  obtain⟨i,b,_,a⟩:=h.seat_of d c;exact f i b (a.trans e)
 ·rintro⟨j,c,e⟩
  obtain⟨i,b,_,a⟩:=h.stay_of d c;exact f i b (a.trans e)
 ·rintro⟨j,c,e⟩
  obtain⟨i,b,_,a⟩:=h.room_of d c;exact f i b (a.trans e)
theorem zdl {F:Nat->Int}{n:Nat}{x:Int}(h:∀ i,i<n->¬ Has F i (F i))(g:Has F n x):∃ r,r<n/\F r=x/\∀ j,j<n->j≠r->F j≠x:=by
 obtain⟨r,b,e⟩:=g;refine⟨r,b,e,fun j d f a=>?_⟩
 by_cases c:j<r
 ·exact h r b ⟨j,c,by rw[a,e]⟩
 ·exact h j d ⟨r,by omega,by rw[e,a]⟩
theorem qJ.seats_one {s:Sail}{x:qT}(h:qJ s x):∀ i,i<x.sen->¬ Has (zaU x.se) i (zaU x.se i):=fun i a=>(h.2.2.2.2.1 i a).2.1
theorem qJ.stays_one {s:Sail}{x:qT}(h:qJ s x):∀ i,i<x.stn->¬ Has (Q8 x.st) i (Q8 x.st i):=fun i a=>(h.1.2.2.1 i a).2.2.2.2
theorem qJ.rooms_one {s:Sail}{x:qT}(h:qJ s x):∀ i,i<x.ron->¬ Has (zaW x.ro) i (zaW x.ro i):=fun i a=>(h.2.1.2.2.1 i a).1.2.1
theorem Zy.here {o:Off}(h:Zy o){k i:Nat}(j:k<o.san)(g:i<o.bkn)(l:On o k i) :
  Has (zaU (o.ld k).se) (o.ld k).sen (o.bk i).who/\(0<(o.bk i).len->Has (Q8 (o.ld k).st) (o.ld k).stn (o.bk i).who)/\(0<(o.bk i).cl->Has (zaW (o.ld k).ro) (o.ld k).ron (o.bk i).who):=by
 obtain⟨b,d,f⟩:=(h.2.2.2.2.2 k j).1 i g l;refine⟨?_,fun c=>?_,fun c=>?_⟩
 ·obtain⟨q,a,e,_⟩:=b
  exact⟨q,a,e⟩
 ·rcases d with e|⟨q,a,e,_⟩
  ·omega
  ·exact⟨q,a,e⟩
 ·rcases f with e|⟨q,a,e,_⟩
  ·omega
  ·exact⟨q,a,e⟩
def zcE (p:qi)(F:Nat->Int)(r:ZF):Prop :=
 In r.cab 0 ((p.n:Int) - 1)/\(r.all=true->F r.cab.toNat=p.B r.cab.toNat/\r.many=p.B r.cab.toNat)/\(r.all=false->In r.many 1 (F r.cab.toNat))
def RoomsI (p:qi)(n:Nat)(S:Nat->ZF):Prop :=
 zgR p/\n<=60/\∀ i,i<n->In (S i).who 1 9999/\¬ Has (zaW S) i (S i).who/\zcE p (qW p S i) (S i)
theorem zfY {S:Nat->ZF}{k i:Nat}(h:∀ j,j<i->(S j).cab≠(k:Int)):ZZ S k i=0:=by
 induction i with
 | zero=>rfl
 | succ i ih=>unfold ZZ;rw[ih (fun j hj=>h j (by omega)),if_neg (h i (by omega))];rfl
theorem left_le (p:qi)(S:Nat->ZF)(k i:Nat)(h:∀ j,j<i->In (S j).many 1 4):qW p S i k<=p.B k:=by
 have:=zck p S k 0 i (Nat.zero_le _) h;rw[zgQ] at this;exact this
theorem zgW {p:qi}{n:Nat}{S:Nat->ZF}(q:zgR p)(v:∀ i,i<n->zcE p (qW p S i) (S i)):∀ i,i<=n->(∀ j,j<i->In (S j).many 1 4)/\∀ k,k<p.n->0<=qW p S i k:=by
 intro i
 induction i with
 | zero =>
  intro _;refine⟨fun j t=>by omega,fun k c=>?_⟩
  have:=(q.2 k c).2;unfold In at this;rw[zgQ];omega
 | succ i ih =>
  intro hi;obtain⟨a,b⟩:=ih (by omega)
  obtain⟨o,g,h⟩:=v i (by omega)
  obtain⟨l,hl⟩:∃ l:Nat,(S i).cab=l:=⟨(S i).cab.toNat,by unfold In at o;omega⟩
  have d:l<p.n:=by unfold In at o;omega
  have s:(S i).cab.toNat=l:=by omega
  rw[s] at g h;have m:=(q.2 l d).2;have u:=left_le p S l i a;have f:=zbL p S i l hl;have r:In (S i).many 1 4/\0<=qW p S (i+1) l:=by
   cases hall:(S i).all with
   | true =>
    have:=g hall;unfold In at m ⊢
    omega
   | false =>
    have:=h hall;unfold In at m this ⊢
    omega
  refine⟨fun j t=>?_,fun k c=>?_⟩
  ·by_cases e:j=i
   ·subst e;exact r.1
   ·exact a j (by omega)
  ·by_cases e:k=l
   ·subst e;exact r.2
   ·rw[zeK p S i k (by rw[hl];omega)];exact b k c
theorem zgX {p:qi}{n:Nat}{S:Nat->ZF}(h:RoomsI p n S):QL p n S:=by
 obtain⟨r,hn,a⟩:=h;have st:=zgW r (fun i b=>(a i b).2.2)
 refine⟨r,hn,fun i b=>⟨⟨(a i b).1,(a i b).2.1,(a i b).2.2.1,(st n (Nat.le_refl _)).1 i b,fun c=>((a i b).2.2.2.1 c).2⟩,fun j hj x=>?_⟩,fun k y=>(st n (Nat.le_refl _)).2 k y⟩
 obtain⟨w,o,q⟩:=(a i b).2.2;obtain⟨_,k1,k2⟩:=(a j (by omega)).2.2
 obtain⟨l,hl⟩:∃ l:Nat,(S i).cab=l:=⟨(S i).cab.toNat,by unfold In at w;omega⟩
 have u:(S i).cab.toNat=l:=by omega
 have s:(S j).cab=(l:Int):=x.trans hl;have e:(S j).cab.toNat=l:=by omega
 rw[u] at o q;rw[e] at k1 k2;have f:=(st n (Nat.le_refl _)).1 j (by omega)
 have z:=left_le p S l j (fun t A=>(st n (Nat.le_refl _)).1 t (by omega))
 have m:=zbL p S j l s;have g:=zck p S l (j+1) i (by omega) (fun t A=>(st n (Nat.le_refl _)).1 t (by omega))
 unfold In at f;have d:(S i).all=false:=by
  cases c:(S i).all with
  | false=>rfl
  | true=>have:=(o c).1;omega
 refine⟨?_,d⟩
 cases c:(S j).all with
 | false=>rfl
 | true =>
  have:=k1 c;have v:=q d;unfold In at v
  omega
theorem zgY {p:qi}{n:Nat}{S:Nat->ZF}(h:QL p n S):RoomsI p n S:=by
 have v:=h.manys;obtain⟨s,hn,b,a⟩:=h;refine⟨s,hn,fun i t=>?_⟩
 obtain⟨⟨l,m,c,o,q⟩,r⟩:=b i t;refine⟨l,m,c,fun k=>⟨?_,q k⟩,fun _=>⟨o.1,?_⟩⟩
 ·have:ZZ S (S i).cab.toNat i=0:=zfY (fun j u e=>by
   have:=(r j u (by unfold In at c;omega)).2
   rw[k] at this;cases this)
  unfold qW;rw[this];omega
 ·have d:(S i).cab.toNat<p.n:=by unfold In at c;omega
  have g:=zbL p S i (S i).cab.toNat (by unfold In at c;omega)
  have f:=zck p S (S i).cab.toNat (i+1) n (by omega) v
  have:=a _ d
  omega
theorem rooms_few {p:qi}{n:Nat}{S:Nat->ZF}(h:QL p n S):n<=24:=by
 have v:=h.manys;obtain⟨r,hn,d,b⟩:=h;have a:∀ i,i<n->∃ l:Nat,(S i).cab=l/\l<p.n:=fun i s=>by
  have q:=(d i s).1.2.2.1;exact⟨(S i).cab.toNat,by unfold In at q;omega,by unfold In at q;omega⟩
 have hp:=r.1;have f:∀ i,i<=n->(i:Int)<=ZZ S 0 i+ZZ S 1 i+ZZ S 2 i+ZZ S 3 i+ZZ S 4 i+ZZ S 5 i:=by
  intro i
  induction i with
  | zero=>intro _;simp[ZZ]
  | succ i ih =>
   intro s;have:=ih (by omega)
   obtain⟨l,hl,m⟩:=a i (by omega)
   have o:=(v i (by omega)).1
   have g:l=0∨l=1∨l=2∨l=3∨l=4∨l=5:=by omega
   unfold ZZ;rw[hl]
   rcases g with rfl|rfl|rfl|rfl|rfl|rfl <;> simp <;> omega
 have c:∀ k,ZZ S k n<=4:=fun k=>by
  by_cases hk:k<p.n
  ·have o:=b k hk
   have t:=(r.2 k hk).2;unfold In at t;unfold qW at o
   omega
  ·rw[zfY (fun j u e=>by obtain⟨l,hl,m⟩:=a j u;rw[hl] at e;omega)];omega
 have:=f n (Nat.le_refl _);have:=c 0;have:=c 1;have:=c 2;have:=c 3;have:=c 4;have:=c 5
 omega
theorem zan {S:Nat->ZF}{n j:Nat}{r:ZF}(h:j<n):Qj S n (fun _=>r) j=S j:=by unfold Qj;rw[if_pos h]
theorem zeo {S:Nat->ZF}{n:Nat}{r:ZF}:Qj S n (fun _=>r) n=r:=by unfold Qj;rw[if_neg (Nat.lt_irrefl _)]
theorem used_cat {S:Nat->ZF}{n:Nat}{r:ZF}{k:Nat}:∀ i,i<=n->ZZ (Qj S n (fun _=>r)) k i=ZZ S k i:=by
 intro i
 induction i with
 | zero=>intro _;rfl
 | succ i ih =>
  intro hi;unfold ZZ;rw[ih (by omega),zan (by omega)]
theorem zhH {p:qi}{S:Nat->ZF}{n:Nat}{r:ZF}{k i:Nat}(h:i<=n):qW p (Qj S n (fun _=>r)) i k=qW p S i k:=by
 unfold qW;rw[used_cat i h]
theorem has_cat {S:Nat->ZF}{n:Nat}{r:ZF}{i:Nat}{x:Int}(h:i<=n):Has (zaW (Qj S n (fun _=>r))) i x↔Has (zaW S) i x:=by
 unfold Has zaW
 constructor
 ·rintro⟨j,a,e⟩;exact⟨j,a,by rw[zan (by omega)] at e;exact e⟩
 ·rintro⟨j,a,e⟩;exact⟨j,a,by rw[zan (by omega)];exact e⟩
theorem zcF {p:qi}{F G:Nat->Int}{r:ZF}(h:∀ k,F k=G k):zcE p F r->zcE p G r:=by
 unfold zcE;rw[h];exact fun h=>h
theorem zhZ {p:qi}{n:Nat}{S:Nat->ZF}{r:ZF}(h:QL p n S)(l:In r.who 1 9999)(g:¬ Has (zaW S) n r.who)(j:zcE p (qW p S n) r):QL p (n+1) (Qj S n (fun _=>r)):=by
 have hf:=rooms_few h;obtain⟨f,_,d⟩:=zgY h;refine zgX ⟨f,by omega,fun i hi=>?_⟩
 by_cases e:i=n
 ·subst e
  rw[zeo];exact⟨l,fun q=>g ((has_cat (Nat.le_refl _)).1 q),zcF (fun k=>(zhH (Nat.le_refl _)).symm) j⟩
 ·have hl:i<n:=by omega
  rw[zan hl];obtain⟨a,b,c⟩:=d i hl;exact⟨a,fun q=>b ((has_cat (by omega)).1 q),zcF (fun k=>(zhH (by omega)).symm) c⟩
def qT.noStay (x:qT)(r:Nat):qT:={ x with stn:=x.stn - 1,st:=Z7 x.st r }
def qT.noRoom (x:qT)(r:Nat):qT:={ x with ron:=x.ron - 1,ro:=Qf x.ro r }
def qT.noSeat (x:qT)(r:Nat):qT:={ x with sen:=x.sen - 1,se:=Qf x.se r }
def qT.addStay (x:qT)(s:ZX):qT:={ x with stn:=x.stn+1,st:=QD x.st x.stn (fun _=>s) }
def qT.addRoom (x:qT)(s:ZF):qT:={ x with ron:=x.ron+1,ro:=Qj x.ro x.ron (fun _=>s) }
def qT.addSeat (x:qT)(s:zaf):qT:={ x with sen:=x.sen+1,se:=QW x.se x.sen (fun _=>s) }
theorem qJ.noStay {s:Sail}{x:qT}{r:Nat}(h:qJ s x)(hr:r<x.stn):qJ s (x.noStay r):=by
 obtain⟨a,b,c⟩:=h;refine⟨?_,b,c⟩
 show DeckS s.la (x.stn - 1) (Z7 x.st r)
 have e:x.stn=x.stn - 1+1:=by omega
 rw[e] at a;exact(Ql _ _ _).2 (zfX ((Ql _ _ _).1 a) (by omega))
theorem qJ.noRoom {s:Sail}{x:qT}{r:Nat}(h:qJ s x)(hr:r<x.ron):qJ s (x.noRoom r):=by
 obtain⟨b,a,c⟩:=h;refine⟨b,?_,c⟩
 show QL s.ca (x.ron - 1) (Qf x.ro r)
 have e:x.ron=x.ron - 1+1:=by omega
 rw[e] at a;exact out_rooms a (by omega)
theorem qJ.noSeat {s:Sail}{x:qT}{r:Nat}(h:qJ s x)(hr:r<x.sen):qJ s (x.noSeat r):=by
 obtain⟨b,c,a⟩:=h;refine⟨b,c,?_⟩
 show zbb s.most (x.sen - 1) (Qf x.se r)
 have e:x.sen=x.sen - 1+1:=by omega
 rw[e] at a;exact out_seats a (by omega)
theorem qJ.addStay {s:Sail}{x:qT}{who len hei:Int}{k:Nat}(h:qJ s x)(a:Places s.la x.stn x.st who len hei k):qJ s (x.addStay ⟨who,(k:Int),len,hei⟩) :=
 ⟨(Ql _ _ _).2 (zhY a).1,h.2.1,h.2.2⟩
theorem qJ.addRoom {s:Sail}{x:qT}{r:ZF}(h:qJ s x)(c:In r.who 1 9999)(a:¬ Has (zaW x.ro) x.ron r.who)(b:zcE s.ca (qW s.ca x.ro x.ron) r):qJ s (x.addRoom r) :=
 ⟨h.1,zhZ h.2.1 c a b,h.2.2⟩
theorem zbo {S:Nat->zaf}{n j:Nat}{r:zaf}(h:j<n):QW S n (fun _=>r) j=S j:=by unfold QW;rw[if_pos h]
theorem zcm {S:Nat->zaf}{n:Nat}{r:zaf}:QW S n (fun _=>r) n=r:=by unfold QW;rw[if_neg (Nat.lt_irrefl _)]
theorem zia {most:Int}{n:Nat}{S:Nat->zaf}{r:zaf}(h:zbb most n S)(hn:n≠60)(s:In r.who 1 9999)(p:In r.many 1 20)(m:¬ Has (zaU S) n r.who)(q:zbE S n+r.many<=most):zbb most (n+1) (QW S n (fun _=>r)):=by
 obtain⟨k,h1,l,h3⟩:=h;have g:∀ i,i<=n->∀ x,Has (zaU (QW S n (fun _=>r))) i x->Has (zaU S) i x:=by
  rintro i o x ⟨j,f,e⟩;refine⟨j,f,?_⟩;rw[← e];unfold zaU;rw[zbo (by omega)]
 refine⟨k,by omega,fun i o=>?_,?_⟩
 ·by_cases e:i=n
  ·subst e
   rw[zcm];exact⟨s,fun c=>m (g i (Nat.le_refl _) _ c),p⟩
  ·rw[zbo (by omega)]
   obtain⟨a,b,c⟩:=l i (by omega)
   exact⟨a,fun d=>b (g i (by omega) _ d),c⟩
 ·rw[zbE,zen n (fun j f=>zbo f),zcm]
  exact q
theorem qJ.addSeat {s:Sail}{x:qT}{r:zaf}(h:qJ s x)(hn:x.sen≠60)(d:In r.who 1 9999)(b:In r.many 1 20)(a:¬ Has (zaU x.se) x.sen r.who)(c:zbE x.se x.sen+r.many<=s.most):qJ s (x.addSeat r) :=
 ⟨h.1,h.2.1,zia h.2.2 hn d b a c⟩
end Go.Proofs.YtfallpinmhbemaaGreatDoor
