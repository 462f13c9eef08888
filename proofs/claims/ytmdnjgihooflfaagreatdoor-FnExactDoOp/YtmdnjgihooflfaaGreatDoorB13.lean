/-
  OWN TEXT: PlainR6, PlainR7, PlainDo, PlainDw, PlainDr, SpecIn2, SpecD1.
-/
import Derived.Deep.LoopGhost
import Derived.Test.YtmdnjgihooflfaaGreatDoorB12
namespace Go.Proofs.YtmdnjgihooflfaaGreatDoor
open Go.RowKit
open Go.Value (int)
open Go.IntKind (i64)
set_option maxHeartbeats 64000000
set_option maxRecDepth 100000
def zbE (p:zH)(F:Nat->Int)(r:qN):Prop :=
 In r.cab 0 ((p.n:Int) - 1)/\(r.all=true->F r.cab.toNat=p.B r.cab.toNat/\r.many=p.B r.cab.toNat)/\(r.all=false->In r.many 1 (F r.cab.toNat))
def Zl (p:zH)(S:Nat->qN)(i k:Nat):Int:=if k<p.n then Za p S i k else 0
theorem freeR_0 (p:zH)(S:Nat->qN)(k:Nat):Zl p S 0 k=zbJ p.n p.B 0 k:=by
 unfold Zl zbJ
 split
 ·rw[ziC]
 ·rfl
theorem zcN {p:zH}{S:Nat->qN}{i k:Nat}(h:k<p.n):Zl p S i k=Za p S i k:=if_pos h
theorem znm (p:zH)(S:Nat->qN)(i l j:Nat)(a:l<p.n)(h:(S i).cab=(l:Int)):(if j=l then Zl p S i l - (S i).many else Zl p S i j)=Zl p S (i+1) j:=by
 by_cases e:j=l
 ·subst e;rw[if_pos rfl,zcN a,zcN a,zdK p S i j h]
 ·rw[if_neg e]
  unfold Zl
  split
  ·rw[zgb p S i j (by rw[h];omega)]
  ·rfl
theorem zem {p:zH}{S:Nat->qN}{i:Nat}{r:qN}:zbE p (Zl p S i) r↔zbE p (Za p S i) r:=by
 unfold zbE
 constructor
 ·rintro⟨h,h1,h2⟩
  have a:r.cab.toNat<p.n:=by unfold In at h;omega
  rw[zcN a] at h1 h2;exact⟨h,h1,h2⟩
 ·rintro⟨h,h1,h2⟩
  have a:r.cab.toNat<p.n:=by unfold In at h;omega
  rw[zcN a];exact⟨h,h1,h2⟩
def zkq (p:zH)(n:Nat)(S:Nat->qN):Prop :=
 zgt p/\n<=60/\∀ i,i<n->In (S i).who 1 9999/\¬ Has (ZV S) i (S i).who/\zbE p (Za p S i) (S i)
theorem zkr {S:Nat->qN}{k i:Nat}(h:∀ j,j<i->(S j).cab≠(k:Int)):zai S k i=0:=by
 induction i with
 | zero=>rfl
 | succ i ih=>unfold zai;rw[ih (fun j hj=>h j (by omega)),if_neg (h i (by omega))];rfl
theorem left_le (p:zH)(S:Nat->qN)(k i:Nat)(h:∀ j,j<i->In (S j).many 1 4):Za p S i k<=p.B k:=by
 have:=zff p S k 0 i (Nat.zero_le _) h;rw[ziC] at this;exact this
theorem zgM {p:zH}{n:Nat}{S:Nat->qN}(m:zgt p)(u:∀ i,i<n->zbE p (Za p S i) (S i)):∀ i,i<=n->(∀ j,j<i->In (S j).many 1 4)/\∀ k,k<p.n->0<=Za p S i k:=by
 intro i
 induction i with
 | zero =>
  intro _;refine⟨fun j s=>by omega,fun k c=>?_⟩
  have:=(m.2 k c).2;unfold In at this;rw[ziC];omega
 | succ i ih =>
  intro hi;obtain⟨a,b⟩:=ih (by omega)
  obtain⟨h,h1,h2⟩:=u i (by omega)
  obtain⟨l,o⟩:∃ l:Nat,(S i).cab=l:=⟨(S i).cab.toNat,by unfold In at h;omega⟩
  have d:l<p.n:=by unfold In at h;omega
  have r:(S i).cab.toNat=l:=by omega
  rw[r] at h1 h2;have g:=(m.2 l d).2;have t:=left_le p S l i a;have f:=zdK p S i l o;have q:In (S i).many 1 4/\0<=Za p S (i+1) l:=by
   cases hall:(S i).all with
   | true =>
    have:=h1 hall;unfold In at g ⊢
    omega
   | false =>
    have:=h2 hall;unfold In at g this ⊢
    omega
  refine⟨fun j s=>?_,fun k c=>?_⟩
  ·by_cases e:j=i
   ·subst e;exact q.1
   ·exact a j (by omega)
  ·by_cases e:k=l
   ·subst e;exact q.2
   ·rw[zgb p S i k (by rw[o];omega)];exact b k c
theorem zgN {p:zH}{n:Nat}{S:Nat->qN}(h:zkq p n S):Qr p n S:=by
 obtain⟨o,z,a⟩:=h;have st:=zgM o (fun i b=>(a i b).2.2)
 refine⟨o,z,fun i b=>⟨⟨(a i b).1,(a i b).2.1,(a i b).2.2.1,(st n (Nat.le_refl _)).1 i b,fun c=>((a i b).2.2.2.1 c).2⟩,fun j hj v=>?_⟩,fun k w=>(st n (Nat.le_refl _)).2 k w⟩
 obtain⟨u,h1,h2⟩:=(a i b).2.2;obtain⟨_,q,B⟩:=(a j (by omega)).2.2
 obtain⟨l,x⟩:∃ l:Nat,(S i).cab=l:=⟨(S i).cab.toNat,by unfold In at u;omega⟩
 have s:(S i).cab.toNat=l:=by omega
 have r:(S j).cab=(l:Int):=v.trans x;have e:(S j).cab.toNat=l:=by omega
 rw[s] at h1 h2;rw[e] at q B;have f:=(st n (Nat.le_refl _)).1 j (by omega)
 have y:=left_le p S l j (fun t A=>(st n (Nat.le_refl _)).1 t (by omega))
 have m:=zdK p S j l r;have g:=zff p S l (j+1) i (by omega) (fun t A=>(st n (Nat.le_refl _)).1 t (by omega))
 unfold In at f;have d:(S i).all=false:=by
  cases c:(S i).all with
  | false=>rfl
  | true=>have:=(h1 c).1;omega
 refine⟨?_,d⟩
 cases c:(S j).all with
 | false=>rfl
 | true =>
  have:=q c;have h3:=h2 d;unfold In at h3
  omega
theorem zgO {p:zH}{n:Nat}{S:Nat->qN}(h:Qr p n S):zkq p n S:=by
 have t:=h.manys;obtain⟨q,u,b,a⟩:=h;refine⟨q,u,fun i r=>?_⟩
 obtain⟨⟨h1,h2,c,l,m⟩,o⟩:=b i r;refine⟨h1,h2,c,fun k=>⟨?_,m k⟩,fun _=>⟨l.1,?_⟩⟩
 ·have:zai S (S i).cab.toNat i=0:=zkr (fun j s e=>by
   have:=(o j s (by unfold In at c;omega)).2
   rw[k] at this;cases this)
  unfold Za;rw[this];omega
 ·have d:(S i).cab.toNat<p.n:=by unfold In at c;omega
  have g:=zdK p S i (S i).cab.toNat (by unfold In at c;omega)
  have f:=zff p S (S i).cab.toNat (i+1) n (by omega) t
  have:=a _ d
  omega
theorem zct {p:zH}{n:Nat}{S:Nat->qN}:zkq p n S↔Qr p n S:=⟨zgN,zgO⟩
theorem zks {p:zH}{n:Nat}{S:Nat->qN}(h:Qr p n S):n<=24:=by
 have u:=h.manys;obtain⟨r,hn,d,b⟩:=h;have a:∀ i,i<n->∃ l:Nat,(S i).cab=l/\l<p.n:=fun i s=>by
  have q:=(d i s).1.2.2.1;exact⟨(S i).cab.toNat,by unfold In at q;omega,by unfold In at q;omega⟩
 have hp:=r.1;have f:∀ i,i<=n->(i:Int)<=zai S 0 i+zai S 1 i+zai S 2 i+zai S 3 i+zai S 4 i+zai S 5 i:=by
  intro i
  induction i with
  | zero=>intro _;simp[zai]
  | succ i ih =>
   intro s;have:=ih (by omega)
   obtain⟨l,g,o⟩:=a i (by omega)
   have h1:=(u i (by omega)).1
   have m:l=0∨l=1∨l=2∨l=3∨l=4∨l=5:=by omega
   unfold zai;rw[g]
   rcases m with rfl|rfl|rfl|rfl|rfl|rfl <;> simp <;> omega
 have c:∀ k,zai S k n<=4:=fun k=>by
  by_cases hk:k<p.n
  ·have h1:=b k hk
   have h2:=(r.2 k hk).2;unfold In at h2;unfold Za at h1
   omega
  ·rw[zkr (fun j t e=>by obtain⟨l,g,o⟩:=a j t;rw[g] at e;omega)];omega
 have:=f n (Nat.le_refl _);have:=c 0;have:=c 1;have:=c 2;have:=c 3;have:=c 4;have:=c 5
 omega
theorem zcu {S:Nat->qN}{n j:Nat}{r:qN}(h:j<n):ZE S n (fun _=>r) j=S j:=by unfold ZE;rw[if_pos h]
theorem zhW {S:Nat->qN}{n:Nat}{r:qN}:ZE S n (fun _=>r) n=r:=by unfold ZE;rw[if_neg (Nat.lt_irrefl _)]
theorem used_cat {S:Nat->qN}{n:Nat}{r:qN}{k:Nat}:∀ i,i<=n->zai (ZE S n (fun _=>r)) k i=zai S k i:=by
 intro i
 induction i with
 | zero=>intro _;rfl
 | succ i ih =>
  intro hi;unfold zai;rw[ih (by omega),zcu (by omega)]
theorem zmG {p:zH}{S:Nat->qN}{n:Nat}{r:qN}{k i:Nat}(h:i<=n):Za p (ZE S n (fun _=>r)) i k=Za p S i k:=by
 unfold Za;rw[used_cat i h]
theorem has_cat {S:Nat->qN}{n:Nat}{r:qN}{i:Nat}{x:Int}(h:i<=n):Has (ZV (ZE S n (fun _=>r))) i x↔Has (ZV S) i x:=by
 unfold Has ZV
 constructor
 ·rintro⟨j,a,e⟩;exact⟨j,a,by rw[zcu (by omega)] at e;exact e⟩
 ·rintro⟨j,a,e⟩;exact⟨j,a,by rw[zcu (by omega)];exact e⟩
theorem zfG {p:zH}{F G:Nat->Int}{r:qN}(h:∀ k,F k=G k):zbE p F r->zbE p G r:=by
 unfold zbE;rw[h];exact fun h=>h
theorem znn {p:zH}{n:Nat}{S:Nat->qN}{r:qN}(h:Qr p n S)(m:In r.who 1 9999)(j:¬ Has (ZV S) n r.who)(l:zbE p (Za p S n) r):Qr p (n+1) (ZE S n (fun _=>r)):=by
 have hf:=zks h;obtain⟨g,_,d⟩:=zgO h;refine zgN ⟨g,by omega,fun i hi=>?_⟩
 by_cases e:i=n
 ·subst e
  rw[zhW];exact⟨m,fun q=>j ((has_cat (Nat.le_refl _)).1 q),zfG (fun k=>(zmG (Nat.le_refl _)).symm) l⟩
 ·have f:i<n:=by omega
  rw[zcu f];obtain⟨a,b,c⟩:=d i f;exact⟨a,fun q=>b ((has_cat (by omega)).1 q),zfG (fun k=>(zmG (by omega)).symm) c⟩
def zY.noStay (x:zY)(r:Nat):zY:={ x with stn:=x.stn - 1,st:=Zx x.st r }
def zY.noRoom (x:zY)(r:Nat):zY:={ x with ron:=x.ron - 1,ro:=Z7 x.ro r }
def zY.noSeat (x:zY)(r:Nat):zY:={ x with sen:=x.sen - 1,se:=Z7 x.se r }
def zY.addStay (x:zY)(s:Zp):zY:={ x with stn:=x.stn+1,st:=QI x.st x.stn (fun _=>s) }
def zY.addRoom (x:zY)(s:qN):zY:={ x with ron:=x.ron+1,ro:=ZE x.ro x.ron (fun _=>s) }
def zY.addSeat (x:zY)(s:Qe):zY:={ x with sen:=x.sen+1,se:=zam x.se x.sen (fun _=>s) }
theorem qm.noStay {s:Zj}{x:zY}{r:Nat}(h:qm s x)(hr:r<x.stn):qm s (x.noStay r):=by
 obtain⟨h1,h2,h3⟩:=h;refine⟨?_,h2,h3⟩
 show DeckS s.la (x.stn - 1) (Zx x.st r)
 have e:x.stn=x.stn - 1+1:=by omega
 rw[e] at h1;exact(QO _ _ _).2 (zkp ((QO _ _ _).1 h1) (by omega))
theorem qm.noRoom {s:Zj}{x:zY}{r:Nat}(h:qm s x)(hr:r<x.ron):qm s (x.noRoom r):=by
 obtain⟨h1,h2,h3⟩:=h;refine⟨h1,?_,h3⟩
 show Qr s.ca (x.ron - 1) (Z7 x.ro r)
 have e:x.ron=x.ron - 1+1:=by omega
 rw[e] at h2;exact out_rooms h2 (by omega)
theorem qm.noSeat {s:Zj}{x:zY}{r:Nat}(h:qm s x)(hr:r<x.sen):qm s (x.noSeat r):=by
 obtain⟨h1,h2,h3⟩:=h;refine⟨h1,h2,?_⟩
 show Qx s.most (x.sen - 1) (Z7 x.se r)
 have e:x.sen=x.sen - 1+1:=by omega
 rw[e] at h3;exact out_seats h3 (by omega)
theorem qm.addStay {s:Zj}{x:zY}{who len hei:Int}{k:Nat}(h:qm s x)(a:zdc s.la x.stn x.st who len hei k):qm s (x.addStay ⟨who,(k:Int),len,hei⟩) :=
 ⟨(QO _ _ _).2 (znl a).1,h.2.1,h.2.2⟩
theorem qm.addRoom {s:Zj}{x:zY}{r:qN}(h:qm s x)(c:In r.who 1 9999)(a:¬ Has (ZV x.ro) x.ron r.who)(b:zbE s.ca (Za s.ca x.ro x.ron) r):qm s (x.addRoom r) :=
 ⟨h.1,znn h.2.1 c a b,h.2.2⟩
theorem zcv {S:Nat->Qe}{n j:Nat}{r:Qe}(h:j<n):zam S n (fun _=>r) j=S j:=by unfold zam;rw[if_pos h]
theorem zdT {S:Nat->Qe}{n:Nat}{r:Qe}:zam S n (fun _=>r) n=r:=by unfold zam;rw[if_neg (Nat.lt_irrefl _)]
theorem zno {most:Int}{n:Nat}{S:Nat->Qe}{r:Qe}(h:Qx most n S)(hn:n≠60)(q:In r.who 1 9999)(o:In r.many 1 20)(l:¬ Has (zag S) n r.who)(p:QN S n+r.many<=most):Qx most (n+1) (zam S n (fun _=>r)):=by
 obtain⟨k,h1,h2,h3⟩:=h;have g:∀ i,i<=n->∀ x,Has (zag (zam S n (fun _=>r))) i x->Has (zag S) i x:=by
  rintro i m x ⟨j,f,e⟩;refine⟨j,f,?_⟩;rw[← e];unfold zag;rw[zcv (by omega)]
 refine⟨k,by omega,fun i m=>?_,?_⟩
 ·by_cases e:i=n
  ·subst e
   rw[zdT];exact⟨q,fun c=>l (g i (Nat.le_refl _) _ c),o⟩
  ·rw[zcv (by omega)]
   obtain⟨a,b,c⟩:=h2 i (by omega)
   exact⟨a,fun d=>b (g i (by omega) _ d),c⟩
 ·rw[QN,zfi n (fun j f=>zcv f),zdT]
  exact p
theorem qm.addSeat {s:Zj}{x:zY}{r:Qe}(h:qm s x)(c:x.sen≠60)(e:In r.who 1 9999)(b:In r.many 1 20)(a:¬ Has (zag x.se) x.sen r.who)(d:QN x.se x.sen+r.many<=s.most):qm s (x.addSeat r) :=
 ⟨h.1,h.2.1,zno h.2.2 c e b a d⟩
def zfn (x:zY)(res:Nat)(who:Int):Prop :=
 if res=0 then Has (Qc x.st) x.stn who else if res=1 then Has (ZV x.ro) x.ron who else Has (zag x.se) x.sen who
inductive zbO (s:Zj) (w:Wk) (x:zY):zY->Prop
 | noStay (r:Nat) (e:w.res=0) (g:w.goes=true) (h:r<x.stn) (q:(x.st r).who=w.who):zbO s w x (x.noStay r)
 | noRoom (r:Nat) (e:w.res=1) (g:w.goes=true) (h:r<x.ron) (q:(x.ro r).who=w.who):zbO s w x (x.noRoom r)
 | noSeat (r:Nat) (e:w.res=2) (g:w.goes=true) (h:r<x.sen) (q:(x.se r).who=w.who):zbO s w x (x.noSeat r)
 | addStay (k:Nat) (e:w.res=0) (g:w.goes=false) (h:zdc s.la x.stn x.st w.who w.p.len w.p.hei k):zbO s w x (x.addStay ⟨w.who,(k:Int),w.p.len,w.p.hei⟩)
 | addRoom (r:qN) (e:w.res=1) (g:w.goes=false) (q:r.who=w.who) (c:In r.who 1 9999) (a:¬ Has (ZV x.ro) x.ron r.who) (b:zbE s.ca (Za s.ca x.ro x.ron) r):zbO s w x (x.addRoom r)
 | addSeat (r:Qe) (e:w.res=2) (g:w.goes=false) (q:r.who=w.who) (hn:x.sen≠60) (c:In r.who 1 9999) (hm:In r.many 1 20) (a:¬ Has (zag x.se) x.sen r.who) (b:QN x.se x.sen+r.many<=s.most):zbO s w x (x.addSeat r)
theorem zbO.good {s:Zj}{w:Wk}{x b:zY}(h:zbO s w x b)(a:qm s x):qm s b:=by
 cases h with
 | noStay r e g h q=>exact a.noStay h
 | noRoom r e g h q=>exact a.noRoom h
 | noSeat r e g h q=>exact a.noSeat h
 | addStay k e g h=>exact a.addStay h
 | addRoom r e g q hw hh hs=>exact a.addRoom hw hh hs
 | addSeat r e g q hn hw hm hh hs=>exact a.addSeat hn hw hm hh hs
theorem ziK {F G:Nat->Int}{n:Nat}{x:Int}(h:∀ j,j<n->G j=F j)(b:G n≠x):Has G (n+1) x↔Has F n x:=by
 constructor
 ·rintro⟨j,a,e⟩
  by_cases c:j=n
  ·subst c;exact absurd e b
  ·exact⟨j,by omega,by rw[← h j (by omega)];exact e⟩
 ·rintro⟨j,a,e⟩
  exact⟨j,by omega,by rw[h j a];exact e⟩
theorem zbO.others {s:Zj}{w:Wk}{x i:zY}(h:zbO s w x i){res:Nat}{who:Int}(hr:res<3)(b:res≠w.res∨who≠w.who):zfn i res who↔zfn x res who:=by
 obtain rfl|rfl|rfl:res=0∨res=1∨res=2:=by omega
 all_goals
  cases h with
  | noStay r e g h q =>
   first
   | exact Iff.rfl
   | (have a:(x.st r).who≠who:=fun c=>by rcases b with d | d;exact d e.symm;exact d (by rw[← c,q])
      have:=ziJ (S:=x.st) (n:=x.stn - 1) (r:=r) (by omega) a
      rw[show x.stn - 1+1=x.stn by omega] at this
      exact this)
  | noRoom r e g h q =>
   first
   | exact Iff.rfl
   | (have a:ZV x.ro r≠who:=fun c=>by rcases b with d | d;exact d e.symm;exact d (by rw[← c];exact q)
      have:=zgz (F:=ZV x.ro) (n:=x.ron - 1) (r:=r) (by omega) a
      rw[show x.ron - 1+1=x.ron by omega,← ziD] at this
      exact this)
  | noSeat r e g h q =>
   first
   | exact Iff.rfl
   | (have a:zag x.se r≠who:=fun c=>by rcases b with d | d;exact d e.symm;exact d (by rw[← c];exact q)
      have:=zgz (F:=zag x.se) (n:=x.sen - 1) (r:=r) (by omega) a
      rw[show x.sen - 1+1=x.sen by omega,← ziE] at this
      exact this)
  | addStay k e g h =>
   first
   | exact Iff.rfl
   | (have a:w.who≠who:=fun c=>by rcases b with d | d;exact d e.symm;exact d c.symm
      exact ziK (fun j f=>by unfold Qc zY.addStay;dsimp only;rw[zkn f]) (by unfold Qc zY.addStay;dsimp only;rw[cat_n];exact a))
  | addRoom r e g q hw hh hs =>
   first
   | exact Iff.rfl
   | (have a:r.who≠who:=fun c=>by rcases b with d | d;exact d e.symm;exact d (by rw[← c,q])
      exact ziK (fun j f=>by unfold ZV zY.addRoom;dsimp only;rw[zcu f]) (by unfold ZV zY.addRoom;dsimp only;rw[zhW];exact a))
  | addSeat r e g q hn hw hm hh hs =>
   first
   | exact Iff.rfl
   | (have a:r.who≠who:=fun c=>by rcases b with d | d;exact d e.symm;exact d (by rw[← c,q])
      exact ziK (fun j f=>by unfold zag zY.addSeat;dsimp only;rw[zcv f]) (by unfold zag zY.addSeat;dsimp only;rw[zdT];exact a))
def Apt (o:Off)(L:Nat->zY)(w:Wk):Prop:=w.res<3/\∀ k,k<o.san->(o.sa k).id=w.leg->if w.goes=true then zfn (L k) w.res w.who else ¬ zfn (L k) w.res w.who
def zdu (a b:Wk):Prop:=a.leg≠b.leg∨a.res≠b.res∨a.who≠b.who
def zht (L:Nat->zY)(k:Nat)(x:zY)(j:Nat):zY:=if j=k then x else L j
theorem Apt.after {o:Off}{L:Nat->zY}{w v:Wk}{k:Nat}{x:zY}(h:Apt o L v)(i:(o.sa k).id=w.leg)(l:zbO (o.sa k) w (L k) x)(f:zdu v w):Apt o (zht L k x) v:=by
 refine⟨h.1,fun j g e=>?_⟩
 have a:=h.2 j g e;unfold zht
 by_cases c:j=k
 ·subst c
  rw[if_pos rfl];have b:v.res≠w.res∨v.who≠w.who:=by
   rcases f with d|d
   ·exact absurd (by rw[← e,i]) d
   ·exact d
  rw[l.others h.1 b];exact a
 ·rw[if_neg c]
  exact a
theorem znp {o:Off}{L:Nat->zY}{w:Wk}{k:Nat}{x:zY}(h:∀ j,j<o.san->qm (o.sa j) (L j))(b:zbO (o.sa k) w (L k) x):∀ j,j<o.san->qm (o.sa j) (zht L k x j):=by
 intro j a;unfold zht
 by_cases c:j=k
 ·subst c;rw[if_pos rfl];exact b.good (h j a)
 ·rw[if_neg c];exact h j a
theorem zeC (goes:Bool)(who:Int)(p:Qh)(leg:Int):∀ j,(Zd goes who p leg j).Pairwise zdu
 | 0=>List.Pairwise.nil
 | j+1=>by
  have d:=zeC goes who p leg j;unfold Zd
  split
  ·refine List.pairwise_append.2 ⟨d,List.pairwise_singleton _ _,fun a e b c=>?_⟩
   have:=(zcp e).2.1;simp at c;subst c;exact .inr (.inl (by show a.res≠j;omega))
  ·exact d
theorem zbc (goes:Bool)(who:Int)(p:Qh)(F:Nat->Int):∀ k,(∀ i,i<k->∀ j,j<i->F j≠F i)->(Zh goes who p F k).Pairwise zdu
 | 0,_=>List.Pairwise.nil
 | k+1,h=>by
  unfold Zh;refine List.pairwise_append.2 ⟨zbc goes who p F k (fun i c=>h i (by omega)),zeC _ _ _ _ _,fun a f b g=>?_⟩
  obtain⟨⟨i,c,e⟩,_⟩:=zbb f;have d:=(zcp g).1;exact .inl (by rw[e,d];exact h k (by omega) i c)
theorem zkt {g h:Int}{n o:Qh}{c d:Nat->Int}{e f:Nat}(h1:∀ i,i<e->∀ j,j<i->c j≠c i)(h2:∀ i,i<f->∀ j,j<i->d j≠d i)(m:g≠h):(Zh true g n c e++Zh false h o d f).Pairwise zdu:=by
 refine List.pairwise_append.2 ⟨zbc _ _ _ _ _ h1,zbc _ _ _ _ _ h2,fun a k b l=>?_⟩
 exact .inr (.inr (by rw[(zbb k).2.2.2.1,(zbb l).2.2.2.1];exact m))
theorem Qz (x:Int)(w:World) :
  Calls Tryz.prog 89 #[int i64 x] w fun e w'=>e=.returned (.bool (decide (In x 1 9999)))/\w'=w:=by
 go_enter Tryz.func89,Tryz.ntmps89;go_wp2_with (first|(go_at_call 148;refine(zt _ _ _ _).mono ?_;rintro e w' ⟨rfl,rfl⟩))
 go_ret;exact⟨rfl,rfl⟩
theorem zlU (o:Option Addr)(n c:Nat)(p:zH)(w:World)(s:p.n=n)(hn:n<=1048576)(v:zG w o p) :
  Calls Tryz.prog 147 #[.slice o n c] w fun e w'=>qX (zhB p) e/\Below w.heap.size w w':=by
 have f:=hI s;clear s
 by_cases h0:n<=4
 ·have q:decide (4<n)=false:=by simp;omega
  go_enter Tryz.func147,Tryz.ntmps147;go_wp2;go_loopw [4,10] (fun _ i wr=>∃ k:Nat,k<=n/\i=int i64 k/\(∀ j,j<k->In (p.A j) 1 5000/\In (p.B j) 100 500)/\Below w.heap.size w wr) (fun _ i _=>n - (intOf i).toNat)
  case atStart=>exact⟨0,Nat.zero_le _,rfl,fun j l=>by omega,bZ⟩
  case round =>
   obtain⟨k,hk,rfl,d,a⟩:=hrel;have m:=hI d;clear d q
   by_cases hlt:k<n
   ·obtain⟨b,off,rfl,h1,h2⟩:=v k (by rw[f.out];omega)
    have r:=World.block_lt_of_cell? w _ h1;have c1:=(a.cell (p:=⟨b,off+k*2,none⟩) r).trans h1;have c2:=(a.cell (p:=⟨b,off+k*2+1,none⟩) r).trans h2;clear h1 h2
    by_cases g1:In (p.A k) 1 5000
    ·have t:decide (In (p.A k) 1 5000)=true:=decide_eq_true g1
     by_cases g2:In (p.B k) 100 500
     ·have u:decide (In (p.B k) 100 500)=true:=decide_eq_true g2
      have g:Hid (In (p.A k) 1 5000/\In (p.B k) 100 500):=⟨g1,g2⟩;clear g1 g2;go_wp2_with (first|(go_at_call 148;refine sC (zt _ _ _ _) ?_))
      go_roundw
      case rel=>exact⟨k+1,by omega,by go_num,fun j l=>by
       by_cases e:j=k
       ·subst e;exact g.out
       ·exact m.out j (by omega),zk a _⟩
      case measure=>simp[intOf];omega
     ·have u:decide (In (p.B k) 100 500)=false:=decide_eq_false g2
      have g:=hI g2;clear g1 g2;go_wp2_with (first|(go_at_call 148;refine sC (zt _ _ _ _) ?_))
      go_ret;exact⟨zl (fun h=>g.out (h.2 k (by rw[f.out];exact hlt)).2),zk a _⟩
    ·have t:decide (In (p.A k) 1 5000)=false:=decide_eq_false g1
     have g:=hI g1;clear g1;go_wp2_with (first|(go_at_call 148;refine sC (zt _ _ _ _) ?_))
     go_ret;exact⟨zl (fun h=>g.out (h.2 k (by rw[f.out];exact hlt)).1),zk a _⟩
   ·obtain rfl:k=n:=by omega
    go_wp2;go_ret;exact⟨zR ⟨by rw[f.out];exact h0,fun j l=>m.out j (by rw[f.out] at l;exact l)⟩,a⟩
 ·have q:decide (4<n)=true:=by simp;omega
  go_enter Tryz.func147,Tryz.ntmps147;go_wp2;go_ret;exact⟨zl (fun h=>by have:=h.1;rw[f.out] at this;exact h0 this),bZ⟩
theorem zku (m:Option Addr)(n c:Nat)(S:Nat->Zp)(x:Int)(w:World)(hn:n<=1048576)(s:qw w m n S) :
  Calls Tryz.prog 149 #[.slice m n c,int i64 x] w fun e w'=>qX (Has (Qc S) n x) e/\Below w.heap.size w w':=by
 go_enter Tryz.func149,Tryz.ntmps149;go_wp2;go_loopw [6,9] (fun _ i wr=>∃ k:Nat,k<=n/\i=int i64 k/\(∀ j,j<k->Qc S j≠x)/\Below w.heap.size w wr) (fun _ i _=>n - (intOf i).toNat)
 case atStart=>exact⟨0,Nat.zero_le _,rfl,fun j r=>by omega,bZ⟩
 case round =>
  obtain⟨k,hk,rfl,d,a⟩:=hrel;have l:=hI d;clear d
  by_cases hlt2:k<n
  ·obtain⟨b,off,rfl,h,h1,h2,h3⟩:=s k hlt2
   have f:=World.block_lt_of_cell? w _ h;have c0:=(a.cell (p:=⟨b,off+k*4,none⟩) f).trans h;have c1:=(a.cell (p:=⟨b,off+k*4+1,none⟩) f).trans h1;have c2:=(a.cell (p:=⟨b,off+k*4+2,none⟩) f).trans h2;have c3:=(a.cell (p:=⟨b,off+k*4+3,none⟩) f).trans h3;clear h h1 h2 h3
   by_cases he:Qc S k=x
   ·have q:((S k).who == x)=true:=by unfold Qc at he;simpa using he
    have g:Hid (Has (Qc S) n x):=⟨k,hlt2,he⟩;clear he;go_wp2;go_ret;exact⟨zR g.out,zk a _⟩
   ·have q:((S k).who == x)=false:=by unfold Qc at he;simpa using he
    have o:=hI he;clear he;go_wp2;go_roundw
    case rel=>exact⟨k+1,by omega,by go_num,fun j r=>by
     by_cases e:j=k
     ·subst e;exact o.out
     ·exact l.out j (by omega),zk a _⟩
    case measure=>simp[intOf];omega
  ·obtain rfl:k=n:=by omega
   have g:=hI (zdp l.out);go_wp2;go_ret;exact⟨zl g.out,a⟩
theorem zhX (I bo:Option Addr)(m mc n c:Nat)(p:zH)(S:Nat->Zp)(w:World)(B:p.n=m)(z:zhB p)(hn:n<=60)(L:∀ j,j<n->In (S j).len 1 2000)(N:zG w I p)(O:qw w bo n S) :
  Calls Tryz.prog 150 #[.slice I m mc,.slice bo n c] w fun e w'=>(∃ v,e=.returned v/\w'.ownsRow w.heap.size 3 1 v m (zS (QW p S n) m))/\Below w.heap.size w w':=by
 obtain⟨Y,Z,D,E,F⟩:=info_parts Tryz.infoInt;have s:=hI B;have G:=hI z;have H:=hI L;have R:=hI N;have T:=hI O;have V:m<=4:=by rw[← B];exact z.1
 clear B z L N O;go_enter Tryz.func150,Tryz.ntmps150;go_wp2;go_loopw [5,6,7,8,10,13,20,21,22] (fun v _ _ _ _ i _ _ _ wr=>∃ k:Nat,k<=m/\i=int i64 k/\wr.ownsRow w.heap.size 3 1 v k (zS (QW p S n) k)/\Below w.heap.size w wr) (fun _ _ _ _ _ i _ _ _ _=>m - (intOf i).toNat)
 case atStart=>exact⟨0,Nat.zero_le _,rfl,⟨rfl,.inl ⟨rfl,rfl⟩⟩,bZ⟩
 case round =>
  obtain⟨k,hk,rfl,l,f⟩:=hrel
  by_cases hlt:k<m
  ·obtain⟨b,off,rfl,h1,h2⟩:=R.out k (by rw[s.out];exact hlt)
   have J:=World.block_lt_of_cell? w _ h1;have c1:=(f.cell (p:=⟨b,off+k*2,none⟩) J).trans h1;have c2:=(f.cell (p:=⟨b,off+k*2+1,none⟩) J).trans h2;have HA:Hid (In (p.A k) 1 5000):=(G.out.2 k (by rw[s.out];exact hlt)).1
   clear h1 h2;go_wp2;go_loopw [8,10,22] (fun s8 _ i P=>∃ t:Nat,t<=n/\i=int i64 t/\s8=int i64 (QW p S t k)/\P.ownsRow w.heap.size 3 1 u5 k (zS (QW p S n) k)/\Below w.heap.size w P) (fun _ _ i _=>n - (intOf i).toNat)
   case atStart=>exact⟨0,Nat.zero_le _,rfl,by rw[left_0],zo (zk bZ _) l,zk f _⟩
   case round =>
    obtain⟨t,ht,rfl,rfl,d,a⟩:=hrel;clear l f c1 c2
    by_cases hlt2:t<n
    ·obtain⟨q,g,rfl,y,h1,h2,h3⟩:=T.out t hlt2
     have o:=World.block_lt_of_cell? w _ y;have c0:=(a.cell (p:=⟨q,g+t*4,none⟩) o).trans y;have c1:=(a.cell (p:=⟨q,g+t*4+1,none⟩) o).trans h1;have c2:=(a.cell (p:=⟨q,g+t*4+2,none⟩) o).trans h2;have c3:=(a.cell (p:=⟨q,g+t*4+3,none⟩) o).trans h3;clear y h1 h2 h3
     by_cases he:(S t).ln=(k:Int)
     ·have U:((S t).ln == (k:Int))=true:=by simpa using he
      have r:=hI he;have X:IntKind.i64.wrap (QW p S t k - (S t).len)=QW p S t k - (S t).len:=by
       have h1:=zgB G.out (show t<=60 by omega) (fun j K=>H.out j (by omega)) (show k<p.n by rw[s.out];exact hlt)
       have h2:=H.out t hlt2;unfold In at h2;rw[IntKind.wrap_i64];omega
      clear he;go_wp2;go_roundw
      case rel=>exact⟨t+1,by omega,by go_num,by rw[zgA p S t k r.out],zo (zk bZ _) d,zk a _⟩
      case measure=>simp[intOf];omega
     ·have U:((S t).ln == (k:Int))=false:=by simpa using he
      have r:=hI he;clear he;go_wp2;go_roundw
      case rel=>exact⟨t+1,by omega,by go_num,by rw[ziF p S t k r.out],zo (zk bZ _) d,zk a _⟩
      case measure=>simp[intOf];omega
    ·obtain rfl:t=n:=by omega
     have W:=a.size;have Q:Hid (∀ x,(some ⟨wr.heap.size,0,none⟩:Option Addr)=some x->∀ j u,[Value.int .i64 (QW p S t k)][j]?=some u->(wr.alloc (.cells #[int i64 (QW p S t k)] 3)).cell? (x.add j)=some u):=by
      intro x e
      cases e
      exact World.news_of_block (heap_alloc_new wr _)
     go_wp2_with (first|(at_builtin;refine zv _ (by rfl) (.tmp 35) (.tmp 37) 27 (by rfl) w.heap.size 3 Y (int i64 0) 1 8 Tryz.underlying27 Z D E F rfl (by decide) _ k (zS (QW p S t) k) (by rfl) (d.alloc _) (some ⟨wr.heap.size,0,none⟩) 1 1 [int i64 (QW p S t k)] (by rfl) (fun h=>(by cases h)) (by rfl) Q.out (by intro u M;simp at M;subst M;rfl) (by unfold maxLen;omega) (by omega) (by simp;omega) ?_;intro v' w3 C A))
     go_roundw
     case rel=>exact⟨k+1,by omega,by go_num,by rw[zfx];exact C,(zk a _).grown A (by simp;omega) (fun j K=>(d.lt j K).1)⟩
     case measure=>simp[intOf];omega
  ·obtain rfl:k=m:=by omega
   go_wp2;go_ret;exact⟨⟨_,rfl,l⟩,f⟩
end Go.Proofs.YtmdnjgihooflfaaGreatDoor
