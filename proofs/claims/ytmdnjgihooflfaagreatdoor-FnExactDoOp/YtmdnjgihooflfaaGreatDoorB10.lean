/-
  OWN TEXT: PlainR5, PlainSe, PlainWr, PlainD, FreedI, SpecUs, ResI.
-/
import Derived.Deep.AppendLies
import Derived.Deep.DeepCutAuto
import Derived.Deep.CutBlock
import Derived.Test.YtmdnjgihooflfaaGreatDoorB09
namespace Go.Proofs.YtmdnjgihooflfaaGreatDoor
open Go.RowKit
open Go.Value (int)
open Go.IntKind (i64)
open Tryz
set_option maxHeartbeats 64000000
set_option maxRecDepth 100000
section
open Go.RowKit
variable{n k m base t:Nat}{P:Nat->Prop}{w:World}{x cl q:Int}{v:Value}
def ZV (S:Nat->qN)(j:Nat):Int:=(S j).who
def zai (S:Nat->qN)(k:Nat):Nat->Int
 | 0=>0
 | i+1=>zai S k i+(if (S i).cab=(k:Int) then (S i).many else 0)
def Za (p:zH)(S:Nat->qN)(i:Nat)(k:Nat):Int:=p.B k - zai S k i
theorem ziC (p:zH)(S:Nat->qN)(k:Nat):Za p S 0 k=p.B k:=by unfold Za zai;omega
theorem zdK (p:zH)(S:Nat->qN)(i k:Nat)(h:(S i).cab=(k:Int)):Za p S (i+1) k=Za p S i k - (S i).many:=by
 unfold Za;rw[zai,Jf h];omega
theorem zgb (p:zH)(S:Nat->qN)(i k:Nat)(h:(S i).cab≠(k:Int)):Za p S (i+1) k=Za p S i k:=by
 unfold Za;rw[zai,Je h];omega
theorem zka (S:Nat->qN)(k i:Nat)(h:∀ j,j<i->In (S j).many 1 4):0<=zai S k i/\zai S k i<=4*i:=by
 induction i with
 | zero=>exact⟨Int.le_refl _,by unfold zai;omega⟩
 | succ i ih =>
  have:=ih (λj hj=>h j (by omega))
  have a:=h i (by omega)
  unfold In at a;unfold zai
  split <;> omega
theorem zff (p:zH)(S:Nat->qN)(k i n:Nat)(a:i<=n)(h:∀ j,j<n->In (S j).many 1 4):Za p S n k<=Za p S i k:=by
 induction n with
 | zero=>rw[show i=0 by omega];exact Int.le_refl _
 | succ n ih =>
  by_cases e:i=n+1
  ·rw[e];exact Int.le_refl _
  ·have:=ih (by omega) (λj hj=>h j (by omega))
   have b:=h n (by omega)
   unfold In at b
   by_cases c:(S n).cab=(k:Int)
   ·rw[zdK p S n k c];omega
   ·rw[zgb p S n k c];exact this
def zgt (p:zH):Prop:=zaZ p 6 1 3 1 4
def OkR0 (p:zH)(S:Nat->qN)(i:Nat):Prop:=In (S i).who 1 9999/\¬ Has (ZV S) i (S i).who/\In (S i).cab 0 ((p.n:Int) - 1)/\In (S i).many 1 4/\((S i).all=true->(S i).many=p.B (S i).cab.toNat)
def OkR2 (S:Nat->qN)(i j:Nat):Prop:=(S j).cab=(S i).cab->(S j).all=false/\(S i).all=false
def OkR (p:zH)(S:Nat->qN)(i:Nat):Prop:=OkR0 p S i/\∀ j,j<i->OkR2 S i j
def Qr (p:zH)(n:Nat)(S:Nat->qN):Prop:=zgt p/\n<=60/\(∀ i,i<n->OkR p S i)/\∀ k,k<p.n->0<=Za p S n k
theorem Qr.manys {p:zH}{S:Nat->qN}(h:Qr p n S):∀ j,j<n->In (S j).many 1 4:=λj a=>(h.2.2.1 j a).1.2.2.2.1
theorem zdq {p:zH}{S:Nat->qN}(c:zgt p)(hn:n<=60)(e:∀ j,j<n->In (S j).many 1 4)(d:k<p.n):-240<=Za p S n k/\Za p S n k<=4:=by
 have a:=(c.2 k d).2;have b:=zka S k n e;unfold In at a;unfold Za
 omega
def ZH (m:Nat)(P:Nat->Prop)(k:Nat):Prop:=k<m/\P k/\∀ j,j<k->¬ P j
theorem zgu {j:Nat}(h1:ZH m P k)(h2:ZH m P j):k=j:=by
 by_cases c:k<j
 ·exact absurd h1.2.1 (h2.2.2 k c)
 ·by_cases c2:j<k
  ·exact absurd h2.2.1 (h1.2.2 j c2)
  ·omega
open Classical in
/-- The first, where G holds. -/
noncomputable def zfF (G:Prop)(m:Nat)(P:Nat->Prop):Option Nat:=if h:G/\∃ k,ZH m P k then some h.2.choose else none
theorem zdL {G:Prop}(b:G)(h:ZH m P k):zfF G m P=some k:=by
 have a:G/\∃ k,_:=⟨b,k,h⟩;unfold zfF;rw[dif_pos a,zgu a.2.choose_spec h]
theorem zkb {G:Prop}(h:∀ k,¬ (G/\ZH m P k)):zfF G m P=none:=by
 unfold zfF;rw[dif_neg (λ⟨g,k,hk⟩=>h k ⟨g,hk⟩)]
theorem zgv {G:Prop}(h:zfF G m P=some k):G/\ZH m P k:=by
 unfold zfF at h
 split at h
 ·rename_i he
  have:=he.2.choose_spec;simp only[Option.some.injEq] at h;rw[h] at this;exact⟨he.1,this⟩
 ·cases h
def PlaceG (p:zH)(n:Nat)(S:Nat->qN)(x:Int):Prop:=Qr p n S/\n≠60/\¬ Has (ZV S) n x/\In x 1 9999
def zmA (p:zH)(n:Nat)(S:Nat->qN)(x cl q:Int):Prop:=PlaceG p n S x/\In cl 1 3/\In q 1 20
def zbD (p:zH)(n:Nat)(S:Nat->qN)(cl q:Int)(k:Nat):Prop:=p.A k=cl/\Za p S n k=p.B k/\(q<=p.B k∨¬ ∃ j,j<p.n/\p.A j=cl/\q<=p.B j)
noncomputable def zdr (p:zH)(n:Nat)(S:Nat->qN)(x cl q:Int):Option Nat:=zfF (zmA p n S x cl q) p.n (zbD p n S cl q)
noncomputable def zgw (p:zH)(n:Nat)(S:Nat->qN)(x cl q:Int):Bool:=(zdr p n S x cl q).isSome
noncomputable def zcK (p:zH)(n:Nat)(S:Nat->qN)(x cl q:Int):Int:=((zdr p n S x cl q).getD 0:Nat)
noncomputable def zdM (p:zH)(n:Nat)(S:Nat->qN)(x cl q:Int):Nat:=if (zdr p n S x cl q).isSome then n+1 else 0
noncomputable def zdN (p:zH)(n:Nat)(S:Nat->qN)(x cl q:Int):Nat->qN:=ZE S n (λ_=>⟨x,zcK p n S x cl q,p.B ((zdr p n S x cl q).getD 0),true⟩)
def zgc (w':World)(base t:Nat)(p:zH)(n:Nat)(S:Nat->qN)(x cl q:Int)(e:Ending):Prop :=
 ∃ v,e=.returned (.tuple #[v,(zcK p n S x cl q),.bool (zgw p n S x cl q)])/\w'.ownsRow base t 4 v (zdM p n S x cl q) (zw (zdN p n S x cl q) (zdM p n S x cl q))
theorem zgx {p:zH}{S:Nat->qN}(h:∀ k,¬ (zmA p n S x cl q/\ZH p.n (zbD p n S cl q) k)):zgc w base t p n S x cl q (.returned (.tuple #[True,(),.bool false])):=by
 have e:zdr p n S x cl q=none:=zkb h;refine⟨.slice none 0 0,?_,?_⟩
 ·unfold zcK zgw;rw[e];rfl
 ·unfold zdM;rw[e];exact⟨rfl,.inl ⟨rfl,rfl⟩⟩
theorem zkc {p:zH}{S:Nat->qN}(a:zmA p n S x cl q)(h:ZH p.n (zbD p n S cl q) k)
  (b:w.ownsRow base t 4 v (n+1) (zw (ZE S n (λ_=>⟨x,(k:Int),p.B k,true⟩)) (n+1))):zgc w base t p n S x cl q (.returned (.tuple #[v,(k:Int),.bool true])):=by
 have e:zdr p n S x cl q=_:=zdL a h;refine⟨v,?_,?_⟩
 ·unfold zcK zgw;rw[e];rfl
 ·unfold zdN zcK zdM;rw[e];exact b
def zmB (p:zH)(n:Nat)(S:Nat->qN)(x cl q:Int):Prop:=PlaceG p n S x/\In cl 1 3/\In q 1 4
def zbN (p:zH)(n:Nat)(S:Nat->qN)(cl q:Int)(k:Nat):Prop:=p.A k=cl/\q<=Za p S n k
noncomputable def zej (p:zH)(n:Nat)(S:Nat->qN)(x cl q:Int):Option Nat:=zfF (zmB p n S x cl q) p.n (zbN p n S cl q)
noncomputable def zgy (p:zH)(n:Nat)(S:Nat->qN)(x cl q:Int):Bool:=(zej p n S x cl q).isSome
noncomputable def zcL (p:zH)(n:Nat)(S:Nat->qN)(x cl q:Int):Int:=((zej p n S x cl q).getD 0:Nat)
noncomputable def zdO (p:zH)(n:Nat)(S:Nat->qN)(x cl q:Int):Nat:=if (zej p n S x cl q).isSome then n+1 else 0
noncomputable def zdP (p:zH)(n:Nat)(S:Nat->qN)(x cl q:Int):Nat->qN:=ZE S n (λ_=>⟨x,zcL p n S x cl q,q,false⟩)
def zgd (w':World)(base t:Nat)(p:zH)(n:Nat)(S:Nat->qN)(x cl q:Int)(e:Ending):Prop :=
 ∃ v,e=.returned (.tuple #[v,(zcL p n S x cl q),.bool (zgy p n S x cl q)])/\w'.ownsRow base t 4 v (zdO p n S x cl q) (zw (zdP p n S x cl q) (zdO p n S x cl q))
theorem zlL {p:zH}{S:Nat->qN}(h:∀ k,¬ (zmB p n S x cl q/\ZH p.n (zbN p n S cl q) k)):zgd w base t p n S x cl q (.returned (.tuple #[True,(),.bool false])):=by
 have e:zej p n S x cl q=none:=zkb h;refine⟨.slice none 0 0,?_,?_⟩
 ·unfold zcL zgy;rw[e];rfl
 ·unfold zdO;rw[e];exact⟨rfl,.inl ⟨rfl,rfl⟩⟩
theorem zkd {p:zH}{S:Nat->qN}(a:zmB p n S x cl q)(h:ZH p.n (zbN p n S cl q) k)
  (b:w.ownsRow base t 4 v (n+1) (zw (ZE S n (λ_=>⟨x,(k:Int),q,false⟩)) (n+1))):zgd w base t p n S x cl q (.returned (.tuple #[v,(k:Int),.bool true])):=by
 have e:zej p n S x cl q=_:=zdL a h;refine⟨v,?_,?_⟩
 ·unfold zcL zgy;rw[e];rfl
 ·unfold zdP zcL zdO;rw[e];exact b
end
section
open Go.RowKit
variable{most x many:Int}{n base t:Nat}{w:World}{v:Value}
def zag (S:Nat->Qe)(j:Nat):Int:=(S j).who
def QN (S:Nat->Qe):Nat->Int
 | 0=>0
 | i+1=>QN S i+(S i).many
def Qx (most:Int)(n:Nat)(S:Nat->Qe):Prop :=
 In most 0 500/\n<=60/\(∀ i,i<n->In (S i).who 1 9999/\¬ Has (zag S) i (S i).who/\In (S i).many 1 20)/\QN S n<=most
theorem zek (S:Nat->Qe)(i:Nat)(h:∀ j,j<i->In (S j).many 1 20):0<=QN S i/\QN S i<=20*i:=by
 induction i with
 | zero=>exact⟨Int.le_refl _,by unfold QN;omega⟩
 | succ i ih =>
  have:=ih (λj hj=>h j (by omega))
  have a:=h i (by omega)
  unfold In at a;unfold QN
  omega
def Ze (S:Nat->Qe)(n:Nat)(x many:Int):Nat->Qe:=zam S n (λ_=>⟨x,many⟩)
def zck (most:Int)(n:Nat)(S:Nat->Qe)(x many:Int):Prop:=Qx most n S/\Qx most (n+1) (Ze S n x many)
open Classical in
noncomputable def zfg (most:Int)(n:Nat)(S:Nat->Qe)(x many:Int):Bool:=decide (zck most n S x many)
noncomputable def zdQ (most:Int)(n:Nat)(S:Nat->Qe)(x many:Int):Nat:=if zfg most n S x many then n+1 else 0
theorem zel {S:Nat->Qe}(h:zck most n S x many):zfg most n S x many=true:=by unfold zfg;simpa using h
theorem zfh {S:Nat->Qe}(h:¬ zck most n S x many):zfg most n S x many=false:=by unfold zfg;simpa using h
def zge (w':World)(base t:Nat)(most:Int)(n:Nat)(S:Nat->Qe)(x many:Int)(e:Ending):Prop :=
 ∃ v,e=.returned (.tuple #[v,.bool (zfg most n S x many)])/\w'.ownsRow base t 2 v (zdQ most n S x many) (zB (Ze S n x many) (zdQ most n S x many))
theorem zlM {S:Nat->Qe}(h:¬ zck most n S x many):zge w base t most n S x many (.returned (.tuple #[True,.bool false])):=by
 refine⟨_,by rw[zfh h],?_⟩
 unfold zdQ;rw[zfh h];exact⟨rfl,.inl ⟨rfl,rfl⟩⟩
theorem zke {S:Nat->Qe}(h:zck most n S x many)
  (a:w.ownsRow base t 2 v (n+1) (zB (Ze S n x many) (n+1))):zge w base t most n S x many (.returned (.tuple #[v,.bool true])):=by
 refine⟨v,by rw[zel h],?_⟩
 unfold zdQ;rw[zel h];exact a
end
section
open Go.RowKit
variable{r i n:Nat}{F:Nat->Int}{x most:Int}
def Z7 {α:Type}(S:Nat->α)(r:Nat)(i:Nat):α:=if i<r then S i else S (i+1)
theorem zay {α:Type}{S:Nat->α}(h:i<r):Z7 S r i=S i:=Jf h
theorem zbt {α:Type}{S:Nat->α}(h:r<=i):Z7 S r i=S (i+1):=Je (by omega)
theorem zlN (h:Has (Z7 F r) i x):Has F (i+1) x:=by
 obtain⟨j,hj,e⟩:=h
 by_cases c:j<r
 ·exact⟨j,by omega,by rw[← e,zay c]⟩
 ·exact⟨j+1,by omega,by rw[← e,zbt (by omega)]⟩
theorem zhS (hi:i<=r)(h:Has (Z7 F r) i x):Has F i x:=by
 obtain⟨j,a,e⟩:=h;exact⟨j,a,by rw[← e,zay (by omega)]⟩
theorem zgz (hr:r<=n)(b:F r≠x):Has (Z7 F r) n x↔Has F (n+1) x:=by
 refine⟨zlN,?_⟩;rintro⟨j,hj,e⟩
 by_cases c:j<r
 ·exact⟨j,by omega,by rw[← e,zay c]⟩
 ·have a:j≠r:=λq=>b (by rw[← q];exact e)
  exact⟨j - 1,by omega,by rw[← e,zbt (by omega),show j - 1+1=j by omega]⟩
theorem ziD (S:Nat->qN)(r:Nat):ZV (Z7 S r)=Z7 (ZV S) r:=by
 funext i
 unfold ZV Z7
 split <;> rfl
theorem ziE (S:Nat->Qe)(r:Nat):zag (Z7 S r)=Z7 (zag S) r:=by
 funext i
 unfold zag Z7
 split <;> rfl
theorem zlO {S S':Nat->qN}(k i:Nat)(h:∀ j,j<i->S' j=S j):zai S' k i=zai S k i:=by
 induction i with
 | zero=>rfl
 | succ i ih =>
  unfold zai;rw[ih (λj hj=>h j (by omega)),h i (by omega)]
theorem usedR_out (S:Nat->qN)(r k i:Nat)(h:r<=i):zai (Z7 S r) k i+(if (S r).cab=(k:Int) then (S r).many else 0)=zai S k (i+1):=by
 induction i with
 | zero =>
  have e:r=0:=by omega
  subst e
  rfl
 | succ i ih =>
  by_cases c:r=i+1
  ·subst c
   rw[zlO k _ (λj b=>zay b)]
   rfl
  ·have a:=ih (by omega)
   rw[zai,zbt (by omega:_)]
   rw[show zai S k _=_+_ from rfl,← a]
   omega
theorem out_rooms {p:zH}{S:Nat->qN}(h:Qr p (n+1) S)(hr:r<=n):Qr p n (Z7 S r):=by
 obtain⟨s,hn,m,q⟩:=h;refine⟨s,by omega,λi hi=>?_,λk t=>?_⟩
 ·by_cases c:i<r
  ·obtain⟨⟨h1,h2,h3,f,g⟩,e⟩:=m i (by omega)
   refine⟨?_,λj o=>?_⟩
   ·unfold OkR0
    rw[zay c,ziD];exact⟨h1,λl=>h2 (zhS (by omega) l),h3,f,g⟩
   ·unfold OkR2
    rw[zay c,zay (by omega)]
    exact e j o
  ·obtain⟨⟨h1,h2,h3,f,g⟩,e⟩:=m (i+1) (by omega)
   refine⟨?_,λj o=>?_⟩
   ·unfold OkR0
    rw[zbt (by omega),ziD]
    exact⟨h1,λl=>h2 (zlN l),h3,f,g⟩
   ·unfold OkR2
    rw[zbt (by omega:r<=i)]
    by_cases d:j<r
    ·rw[zay d];exact e j (by omega)
    ·rw[zbt (by omega)];exact e _ (by omega)
 ·have a:=q k t
  have b:=usedR_out S r k n hr;have c:=(m r (by omega)).1.2.2.2.1
  unfold In at c;unfold Za at a ⊢
  split at b <;> omega
theorem zfi {S S':Nat->Qe}(i:Nat)(h:∀ j,j<i->S' j=S j):QN S' i=QN S i:=by
 induction i with
 | zero=>rfl
 | succ i ih =>
  unfold QN;rw[ih (λj hj=>h j (by omega)),h i (by omega)]
theorem sits_out (S:Nat->Qe)(r i:Nat)(h:r<=i):QN (Z7 S r) i+(S r).many=QN S (i+1):=by
 induction i with
 | zero =>
  have e:r=0:=by omega
  subst e
  rfl
 | succ i ih =>
  by_cases c:r=i+1
  ·subst c
   rw[zfi _ (λj b=>zay b)]
   rfl
  ·have a:=ih (by omega)
   rw[QN,zbt (by omega:_)]
   rw[show QN S _=_+_ from rfl,← a]
   omega
theorem out_seats {S:Nat->Qe}(h:Qx most (n+1) S)(hr:r<=n):Qx most n (Z7 S r):=by
 obtain⟨e,hn,d,hf⟩:=h;refine⟨e,by omega,λi hi=>?_,?_⟩
 ·by_cases c:i<r
  ·obtain⟨h1,h2,h3⟩:=d i (by omega)
   rw[zay c,ziE];exact⟨h1,λa=>h2 (zhS (by omega) a),h3⟩
  ·obtain⟨h1,h2,h3⟩:=d (i+1) (by omega)
   rw[zbt (by omega),ziE]
   exact⟨h1,λa=>h2 (zlN a),h3⟩
 ·have b:=sits_out S r n hr
  have c:=(d r (by omega)).2.2
  unfold In at c
  omega
end
section
open Go.RowKit
variable{n k i:Nat}{F:Nat->Int}
def Qc (S:Nat->Zp)(j:Nat):Int:=(S j).who
def zkf (S:Nat->Zp)(k:Nat):Nat->Int
 | 0=>0
 | i+1=>zkf S k i+(if (S i).ln=(k:Int) then (S i).len else 0)
def QW (p:zH)(S:Nat->Zp)(i:Nat)(k:Nat):Int:=p.A k - zkf S k i
theorem left_0 (p:zH)(S:Nat->Zp)(k:Nat):QW p S 0 k=p.A k:=by unfold QW zkf;omega
theorem zgA (p:zH)(S:Nat->Zp)(i k:Nat)(h:(S i).ln=(k:Int)):QW p S (i+1) k=QW p S i k - (S i).len:=by
 unfold QW;rw[zkf,Jf h];omega
theorem ziF (p:zH)(S:Nat->Zp)(i k:Nat)(h:(S i).ln≠(k:Int)):QW p S (i+1) k=QW p S i k:=by
 unfold QW;rw[zkf,Je h];omega
theorem zlP (S:Nat->Zp)(k i:Nat)(h:∀ j,j<i->In (S j).len 1 2000):0<=zkf S k i/\zkf S k i<=2000*i:=by
 induction i with
 | zero=>exact⟨Int.le_refl _,by unfold zkf;omega⟩
 | succ i ih =>
  have:=ih (λj hj=>h j (by omega))
  have a:=h i (by omega)
  unfold In at a;unfold zkf
  split <;> omega
theorem left_mono (p:zH)(S:Nat->Zp)(k i n:Nat)(a:i<=n)(h:∀ j,j<n->In (S j).len 1 2000):QW p S n k<=QW p S i k:=by
 induction n with
 | zero=>rw[show i=0 by omega];exact Int.le_refl _
 | succ n ih =>
  by_cases e:i=n+1
  ·rw[e];exact Int.le_refl _
  ·have:=ih (by omega) (λj hj=>h j (by omega))
   have b:=h n (by omega)
   unfold In at b
   by_cases c:(S n).ln=(k:Int)
   ·rw[zgA p S n k c];omega
   ·rw[ziF p S n k c];exact this
structure zmC (p:zH)(F:Nat->Int)(s:Zp):Prop where
 who:In s.who 1 9999
 len:In s.len 1 2000
 hei:In s.hei 1 500
 ln:In s.ln 0 ((p.n:Int) - 1)
 high:s.hei<=p.B s.ln.toNat
 room:s.len<=F s.ln.toNat
def zhB (p:zH):Prop:=zaZ p 4 1 5000 100 500
def zfj (p:zH)(n:Nat)(S:Nat->Zp):Prop:=zhB p/\n<=60/\∀ i,i<n->¬ Has (Qc S) i (S i).who/\zmC p (QW p S i) (S i)
def OkS (p:zH)(S:Nat->Zp)(i:Nat):Prop:=In (S i).who 1 9999/\In (S i).ln 0 ((p.n:Int) - 1)/\In (S i).len 1 2000/\In (S i).hei 1 (p.B (S i).ln.toNat)/\¬ Has (Qc S) i (S i).who
def DeckS (p:zH)(n:Nat)(S:Nat->Zp):Prop:=zhB p/\n<=60/\(∀ i,i<n->OkS p S i)/\∀ k,k<p.n->0<=QW p S n k
theorem QO (p:zH)(n:Nat)(S:Nat->Zp):DeckS p n S↔zfj p n S:=by
 constructor
 ·rintro⟨f,q,h,u⟩
  refine⟨f,q,λi l=>?_⟩
  obtain⟨h1,h2,h3,m,s⟩:=h i l;have g:(S i).ln.toNat<p.n:=by unfold In at h2;omega
  have t:=(f.2 _ g).2;have d:(S i).ln=((S i).ln.toNat:Int):=by unfold In at h2;omega
  refine⟨s,h1,h3,⟨m.1,?_⟩,h2,m.2,?_⟩
  ·unfold In at t m;omega
  ·have a:=u _ g
   have b:=left_mono p S (S i).ln.toNat (i+1) n (by omega) (λj v=>(h j v).2.2.1)
   rw[zgA p S i _ d] at b
   omega
 ·rintro⟨f,q,h⟩
  have r:∀ i,i<=n->∀ k,k<p.n->0<=QW p S i k:=by
   intro i
   induction i with
   | zero=>intro _ k o;rw[left_0];have:=(f.2 k o).1;unfold In at this;omega
   | succ i ih =>
    intro l k o;have w:=ih (by omega) k o
    have e:=(h i (by omega)).2
    by_cases c:(S i).ln=(k:Int)
    ·rw[zgA p S i k c]
     have:=e.room;rw[c] at this;simp at this
     omega
    ·rw[ziF p S i k c];exact w
  refine⟨f,q,λi l=>?_,r n (Jr _)⟩
  obtain⟨h1,h2⟩:=h i l;exact⟨h2.who,h2.ln,h2.len,⟨h2.hei.1,h2.high⟩,h1⟩
theorem zfj.lens {p:zH}{S:Nat->Zp}(h:zfj p n S):∀ j,j<n->In (S j).len 1 2000:=λj a=>(h.2.2 j a).2.len
theorem zgB {p:zH}{S:Nat->Zp}(c:zhB p)(hn:n<=60)(e:∀ j,j<n->In (S j).len 1 2000)(d:k<p.n):-120000<=QW p S n k/\QW p S n k<=5000:=by
 have a:=(c.2 k d).1;have b:=zlP S k n e;unfold In at a;unfold QW
 omega
def qy (p:zH)(S:Nat->Zp)(i k:Nat):Int:=if k<p.n then QW p S i k else 0
theorem freeAt_0 (p:zH)(S:Nat->Zp)(k:Nat):qy p S 0 k=zbJ p.n p.A 0 k:=by
 unfold qy zbJ;rw[left_0]
theorem zlQ (p:zH)(S:Nat->Zp)(i m j:Nat)(a:m<p.n)(h:(S i).ln=(m:Int)):(if j=m then qy p S i m - (S i).len else qy p S i j)=qy p S (i+1) j:=by
 unfold qy
 by_cases e:j=m
 ·subst e;rw[Jf rfl,Jf a,Jf a,zgA p S i j h]
 ·rw[Je e,ziF p S i j (λc=>e (by omega))]
theorem zgC {p:zH}{S:Nat->Zp}{s:Zp}:zmC p (qy p S i) s↔zmC p (QW p S i) s:=by
 constructor
 ·rintro⟨a,b,c,d,e,f⟩
  refine⟨a,b,c,d,e,?_⟩;have:qy p S i _=QW p S i s.ln.toNat:=Jf (by unfold In at d;omega)
  rw[← this];exact f
 ·rintro⟨a,b,c,d,e,f⟩
  refine⟨a,b,c,d,e,?_⟩;have:qy p S i _=QW p S i s.ln.toNat:=Jf (by unfold In at d;omega)
  rw[this];exact f
theorem ziG {p:zH}{S:Nat->Zp}(k:Nat)(a:zhB p)(c:n<=60)(b:∀ j,j<n->In (S j).len 1 2000):-120000<=qy p S n k/\qy p S n k<=5000:=by
 unfold qy
 split
 ·exact zgB a c b (by assumption)
 ·omega
def zba (p:zH)(F:Nat->Int)(len hei:Int)(k:Nat):Prop:=k<p.n/\(hei<=p.B k/\len<=F k)/\∀ j,j<k->¬ (hei<=p.B j/\len<=F j)
theorem zex {p:zH}{len hei:Int}{j:Nat}(h1:zba p F len hei k)(h2:zba p F len hei j):k=j:=by
 by_cases c:k<j
 ·exact absurd h1.2.1 (h2.2.2 k c)
 ·by_cases c2:j<k
  ·exact absurd h2.2.1 (h1.2.2 j c2)
  ·omega
def zdc (p:zH)(n:Nat)(S:Nat->Zp)(x len hei:Int)(k:Nat):Prop :=
 zfj p n S/\n≠60/\¬ Has (Qc S) n x/\In x 1 9999/\In len 1 2000/\In hei 1 500/\zba p (QW p S n) len hei k
def Zx (S:Nat->Zp)(r:Nat)(i:Nat):Zp:=if i<r then S i else S (i+1)
end
def Qi (r k:Nat):Nat:=if k<=r then k else k - 1
theorem freedStay (s:Zp)(d:Nat)(q:Int)(w:World)(c:w.cell? (d,2)=some (int i64 q)) :
  Calls prog 277 #[.agg #[s.who,s.ln,s.len,s.hei],.pointer (some (d,0))] w λe w'=>e=.returned (.bool (s.who != q))/\Below w.heap.size w w':=by
 have a:Below _ w (w.alloc (.cells #[s.who,s.ln,s.len,s.hei] 220)):=zk bZ _;have b:=zoP a;have c2:=(a.cell (Ja w _ c)).trans c;go_enter func277,ntmps277;go_upto_region 1 with fail;generalize w.alloc _=V at a b c2 ⊢;have c0:=za b 0 _ rfl;go_wp2;go_ret;exact⟨rfl,a⟩
theorem thoseStay (P:Option Addr)(n c:Nat)(S:Nat->Zp)(q:Int)(r N:Nat)(w:World)(hn:n<=1048576)(hr:r<n)(Y:(S r).who=q)(l:∀ j,j<n->(S j).who=q->j=r)(hx:qw w P n S)(X:w.cell? (N,2)=some (int i64 q)) :
  Calls prog 276 #[(P,n,c),.func (.func 277) #[] #[.pointer (some (N,0))]] w λe w'=>(∃ v,e=.returned v/\w'.ownsRow w.heap.size 220 4 v (n - 1) (zy (Zx S r) (n - 1)))/\Below w.heap.size w w':=by
 obtain⟨j0,ji,J,K,L⟩:=info_parts Tryz.infoStay;have HX:=hI hx;have O:=hI X;have HE:=hI Y;have HO:=hI l;clear hx X Y l;go_enter func276,ntmps276;go_wp2;go_loopw [5,7,10] (λs5 _ i wr=>∃ k,k<=n/\i=int i64 k/\wr.ownsRow w.heap.size 220 4 s5 (Qi r k) (zy (Zx S r) (Qi r k))/\Below w.heap.size w wr) (λ_ _ i _=>n - (intOf i).toNat)
 case atStart=>exact⟨0,Jq _,rfl,World.ownsRow_nil _ _ _ _,bZ⟩
 case round =>
  obtain⟨k,hk,rfl,B,a⟩:=hrel
  by_cases hlt:k<n
  ·obtain⟨b,of,rfl,A,h1,h2,h3⟩:=HX k hlt
   obtain⟨s,x⟩:∃ s,s=S k:=⟨_,rfl⟩;rw[← x] at A h1 h2 h3;have t:=hI x;have C:=Ja w _ A;have c0:=(a.cell C).trans A;have c1:=(a.cell (p:=⟨b,_+1,_⟩) C).trans h1;have c2:=(a.cell (p:=⟨b,_+2,_⟩) C).trans h2;have c3:=(a.cell (p:=⟨b,_+3,_⟩) C).trans h3;have d:=zk a (.cells #[s.who,s.ln,s.len,s.hei] 220);have y:=Jb wr (.cells #[s.who,s.ln,s.len,s.hei] 220);have f:=B.alloc (.cells #[s.who,s.ln,s.len,s.hei] 220);clear A h1 h2 h3 x B;go_upto_region 5 with fail;generalize wr.alloc _=V at d y f ⊢;generalize wr.heap.size=sx at y ⊢;clear c0 c1 c2 c3 a wr;obtain⟨Q,R,T,U⟩:=ce4 y;go_wp2_with fail;clear Q R T U;refine(freedStay s N q V ((d.cell (Ja w _ O)).trans O)).mono ?_;rintro e W ⟨rfl,g⟩;replace d:=ze d g;replace y:=zb y g;replace f:=zo g f;clear g V
   by_cases hkr:k=r
   ·have o:Hid (Qi r (k+1)=Qi r k):=by show _=_;unfold Qi;rw[Je (by omega),Jf (by omega)];omega
    have hq:(s.who != q)=false:=by rw[t.out,hkr,HE.out];simp
    go_wp2;go_roundw
    case rel=>exact⟨k+1,by omega,by go_num,by rw[o.out];exact f,d⟩
    case measure=>simp[intOf];omega
   ·have o:Hid (Qi r (k+1)=Qi r k+1/\(Zx S r) (Qi r k)=s):=by
     rw[t.out];unfold Qi Zx
     by_cases h:k<=r
     ·rw[Jf (by omega),Jf h,Jf (by omega)];exact⟨rfl,rfl⟩
     ·rw[Je (by omega),Je h,Je (by omega)];exact⟨by omega,by rw[show k - 1+1=k by omega]⟩
    have hq:(s.who != q)=true:=by rw[t.out];simp;exact λh=>hkr (HO k hlt h)
    obtain⟨M,G⟩:∃ M,M=Qi r k:=⟨_,rfl⟩;have a0:M<=n:=by rw[G];unfold Qi;split <;> omega
    rw[← G] at f o;clear G;obtain⟨Q,R,T,U⟩:=ce4 y;have z:=f.alloc (.cells #[s.who,s.ln,s.len,s.hei] 220);have D:Hid (∀ j u,([_,_,_,_]:List Value)[j]?=_->(W.alloc (.cells #[s.who,s.ln,s.len,s.hei] 220)).cell? _=_):=Jo (Jb W _);have m:w.heap.size<=(W.alloc (.cells #[s.who,s.ln,s.len,s.hei] 220)).heap.size:=(zk d _).size;go_wp2_with (first|(at_builtin;refine wpList_append_lies _ rfl _ _ 141 rfl _ 220 j0 _ 4 32 underlying141 ji J K L rfl (by decide) _ _ _ (by rfl) z _ 1 1 _ rfl rfl D (by intro u Z;simp at Z;rcases Z with rfl|rfl|rfl|rfl <;> rfl) (by decide) (by unfold maxLen;omega) (by omega) m _ rfl ?_;intro g3 F w3 I H _ _))
    have E:Hid (w3.ownsRow w.heap.size 220 4 (some (g3,0),M+1,F) (Qi r (k+1)) (zy (Zx S r) (Qi r (k+1)))):=by
     show w3.ownsRow _ _ _ _ _ _
     rw[o.out.1,zaw,o.out.2];exact I
    go_roundw
    case rel=>exact⟨_,by omega,by go_num,E,(zk d _).grown H m (λj hj=>(z.lt j hj).1)⟩
    case measure=>simp[intOf];omega
  ·obtain rfl:k=n:=by omega
   have o:Hid (Qi r k=_):=Je (by omega)
   rw[o.out] at B;go_wp2;go_ret;exact⟨⟨_,rfl,B⟩,a⟩
theorem freedRoom (s:qN)(d:Nat)(q:Int)(w:World)(c:w.cell? (d,2)=some (int i64 q)) :
  Calls prog 279 #[.agg #[s.who,s.cab,s.many,s.all],.pointer (some (d,0))] w λe w'=>e=.returned (.bool (s.who != q))/\Below w.heap.size w w':=by
 have a:Below _ w (w.alloc (.cells #[s.who,s.cab,s.many,s.all] 228)):=zk bZ _;have b:=zoP a;have c2:=(a.cell (Ja w _ c)).trans c;go_enter func279,ntmps279;go_upto_region 1 with fail;generalize w.alloc _=V at a b c2 ⊢;have c0:=za b 0 _ rfl;go_wp2;go_ret;exact⟨rfl,a⟩
theorem thoseRoom (P:Option Addr)(n c:Nat)(S:Nat->qN)(q:Int)(r N:Nat)(w:World)(hn:n<=1048576)(hr:r<n)(Y:(S r).who=q)(l:∀ j,j<n->(S j).who=q->j=r)(hx:qp w P n S)(X:w.cell? (N,2)=some (int i64 q)) :
  Calls prog 278 #[(P,n,c),.func (.func 279) #[] #[.pointer (some (N,0))]] w λe w'=>(∃ v,e=.returned v/\w'.ownsRow w.heap.size 228 4 v (n - 1) (zw (Z7 S r) (n - 1)))/\Below w.heap.size w w':=by
 obtain⟨j0,ji,J,K,L⟩:=info_parts Tryz.infoRoom;have HX:=hI hx;have O:=hI X;have HE:=hI Y;have HO:=hI l;clear hx X Y l;go_enter func278,ntmps278;go_wp2;go_loopw [5,7,10] (λs5 _ i wr=>∃ k,k<=n/\i=int i64 k/\wr.ownsRow w.heap.size 228 4 s5 (Qi r k) (zw (Z7 S r) (Qi r k))/\Below w.heap.size w wr) (λ_ _ i _=>n - (intOf i).toNat)
 case atStart=>exact⟨0,Jq _,rfl,World.ownsRow_nil _ _ _ _,bZ⟩
 case round =>
  obtain⟨k,hk,rfl,B,a⟩:=hrel
  by_cases hlt:k<n
  ·obtain⟨b,of,rfl,A,h1,h2,h3⟩:=HX k hlt
   obtain⟨s,x⟩:∃ s,s=S k:=⟨_,rfl⟩;rw[← x] at A h1 h2 h3;have t:=hI x;have C:=Ja w _ A;have c0:=(a.cell C).trans A;have c1:=(a.cell (p:=⟨b,_+1,_⟩) C).trans h1;have c2:=(a.cell (p:=⟨b,_+2,_⟩) C).trans h2;have c3:=(a.cell (p:=⟨b,_+3,_⟩) C).trans h3;have d:=zk a (.cells #[s.who,s.cab,s.many,s.all] 228);have y:=Jb wr (.cells #[s.who,s.cab,s.many,s.all] 228);have f:=B.alloc (.cells #[s.who,s.cab,s.many,s.all] 228);clear A h1 h2 h3 x B;go_upto_region 5 with fail;generalize wr.alloc _=V at d y f ⊢;generalize wr.heap.size=sx at y ⊢;clear c0 c1 c2 c3 a wr;obtain⟨Q,R,T,U⟩:=ce4 y;go_wp2_with fail;clear Q R T U;refine(freedRoom s N q V ((d.cell (Ja w _ O)).trans O)).mono ?_;rintro e W ⟨rfl,g⟩;replace d:=ze d g;replace y:=zb y g;replace f:=zo g f;clear g V
   by_cases hkr:k=r
   ·have o:Hid (Qi r (k+1)=Qi r k):=by show _=_;unfold Qi;rw[Je (by omega),Jf (by omega)];omega
    have hq:(s.who != q)=false:=by rw[t.out,hkr,HE.out];simp
    go_wp2;go_roundw
    case rel=>exact⟨k+1,by omega,by go_num,by rw[o.out];exact f,d⟩
    case measure=>simp[intOf];omega
   ·have o:Hid (Qi r (k+1)=Qi r k+1/\(Z7 S r) (Qi r k)=s):=by
     rw[t.out];unfold Qi Z7
     by_cases h:k<=r
     ·rw[Jf (by omega),Jf h,Jf (by omega)];exact⟨rfl,rfl⟩
     ·rw[Je (by omega),Je h,Je (by omega)];exact⟨by omega,by rw[show k - 1+1=k by omega]⟩
    have hq:(s.who != q)=true:=by rw[t.out];simp;exact λh=>hkr (HO k hlt h)
    obtain⟨M,G⟩:∃ M,M=Qi r k:=⟨_,rfl⟩;have a0:M<=n:=by rw[G];unfold Qi;split <;> omega
    rw[← G] at f o;clear G;obtain⟨Q,R,T,U⟩:=ce4 y;have z:=f.alloc (.cells #[s.who,s.cab,s.many,s.all] 228);have D:Hid (∀ j u,([_,_,_,_]:List Value)[j]?=_->(W.alloc (.cells #[s.who,s.cab,s.many,s.all] 228)).cell? _=_):=Jo (Jb W _);have m:w.heap.size<=(W.alloc (.cells #[s.who,s.cab,s.many,s.all] 228)).heap.size:=(zk d _).size;go_wp2_with (first|(at_builtin;refine wpList_append_lies _ rfl _ _ 142 rfl _ 228 j0 _ 4 32 underlying142 ji J K L rfl (by decide) _ _ _ (by rfl) z _ 1 1 _ rfl rfl D (by intro u Z;simp at Z;rcases Z with rfl|rfl|rfl|rfl <;> rfl) (by decide) (by unfold maxLen;omega) (by omega) m _ rfl ?_;intro g3 F w3 I H _ _))
    have E:Hid (w3.ownsRow w.heap.size 228 4 (some (g3,0),M+1,F) (Qi r (k+1)) (zw (Z7 S r) (Qi r (k+1)))):=by
     show w3.ownsRow _ _ _ _ _ _
     rw[o.out.1,Q6,o.out.2];exact I
    go_roundw
    case rel=>exact⟨_,by omega,by go_num,E,(zk d _).grown H m (λj hj=>(z.lt j hj).1)⟩
    case measure=>simp[intOf];omega
  ·obtain rfl:k=n:=by omega
   have o:Hid (Qi r k=_):=Je (by omega)
   rw[o.out] at B;go_wp2;go_ret;exact⟨⟨_,rfl,B⟩,a⟩
theorem freedSeat (s:Qe)(d:Nat)(q:Int)(w:World)(c:w.cell? (d,2)=some (int i64 q)) :
  Calls prog 281 #[.agg #[s.who,s.many],.pointer (some (d,0))] w λe w'=>e=.returned (.bool (s.who != q))/\Below w.heap.size w w':=by
 have a:Below _ w (w.alloc (.cells #[s.who,s.many] 234)):=zk bZ _;have b:=zoP a;have c2:=(a.cell (Ja w _ c)).trans c;go_enter func281,ntmps281;go_upto_region 1 with fail;generalize w.alloc _=V at a b c2 ⊢;have c0:=za b 0 _ rfl;go_wp2;go_ret;exact⟨rfl,a⟩
theorem thoseSeat (O:Option Addr)(n c:Nat)(S:Nat->Qe)(q:Int)(r L:Nat)(w:World)(hn:n<=1048576)(hr:r<n)(T:(S r).who=q)(m:∀ j,j<n->(S j).who=q->j=r)(X:qE w O n S)(R:w.cell? (L,2)=some (int i64 q)) :
  Calls prog 280 #[(O,n,c),.func (.func 281) #[] #[.pointer (some (L,0))]] w λe w'=>(∃ v,e=.returned v/\w'.ownsRow w.heap.size 234 2 v (n - 1) (zB (Z7 S r) (n - 1)))/\Below w.heap.size w w':=by
 obtain⟨j0,ji,I,J,K⟩:=info_parts Tryz.infoSeat;have HX:=hI X;have N:=hI R;have HE:=hI T;have HO:=hI m;clear X R T m;go_enter func280,ntmps280;go_wp2;go_loopw [5,7,10] (λs5 _ i wr=>∃ k,k<=n/\i=int i64 k/\wr.ownsRow w.heap.size 234 2 s5 (Qi r k) (zB (Z7 S r) (Qi r k))/\Below w.heap.size w wr) (λ_ _ i _=>n - (intOf i).toNat)
 case atStart=>exact⟨0,Jq _,rfl,World.ownsRow_nil _ _ _ _,bZ⟩
 case round =>
  obtain⟨k,hk,rfl,B,a⟩:=hrel
  by_cases hlt:k<n
  ·obtain⟨b,of,rfl,A,h1⟩:=HX k hlt
   obtain⟨s,y⟩:∃ s,s=S k:=⟨_,rfl⟩;rw[← y] at A h1;have x:=hI y;have Y:=Ja w _ A;have c0:=(a.cell Y).trans A;have c1:=(a.cell (p:=⟨b,_+1,_⟩) Y).trans h1;have d:=zk a (.cells #[s.who,s.many] 234);have l:=Jb wr (.cells #[s.who,s.many] 234);have f:=B.alloc (.cells #[s.who,s.many] 234);clear A h1 y B;go_upto_region 5 with fail;generalize wr.alloc _=V at d l f ⊢;generalize wr.heap.size=sx at l ⊢;clear c0 c1 a wr;have P:=za l 0 _ rfl;have Q:=za l 1 _ rfl;go_wp2_with fail;clear P Q;refine(freedSeat s L q V ((d.cell (Ja w _ N)).trans N)).mono ?_;rintro e W ⟨rfl,g⟩;replace d:=ze d g;replace l:=zb l g;replace f:=zo g f;clear g V
   by_cases hkr:k=r
   ·have t:Hid (Qi r (k+1)=Qi r k):=by show _=_;unfold Qi;rw[Je (by omega),Jf (by omega)];omega
    have hq:(s.who != q)=false:=by rw[x.out,hkr,HE.out];simp
    go_wp2;go_roundw
    case rel=>exact⟨k+1,by omega,by go_num,by rw[t.out];exact f,d⟩
    case measure=>simp[intOf];omega
   ·have t:Hid (Qi r (k+1)=Qi r k+1/\(Z7 S r) (Qi r k)=s):=by
     rw[x.out];unfold Qi Z7
     by_cases h:k<=r
     ·rw[Jf (by omega),Jf h,Jf (by omega)];exact⟨rfl,rfl⟩
     ·rw[Je (by omega),Je h,Je (by omega)];exact⟨by omega,by rw[show k - 1+1=k by omega]⟩
    have hq:(s.who != q)=true:=by rw[x.out];simp;exact λh=>hkr (HO k hlt h)
    obtain⟨M,F⟩:∃ M,M=Qi r k:=⟨_,rfl⟩;have a0:M<=n:=by rw[F];unfold Qi;split <;> omega
    rw[← F] at f t;clear F;have P:=za l 0 _ rfl;have Q:=za l 1 _ rfl;have z:=f.alloc (.cells #[s.who,s.many] 234);have C:Hid (∀ j u,([_,_]:List Value)[j]?=_->(W.alloc (.cells #[s.who,s.many] 234)).cell? _=_):=Jo (Jb W _);have o:w.heap.size<=(W.alloc (.cells #[s.who,s.many] 234)).heap.size:=(zk d _).size;go_wp2_with (first|(at_builtin;refine wpList_append_lies _ rfl _ _ 143 rfl _ 234 j0 _ 2 16 underlying143 ji I J K rfl (by decide) _ _ _ (by rfl) z _ 1 1 _ rfl rfl C (by intro u U;simp at U;rcases U with rfl|rfl <;> rfl) (by decide) (by unfold maxLen;omega) (by omega) o _ rfl ?_;intro g3 E Z H G _ _))
    have D:Hid (Z.ownsRow w.heap.size 234 2 (some (g3,0),M+1,E) (Qi r (k+1)) (zB (Z7 S r) (Qi r (k+1)))):=by
     show Z.ownsRow _ _ _ _ _ _
     rw[t.out.1,zax,t.out.2];exact H
    go_roundw
    case rel=>exact⟨_,by omega,by go_num,D,(zk d _).grown G o (λj hj=>(z.lt j hj).1)⟩
    case measure=>simp[intOf];omega
  ·obtain rfl:k=n:=by omega
   have t:Hid (Qi r k=_):=Je (by omega)
   rw[t.out] at B;go_wp2;go_ret;exact⟨⟨_,rfl,B⟩,a⟩
def zaI (len cl:Int)(r:Nat):Bool:=if r=2 then true else if r=0 then decide (0<len) else decide (0<cl)
theorem zfk (pe len hei cl be:Int)(all:Bool)(r:Nat)(w:World)(hr:r<3) :
  Calls prog 164 #[.agg #[pe,len,hei,cl,all,be],(r:Int)] w λe w'=>e=.returned (.bool (zaI len cl r))/\Below w.heap.size w w':=by
 have c:=Jb w (.cells #[pe,len,hei,cl,all,be] 45);have a:=zoS c;have y1:=za c 1 _ rfl;have y3:=za c 3 _ rfl;have h3:r=0∨r=1∨r=2:=by omega
 clear c
 rcases h3 with rfl|rfl|rfl
 ·by_cases h:0<len
  ·have b:Hid (zaI len cl 0=true):=Jd h
   have d:=Jd h;go_enter func164,ntmps164;go_wp2;go_ret;exact⟨by rw[b.out];rfl,a⟩
  ·have b:Hid (zaI len cl 0=false):=Jc h
   have d:=Jc h;go_enter func164,ntmps164;go_wp2;go_ret;exact⟨by rw[b.out];rfl,a⟩
 ·by_cases h:0<cl
  ·have b:Hid (zaI len cl 1=true):=Jd h
   have d:=Jd h;go_enter func164,ntmps164;go_wp2;go_ret;exact⟨by rw[b.out];rfl,a⟩
  ·have b:Hid (zaI len cl 1=false):=Jc h
   have d:=Jc h;go_enter func164,ntmps164;go_wp2;go_ret;exact⟨by rw[b.out];rfl,a⟩
 ·go_enter func164,ntmps164
  go_wp2;go_ret;exact⟨rfl,a⟩
def resL (a b:Bool):List Value:=(if a=true then [int i64 0] else [])++(if b=true then [int i64 1] else [])++[int i64 2]
def carP (p:Qh):Bool:=decide (¬ (p.len=0/\p.hei=0))
def cabP (p:Qh):Bool:=decide (¬ (p.cl=0/\p.all=false/\p.be=0))
theorem resL_le (a b:Bool):(resL a b).length<=3:=by cases a <;> cases b <;> decide
theorem ziH (p:Qh)(w:World) :
  Calls prog 251 #[.agg #[p.pe,p.len,p.hei,p.cl,p.all,p.be]] w λe w'=>(∃ v,e=.returned v/\w'.ownsRow w.heap.size 3 1 v (resL (carP p) (cabP p)).length (resL (carP p) (cabP p)))/\Below w.heap.size w w':=by
 obtain⟨N,O,x,y,z⟩:=info_parts Tryz.infoInt;obtain⟨a,L⟩:∃ a,a=carP p:=⟨_,rfl⟩;obtain⟨b,M⟩:∃ b,b=cabP p:=⟨_,rfl⟩;have S:=hI L;have T:=hI M;rw[← L,← M];clear L M;have f:Below _ w (w.alloc (.cells #[p.pe,p.len,p.hei,p.cl,p.all,p.be] 45)):=zk bZ _;have B:=Jb w (.cells #[p.pe,p.len,p.hei,p.cl,p.all,p.be] 45);go_enter func251,ntmps251;go_wp2_with fail;generalize w.alloc _=V at f B ⊢;refine(zcE _ _ _ _ _ _ V).mono ?_;rintro e K ⟨rfl,h⟩;rw[← S.out];replace f:=ze f h;replace B:=zb B h;clear h V;go_upto_if 5 with fail;go_cut [3] (λP C=>C.ownsRow w.heap.size 3 1 P (if a=true then [Value.int .i64 0] else []).length (if a=true then [Value.int .i64 0] else [])/\C.heap[w.heap.size]?=some (.cells #[p.pe,p.len,p.hei,p.cl,p.all,p.be] 45 (0,0))/\Below w.heap.size w C)
 case first =>
  have d:=f;have U:K.ownsRow w.heap.size 3 1 _ 0 []:=World.ownsRow_nil _ _ _ _
  cases a with
  | false =>
   go_wp2;go_meet;exact⟨World.ownsRow_nil _ _ _ _,B,f⟩
  | true =>
   have i:=U.alloc (.cells #[()] 3);have n:Hid (∀ j u,[_][j]?=_->_):=Jo (cs:=#[()]) (t:=3) (fr:=(0,0)) (Jb K _);have c:w.heap.size<=(K.alloc (.cells #[()] 3)).heap.size:=(zk d _).size;go_wp2_with (first|(at_builtin;refine wpList_append_lies _ rfl _ _ 27 rfl _ 3 N _ 1 8 underlying27 O x y z rfl (by decide) _ 0 [] (by rfl) i _ 1 1 _ rfl rfl n (by intro u s;simp at s;subst s;rfl) (by decide) (by unfold maxLen;omega) (by omega) c _ rfl ?_;intro g E R o l _ _))
   go_meet;exact⟨o,(qJ l).blk (zd B _) (λe=>by cases e),(zk f _).grown l c (λj F=>by cases F)⟩
 case rest =>
 obtain⟨m,D,k⟩:=hcut;obtain⟨A,q⟩:∃ A,A=(if a=true then [Value.int .i64 0] else []):=⟨_,rfl⟩;rw[← q] at m;have I:=hI q;have W:A.length<=1:=by rw[q];cases a <;> decide
 clear q f B;obtain⟨Y,Z,p2,p3,p4,p5⟩:=ce6 D;go_wp2_with fail;clear Y Z p2 p3 p4 p5;refine(Q7 _ _ _ _ _ _ _).mono ?_;rintro e Q ⟨rfl,h⟩;rw[← T.out];replace k:=ze k h;replace m:=zo h m;clear h D;go_upto_if 10 with fail;go_cut [3] (λP C=>C.ownsRow w.heap.size 3 1 P (A++(if b=true then [Value.int .i64 1] else [])).length (A++(if b=true then [Value.int .i64 1] else []))/\Below w.heap.size w C)
 case first =>
  have d:=k
  cases b with
  | false =>
   go_wp2;go_meet;exact⟨by simpa using m,k⟩
  | true =>
   have i:=m.alloc (.cells #[int i64 1] 3);have n:Hid (∀ j u,[_][j]?=_->_):=Jo (cs:=#[int i64 1]) (t:=3) (fr:=(0,0)) (Jb Q _);have c:w.heap.size<=(Q.alloc (.cells #[int i64 1] 3)).heap.size:=(zk d _).size;go_wp2_with (first|(at_builtin;refine wpList_append_lies _ rfl _ _ 27 rfl _ 3 N _ 1 8 underlying27 O x y z rfl (by decide) _ _ A (by rfl) i _ 1 1 _ rfl rfl n.out (by intro u s;simp at s;subst s;rfl) (by decide) (by unfold maxLen;omega) (by omega) c _ rfl ?_;intro g E R o l _ _))
   go_meet;exact⟨by simpa using o,(zk k _).grown l c (λj F=>(i.lt j F).1)⟩
 case rest =>
 clear m k;obtain⟨G,d⟩:=hcut;obtain⟨H,r⟩:∃ H,H=A++(if b=true then [Value.int .i64 1] else []):=⟨_,rfl⟩;rw[← r] at G;have J:Hid (H++[int i64 2]=resL a b):=by show _=_;rw[r,I.out];rfl
 have X:H.length<=2:=by rw[r,List.length_append];cases b <;> simp <;> omega
 clear r;have i:=G.alloc (.cells #[int i64 2] 3);have n:Hid (∀ j u,[_][j]?=_->_):=Jo (cs:=#[int i64 2]) (t:=3) (fr:=(0,0)) (Jb wc _);have c:w.heap.size<=(wc.alloc (.cells #[int i64 2] 3)).heap.size:=(zk d _).size;go_wp2_with (first|(at_builtin;refine wpList_append_lies _ rfl _ _ 27 rfl _ 3 N _ 1 8 underlying27 O x y z rfl (by decide) _ _ H (by rfl) i _ 1 1 _ rfl rfl n (by intro u s;simp at s;subst s;rfl) (by decide) (by unfold maxLen;omega) (by omega) c _ rfl ?_;intro g E R o l _ _))
 go_ret;rw[← J.out];exact⟨⟨_,rfl,by simpa using o⟩,(zk d _).grown l c (λj F=>(i.lt j F).1)⟩
end Go.Proofs.YtmdnjgihooflfaaGreatDoor
